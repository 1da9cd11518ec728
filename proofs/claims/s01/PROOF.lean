import PyProof.Rows.All
import Wide.All
import OpenK.AllK
import Wide.FinOn
import PyProof.EqAt
import PyProof.EqKinds
import PyProof.TupleCall
import KE.BitLaws
import Open.SpecLaws
import KE.OsHead
import KE.OsGo
import Open.Tops
import Kp320Neutral
import PySem.Challenge.RW_inspector_s01_answers
open PySem.W renaming Frag->Ab,findIn->IH,nsIn->HM,emptyDict->MR,keepIn->J8,instObj->J9,mg_of->J_,BT->Ht,callWith_K->QQ,methodCall_KW->Um,plainGet->QR,hasDictIn->Uo,makesIn->Up,isFn->QS,fnOf->QT,lookIn->Uq,plainGet_of->ZN,callWith_K0->ZO,plainOver->ZP,methodObj->ZQ,length_le_weightAllW->j0,takerIn->ZR,codeIn->ZS,cellsFrom_some->j2,kcp_self->j3,handedIn->j4,WRecords->j5,typeIn->j6,WalkOS->j7
open List renaming mem_cons_of_mem->Bb,mem_cons_self->Bw,length_eq_zero_iff->DK,length_map->BP,mem_cons->BQ,length_cons->CD,size_toArray->Br,length_append->CH,nodup_cons->Bx,mem_append_right->EF,map_cons->B7,getElem?_eq_getElem->Gk,getElem?_eq_some_iff->Jg,mem_append->Eb,mem_singleton->Gm,mem_of_getElem?->II,range->Cv,map_append->GB,not_mem_nil->HN,replicate->GC,nodup_nil->GD,mem_range->Gn,mem_map->Fp,length_drop->Jh,mem_of_mem_drop->MS,lookup_cons->LQ,length_take->LR,getD_eq_getElem?_getD->Ts,nodup_append->MT,length_filter_le->QU,foldl_cons->LS,mem_append_left->Lg,filter_cons_of_pos->NY,filter_cons_of_neg->NZ,getElem?_map->J',take_length->KA,append_assoc->Lh,replicate_succ->Na,lookup->Gp,filterMap_cons->Nb,all_eq_true->Li,getElem?_set_self->QV,filter_append->Nc,mem_filter->Lj,length_set->Lk,getElem?_set_ne->QW,take_succ_cons->QX,map_congr_left->QY,length_nil->Nd,find?_cons->Nf,filter_nil->Ng,append_nil->Nh,any_cons->Ll,flatten_cons->QZ,map_map->Lm,isEmpty_iff->Qa,mem_of_mem_take->Ur,set_set->Ni,getElem?_cons_zero->ZT,mem_flatMap->Us,drop_of_length_le->ZU,map_nil->Qb,getElem?_eq_none->ZV,length_dropLast->ZW,filter_sublist->ZX,mem_filterMap->ZY,reverse_cons->ZZ,length_range->Za,eraseIdx_eq_take_drop_succ->j8,eraseIdxIfInBounds_toArray->j9,range_succ->Zb,of_mem_zip->Zc,take_zero->Zd,mem_or_eq_of_mem_set->j_,forIn_nil->Ze,drop_zero->Zf,drop_eq_getElem_cons->j',map_drop->Zg,getElem?_cons_succ->kC,take_of_length_le->kD,length_replicate->kF,length_reverse->kG,length->Zh,flatMap_append->kH,getElem_range->kJ,find?_eq_none->kK,foldl->Zi,filter_congr->kM,getElem_mem->kN,nil_append->kO,forIn_cons->kP,sum_cons->kQ,map_take->kR,map_id->kS
open Nat renaming le_refl->As,le_trans->A6,pow_le_pow_right->DM,lt_of_lt_of_le->Cm,lt_of_le_of_lt->DU,zero_le->BR,one_le_two_pow->Gq,ne_of_lt->Dm,mul_pos->Fq,mul_le_mul->Ji,pow_add->GF,pow_succ->Gr,mul_comm->Gs,lt_irrefl->Io,zero_add->KD,le_of_lt->KG,add_sub_cancel->Qc,ne_of_gt->Ln,eq_of_beq_eq_true->Ut,mul_le_mul_left->Uu,gcd->F6,le_of_succ_le->Uv,le_mul_of_pos_left->Zj,succ_pos->Qe,sub_zero->Qg,sub_self->Qh,mul_ne_zero->Uw,pow_le_pow_left->Zk,mul_add->Qi,pos_of_ne_zero->Zl,lt_succ_of_lt->Zm,le_of_eq->Ux,lt_succ_self->Zn,lt_of_not_le->Zo,two_pow_pos->Zp,not_lt_zero->Zq,mul_one->Uy,le_succ->Uz,div_le_self->Zr,lt_succ_iff_lt_or_eq->kT,mul_assoc->Zs,pow_zero->Zt,lt_trans->Zu,lt_or_ge->Zv,le_of_ble_eq_true->kU,add_zero->Zw,beq->Qj,add_le_add_left->kW,one_lt_two_pow->kX,max_le->Zx,mul_lt_mul''->kY,blt->U0,mul_zero->kZ,gcd_comm->ka,add_comm->kb,log2_lt->kd
open Kp320 renaming House->Aw,ahead->BB,step->Be,set->Cn,say->Cw,played->HP,Call->Fs,may->Ip,State->Lo,mean->Lp,tell->Nj,Desk->Qk,alone->Zy,does->Zz,Ans->Z0
open Bool renaming false_ne_true->DA,noConfusion->Cd,and_eq_true->DV,and_eq_true_iff->LU,eq_iff_iff->Jj,not_eq_true'->Lq,false_and->Ql,or_eq_true->U1,true_and->U2,false_eq_true->Z1,false_or->Z2,or_true->Z3,and_eq_false_iff->ke,and_false->kg,and_true->kh
open Kp318 renaming Plan->Al,size->A7,Watch->DF,step->Co,say->CI,outcomeUp->HQ,fair->Ej,has->F7,waits->Iq,total->Ir,dares->Iu,is->Gu,part->KH,Call->Lr,State->Nk,okW->Ls,tell->Nl,most->Nn,outcome->U3,okB->Np,asSeen->U4,reply->U5,with_->Z4,over->Z5,without->ki,Ans->kj
open PySem.Heap renaming get?_push_of_some->Cy,get?_push_size->Df,lt_size->Bh,size_push->Jk,SameBut->Hu,get?_update_other->kn,get?_update_self->ko,ExtBut->kq
open Option.some renaming inj->Bl,injEq->Z6
open Kp319 renaming say->Aq,okM->A5,Season->Bs,tell->Ce,is->Cf,worthOf->Gv,step->Ek,okB->FF,dare->FJ,setDay->KI,Call->Iv,look->KJ,DAYS->Lu,worth->Nq,State->Nr,four->Nt,without->U6,brought->U7,caught->U8,lookOf->ku,dareOf->kx
open PySem renaming boot_len->Cz,mem_of_lookup->Gw,evalArgs_none->Z7,Within->Z8,call->Z9
open Int renaming toNat_natCast->EJ,natAbs_natCast->Jl,natCast_mul->Qm,natAbs_mul->U9,add_zero->U_,fdiv_eq_ediv_of_nonneg->kz,toNat->U',ofNat_le->Z_,sub_eq_add_neg->k5,natCast_nonneg->k6,natCast_emod->k7,natCast_ediv->k8
open PySem.Value renaming ref->BI,none->EV,type->Lv,int->KL,str->VA,isStrOf->k9,isInt->k_,float->lA,bytes->lC,bool->lD
open PySem.F renaming plainAttrs_list->IJ,slot_dict_keyiterator_next->Tt,slot_dict_itemiterator_next->Qn,type_list_pop->Nu,slot_list_pop->KN,type_list_append->VB,slot_list_append->VC,slot_list_getattribute->Z',type_list_extend->aA,slot_list_extend->Qo,slot_dict_get->aB,slot_dict_items->VD,args_dict_itemiterator_next_1->lF,args_tuple_add_2->lG,entry_dict_itemiterator_next->lH,args_dict_keyiterator_next_1->lI,entry_tuple_add->lJ,args_dict_get_3->lK,entry_dict_keyiterator_next->lL,slot_tuple_add->lM,entry_dict_get->lN,slot_dict_keyiterator_iter->lO,slot_dict_items_iter->lP,args_list_extend_2->lQ,entry_list_extend->lS,args_dict_items_1->lT,entry_dict_items->lU,type_dict_items->lV,plainAttrs_dict->lW,slot_dict_iter->lX,entry_list_pop->lY,slot_int_rmul->lZ
open Rat renaming mul_le_mul_of_nonneg_right->Ov,le_trans->El,mul_le_mul_of_nonneg_left->XQ,div_def->FK,le_of_lt->Gx,mul_nonneg->Iw,le_refl->Hv,zero_mul->Lw,inv_pos->Nv,sub_self->VE,natCast_mul->aE,mul_pos->VF,lt_iff->VG,sub_eq_add_neg->lg,mkRat_eq_div->lh,num_nonneg->lj,mul_comm->lq,den_pos->lr
open List.Sublist renaming refl->IK,cons_cons->lu,map->lx
open Kp317 renaming Season->Em,say->Ec,worth->HR,look->En,tell->FL,less->F8,whole->Hw,red->FN,step->Iy,sub->Hx,lookedUp->Qp,Call->Lx,sum->Nw,add->Ny,leftUp->VH,ifDare->VI,okB->Qq,mul->Qr,caughtUp->aG,Q->Nz,unseen->aH,okN->VJ,ifLook->aJ,doneUp->aK,quiet->aM,idle->aN,dare->aO,div->aP,greater->ly,heavy->lz,mix->l6
open PySem.PassesOwn renaming never->HS
open Or renaming inl->BJ,inr->Eo
open Option renaming some->Gy,map_some->Ly,none->Iz,isSome_iff_exists->l7,map_eq_some_iff->l8,isSome_some->l9,isSome_map->l_,getD_none->mE
open PySem.Builtin.Dict_items renaming ownsTuple->XR,ownedTupleIsFree->mG,ownedTupleFields->mH,pairFromOwner->mJ,newIterator->x_,dictOf->x'
open False renaming elim->Ft
open PySem.Builtin.List renaming listTooLong->Tu,listFitsIndex->yA
open PySem.PyData renaming eqvAll->Jm,eqv->FO,depthAll->Lz,canLayAll0->N0,depth->L0,int->KO,canLay0->VL
open Sum renaming inl->Ck,inr->L5
open PyKp320 renaming shape->I0,answers->Qs,whole->Qt,answers_asked->aQ
open PyProof.Rows renaming callWith_type1->VM,boot_list->VN,boot_sum->mK,isub_int->yB,iadd_int->yC,callWith_builtin1->yD,boot_max->yF,boot_dict->yG,boot_abs->yH
open PyFlat renaming calls->KP,told->Qu,played->aR,call->mN
open Array renaming length_toList->Qv,mk->Hz,getElem?_eq_none->aS,getElem?_eq_some_iff->mO,getElem?_toList->mQ,toList->mT
open PySem.SeqAt renaming shaped->KQ
open PySem.Builtin.Dict renaming showsAll->VO,updateFrom->mU,selfAndRest->yI,pairItems->yJ,noArgs->yK,dictSlotNone->yL,addKeywords->yM
open True renaming intro->I_
open PySem.Builtin.Int renaming intBits->VP
open PySem.NameKind renaming free->N1,cell->aT
open Kp320Neutral renaming step->VQ,callOf->mV,start->yN
open PySem.Challenge renaming pw_inspector_s01_answers->mX,rw_inspector_s01_answers->yO
open PySem.W.Codec renaming encAll->N2,denoteAll->VR,app->Qw,withinAll->mY
open Ne renaming symm->F9
open ForInStep renaming yield->VS
open Prod renaming snd->JA,fst->KR,ext->L6
open PySem.Heap.SameBut renaming update->aU
open PySem.W.WData renaming weightAll->VT,int->mZ
open List.Nodup renaming sublist->aV
open PySem.Builtin renaming bitAnd->VU
open PySem.Obj renaming mapSeq->N3,data_mapFields->ma,mapFields->mf
open Classical renaming byContradiction->mh
open PySem.Str renaming ofString->VW
open PySem.Around renaming under->aW,under_plainId->mj
open PySem.Code renaming isFrame->aX,frames->mn
open PySem.Value.type renaming inj->mq
open List.cons renaming inj->mx
open PySem.Data renaming seq->VX,dict->my
open PySem.Shared renaming TypeIs->mz
open Prod.mk renaming inj->m5
open Kp319.Season.mk renaming injEq->yP
open Kp318.Watch.mk renaming injEq->yQ
open PySem.Heap.IsSliceOf renaming new->yR
open PySem.W.Looks renaming here->yS
open PySem.EqMixed renaming ne_str_int->yT,ne_str_bool->yU,ne_int_str->yV,ne_bool_str->yW,eq_str_int->yX,eq_str_bool->yY,eq_int_str->yZ,eq_bool_str->ya
open PySem.Builtin.Range renaming rangeSize->yc
open PySem.Within renaming cons->yd
open PySem.EqNone renaming ne_str_none->ye,ne_none_str->yf,ne_none_none->yg,ne_none_int->yh,ne_none_bool->yi,ne_int_none->yj,ne_bool_none->yk,eq_str_none->yl,eq_none_str->ym,eq_none_none->yn,eq_none_int->yo,eq_none_bool->yp,eq_int_none->yq,eq_bool_none->yr
open PySem.Heap.DictOf renaming new->yt
open PySem.SeqAt.EqAt renaming str_int->yu,int_str->yw
set_option Elab.async false
noncomputable section
local macro_rules|`(command|def $x:declId $s $v:declVal)=>`(command|noncomputable def $x:declId $s $v:declVal)
theorem AA{α:Sort _}{a:α}:a=a:=rfl
theorem AH{p:Prop} [Decidable p](h:p):decide p=true:=decide_eq_true h
theorem AM{p:Prop} [Decidable p](h:decide p=true):p:=of_decide_eq_true h
theorem AL{p:Prop} [Decidable p](h:¬p):decide p=false:=decide_eq_false h
theorem AB{c:Prop}{h:Decidable c}(n:¬c){α:Sort _}{t e:α}:ite c t e=e:=if_neg n
theorem AG{c:Prop}{h:Decidable c}(n:c){α:Sort _}{t e:α}:ite c t e=t:=if_pos n
set_option linter.all false
set_option maxRecDepth 100000
namespace L2
open PySem PySem.Spec PyProof.Rows
abbrev Key:=Sum Int Str
def MV:Key->Value->Bool
 | .inl k,v=>k_ k v
 | .inr x,v=>k9 x v
def AEU(w:World):Key->Int
 | .inl k=>hashInt k
 | .inr x=>hashStr w x
theorem CJ:∀{k:Key} {v:Value},MV k v=true->(∃i t,k=Ck i/\v=KL i t)\/(∃x t,k=L5 x/\v=VA x t)
 | .inl i,v,h=>by
  obtain⟨t,e⟩:=Value.isInt_shape (k:=i) (v:=v) h;exact .inl ⟨i,t,rfl,e⟩
 | .inr x,v,h=>by
  obtain⟨t,e⟩:=Value.isStrOf_shape (x:=x) (v:=v) h;exact .inr ⟨x,t,rfl,e⟩
theorem gq(i:Int)(t:Tok):MV (.inl i) (.int i t)=true:=by simp[MV,k_]
theorem gr(x:Str)(t:Tok):MV (.inr x) (.str x t)=true:=by simp[MV,k9]
theorem yx(a b:Int):decide ((Ck a:Key)=Ck b)=(a==b):=by
 by_cases e:a=b
 ·subst e;simp
 ·have h:¬(Ck a:Key)=Ck b:=λq=>e (Sum.inl.inj q);rw[AL h];exact(beq_eq_false_iff_ne.mpr e).symm
theorem yy(a b:Str):decide ((L5 a:Key)=L5 b)=decide (a=b):=by
 by_cases e:a=b
 ·subst e;simp
 ·have h:¬(L5 a:Key)=L5 b:=λq=>e (Sum.inr.inj q);rw[AL h,AL e]
theorem yz(a:Int)(b:Str):decide ((Ck a:Key)=L5 b)=false:=AL (λq=>nomatch q)
theorem y_(a:Str)(b:Int):decide ((L5 a:Key)=Ck b)=false:=AL (λq=>nomatch q)
def Bf(prog:Program)(w:World):PySem.KeyKind prog w Key where
 is:=MV
 hash:=AEU w
 inj:=λv a b ha hb=>by
  rcases CJ ha with⟨i,t,rfl,rfl⟩|⟨x,t,rfl,rfl⟩
  ·rcases CJ hb with⟨j,u,rfl,e⟩|⟨y,u,rfl,e⟩
   ·injection e with e1 _;rw[e1]
   ·exact nomatch e
  ·rcases CJ hb with⟨j,u,rfl,e⟩|⟨y,u,rfl,e⟩
   ·exact nomatch e
   ·injection e with e1 _;rw[e1]
 byValue:=λk v h=>by
  rcases CJ h with⟨i,t,rfl,rfl⟩|⟨x,t,rfl,rfl⟩ <;> rfl
 pyHash:=λhv h=>by
  rcases CJ hv with⟨i,t,rfl,rfl⟩|⟨x,t,rfl,rfl⟩
  ·exact wpAny_pyHash_int h
  ·exact wpAny_pyHash_str h
 eqBool:=λhu hv h=>by
  rcases CJ hu with⟨i,t,rfl,rfl⟩|⟨x,t,rfl,rfl⟩
  ·rcases CJ hv with⟨j,u,rfl,rfl⟩|⟨y,u,rfl,rfl⟩
   ·rw[yx] at h;exact wpAny_eqBool_int h
   ·rw[yz] at h;exact yw i t y u _ _ _ _ h
  ·rcases CJ hv with⟨j,u,rfl,rfl⟩|⟨y,u,rfl,rfl⟩
   ·rw[y_] at h;exact yu x t j u _ _ _ _ h
   ·rw[yy] at h;exact wpAny_eqBool_str h
 «strs»:=λk x t v h=>by
  rcases CJ h with⟨i,u,rfl,e⟩|⟨y,u,rfl,e⟩
  ·exact nomatch e
  ·injection e with e1 _
   subst e1;cases v <;> rfl
theorem XS(prog:Program)(w:World)(i:Int)(t:Tok):(Bf prog w).is (.inl i) (.int i t)=true:=gq i t
theorem XT(prog:Program)(w:World)(x:Str)(t:Tok):(Bf prog w).is (.inr x) (.str x t)=true:=gr x t
end L2
namespace L2
open PySem PySem.Spec PyProof.Rows
inductive V where
 |Dg|bl (b:Bool)|int (i:Int)|str (x:Str)|XI (b:Array UInt8)|flt (b:UInt64)|ref (a:Addr)|ty (n:String)
 deriving DecidableEq
def RelV:V->Value->Prop
 | .Dg,u=>u=EV
 | .bl b,u=>u=lD b
 | .int i,u=>∃t,u=KL i t
 | .str x,u=>∃t,u=VA x t
 | .XI b,u=>∃t,u=lC b t
 | .flt b,u=>∃t,u=lA b t
 | .ref a,u=>u=BI a
 | .ty n,u=>u=Lv n
abbrev Vals:List V->List Value->Prop:=Paired RelV
theorem Vals.length{xs:List V}{us:List Value}(r:Vals xs us):xs.length=us.length:=Paired.length r
theorem Vals.get:∀{xs:List V} {us:List Value} {i:Nat} {x:V},Vals xs us->xs[i]? =some x->∃u,us[i]? =some u/\RelV x u
 |_,_,_,_,.nil,e=>by simp at e
 |_,_,0,_,.cons r _,e=>by simp at e;subst e;exact⟨_,AA,r⟩
 |_,_,i+1,x,.cons _ t,e=>by
  obtain⟨u,h1,h2⟩:=Vals.get (i:=i) (x:=x) t (by simpa using e);exact⟨u,by simpa using h1,h2⟩
theorem Vals.set{x:V}{u:Value}(r:RelV x u):∀{xs:List V} {us:List Value} (i:Nat),Vals xs us->Vals (xs.set i x) (us.set i u)
 |_,_,_,.nil=> .nil
 |_,_,0,.cons _ t=> .cons r t
 |_,_,i+1,.cons q t=> .cons q (Vals.set r i t)
theorem Vals.append:∀{xs ys:List V} {us ws:List Value},Vals xs us->Vals ys ws->Vals (xs++ys) (us++ws)
 |_,_,_,_,.nil,s=>s
 |_,_,_,_,.cons r t,s=> .cons r (Vals.append t s)
theorem Vals.take:∀{xs:List V} {us:List Value} (n:Nat),Vals xs us->Vals (xs.take n) (us.take n)
 |_,_,0,_=> .nil
 |_,_,_+1,.nil=> .nil
 |_,_,n+1,.cons r t=> .cons r (Vals.take n t)
theorem Vals.drop:∀{xs:List V} {us:List Value} (n:Nat),Vals xs us->Vals (xs.drop n) (us.drop n)
 |_,_,0,r=>r
 |_,_,_+1,.nil=> .nil
 |_,_,n+1,.cons _ t=>Vals.drop n t
def Jx:Option V->Option Value->Prop
 |some v,some u=>RelV v u
 |none,none=>True
 |_,_=>False
def KV{κ:Type}:List (κ×V)->List (κ×Value)->Prop:=Paired λ(p:κ×V) (q:κ×Value)=>p.1=q.1/\RelV p.2 q.2
def kV:Key->V
 | .inl i=> .int i
 | .inr x=> .str x
inductive HO where
 |lst (xs:List V)
 |tup (xs:List V)
 |dK (AZ:List (Key×V))|dT (AZ:List (List Key×V))
 |set (S:Int->Bool) (n:Nat)
 |ins (C dx:Addr) (fs:List (Str×V))
 |own (x:Addr)
 |xd (fs:List (Str×V))
 |met (f x:Addr)
 |rng (lo hi:Int)
 |DW (o:Obj) (u:HO)
 |zA (ps:Array Value)
 |ext (φ:Heap->Prop)
abbrev Hp:=Addr->Option HO
def upd(H:Hp)(a:Addr)(o:HO):Hp:=λb=>if b=a then some o else H b
theorem AJ{H:Hp}{a:Addr}{o:HO}:upd H a o a=some o:=by unfold upd;rw[AG rfl]
theorem AS{H:Hp}{a b:Addr}{o:HO}(h:b≠a):upd H a o b=H b:=by unfold upd;rw[AB h]
theorem Az{H:Hp}{a:Addr}{o u:HO}:upd (upd H a o) a u=upd H a u:=by
 funext b;unfold upd;split <;> rfl
theorem Ao{H:Hp}{a b:Addr}{o u:HO}(h:H a=some o)(h':H b=some u)(d:o≠u):a≠b:=by
 intro e;subst e;rw[h] at h';exact d (Bl h')
theorem AQ{H:Hp}{a b:Addr}{o:HO}(h:H a=some o)(h':H b=none):a≠b:=by
 intro e;subst e;rw[h] at h';cases h'
section
variable(P:Program)(w:World)
def Cp(H:Hp)(h:Heap)(a:Addr):HO->Prop
 | .lst xs=>xs.length<=sizeLine/\∃(its:List Value) (n:Nat),Vals xs its/\h.get? a=some {cls:= .type "list",data:= .seq its.toArray n}
 | .tup xs=>xs.length<=sizeLine/\∃its:List Value,Vals xs its/\IsTup h a its.toArray
 | .dK AZ=>AZ.length<=sizeLine/\(a==sysModules)=false/\∃vs,KV AZ vs/\h.DictOf (Bf P w) a vs
 | .dT AZ=>AZ.length<=sizeLine/\(a==sysModules)=false/\∃xs:List (List Key×Addr×Value),
   Paired (λ(p:List Key×V) (q:List Key×Addr×Value)=>p.1=q.1/\H q.2.1=some (.tup (p.1.map kV))/\RelV p.2 q.2.2) AZ xs/\
   ∃o es ep,h.get? a=some o/\o.ExactDict/\o.data= .dict es ep/\es.toList=xs.map (entryOfKey (tupleKind (Bf P w)))/\(xs.map (·.1)).Nodup
 | .set S n=>h.SetOf (intKind P w) a S n
 | .ins C dx fs=>H dx=some (.own a)/\fs.length<=1000/\dx≠a/\h.get? a=some (J9 C dx)/\
   ∃mA,h.Ns1 dx mA/\(∀f,Jx (fs.lookup f) (mA f))/\Z8 mA (fs.map (·.1))
 | .own _=>∃o,h.get? a=some o
 | .xd fs=>∃mA,h.Ns1 a mA/\∀f,Jx (fs.lookup f) (mA f)
 | .rng lo hi=>∃t u v,h.get? a=some {cls:= .type "range",data:= .fields #[.int lo t,.int hi u,.int 1 v]}
 | .DW o u=>h.get? a=some o/\Cp H h a u
 | .zA ps=>h.get? a=some {cls:= .none,data:= .fields ps}
 | .met f x=>h.get? a=some (ZQ (.ref f) (.ref x))
 | .ext φ=>φ h/\(∃o,h.get? a=some o)/\∀h1 h2:Heap,φ h1->(∀o,h1.get? a=some o->h2.get? a=some o)->φ h2
def KS(H:Hp)(h:Heap):Prop:=∀a o,H a=some o->Cp P w H h a o
end
section
variable{P:Program}{w:World}{H H':Hp}{h h':Heap}{a:Addr}{o:HO}
theorem Cp.lt(x:Cp P w H h a o):a<h.objs.size:=by
 cases o with
 |lst xs=>obtain⟨_,_,_,_,e⟩:=x;exact Bh e
 |tup xs=>obtain⟨_,_,_,p⟩:=x;exact p.lt
 |dK AZ=>obtain⟨_,_,_,_,o,_,_,e,_⟩:=x;exact Bh e
 |dT AZ=>obtain⟨_,_,_,_,o,_,_,e,_⟩:=x;exact Bh e
 |set S n=>obtain⟨o,_,_,_,e,_⟩:=x;exact Bh e
 |ins C dx fs=>obtain⟨_,_,_,e,_⟩:=x;exact Bh e
 |own y=>obtain⟨_,e⟩:=x;exact Bh e
 |xd fs=>obtain⟨_,⟨_,_,_,e,_⟩,_⟩:=x;exact Bh e
 |rng lo hi=>obtain⟨_,_,_,e⟩:=x;exact Bh e
 |DW ob u=>obtain⟨e,_⟩:=x;exact Bh e
 |zA ps=>exact Bh (show h.get? a=some _ from x)
 |met f y=>exact Bh (show h.get? a=some _ from x)
 |ext φ=>obtain⟨_,⟨_,e⟩,_⟩:=x;exact Bh e
theorem Paired.Jy{α β:Type}{F G:α->β->Prop}:∀{l₁:List α} {l₂:List β},Paired F l₁ l₂->(∀a b,F a b->G a b)->Paired G l₁ l₂
 |_,_,.nil,_=> .nil
 |_,_,.cons r t,f=> .cons (f _ _ r) (Paired.Jy t f)
theorem Cp.VY(x:Cp P w H h a o)(k:∀b u,(b=a\/H b=some (.own a))->h.get? b=some u->h'.get? b=some u)
  (ho:∀b,H b=some (.own a)->H' b=some (.own a)) (ht:∀b xs,H b=some (.tup xs)->H' b=some (.tup xs)):Cp P w H' h' a o:=by
 induction o with
 |lst xs=>obtain⟨z,its,n,r,e⟩:=x;exact⟨z,its,n,r,k _ _ (.inl rfl) e⟩
 |tup xs=>obtain⟨z,its,r,ob,e,c⟩:=x;exact⟨z,its,r,ob,k _ _ (.inl rfl) e,c⟩
 |dK AZ=>obtain⟨z,y,vs,r,ob,es,ep,e,c⟩:=x;exact⟨z,y,vs,r,ob,es,ep,k _ _ (.inl rfl) e,c⟩
 |dT AZ=>
  obtain⟨z,y,xs,r,ob,es,ep,e,c⟩:=x;exact⟨z,y,xs,Paired.Jy r λp q z=>⟨z.1,ht _ _ z.2.1,z.2.2⟩,ob,es,ep,k _ _ (.inl rfl) e,c⟩
 |set S n=>obtain⟨ob,es,ep,t,e,c⟩:=x;exact⟨ob,es,ep,t,k _ _ (.inl rfl) e,c⟩
 |ins C dx fs=>
  obtain⟨d,z,ne,e,mA,⟨od,es,ep,e2,c⟩,r⟩:=x;exact⟨ho _ d,z,ne,k _ _ (.inl rfl) e,mA,⟨od,es,ep,k _ _ (.inr d) e2,c⟩,r⟩
 |own y=>obtain⟨ob,e⟩:=x;exact⟨ob,k _ _ (.inl rfl) e⟩
 |xd fs=>obtain⟨mA,⟨od,es,ep,e,c⟩,r⟩:=x;exact⟨mA,⟨od,es,ep,k _ _ (.inl rfl) e,c⟩,r⟩
 |rng lo hi=>obtain⟨t,u,v,e⟩:=x;exact⟨t,u,v,k _ _ (.inl rfl) e⟩
 |DW ob u ih=>obtain⟨e,q⟩:=x;exact⟨k _ _ (.inl rfl) e,ih q⟩
 |zA ps=>
  have e:h.get? a=some {cls:= .none,data:= .fields ps}:=x;show h'.get? a=some {cls:= .none,data:= .fields ps};exact k a _ (.inl rfl) e
 |met f y=>
  have e:h.get? a=some (ZQ (.ref f) (.ref y)):=x;show h'.get? a=some (ZQ (.ref f) (.ref y));exact k a _ (.inl rfl) e
 |ext φ=>obtain⟨p,⟨o,e⟩,st⟩:=x;exact⟨st _ _ p λo q=>k _ _ (.inl rfl) q,⟨o,k _ _ (.inl rfl) e⟩,st⟩
theorem KS.lt(x:KS P w H h)(e:H a=some o):a<h.objs.size:=(x a o e).lt
theorem KS.fresh(x:KS P w H h)(e:h.objs.size<=a):H a=none:=by
 cases q:H a with
 |none=>rfl
 |some u=>exact absurd (Cm (x.lt q) e) (Io _)
theorem KS.kept(x:KS P w H h)(k:∀b u,h.get? b=some u->h'.get? b=some u):KS P w H h':=λa o e=>
 (x a o e).VY (λb u _ q=>k b u q) (λ_ q=>q) λ_ _ q=>q
theorem KS.laid(x:KS P w H h)(k:∀b u,h.get? b=some u->h'.get? b=some u)(hp:h.objs.size<=a)(new:Cp P w (upd H a o) h' a o):KS P w (upd H a o) h':=λb u e=>by
 have hn:=x.fresh hp;by_cases hb:b=a
 ·subst hb;rw[AJ] at e;cases e;exact new
 ·rw[AS hb] at e;exact(x b u e).VY (λc v _ q=>k c v q) (λc q=>by rw[AS (AQ q hn)];exact q) λc xs q=>by rw[AS (AQ q hn)];exact q
end
def Rd(H:Hp)(a:Addr)(u:HO):Prop:=H a=some u\/∃o,H a=some (.DW o u)
theorem Rd.ok{P:Program}{w:World}{H:Hp}{h:Heap}{a:Addr}{u:HO}(r:Rd H a u)(x:KS P w H h):Cp P w H h a u:=by
 rcases r with r|⟨o,r⟩
 ·exact x a u r
 ·obtain⟨_,q⟩:=x a _ r;exact q
def s_:Option HO->Prop
 |some (.lst _)=>True
 |some (.dK _)=>True
 |some (.dT _)=>True
 |some (.set _ _)=>True
 |some (.ins _ _ _)=>True
 |some (.ext _)=>True
 |_=>False
section
variable{P:Program}{w:World}{H:Hp}{h h':Heap}{x e:Addr}{o':HO}
theorem KS.write(ok:KS P w H h)(mu:s_ (H x))(he:e=x\/H e=some (.own x))(k:∀b u,b≠e->h.get? b=some u->h'.get? b=some u)(heo:∃u,h'.get? e=some u)
  (new:Cp P w (upd H x o') h' x o'):KS P w (upd H x o') h':=λb u q=>by
 have ACN:∀c y,H c=some (.own y)->c≠x:=λc y r z=>by subst z;rw[r] at mu;exact mu
 have AEV:∀c xs,H c=some (.tup xs)->c≠x:=λc xs r z=>by subst z;rw[r] at mu;exact mu
 by_cases hb:b=x
 ·subst hb;rw[AJ] at q;cases q;exact new
 ·rw[AS hb] at q;by_cases zB:b=e
  ·have q':H b=some (.own x):=by
    rcases he with z|z
    ·exact absurd (zB.trans z) hb
    ·rw[zB];exact z
   rw[q] at q';cases q';obtain⟨v,hv⟩:=heo;exact⟨v,by rw[zB];exact hv⟩
  ·refine(ok b u q).VY (λc v hc r=>k c v ?_ r) (λc r=>by rw[AS (ACN c b r)];exact r) λc xs r=>by rw[AS (AEV c xs r)];exact r
   rcases hc with rfl|hc
   ·exact zB
   ·rintro rfl;rcases he with z|z
    ·exact ACN c b hc z
    ·rw[hc] at z;cases z;exact hb rfl
end
structure Un(fs ex:List Addr)(H H':Hp)(h h':Heap):Prop where
 keep:∀b o,h.get? b=some o->H b=none->b∉fs->b∉ex->h'.get? b=some o
 slot:∀b o,h.get? b=some o->H b=none->b∈fs->b∉ex->∃sl,h'.get? b=some {o with slots:=sl}
 free:∀b o,h.get? b=some o->H b=none->b∉ex->H' b=none
 there:∀b o,h.get? b=some o->b∉ex->∃o',h'.get? b=some o'
 VZ:∀b xs,H b=some (.tup xs)->H' b=some (.tup xs)
 Qx:∀b o u,H b=some (.DW o u)->H' b=some (.DW o u)
 Va:∀b ps,H b=some (.zA ps)->∃more,H' b=some (.zA (ps++more))
section
variable{fs wd ex ex':List Addr}{H H1 H2:Hp}{h h1 h2 h':Heap}{a x e:Addr}{o:HO}
theorem Un.any(u:Un fs ex H H1 h h1){b:Addr}{ob:Obj}(q:h.get? b=some ob)(n:H b=none)(hx:b∉ex):∃sl,h1.get? b=some {ob with slots:=sl}:=by
 by_cases hb:b∈fs
 ·exact u.slot b ob q n hb hx
 ·exact⟨ob.slots,u.keep b ob q n hb hx⟩
theorem Un.kept(k:∀b u,h.get? b=some u->h'.get? b=some u):Un fs ex H H h h':=
 ⟨λb ob q _ _ _=>k b ob q,λb ob q _ _ _=>⟨ob.slots,k b ob q⟩,λ_ _ _ n _=>n,λb ob q _=>⟨ob,k b ob q⟩,λ_ _ q=>q,λ_ _ _ q=>q,λ_ ps q=>⟨#[],by rw[q];simp⟩⟩
theorem Un.refl:Un fs ex H H h h:=Un.kept λ_ _ q=>q
theorem Un.laid(k:∀b u,h.get? b=some u->h'.get? b=some u)(hp:h.objs.size<=a)(hn:H a=none):Un fs ex H (upd H a o) h h' where
 keep:=λb u q _ _ _=>k b u q
 slot:=λb u q _ _ _=>⟨u.slots,k b u q⟩
 free:=λb u q n _=>by rw[AS (Dm (Cm (Bh q) hp))];exact n
 there:=λb u q _=>⟨u,k b u q⟩
 VZ:=λb xs q=>by rw[AS (AQ q hn)];exact q
 Qx:=λb u xs q=>by rw[AS (AQ q hn)];exact q
 Va:=λb ps q=>⟨#[],by rw[AS (AQ q hn),q];simp⟩
theorem Un.write(mu:s_ (H x))(he:e=x\/H e=some (.own x))(k:∀b u,b≠e->h.get? b=some u->h'.get? b=some u)(heo:∃u,h'.get? e=some u):Un fs ex H (upd H x o) h h':=by
 have hx:∀b,H b=none->b≠x:=λb n z=>by subst z;rw[n] at mu;exact mu
 have hb:∀b,H b=none->b≠e:=λb n z=>by
  subst z;rcases he with r|r
  ·exact hx b n r
  ·rw[n] at r;cases r
 have hm:∀b u,H b=some u->¬s_ (some u)->b≠x:=λb u q nm z=>by subst z;rw[q] at mu;exact nm mu
 refine⟨λb u q n _ _=>k b u (hb b n) q,λb u q n _ _=>⟨u.slots,k b u (hb b n) q⟩,λb u q n _=>by rw[AS (hx b n)];exact n,λb u q _=> ?_,
  λb xs q=>by rw[AS (hm b _ q λz=>z)];exact q,λb u xs q=>by rw[AS (hm b _ q λz=>z)];exact q,λb ps q=>⟨#[],by rw[AS (hm b _ q λz=>z),q];simp⟩⟩
 by_cases zB:b=e
 ·subst zB;exact heo
 ·exact⟨u,k b u zB q⟩
end
def trk(h:Heap)(H:Hp):List Addr:=(Cv h.objs.size).filter λa=>(H a).isSome
def Vb(h:Heap)(H:Hp):Heap:=PySem.W.hideAll h (trk h H)
theorem gu(h:Heap)(H:Hp):(Vb h H).objs.size=h.objs.size:=PySem.W.hideAll_size _ _
theorem m6{h:Heap}{H:Hp}{b:Addr}{o:Obj}(e:h.get? b=some o)(n:H b=none):(Vb h H).get? b=some o:=
 PySem.W.hideAll_get _ e λhm=>by
  have q:(H b).isSome=true:=(Lj.mp hm).2;rw[n] at q;simp at q
theorem tX{h:Heap}{H:Hp}{b:Addr}{o:Obj}(e:(Vb h H).get? b=some o):h.get? b=some o/\H b=none:=by
 have e':h.get? b=some o:=PySem.W.of_hideAll (trk h H) e;refine⟨e',?_⟩;cases q:H b with
 |none=>rfl
 |some x=>
  have hm:b∈trk h H:=Lj.mpr ⟨Gn.mpr (Bh e'),by simp[q]⟩;have z:(Vb h H).get? b=none:=PySem.W.hideAll_none (trk h H) hm;rw[z] at e;cases e
end L2
namespace L2
open PySem PySem.Spec PyProof.Rows
structure Mod(K:Ab)(mg:Str->Option Value)(base:Heap):Prop where
 zC:K.In base
 glob:base.Ns mainGlobals mg
 blt:∃mb,base.Ns builtinsNs mb/\∀x:Str,x≠"__name__"->mb x=bootBuiltins x
 nolimit:base.NoLimit
structure Cx where
 prog:Program
 w:World
 K:Ab
 mg:Str->Option Value
 base:Heap
 A:Around
 N:List Str
 Tv:Shared
 zE:Hp
 env:Env
 outer:List Env
 stack:List Env
 ex:List Addr
 fn:Str->Bool
 calm:Bool
 pn:List (Addr×Obj)
 xe:Value->Shared->Prop
def m7(l:List Env):List Addr:=l.filterMap (·.frame)
abbrev Cx.fs(X:Cx):List Addr:=m7 X.outer
def zF(sc:Scope)(x:Str):Prop:=sc.names.lookup x=some .local\/sc.names.lookup x=some .cell\/sc.names.lookup x=some .free
def Loc(sc:Scope)(x:Str):Prop:=sc.names.lookup x=some .local\/sc.names.lookup x=some .cell
def Look(env:Env)(h:Heap)(m:Str->Option Value)(x:Str)(u:Value):Prop:=
 (env.kindOf x=some .local/\m x=some u)\/((env.kindOf x=some .cell\/env.kindOf x=some .free)/\∃c,env.cells.lookup x=some c/\h.IsCell c (some u))
structure Cx.Ok(X:Cx):Prop where
 mod:Mod X.K X.mg X.base
 kind:X.env.scope.kind= .function
 glob:X.env.globals=mainGlobals
 blt:X.env.builtins=builtinsNs
 above:X.Tv.heap.objs.size<=X.env.locals
 inj:∀x y c,X.env.cells.lookup x=some c->X.env.cells.lookup y=some c->x=y
 has:∀x,(X.env.kindOf x=some .cell\/X.env.kindOf x=some .free)->∃c,X.env.cells.lookup x=some c
 cab:∀x c,X.fn x=true->X.env.cells.lookup x=some c->X.Tv.heap.objs.size<=c
 hd:X.calm=true->X.A.handled=none
 frames:X.A.frames=some X.stack
 stk:X.stack=X.outer\/(X.stack=X.env::X.outer/\X.env.frame=some X.env.locals)
 exf:∀b∈X.ex,b≠X.env.locals/\∀x c,X.env.cells.lookup x=some c->c≠b
 bs:∀b o,X.base.get? b=some o->X.Tv.heap.get? b=some o/\X.zE b=none
 tY:X.base.objs.size<=X.Tv.heap.objs.size
 m8:∀b o,X.base.get? b=some o->b∉X.ex
 m9:∀b∈X.ex,b∉X.fs
 Ph:X.Tv.heap.FunFrames X.base X.outer
 zG:∀b∈X.fs,X.zE b=none
structure Inv(X:Cx)(pins:List (Addr×Obj))(σ:List (Option V))(H:Hp)(s:Shared):Prop where
 ok:X.Ok
 os:s.os=X.Tv.os
 bare:AllBare s.gens
 base:Un X.fs X.ex X.zE H X.Tv.heap s.heap
 loc:∃m,s.heap.Ns X.env.locals m/\∀(i:Nat) (x:Str) (v:V),X.N[i]? =some x->σ[i]? =some (some v)->zF X.env.scope x->∃u,RelV v u/\Look X.env s.heap m x u
 cell:∀x c,X.env.cells.lookup x=some c->∃v,s.heap.IsCell c v
 free:H X.env.locals=none
 IL:∀x c,X.env.cells.lookup x=some c->H c=none
 pin:∀p∈X.pn++pins,s.heap.get? p.1=some p.2/\H p.1=none/\p.1≠X.env.locals/\p.1∉X.fs/\∀v,p.2.data≠ .cell v
 BS:KS X.prog X.w H s.heap
 len:σ.length=X.N.length
section
variable{X:Cx}{pins:List (Addr×Obj)}{σ:List (Option V)}{H H':Hp}{s:Shared}{h':Heap}
theorem Cx.Ok.AEW(ok:X.Ok){b:Addr}{o:Obj}(e:X.base.get? b=some o):b∉X.fs:=λhb=>by
 have:=(ok.Ph.mem hb).1;rw[e] at this;cases this
theorem Inv.bs(I:Inv X pins σ H s):∀b o,X.base.get? b=some o->s.heap.get? b=some o/\H b=none:=λb o e=>
 ⟨I.base.keep b o (I.ok.bs b o e).1 (I.ok.bs b o e).2 (I.ok.AEW e) (I.ok.m8 b o e),I.base.free b o (I.ok.bs b o e).1 (I.ok.bs b o e).2 (I.ok.m8 b o e)⟩
theorem Inv.bk(I:Inv X pins σ H s):∀b o,X.base.get? b=some o->s.heap.get? b=some o:=λb o e=>(I.bs b o e).1
theorem Inv.mod(I:Inv X pins σ H s):Mod X.K X.mg X.base:=I.ok.mod
theorem Inv.XJ(I:Inv X pins σ H s):X.K.In s.heap:=I.ok.mod.zC.keeps I.bk
theorem Inv.lt(I:Inv X pins σ H s):X.env.locals<s.heap.objs.size:=let⟨_,hn,_⟩:=I.loc;hn.lt
theorem Inv.sz(I:Inv X pins σ H s):X.Tv.heap.objs.size<=s.heap.objs.size:=A6 I.ok.above (KG I.lt)
theorem Inv.AEX(I:Inv X pins σ H s){a:Addr}(h:s.heap.objs.size<=a):a∉X.fs:=λhb=>by
 obtain⟨_,o,ho,_⟩:=I.ok.Ph.mem hb;exact absurd (Cm (Bh ho) (A6 I.sz h)) (Io _)
theorem Inv.zH(I:Inv X pins σ H s):∀x c,X.env.cells.lookup x=some c->c≠X.env.locals:=λx c e z=>by
 obtain⟨v,o,ho,hd⟩:=I.cell x c e;obtain⟨m,⟨o',es,ep,dW,tD,_⟩,_⟩:=I.loc;rw[z,dW] at ho;cases ho;rw[tD] at hd;cases hd
theorem Inv.Ph(I:Inv X pins σ H s):s.heap.FunFrames X.base X.outer:=by
 have all:∀(l:List Env),(∀b∈m7 l,b∈X.fs)->X.Tv.heap.FunFrames X.base l->s.heap.FunFrames X.base l:=by
  intro l;induction l with
  |nil=>intro _ _;trivial
  |cons env r ih=>
   intro hs hl;obtain⟨hk,⟨L,o,hf,hn,ho,hd⟩,hr⟩:=hl;have hL:L∈X.fs:=hs L (by unfold m7;rw[Nb,hf];exact Bw);obtain⟨sl,e⟩:=I.base.slot L o ho (I.ok.zG L hL) hL λz=>I.ok.m9 L z hL;exact⟨hk,⟨L,_,hf,hn,e,hd⟩,ih (λb hb=>hs b (by unfold m7;rw[Nb,hf];exact Bb _ hb)) hr⟩
 exact all X.outer (λ_ hb=>hb) I.ok.Ph
theorem Inv.stack(I:Inv X pins σ H s):s.heap.FunFrames X.base X.stack:=by
 rcases I.ok.stk with e|⟨e,hf⟩
 ·rw[e];exact I.Ph
 ·rw[e];obtain⟨m,hn,_⟩:=I.loc;refine .cons (by rw[I.ok.kind];decide) hf hn ?_ I.Ph;exact Heap.get?_none_of_le (A6 I.ok.tY I.ok.above)
theorem Inv.aY(I:Inv X pins σ H s):∀b∈m7 X.stack,b∈X.env.locals::X.fs:=λb hb=>by
 rcases I.ok.stk with e|⟨e,hf⟩
 ·rw[e] at hb;exact Bb _ hb
 ·rw[e] at hb;unfold m7 at hb;rw[Nb,hf] at hb;exact hb
theorem Inv.dX(I:Inv X pins σ H s):∀b∈m7 X.stack,H b=none:=λb hb=>by
 rcases BQ.mp (I.aY b hb) with e|hb
 ·rw[e];exact I.free
 ·obtain⟨_,o,ho,_⟩:=I.ok.Ph.mem hb;exact I.base.free b o ho (I.ok.zG b hb) λz=>I.ok.m9 b z hb
theorem Inv.step{g':Array GenState}{t':Nat}{d':Drawn}{ch:List Addr}(I:Inv X pins σ H s)
  (N4:∀b∈ch,(b∈X.ex\/X.Tv.heap.objs.size<=b)/\b≠X.env.locals/\(∀x c,X.env.cells.lookup x=some c->c≠b)/\∀p∈X.pn++pins,p.1≠b)
  (keep:∀b o,b≠X.env.locals->b∉X.fs->b∉ch->s.heap.get? b=some o->H b=none->h'.get? b=some o)
  (slot:∀b o,b≠X.env.locals->b∈X.fs->b∉ch->s.heap.get? b=some o->H b=none->∃sl,h'.get? b=some {o with slots:=sl}) (free:∀b o,b∉ch->s.heap.get? b=some o->H b=none->H' b=none)
  (there:∀b o,b∉ch->s.heap.get? b=some o->∃o',h'.get? b=some o')
  (VZ:∀b xs,H b=some (.tup xs)->H' b=some (.tup xs)) (Qx:∀b o u,H b=some (.DW o u)->H' b=some (.DW o u)) (Va:∀b ps,H b=some (.zA ps)->∃more,H' b=some (.zA (ps++more)))
  (ns:∀m,s.heap.Ns X.env.locals m->h'.Ns X.env.locals m) (BS:KS X.prog X.w H' h') (hg:AllBare g'):
  Inv X pins σ H' {s with heap:=h',gens:=g',drawn:=d',toks:=t'}:=by
 have neL:∀b o,X.Tv.heap.get? b=some o->b≠X.env.locals:=λb o e=>Dm (Cm (Bh e) I.ok.above);have neC:∀b o,X.Tv.heap.get? b=some o->b∉X.ex->b∉ch:=λb o e hx hb=>by
  rcases(N4 b hb).1 with z|z
  ·exact hx z
  ·exact absurd (Cm (Bh e) z) (Io _)
 have cellK:∀x c,X.env.cells.lookup x=some c->∀v,s.heap.IsCell c v->h'.IsCell c v:=λx c e v ⟨o,ho,hd⟩=>by
  have nch:c∉ch:=λz=>(N4 c z).2.2.1 x c e rfl;by_cases hc:c∈X.fs
  ·obtain⟨sl,q⟩:=slot c o (I.zH x c e) hc nch ho (I.IL x c e);exact⟨_,q,hd⟩
  ·exact⟨o,keep c o (I.zH x c e) hc nch ho (I.IL x c e),hd⟩
 refine⟨I.ok,I.os,hg,⟨λb o e n hb hx=> ?_,λb o e n hb hx=> ?_,λb o e n hx=> ?_,λb o e hx=> ?_,λb xs e=>VZ b xs (I.base.VZ b xs e),λb o xs e=>Qx b o xs (I.base.Qx b o xs e),λb ps e=> ?_⟩,?_,λx c e=> ?_,?_,λx c e=> ?_,λp hp=> ?_,BS,I.len⟩
 ·exact keep b o (neL b o e) hb (neC b o e hx) (I.base.keep b o e n hb hx) (I.base.free b o e n hx)
 ·obtain⟨sl,e1⟩:=I.base.slot b o e n hb hx;obtain⟨sl',e2⟩:=slot b _ (neL b o e) hb (neC b o e hx) e1 (I.base.free b o e n hx);exact⟨sl',e2⟩
 ·obtain⟨o',e1⟩:=I.base.there b o e hx;exact free b o' (neC b o e hx) e1 (I.base.free b o e n hx)
 ·obtain⟨o',e1⟩:=I.base.there b o e hx;exact there b o' (neC b o e hx) e1
 ·obtain⟨m1,e1⟩:=I.base.Va b ps e;obtain⟨m2,e2⟩:=Va b _ e1;exact⟨m1++m2,by rw[e2,Array.append_assoc]⟩
 ·obtain⟨m,hn,hl⟩:=I.loc;refine⟨m,ns m hn,λi x v e1 e2 e3=> ?_⟩;obtain⟨u,r,l⟩:=hl i x v e1 e2 e3;refine⟨u,r,?_⟩;rcases l with l|⟨k,c,e,z⟩
  ·exact .inl l
  ·exact .inr ⟨k,c,e,cellK x c e _ z⟩
 ·obtain⟨v,z⟩:=I.cell x c e;exact⟨v,cellK x c e v z⟩
 ·obtain⟨m,⟨o,_,_,ho,_⟩,_⟩:=I.loc;exact free _ o (λz=>(N4 _ z).2.1 rfl) ho I.free
 ·obtain⟨v,o,ho,hd⟩:=I.cell x c e;exact free c o (λz=>(N4 c z).2.2.1 x c e rfl) ho (I.IL x c e)
 ·obtain⟨e,n,ne,nf,d⟩:=I.pin p hp;have nch:p.1∉ch:=λz=>(N4 p.1 z).2.2.2 p hp rfl;exact⟨keep p.1 p.2 ne nf nch e n,free p.1 p.2 nch e n,ne,nf,d⟩
theorem Inv.un{t':Nat}(I:Inv X pins σ H s)(u:Un X.fs [] H H' s.heap h')(BS:KS X.prog X.w H' h'):Inv X pins σ H' {s with heap:=h',toks:=t'}:=by
 obtain⟨m,⟨o,es,ep,ho,r⟩,_⟩:=id I.loc;obtain⟨sl,hL⟩:=u.any ho I.free (by simp);exact I.step (g':=s.gens) (d':=s.drawn) (ch:= []) (λ_ z=>nomatch z) (λb o _ hb _ e n=>u.keep b o e n hb (by simp)) (λb o _ hb _ e n=>u.slot b o e n hb (by simp)) (λb o _ e n=>u.free b o e n (by simp)) (λb o _ e=>u.there b o e (by simp)) u.VZ u.Qx u.Va (λm' hm=>by
  obtain⟨o',Tw,dY,dW,r'⟩:=hm;rw[ho] at dW;cases dW;exact⟨_,Tw,dY,hL,r'⟩) BS I.bare
theorem Inv.call{g':Array GenState}{t':Nat}{d':Drawn}{ch:List Addr}(I:Inv X pins σ H s)(u:Un (m7 X.stack) ch H H' s.heap h')(BS:KS X.prog X.w H' h')(hg:AllBare g')
  (N4:∀b∈ch,(b∈X.ex\/X.Tv.heap.objs.size<=b)/\b≠X.env.locals/\(∀x c,X.env.cells.lookup x=some c->c≠b)/\∀p∈X.pn++pins,p.1≠b):
  Inv X pins σ H' {s with heap:=h',gens:=g',drawn:=d',toks:=t'}:=by
 obtain⟨m,⟨o,es,ep,ho,r⟩,_⟩:=id I.loc;obtain⟨sl,hL⟩:=u.any ho I.free λz=>(N4 _ z).2.1 rfl;exact I.step (ch:=ch) N4 (λb o hL hb hc e n=>u.keep b o e n (λz=>(BQ.mp (I.aY b z)).elim hL hb) hc) (λb o _ _ hc e n=>u.any e n hc) (λb o hc e n=>u.free b o e n hc) (λb o hc e=>u.there b o e hc) u.VZ u.Qx u.Va (λm' hm=>by
  obtain⟨o',Tw,dY,dW,r'⟩:=hm;rw[ho] at dW;cases dW;exact⟨_,Tw,dY,hL,r'⟩) BS hg
theorem Inv.turned{t':Nat}{it:Addr}(I:Inv X pins σ H s)(k:∀b o,b≠it->s.heap.get? b=some o->h'.get? b=some o)(hn:H it=none)(hL:it≠X.env.locals)
  (h1:it∈X.ex\/X.Tv.heap.objs.size<=it) (h2:∀x c,X.env.cells.lookup x=some c->c≠it) (h3:∀p∈X.pn++pins,p.1≠it):Inv X pins σ H {s with heap:=h',toks:=t'}:=by
 have nit:∀b u,H b=some u->b≠it:=λb u e z=>by rw[z,hn] at e;cases e
 refine I.step (g':=s.gens) (d':=s.drawn) (ch:= [it]) (λb hb=> ?_) (λb o _ _ hc e _=>k b o (λz=>hc (by simp[z])) e) (λb o _ _ hc e _=>⟨o.slots,k b o (λz=>hc (by simp[z])) e⟩) (λ_ _ _ _ n=>n)
  (λb o hc e=>⟨o,k b o (λz=>hc (by simp[z])) e⟩) (λ_ _ e=>e) (λ_ _ _ e=>e) (λb ps e=>⟨#[],by rw[e];simp⟩) (λm hm=> ?_) (λb u e=> ?_) I.bare
 ·have e:b=it:=by simpa using hb
  subst e;exact⟨h1,hL,h2,h3⟩
 ·obtain⟨o,es,ep,ho,r⟩:=hm;exact⟨o,es,ep,k _ o (F9 hL) ho,r⟩
 ·refine(I.BS b u e).VY (λc v hc q=>k c v ?_ q) (λ_ q=>q) λ_ _ q=>q;rcases hc with z|z
  ·rw[z];exact nit b u e
  ·exact nit c _ z
theorem Inv.tok(I:Inv X pins σ H s)(t:Nat):Inv X pins σ H {s with toks:=t}:=I.un (h':=s.heap) (t':=t) Un.refl I.BS
theorem Inv.kept{t':Nat}(I:Inv X pins σ H s)(k:∀b u,s.heap.get? b=some u->h'.get? b=some u):Inv X pins σ H {s with heap:=h',toks:=t'}:=I.un (Un.kept k) (I.BS.kept k)
theorem Inv.laid{a:Addr}{o:HO}{t':Nat}(I:Inv X pins σ H s)(k:∀b u,s.heap.get? b=some u->h'.get? b=some u)(hp:s.heap.objs.size<=a)(new:Cp X.prog X.w (upd H a o) h' a o):
  Inv X pins σ (upd H a o) {s with heap:=h',toks:=t'}:=I.un (Un.laid k hp (I.BS.fresh hp)) (I.BS.laid k hp new)
theorem Inv.write{x e:Addr}{o:HO}{t':Nat}(I:Inv X pins σ H s)(mu:s_ (H x))(he:e=x\/H e=some (.own x))(k:∀b u,b≠e->s.heap.get? b=some u->h'.get? b=some u)(heo:∃u,h'.get? e=some u)
  (new:Cp X.prog X.w (upd H x o) h' x o):Inv X pins σ (upd H x o) {s with heap:=h',toks:=t'}:=I.un (Un.write mu he k heo) (I.BS.write mu he k heo new)
theorem Inv.weak{σ':List (Option V)}(I:Inv X pins σ H s)(hl:σ'.length=σ.length)(w:∀(i:Nat) v,σ'[i]? =some (some v)->σ[i]? =some (some v)):Inv X pins σ' H s:=
 ⟨I.ok,I.os,I.bare,I.base,let⟨m,hn,ZG⟩:=I.loc;⟨m,hn,λi x v e1 e2 e3=>ZG i x v e1 (w i v e2) e3⟩,I.cell,I.free,I.IL,I.pin,I.BS,hl.trans I.len⟩
theorem Inv.dZ{we:List (Addr×Obj)}(I:Inv X pins σ H s)(h:∀p∈we,s.heap.get? p.1=some p.2/\H p.1=none/\p.1≠X.env.locals/\p.1∉X.fs/\∀v,p.2.data≠ .cell v):Inv X we σ H s:=
 ⟨I.ok,I.os,I.bare,I.base,I.loc,I.cell,I.free,I.IL,λp hp=>(Eb.mp hp).elim (λz=>I.pin p (Lg _ z)) (h p),I.BS,I.len⟩
theorem Qy{N:List Str}(hN:N.Nodup){i j:Nat}{x:Str}(a:N[i]? =some x)(b:N[j]? =some x):i=j:=by
 obtain⟨h1,e1⟩:=Jg.mp a;obtain⟨h2,e2⟩:=Jg.mp b;exact(List.getElem_inj hN).mp (e1.trans e2.symm)
theorem Tx{M:Model}{A:Around}{E:Value->Shared->Prop}{i:Nat}{x:Str}{v:V}{u:Value}{Q:Unit->Shared->Prop}(I:Inv X pins σ H s)(hN:X.N.Nodup)(hi:X.N[i]? =some x)(hx:Loc X.env.scope x)(r:RelV v u)
  (h:∀s',Inv X pins (σ.set i (some v)) H s'->(∃a,Hu a s.heap s'.heap/\(a=X.env.locals\/X.env.cells.lookup x=some a))->Q () s') (hf:X.fn x=true\/X.env.scope.names.lookup x=some .local:=by first|exact .inl rfl|exact .inr rfl|assumption):wpAny M A (storeName X.env x u) Q E s:=by
 obtain⟨m,hn,hl⟩:=id I.loc;have AEY:(X.env.scope.kind== .class ||(X.env.scope.kind== .module && X.env.locals !=X.env.globals))=false:=by rw[I.ok.kind];rfl
 have hiσ:i<σ.length:=by rw[I.len];exact(Jg.mp hi).1
 have zH:=I.zH;have tracked:∀{a:Addr} {h':Heap},(∃o,s.heap.get? a=some o/\H a=none)->Hu a s.heap h'->KS X.prog X.w H h':=λ{a h'} ha hs b ob e=>by
  obtain⟨_,_,Tz⟩:=ha;refine(I.BS b ob e).VY (λc w' hc q=>(hs.2 c ?_).trans q) (λ_ q=>q) λ_ _ q=>q;rintro rfl;rcases hc with rfl|hc
  ·rw[Tz] at e;cases e
  ·rw[Tz] at hc;cases hc
 rcases hx with hk|hk
 ·refine wpAny_storeName_local hk hn (λh' hn' hs=> ?_) AEY;obtain⟨oL,_,_,hoL,_⟩:=id hn;refine h _ ⟨I.ok,I.os,I.bare,⟨λb o e n hb hx=> ?_,λb o e n hb hx=> ?_,I.base.free,λb o e hx=> ?_,I.base.VZ,I.base.Qx,I.base.Va⟩,⟨_,hn',λj y v' e1 e2 e3=> ?_⟩,λy c e=> ?_,I.free,I.IL,λp hp=> ?_,tracked ⟨oL,hoL,I.free⟩ hs,by simpa using I.len⟩ ⟨_,hs,.inl rfl⟩
  ·exact(hs.2 b (Dm (Cm (Bh e) I.ok.above))).trans (I.base.keep b o e n hb hx)
  ·obtain⟨sl,e1⟩:=I.base.slot b o e n hb hx;exact⟨sl,(hs.2 b (Dm (Cm (Bh e) I.ok.above))).trans e1⟩
  ·obtain⟨o',e1⟩:=I.base.there b o e hx;exact⟨o',(hs.2 b (Dm (Cm (Bh e) I.ok.above))).trans e1⟩
  ·by_cases hj:j=i
   ·subst hj;rw[hi] at e1;cases e1;rw[QV hiσ] at e2;cases e2;exact⟨u,r,.inl ⟨hk,by simp⟩⟩
   ·rw[QW (F9 hj)] at e2;obtain⟨u',r',q⟩:=hl j y v' e1 e2 e3;refine⟨u',r',?_⟩;rcases q with⟨k,e⟩|⟨k,c,e,z⟩
    ·refine .inl ⟨k,?_⟩;have:y≠x:=λe=>hj (Qy hN e1 (e▸hi));simp[this,e]
    ·exact .inr ⟨k,c,e,z.sameBut hs (zH y c e)⟩
  ·obtain⟨w',z⟩:=I.cell y c e;exact⟨w',z.sameBut hs (zH y c e)⟩
  ·obtain⟨e,n,ne,nf,d⟩:=I.pin p hp;exact⟨(hs.2 p.1 ne).trans e,n,ne,nf,d⟩
 ·have hfn:X.fn x=true:=by
   rcases hf with z|z
   ·exact z
   ·rw[z] at hk;cases hk
  obtain⟨c,hc⟩:=I.ok.has x (.inl hk);obtain⟨w',z⟩:=I.cell x c hc;refine wpAny_storeName_cell I.ok.kind hk hc z (λh' hc' hs=> ?_);obtain⟨oc,hoc,AEZ⟩:=id z;refine h {s with heap:=h'} ⟨I.ok,I.os,I.bare,⟨λb o e n hb hx=> ?_,λb o e n hb hx=> ?_,I.base.free,λb o e hx=> ?_,I.base.VZ,I.base.Qx,I.base.Va⟩,⟨m,hn.sameBut hs (F9 (zH x c hc)),λj y v' e1 e2 e3=> ?_⟩,λy c' e=> ?_,I.free,I.IL,λp hp=> ?_,tracked ⟨oc,hoc,I.IL x c hc⟩ hs,by simpa using I.len⟩ ⟨c,hs,.inr hc⟩
  ·exact(hs.2 b (Dm (Cm (Bh e) (I.ok.cab x c hfn hc)))).trans (I.base.keep b o e n hb hx)
  ·obtain⟨sl,e1⟩:=I.base.slot b o e n hb hx;exact⟨sl,(hs.2 b (Dm (Cm (Bh e) (I.ok.cab x c hfn hc)))).trans e1⟩
  ·obtain⟨o',e1⟩:=I.base.there b o e hx;exact⟨o',(hs.2 b (Dm (Cm (Bh e) (I.ok.cab x c hfn hc)))).trans e1⟩
  ·by_cases hj:j=i
   ·subst hj;rw[hi] at e1;cases e1;rw[QV hiσ] at e2;cases e2;exact⟨u,r,.inr ⟨.inl hk,c,hc,hc'⟩⟩
   ·rw[QW (F9 hj)] at e2;obtain⟨u',r',q⟩:=hl j y v' e1 e2 e3;refine⟨u',r',?_⟩;rcases q with q|⟨k,c',e,z'⟩
    ·exact .inl q
    ·refine .inr ⟨k,c',e,z'.sameBut hs ?_⟩;rintro rfl;exact hj (Qy hN e1 (I.ok.inj _ _ _ e hc▸hi))
  ·by_cases hcc:c'=c
   ·subst hcc;exact⟨_,hc'⟩
   ·obtain⟨w2,z2⟩:=I.cell y c' e;exact⟨w2,z2.sameBut hs hcc⟩
  ·obtain⟨e,n,ne,nf,d⟩:=I.pin p hp;refine⟨(hs.2 p.1 ?_).trans e,n,ne,nf,d⟩;intro q;rw[q,hoc] at e;have q':oc=p.2:=Bl e;exact d w' (by rw[←q'];exact AEZ)
theorem Qz{M:Model}{A:Around}{E:Value->Shared->Prop}{i:Nat}{x:Str}{v:V}{u:Value}{Q:Unit->Shared->Prop}(I:Inv X pins σ H s)(hN:X.N.Nodup)(hi:X.N[i]? =some x)(hx:Loc X.env.scope x)(r:RelV v u)
  (h:∀s',Inv X pins (σ.set i (some v)) H s'->Q () s') (hf:X.fn x=true\/X.env.scope.names.lookup x=some .local:=by first|exact .inl rfl|exact .inr rfl|assumption):wpAny M A (storeName X.env x u) Q E s:=
 Tx I hN hi hx r (λs' I' _=>h s' I') hf
theorem Inv.ACO{s':Shared}{ch:List Addr}(I:Inv X pins σ H s)(ho:s'.os=s.os)(u:Un (m7 X.stack) ch H H' s.heap s'.heap)(BS:KS X.prog X.w H' s'.heap)(hg:AllBare s'.gens)
  (N4:∀b∈ch,(b∈X.ex\/X.Tv.heap.objs.size<=b)/\b≠X.env.locals/\(∀x c,X.env.cells.lookup x=some c->c≠b)/\∀p∈X.pn++pins,p.1≠b):Inv X pins σ H' s':=by
 obtain⟨h',g',d',t',o'⟩:=s';have e:o'=s.os:=ho;subst e;exact I.call (g':=g') (t':=t') (d':=d') u BS hg N4
end
abbrev XK:=Value->Option Addr->Hp->Prop
abbrev St:=List (Option V)
abbrev VK:=V->Hp->Prop
abbrev TE:=St->Hp->VK->Prop
abbrev TT:=St->Hp->(Bool->Hp->Prop)->Prop
abbrev TA:=St->Hp->(List V->Hp->Prop)->Prop
structure Ends where
 nx:St->Hp->Prop
 rt:VK
 bk:St->Hp->Prop:=λ_ _=>False
 ct:St->Hp->Prop:=λ_ _=>False
abbrev TS:=Ends->St->Hp->Prop
inductive EP(X:Cx)(pins:List (Addr×Obj))(σ:St)(Q:VK)(u:Value)(s':Shared):Prop
 |mk (v H':_):Inv X pins σ H' s'->RelV v u->Q v H'->EP X pins σ Q u s'
def TP(X:Cx)(pins:List (Addr×Obj))(σ:St)(Q:Bool->Hp->Prop)(b:Bool)(s':Shared):Prop:=∃H',Inv X pins σ H' s'/\Q b H'
inductive AP(X:Cx)(pins:List (Addr×Obj))(σ:St)(Q:List V->Hp->Prop)(us:List Value)(s':Shared):Prop
 |mk (vs H':_):Inv X pins σ H' s'->Vals vs us->Q vs H'->AP X pins σ Q us s'
def SP(X:Cx)(pins:List (Addr×Obj))(D:Ends)(f:Flow)(s':Shared):Prop:=
 match f with
 | .next=>∃σ' H',Inv X pins σ' H' s'/\D.nx σ' H'
 | .brk=>∃σ' H',Inv X pins σ' H' s'/\D.bk σ' H'
 | .cont=>∃σ' H',Inv X pins σ' H' s'/\D.ct σ' H'
 | .ret u=>∃v σ' H',Inv X pins σ' H' s'/\RelV v u/\D.rt v H'
def PE(X:Cx)(e:Expr)(t:TE):Prop:=
 ∀(pins:List (Addr×Obj)) (s:Shared) (σ:St) (H:Hp) (Q:VK),Inv X pins σ H s->t σ H Q->wpAny (model X.prog X.w) X.A (eval e X.env) (EP X pins σ Q) X.xe s
def PT(X:Cx)(e:Expr)(t:TT):Prop:=
 ∀(pins:List (Addr×Obj)) (s:Shared) (σ:St) (H:Hp) (Q:Bool->Hp->Prop),Inv X pins σ H s->t σ H Q->wpAny (model X.prog X.w) X.A (isTrue e X.env (eval e X.env)) (TP X pins σ Q) X.xe s
def PW(X:Cx)(e:Expr)(t:TT):Prop:=
 ∀(whole:Sem Value) (pins:List (Addr×Obj)) (s:Shared) (σ:St) (H:Hp) (Q:Bool->Hp->Prop),Inv X pins σ H s->t σ H Q->wpAny (model X.prog X.w) X.A (isTrue e X.env whole) (TP X pins σ Q) X.xe s
theorem PW.pt{X:Cx}{e:Expr}{t:TT}(h:PW X e t):PT X e t:=h _
def PA(X:Cx)(es:List Expr)(t:TA):Prop:=
 ∀(pos:Pos) (pins:List (Addr×Obj)) (s:Shared) (σ:St) (H:Hp) (Q:List V->Hp->Prop),Inv X pins σ H s->t σ H Q->wpAny (model X.prog X.w) X.A (spliced (backTo pos (starEach es X.env))) (AP X pins σ Q) X.xe s
def PS(X:Cx)(st:Stmt)(t:TS):Prop:=
 ∀(pins:List (Addr×Obj)) (s:Shared) (σ:St) (H:Hp) (D:Ends),Inv X pins σ H s->t D σ H->wpAny (model X.prog X.w) X.A (exec st X.env) (SP X pins D) X.xe s
def XU(X:Cx)(st:List Stmt)(t:TS):Prop:=
 ∀(pins:List (Addr×Obj)) (s:Shared) (σ:St) (H:Hp) (D:Ends),Inv X pins σ H s->t D σ H->wpAny (model X.prog X.w) X.A (execs st X.env) (SP X pins D) X.xe s
theorem Bt{α:Type}{t:Sem α}{Q Q':α->Shared->Prop}{M:Model}{A:Around}{E:Value->Shared->Prop}{s:Shared}(h:wpAny M A t Q E s)(hQ:∀a s,Q a s->Q' a s):wpAny M A t Q' E s:=wpAny_mono h hQ λ_ _ x=>x
end L2
namespace L2
open PySem PySem.Spec PyProof.Rows
section
variable{X:Cx}
inductive Cc(i:Nat):TE
 |mk (v:_):σ[i]? =some (some v)->Q v H->Cc i σ H Q
def tC(v:V):TE:=λ_ H Q=>Q v H
theorem m_{i:Nat}{x:Str}{pos:Pos}(hN:X.N[i]? =some x)(hv:zF X.env.scope x)(hd:(x==("__debug__":Str))=false:=by decide)(jn:(x==("__classdict__":Str))=false:=by decide):PE X (.Name x pos) (Cc i):=by
 intro pins s σ H Q I h;obtain⟨v,e,h⟩:=h;obtain⟨m,hn,hl⟩:=I.loc;obtain⟨u,r,l⟩:=hl i x v hN e hv;have fin:EP X pins σ Q u s:=⟨v,H,I,r,h⟩;rcases l with⟨hk,hm⟩|⟨hk,c,hc,de⟩
 ·exact wpAny_Name (wpAny_loadName_local I.ok.kind hk hn hm fin) hd
 ·rcases hk with hk|hk
  ·exact wpAny_Name (wpAny_loadName_cell I.ok.kind hk hc de fin) hd
  ·exact wpAny_Name (wpAny_loadName_free I.ok.kind hk hc de fin jn) hd
theorem AU{i j pos}:PE X (.Constant (.int i) j pos) (tC (.int i)):=λ_ _ _ H _ I h=>wpAny_Constant_int ⟨.int i,H,I.tok _,⟨_,rfl⟩,h⟩
theorem ACP{b j pos}:PE X (.Constant (.bool b) j pos) (tC (.bl b)):=λ_ _ _ H _ I h=>Constant_bool ⟨.bl b,H,I,rfl,h⟩
theorem Vc{j pos}:PE X (.Constant .none j pos) (tC .Dg):=λ_ _ _ H _ I h=>Constant_none ⟨.Dg,H,I,rfl,h⟩
def Gl(X:Cx)(x:Str):Prop:=X.env.kindOf x=some .globalImplicit
theorem P0{E:Value->Shared->Prop}{pins:List (Addr×Obj)}{s:Shared}{σ:St}{H:Hp}{x:Str}{u:Value}{pos:Pos}{Q:Value->Shared->Prop}(I:Inv X pins σ H s)(hg:Gl X x)(hm:X.mg x=some u)(h:Q u s)
  (hd:(x==("__debug__":Str))=false:=by decide):wpAny (model X.prog X.w) X.A (eval (.Name x pos) X.env) Q E s:=
 Calls.Name_function_global I.ok.kind hg (Calls.loadGlobal_global (by rw[I.ok.glob];exact I.mod.glob.keeps I.bk) hm h) hd
theorem Q1{E:Value->Shared->Prop}{pins:List (Addr×Obj)}{s:Shared}{σ:St}{H:Hp}{x:Str}{u:Value}{pos:Pos}{Q:Value->Shared->Prop}(I:Inv X pins σ H s)(hg:Gl X x)(hm:X.mg x=none)(hv:bootBuiltins x=some u)(h:Q u s)
  (hn:x≠"__name__":=by decide) (hd:(x==("__debug__":Str))=false:=by decide):wpAny (model X.prog X.w) X.A (eval (.Name x pos) X.env) Q E s:=by
 obtain⟨mb,h1,h2⟩:=I.mod.blt;exact Calls.Name_function_global I.ok.kind hg (Calls.loadGlobal_builtin (by rw[I.ok.glob];exact I.mod.glob.keeps I.bk) hm (by rw[I.ok.blt];exact h1.keeps I.bk) ((h2 x hn).trans hv) h) hd
theorem JB{x:Str}{v:V}{u:Value}{pos:Pos}(hg:Gl X x)(hm:X.mg x=some u)(r:RelV v u)(hd:(x==("__debug__":Str))=false:=by decide):PE X (.Name x pos) (tC v):=
 λ_ _ _ H _ I h=>P0 I hg hm ⟨v,H,I,r,h⟩ hd
variable{a b:Expr}{ta tb:TE}{pos:Pos}
def PC(X:Cx)(op:CmpOp)(a b:Expr)(t:TE):Prop:=
 ∀(pins:List (Addr×Obj)) (s:Shared) (σ:St) (H:Hp) (Q:VK),Inv X pins σ H s->t σ H Q->
  wpAny (model X.prog X.w) X.A (eval a X.env) (λv s₁=>wpAny (model X.prog X.w) X.A (eval b X.env) (λu s₂=>wpAny (model X.prog X.w) X.A (compareOp op v u) (EP X pins σ Q) X.xe s₂) X.xe s₁) X.xe s
inductive tBK(Q:Bool->Hp->Prop)(x:V)(H1:Hp):Prop
 |mk (c:_) (x0:x= .bl c) (x1:Q c H1):tBK Q x H1
def tB(t:TE):TT:=λσ H Q=>t σ H (tBK Q)
theorem zI{op:CmpOp}{t:TE}(h:PC X op a b t)(h1:behindInMarks op b=false:=by first|exact ACQ _ (by decide) (by decide)|rfl):PT X (.Compare a [op] [b] pos) (tB t):=by
 intro pins s σ H Q I hw;refine wpAny_isTrue_Compare1 (Bt (h pins s σ H _ I hw) λv s1 h1=>Bt h1 λu s2 h2=>Bt h2 λc s3 ⟨x,H1,I1,r1,q1⟩=> ?_) h1;obtain⟨d,rfl,q⟩:=q1;cases r1;exact wpAny_truthy_bool ⟨H1,I1,q⟩
theorem CU{e:Expr}{t:TE}(h:PE X e t)(he:∀whole,isTrue e X.env whole=(do let v←whole;standAt e.pos;holding [v] (truthy v)):=by intro _;rfl):PT X e (tB t):=by
 intro pins s σ H Q I hw;refine isTrue_plain (Bt (h pins s σ H _ I hw) λv s1 ⟨x,H1,I1,r1,q1⟩=> ?_) (he _);obtain⟨d,rfl,q⟩:=q1;cases r1;exact wpAny_truthy_bool ⟨H1,I1,q⟩
variable{tA tB':TT}{rest:List Expr}
def AEa(t u:TT):TT:=λσ H Q=>t σ H λc H1=>if c=true then u σ H1 Q else Q false H1
def tOr(t u:TT):TT:=λσ H Q=>t σ H λc H1=>if c=true then Q true H1 else u σ H1 Q
def ACR(t:TT):TT:=λσ H Q=>t σ H λc H1=>Q (!c) H1
theorem P1(ha:PT X a tA):PW X (.BoolOp .And [a] pos) tA:=by
 intro wh pins s σ H Q I h;refine isTrue_and (Bt (ha pins s σ H Q I h) λc s1 e=> ?_);cases c with
 |true=>exact isTrue_and_nil e
 |false=>exact e
theorem FP(ha:PT X a tA):PW X (.BoolOp .Or [a] pos) tA:=by
 intro wh pins s σ H Q I h;refine isTrue_or (Bt (ha pins s σ H Q I h) λc s1 e=> ?_);cases c with
 |false=>exact isTrue_or_nil e
 |true=>exact e
theorem Vd(ha:PT X a tA)(hb:PW X (.BoolOp .And (b::rest) pos) tB'):PW X (.BoolOp .And (a::b::rest) pos) (AEa tA tB'):=by
 intro wh pins s σ H Q I h;refine isTrue_and (Bt (ha pins s σ H _ I h) λc s1 ⟨H1,I1,q1⟩=> ?_);cases c with
 |true=>exact hb wh pins s1 σ H1 Q I1 q1
 |false=>exact⟨H1,I1,q1⟩
theorem Ep(ha:PT X a tA)(hb:PW X (.BoolOp .Or (b::rest) pos) tB'):PW X (.BoolOp .Or (a::b::rest) pos) (tOr tA tB'):=by
 intro wh pins s σ H Q I h;refine isTrue_or (Bt (ha pins s σ H _ I h) λc s1 ⟨H1,I1,q1⟩=> ?_);cases c with
 |true=>exact⟨H1,I1,q1⟩
 |false=>exact hb wh pins s1 σ H1 Q I1 q1
theorem BN(ha:PT X a tA):PT X (.UnaryOp .Not a pos) (ACR tA):=by
 intro pins s σ H Q I h;exact isTrue_not (ha pins s σ H (λc H1=>Q (!c) H1) I h)
inductive wg(tb:TE)(σ:L2.St)(Q:VK)(x:V)(H1:Hp):Prop
 |mk (c:_) (x0:x= .bl c) (x1:if c=true then Q (.bl true) H1 else tb σ H1 Q):wg tb σ Q x H1
def AEb(ta tb:TE):TE:=λσ H Q=>ta σ H (wg tb σ Q)
theorem zJ{op}{t:TE}(h:PE X a t):PE X (.BoolOp op [a] pos) t:=λpins s σ H Q I hw=>BoolOp_one (h pins s σ H Q I hw)
theorem ACS(ha:PE X a ta)(hb:PE X (.BoolOp .Or (b::rest) pos) tb):PE X (.BoolOp .Or (a::b::rest) pos) (AEb ta tb):=by
 intro pins s σ H Q I h;refine BoolOp_or (Bt (ha pins s σ H _ I h) λv s1 ⟨x,H1,I1,r1,q1⟩=> ?_);obtain⟨c,rfl,q1⟩:=q1;cases r1;refine wpAny_truthy_bool ?_;cases c with
 |false=>exact hb pins s1 σ H1 Q I1 q1
 |true=>exact⟨.bl true,H1,I1,AA,q1⟩
def tIf(t:TT)(ta tb:TE):TE:=λσ H Q=>t σ H λc H1=>if c=true then ta σ H1 Q else tb σ H1 Q
theorem MW{c:Expr}(hc:PT X c tA)(ha:PE X a ta)(hb:PE X b tb):PE X (.IfExp c a b pos) (tIf tA ta tb):=by
 intro pins s σ H Q I h;refine wpAny_IfExp (Bt (hc pins s σ H _ I h) λd s1 ⟨H1,I1,q1⟩=> ?_);cases d with
 |true=>exact ha pins s1 σ H1 Q I1 q1
 |false=>exact hb pins s1 σ H1 Q I1 q1
end
end L2
namespace L2
open PySem PySem.Spec PyProof.Rows
def A_(K:Ab)(H:Hp)(a:Addr)(xs:List V):Prop:=
 Rd H a (.lst xs)\/
  ∃(o:Obj) (its:Array Value) (n:Nat),K.lookup a=some o/\o.cls= .type "list"/\o.dict=none/\o.data= .seq its n/\its.size<=sizeLine/\Vals xs its.toList
def Bi(K:Ab)(H:Hp)(a:Addr)(xs:List V):Prop:=
 Rd H a (.tup xs)\/
  ∃(o:Obj) (its:Array Value) (n:Nat),K.lookup a=some o/\o.cls= .type "tuple"/\o.data= .seq its n/\its.size<=sizeLine/\Vals xs its.toList
def AEc:Value->Option V
 | .none=>some .Dg
 | .bool b=>some (.bl b)
 | .int i _=>some (.int i)
 | .str x _=>some (.str x)
 | .bytes b _=>some (.XI b)
 | .float b _=>some (.flt b)
 | .ref a=>some (.ref a)
 | .type n=>some (.ty n)
 |_=>none
theorem RelV.abs{x:V}{u:Value}(r:RelV x u):AEc u=some x:=by
 cases x with
 |Dg=>cases r;rfl
 |bl _=>cases r;rfl
 |int _=>obtain⟨t,rfl⟩:=r;rfl
 |str _=>obtain⟨t,rfl⟩:=r;rfl
 |XI _=>obtain⟨t,rfl⟩:=r;rfl
 |flt _=>obtain⟨t,rfl⟩:=r;rfl
 |ref _=>cases r;rfl
 |ty _=>cases r;rfl
theorem RelV.inj{x y:V}{u:Value}(r:RelV x u)(q:RelV y u):x=y:=Bl (r.abs.symm.trans q.abs)
theorem Vals.inj:∀{xs ys:List V} {us:List Value},Vals xs us->Vals ys us->xs=ys
 |_,_,_,.nil,.nil=>rfl
 |_,_,_,.cons r t,.cons r' t'=>by rw[r.inj r',Vals.inj t t']
section
variable{X:Cx}{pins:List (Addr×Obj)}{σ:St}{H:Hp}{s:Shared}{a:Addr}{xs ys:List V}
theorem A_.of{K:Ab}(h:H a=some (.lst xs)):A_ K H a xs:= .inl (.inl h)
theorem Bi.of{K:Ab}(h:H a=some (.tup xs)):Bi K H a xs:= .inl (.inl h)
theorem Inv.list(I:Inv X pins σ H s)(h:A_ X.K H a xs):∃its:List Value,Vals xs its/\PlainL s.heap a its.toArray/\xs.length<=sizeLine:=by
 rcases h with h|⟨o,its,n,hk,hc,hd,hs,hz,r⟩
 ·obtain⟨z,its,n,r,e⟩:=h.ok I.BS;exact⟨its,r,⟨_,n,e,AA,AA,AA⟩,z⟩
 ·refine⟨its.toList,r,⟨o,n,I.XJ a o hk,hc,hd,by simpa using hs⟩,?_⟩;have e:=r.length;simp only[Qv] at e;omega
theorem Inv.tuple(I:Inv X pins σ H s)(h:Bi X.K H a xs):∃its:List Value,Vals xs its/\IsTup s.heap a its.toArray/\xs.length<=sizeLine:=by
 rcases h with h|⟨o,its,n,hk,hc,hs,hz,r⟩
 ·obtain⟨z,its,r,p⟩:=h.ok I.BS;exact⟨its,r,p,z⟩
 ·refine⟨its.toList,r,⟨o,I.XJ a o hk,hc,n,by simpa using hs⟩,?_⟩;have e:=r.length;simp only[Qv] at e;omega
theorem Inv.XW(I:Inv X pins σ H s)(h:A_ X.K H a xs)(h':A_ X.K H a ys):xs=ys:=by
 obtain⟨its,r,⟨o,n,e,_,_,d⟩,_⟩:=I.list h;obtain⟨its',r',⟨o',n',e',_,_,d'⟩,_⟩:=I.list h';rw[e] at e';cases e';rw[d] at d';injection d' with d1 _
 have:its=its':=by simpa using congrArg mT d1
 subst this;exact r.inj r'
end
abbrev Cx.Ss(X:Cx)(E:Value->Shared->Prop):Cx:={X with xe:=E}
abbrev Cx.wj(X:Cx):Cx:=X.Ss λ_ _=>False
theorem Cx.Ok.Ss{X:Cx}(ok:X.Ok)(E:Value->Shared->Prop):(X.Ss E).Ok:=
 ⟨ok.mod,ok.kind,ok.glob,ok.blt,ok.above,ok.inj,ok.has,ok.cab,ok.hd,ok.frames,ok.stk,ok.exf,ok.bs,ok.tY,ok.m8,ok.m9,ok.Ph,ok.zG⟩
theorem Cx.Ok.KU{X:Cx}{E:Value->Shared->Prop}(ok:(X.Ss E).Ok):X.Ok:=
 ⟨ok.mod,ok.kind,ok.glob,ok.blt,ok.above,ok.inj,ok.has,ok.cab,ok.hd,ok.frames,ok.stk,ok.exf,ok.bs,ok.tY,ok.m8,ok.m9,ok.Ph,ok.zG⟩
section
variable{X:Cx}{pins:List (Addr×Obj)}{σ:St}{H:Hp}{s:Shared}{E:Value->Shared->Prop}
theorem Inv.Ss(I:Inv X pins σ H s)(E:Value->Shared->Prop):Inv (X.Ss E) pins σ H s:=⟨I.ok.Ss E,I.os,I.bare,I.base,I.loc,I.cell,I.free,I.IL,I.pin,I.BS,I.len⟩
theorem Inv.KU(I:Inv (X.Ss E) pins σ H s):Inv X pins σ H s:=⟨I.ok.KU,I.os,I.bare,I.base,I.loc,I.cell,I.free,I.IL,I.pin,I.BS,I.len⟩
theorem SP.KU{D:Ends}{f:Flow}{s':Shared}(h:SP (X.Ss E) pins D f s'):SP X pins D f s':=by
 cases f with
 |next=>obtain⟨σ',H',I,q⟩:=h;exact⟨σ',H',I.KU,q⟩
 |brk=>obtain⟨σ',H',I,q⟩:=h;exact⟨σ',H',I.KU,q⟩
 |cont=>obtain⟨σ',H',I,q⟩:=h;exact⟨σ',H',I.KU,q⟩
 |ret u=>obtain⟨v,σ',H',I,r,q⟩:=h;exact⟨v,σ',H',I.KU,r,q⟩
theorem XU.wj{st:List Stmt}{t:TS}(h:XU X.wj st t):XU X st t:=λpins s σ H D I hw=>
 wpAny_mono (h pins s σ H D (I.Ss _) hw) (λ_ _ q=>q.KU) λ_ _ z=>Ft z
end
section
variable{X:Cx}{st:Stmt}{rest:List Stmt}{t u:TS}{e:Expr}{te:TE}{pos:Pos}
def ACT:TS:=λD σ H=>D.nx σ H
def AEd(t u:TS):TS:=λD σ H=>t {D with nx:=u D} σ H
theorem Aa:XU X [] ACT:=λ_ _ σ H _ I h=>wpAny_execs_nil ⟨σ,H,I,h⟩
theorem AF(h1:PS X st t)(h2:XU X rest u):XU X (st::rest) (AEd t u):=by
 intro pins s σ H D I h;refine wpAny_execs_cons (Bt (h1 pins s σ H {D with nx:=u D} I h) λf s1 q=> ?_);cases f with
 |next=>
  obtain⟨σ',H',I',q⟩:=q;exact h2 pins s1 σ' H' D I' q
 |ret v=>exact q
 |brk=>exact q
 |cont=>exact q
theorem AK(h1:PS X st t):XU X [st] t:=by
 intro pins s σ H D I h;refine wpAny_execs_cons (Bt (h1 pins s σ H D I h) λf s1 q=> ?_);cases f with
 |next=>exact wpAny_execs_nil q
 |ret v=>exact q
 |brk=>exact q
 |cont=>exact q
theorem Inv.quiet{pins:List (Addr×Obj)}{σ:St}{H:Hp}{s:Shared}(I:Inv X pins σ H s):interactive X.env=false:=by simp[interactive,I.ok.kind]
def ACU(te:TE):TS:=λD σ H=>te σ H λ_ H1=>D.nx σ H1
theorem Bu(he:PE X e te)(hs:swapsWith e none pos.line X.env=pure false:=by rfl):PS X (.Expr e pos) (ACU te):=by
 intro pins s σ H D I h;exact wpAny_Expr_any (Bt (he pins s σ H _ I h) λv s1 ⟨x,H1,I1,r1,q1⟩=>⟨σ,H1,I1,q1⟩) I.quiet hs
def AEe(te:TE):TS:=λD σ H=>te σ H D.rt
theorem AO(he:PE X e te):PS X (.Return (some e) pos) (AEe te):=by
 intro pins s σ H D I h;exact wpAny_Return_some (Bt (he pins s σ H _ I h) λv s1 ⟨x,H1,I1,r1,q1⟩=>⟨x,σ,H1,I1,r1,q1⟩)
def ACV:TS:=λD _ H=>D.rt .Dg H
theorem tZ:PS X (.Return none pos) ACV:=λ_ _ σ H _ I h=>wpAny_Return_none ⟨.Dg,σ,H,I,rfl,h⟩
def AEf(c:TT)(t u:TS):TS:=λD σ H=>c σ H λb H1=>if b=true then t D σ H1 else u D σ H1
theorem Aj{c:Expr}{a b:List Stmt}{tc:TT}(hc:PT X c tc)(ha:XU X a t)(hb:XU X b u):PS X (.If c a b pos) (AEf tc t u):=by
 intro pins s σ H D I h;refine wpAny_If (Bt (hc pins s σ H _ I h) λd s1 ⟨H1,I1,q1⟩=> ?_);cases d with
 |true=>exact ha pins s1 σ H1 D I1 q1
 |false=>exact hb pins s1 σ H1 D I1 q1
end
abbrev TG:=V->St->Hp->(St->Hp->Prop)->Prop
abbrev zK:=List V->St->Hp->(St->Hp->Prop)->Prop
def PG(X:Cx)(target:Expr)(t:TG):Prop:=
 ∀(pins:List (Addr×Obj)) (s:Shared) (σ:St) (H:Hp) (v:V) (u:Value) (Q:St->Hp->Prop),Inv X pins σ H s->RelV v u->t v σ H Q->
  wpAny (model X.prog X.w) X.A (assign target X.env u) (λ_ s'=>∃σ' H',Inv X pins σ' H' s'/\Q σ' H') X.xe s
def PGs(X:Cx)(ts:List Expr)(t:zK):Prop:=
 ∀(pins:List (Addr×Obj)) (s:Shared) (σ:St) (H:Hp) (vs:List V) (us:List Value) (Q:St->Hp->Prop),Inv X pins σ H s->Vals vs us->t vs σ H Q->
  wpAny (model X.prog X.w) X.A (assignInOrder ((assignEach ts X.env).map (·.2)) us) (λ_ s'=>∃σ' H',Inv X pins σ' H' s'/\Q σ' H') X.xe s
abbrev zM:=V->V->V->Hp->(Hp->Prop)->Prop
def ACW(X:Cx)(t:zM):Prop:=
 ∀(pins:List (Addr×Obj)) (s:Shared) (σ:St) (H:Hp) (o i v:V) (ov iv u:Value) (Q:Hp->Prop),Inv X pins σ H s->RelV o ov->RelV i iv->RelV v u->t o i v H Q->
  wpAny (model X.prog X.w) X.A (setItem ov iv u) (λ_ s'=>∃H',Inv X pins σ H' s'/\Q H') X.xe s
abbrev TIp:=V->V->Hp->VK->Prop
def PIp(X:Cx)(op:Operator)(t:TIp):Prop:=
 ∀(pins:List (Addr×Obj)) (s:Shared) (σ:St) (H:Hp) (x y:V) (v u:Value) (Q:VK),Inv X pins σ H s->RelV x v->RelV y u->t x y H Q->
  wpAny (model X.prog X.w) X.A (inplaceOp op v u) (EP X pins σ Q) X.xe s
section
variable{X:Cx}{pos:Pos}
def Ow(i:Nat):TG:=λv σ H Q=>Q (σ.set i (some v)) H
theorem BK{i:Nat}{x:Str}(hN:X.N.Nodup)(hi:X.N[i]? =some x)(hx:Loc X.env.scope x)(hf:X.fn x=true\/X.env.scope.names.lookup x=some .local:=by first|exact .inl rfl|exact .inr rfl|assumption):PG X (.Name x pos) (Ow i):=by
 intro pins s σ H v u Q I r h;exact wpAny_assign_Name (Qz I hN hi hx r (λs' I'=>⟨_,H,I',h⟩) hf)
def AEg:zK:=λvs σ H Q=>vs= []/\Q σ H
inductive wk(t:TG)(u:zK):zK
 |mk (v r:_):vs=v::r->(t v σ H λσ' H'=>u r σ' H' Q)->wk t u vs σ H Q
theorem P2:PGs X [] AEg:=by
 intro pins s σ H vs us Q I r h;obtain⟨e,h⟩:=h;subst e;cases r;exact assignInOrder_nil ⟨σ,H,I,h⟩
theorem Fu{e:Expr}{es:List Expr}{t:TG}{u:zK}(h1:PG X e t)(h2:PGs X es u)
  (hs:(assignEach (e::es) X.env).map (·.2)=assign e X.env::(assignEach es X.env).map (·.2):=by rfl):PGs X (e::es) (wk t u):=by
 intro pins s σ H vs us Q I r h;obtain⟨v,vr,e1,h⟩:=h;subst e1;cases r with
 |cons r rr=>
  rw[hs];refine assignInOrder_cons (Bt (h1 pins s σ H _ _ _ I r h) λ_ s1 ⟨σ1,H1,I1,q1⟩=> ?_);exact h2 pins s1 σ1 H1 _ _ Q I1 rr q1
inductive ACX(K:Ab)(n:Nat)(t:zK):TG
 |mk (a xs:_):v= .ref a->Bi K H a xs->xs.length=n->t xs σ H Q->ACX K n t v σ H Q
theorem Ve{es:List Expr}{k:Nat}{t:zK}{n:Nat}(hc:X.calm=true)(h:PGs X es t)
  (hn:(assignEach es X.env).length=n:=by rfl) (tf:(assignEach es X.env).findIdx? (·.1)=none:=by rfl):PG X (.Tuple es k pos) (ACX X.K n t):=by
 intro pins s σ H v u Q I r hw;obtain⟨a,xs,e1,hq,hl,hw⟩:=hw;subst e1;cases r;obtain⟨its,rv,ht,hz⟩:=I.tuple hq;refine assign_Tuple_tuple (I.ok.hd hc) ht (by simp[hn,←hl,rv.length]) tf λh' hx=> ?_;have I1:Inv X pins σ H {s with heap:=h'}:=I.kept (t':=s.toks) λb o e=>hx b o (Dm (Bh e)) e;exact h pins _ σ H xs _ Q I1 (by simpa using rv) hw
def AEh(to ti:TE)(t:zM):TG:=λv σ H Q=>to σ H λo H1=>ti σ H1 λi H2=>t o i v H2 λH3=>Q σ H3
theorem aZ{o i:Expr}{to ti:TE}{t:zM}(ho:PE X o to)(hi:PE X i ti)(hs:ACW X t)
  (ha:∀v,assign (.Subscript o i pos) X.env v=(do
   let ov←holding [v] (eval o X.env)
   let iv←holding [v,ov] (eval i X.env)
   standAt pos
   holding [v,ov,iv] (setItem ov iv v)
   release [v,ov,iv] []):=by intro _;rfl):PG X (.Subscript o i pos) (AEh to ti t):=by
 intro pins s σ H v u Q I r h;rw[ha];refine wpAny_bind (wpAny_holding (Bt (ho pins s σ H _ I h) λov s1 ⟨x,H1,I1,r1,q1⟩=> ?_));refine wpAny_bind (wpAny_holding (Bt (hi pins s1 σ H1 _ I1 q1) λiv s2 ⟨y,H2,I2,r2,q2⟩=> ?_));refine wpAny_bind (wpAny_standAt (wpAny_bind (wpAny_holding (Bt (hs pins s2 σ H2 x y v ov iv u _ I2 r1 r2 r q2) λ_ s3 ⟨H3,I3,q3⟩=> ?_))));exact wpAny_release ⟨σ,H3,I3,q3⟩
def zO(te:TE)(g:TG):TS:=λD σ H=>te σ H λx H1=>g x σ H1 D.nx
theorem aa{tg e:Expr}{te:TE}{g:TG}(he:PE X e te)(hg:PG X tg g)(hs:swapsWithSole [tg] e pos.line X.env=pure false:=by rfl)(hw:swappedStores [tg] e X.env=pure none:=by rfl)
  (h1:(assignEach [tg] X.env).map (·.2)= [assign tg X.env]:=by rfl):PS X (.Assign [tg] e pos) (zO te g):=by
 intro pins s σ H D I h;refine wpAny_Assign_stores (Bt (he pins s σ H _ I h) λv s1 ⟨x,H1,I1,r1,q1⟩=> ?_) hs hw;rw[h1];exact Bt (hg pins s1 σ H1 x v _ I1 r1 q1) λ_ s2 q=>q
theorem L7{i:Nat}{x:Str}{e:Expr}{te:TE}{pos':Pos}(hN:X.N.Nodup)(hi:X.N[i]? =some x)(hx:Loc X.env.scope x)(he:PE X e te)(hs:swapsWith e (some (.Name x pos')) pos.line X.env=pure false:=by rfl)(hf:X.fn x=true\/X.env.scope.names.lookup x=some .local:=by first|exact .inl rfl|exact .inr rfl|assumption):
  PS X (.Assign [.Name x pos'] e pos) (zO te (Ow i)):=by
 intro pins s σ H D I h;refine wpAny_Assign_Name (Bt (he pins s σ H _ I h) λv s1 ⟨y,H1,I1,r1,q1⟩=> ?_) hs;exact Qz I1 hN hi hx r1 (λs2 I2=>⟨_,H1,I2,q1⟩) hf
inductive ACY(i:Nat)(te:TE)(ti:TIp):TS
 |mk (x:_):σ[i]? =some (some x)->(te σ H λy H1=>ti x y H1 λz H2=>D.nx (σ.set i (some z)) H2)->ACY i te ti D σ H
theorem af{i:Nat}{x:Str}{e:Expr}{te:TE}{op:Operator}{ti:TIp}{pos':Pos}(hN:X.N.Nodup)(hi:X.N[i]? =some x)(hx:Loc X.env.scope x)(he:PE X e te)(ho:PIp X op ti)(hf:X.fn x=true\/X.env.scope.names.lookup x=some .local:=by first|exact .inl rfl|exact .inr rfl|assumption):
  PS X (.AugAssign (.Name x pos') op e pos) (ACY i te ti):=by
 intro pins s σ H D I h;obtain⟨v,e1,h⟩:=h;obtain⟨m,hn,hl⟩:=I.loc;have vis:zF X.env.scope x:=by rcases hx with k|k;exact .inl k;exact .inr (.inl k)
 obtain⟨u,r,l⟩:=hl i x v hi e1 vis;refine wpAny_AugAssign_Name ?_;have go:wpAny (model X.prog X.w) X.A (eval e X.env) (λw s₂=>wpAny (model X.prog X.w) X.A (inplaceOp op u w) (λr s₃=>wpAny (model X.prog X.w) X.A (storeName X.env x r) (λ_=>SP X pins D .next) X.xe s₃) X.xe s₂) X.xe s:=by
  refine Bt (he pins s σ H _ I h) λw s1 ⟨y,H1,I1,r1,q1⟩=> ?_;refine Bt (ho pins s1 σ H1 v y u w _ I1 r r1 q1) λz s2 ⟨zv,H2,I2,r2,q2⟩=> ?_;exact Qz I2 hN hi hx r2 (λs3 I3=>⟨_,H2,I3,q2⟩) hf
 rcases l with⟨hk,hm⟩|⟨hk,c,hc,de⟩
 ·exact wpAny_loadName_local I.ok.kind hk hn hm go
 ·rcases hk with hk|hk
  ·exact wpAny_loadName_cell I.ok.kind hk hc de go
  ·rcases hx with k|k
   ·have:X.env.scope.names.lookup x=some .free:=hk;rw[k] at this;cases this
   ·have:X.env.scope.names.lookup x=some .free:=hk;rw[k] at this;cases this
inductive ipI(f:Int->Int->Int):TIp
 |mk (i j:_):x= .int i->y= .int j->Q (.int (f i j)) H->ipI f x y H Q
theorem nJ:PIp X .Add (ipI λi j=>i+j):=by
 intro pins s σ H x y v u Q I r1 r2 h;obtain⟨i,j,e1,e2,q⟩:=h;subst e1;subst e2;obtain⟨t,rfl⟩:=r1;obtain⟨t',rfl⟩:=r2;exact iadd_int ⟨.int _,H,I.tok _,⟨_,rfl⟩,q⟩
end
section
variable{X:Cx}{pos:Pos}
inductive ag(c:TT)(tb:TS):TS
 |mk (W:Nat->St->Hp->Prop):(∃m,W m σ H)->(∀m σ H,W m σ H->c σ H λb H1=>if b=true then∃N:St->Hp->Prop,(∀σ' H',N σ' H'->∃m',m'<m/\W m' σ' H')/\tb {D with nx:=N,ct:=N,bk:=D.nx} σ H1 else D.nx σ H1)->ag c tb D σ H
theorem MX{c:Expr}{body:List Stmt}{tc:TT}{tb:TS}(hp:PassesOwn (model X.prog X.w) X.A X.env X.xe)(hc:PT X c tc)(hb:XU X body tb):PS X (.While c body [] pos) (ag tc tb):=by
 intro pins s σ H D I h;obtain⟨W,⟨m0,w0⟩,turn⟩:=h;refine wpAny_While (codeAny_whileLoop (λn s'=>∃σ' H',Inv X pins σ' H' s'/\W n σ' H') ?_ m0 ⟨σ,H,I,w0⟩);rintro n s1 ⟨σ1,H1,I1,w1⟩;refine wpAny_passesOwn hp (Bt (hc pins s1 σ1 H1 _ I1 (turn n σ1 H1 w1)) λb s2 ⟨H2,I2,q2⟩=> ?_);cases b with
 |true=>
  obtain⟨N,hN,q2⟩:=q2;rw[AG rfl];refine wpAny_passesOwn hp (Bt (hb pins s2 σ1 H2 _ I2 q2) λf s3 q3=> ?_);cases f with
  |next=>
   obtain⟨σ3,H3,I3,n3⟩:=q3;obtain⟨m',hm,w3⟩:=hN σ3 H3 n3;exact⟨m',hm,σ3,H3,I3,w3⟩
  |cont=>
   obtain⟨σ3,H3,I3,n3⟩:=q3;obtain⟨m',hm,w3⟩:=hN σ3 H3 n3;exact⟨m',hm,σ3,H3,I3,w3⟩
  |brk=>exact q3
  |ret v=>exact q3
 |false=>
  rw[AB DA];exact wpAny_execs_nil ⟨σ1,H2,I2,q2⟩
end
structure It where
 go:Nat->Hp->Prop
 ah:Nat->Hp->V->Hp->Prop
 stop:Nat->Hp->Prop
def Q2(X:Cx)(pins:List (Addr×Obj))(H:Hp)(b:Addr):Prop:=
 H b=none/\b≠X.env.locals/\b∉X.fs/\(b∈X.ex\/X.Tv.heap.objs.size<=b)/\(∀x c,X.env.cells.lookup x=some c->c≠b)/\∀p∈X.pn++pins,p.1≠b
theorem Inv.nN{X:Cx}{pins:List (Addr×Obj)}{σ:St}{H H':Hp}{s:Shared}{b:Addr}(I:Inv X pins σ H s)(hb:s.heap.objs.size<=b)(hn:H' b=none):Q2 X pins H' b:=by
 refine⟨hn,Ln (Cm I.lt hb),I.AEX hb,.inr (A6 I.sz hb),λx c e z=> ?_,λp hp z=> ?_⟩
 ·obtain⟨v,q⟩:=I.cell x c e;exact absurd (Cm q.lt (by rw[z];exact hb)) (Io _)
 ·exact absurd (Cm (Bh (I.pin p hp).1) (by rw[z];exact hb)) (Io _)
structure Turn(P:Program)(w:World)(K:Ab)(tg:Expr)(J:It)(fp:List Addr)(it:Addr)(tn:Nat->Heap->Prop):Prop where
 mem:it∈fp
 obj:∀i h,tn i h->∀b∈fp,∃o,h.get? b=some o/\∀v,o.data≠ .cell v
 keep:∀i h h',tn i h->(∀b∈fp,∀o,h.get? b=some o->h'.get? b=some o)->tn i h'
 item:∀(X:Cx),X.prog=P->X.w=w->X.K=K->X.calm=true->∀(i:Nat) (pins:List (Addr×Obj)) (s:Shared) (σ:St) (H:Hp) (E:Value->Shared->Prop),Inv X pins σ H s->(∀b∈fp,Q2 X pins H b)->tn i s.heap->J.go i H->
  wpAny (model P w) X.A (pyNext (.ref it)) (λr s1=>∃u,r=some u/\
   wpAny (model P w) X.A (letOwnedTupleGo tg (.ref it) u) (λ_ s2=>∃x H',Inv X pins σ H' s2/\RelV x u/\J.ah i H x H'/\tn (i+1) s2.heap/\∀b∈fp,H' b=none) E s1) E s
 done:∀(X:Cx),X.prog=P->X.w=w->X.K=K->X.calm=true->∀(i:Nat) (pins:List (Addr×Obj)) (s:Shared) (σ:St) (H:Hp) (E:Value->Shared->Prop),Inv X pins σ H s->(∀b∈fp,Q2 X pins H b)->tn i s.heap->J.stop i H->
  wpAny (model P w) X.A (pyNext (.ref it)) (λr s1=>r=none/\Inv X pins σ H s1) E s
 self:∀(A:Around) (i:Nat) (s:Shared) (Q:Value->Shared->Prop) (E:Value->Shared->Prop),tn i s.heap->Q (.ref it) s->wpAny (model P w) A (pyIter (.ref it)) Q E s
abbrev TI:=St->Hp->(It->Hp->Prop)->Prop
inductive PIE(X:Cx)(pins:List (Addr×Obj))(σ:St)(tg:Expr)(R:It->Hp->Prop)(itv:Value)(s2:Shared):Prop
 |mk (it:Addr) (fp:List Addr) (tn:Nat->Heap->Prop) (J:It) (H':Hp):itv= .ref it->Inv X pins σ H' s2->Turn X.prog X.w X.K tg J fp it tn->tn 0 s2.heap->(∀b∈fp,Q2 X pins H' b)->R J H'->PIE X pins σ tg R itv s2
def PI(X:Cx)(tg iter:Expr)(wi:TI):Prop:=
 ∀(pins:List (Addr×Obj)) (s:Shared) (σ:St) (H:Hp) (R:It->Hp->Prop),Inv X pins σ H s->wi σ H R->
  wpAny (model X.prog X.w) X.A (eval iter X.env) (λv s1=>wpAny (model X.prog X.w) X.A (pyIter v) (PIE X pins σ tg R) X.xe s1) X.xe s
theorem df{M:Model}{A:Around}{E:Value->Shared->Prop}{s:Shared}{tg:Expr}{it:Addr}{u:Value}{o:Obj}{n:String}{vs:Array Value}{Q:Unit->Shared->Prop}(ho:s.heap.get? it=some o)(hc:o.cls= .type n)(hd:o.data= .fields vs)
  (hn: ["enumerate","zip","dict_itemiterator","dict_reverseitemiterator","odict_iterator","itertools.zip_longest","itertools.pairwise"].contains n=false) (hQ:Q () s):wpAny M A (letOwnedTupleGo tg (.ref it) u) Q E s:=by
 unfold letOwnedTupleGo;cases tg <;> first
  |exact wpAny_pure hQ
  |(cases u <;> first
    |exact wpAny_pure hQ
    |(refine wpAny_bind (wpAny_load ho ?_)
      rw[hc,hd];show wpAny M A (if(["enumerate","zip","dict_itemiterator","dict_reverseitemiterator","odict_iterator","itertools.zip_longest","itertools.pairwise"].contains n && vs[0]? ==some (rawInt _))=true then _ else _) Q E s;rw[AB (by intro h;rw[hn,Ql] at h;cases h)];exact wpAny_pure hQ))
def XX(K:Ab)(a:Addr):It:=
 ⟨λi H=>∃xs x,A_ K H a xs/\xs[i]? =some x,λi H x H'=>H'=H/\∀xs,A_ K H a xs->xs[i]? =some x,λi H=>∃xs,A_ K H a xs/\xs.length<=i⟩
def tE(lo:Int)(n:Nat):It:=⟨λi _=>i<n,λi H x H'=>H'=H/\x= .int (lo+i),λi _=>n<=i⟩
theorem gv{P:Program}{w:World}{K:Ab}{tg:Expr}(a it:Addr):Turn P w K tg (XX K a) [it] it (λi h=>h.IsListIter it a i) where
 mem:=by simp
 obj:=λi h st b hb=>by
  have e:b=it:=by simpa using hb
  subst e;obtain⟨o,e,c,d⟩:=st;exact⟨o,e,λv z=>by rw[d] at z;cases z⟩
 keep:=λi h h' st k=>st.at λo e=>k it (by simp) o e
 item:=by
  intro X hP hw hK hc i pins s σ H E I hf st hg;subst hP hw hK;obtain⟨xs,x,hq,hx⟩:=hg;obtain⟨its,rv,p,hz⟩:=I.list hq;obtain⟨u,hu,ru⟩:=rv.get hx;obtain⟨f0,f1,f2,f3,f4,f5⟩:=hf it (by simp);refine wpAny_pyNext_list_item st p.isList (x:=u) (by simpa using hu) λh' nQ sb=> ?_;have I1:Inv X pins σ H {s with heap:=h'}:=I.turned (t':=s.toks) (λb o hb e=>(sb.2 b hb).trans e) f0 f1 f3 f4 f5;obtain⟨o,e,c,d⟩:=id nQ;exact⟨u,rfl,df (s:={s with heap:=h'}) e c d (by decide) ⟨x,H,I1,ru,⟨rfl,λys hy=>by rw[I.XW hy hq];exact hx⟩,nQ,λb hb=>(hf b hb).1⟩⟩
 done:=by
  intro X hP hw hK hc i pins s σ H E I hf st hg;subst hP hw hK;obtain⟨xs,hq,hx⟩:=hg;obtain⟨its,rv,p,hz⟩:=I.list hq;obtain⟨f0,f1,f2,f3,f4,f5⟩:=hf it (by simp);have hl:=rv.length;exact wpAny_pyNext_list_end (I.ok.hd hc) st p.isList (by simp;omega) λh' eb=>⟨rfl,I.turned (t':=s.toks) (λb o hb e=>eb b o hb e) f0 f1 f3 f4 f5⟩
 self:=λ_ _ _ _ _ st h=>wpAny_pyIter_listiter st h
theorem ai{P:Program}{w:World}{K:Ab}{tg:Expr}(it:Addr)(lo:Int)(n:Nat):Turn P w K tg (tE lo n) [it] it (λi h=>IsRangeIter h it (lo+(i:Nat)*1) ((n:Int) - (i:Nat)) 1) where
 mem:=by simp
 obj:=λi h st b hb=>by
  have e:b=it:=by simpa using hb
  subst e;exact⟨_,st,λv z=>by
   have z':Data.fields _=Data.cell v:=z;cases z'⟩
 keep:=λi h h' st k=>k it (by simp) _ st
 item:=by
  intro X hP hw hK hc i pins s σ H E I hf st hg;subst hP hw hK;obtain⟨f0,f1,f2,f3,f4,f5⟩:=hf it (by simp);have W:=Walks.range (prog:=X.prog) (w:=X.w) (I.ok.hd hc) it lo 1 n;refine W.item i s _ _ hg st λv h' tk hv nQ kk=> ?_;obtain⟨t,rfl⟩:=hv;have I1:Inv X pins σ H {s with heap:=h',toks:=tk}:=I.turned (λb o hb e=>kk b o (by simpa using hb) e) f0 f1 f3 f4 f5;refine⟨_,rfl,df (s:={s with heap:=h',toks:=tk}) (n:="range_iterator") nQ rfl rfl (by decide) ⟨.int (lo+i),H,I1,⟨t,?_⟩,⟨rfl,rfl⟩,nQ,λb hb=>(hf b hb).1⟩⟩;rw[Int.mul_one]
 done:=by
  intro X hP hw hK hc i pins s σ H E I hf st hg;subst hP hw hK;obtain⟨f0,f1,f2,f3,f4,f5⟩:=hf it (by simp);exact wpAny_pyNext_range_end (I.ok.hd hc) st (by have:n<=i:=hg;omega) λh' eb=>⟨rfl,I.turned (t':=s.toks) (λb o hb e=>eb b o hb e) f0 f1 f3 f4 f5⟩
 self:=λ_ _ _ _ _ st h=>wpAny_pyIter_rangeiter st h
end L2
namespace L2
open PySem PySem.Spec PyProof.Rows
section
variable{X:Cx}{tg:Expr}
inductive nU(K:Ab)(R:It->Hp->Prop)(x:V)(H1:Hp):Prop
 |mk (a:_) (x0:x= .ref a) (x1:(∃xs,A_ K H1 a xs)) (x2:R (XX K a) H1):nU K R x H1
def ACZ(K:Ab)(tl:TE):TI:=λσ H R=>tl σ H (nU K R)
theorem EM{l:Expr}{tl:TE}(hl:PE X l tl):PI X tg l (ACZ X.K tl):=by
 intro pins s σ H R I h;refine Bt (hl pins s σ H _ I h) λv s1 ⟨x,H1,I1,r1,q1⟩=> ?_;obtain⟨a,e,⟨xs,hq⟩,q⟩:=q1;subst e;cases r1;obtain⟨its,rv,p,hz⟩:=I1.list hq;refine wpAny_pyIter_list p.isList ?_;refine⟨s1.heap.objs.size,[s1.heap.objs.size],_,_,H1,AA,I1.kept (t':=s1.toks) λb o e=>Cy _ e,gv a _,⟨_,Df _ rfl,AA,AA⟩,λb hb=> ?_,q⟩;have e:b=s1.heap.objs.size:=by simpa using hb
 subst e;exact I1.nN (As _) (I1.BS.fresh (As _))
theorem XY{pins:List (Addr×Obj)}{σ:St}{H:Hp}{s:Shared}{R:It->Hp->Prop}{E:Value->Shared->Prop}{lo hi:Int}{t u v:Tok}{tk:Nat}(I:Inv X pins σ H s)(h1:-(2^62)<=lo)(h2:lo<2^62)(h3:-(2^62)<=hi)(h4:hi<2^62)
  (q:R (tE lo (hi - lo).toNat) H):wpAny (model X.prog X.w) X.A (pyIter (.ref s.heap.objs.size)) (PIE X pins σ tg R) E {s with heap:=s.heap.push {cls:= .type "range",data:= .fields #[.int lo t,.int hi u,.int 1 v]},toks:=tk}:=by
 refine wpAny_pyIter_range (IsRange.new ..) (small_one h1 h2 h3 h4) ?_;have I1:Inv X pins σ H {s with heap:=s.heap.push {cls:= .type "range",data:= .fields #[.int lo t,.int hi u,.int 1 v]},toks:=tk}:=I.kept λb o e=>Cy _ e;refine⟨(s.heap.push {cls:= .type "range",data:= .fields #[.int lo t,.int hi u,.int 1 v]}).objs.size,[(s.heap.push {cls:= .type "range",data:= .fields #[.int lo t,.int hi u,.int 1 v]}).objs.size],_,_,H,AA,
  I1.kept (t':=tk) λb o e=>Cy _ e,ai _ lo (hi - lo).toNat,?_,λb hb=> ?_,q⟩
 ·have e1:lo+((0:Nat):Int)*1=lo:=by simp
  have e2:(((hi - lo).toNat:Nat):Int) - ((0:Nat):Int)=yc lo hi 1:=by rw[rangeSize_one];split <;> omega
  show IsRangeIter _ _ (lo+((0:Nat):Int)*1) ((((hi - lo).toNat:Nat):Int) - ((0:Nat):Int)) 1;rw[e1,e2];exact Df _ rfl
 ·have e:b=(s.heap.push {cls:= .type "range",data:= .fields #[.int lo t,.int hi u,.int 1 v]}).objs.size:=by simpa using hb
  subst e;exact I1.nN (As _) (I1.BS.fresh (As _))
inductive nX(R:It->Hp->Prop)(vs:List V)(H1:Hp):Prop
 |mk (j:Int) (x0:vs= [.int j]) (x1:-(2^62)<=j) (x2:j<2^62) (x3:R (tE 0 j.toNat) H1):nX R vs H1
def ACa(ta:TA):TI:=λσ H R=>ta σ H (nX R)
inductive nY(R:It->Hp->Prop)(vs:List V)(H1:Hp):Prop
 |mk (i j:Int) (x0:vs= [.int i,.int j]) (x1:(-(2^62)<=i/\i<2^62/\-(2^62)<=j/\j<2^62)) (x2:R (tE i (j - i).toNat) H1):nY R vs H1
def ACb(ta:TA):TI:=λσ H R=>ta σ H (nY R)
theorem Kv{a:Expr}{ta:TA}{p pos:Pos}(hg:Gl X "range")(hm:X.mg "range"=none)(ha:PA X [a] ta)(hs:starEach [a] X.env= [(false,eval a X.env)]:=by rfl):PI X tg (.Call (.Name "range" p) [a] [] pos) (ACa ta):=by
 intro pins s σ H R I h;refine Call_ (Q1 I hg hm boot_range (VM (Bt (ha pos pins s σ H _ I h) λus s1 ⟨vs,H1,I1,r1,q1⟩=> ?_) hs rfl));obtain⟨j,e,q1,q2,q⟩:=q1;subst e;cases r1 with
 |cons r rr=>
  cases rr;obtain⟨t,rfl⟩:=r;exact call_range_1 (XY I1 (by omega) (by omega) q1 q2 (by simpa using q))
theorem gw{a b:Expr}{ta:TA}{p pos:Pos}(hg:Gl X "range")(hm:X.mg "range"=none)(ha:PA X [a,b] ta)(hs:starEach [a,b] X.env= [(false,eval a X.env),(false,eval b X.env)]:=by rfl)(Vf:starEach [b] X.env= [(false,eval b X.env)]:=by rfl):
  PI X tg (.Call (.Name "range" p) [a,b] [] pos) (ACb ta):=by
 intro pins s σ H R I h;refine Call_ (Q1 I hg hm boot_range (VM (Bt (ha pos pins s σ H _ I h) λus s1 ⟨vs,H1,I1,r1,q1⟩=> ?_) (by rw[hs,Vf]) (by rw[Vf];rfl)));obtain⟨i,j,e,⟨q1,q2,q3,q4⟩,q⟩:=q1;subst e;cases r1 with
 |cons r rr=>
  cases rr with
  |cons r' rr=>
   cases rr;obtain⟨t,rfl⟩:=r;obtain⟨t',rfl⟩:=r';exact call_range_2 (XY I1 q1 q2 q3 q4 q)
def AEi(wi:TI)(g:TG)(tb:TS):TS:=λD σ H=>wi σ H λJ H1=>∃W:Nat->Nat->St->Hp->Prop,(∃m,W 0 m σ H1)/\∀i m σ H,W i m σ H->
 (J.stop i H/\D.nx σ H)\/(J.go i H/\∃N:St->Hp->Prop,(∀σ' H',N σ' H'->∃m',m'<m/\W (i+1) m' σ' H')/\∀x H',J.ah i H x H'->g x σ H' λσ2 H2=>tb {D with nx:=N,ct:=N,bk:=D.nx} σ2 H2)
def Q3(fp:List Addr)(h:Heap):List (Addr×Obj):=fp.filterMap λb=>(h.get? b).map λo=>(b,o)
theorem L8{fp:List Addr}{h:Heap}{b:Addr}{o:Obj}(hb:b∈fp)(e:h.get? b=some o):(b,o)∈Q3 fp h:=ZY.mpr ⟨b,hb,by rw[e];rfl⟩
theorem gx{fp:List Addr}{h:Heap}{p:Addr×Obj}(hp:p∈Q3 fp h):p.1∈fp/\h.get? p.1=some p.2:=by
 obtain⟨b,hb,e⟩:=ZY.mp hp;cases q:h.get? b with
 |none=>rw[q] at e;cases e
 |some o=>
  rw[q] at e;have e':(b,o)=p:=Bl e;subst e';exact⟨hb,q⟩
theorem Inv.pinned{pins:List (Addr×Obj)}{σ:St}{H:Hp}{s:Shared}{fp:List Addr}(I:Inv X pins σ H s)(hf:∀b∈fp,Q2 X pins H b)(ho:∀b∈fp,∃o,s.heap.get? b=some o/\∀v,o.data≠ .cell v):Inv X (pins++Q3 fp s.heap) σ H s:=
 I.dZ λp hp=>(Eb.mp hp).elim (λz=>I.pin p (EF _ z)) λz=>by
  obtain⟨hb,e⟩:=gx z;obtain⟨f0,f1,f2,_⟩:=hf p.1 hb;obtain⟨o,e',d⟩:=ho p.1 hb;rw[e] at e';cases e';exact⟨e,f0,f1,f2,d⟩
theorem Inv.MY{pins pl:List (Addr×Obj)}{σ:St}{H:Hp}{s:Shared}(I:Inv X (pins++pl) σ H s):Inv X pins σ H s:=I.dZ λp hp=>I.pin p (EF _ (Lg _ hp))
theorem H_{iter:Expr}{body:List Stmt}{wi:TI}{g:TG}{tb:TS}{pos:Pos}(hp:PassesOwn (model X.prog X.w) X.A X.env X.xe)(hc:X.calm=true)(hi:PI X tg iter wi)(hg:PG X tg g)(hb:XU X body tb)
  (hs:∀x,foldedSetIterable iter X.env x=pure x:=by intro _;rfl):PS X (.For tg iter body [] pos) (AEi wi g tb):=by
 intro pins s σ H D I h;refine wpAny_For (Bt (hi pins s σ H _ I h) λv s1 h1=>Bt h1 λitv s2 h2=> ?_) hs;obtain⟨it,fp,tn,J,H2,e,I2,T,st2,f2,W,⟨m0,w0⟩,turn⟩:=h2;subst e;have aj:∀{H':Hp},(∀b∈fp,H' b=none)->∀b∈fp,Q2 X pins H' b:=λhn b hb=>⟨hn b hb,(f2 b hb).2⟩;refine codeAny_forLoop_any (λn s'=>∃i σ' H',Inv X pins σ' H' s'/\tn i s'.heap/\(∀b∈fp,H' b=none)/\W i n σ' H') ?_ m0 ⟨0,σ,H2,I2,st2,λb hb=>(f2 b hb).1,w0⟩;rintro n s3 ⟨i,σ3,H3,I3,st3,wm,w3⟩;rcases turn i n σ3 H3 w3 with⟨stop,qn⟩|⟨go,N,hN,step⟩
 ·refine wpAny_passesOwn hp (Bt (T.done X rfl rfl rfl hc i pins s3 σ3 H3 X.xe I3 (aj wm) st3 stop) λr s4 ⟨hr,I4⟩=> ?_);subst hr;exact wpAny_execs_nil ⟨σ3,H3,I4,qn⟩
 ·refine wpAny_passesOwn hp (Bt (T.item X rfl rfl rfl hc i pins s3 σ3 H3 X.xe I3 (aj wm) st3 go) λr s4 ⟨u,hr,h4⟩=> ?_);subst hr;refine wpAny_passesOwn hp (Bt h4 λ_ s5 ⟨x,H5,I5,r5,y5,st5,fr5⟩=> ?_);have I5':=I5.pinned (aj fr5) (T.obj _ _ st5);refine wpAny_passesOwn hp (Bt (hg _ s5 σ3 H5 x u _ I5' r5 (step x H5 y5)) λ_ s6 ⟨σ6,H6,I6,q6⟩=> ?_);refine wpAny_passesOwn hp (Bt (hb _ s6 σ6 H6 _ I6 q6) λf s7 q7=> ?_);have again:∀{σ7:St} {H7:Hp},Inv X (pins++Q3 fp s5.heap) σ7 H7 s7->N σ7 H7->∃m,m<n/\∃i σ' H',Inv X pins σ' H' s7/\tn i s7.heap/\(∀b∈fp,H' b=none)/\W i m σ' H':=λ{σ7 H7} I7 n7=>by
   obtain⟨m',hm,w7⟩:=hN σ7 H7 n7;refine⟨m',hm,i+1,σ7,H7,I7.MY,T.keep _ _ _ st5 λb hb o e=>(I7.pin (b,o) (EF _ (EF _ (L8 hb e)))).1,λb hb=> ?_,w7⟩;obtain⟨o,e,d⟩:=T.obj _ _ st5 b hb;exact(I7.pin (b,o) (EF _ (EF _ (L8 hb e)))).2.1
  cases f with
  |next=>obtain⟨σ7,H7,I7,n7⟩:=q7;exact again I7 n7
  |cont=>obtain⟨σ7,H7,I7,n7⟩:=q7;exact again I7 n7
  |brk=>obtain⟨σ7,H7,I7,q7⟩:=q7;exact⟨σ7,H7,I7.MY,q7⟩
  |ret v=>obtain⟨x7,σ7,H7,I7,r7,q7⟩:=q7;exact⟨x7,σ7,H7,I7.MY,r7,q7⟩
end
theorem XZ{K:Ab}{a:Addr}{xs:List V}{g:TG}{tb:TS}{D:Ends}{σ:St}{H:Hp}(Pv:Nat->St->Hp->Prop)(h0:Pv 0 σ H)(hl:∀i σ H,i<=xs.length->Pv i σ H->A_ K H a xs)
  (hs:∀i x σ H,xs[i]? =some x->Pv i σ H->g x σ H λσ2 H2=>tb {D with nx:=Pv (i+1),ct:=Pv (i+1),bk:=D.nx} σ2 H2) (hd:∀σ H,Pv xs.length σ H->D.nx σ H):
  ∃W:Nat->Nat->St->Hp->Prop,(∃m,W 0 m σ H)/\∀i m σ H,W i m σ H->
   ((XX K a).stop i H/\D.nx σ H)\/((XX K a).go i H/\∃N:St->Hp->Prop,(∀σ' H',N σ' H'->∃m',m'<m/\W (i+1) m' σ' H')/\∀x H',(XX K a).ah i H x H'->g x σ H' λσ2 H2=>tb {D with nx:=N,ct:=N,bk:=D.nx} σ2 H2):=by
 refine⟨λi m σ H=>m=xs.length - i/\i<=xs.length/\Pv i σ H,⟨xs.length,by simp,BR _,h0⟩,?_⟩;rintro i m σ H ⟨rfl,hi,p⟩;have q:=hl i σ H hi p;by_cases IA:i<xs.length
 ·refine .inr ⟨⟨xs,xs[i],q,by simp[IA]⟩,Pv (i+1),λσ' H' p'=>⟨xs.length - (i+1),by omega,rfl,IA,p'⟩,λx H' y=> ?_⟩;obtain⟨e,y⟩:=y;subst e;exact hs i x σ _ (y xs q) p
 ·have e:i=xs.length:=by omega
  subst e;exact .inl ⟨⟨xs,q,As _⟩,hd σ H p⟩
theorem Kw{lo:Int}{n:Nat}{g:TG}{tb:TS}{D:Ends}{σ:St}{H:Hp}(Pv:Nat->St->Hp->Prop)(h0:Pv 0 σ H)
  (hs:∀i σ H,i<n->Pv i σ H->g (.int (lo+i)) σ H λσ2 H2=>tb {D with nx:=Pv (i+1),ct:=Pv (i+1),bk:=D.nx} σ2 H2) (hd:∀σ H,Pv n σ H->D.nx σ H):
  ∃W:Nat->Nat->St->Hp->Prop,(∃m,W 0 m σ H)/\∀i m σ H,W i m σ H->
   ((tE lo n).stop i H/\D.nx σ H)\/((tE lo n).go i H/\∃N:St->Hp->Prop,(∀σ' H',N σ' H'->∃m',m'<m/\W (i+1) m' σ' H')/\∀x H',(tE lo n).ah i H x H'->g x σ H' λσ2 H2=>tb {D with nx:=N,ct:=N,bk:=D.nx} σ2 H2):=by
 refine⟨λi m σ H=>m=n - i/\i<=n/\Pv i σ H,⟨n,by simp,BR _,h0⟩,?_⟩;rintro i m σ H ⟨rfl,hi,p⟩;by_cases IA:i<n
 ·refine .inr ⟨IA,Pv (i+1),λσ' H' p'=>⟨n - (i+1),by omega,rfl,IA,p'⟩,λx H' y=> ?_⟩;obtain⟨e,y⟩:=y;subst e y;exact hs i σ _ IA p
 ·have e:i=n:=by omega
  subst e;exact .inl ⟨As _,hd σ H p⟩
theorem MZ{c:TT}{tb:TS}{D:Ends}{σ:St}{H:Hp}(Pv:St->Hp->Prop)(μ:St->Hp->Nat)(h0:Pv σ H)
  (hs:∀σ H,Pv σ H->c σ H λb H1=>if b=true then tb {D with nx:=λσ' H'=>Pv σ' H'/\μ σ' H'<μ σ H,ct:=λσ' H'=>Pv σ' H'/\μ σ' H'<μ σ H,bk:=D.nx} σ H1 else D.nx σ H1)
  (mono:∀σ H Q Q',(∀b H1,Q b H1->Q' b H1)->c σ H Q->c σ H Q'):ag c tb D σ H:=by
 refine⟨λm σ H=>m=μ σ H/\Pv σ H,⟨_,AA,h0⟩,?_⟩;rintro m σ H ⟨rfl,p⟩;refine mono σ H _ _ (λb H1 q=> ?_) (hs σ H p);cases b with
 |true=>exact⟨_,λσ' H' ⟨p',l⟩=>⟨_,l,AA,p'⟩,q⟩
 |false=>exact q
end L2
namespace L2
open PySem PySem.Spec PyProof.Rows
abbrev R2:=V->V->Hp->VK->Prop
def LG(X:Cx)(f:Value->Value->Sem Value)(r:R2):Prop:=
 ∀(pins:List (Addr×Obj)) (s:Shared) (σ:St) (H:Hp) (x y:V) (v u:Value) (Q:VK),Inv X pins σ H s->RelV x v->RelV y u->r x y H Q->
  wpAny (model X.prog X.w) X.A (f v u) (EP X pins σ Q) X.xe s
def UnR(X:Cx)(f:Value->Sem Value)(r:V->Hp->VK->Prop):Prop:=
 ∀(pins:List (Addr×Obj)) (s:Shared) (σ:St) (H:Hp) (x:V) (v:Value) (Q:VK),Inv X pins σ H s->RelV x v->r x H Q->
  wpAny (model X.prog X.w) X.A (f v) (EP X pins σ Q) X.xe s
def Ox(X:Cx)(f:Value)(r:List V->Hp->VK->Prop):Prop:=
 ∀(pins:List (Addr×Obj)) (s:Shared) (σ:St) (H:Hp) (xs:List V) (us:List Value) (Q:VK),Inv X pins σ H s->Vals xs us->r xs H Q->
  wpAny (model X.prog X.w) X.A (call f us) (EP X pins σ Q) X.xe s
def AEj(X:Cx)(r:V->Hp->(Bool->Hp->Prop)->Prop):Prop:=
 ∀(pins:List (Addr×Obj)) (s:Shared) (σ:St) (H:Hp) (x:V) (v:Value) (Q:Bool->Hp->Prop),Inv X pins σ H s->RelV x v->r x H Q->
  wpAny (model X.prog X.w) X.A (truthy v) (TP X pins σ Q) X.xe s
def Pj(r:R2)(ta tb:TE):TE:=λσ H Q=>ta σ H λx H1=>tb σ H1 λy H2=>r x y H2 Q
def tUn(r:V->Hp->VK->Prop)(ta:TE):TE:=λσ H Q=>ta σ H λx H1=>r x H1 Q
inductive rI(C:Int->Int->Prop)(g:Int->Int->V):R2
 |mk (i j:_):x= .int i->y= .int j->C i j->Q (g i j) H->rI C g x y H Q
inductive gy(g:Int->Int->V):R2
 |mk (i j:_):x= .int i->y= .int j->Q (g i j) H->gy g x y H Q
inductive rU(g:Int->V):V->Hp->VK->Prop
 |mk (i:_):x= .int i->Q (g i) H->rU g x H Q
section
variable{X:Cx}{a b c:Expr}{ta tb tc:TE}{pos:Pos}
theorem zP(ha:PE X a ta)(hb:PE X b tb){pins:List (Addr×Obj)}{s:Shared}{σ:St}{H:Hp}{R:V->V->Hp->Prop}(I:Inv X pins σ H s)
  (h:ta σ H λx H1=>tb σ H1 λy H2=>R x y H2) {Q:Value->Shared->Prop} {f:Value->Value->Sem Value}
  (hf:∀v u s2 x y H2,Inv X pins σ H2 s2->RelV x v->RelV y u->R x y H2->wpAny (model X.prog X.w) X.A (f v u) Q X.xe s2):
  wpAny (model X.prog X.w) X.A (eval a X.env) (λv s₁=>wpAny (model X.prog X.w) X.A (eval b X.env) (λu s₂=>wpAny (model X.prog X.w) X.A (f v u) Q X.xe s₂) X.xe s₁) X.xe s:=by
 refine Bt (ha pins s σ H _ I h) λv s1 ⟨x,H1,I1,r1,q1⟩=> ?_;refine Bt (hb pins s1 σ H1 _ I1 q1) λu s2 ⟨y,H2,I2,r2,q2⟩=> ?_;exact hf v u s2 x y H2 I2 r1 r2 q2
theorem Ay{op:Operator}{r:R2}(ho:LG X (binaryOp op) r)(ha:PE X a ta)(hb:PE X b tb):PE X (.BinOp a op b pos) (Pj r ta tb):=by
 intro pins s σ H Q I h;exact wpAny_BinOp (zP ha hb I h λv u s2 x y H2 I2 rx ry q=>ho pins s2 σ H2 x y v u Q I2 rx ry q)
theorem ACc{op:UnaryOp}{r:V->Hp->VK->Prop}(ho:UnR X (unaryOp op) r)(ha:PE X a ta):PE X (.UnaryOp op a pos) (tUn r ta):=by
 intro pins s σ H Q I h;exact UnaryOp_ (Bt (ha pins s σ H _ I h) λv s1 ⟨x,H1,I1,r1,q1⟩=>ho pins s1 σ H1 x v Q I1 r1 q1)
theorem AEk{op:Operator}{r:R2}(ho:LG X (inplaceOp op) r){pins:List (Addr×Obj)}{s:Shared}{σ:St}{H:Hp}{x y:V}{v u:Value}{Q:VK}(I:Inv X pins σ H s)
  (rx:RelV x v) (ry:RelV y u) (q:r x y H Q):wpAny (model X.prog X.w) X.A (inplaceOp op v u) (EP X pins σ Q) X.xe s:=ho pins s σ H x y v u Q I rx ry q
theorem zQ{f:Value->Value->Sem Value}{C:Int->Int->Prop}{g:Int->Int->Int}
  (rule:∀(i j:Int) (t u:Tok) (s:Shared) (Q:Value->Shared->Prop) (E:Value->Shared->Prop),C i j->Q (.int (g i j) s.toks) {s with toks:=s.toks+1}->wpAny (model X.prog X.w) X.A (f (.int i t) (.int j u)) Q E s):
  LG X f (rI C λi j=> .int (g i j)):=by
 intro pins s σ H x y v u Q I rx ry h;obtain⟨i,j,rfl,rfl,hc,q⟩:=h;obtain⟨t,rfl⟩:=rx;obtain⟨t',rfl⟩:=ry;exact rule i j t t' s _ _ hc ⟨.int (g i j),H,I.tok _,⟨_,rfl⟩,q⟩
theorem zS{f:Value->Value->Sem Value}{g:Int->Int->Int}
  (rule:∀(i j:Int) (t u:Tok) (s:Shared) (Q:Value->Shared->Prop) (E:Value->Shared->Prop),Q (.int (g i j) s.toks) {s with toks:=s.toks+1}->wpAny (model X.prog X.w) X.A (f (.int i t) (.int j u)) Q E s):
  LG X f (gy λi j=> .int (g i j)):=by
 intro pins s σ H x y v u Q I rx ry h;obtain⟨i,j,rfl,rfl,q⟩:=h;obtain⟨t,rfl⟩:=rx;obtain⟨t',rfl⟩:=ry;exact rule i j t t' s _ _ ⟨.int (g i j),H,I.tok _,⟨_,rfl⟩,q⟩
theorem tj{f:Value->Value->Sem Value}{g:Int->Int->Bool}
  (rule:∀(i j:Int) (t u:Tok) (s:Shared) (Q:Value->Shared->Prop) (E:Value->Shared->Prop),Q (.bool (g i j)) s->wpAny (model X.prog X.w) X.A (f (.int i t) (.int j u)) Q E s):
  LG X f (gy λi j=> .bl (g i j)):=by
 intro pins s σ H x y v u Q I rx ry h;obtain⟨i,j,rfl,rfl,q⟩:=h;obtain⟨t,rfl⟩:=rx;obtain⟨t',rfl⟩:=ry;exact rule i j t t' s _ _ ⟨.bl (g i j),H,I,rfl,q⟩
def ACd(i j:Int):Prop:=0<=j/\j<=1000000/\i.natAbs<2^64
def gz(i j:Int):Prop:=(-(2^64)<i/\i<2^64)\/(-(2^64)<j/\j<2^64)
theorem gz.ok{i j:Int}(h:gz i j):IntMulOk i j:=by
 rcases h with⟨h1,h2⟩|⟨h1,h2⟩
 ·exact .of_left (intBits_le_64 h1 h2)
 ·exact .of_right (intBits_le_64 h1 h2)
theorem ak(k:Nat):(0:Int)<=2^k:=by
 rw[two_pow_cast];exact k6 _
theorem EW:LG X (binaryOp .Add) (gy λi j=> .int (i+j)):=zS λ_ _ _ _ _ _ _ q=>add_int q
theorem Er:LG X (binaryOp .Sub) (gy λi j=> .int (i - j)):=zS λ_ _ _ _ _ _ _ q=>sub_int q
theorem nZ:LG X (binaryOp .Mult) (rI gz λi j=> .int (i*j)):=zQ λ_ _ _ _ _ _ _ hc q=>mul_int q hc.ok
theorem ng:LG X (binaryOp .Mod) (rI (λ_ j=>0<j) λi j=> .int (i%j)):=zQ λi j _ _ _ _ _ hc q=>by
 have h1:(0:Int)<j:=hc;exact mod_int' (by omega) (by rw[Int.fmod_eq_emod_of_nonneg i (by omega)];exact q)
theorem nh:LG X (binaryOp .LShift) (rI ACd λi j=> .int (i*2^j.toNat)):=zQ λ_ _ _ _ _ _ _ hc q=>lshift_int_small hc.1 hc.2.1 hc.2.2 q
theorem ao:LG X (binaryOp .RShift) (rI (λ_ j=>0<=j) λi j=> .int (i / 2^j.toNat)):=zQ λi j _ _ _ _ _ hc q=>
 rshift_int hc (by rw[kz i (ak _)];exact q)
theorem ni:LG X (binaryOp .BitAnd) (gy λi j=> .int (VU i j)):=zS λ_ _ _ _ _ _ _ q=>and_int q
theorem tm:LG X (inplaceOp .Mult) (rI gz λi j=> .int (i*j)):=zQ λ_ _ _ _ _ _ _ hc q=>imul_int q hc.ok
theorem unI{f:Value->Sem Value}{g:Int->Int}
  (rule:∀(i:Int) (t:Tok) (s:Shared) (Q:Value->Shared->Prop) (E:Value->Shared->Prop),Q (.int (g i) s.toks) {s with toks:=s.toks+1}->wpAny (model X.prog X.w) X.A (f (.int i t)) Q E s):
  UnR X f (rU λi=> .int (g i)):=by
 intro pins s σ H x v Q I rx h;obtain⟨i,rfl,q⟩:=h;obtain⟨t,rfl⟩:=rx;exact rule i t s _ _ ⟨.int (g i),H,I.tok _,⟨_,rfl⟩,q⟩
theorem zT:UnR X (unaryOp .USub) (rU λi=> .int (-i)):=unI λ_ _ _ _ _ q=>neg_int q
end
def ACe:V->V->Bool
 | .Dg,.Dg=>true| .Dg,.int _=>true| .int _,.Dg=>true| .Dg,.bl _=>true| .bl _,.Dg=>true| .Dg,.str _=>true| .str _,.Dg=>true
 | .int _,.int _=>true| .bl _,.bl _=>true| .str _,.str _=>true| .XI _,.XI _=>true
 | .int _,.str _=>true| .str _,.int _=>true| .bl _,.str _=>true| .str _,.bl _=>true
 |_,_=>false
def rEq:R2:=λx y H Q=>ACe x y=true/\Q (.bl (decide (x=y))) H
def rNe:R2:=λx y H Q=>ACe x y=true/\Q (.bl (!decide (x=y))) H
theorem dg{i j:Int}:decide (V.int i=V.int j)=(i==j):=by
 rw[Jj];simp
theorem nj{i j:Bool}:decide (V.bl i=V.bl j)=(i==j):=by
 rw[Jj];simp
theorem dh{i j:Str}:decide (V.str i=V.str j)=(i==j):=by
 rw[Jj];simp
theorem di{i j:Array UInt8}:decide (V.XI i=V.XI j)=(i.toList==j.toList):=by
 rw[Jj];cases i;cases j;simp
section
variable{X:Cx}{a b c:Expr}{ta tb tc:TE}{pos:Pos}
theorem BU{pins:List (Addr×Obj)}{σ:St}{H:Hp}{s:Shared}{Q:VK}{k k':Bool}(I:Inv X pins σ H s)(q:Q (.bl k) H)(e:k=k'):EP X pins σ Q (.bool k') s:=by
 subst e;exact⟨.bl k,H,I,AA,q⟩
theorem B_:LG X (compareOp .Eq) rEq:=by
 intro pins s σ H x y v u Q I rx ry h;obtain⟨hs,q⟩:=h;cases x with
 |Dg=>
  cases rx;cases y with
  |Dg=>cases ry;exact yn (BU I q (by simp))
  |bl j=>cases ry;exact yp (BU I q (by simp))
  |int j=>obtain⟨t',rfl⟩:=ry;exact yo (BU I q (by simp))
  |str j=>obtain⟨t',rfl⟩:=ry;exact ym (BU I q (by simp))
  |_=>exact absurd (show false=true from hs) DA
 |bl i=>
  cases rx;cases y with
  |Dg=>cases ry;exact yr (BU I q (by simp))
  |bl j=>cases ry;exact eq_bool (BU I q nj)
  |str j=>obtain⟨t',rfl⟩:=ry;exact ya (BU I q (by simp))
  |_=>exact absurd (show false=true from hs) DA
 |int i=>
  obtain⟨t,rfl⟩:=rx;cases y with
  |Dg=>cases ry;exact yq (BU I q (by simp))
  |int j=>obtain⟨t',rfl⟩:=ry;exact eq_int (BU I q dg)
  |str j=>obtain⟨t',rfl⟩:=ry;exact yZ (BU I q (by simp))
  |_=>exact absurd (show false=true from hs) DA
 |str i=>
  obtain⟨t,rfl⟩:=rx;cases y with
  |Dg=>cases ry;exact yl (BU I q (by simp))
  |bl j=>cases ry;exact yY (BU I q (by simp))
  |int j=>obtain⟨t',rfl⟩:=ry;exact yX (BU I q (by simp))
  |str j=>obtain⟨t',rfl⟩:=ry;exact eq_str (BU I q dh)
  |_=>exact absurd (show false=true from hs) DA
 |XI i=>
  obtain⟨t,rfl⟩:=rx;cases y with
  |XI j=>obtain⟨t',rfl⟩:=ry;exact PySem.W.eq_bytes (BU I q di)
  |_=>exact absurd (show false=true from hs) DA
 |_=>cases y <;> exact absurd (show false=true from hs) DA
theorem wo:LG X (compareOp .NotEq) rNe:=by
 intro pins s σ H x y v u Q I rx ry h;obtain⟨hs,q⟩:=h;cases x with
 |Dg=>
  cases rx;cases y with
  |Dg=>cases ry;exact yg (BU I q (by simp))
  |bl j=>cases ry;exact yi (BU I q (by simp))
  |int j=>obtain⟨t',rfl⟩:=ry;exact yh (BU I q (by simp))
  |str j=>obtain⟨t',rfl⟩:=ry;exact yf (BU I q (by simp))
  |_=>exact absurd (show false=true from hs) DA
 |bl i=>
  cases rx;cases y with
  |Dg=>cases ry;exact yk (BU I q (by simp))
  |bl j=>cases ry;exact ne_bool (BU I q (congrArg not nj))
  |str j=>obtain⟨t',rfl⟩:=ry;exact yW (BU I q (by simp))
  |_=>exact absurd (show false=true from hs) DA
 |int i=>
  obtain⟨t,rfl⟩:=rx;cases y with
  |Dg=>cases ry;exact yj (BU I q (by simp))
  |int j=>obtain⟨t',rfl⟩:=ry;exact ne_int (BU I q (congrArg not dg))
  |str j=>obtain⟨t',rfl⟩:=ry;exact yV (BU I q (by simp))
  |_=>exact absurd (show false=true from hs) DA
 |str i=>
  obtain⟨t,rfl⟩:=rx;cases y with
  |Dg=>cases ry;exact ye (BU I q (by simp))
  |bl j=>cases ry;exact yU (BU I q (by simp))
  |int j=>obtain⟨t',rfl⟩:=ry;exact yT (BU I q (by simp))
  |str j=>obtain⟨t',rfl⟩:=ry;exact ne_str (BU I q (congrArg not dh))
  |_=>exact absurd (show false=true from hs) DA
 |XI i=>
  obtain⟨t,rfl⟩:=rx;cases y with
  |XI j=>obtain⟨t',rfl⟩:=ry;exact PySem.W.ne_bytes (BU I q (congrArg not di))
  |_=>exact absurd (show false=true from hs) DA
 |_=>cases y <;> exact absurd (show false=true from hs) DA
theorem nq:LG X (compareOp .Lt) (gy λi j=> .bl (decide (i<j))):=tj λ_ _ _ _ _ _ _ q=>lt_int q
theorem Q4:LG X (compareOp .LtE) (gy λi j=> .bl (decide (i<=j))):=tj λ_ _ _ _ _ _ _ q=>le_int q
theorem CK:LG X (compareOp .Gt) (gy λi j=> .bl (decide (j<i))):=tj λ_ _ _ _ _ _ _ q=>gt_int q
theorem Oy:LG X (compareOp .GtE) (gy λi j=> .bl (decide (j<=i))):=tj λ_ _ _ _ _ _ _ q=>ge_int q
theorem zV:LG X (compareOp .Is) (λx y H Q=>y= .Dg/\Q (.bl (decide (x= .Dg))) H):=by
 intro pins s σ H x y v u Q I rx ry h;obtain⟨rfl,q⟩:=h;cases ry;refine is_none_gen (BU I q ?_);cases x <;> first
  |(cases rx;rfl)
  |(obtain⟨t,rfl⟩:=rx;rfl)
theorem Ai(b:Expr){op:CmpOp}(h:op≠ .In:=by decide)(h2:op≠ .NotIn:=by decide):behindInMarks op b=false:=by
 have e1:(op==CmpOp.In)=false:=by cases op <;> first|rfl|exact absurd rfl h
 have e2:(op==CmpOp.NotIn)=false:=by cases op <;> first|rfl|exact absurd rfl h2
 cases b <;> simp[behindInMarks,e1,e2]
theorem Ma{op:CmpOp}{r:R2}(ho:LG X (compareOp op) r)(ha:PE X a ta)(hb:PE X b tb)(hm:behindInMarks op b=false):PE X (.Compare a [op] [b] pos) (Pj r ta tb):=by
 intro pins s σ H Q I h;exact wpAny_Compare1 (zP ha hb I h λv u s2 x y H2 I2 rx ry q=>ho pins s2 σ H2 x y v u Q I2 rx ry q) hm
def KW(t:TE):TT:=λσ H Q=>t σ H (tBK Q)
theorem Af{op:CmpOp}{r:R2}(ho:LG X (compareOp op) r)(ha:PE X a ta)(hb:PE X b tb)(hm:behindInMarks op b=false):PT X (.Compare a [op] [b] pos) (KW (Pj r ta tb)):=by
 intro pins s σ H Q I h;refine wpAny_isTrue_Compare1 (Bt (ha pins s σ H _ I h) λv s1 ⟨x,H1,I1,r1,q1⟩=>Bt (hb pins s1 σ H1 _ I1 q1) λu s2 ⟨y,H2,I2,r2,q2⟩=>
  Bt (ho pins s2 σ H2 x y v u _ I2 r1 r2 q2) λc s3 ⟨z,H3,I3,r3,k,e,q3⟩=> ?_) hm
 subst e;cases r3;exact wpAny_truthy_bool ⟨H3,I3,q3⟩
def nr(r r':R2)(ta tb tc:TE):TE:=λσ H Q=>ta σ H λx H1=>tb σ H1 λy H2=>r x y H2 λz H3=>∃k,z= .bl k/\
 (if k=true then tc σ H3 λw' H4=>r' y w' H4 Q else Q (.bl false) H3)
theorem Xa{op zX:CmpOp}{r r':R2}(ho:LG X (compareOp op) r)(dW:LG X (compareOp zX) r')(ha:PE X a ta)(hb:PE X b tb)(hc:PE X c tc)
  (hm:lastMarks [op,zX] [b,c]=false:=by with_unfolding_all rfl):PE X (.Compare a [op,zX] [b,c] pos) (nr r r' ta tb tc):=by
 intro pins s σ H Q I h;refine Compare_chain (Bt (ha pins s σ H _ I h) λv s1 ⟨x,H1,I1,r1,q1⟩=>chain_link (Bt (hb pins s1 σ H1 _ I1 q1) λu s2 ⟨y,H2,I2,r2,q2⟩=>
  Bt (ho pins s2 σ H2 x y v u _ I2 r1 r2 q2) λd s3 ⟨z,H3,I3,r3,k,e,q3⟩=> ?_)) hm
 subst e;cases r3;refine wpAny_truthy_bool ?_;cases k with
 |false=>exact ite_ff ⟨.bl false,H3,I3,rfl,q3⟩
 |true=>exact ite_tt (chain_last (Bt (hc pins s3 σ H3 _ I3 q3) λw' s4 ⟨z',H4,I4,r4,q4⟩=>dW pins s4 σ H4 y z' u w' Q I4 r2 r4 q4))
theorem nu{op zX:CmpOp}{r r':R2}(ho:LG X (compareOp op) r)(dW:LG X (compareOp zX) r')(ha:PE X a ta)(hb:PE X b tb)(hc:PE X c tc)
  (hm:lastMarks [op,zX] [b,c]=false:=by with_unfolding_all rfl):PT X (.Compare a [op,zX] [b,c] pos) (KW (nr r r' ta tb tc)):=by
 intro pins s σ H Q I h;refine isTrue_chain (Bt (ha pins s σ H _ I h) λv s1 ⟨x,H1,I1,r1,q1⟩=>test_link (Bt (hb pins s1 σ H1 _ I1 q1) λu s2 ⟨y,H2,I2,r2,q2⟩=>
  Bt (ho pins s2 σ H2 x y v u _ I2 r1 r2 q2) λd s3 ⟨z,H3,I3,r3,k,e,q3⟩=> ?_)) hm
 subst e;cases r3;refine wpAny_truthy_bool ?_;cases k with
 |false=>
  obtain⟨k',e',q'⟩:=q3;cases e';exact ite_ff ⟨H3,I3,q'⟩
 |true=>
  refine ite_tt (test_last (Bt (hc pins s3 σ H3 _ I3 q3) λw' s4 ⟨z',H4,I4,r4,q4⟩=>Bt (dW pins s4 σ H4 y z' u w' _ I4 r2 r4 q4) λd' s5 ⟨z2,H5,I5,r5,k2,e2,q5⟩=> ?_));subst e2;cases r5;exact wpAny_truthy_bool ⟨H5,I5,q5⟩
def tq(K:Ab)(x:V)(H:Hp)(k:Bool):Prop:=
 match x with
 | .Dg=>k=false
 | .bl b=>k=b
 | .int i=>k=(i !=0)
 | .str y=>y.length<=sizeLine/\k=((y.length:Int) !=0)
 | .XI y=>y.size<=sizeLine/\k=((y.size:Int) !=0)
 | .ref p=>(∃xs,A_ K H p xs/\k= !xs.isEmpty)\/(∃xs,Bi K H p xs/\k= !xs.isEmpty)\/∃AZ,H p=some (.dK AZ)/\k= !AZ.isEmpty
 |_=>False
theorem aq{κ:Type}{AZ:List (κ×V)}{vs:List (κ×Value)}(r:KV AZ vs):(!vs.isEmpty)= !AZ.isEmpty:=by
 cases r <;> rfl
theorem Q5{xs:List V}{its:List Value}(r:Vals xs its):(!its.toArray.isEmpty)= !xs.isEmpty:=by
 cases r <;> simp
theorem Q6:(sizeLine:Nat)<2^63:=by rw[sizeLine_eq];decide
theorem nv:AEj X (λx H Q=>∃k,tq X.K x H k/\Q k H):=by
 intro pins s σ H x v Q I rx h;obtain⟨k,e,q⟩:=h;have hl:=Q6;have hs:sizeLine=16777216:=sizeLine_eq;cases x with
 |Dg=>
  cases rx;have e':k=false:=e;subst e';exact truthy_none ⟨H,I,q⟩
 |bl b=>
  cases rx;have e':k=b:=e;subst e';exact wpAny_truthy_bool ⟨H,I,q⟩
 |int i=>
  obtain⟨t,rfl⟩:=rx;have e':k=(i !=0):=e;subst e';exact PySem.P.truthy_int ⟨H,I,q⟩
 |str y=>
  obtain⟨t,rfl⟩:=rx;obtain⟨hy,e'⟩:y.length<=sizeLine/\k=((y.length:Int) !=0):=e;subst e';exact PySem.P.truthy_str (by omega) ⟨H,I.tok _,q⟩
 |XI y=>
  obtain⟨t,rfl⟩:=rx;obtain⟨hy,e'⟩:y.size<=sizeLine/\k=((y.size:Int) !=0):=e;subst e';exact PySem.W.truthy_bytes (by omega) ⟨H,I.tok _,q⟩
 |ref p=>
  cases rx;have e':(∃xs,A_ X.K H p xs/\k= !xs.isEmpty)\/(∃xs,Bi X.K H p xs/\k= !xs.isEmpty)\/∃AZ,H p=some (.dK AZ)/\k= !AZ.isEmpty:=e;rcases e' with⟨xs,hx,e'⟩|⟨xs,hx,e'⟩|⟨AZ,hx,e'⟩
  ·subst e';obtain⟨its,r,pl,hz⟩:=I.list hx;have hlen:=r.length;exact wpAny_truthy_list pl.isList (by simp only[Br];omega) ⟨H,I.tok _,by rw[Q5 r];exact q⟩
  ·subst e';obtain⟨its,r,pl,hz⟩:=I.tuple hx;have hlen:=r.length;exact truthy_tuple pl (by simp only[Br];omega) ⟨H,I.tok _,by rw[Q5 r];exact q⟩
  ·subst e';obtain⟨hz,hS,vs,r,m⟩:AZ.length<=sizeLine/\(p==sysModules)=false/\∃vs,KV AZ vs/\s.heap.DictOf (Bf X.prog X.w) p vs:=I.BS p _ hx;have hlen:AZ.length=vs.length:=Paired.length r;exact wpAny_truthy_dict hS m (by omega) ⟨H,I.tok _,by rw[aq r];exact q⟩
 |_=>exact(show False from e).elim
theorem Ar(ha:PE X a ta)(he:∀whole,isTrue a X.env whole=(do let v←whole;standAt a.pos;holding [v] (truthy v))):
  PT X a (λσ H Q=>ta σ H λx H'=>∃k,tq X.K x H' k/\Q k H'):=by
 intro pins s σ H Q I h;exact isTrue_plain (Bt (ha pins s σ H _ I h) λv s1 ⟨x,H1,I1,r1,q1⟩=>nv pins s1 σ H1 x v Q I1 r1 q1) (he _)
theorem vals1{x:V}{us:List Value}(r:Vals [x] us):∃u,us= [u]/\RelV x u:=by
 cases r with
 |cons r1 r2=>cases r2;exact⟨_,AA,r1⟩
theorem vals2{x y:V}{us:List Value}(r:Vals [x,y] us):∃u w',us= [u,w']/\RelV x u/\RelV y w':=by
 cases r with
 |cons r1 r2=>
  cases r2 with
  |cons r3 r4=>cases r4;exact⟨_,_,AA,r1,r3⟩
theorem ny:Ox X (.builtin "abs") (λxs H Q=>∃i,xs= [.int i]/\Q (.int (if i<0 then -i else i)) H):=by
 intro pins s σ H xs us Q I r h;obtain⟨i,rfl,q⟩:=h;obtain⟨u,rfl,t,rfl⟩:=vals1 r;exact call_abs_int λu tk=>⟨.int (if i<0 then -i else i),H,I.tok _,⟨_,rfl⟩,q⟩
end
end L2
namespace L2
open PySem PySem.Spec PyProof.Rows
structure au(h:Heap)(x dx C:Addr)(mA:Str->Option Value):Prop where
 obj:h.get? x=some (J9 C dx)
 ns:h.Ns1 dx mA
 ne:dx≠x
theorem g4{h:Heap}{dx:Addr}{mA:Str->Option Value}(n:h.Ns1 dx mA):∃od,h.get? dx=some od/\∀name,Uq name od=some (mA name):=by
 obtain⟨o,es,ep,ho,hd,hk,_,hm⟩:=n;refine⟨o,ho,λname=> ?_⟩;have e:=hm name;unfold nsFind findBy at e;rw[←Array.find?_toList] at e;unfold Uq;rw[hd];dsimp only;split
 ·rename_i y q;rw[q] at e;exact congrArg some e
 ·rename_i q;rw[q] at e;have a:es.toList.any (·.refKey)=false:=by
   rw[List.any_eq_false];intro y hy;obtain⟨z,t,Vg⟩:=hk y (Array.mem_toList_iff.mp hy);simp[DictEntry.refKey,Vg]
  have a':¬es.toList.any (·.refKey)=true:=by rw[a];exact DA
  rw[AB a'];exact congrArg some e
theorem au.look{h:Heap}{x dx C:Addr}{mA:Str->Option Value}(I:au h x dx C mA):∃od,PySem.W.InstAt h x (J9 C dx) C (some od)/\∀name,Uq name od=some (mA name):=
 let⟨od,ho,hl⟩:=g4 I.ns
 ⟨od,⟨I.obj,rfl,rfl,ho⟩,hl⟩
section
variable{prog:Program}{w:World}{A:Around}{E:Value->Shared->Prop}{s:Shared}{K:Ab}{x dx C f:Addr}{mA:Str->Option Value}{name:Str}{v:Value}
theorem get_map{expr:Bool}{Q:Value->Shared->Prop}(X:K.In s.heap)(I:au s.heap x dx C mA)(hg:QR K C name=true)(hh:Uo K C=true)
  (ha:IH K (.ref C) name=some none) (hv:mA name=some v) (hv':j4 v=true) (h:Q v {s with toks:=s.toks+1}):
  wpAny (model prog w) A (getAttr (.ref x) name expr) Q E s:=by
 obtain⟨od,J,hl⟩:=I.look;exact PySem.W.get_value X J (ZN hg).1 (PySem.W.findObj_own hh ha rfl (by rw[hl,hv])) hv' h
theorem nz{pl:Sem Bool}{Q:Value×List Value->Shared->Prop}(X:K.In s.heap)(I:au s.heap x dx C mA)(hg:QR K C name=true)
  (hf:IH K (.ref C) name=some (some (.ref f))) (ht:QS K (.ref f)=true) (hv:mA name=none) (h:Q (.ref f,[.ref x]) s):
  wpAny (model prog w) A (getMethod (.ref x) name pl) Q E s:=by
 obtain⟨od,J,hl⟩:=I.look;exact PySem.W.method_fn X J (ZN hg).1 (ZN hg).2 hf (beq_iff_eq.mp ht) (by show(Uq name od).map (·.isSome)=some false;rw[hl,hv];rfl) h
theorem tu{ns:List Str}{Q:Unit->Shared->Prop}(X:K.In s.heap)(I:au s.heap x dx C mA)
  (hs:IH K (.ref C) "__setattr__"=some (some (.builtin "object.__setattr__"))) (hp:ZP K C=true) (ht:ZR K C name=some none) (hh:Uo K C=true)
  (hw:Z8 mA ns) (hsz:ns.length<=sizeLine)
  (h:∀h',au h' x dx C (λy=>if y=name then some v else mA y)->Hu dx s.heap h'->Q () {s with heap:=h',toks:=s.toks+2}):
  wpAny (model prog w) A (setAttr (.ref x) name v) Q E s:=by
 obtain⟨od,J,hl⟩:=I.look;refine PySem.W.set_plain X J hs (PySem.W.osa_open (s:={s with toks:=s.toks+1}) (r:=none) X J hp ht λb=> ?_);obtain⟨cd,hc,tD⟩:=PySem.W.any_some hh;have hx:s.heap.get? x=some ⟨.ref C,some dx,.plain,#[]⟩:=I.obj;refine wpAny_bind (wpAny_pure (wpAny_bind (wpAny_bind (wpAny_loadPart hx (wpAny_bind (yS (s:={s with toks:=s.toks+1}) (PySem.W.looks_clsIn X hc) ?_))))));rw[tD];refine wpAny_pure (a:=some dx) (wpAny_bind (wpAny_pure (wpAny_bind ?_)));refine wpAny_nsSet1 (s:={s with toks:=s.toks+1}) I.ns λh' hn2 Vf=> ?_;obtain⟨oD,esD,epD,hoD,hdD,hcD⟩:=hn2.count (yd name v hw);refine wpAny_bind (wpAny_lookBehind hoD (by rw[hdD];exact pastItsLine_dict (A6 hcD (by rw[CD];omega))) ?_);exact wpAny_pure (h _ ⟨(Vf.2 _ (F9 I.ne)).trans I.obj,hn2,I.ne⟩ Vf)
theorem n_{R:Result->Shared->Prop}{vs:List Value}{kw:List (Str×Value)}(X:K.In s.heap)(hm:Up K C=true)
  (hi:IH K (.ref C) "__init__"=some (some (.ref f))) (hf:j6 K (.ref f)=some (.type "function"))
  (h:codeAny (model prog w) (A.under (.builtin "type.__call__" ⟨.ref C::vs,kw⟩)) (.call (.ref f) ⟨.ref (s.heap.objs.size+1)::vs,kw⟩) (PySem.W.InitBack (s.heap.objs.size+1) R)
   {s with heap:=(s.heap.push MR).push (J9 C s.heap.objs.size)}):
  codeAny (model prog w) A (.call (.ref C) ⟨vs,kw⟩) R s:=by
 obtain⟨hh,g,d,t,os⟩:=s;exact PySem.W.make_core (PySem.W.makes_of X hm) (PySem.W.looks_findIn X hi) (λself=>PySem.W.bind_fn X self hf) (.inl rfl) h
end
def DB(f:Str)(v:V):List (Str×V)->List (Str×V)
 | []=> [(f,v)]
 |(g,x)::r=>if g=f then(g,v)::r else(g,x)::DB f v r
theorem Oz(f g:Str)(v:V):∀fs:List (Str×V),(DB f v fs).lookup g=if g=f then some v else fs.lookup g
 | []=>by
  show Gp g [(f,v)]=_;by_cases h:g=f
  ·have hb:(g==f)=true:=beq_iff_eq.mpr h;simp only[Gp,hb,AG h]
  ·have hb:(g==f)=false:=beq_eq_false_iff_ne.mpr h;simp only[Gp,hb,AB h]
 |(k,x)::r=>by
  have ih:=Oz f g v r;rw[show DB f v ((k,x)::r)=(if k=f then(k,v)::r else(k,x)::DB f v r) from rfl];by_cases hk:k=f
  ·rw[AG hk];by_cases h:g=k
   ·have hb:(g==k)=true:=beq_iff_eq.mpr h;simp only[Gp,hb,AG (h.trans hk)]
   ·have hb:(g==k)=false:=beq_eq_false_iff_ne.mpr h;simp only[Gp,hb,AB (λe:g=f=>h (e.trans hk.symm))]
  ·rw[AB hk];by_cases h:g=k
   ·have hb:(g==k)=true:=beq_iff_eq.mpr h;simp only[Gp,hb,AB (λe:g=f=>hk (h.symm.trans e))]
   ·have hb:(g==k)=false:=beq_eq_false_iff_ne.mpr h;simp only[Gp,hb];exact ih
theorem N5(f:Str)(v:V):∀fs:List (Str×V),f∈(DB f v fs).map (·.1)/\∀g,g∈fs.map (·.1)->g∈(DB f v fs).map (·.1)
 | []=>⟨by simp[DB],λg h=>by simp at h⟩
 |(k,x)::r=>by
  obtain⟨i1,i2⟩:=N5 f v r;rw[show DB f v ((k,x)::r)=(if k=f then(k,v)::r else(k,x)::DB f v r) from rfl];by_cases hk:k=f
  ·rw[AG hk];subst hk;exact⟨by simp,λg h=>by simpa using h⟩
  ·rw[AB hk];refine⟨?_,λg h=> ?_⟩
   ·rw[B7];exact Bb _ i1
   ·rw[B7] at h ⊢;rcases BQ.mp h with e|e
    ·exact BQ.mpr (.inl e)
    ·exact Bb _ (i2 g e)
theorem O7(f:Str)(v:V):∀fs:List (Str×V),(DB f v fs).length<=fs.length+1
 | []=>by simp[DB]
 |(k,x)::r=>by
  have ih:=O7 f v r;rw[show DB f v ((k,x)::r)=(if k=f then(k,v)::r else(k,x)::DB f v r) from rfl];by_cases hk:k=f
  ·rw[AG hk,CD,CD];omega
  ·rw[AB hk,CD,CD];omega
theorem Jx.some_of{v:V}{o:Option Value}(r:Jx (some v) o):∃u,o=some u/\RelV v u:=by
 cases o with
 |none=>exact(show False from r).elim
 |some u=>exact⟨u,AA,r⟩
theorem Jx.none_of{o:Option Value}(r:Jx none o):o=none:=by
 cases o with
 |none=>rfl
 |some u=>exact(show False from r).elim
theorem g5{v:V}{u:Value}(r:RelV v u):j4 u=true:=by
 cases v with
 |Dg=>cases (show u=EV from r);rfl
 |bl b=>cases (show u=lD b from r);rfl
 |int i=>obtain⟨t,e⟩:=(show∃t,u=KL i t from r);cases e;rfl
 |str x=>obtain⟨t,e⟩:=(show∃t,u=VA x t from r);cases e;rfl
 |XI b=>obtain⟨t,e⟩:=(show∃t,u=lC b t from r);cases e;rfl
 |flt b=>obtain⟨t,e⟩:=(show∃t,u=lA b t from r);cases e;rfl
 |ref a=>cases (show u=BI a from r);rfl
 |ty n=>cases (show u=Lv n from r);rfl
section
variable{P:Program}{w:World}{H H':Hp}{h h':Heap}{a C dx:Addr}{fs wd:List (Str×V)}
theorem Vh(BS:KS P w H h)(e:H a=some (.ins C dx fs)):∃mA,au h a dx C mA/\(∀f,Jx (fs.lookup f) (mA f))/\Z8 mA (fs.map (·.1))/\fs.length<=1000/\H dx=some (.own a):=by
 obtain⟨d,z,ne,ob,mA,n,r,q⟩:=(show Cp P w H h a (.ins C dx fs) from BS a _ e);exact⟨mA,⟨ob,n,ne⟩,r,q,z,d⟩
end
structure XM(K:Ab)(C:Addr):Prop where
 pg:QR K C Str.empty=true
 hd:Uo K C=true
 po:ZP K C=true
 sa:IH K (.ref C) "__setattr__"=some (some (.builtin "object.__setattr__"))
theorem XM.get{K:Ab}{C:Addr}(c:XM K C)(f:Str):QR K C f=true:=c.pg
def BC(K:Ab)(C:Addr)(f:Str):Prop:=IH K (.ref C) f=some none
theorem BC.ACf{K:Ab}{C:Addr}{f:Str}(n:BC K C f):ZR K C f=some none:=by
 unfold ZR;rw[show IH K (.ref C) f=some none from n];rfl
structure Meth(K:Ab)(C:Addr)(m:Str)(f:Addr):Prop where
 at_:IH K (.ref C) m=some (some (.ref f))
 fn:QS K (.ref f)=true
 kp:J8 K (.ref f)=true
section
variable{X:Cx}{pins:List (Addr×Obj)}{σ:St}{H:Hp}{s:Shared}{a C dx:Addr}{fs:List (Str×V)}{f:Str}{v:V}{A:Around}{E:Value->Shared->Prop}
theorem L9{b:Bool}{Q:Value->Shared->Prop}(I:Inv X pins σ H s)(e:H a=some (.ins C dx fs))(c:XM X.K C)(n:BC X.K C f)(l:fs.lookup f=some v)
  (h:∀u s',Inv X pins σ H s'->RelV v u->Q u s'):wpAny (model X.prog X.w) A (getAttr (.ref a) f b) Q E s:=by
 obtain⟨mA,O,r,_,_,_⟩:=Vh I.BS e;obtain⟨u,hu,ru⟩:=Jx.some_of (v:=v) (o:=mA f) (by rw[←l];exact r f);exact get_map I.XJ O (c.get f) c.hd n hu (g5 ru) (h u _ (I.tok _) ru)
theorem JC{m:Str}{g:Addr}{pl:Sem Bool}{Q:Value×List Value->Shared->Prop}(I:Inv X pins σ H s)(e:H a=some (.ins C dx fs))(c:XM X.K C)(k:Meth X.K C m g)(l:fs.lookup m=none)
  (h:Q (.ref g,[.ref a]) s):wpAny (model X.prog X.w) A (getMethod (.ref a) m pl) Q E s:=by
 obtain⟨mA,O,r,_,_,_⟩:=Vh I.BS e;have hn:mA m=none:=Jx.none_of (by rw[←l];exact r m);exact nz I.XJ O (c.get m) k.at_ k.fn hn h
theorem Q7{y:V}{u:Value}{Q:Unit->Shared->Prop}(I:Inv X pins σ H s)(e:H a=some (.ins C dx fs))(c:XM X.K C)(n:BC X.K C f)(hl:fs.length<1000)(ry:RelV y u)
  (h:∀s',Inv X pins σ (upd H a (.ins C dx (DB f y fs))) s'->Q () s'):wpAny (model X.prog X.w) A (setAttr (.ref a) f u) Q E s:=by
 obtain⟨mA,O,r,wi,_,ho⟩:=Vh I.BS e;have hz:(fs.map (·.1)).length<=sizeLine:=by rw[BP,sizeLine_eq];omega
 refine tu I.XJ O c.sa c.po n.ACf c.hd wi hz λh' O' sb=>h _ ?_;have hd:∃o,h'.get? dx=some o:=let⟨o,_,_,e',_⟩:=O'.ns;⟨o,e'⟩;refine I.write (x:=a) (e:=dx) (by rw[e];exact I_) (.inr ho) (λb q hb z=>(sb.2 b hb).trans z) hd ?_;refine⟨by rw[AS O.ne];exact ho,?_,O.ne,O'.obj,_,O'.ns,λg=> ?_,λg hg=> ?_⟩
 ·have:=O7 f y fs;omega
 ·show Jx ((DB f y fs).lookup g) (if g=f then some u else mA g);rw[Oz];by_cases q:g=f
  ·rw[AG q,AG q];exact ry
  ·rw[AB q,AB q];exact r g
 ·by_cases q:g=f
  ·rw[q];exact(N5 f y fs).1
  ·refine(N5 f y fs).2 g (wi g λz=>hg ?_);show(if g=f then some u else mA g)=none;rw[AB q];exact z
theorem Inv.made(I:Inv X pins σ H s):Inv X pins σ (upd (upd H s.heap.objs.size (.own (s.heap.objs.size+1))) (s.heap.objs.size+1) (.ins C s.heap.objs.size []))
  {s with heap:=(s.heap.push MR).push (J9 C s.heap.objs.size)}:=by
 have e1:(s.heap.push MR).get? s.heap.objs.size=some MR:=Df s.heap rfl;have e2:((s.heap.push MR).push (J9 C s.heap.objs.size)).get? (s.heap.objs.size+1)=some (J9 C s.heap.objs.size):=by
  have:=Df (s.heap.push MR) (o:=J9 C s.heap.objs.size) rfl
  rwa [Jk] at this
 have e3:(s.heap.push MR).Ns s.heap.objs.size (λ_=>none):=⟨MR,#[],_,e1,rfl,(λe he=>absurd he (by simp)),λ_=>rfl⟩;have I1:=I.laid (a:=s.heap.objs.size) (o:= .own (s.heap.objs.size+1)) (h':=s.heap.push MR) (t':=s.toks) (λb u q=>Cy _ q) (As _) ⟨_,e1⟩;refine I1.laid (a:=s.heap.objs.size+1) (o:= .ins C s.heap.objs.size []) (t':=s.toks) (λb u q=>Cy _ q) (Ux (Jk _ _)) ?_;have ne:s.heap.objs.size≠s.heap.objs.size+1:=Dm (Zn _);refine⟨by rw[AS ne,AJ],BR _,ne,e2,λ_=>none,(Heap.Ns1.of_empty e3).at λo q=>Cy _ q,λ_=>I_,λy hy=>absurd rfl hy⟩
theorem dj{prog:Program}{w:World}{env:Env}{e:Expr}{f:Str}{pos:Pos}{s:Shared}{Q:Value->Shared->Prop}(hb:attributeBase e f env (eval e env)=eval e env)
  (h:wpAny (model prog w) A (eval e env) (λo s₁=>wpAny (model prog w) A (getAttr o f true) Q E s₁) E s):wpAny (model prog w) A (eval (.Attribute e f pos) env) Q E s:=
 Attribute_any_ h (by rw[arm_eval_Attribute,hb])
end
inductive wq(K:Ab)(f:Str)(Q:VK)(x:V)(H1:Hp):Prop
 |mk (a C dx fs v:_) (x0:x= .ref a) (x1:H1 a=some (.ins C dx fs)) (x2:XM K C) (x3:BC K C f) (x4:fs.lookup f=some v) (x5:Q v H1):wq K f Q x H1
def ACg(K:Ab)(ta:TE)(f:Str):TE:=λσ H Q=>ta σ H (wq K f Q)
inductive wt(K:Ab)(f:Str)(D:Ends)(σ:L2.St)(y:V)(x:V)(H2:Hp):Prop
 |mk (a C dx fs:_) (x0:x= .ref a) (x1:H2 a=some (.ins C dx fs)) (x2:XM K C) (x3:BC K C f) (x4:fs.length<1000) (x5:D.nx σ (upd H2 a (.ins C dx (DB f y fs)))):wt K f D σ y x H2
def AEl(K:Ab)(ta tv:TE)(f:Str):TS:=λD σ H=>tv σ H λy H1=>ta σ H1 (wt K f D σ y)
def zY(X:Cx)(op:Operator)(rd:V->V->Hp->VK->Prop):Prop:=
 ∀(pins:List (Addr×Obj)) (s:Shared) (σ:St) (H:Hp) (x y:V) (u v:Value) (Q:VK),Inv X pins σ H s->RelV x u->RelV y v->rd x y H Q->wpAny (model X.prog X.w) X.A (inplaceOp op u v) (EP X pins σ Q) X.xe s
inductive Xb(K:Ab)(tv:TE)(rd:V->V->Hp->VK->Prop)(f:Str)(D:Ends)(σ:L2.St)(x:V)(H1:Hp):Prop
 |mk (a C dx fs v:_) (x0:x= .ref a) (x1:H1 a=some (.ins C dx fs)) (x2:XM K C) (x3:BC K C f) (x4:fs.lookup f=some v) (x5:tv σ H1 λy H2=>rd v y H2 λz H3=>∃dx' wd,H3 a=some (.ins C dx' wd)/\wd.length<1000/\D.nx σ (upd H3 a (.ins C dx' (DB f z wd)))):Xb K tv rd f D σ x H1
def t4(K:Ab)(ta tv:TE)(rd:V->V->Hp->VK->Prop)(f:Str):TS:=λD σ H=>ta σ H (Xb K tv rd f D σ)
section
variable{X:Cx}{o e value:Expr}{f:Str}{pos pos' LH:Pos}{ta tv:TE}
theorem AY(he:PE X e ta)(hb:attributeBase e f X.env (eval e X.env)=eval e X.env):PE X (.Attribute e f pos) (ACg X.K ta f):=by
 intro pins s σ H Q I h;refine dj hb (Bt (he pins s σ H _ I h) λu s1 ⟨x,H1,I1,rx,a,C,dx,fs,v,ex,ea,c,n,l,q⟩=> ?_);subst ex;obtain rfl:u=BI a:=rx;exact L9 I1 ea c n l λu' s2 I2 ru=>⟨v,H1,I2,ru,q⟩
theorem Ap(ha:PE X o ta)(hv:PE X value tv)(hs:swapsWith value (some (.Attribute o f pos')) pos.line X.env=pure false):PS X (.Assign [.Attribute o f pos'] value pos) (AEl X.K ta tv f):=by
 intro pins s σ H D I h;refine plainObj_wpAny_Assign_Attribute (Bt (hv pins s σ H _ I h) λu s1 ⟨y,H1,I1,ry,q⟩=>Bt (ha pins s1 σ H1 _ I1 q) λov s2 ⟨x,H2,I2,rx,a,C,dx,fs,ex,ea,c,n,l,q2⟩=> ?_) hs;subst ex;obtain rfl:ov=BI a:=rx;exact Q7 I2 ea c n l ry λs3 I3=>⟨σ,_,I3,q2⟩
theorem D0{op:Operator}{rd:V->V->Hp->VK->Prop}(ha:PE X o ta)(hv:PE X value tv)(hop:zY X op rd):PS X (.AugAssign (.Attribute o f LH) op value pos) (t4 X.K ta tv rd f):=by
 intro pins s σ H D I h;refine wpAny_AugAssign_AttributeAny (Bt (ha pins s σ H _ I h) λov s1 ⟨x,H1,I1,rx,a,C,dx,fs,v,ex,ea,c,n,l,q⟩=> ?_);subst ex;obtain rfl:ov=BI a:=rx;refine L9 I1 ea c n l λu s2 I2 ru=>Bt (hv pins s2 σ H1 _ I2 q) λw3 s3 ⟨y,H2,I3,ry,q3⟩=>Bt (hop pins s3 σ H2 v y u w3 _ I3 ru ry q3) λw4 s4 ⟨z,H3,I4,rz,dx',wd,ea',l',q4⟩=> ?_;exact Q7 I4 ea' c n l' rz λs5 I5=>⟨σ,_,I5,q4⟩
inductive ACh:V->V->Hp->VK->Prop
 |mk (i j:_):x= .int i->y= .int j->Q (.int (i+j)) H->ACh x y H Q
inductive ACi:V->V->Hp->VK->Prop
 |mk (i j:_):x= .int i->y= .int j->Q (.int (i - j)) H->ACi x y H Q
theorem oA:zY X .Add ACh:=by
 rintro pins s σ H x y u v Q I rx ry ⟨i,j,rfl,rfl,q⟩;obtain⟨t,rfl⟩:=(show∃t,u=KL i t from rx);obtain⟨t',rfl⟩:=(show∃t',v=KL j t' from ry);exact yC ⟨.int (i+j),H,I.tok _,⟨_,rfl⟩,q⟩
theorem L_:zY X .Sub ACi:=by
 rintro pins s σ H x y u v Q I rx ry ⟨i,j,rfl,rfl,q⟩;obtain⟨t,rfl⟩:=(show∃t,u=KL i t from rx);obtain⟨t',rfl⟩:=(show∃t',v=KL j t' from ry);exact yB ⟨.int (i - j),H,I.tok _,⟨_,rfl⟩,q⟩
end
section
variable{X:Cx}{pins:List (Addr×Obj)}{σ:St}{H:Hp}{s:Shared}{A:Around}{E:Value->Shared->Prop}{Q:Value->Shared->Prop}{c:Value}{b:Bool}
end
end L2
namespace L2
open PySem PySem.Spec PyProof.Rows
structure DD(k:Nat)(A:Around):Prop where
 hd:A.handled=none
 dp:A.depth+3*k+5<recursionLimit
 un:A.units+16*k+200<cLine
theorem DD.mono{j k:Nat}{A:Around}(r:DD k A)(h:j<=k):DD j A:=⟨r.hd,by have:=r.dp;omega,by have:=r.un;omega⟩
theorem DD.deeper{k:Nat}{A:Around}(r:DD (k+1) A)(env:Env):DD k (A.deeper env):=
 ⟨r.hd,by have:=r.dp;show A.depth+1+3*k+5<_;omega,by have:=r.un;show A.units+3+16*k+200<_;omega⟩
theorem ax{A:Around}{C:Addr}{us:List Value}{kw:List (Str×Value)}:(A.under (.builtin "type.__call__" ⟨.ref C::us,kw⟩)).depth=A.depth+1:=by
 first|rfl|simp[aW,Code.weight,Code.isCreation,Code.isGuard,Code.isCaller,mn,aX,guardIds]
theorem ay{A:Around}{C:Addr}{us:List Value}{kw:List (Str×Value)}:(A.under (.builtin "type.__call__" ⟨.ref C::us,kw⟩)).units=A.units+1:=by
 first|rfl|simp[aW,Code.cUnits,mn,aX]
theorem DD.make{k:Nat}{A:Around}(r:DD (k+1) A)(C:Addr)(us:List Value)(kw:List (Str×Value)):DD k (A.under (.builtin "type.__call__" ⟨.ref C::us,kw⟩)):=
 ⟨r.hd,by have:=r.dp;rw[ax];omega,by have:=r.un;rw[ay];omega⟩
theorem DD.depth{k:Nat}{A:Around}(r:DD k A):A.depth<recursionLimit:=by have:=r.dp;omega
theorem DD.units{k:Nat}{A:Around}(r:DD k A):A.units+64<cLine:=by have:=r.un;omega
def IM:TA:=λ_ H Q=>Q [] H
def Cq(ta:TE)(tr:TA):TA:=λσ H Q=>ta σ H λx H1=>tr σ H1 λxs H2=>Q (x::xs) H2
section
variable{X:Cx}{e:Expr}{es:List Expr}{te:TE}{t:TA}{pos:Pos}
theorem By:PA X [] IM:=λ_ _ _ _ H Q I h=>Calls.spliced_nil ⟨[],H,I,.nil,h⟩
theorem A0(ha:PE X e te)(hr:PA X es t)(hs:starEach (e::es) X.env=(false,eval e X.env)::starEach es X.env:=by rfl):PA X (e::es) (Cq te t):=by
 intro pos pins s σ H Q I h;rw[hs];show wpAny _ _ (spliced ((false,eval e X.env)::backTo pos (starEach es X.env))) _ _ s;refine Calls.spliced_cons (Bt (ha pins s σ H _ I h) λu s1 ⟨x,H1,I1,r1,q1⟩=> ?_);exact Bt (hr pos pins s1 σ H1 _ I1 q1) λus s2 ⟨xs,H2,I2,r2,q2⟩=>⟨x::xs,H2,I2,.cons r1 r2,q2⟩
def t5(t:TA):TE:=λσ H Q=>t σ H λxs H1=>xs.length<=sizeLine/\∀p,H1 p=none->Q (.ref p) (upd H1 p (.tup xs))
def ACj(t:TA):TE:=λσ H Q=>t σ H λxs H1=>xs.length<=sizeLine/\∀p,H1 p=none->Q (.ref p) (upd H1 p (.lst xs))
theorem Dd{x1}(h:PA X es t):PE X (.Tuple es x1 pos) (t5 t):=by
 intro pins s σ H Q I hq;refine wpAny_Tuple_spliced (Bt (h pos pins s σ H _ I hq) λus s1 ⟨xs,H1,I1,r,z,q⟩=>⟨by rw[←r.length];exact z,?_⟩);have hf:H1 s1.heap.objs.size=none:=I1.BS.fresh (As _);refine⟨.ref s1.heap.objs.size,upd H1 s1.heap.objs.size (.tup xs),I1.laid (t':=s1.toks) (λb u e=>Cy _ e) (As _) ?_,AA,q _ hf⟩;exact⟨z,us,r,⟨_,Df _ rfl,AA,_,AA⟩⟩
theorem Am(h:PA X es t):PE X (.List es pos) (ACj t):=by
 intro pins s σ H Q I hq;refine wpAny_List_spliced (Bt (h pos pins s σ H _ I hq) λus s1 ⟨xs,H1,I1,r,z,q⟩=>⟨by rw[←r.length];exact z,?_⟩);have hf:H1 s1.heap.objs.size=none:=I1.BS.fresh (As _);refine⟨.ref s1.heap.objs.size,upd H1 s1.heap.objs.size (.lst xs),I1.laid (t':=s1.toks) (λb u e=>Cy _ e) (As _) ?_,AA,q _ hf⟩;exact⟨z,us,0,r,Df _ rfl⟩
end
abbrev Sp:=List V->Hp->VK->XK->Prop
abbrev dk:=List Env->Hp->Shared->XK->Value->Shared->Prop
structure az(P:Program)(w:World)(K:Ab)(mg:Str->Option Value)(base:Heap)(A:Around)(outer:List Env)(s:Shared)(H:Hp):Prop where
 frames:A.frames=some outer
 mod:Mod K mg base
 bs:∀b o,base.get? b=some o->s.heap.get? b=some o/\H b=none
 tY:base.objs.size<=s.heap.objs.size
 Ph:s.heap.FunFrames base outer
 zG:∀b∈m7 outer,H b=none
 BS:KS P w H s.heap
 bare:AllBare s.gens
inductive CE(outer:List Env)(P:Program)(w:World)(H:Hp)(s:Shared)(Q:VK)(u:Value)(s':Shared):Prop
 |mk (v H':_):s'.os=s.os->AllBare s'.gens->Un (m7 outer) [] H H' s.heap s'.heap->KS P w H' s'.heap->RelV v u->Q v H'->CE outer P w H s Q u s'
def CR(CX:dk)(outer:List Env)(P:Program)(w:World)(H:Hp)(s:Shared)(Q:VK)(E:XK)(r:Result)(s':Shared):Prop:=
 match r with
 | .ok (.ret u)=>CE outer P w H s Q u s'
 | .ok _=>False
 | .error e=>CX outer H s E e s'
structure GJ(P:Program)(w:World)(K:Ab)(mg:Str->Option Value)(base:Heap)(CX:dk)(k:Nat)(f:Addr)(fd:FuncData)(ps:List Str)(sp:Sp):Prop where
 len:∀vs H Q E,sp vs H Q E->vs.length=ps.length
 run:∀(A:Around) (outer:List Env) (s:Shared) (H:Hp) (args:Args) (us:List Value) (vs:List V) (Q:VK) (E:XK),DD k A->az P w K mg base A outer s H->BindsTo s fd args (ps.zip us)->Vals vs us->sp vs H Q E->
  codeAny (model P w) A (.call (.ref f) args) (CR CX outer P w H s Q E) s
theorem GJ.mono{P:Program}{w:World}{K:Ab}{mg:Str->Option Value}{base:Heap}{CX:dk}{j k:Nat}{f:Addr}{fd:FuncData}{ps:List Str}{sp:Sp}(F:GJ P w K mg base CX j f fd ps sp)(h:j<=k):
  GJ P w K mg base CX k f fd ps sp:=⟨F.len,λA outer s H args us vs Q E hr=>F.run A outer s H args us vs Q E (hr.mono h)⟩
theorem GJ.imp{P:Program}{w:World}{K:Ab}{mg:Str->Option Value}{base:Heap}{CX:dk}{k:Nat}{f:Addr}{fd:FuncData}{ps:List Str}{sp wu:Sp}(F:GJ P w K mg base CX k f fd ps sp)
  (h:∀vs H Q E,wu vs H Q E->sp vs H Q E):GJ P w K mg base CX k f fd ps wu:=
 ⟨λvs H Q E q=>F.len vs H Q E (h _ _ _ _ q),λA outer s H args us vs Q E hr he hb hv hs=>F.run A outer s H args us vs Q E hr he hb hv (h _ _ _ _ hs)⟩
theorem az.make{P:Program}{w:World}{K:Ab}{mg:Str->Option Value}{base:Heap}{A:Around}{outer:List Env}{s:Shared}{H:Hp}(e:az P w K mg base A outer s H)(C:Addr)(us:List Value)(kw:List (Str×Value)):
  az P w K mg base (A.under (.builtin "type.__call__" ⟨.ref C::us,kw⟩)) outer s H:=⟨by first|exact e.frames|(simpa [aW,Code.envs,aX,pushEnvs] using e.frames),e.mod,e.bs,e.tY,e.Ph,e.zG,e.BS,e.bare⟩
section
variable{X:Cx}{pins:List (Addr×Obj)}{σ:St}{H:Hp}{s s':Shared}
theorem Inv.ACk(I:Inv X pins σ H s):az X.prog X.w X.K X.mg X.base X.A X.stack s H:=
 ⟨I.ok.frames,I.ok.mod,I.bs,A6 I.ok.tY I.sz,I.stack,I.dX,I.BS,I.bare⟩
theorem Inv.after{Q:VK}{u:Value}(I:Inv X pins σ H s)(h:CE X.stack X.prog X.w H s Q u s'):EP X pins σ Q u s':=by
 obtain⟨v,H',os,bare,un,BS,r,q⟩:=h;obtain⟨hh,g,d,t,os'⟩:=s';obtain rfl:os'=s.os:=os;exact⟨v,H',I.call (h':=hh) (g':=g) (d':=d) (t':=t) (ch:= []) un BS bare (λb z=>absurd z (by simp)),r,q⟩
end
def Jn(sp:Sp)(O8:List V)(E:XK)(t:TA):TE:=λσ H Q=>t σ H λvs H1=>sp (vs++O8) H1 Q E
inductive oB(C:Addr)(m:Str)(sp:Sp)(O8:List V)(E:XK)(t:TA)(σ:L2.St)(Q:VK)(x:V)(H1:Hp):Prop
 |mk (a dx fs:_) (x0:x= .ref a) (x1:H1 a=some (.ins C dx fs)) (x2:fs.lookup m=none) (x3:t σ H1 λvs H2=>sp (x::(vs++O8)) H2 Q E):oB C m sp O8 E t σ Q x H1
def Xc(C:Addr)(m:Str)(sp:Sp)(O8:List V)(E:XK)(ta:TE)(t:TA):TE:=λσ H Q=>ta σ H (oB C m sp O8 E t σ Q)
def dm(C:Addr)(sp:Sp)(O8:List V)(E:XK)(t:TA):TE:=λσ H Q=>t σ H λvs H1=>∀x dx,H1 x=none->H1 dx=none->dx≠x->
 sp (.ref x::(vs++O8)) (upd (upd H1 dx (.own x)) x (.ins C dx [])) (λv H2=>v= .Dg/\Q (.ref x) H2) E
def Binds(K:Ab)(fd:FuncData)(ps:List Str)(ds:List Value):Prop:=
 ∀(s:Shared) (us:List Value),K.In s.heap->(us++ds).length=ps.length->BindsTo s fd ⟨us,[]⟩ (ps.zip (us++ds))
theorem Binds.all{K:Ab}{fd:FuncData}{ps:List Str}(h:∀us:List Value,us.length=ps.length->bindArgs fd ⟨us,[]⟩=pure (ps.zip us)):Binds K fd ps []:=λs us _ hl=>by
 rw[Nh] at hl ⊢;exact .of_eq (h us hl)
def Passes(CX:dk)(X:Cx)(E:XK):Prop:=∀(pins:List (Addr×Obj)) (σ:St) (H:Hp) (s:Shared) (e:Value) (s':Shared),Inv X pins σ H s->CX X.stack H s E e s'->X.xe e s'
section
variable{X:Cx}{CX:dk}{k:Nat}{f C:Addr}{fd:FuncData}{ps:List Str}{sp:Sp}{O8:List V}{ds:List Value}{E:XK}{x m:Str}{p pos apos:Pos}{e o:Expr}{es:List Expr}{ta:TE}{t:TA}
theorem N6{pins:List (Addr×Obj)}{σ:St}{H:Hp}{s:Shared}{Q:VK}{us:List Value}{vs:List V}(F:GJ X.prog X.w X.K X.mg X.base CX k f fd ps sp)(hr:DD k X.A)(hb:Binds X.K fd ps ds)(hd:Vals O8 ds)(hx:Passes CX X E)
  (I:Inv X pins σ H s) (r:Vals vs us) (h:sp (vs++O8) H Q E):wpAny (model X.prog X.w) X.A (call (.ref f) us) (EP X pins σ Q) X.xe s:=by
 have r2:Vals (vs++O8) (us++ds):=r.append hd;have hl:(us++ds).length=ps.length:=by rw[←r2.length];exact F.len _ _ _ _ h
 refine wpAny_call (codeAny_mono (F.run X.A X.stack s H ⟨us,[]⟩ (us++ds) (vs++O8) Q E hr I.ACk (hb s us I.XJ hl) r2 h) λr s' hq=> ?_);cases r with
 |error e=>exact hx pins σ H s e s' I hq
 |ok fl=>
  cases fl with
  |ret u=>exact I.after hq
  |next=>exact Ft hq
  |brk=>exact Ft hq
  |cont=>exact Ft hq
theorem t6(F:GJ X.prog X.w X.K X.mg X.base CX k f fd ps sp)(hr:DD k X.A)(hg:Gl X x)(hm:X.mg x=some (.ref f))(hk:J8 X.K (.ref f)=true)(hb:Binds X.K fd ps ds)(hd:Vals O8 ds)(hx:Passes CX X E)
  (ha:PA X (e::es) t) (a0:(x==("__debug__":Str))=false:=by decide) (he:starEach (e::es) X.env=(false,eval e X.env)::starEach es X.env:=by rfl) (Dn:(backTo pos (starEach es X.env)).any (·.1)=false:=by rfl):
  PE X (.Call (.Name x p) (e::es) [] pos) (Jn sp O8 E t):=by
 intro pins s σ H Q I h;refine wpAny_Call_Name_kw (P0 I hg hm ?_ a0);refine QQ (h₀:=X.base) I.ok.mod.zC hk (Bt (ha pos pins s σ H _ I h) λus s1 ⟨vs,H1,I1,r,q⟩=>⟨I1.XJ,?_⟩) he Dn;exact N6 F hr hb hd hx I1 r q
theorem t7{pl:Sem Bool}(he:PE X o ta)(c:XM X.K C)(hm:Meth X.K C m f)(F:GJ X.prog X.w X.K X.mg X.base CX k f fd ps sp)(hr:DD k X.A)(hb:Binds X.K fd ps ds)(hd:Vals O8 ds)(hx:Passes CX X E)(ha:PA X (e::es) t)
  (tf:starEach (e::es) X.env=(false,eval e X.env)::starEach es X.env:=by rfl) (Dn:(backTo pos (starEach es X.env)).any (·.1)=false:=by rfl)
  (ht:eval (.Call (.Attribute o m apos) (e::es) [] pos) X.env=(do
   let ov←eval o X.env
   standAt apos.atName
   let(f,first)←holding [ov] (getMethod ov m pl)
   callWith pos f first (backTo pos (starEach (e::es) X.env)) (backToKw pos (keywordEach [] X.env))):=by rfl):
  PE X (.Call (.Attribute o m apos) (e::es) [] pos) (Xc C m sp O8 E ta t):=by
 intro pins s σ H Q I h;refine Um (pl:=pl) (Bt (he pins s σ H _ I h) λu s1 ⟨x,H1,I1,rx,a,dx,fs,ex,ea,l,q⟩=> ?_) ht;subst ex;obtain rfl:u=BI a:=rx;refine JC I1 ea c hm l ?_;refine QQ (first:= [.ref a]) (h₀:=X.base) I.ok.mod.zC hm.kp (Bt (ha pos pins s1 σ H1 _ I1 q) λus s2 ⟨vs,H2,I2,r,q2⟩=>⟨I2.XJ,?_⟩) tf Dn;exact N6 (us:= .ref a::us) (vs:= .ref a::vs) F hr hb hd hx I2 (.cons rfl r) q2
theorem oC{pl:Sem Bool}(he:PE X o ta)(c:XM X.K C)(hm:Meth X.K C m f)(F:GJ X.prog X.w X.K X.mg X.base CX k f fd ps sp)(hr:DD k X.A)(hb:Binds X.K fd ps ds)(hd:Vals O8 ds)(hx:Passes CX X E)
  (ht:eval (.Call (.Attribute o m apos) [] [] pos) X.env=(do
   let ov←eval o X.env
   standAt apos.atName
   let(f,first)←holding [ov] (getMethod ov m pl)
   callWith pos f first (backTo pos (starEach [] X.env)) (backToKw pos (keywordEach [] X.env))):=by rfl):
  PE X (.Call (.Attribute o m apos) [] [] pos) (Xc C m sp O8 E ta IM):=by
 intro pins s σ H Q I h;refine Um (pl:=pl) (Bt (he pins s σ H _ I h) λu s1 ⟨x,H1,I1,rx,a,dx,fs,ex,ea,l,q⟩=> ?_) ht;subst ex;obtain rfl:u=BI a:=rx;refine JC I1 ea c hm l ?_;exact ZO (first:= [.ref a]) I1.XJ hm.kp (N6 (us:= [.ref a]) (vs:= [.ref a]) F hr hb hd hx I1 (.cons rfl .nil) q)
structure Mk(K:Ab)(C f:Addr):Prop where
 makes:Up K C=true
 init:IH K (.ref C) "__init__"=some (some (.ref f))
 fn:QS K (.ref f)=true
 kp:J8 K (.ref C)=true
theorem Xd{pins:List (Addr×Obj)}{σ:St}{H:Hp}{s:Shared}{Q:VK}{us:List Value}{vs:List V}(M:Mk X.K C f)(F:GJ X.prog X.w X.K X.mg X.base CX k f fd ps sp)(hr:DD (k+1) X.A)(hb:Binds X.K fd ps ds)(hd:Vals O8 ds)
  (hx:Passes CX X E) (I:Inv X pins σ H s) (r:Vals vs us)
  (h:∀x dx,H x=none->H dx=none->dx≠x->sp (.ref x::(vs++O8)) (upd (upd H dx (.own x)) x (.ins C dx [])) (λv H2=>v= .Dg/\Q (.ref x) H2) E):
  wpAny (model X.prog X.w) X.A (call (.ref C) us) (EP X pins σ Q) X.xe s:=by
 have hq:=h (s.heap.objs.size+1) s.heap.objs.size (I.BS.fresh (Uz _)) (I.BS.fresh (As _)) (Dm (Zn _));have I2:=Inv.made (C:=C) I;have r2:Vals (V.ref (s.heap.objs.size+1)::(vs++O8)) (BI (s.heap.objs.size+1)::(us++ds)):= .cons rfl (r.append hd);have hl:(BI (s.heap.objs.size+1)::us++ds).length=ps.length:=by
  have e:=r2.length;rw[F.len _ _ _ _ hq] at e;exact e.symm
 refine wpAny_call (n_ (f:=f) I.XJ M.makes M.init (beq_iff_eq.mp M.fn) (codeAny_mono (F.run _ X.stack _ _ ⟨BI (s.heap.objs.size+1)::us,[]⟩ (BI (s.heap.objs.size+1)::(us++ds)) _ _ E (hr.make C us [])
  (I2.ACk.make C us []) (hb _ (BI (s.heap.objs.size+1)::us) I2.XJ hl) r2 hq) λr s' hq'=> ?_))
 cases r with
 |error e=>exact hx pins σ _ _ e s' I2 hq'
 |ok fl=>
  cases fl with
  |ret u=>
   obtain⟨v,H',I3,rv,ev,q3⟩:=I2.after hq';subst ev;exact⟨rv,⟨V.ref (s.heap.objs.size+1),H',I3,AA,q3⟩⟩
  |next=>exact Ft hq'
  |brk=>exact Ft hq'
  |cont=>exact Ft hq'
theorem t8(M:Mk X.K C f)(F:GJ X.prog X.w X.K X.mg X.base CX k f fd ps sp)(hr:DD (k+1) X.A)(hg:Gl X x)(hm:X.mg x=some (.ref C))(hb:Binds X.K fd ps ds)(hd:Vals O8 ds)(hx:Passes CX X E)
  (ha:PA X (e::es) t) (a0:(x==("__debug__":Str))=false:=by decide) (he:starEach (e::es) X.env=(false,eval e X.env)::starEach es X.env:=by rfl) (Dn:(backTo pos (starEach es X.env)).any (·.1)=false:=by rfl):
  PE X (.Call (.Name x p) (e::es) [] pos) (dm C sp O8 E t):=by
 intro pins s σ H Q I h;refine wpAny_Call_Name_kw (P0 I hg hm ?_ a0);refine QQ (h₀:=X.base) I.ok.mod.zC M.kp (Bt (ha pos pins s σ H _ I h) λus s1 ⟨vs,H1,I1,r,q⟩=>⟨I1.XJ,?_⟩) he Dn;exact Xd M F hr hb hd hx I1 r q
theorem oE(M:Mk X.K C f)(F:GJ X.prog X.w X.K X.mg X.base CX k f fd ps sp)(hr:DD (k+1) X.A)(hg:Gl X x)(hm:X.mg x=some (.ref C))(hb:Binds X.K fd ps ds)(hd:Vals O8 ds)(hx:Passes CX X E)
  (a0:(x==("__debug__":Str))=false:=by decide):PE X (.Call (.Name x p) [] [] pos) (dm C sp O8 E IM):=by
 intro pins s σ H Q I h;refine wpAny_Call_Name_kw (P0 I hg hm ?_ a0);exact ZO I.XJ M.kp (Xd (us:= []) M F hr hb hd hx I .nil h)
end
section
variable{X:Cx}{CX:dk}{k:Nat}{f C:Addr}{fd:FuncData}{ps ks:List Str}{sp:Sp}{E:XK}{x m:Str}{p pos apos AFu:Pos}{e o:Expr}{es:List Expr}{kws:List Keyword}{te ta:TE}{t tk:TA}{nm:Option Str}
variable{g:List Value->List Value->List Value}{gV:List V->List V->List V}
end
structure HU(N P:List Str)(sc:Scope):Prop where
 kind:sc.kind= .function
 co:sc.isCoroutine=false
 gen:sc.isGenerator=false
 nd:N.Nodup
 pre:N.take P.length=P
 par:∀x∈P,sc.names.lookup x=some .local\/sc.names.lookup x=some .cell
 zZ:∀y∈sc.names,y.2≠ .free
theorem T4{kindOf:Str->Option NameKind}{x:Str}:∀{binds:List (Str×Value)} {m:Str->Option Value},(∀v,(x,v)∉binds)->bindL kindOf binds m x=m x
 | [],_,_=>rfl
 |(n,v)::r,m,h=>by
  unfold bindL;rw[T4 λw hw=>h w (Bb _ hw)];split
  ·have:x≠n:=by rintro rfl;exact h v Bw
   simp[this]
  ·rfl
theorem T5{kindOf:Str->Option NameKind}{x:Str}:∀{binds:List (Str×Value)} {m:Str->Option Value},(∀v,(x,v)∉binds)->bindC kindOf binds m x=m x
 | [],_,_=>rfl
 |(n,v)::r,m,h=>by
  unfold bindC;rw[T5 λw hw=>h w (Bb _ hw)];split
  ·rfl
  ·have:x≠n:=by rintro rfl;exact h v Bw
   simp[this]
theorem T6{kindOf:Str->Option NameKind}{x:Str}{v:Value}:∀{P:List Str} {vs:List Value} {i:Nat} {m:Str->Option Value},P.Nodup->P[i]? =some x->vs[i]? =some v->kindOf x=some .local->
  bindL kindOf (P.zip vs) m x=some v
 | [],_,_,_,_,h,_,_=>by simp at h
 |_::_,[],_,_,_,_,h,_=>by simp at h
 |p::P,w::vs,0,m,nd,h1,h2,hk=>by
  simp at h1 h2;subst h1;subst h2;show bindL kindOf ((p,w)::P.zip vs) m p=_;unfold bindL;rw[T4 λv hv=>(Bx.mp nd).1 (Zc hv).1,AG hk];simp
 |p::P,w::vs,i+1,m,nd,h1,h2,hk=>by
  show bindL kindOf ((p,w)::P.zip vs) m x=_;unfold bindL;exact T6 (i:=i) (Bx.mp nd).2 (by simpa using h1) (by simpa using h2) hk
theorem T7{kindOf:Str->Option NameKind}{x:Str}{v:Value}:∀{P:List Str} {vs:List Value} {i:Nat} {m:Str->Option Value},P.Nodup->P[i]? =some x->vs[i]? =some v->kindOf x≠some .local->
  bindC kindOf (P.zip vs) m x=some v
 | [],_,_,_,_,h,_,_=>by simp at h
 |_::_,[],_,_,_,_,h,_=>by simp at h
 |p::P,w::vs,0,m,nd,h1,h2,hk=>by
  simp at h1 h2;subst h1;subst h2;show bindC kindOf ((p,w)::P.zip vs) m p=_;unfold bindC;rw[T5 λv hv=>(Bx.mp nd).1 (Zc hv).1,AB hk];simp
 |p::P,w::vs,i+1,m,nd,h1,h2,hk=>by
  show bindC kindOf ((p,w)::P.zip vs) m x=_;unfold bindC;exact T7 (i:=i) (Bx.mp nd).2 (by simpa using h1) (by simpa using h2) hk
def start(N:List Str)(vs:List V):St:=vs.map some++GC (N.length - vs.length) none
def Su(CX:dk)(P:Program)(w:World)(K:Ab)(mg:Str->Option Value)(base:Heap)(N:List Str)(qual:Str)(scope:Scope)(f:Addr)(cd:Value)(A:Around)(outer:List Env)(s:Shared)(H:Hp)(E:XK):Cx where
 prog:=P
 w:=w
 K:=K
 mg:=mg
 base:=base
 A:=A.deeper (envOfC qual scope s.heap.objs.size f cd)
 N:=N
 Tv:=s
 zE:=H
 env:=envOfC qual scope s.heap.objs.size f cd
 outer:=outer
 stack:=envOfC qual scope s.heap.objs.size f cd::outer
 ex:= []
 calm:=true
 fn:=λ_=>true
 pn:= []
 xe:=λe s'=>wpAny (model P w) (A.deeper (envOfC qual scope s.heap.objs.size f cd)) («leaving» (envOfC qual scope s.heap.objs.size f cd) e) (λ_ s''=>CX outer H s E e s'') (λe' s''=>CX outer H s E e' s'') s'
theorem Xe{sc:Scope}{n:Nat}{x:Str}(h:sc.names.lookup x=some .cell):∃c,(cellsFrom n sc.names []).lookup x=some c:=by
 have q:=j2 sc.names n [] (.inl h);exact l7.mp q
theorem g6{CX:dk}{P:Program}{w:World}{K:Ab}{mg:Str->Option Value}{base:Heap}{N ps:List Str}{qual:Str}{scope:Scope}{f:Addr}{cd:Value}{A:Around}{outer:List Env}{s s1:Shared}{H:Hp}{E:XK}{us:List Value}{vs:List V}
  (S:HU N ps scope) (hd:A.handled=none) (e0:az P w K mg base A outer s H) (hl:vs.length=ps.length) (r:Vals vs us)
  (x:InCallC s s.heap.objs.size (bindL (envOfC qual scope s.heap.objs.size f cd).kindOf (ps.zip us) λ_=>none) (cellsFrom (s.heap.objs.size+1) scope.names []) (bindC (envOfC qual scope s.heap.objs.size f cd).kindOf (ps.zip us) λ_=>none) s1):
  Inv (Su CX P w K mg base N qual scope f cd A outer s H E) [] (start N vs) H s1:=by
 have Dn:ps.length<=N.length:=by have:=congrArg Zh S.pre;rw[LR] at this;omega
 obtain⟨h1,tk,rfl,hk⟩:=x.done;have noA:∀b:Addr,b∉(Su CX P w K mg base N qual scope f cd A outer s H E).ex:=λb z=>absurd (show b∈([]:List Addr) from z) (by simp);refine⟨⟨e0.mod,S.kind,AA,AA,As _,λy z c h1 h2=> ?_,λy hy=> ?_,λy c _ h=> ?_,λ_=>hd,Around.frames_deeper e0.frames,.inr ⟨AA,AA⟩,λb z=>absurd z (noA b),e0.bs,e0.tY,λb _ _=>noA b,λb z=>absurd z (noA b),e0.Ph,e0.zG⟩,
  rfl,e0.bare,Un.kept hk,⟨_,x.toInCall.ns,λi y v h1 h2 h3=> ?_⟩,λy c h=>⟨_,x.cell y c h⟩,e0.BS.fresh (As _),λy c h=> ?_,λp hp=>absurd (show p∈([]:List (Addr×Obj)) from hp) (by simp),e0.BS.kept hk,?_⟩
 ·exact name_of_addr x.apart (Gw h1) (Gw h2)
 ·have hy:scope.names.lookup y=some .cell\/scope.names.lookup y=some .free:=hy;rcases hy with hy|hy
  ·exact Xe hy
  ·exact absurd rfl (S.zZ _ (Gw hy))
 ·exact KG (x.above y c (Gw h))
 ·have hi:i<vs.length:=by
   unfold start at h2;by_cases hi:i<vs.length
   ·exact hi
   ·rw[List.getElem?_append_right (by simpa using hi)] at h2;rw[List.getElem?_replicate] at h2;split at h2 <;> cases h2
  have ha:vs[i]? =some v:=by
   unfold start at h2;rw[List.getElem?_append_left (by simpa using hi),J'] at h2;cases e:vs[i]? with
   |none=>rw[e] at h2;cases h2
   |some a=>rw[e] at h2;cases h2;rfl
  obtain⟨u,hu,rv⟩:=r.get ha;have hp:ps[i]? =some y:=by
   rw[←S.pre,List.getElem?_take_of_lt (by omega)];exact h1
  have ndP:ps.Nodup:=by rw[←S.pre];exact S.nd.sublist (List.take_sublist _ _)
  refine⟨u,rv,?_⟩;rcases S.par y (II hp) with k|k
  ·exact .inl ⟨k,T6 ndP hp hu k⟩
  ·obtain⟨c,e⟩:=Xe (n:=s.heap.objs.size+1) k;refine .inr ⟨.inl k,c,e,?_⟩;have q:=x.cell y c e;rw[T7 ndP hp hu (by show scope.names.lookup y≠_;rw[k];decide)] at q;exact q
 ·exact e0.BS.fresh (KG (x.above y c (Gw h)))
 ·unfold start;show _=N.length;rw[CH,BP,kF];omega
theorem ACl{CX:dk}{P:Program}{w:World}{K:Ab}{mg:Str->Option Value}{base:Heap}{k:Nat}{f:Addr}{name qual:Str}{params:Arguments}{body:List Stmt}{scope:Scope}{dV kV doc pm CL ct oc:Value}{an od:Option Addr}
  {Sk:Array (Option Value)} {N ps:List Str} {sp:Sp} (lk:K.lookup f=some ⟨oc,od,.func (QT name qual params body scope dV kV doc pm an CL ct),Sk⟩) (jn:ZS K CL qual=true) (S:HU N ps scope)
  (len:∀vs H Q E,sp vs H Q E->vs.length=ps.length)
  (Q8:∀(A:Around) (outer:List Env) (s:Shared) (H:Hp) (vs:List V) (Q:VK) (E:XK),DD k (A.deeper (envOfC qual scope s.heap.objs.size f CL))->sp vs H Q E->
   ∃t,XU (Su CX P w K mg base N qual scope f CL A outer s H E) body t/\t {nx:=λ_ H'=>Q .Dg H',rt:=Q} (start N vs) H):
  GJ P w K mg base CX (k+1) f (QT name qual params body scope dV kV doc pm an CL ct) ps sp:=by
 refine⟨len,λA outer s H args us vs Q E hr e0 hb r ZH=> ?_⟩;have hl:=len _ _ _ _ ZH;have KX:K.In s.heap:=e0.mod.zC.keeps λb o e=>(e0.bs b o e).1;have lim:s.heap.NoLimit:=e0.mod.nolimit.keeps λb o e=>(e0.bs b o e).1;have ACm:∀y∈ps.zip us,scope.names.lookup y.1=some .local\/(scope.names.lookup y.1=some .cell/\((cellsFrom (s.heap.objs.size+1) scope.names []).lookup y.1).isSome=true):=λ⟨n,v⟩ hy=>by
  rcases S.par n (Zc hy).1 with q|q
  ·exact .inl q
  ·exact .inr ⟨q,j2 _ _ _ (.inl q)⟩
 refine codeAny_call_function hr.depth (KX _ _ lk) rfl S.co S.gen rfl (PySem.W.codeRec_of KX jn) (hb _ _ _ _ ?_);refine wpAny_newFunctionEnv_cells S.kind ACm λenv he s1 x=> ?_;subst he;refine⟨lim.keeps x.toInCall.keep,codeAny_func ?_⟩;obtain⟨t,ht,hq⟩:=Q8 A outer s H vs Q E (hr.deeper _) ZH;have I:Inv (Su CX P w K mg base N qual scope f CL A outer s H E) [] (start N vs) H s1:=g6 S hr.hd e0 hl r x;refine wpAny_mono (ht [] s1 (start N vs) H _ I hq) (λfl s' hs=> ?_) λe s' hs=>hs;have fin:∀{σ':St} {H':Hp} {v:V} {u:Value},Inv (Su CX P w K mg base N qual scope f CL A outer s H E) [] σ' H' s'->RelV v u->Q v H'->CE outer P w H s Q u s':=
  λ{σ' H' v u} J rv q=>⟨v,H',J.os,J.bare,J.base,J.BS,rv,q⟩
 cases fl with
 |ret u=>
  obtain⟨v,σ',H',J,rv,q⟩:=hs;exact fin J rv q
 |next=>
  obtain⟨σ',H',J,q⟩:=hs;exact fin (v:=V.Dg) (u:=EV) J rfl q
 |brk=>
  obtain⟨_,_,_,q⟩:=hs;exact Ft q
 |cont=>
  obtain⟨_,_,_,q⟩:=hs;exact Ft q
end L2
namespace L2
open PySem PySem.Spec PyProof.Rows
section
variable{X:Cx}{x:Str}{p pos:Pos}{e:Expr}{es:List Expr}{t:TA}{id T:String}{r:List V->Hp->VK->Prop}
def tCB(r:List V->Hp->VK->Prop)(t:TA):TE:=λσ H Q=>t σ H λvs H1=>r vs H1 Q
theorem Ax(hc:Ox X (.builtin id) r)(hg:Gl X x)(hm:X.mg x=none)(hv:bootBuiltins x=some (.builtin id))(ha:PA X (e::es) t)(hn:x≠"__name__":=by decide)(a0:(x==("__debug__":Str))=false:=by decide)
  (he:starEach (e::es) X.env=(false,eval e X.env)::starEach es X.env:=by rfl) (Dn:(backTo pos (starEach es X.env)).any (·.1)=false:=by rfl):PE X (.Call (.Name x p) (e::es) [] pos) (tCB r t):=by
 intro pins s σ H Q I h;refine wpAny_Call_Name_kw (Q1 I hg hm hv ?_ hn a0);exact yD (Bt (ha pos pins s σ H _ I h) λus s1 ⟨vs,H1,I1,r1,q1⟩=>hc pins s1 σ H1 vs us Q I1 r1 q1) he Dn
theorem IQ(hc:Ox X (.type T) r)(hg:Gl X x)(hm:X.mg x=none)(hv:bootBuiltins x=some (.type T))(ha:PA X (e::es) t)(hn:x≠"__name__":=by decide)(a0:(x==("__debug__":Str))=false:=by decide)
  (he:starEach (e::es) X.env=(false,eval e X.env)::starEach es X.env:=by rfl) (Dn:(backTo pos (starEach es X.env)).any (·.1)=false:=by rfl):PE X (.Call (.Name x p) (e::es) [] pos) (tCB r t):=by
 intro pins s σ H Q I h;refine wpAny_Call_Name_kw (Q1 I hg hm hv ?_ hn a0);exact VM (Bt (ha pos pins s σ H _ I h) λus s1 ⟨vs,H1,I1,r1,q1⟩=>hc pins s1 σ H1 vs us Q I1 r1 q1) he Dn
end
end L2
namespace HT
open PySem PyProof.Rows
section
open PySem.SeqAt
open PySem.AutoSeq1 (wpAny_loadPart')
open PySem.MeetsSeq PySem.MeetsSeq2 PySem.MeetsSeq3
end
section
variable{prog:Program}{w:World}{A:Around}{E:Value->Shared->Prop}{s:Shared}
theorem t9{t b:Addr}{vs ws:List Value}{Q:Value->Shared->Prop}(ht:IsTup s.heap t vs.toArray)(hb:IsTup s.heap b ws.toArray)(hv:vs≠ [])
  (h1:ws= []->Q (.ref t) s) (h2:ws≠ []->Q (.ref s.heap.objs.size) {s with heap:=s.heap.push {cls:= .type "tuple",data:= .seq (vs++ws).toArray}})
  (hsz:vs.length+ws.length<=sizeLine):wpAny (model prog w) A (binaryOp .Add (.ref t) (.ref b)) Q E s:=by
 obtain⟨⟨cls,dd,data,sl⟩,ho,hc,n,hd⟩:=id ht;obtain⟨⟨AFv,dd2,data2,sl2⟩,ho2,hc2,n2,hd2⟩:=id hb;simp only at hc hd hc2 hd2;subst hc hd hc2 hd2;have e:vs.toArray++ws.toArray=(vs++ws).toArray:=by simp
 by_cases hw:ws= []
 ·exact concat_meets ⟨_,ho,rfl⟩ ⟨_,ho2,rfl⟩ noFill_tuple_add seq_tuple_add lM lJ (lG _ _)
   (tuple_addW1 t b vs.toArray ws.toArray n n2 dd dd2 sl sl2 (by simpa using hv) (by simp[hw])) ⟨ho,ho2,h1 hw⟩
 ·refine concat_meets ⟨_,ho,rfl⟩ ⟨_,ho2,rfl⟩ noFill_tuple_add seq_tuple_add lM lJ (lG _ _)
   (tuple_addW2 t b vs.toArray ws.toArray n n2 dd dd2 sl sl2 (by simpa using hv) (by simpa using hw) (by rw[Br,Br];exact hsz)) ⟨ho,ho2,?_⟩
  rw[e];exact h2 hw
def XN(n d:Nat):Option Int->Nat
 |none=>d
 |some v=>if v<0 then(v+(n:Int)).toNat else min v.toNat n
theorem dq(n d k:Nat):XN n d (some (k:Int))=min k n:=by
 show(if(k:Int)<0 then((k:Int)+(n:Int)).toNat else min (k:Int).toNat n)=min k n;rw[AB (by omega),EJ]
end
end HT
namespace L2
open PySem PySem.Spec PyProof.Rows
abbrev TO:=St->Hp->(Option Int->Hp->Prop)->Prop
def PO(X:Cx)(e:Option Expr)(t:TO):Prop:=
 ∀(pins:List (Addr×Obj)) (s:Shared) (σ:St) (H:Hp) (Q:Option Int->Hp->Prop),Inv X pins σ H s->t σ H Q->
  wpAny (model X.prog X.w) X.A (evalPart e X.env) (λu s'=>∃o H',Inv X pins σ H' s'/\IsPart u o/\Q o H') X.xe s
inductive oH(Q:Option Int->Hp->Prop)(x:V)(H1:Hp):Prop
 |mk (i:_) (x0:x= .int i) (x1:Q (some i) H1):oH Q x H1
def ACn(t:TE):TO:=λσ H Q=>t σ H (oH Q)
section
variable{X:Cx}{e:Expr}{te:TE}{lo hi:Option Expr}{tl th:TO}{pos p2:Pos}
theorem du(h:PE X e te):PO X (some e) (ACn te):=by
 intro pins s σ H Q I hw;rw[evalPart_some];refine Bt (h pins s σ H _ I hw) λu s1 ⟨x,H1,I1,r1,q1⟩=> ?_;obtain⟨i,rfl,q⟩:=q1;obtain⟨t,rfl⟩:=r1;exact⟨some i,H1,I1,.int i t,q⟩
def SlR(X:Cx)(r:V->Option Int->Option Int->Hp->VK->Prop):Prop:=
 ∀(pins:List (Addr×Obj)) (s:Shared) (σ:St) (H:Hp) (x:V) (v vl vu:Value) (lo hi:Option Int) (sl:Addr) (Q:VK),Inv X pins σ H s->RelV x v->s.heap.IsSliceOf sl vl vu .none->IsPart vl lo->IsPart vu hi->r x lo hi H Q->
  ∃T id,typeLookup (.type T) "__getitem__"=pure (some (.builtin id))/\s.TypeIs v T/\wpAny (model X.prog X.w) X.A (getItem v (.ref sl)) (EP X pins σ Q) X.xe s
def tSl(r:V->Option Int->Option Int->Hp->VK->Prop)(te:TE)(tl th:TO):TE:=λσ H Q=>te σ H λx H1=>tl σ H1 λl H2=>th σ H2 λu H3=>r x l u H3 Q
theorem oJ{r:V->Option Int->Option Int->Hp->VK->Prop}(hr:SlR X r)(he:PE X e te)(hl:PO X lo tl)(hu:PO X hi th):PE X (.Subscript e (.Slice lo hi none p2) pos) (tSl r te tl th):=by
 intro pins s σ H Q I h;refine Subscript_ (Bt (he pins s σ H _ I h) λv s1 ⟨x,H1,I1,r1,q1⟩=> ?_);refine wpAny_Slice (Bt (hl pins s1 σ H1 _ I1 q1) λvl s2 ⟨l,H2,I2,pl,q2⟩=>Bt (hu pins s2 σ H2 _ I2 q2) λvu s3 ⟨u,H3,I3,pu,q3⟩=> ?_);rw[evalPart_none];refine wpAny_pure ?_;have I4:Inv X pins σ H3 {s3 with heap:=s3.heap.push {cls:= .type "slice",data:= .fields #[vl,vu,.none]}}:=I3.kept (t':=s3.toks) λb ob q=>Cy _ q;obtain⟨T,id,hT,ht,hg⟩:=hr pins {s3 with heap:=s3.heap.push {cls:= .type "slice",data:= .fields #[vl,vu,.none]}} σ H3 x v vl vu l u s3.heap.objs.size Q I4 r1 (yR ..) pl pu q3;show wpAny (model X.prog X.w) X.A (subscriptTail e (.Slice lo hi none p2) v (.ref s3.heap.objs.size)) (EP X pins σ Q) X.xe {s3 with heap:=s3.heap.push {cls:= .type "slice",data:= .fields #[vl,vu,.none]}};exact tail_any (ops:= [.ref s3.heap.objs.size,v]) ht hT hg (by with_unfolding_all rfl)
def g7(xs:List V)(lo hi:Option Int):List V:=(xs.drop (HT.XN xs.length 0 lo)).take (HT.XN xs.length xs.length hi - HT.XN xs.length 0 lo)
theorem Xf(xs:List V)(lo hi:Option Int):(g7 xs lo hi).length<=xs.length:=by
 unfold g7;rw[LR,Jh];omega
inductive wx(K:Ab):R2
 |mk (a b xs ys:_):x= .ref a->y= .ref b->Bi K H a xs->Bi K H b ys->xs≠ []->xs.length+ys.length<=sizeLine->((ys= []->Q (.ref a) H))->((ys≠ []->∀p,H p=none->Q (.ref p) (upd H p (.tup (xs++ys)))))->wx K x y H Q
theorem Vals.Vi{xs:List V}{us:List Value}(r:Vals xs us):us= []↔xs= []:=by
 cases r with
 |nil=>simp
 |cons _ _=>simp
theorem Vj:LG X (binaryOp .Add) (wx X.K):=by
 intro pins s σ H x y v u Q I rx ry h;obtain⟨a,b,xs,ys,rfl,rfl,ha,hb,hx,hz,q1,q2⟩:=h;cases rx;cases ry;obtain⟨its,r1,p1,_⟩:=I.tuple ha;obtain⟨Mb,r2,p2,_⟩:=I.tuple hb;refine HT.t9 p1 p2 (λz=>hx (r1.Vi.mp z)) (λz=>⟨.ref a,H,I,rfl,q1 (r2.Vi.mp z)⟩) (λz=> ?_) (by rw[←r1.length,←r2.length];exact hz);refine⟨.ref s.heap.objs.size,_,I.laid (t':=s.toks) (o:= .tup (xs++ys)) (λb ob q=>Cy _ q) (As _) ?_,AA,q2 (λw=>z (r2.Vi.mpr w)) _ (I.BS.fresh (As _))⟩;exact⟨by rw[CH];exact hz,_,r1.append r2,IsTup.new _ _⟩
end
end L2
namespace L2
open PySem PySem.Spec PyProof.Rows
def t_(n:Nat)(i:Int):Option Nat:=if 0<=i then(if i<n then some i.toNat else none) else if -(n:Int)<=i then some (i+n).toNat else none
def oK{α:Type}(xs:List α)(i:Int):Option α:=(t_ xs.length i).bind λj=>xs[j]?
theorem dw{n:Nat}{i:Int}{j:Nat}(h:t_ n i=some j):seqIndex? i n=some j/\j<n/\-(n:Int)<=i/\i<n:=by
 unfold t_ at h;by_cases h0:0<=i
 ·rw[AG h0] at h;by_cases h1:i<n
  ·rw[AG h1] at h;have e:i.toNat=j:=Bl h;exact⟨by rw[seqIndex_of h0 h1,e],by omega,by omega,h1⟩
  ·rw[AB h1] at h;cases h
 ·rw[AB h0] at h;by_cases h1:-(n:Int)<=i
  ·rw[AG h1] at h;have e:(i+n).toNat=j:=Bl h;exact⟨by rw[seqIndex_neg (by omega) h1,e],by omega,h1,by omega⟩
  ·rw[AB h1] at h;cases h
theorem dy{α:Type}{xs:List α}{i:Int}{v:α}(h:oK xs i=some v):∃j,seqIndex? i xs.length=some j/\xs[j]? =some v/\j<xs.length/\-(xs.length:Int)<=i/\i<xs.length:=by
 unfold oK at h;cases e:t_ xs.length i with
 |none=>rw[e] at h;cases h
 |some j=>
  rw[e] at h;obtain⟨h1,h2,h3,h4⟩:=dw e;exact⟨j,h1,h,h2,h3,h4⟩
theorem Mc{α:Type}{xs:List α}{j:Nat}{v:α}(h:xs[j]? =some v):oK xs (j:Int)=some v:=by
 have hj:j<xs.length:=(Jg.mp h).1;have e:t_ xs.length (j:Int)=some j:=by
  unfold t_;rw[AG (by omega),AG (by omega)];simp
 unfold oK;rw[e];exact h
def uA(b:Expr):Prop:=∀o i,subscripted b false o i=operate [o,i] (getItem o i)
def IxR(X:Cx)(r:R2):Prop:=
 ∀(value slice:Expr) (pins:List (Addr×Obj)) (s:Shared) (σ:St) (H:Hp) (x y:V) (v u:Value) (Q:VK),Inv X pins σ H s->RelV x v->RelV y u->r x y H Q->
  subscripted slice false v u=operate [v,u] (getItem v u)->wpAny (model X.prog X.w) X.A (subscriptTail value slice v u) (EP X pins σ Q) X.xe s
def MtR(X:Cx)(id:String)(r:V->List V->Hp->VK->Prop):Prop:=
 ∀(pins:List (Addr×Obj)) (s:Shared) (σ:St) (H:Hp) (x:V) (xs:List V) (v:Value) (us:List Value) (Q:VK),Inv X pins σ H s->RelV x v->Vals xs us->r x xs H Q->
  wpAny (model X.prog X.w) X.A (call (.builtin id) (v::us)) (EP X pins σ Q) X.xe s
section
variable{X:Cx}{a b:Expr}{ta tb:TE}{pos:Pos}
theorem BM{r:R2}(hr:IxR X r)(ha:PE X a ta)(hb:PE X b tb)(hs:uA b):PE X (.Subscript a b pos) (Pj r ta tb):=by
 intro pins s σ H Q I h;exact Subscript_ (zP ha hb I h λv u s2 x y H2 I2 rx ry q=>hr a b pins s2 σ H2 x y v u Q I2 rx ry q (hs _ _))
inductive ACo(K:Ab):R2
 |mk (p xs i v:_):x= .ref p->y= .int i->A_ K H p xs->oK xs i=some v->Q v H->ACo K x y H Q
inductive Q9(K:Ab):R2
 |mk (p xs i v:_):x= .ref p->y= .int i->Bi K H p xs->oK xs i=some v->Q v H->Q9 K x y H Q
theorem D4:IxR X (ACo X.K):=by
 intro value slice pins s σ H x y v u Q I rx ry h hs;obtain⟨p,xs,i,z,rfl,rfl,hq,he,q⟩:=h;cases rx;obtain⟨t,rfl⟩:=ry;obtain⟨its,r,pl,hz⟩:=I.list hq;obtain⟨j,h1,h2,h3,h4,h5⟩:=dy he;obtain⟨w,ew,g8⟩:=r.get h2;have hl:=r.length;have hn:=Q6;have fin:EP X pins σ Q w s:=⟨z,H,I,g8,q⟩;by_cases h0:0<=i
 ·have hj:i.toNat=j:=by
   rw[seqIndex_of h0 h5] at h1;exact Bl h1
  exact item_listR pl.isList h0 (by omega) (by rw[hj];simpa using ew) fin hs
 ·have hj:(i+(its.toArray.size:Int)).toNat=j:=by
   rw[seqIndex_neg (by omega) h4] at h1;rw[Br,←hl];exact Bl h1
  exact subscriptTail_builtinR (x:=w) pl.isList.typeIs slot_list_getitem.lookup
   (wpAny_getItem_list_neg (Q:=λr s'=>r=w/\EP X pins σ Q r s') pl.isList (by omega) (by rw[Br] <;> omega) (by omega) (by rw[hj];simpa using ew) ⟨rfl,fin⟩) hs
theorem BV:IxR X (Q9 X.K):=by
 intro value slice pins s σ H x y v u Q I rx ry h hs;obtain⟨p,xs,i,z,rfl,rfl,hq,he,q⟩:=h;cases rx;obtain⟨t,rfl⟩:=ry;obtain⟨its,r,pl,hz⟩:=I.tuple hq;obtain⟨j,h1,h2,h3,h4,h5⟩:=dy he;obtain⟨w,ew,g8⟩:=r.get h2;have hl:=r.length;have hn:=Q6;have fin:EP X pins σ Q w s:=⟨z,H,I,g8,q⟩;exact subscriptTail_builtinR (x:=w) pl.typeIs slot_tuple_getitem.lookup
  (getItem_tuple (j:=j) (Q:=λr s'=>r=w/\EP X pins σ Q r s') pl (by omega) (by omega) (by rw[Br,←hl];exact h1) (by simpa using ew) ⟨rfl,fin⟩) hs
theorem a7(its:List Value)(n j:Nat)(u:Value):N3 (·.setIfInBounds j u) {cls:= .type "list",data:= .seq its.toArray n}={cls:= .type "list",data:= .seq (its.set j u).toArray n}:=by
 simp[N3]
theorem Inv.lst{pins:List (Addr×Obj)}{σ:St}{H:Hp}{s:Shared}{p:Addr}{xs:List V}(I:Inv X pins σ H s)(h:H p=some (.lst xs)):
  ∃(its:List Value) (n:Nat),Vals xs its/\s.heap.get? p=some {cls:= .type "list",data:= .seq its.toArray n}/\xs.length<=sizeLine:=by
 obtain⟨z,its,n,r,e⟩:=I.BS p _ h;exact⟨its,n,r,e,z⟩
theorem Inv.za{pins:List (Addr×Obj)}{σ:St}{H:Hp}{s:Shared}{p:Addr}{xs ys:List V}{its its':List Value}{n n':Nat}{f:Obj->Obj}(I:Inv X pins σ H s)(h:H p=some (.lst xs))
  (ho:s.heap.get? p=some {cls:= .type "list",data:= .seq its.toArray n}) (hf:f {cls:= .type "list",data:= .seq its.toArray n}={cls:= .type "list",data:= .seq its'.toArray n'}) (r:Vals ys its') (hz:ys.length<=sizeLine) (t:Nat):
  Inv X pins σ (upd H p (.lst ys)) {s with heap:=s.heap.update p f,toks:=t}:=by
 have e:(s.heap.update p f).get? p=some {cls:= .type "list",data:= .seq its'.toArray n'}:=by
  rw[ko f ho (by rw[hf] <;> rfl),hf]
 refine I.write (x:=p) (e:=p) (by rw[h];trivial) (.inl rfl) (λb u hb q=>(kn _ _ (F9 hb)).trans q) ⟨_,e⟩ ?_;exact⟨hz,its',n',r,e⟩
inductive wy:V->V->V->Hp->(Hp->Prop)->Prop
 |mk (p xs k j:_):o= .ref p->i= .int k->H p=some (.lst xs)->t_ xs.length k=some j->Q (upd H p (.lst (xs.set j v)))->wy o i v H Q
theorem set_list:ACW X wy:=by
 intro pins s σ H o i v ov iv u Q I ro ri rv h;obtain⟨p,xs,k,j,rfl,rfl,hp,hj,q⟩:=h;cases ro;obtain⟨t,rfl⟩:=ri;obtain⟨its,n,r,ho,hz⟩:=I.lst hp;obtain⟨h1,h2,h3,h4⟩:=dw hj;have hl:=r.length;have hn:=Q6;have I':Inv X pins σ (upd H p (.lst (xs.set j v))) {s with heap:=s.heap.update p (N3 (·.setIfInBounds j u))}:=
  I.za hp ho (a7 its n j u) (r.set rv j) (by rw[Lk];exact hz) s.toks
 by_cases h0:0<=k
 ·have hk:k.toNat=j:=by
   rw[seqIndex_of h0 h4] at h1;exact Bl h1
  exact PySem.W.ki_setAt ho h0 (by omega) (by rw[Br,←hl];exact h4) (by rw[hk];exact⟨_,I',q⟩)
 ·have hk:(k+(its.toArray.size:Int)).toNat=j:=by
   rw[seqIndex_neg (by omega) h3] at h1;rw[Br,←hl];exact Bl h1
  exact PySem.W.ki_setBack ho (by omega) (by rw[Br,←hl];exact h3) (by omega) (by rw[hk];exact⟨_,I',q⟩)
theorem Vk(lo hi:Option Int)(n:Nat):(sliceBounds lo hi none n).1=((HT.XN n 0 lo:Nat):Int)/\(sliceBounds lo hi none n).2.1=((HT.XN n n hi:Nat):Int)/\(sliceBounds lo hi none n).2.2=1:=by
 refine⟨?_,?_,AA⟩
 ·cases lo with
  |none=>simp[sliceBounds,HT.XN]
  |some i=>
   simp only[sliceBounds,HT.XN,mE,show(1:Int)>0 by decide,if_true];by_cases h:i<0
   ·simp only[h,if_true] <;> omega
   ·simp only[h,if_false] <;> omega
 ·cases hi with
  |none=>simp[sliceBounds,HT.XN]
  |some i=>
   simp only[sliceBounds,HT.XN,mE,show(1:Int)>0 by decide,if_true];by_cases h:i<0
   ·simp only[h,if_true] <;> omega
   ·simp only[h,if_false] <;> omega
theorem Sv(its:List Value)(lo hi:Option Int):slicePick its.toArray lo hi none=((its.drop (HT.XN its.length 0 lo)).take (HT.XN its.length its.length hi - HT.XN its.length 0 lo)).toArray:=by
 obtain⟨h1,h2,h3⟩:=Vk lo hi its.toArray.size;unfold slicePick;rw[h1,h2,h3];simp only[sliceRange_one,pick_run,Br] <;> rfl
def AEm(K:Ab):V->Option Int->Option Int->Hp->VK->Prop:=λx lo hi H Q=>∃a xs,x= .ref a/\A_ K H a xs/\∀p,H p=none->Q (.ref p) (upd H p (.lst (g7 xs lo hi)))
theorem uB:SlR X (AEm X.K):=by
 intro pins s σ H x v vl vu lo hi sl Q I rx hs pl pu h;obtain⟨a,xs,rfl,hx,q⟩:=h;cases rx;obtain⟨its,r,ht,hz⟩:=I.list hx;have hlen:=r.length;refine⟨"list",_,slot_list_getitem.lookup,ht.isList.typeIs,?_⟩;refine wpAny_getItem_list_slice ht.isList hs pl pu .none (by simp) ?_ (by rw[Br] <;> omega);rw[Sv,←hlen];refine⟨.ref s.heap.objs.size,_,I.laid (t':=s.toks) (o:= .lst (g7 xs lo hi)) (λb ob q=>Cy _ q) (As _) ?_,AA,q _ (I.BS.fresh (As _))⟩;exact⟨A6 (Xf xs lo hi) hz,_,0,(r.drop (HT.XN xs.length 0 lo)).take (HT.XN xs.length xs.length hi - HT.XN xs.length 0 lo),Df _ rfl⟩
theorem Ak:Ox X (.builtin "len") (λxs H Q=>∃p ys,xs= [.ref p]/\(A_ X.K H p ys\/Bi X.K H p ys)/\Q (.int ys.length) H):=by
 intro pins s σ H xs us Q I r h;obtain⟨p,ys,rfl,hq,q⟩:=h;obtain⟨u,rfl,rx⟩:=vals1 r;cases rx;have hn:=Q6;rcases hq with hq|hq
 ·obtain⟨its,r',pl,hz⟩:=I.list hq;have hlen:=r'.length;exact Calls.call_len_list pl.isList (by simp only[Br] <;> omega) ⟨.int ys.length,H,I.tok _,⟨s.toks+1,by rw[Br,hlen]⟩,q⟩
 ·obtain⟨its,r',pl,hz⟩:=I.tuple hq;have hlen:=r'.length;exact len_tuple pl (by simp only[Br] <;> omega) ⟨.int ys.length,H,I.tok _,⟨s.toks+1,by rw[Br,hlen]⟩,q⟩
theorem GK:Ox X (.type "list") (λxs H Q=>∃p ys,xs= [.ref p]/\(A_ X.K H p ys\/Bi X.K H p ys)/\∀l,H l=none->Q (.ref l) (upd H l (.lst ys))):=by
 intro pins s σ H xs us Q I r h;obtain⟨p,ys,rfl,hq,q⟩:=h;obtain⟨u,rfl,rx⟩:=vals1 r;cases rx;have fin:∀(its:List Value),Vals ys its->ys.length<=sizeLine->∀(h':Heap) (c':Nat),(∀b o',s.heap.get? b=some o'->h'.get? b=some o')->
   h'.get? s.heap.objs.size=some {cls:= .type "list",dict:=none,data:= .seq its.toArray c',slots:= #[]}->EP X pins σ Q (.ref s.heap.objs.size) {s with heap:=h'}:=λits r' hz h' c' kp e=>
  ⟨.ref s.heap.objs.size,_,I.laid (t':=s.toks) kp (As _) (show Cp X.prog X.w _ h' _ (.lst ys) from⟨hz,its,c',r',e⟩),rfl,q _ (I.BS.fresh (As _))⟩
 rcases hq with hq|hq
 ·obtain⟨its,r',pl,hz⟩:=I.list hq;have hlen:=r'.length;obtain⟨o,ho,hc,n,hd⟩:=pl.isList;exact call_list_seq p (.inl rfl) ho hc hd (λh' c' kp e=>fin its r' hz h' c' kp e) (by simp only[Br] <;> omega)
 ·obtain⟨its,r',pl,hz⟩:=I.tuple hq;have hlen:=r'.length;obtain⟨o,ho,hc,n,hd⟩:=pl;exact call_list_seq p (.inr rfl) ho hc hd (λh' c' kp e=>fin its r' hz h' c' kp e) (by simp only[Br] <;> omega)
def tyV(K:Ab)(T:String)(x:V)(H:Hp):Prop:=match x with
 | .str _=>T="str"
 | .int _=>T="int"
 | .ref p=>(T="list"/\∃xs,A_ K H p xs)\/(T="tuple"/\∃o,K.lookup p=some o/\o.cls= .type "tuple"/\o.dict=none)\/
   (T="dict"/\((∃AZ,H p=some (.dK AZ))\/∃AZ,H p=some (.dT AZ)))\/(T="set"/\∃S n,H p=some (.set S n))
 |_=>False
theorem oM{pins:List (Addr×Obj)}{σ:St}{H:Hp}{s:Shared}{T:String}{x:V}{v:Value}(I:Inv X pins σ H s)(r:RelV x v)(ty:tyV X.K T x H):
  s.TypeIs v T/\∀a,v= .ref a->∃ob,s.heap.get? a=some ob/\ob.dict=none:=by
 cases x with
 |str z=>
  obtain⟨t,rfl⟩:=r;cases (show T="str" from ty);exact⟨typeIs_str s z t,λ_ e=>nomatch e⟩
 |int i=>
  obtain⟨t,rfl⟩:=r;cases (show T="int" from ty);exact⟨typeIs_int s i t,λ_ e=>nomatch e⟩
 |ref p=>
  cases r;rcases ty with⟨rfl,xs,hq⟩|⟨rfl,o,hk,hc,hd⟩|⟨rfl,hk⟩|⟨rfl,S,n,hk⟩
  ·obtain⟨its,_,pl,_⟩:=I.list hq;refine⟨pl.isList.typeIs,λa e=> ?_⟩;cases e;obtain⟨o,n,e,c,hd,_⟩:=pl;exact⟨o,e,hd⟩
  ·refine⟨⟨o,I.XJ p o hk,hc⟩,λa e=> ?_⟩;cases e;exact⟨o,I.XJ _ o hk,hd⟩
  ·have z:∃o,s.heap.get? p=some o/\o.ExactDict:=by
    rcases hk with⟨AZ,hk⟩|⟨AZ,hk⟩
    ·obtain⟨_,_,_,_,o,_,_,e,ex,_⟩:=I.BS p _ hk;exact⟨o,e,ex⟩
    ·obtain⟨_,_,_,_,o,_,_,e,ex,_⟩:=I.BS p _ hk;exact⟨o,e,ex⟩
   obtain⟨o,e,ex⟩:=z;refine⟨⟨o,e,ex.1⟩,λa e2=> ?_⟩;cases e2;exact⟨o,e,ex.2.1⟩
  ·obtain⟨o,_,_,_,e,ex,_⟩:=I.BS p _ hk;refine⟨⟨o,e,ex.1⟩,λa e2=> ?_⟩;cases e2;exact⟨o,e,ex.2.1⟩
 |_=>exact Ft ty
def AEn(K:Ab)(T:String)(r:V->List V->Hp->VK->Prop)(to:TE):TE:=λσ H Q=>to σ H λx H1=>tyV K T x H1/\r x [] H1 Q
def tBM(K:Ab)(T:String)(r:V->List V->Hp->VK->Prop)(to:TE)(t:TA):TE:=λσ H Q=>to σ H λx H1=>tyV K T x H1/\t σ H1 λxs H2=>r x xs H2 Q
variable{o e:Expr}{es:List Expr}{to:TE}{t:TA}{name:Str}{apos F_:Pos}{T id:String}{r:V->List V->Hp->VK->Prop}
theorem oN(pa:PlainAttrs T)(slot:Slot T name id)(tG:typeOf (.builtin id)=pure (.type "method_descriptor"))(hm:MtR X id r)(ho:PE X o to)
  (Q_:attributeBase o name X.env (eval o X.env)=eval o X.env:=by rfl) (RA:(apos.endLine==F_.line)=true:=by rfl):PE X (.Call (.Attribute o name apos) [] [] F_) (AEn X.K T r to):=by
 intro pins s σ H Q I h;refine wpAny_Call_method0_late Q_ RA (Bt (ho pins s σ H _ I h) λv s1 ⟨x,H1,I1,r1,ty,q1⟩=> ?_);obtain⟨h1,h2⟩:=oM I1 r1 ty;exact⟨T,id,pa,slot,tG,h1,h2,Calls.callWith_builtin rfl (Z7 (hm pins s1 σ H1 x [] v [] Q I1 r1 .nil q1))⟩
theorem KY(pa:PlainAttrs T)(slot:Slot T name id)(tG:typeOf (.builtin id)=pure (.type "method_descriptor"))(hm:MtR X id r)(ho:PE X o to)(ha:PA X (e::es) t)
  (Q_:attributeBase o name X.env (eval o X.env)=eval o X.env:=by rfl)
  (AEo:((backTo F_ (starEach (e::es) X.env)).all (λx=> !x.1) && (backToKw F_ (keywordEach [] X.env)).all (λx=>x.1.isSome)
   && decide ((e::es).length+([]:List Keyword).length+(if([]:List Keyword).isEmpty then 0 else 1)<30))=true:=by rfl)
  (RA:(apos.endLine==F_.line)=true:=by rfl) (hs:starEach (e::es) X.env=(false,eval e X.env)::starEach es X.env:=by rfl) (ze:(backTo F_ (starEach es X.env)).any (·.1)=false:=by rfl):
  PE X (.Call (.Attribute o name apos) (e::es) [] F_) (tBM X.K T r to t):=by
 intro pins s σ H Q I h;refine wpAny_Call_method_late Q_ AEo RA rfl (Bt (ho pins s σ H _ I h) λv s1 ⟨x,H1,I1,r1,ty,q1⟩=> ?_);obtain⟨h1,h2⟩:=oM I1 r1 ty;refine⟨T,id,pa,slot,tG,h1,h2,?_⟩;have hA:=ha F_ pins s1 σ H1 _ I1 q1;rw[hs] at hA ⊢;refine Calls.callWith_builtin (by show(false ||(backTo F_ (starEach es X.env)).any (·.1))=false;rw[ze] <;> rfl) (Calls.evalArgs_plain ?_);exact Bt hA λus s2 ⟨vs,H2,I2,r2,q2⟩=>hm pins s2 σ H2 x vs v us Q I2 r1 r2 q2
end
end L2
namespace L2
open PySem PySem.Spec PyProof.Rows
def MtM(X:Cx)(id:String)(r:V->List V->Hp->VK->Prop):Prop:=
 ∀(pins:List (Addr×Obj)) (s:Shared) (σ:St) (H:Hp) (x:V) (xs:List V) (v:Value) (us:List Value) (Q:VK),Inv X pins σ H s->RelV x v->Vals xs us->r x xs H Q->
  wpAny (model X.prog X.w) X.A (call (.builtin id) (v::us)) (EP X pins σ Q) X.xe s
theorem Vals.one:∀{x:V} {us:List Value},Vals [x] us->∃u,us= [u]/\RelV x u
 |_,_,.cons r .nil=>⟨_,rfl,r⟩
theorem Vals.zero:∀{us:List Value},Vals [] us->us= []
 |_,.nil=>rfl
theorem Vals.dropLast{xs:List V}{us:List Value}(h:Vals xs us):Vals xs.dropLast us.dropLast:=by
 induction h with
 |nil=>exact .nil
 |cons r t ih=>
  cases t with
  |nil=>exact .nil
  |cons q t'=>exact .cons r ih
theorem Vals.eraseIdx:∀{xs:List V} {us:List Value} (i:Nat),Vals xs us->Vals (xs.eraseIdx i) (us.eraseIdx i)
 |_,_,_,.nil=> .nil
 |_,_,0,.cons _ t=>t
 |_,_,i+1,.cons r t=> .cons r (Vals.eraseIdx i t)
theorem Vals.rep{xs:List V}{us:List Value}(h:Vals xs us):∀k:Nat,Vals (GC k xs).flatten (GC k us).flatten
 |0=> .nil
 |k+1=>by
  rw[Na,Na,QZ,QZ];exact Vals.append h (Vals.rep h k)
theorem a8{α:Type}(l:List α):l.eraseIdx (l.length - 1)=l.dropLast:=by
 induction l with
 |nil=>rfl
 |cons a r ih=>
  cases r with
  |nil=>rfl
  |cons b r=>
   have e:(a::b::r).length - 1=((b::r).length - 1)+1:=by
    have h1:(a::b::r).length=r.length+2:=rfl;have h2:(b::r).length=r.length+1:=rfl;omega
   rw[e,List.eraseIdx_cons_succ,ih]
   all_goals rfl
theorem T8{α:Type}:∀(l:List α) (i:Nat),(l.eraseIdx i).length<=l.length
 | [],_=>As _
 |_::_,0=>Uz _
 |_::r,i+1=>Nat.succ_le_succ (T8 r i)
theorem foldl_rep(its:List Value):∀(k:Nat) (acc:List Value),
  Zi (λx1 x2=>x1++x2) acc.toArray (GC k its.toArray)=(acc++(GC k its).flatten).toArray
 |0,acc=>by simp
 |k+1,acc=>by
  have e:acc.toArray++its.toArray=(acc++its).toArray:=by simp
  have e2:(acc++its)++(GC k its).flatten=acc++(GC (k+1) its).flatten:=by
   rw[Na,QZ,Lh]
  rw[←e2,←foldl_rep its k (acc++its),←e,Na,LS]
section
variable{X:Cx}{pins:List (Addr×Obj)}{σ:St}{H:Hp}{s:Shared}{l b:Addr}{xs ys zs:List V}
theorem Inv.oO{its its':List Value}{n:Nat}{f:Array Value->Array Value}{t':Nat}(I:Inv X pins σ H s)(hH:H l=some (.lst xs))
  (e:s.heap.get? l=some {cls:= .type "list",data:= .seq its.toArray n}) (hf:f its.toArray=its'.toArray) (hv:Vals ys its') (hz:ys.length<=sizeLine):
  Inv X pins σ (upd H l (.lst ys)) {s with heap:=s.heap.update l (N3 f),toks:=t'}:=by
 have q:=PySem.IsL.update e f;rw[hf] at q;refine I.write (x:=l) (e:=l) (by rw[hH];exact trivial) (.inl rfl) (λb' u hb hu=>(kn s.heap (N3 f) (F9 hb)).trans hu) ⟨_,q⟩ ?_;exact⟨hz,its',_,hv,q⟩
theorem Inv.ACp{its:List Value}{t':Nat}(I:Inv X pins σ H s)(hv:Vals ys its)(hz:ys.length<=sizeLine):
  Inv X pins σ (upd H s.heap.objs.size (.lst ys)) {s with heap:=s.heap.push {cls:= .type "list",data:= .seq its.toArray},toks:=t'}:=
 I.laid (λ_ _ q=>Cy _ q) (As _) ⟨hz,its,0,hv,Df _ rfl⟩
theorem Inv.fresh(I:Inv X pins σ H s):H s.heap.objs.size=none:=I.BS.fresh (As _)
theorem Inv.Vl(I:Inv X pins σ H s)(hH:H l=some (.lst xs)):xs.length<=sizeLine/\∃(its:List Value) (n:Nat),Vals xs its/\xs.length=its.length/\s.heap.get? l=some {cls:= .type "list",data:= .seq its.toArray n}:=by
 obtain⟨z,its,n,r,e⟩:=I.BS l _ hH;exact⟨z,its,n,r,r.length,e⟩
theorem RD{n:Nat}(h:n<=sizeLine):Tu n=false:=by
 unfold Tu;exact AL (by omega)
end
section
variable{X:Cx}
inductive dz:V->List V->Hp->VK->Prop
 |mk (l xs y:_):x= .ref l->vs= [y]->H l=some (.lst xs)->xs.length<sizeLine->Q .Dg (upd H l (.lst (xs++ [y])))->dz x vs H Q
theorem Kx:MtM X "list.append" dz:=by
 intro pins s σ H x vs v us Q I rx rv h;obtain⟨l,xs,y,rfl,rfl,hH,hz,q⟩:=h;cases rx;obtain⟨u,rfl,ru⟩:=rv.one;obtain⟨z,its,n,r,hl,e⟩:=I.Vl hH;refine call_meets F.slot_list_append ⟨_,e,rfl⟩ F.entry_list_append (F.args_list_append_2 _ _) (PySem.list_append l its.toArray n u (by rw[Br];omega)) ⟨e,?_⟩;refine⟨.Dg,_,I.oO (its':=its++ [u]) hH e (by simp) (r.append (.cons ru .nil)) ?_,AA,q⟩;rw[CH,List.length_singleton];omega
inductive d6:V->List V->Hp->VK->Prop
 |mk (l b xs zs:_):x= .ref l->vs= [.ref b]->H l=some (.lst xs)->H b=some (.lst zs)->xs.length+zs.length<=sizeLine->Q .Dg (upd H l (.lst (xs++zs)))->d6 x vs H Q
theorem g_:MtM X "list.extend" d6:=by
 intro pins s σ H x vs v us Q I rx rv h;obtain⟨l,b,xs,zs,rfl,rfl,hH,hB,hz,q⟩:=h;cases rx;obtain⟨u,rfl,ru⟩:=rv.one;cases ru;obtain⟨z,its,n,r,hl,e⟩:=I.Vl hH;obtain⟨z2,Mb,n2,r2,Sl,e2⟩:=I.Vl hB;have hsz:its.toArray.size+Mb.toArray.size<=sizeLine:=by rw[Br,Br];omega
 have Xg:¬(!its.toArray.isEmpty && Tu (its.toArray.size+Mb.toArray.size))=true:=by
  rw[RD hsz,kg];exact DA
 refine call_meets Qo ⟨_,e,rfl⟩ lS (lQ _ _)
  (AutoSeq1.list_extend_list_list_0 l its.toArray n b Mb.toArray n2 Xg (by rw[Br];omega) (by omega)) ⟨e,e2,?_⟩
 refine⟨.Dg,_,I.oO (its':=its++Mb) hH e (by simp) (r.append r2) ?_,AA,q⟩;rw[CH];omega
inductive ACq:V->List V->Hp->VK->Prop
 |mk (l xs y:_):x= .ref l->vs= []->H l=some (.lst xs)->xs[xs.length - 1]? =some y->Q y (upd H l (.lst xs.dropLast))->ACq x vs H Q
theorem oP:MtM X "list.pop" ACq:=by
 intro pins s σ H x vs v us Q I rx rv h;obtain⟨l,xs,y,rfl,rfl,hH,hy,q⟩:=h;cases rx;have hus:=rv.zero;subst hus;obtain⟨z,its,n,r,hl,e⟩:=I.Vl hH;obtain⟨u,hu,ru⟩:=r.get hy;have hy':its.toArray[its.toArray.size - 1]? =some u:=by
  show its.toArray[its.length - 1]? =some u;rw[←mQ,←hl];exact hu
 refine call_meets KN ⟨_,e,rfl⟩ lY (F.args_list_pop_1 _) (MeetsSeq.list_pop_last l its.toArray n u hy' (by rw[Br];omega)) ⟨e,?_⟩;refine⟨y,_,I.oO (its':=its.dropLast) hH e ?_ r.dropLast ?_,ru,q⟩
 ·show its.toArray.eraseIdxIfInBounds (its.toArray.size - 1)=its.dropLast.toArray;rw[Br,j9,a8]
 ·rw[ZW];omega
inductive oQ:V->List V->Hp->VK->Prop
 |mk (l xs i k y:_):x= .ref l->vs= [.int i]->H l=some (.lst xs)->-(2^63)<=i->i<2^63->seqIndex? i xs.length=some k->xs[k]? =some y->Q y (upd H l (.lst (xs.eraseIdx k)))->oQ x vs H Q
theorem Md:MtM X "list.pop" oQ:=by
 intro pins s σ H x vs v us Q I rx rv h;obtain⟨l,xs,i,k,y,rfl,rfl,hH,h1,h2,hk,hy,q⟩:=h;cases rx;obtain⟨u,rfl,ru⟩:=rv.one;obtain⟨t,rfl⟩:=ru;obtain⟨z,its,n,r,hl,e⟩:=I.Vl hH;obtain⟨w,hw,g8⟩:=r.get hy;refine call_meets KN ⟨_,e,rfl⟩ lY (F.args_list_pop_2 _ _)
  (MeetsSeq.list_pop_at l its.toArray n i t k w (fitsIndex_both h1 h2) (by rw[Br,←hl];exact hk) (by rw[←mQ];exact hw) (by rw[Br];omega)) ⟨e,?_⟩
 refine⟨y,_,I.oO (its':=its.eraseIdx k) hH e ?_ (r.eraseIdx k) ?_,g8,q⟩
 ·show its.toArray.eraseIdxIfInBounds k=(its.eraseIdx k).toArray;rw[j9]
 ·have:=T8 xs k;omega
inductive ACr:R2
 |mk (l b xs zs:_):x= .ref l->y= .ref b->H l=some (.lst xs)->H b=some (.lst zs)->xs.length+zs.length<=sizeLine->(∀p,H p=none->Q (.ref p) (upd H p (.lst (xs++zs))))->ACr x y H Q
theorem zf:LG X (binaryOp .Add) ACr:=by
 intro pins s σ H x y v u Q I rx ry h;obtain⟨l,b,xs,zs,rfl,rfl,hH,hB,hz,q⟩:=h;cases rx;cases ry;obtain⟨z,its,n,r,hl,e⟩:=I.Vl hH;obtain⟨z2,Mb,n2,r2,Sl,e2⟩:=I.Vl hB;refine PySem.P.add_list e e2 ?_ (by rw[Br,Br];omega);have ea:its.toArray++Mb.toArray=(its++Mb).toArray:=by simp
 rw[ea];exact⟨.ref _,_,I.ACp (t':=s.toks) (r.append r2) (by rw[CH];omega),AA,q _ I.fresh⟩
inductive ACs:R2
 |mk (l k xs:_):x= .ref l->y= .int k->H l=some (.lst xs)->-(2^63)<=k->k<2^63->xs.length*k.toNat<=sizeLine->(∀p,H p=none->Q (.ref p) (upd H p (.lst (GC k.toNat xs).flatten)))->ACs x y H Q
theorem len_rep{α:Type}(xs:List α)(k:Nat):(GC k xs).flatten.length=k*xs.length:=by
 induction k with
 |zero=>simp
 |succ k ih=>rw[Na,QZ,CH,ih,Nat.succ_mul,kb]
theorem oR:LG X (binaryOp .Mult) ACs:=by
 intro pins s σ H x y v u Q I rx ry h;obtain⟨l,k,xs,rfl,rfl,hH,h1,h2,hz,q⟩:=h;cases rx;obtain⟨t,rfl⟩:=ry;obtain⟨z,its,n,r,hl,e⟩:=I.Vl hH;have hlen:its.toArray.size*k.toNat<=sizeLine:=by rw[Br,←hl];exact hz
 have AEp:¬its.toArray.size*k.toNat> (2^63 - 1) / 8:=by
  have:(sizeLine:Nat)<=(2^63 - 1) / 8:=by decide
  omega
 have AEq:¬(!yA k)=true:=by
  rw[fitsIndex_both h1 h2];exact DA
 have Xg:¬Tu (its.toArray.size*k.toNat)=true:=by
  rw[RD hlen];exact DA
 have AEr:Zi (λx1 x2=>x1++x2) #[] (GC (if its.toArray.isEmpty=true then 0 else k.toNat) its.toArray)=(GC k.toNat its).flatten.toArray:=by
  have f0:∀m:Nat,Zi (λx1 x2=>x1++x2) #[] (GC m its.toArray)=(GC m its).flatten.toArray:=λm=>by
   have:=foldl_rep its m [];rw[kO] at this;exact this
  rw[f0];cases its with
  |nil=>simp
  |cons a r'=>rw[AB (by simp)]
 refine wpAny_binaryOp_repeat_ref (T:="list") (U:="int") (by decide) ⟨_,e,rfl⟩ (λs'=>typeIs_int s' k t) noFill_list_mul F.fills_int_mul lZ repeat_list F.slot_int_index.lookup
  (call_meets lZ (typeIs_int s k t) F.entry_int_rmul (F.args_int_rmul_2 _ _) (int___rmul___int_list k t l its.toArray n)
   ⟨e,rfl,⟨_,e,rfl⟩,call_meets F.slot_list_mul ⟨_,e,rfl⟩ F.entry_list_mul (F.args_list_mul_2 _ _) (AutoListH.list___mul___list_int_3 l its.toArray n k t AEq AEp Xg) ⟨e,?_⟩⟩)
 rw[AEr];exact⟨.ref _,_,I.ACp (t':=s.toks) (r.rep k.toNat) (by rw[len_rep,Gs];exact hz),AA,q _ I.fresh⟩
end
section
variable{prog:Program}{w:World}{A:Around}{E:Value->Shared->Prop}{s:Shared}
set_option maxRecDepth 100000 in
end
section
variable{X:Cx}
end
end L2
namespace L2
open PySem PySem.Spec PyProof.Rows
theorem Vals.ints:∀{ns:List Int} {us:List Value},Vals (ns.map V.int) us->IntsAre us ns
 | [],us,h=>by
  rw[Qb] at h;cases h;exact IntsAre.nil
 |n::ns,us,h=>by
  rw[B7] at h;cases h with
  |cons r t=>
   obtain⟨k,rfl⟩:=r;exact IntsAre.cons n k (Vals.ints t)
theorem Vals.ACt{a:Addr}{us:List Value}(r:Vals [V.ref a] us):us= [BI a]:=by
 cases r with
 |cons r t=>
  cases t;cases r;rfl
section
variable{prog:Program}{w:World}{A:Around}{E:Value->Shared->Prop}{s:Shared}{l:Addr}{its:List Value}{ns:List Int}{Q:Value->Shared->Prop}
theorem uC(hh:A.handled=none)(hl:s.heap.IsList l its.toArray)(hi:IntsAre its ns)
  (h:∀h' tk t',(∀b o,s.heap.get? b=some o->h'.get? b=some o)->Q (.int ns.sum t') {s with heap:=h',toks:=tk}):wpAny (model prog w) A (call (.builtin "sum") [.ref l]) Q E s:=by
 obtain⟨xs,e⟩:=hi.allInts.items;have hn:numsOf (intItems xs).toList=ns:=by rw[←e];exact hi.numsOf
 rw[nums_intItems] at hn;rw[e] at hl;refine PySem.sum_intListG hh hl λh' tk t' hk=> ?_;have:=h h' tk t' hk;rw[preSum_eq,kD (by simp),hn];exact this
theorem uD(hh:A.handled=none)(hl:s.heap.IsList l its.toArray)(hi:IntsAre its ns)(Fv:0<ns.length)
  (h:∀h' tk M t',(∀b o,s.heap.get? b=some o->h'.get? b=some o)->M∈ns->(∀a,a∈ns->a<=M)->Q (.int M t') {s with heap:=h',toks:=tk}):wpAny (model prog w) A (call (.builtin "max") [.ref l]) Q E s:=by
 obtain⟨xs,e⟩:=hi.allInts.items;have hn:numsOf (intItems xs).toList=ns:=by rw[←e];exact hi.numsOf
 rw[nums_intItems] at hn;subst hn;rw[e] at hl;have hsz:0<xs.size:=by simpa using Fv
 refine PySem.max_intList hh hl hsz λv h' tk hv hk=> ?_;obtain⟨t,rfl⟩:=intItems_at hv;obtain⟨h1,h2⟩:=argBest_gt (numAt xs) (xs.size - 1);refine h h' tk _ t hk ?_ λa ha=> ?_
 ·rw[numAt_eq];exact PySem.getD_mem (by rw[BP,Qv];omega)
 ·obtain⟨j,hj,rfl⟩:=mem_getD ha;rw[BP,Qv] at hj;rw[←numAt_eq];exact h2 j (by omega)
end
section
variable{X:Cx}
inductive ACu(K:Ab):List V->Hp->VK->Prop
 |mk (a:Addr) (ns:List Int):vs= [V.ref a]->A_ K H a (ns.map V.int)->Q (.int ns.sum) H->ACu K vs H Q
inductive ACv(K:Ab):List V->Hp->VK->Prop
 |mk (a:Addr) (ns:List Int):vs= [V.ref a]->A_ K H a (ns.map V.int)->0<ns.length->(∀m,m∈ns->(∀y,y∈ns->y<=m)->Q (.int m) H)->ACv K vs H Q
theorem oS(hc:X.calm=true):Ox X (.builtin "sum") (ACu X.K):=by
 intro pins s σ H vs us Q I r h;obtain⟨a,ns,rfl,hs,q⟩:=h;obtain⟨its,rv,hl,_⟩:=I.list hs;rw[Vals.ACt r];exact uC (I.ok.hd hc) hl.isList rv.ints λh' tk t' hk=>⟨.int _,H,I.kept hk,⟨_,rfl⟩,q⟩
theorem zh(hc:X.calm=true):Ox X (.builtin "max") (ACv X.K):=by
 intro pins s σ H vs us Q I r h;obtain⟨a,ns,rfl,hs,Fv,q⟩:=h;obtain⟨its,rv,hl,_⟩:=I.list hs;rw[Vals.ACt r];exact uD (I.ok.hd hc) hl.isList rv.ints Fv λh' tk m t' hk h1 h2=>⟨.int _,H,I.kept hk,⟨_,rfl⟩,q m h1 h2⟩
end
section
variable{X:Cx}
end
section
variable{X:Cx}
end
section
variable{X:Cx}
end
mutual
inductive Dp(K:Ab)(H:Hp):V->PyData->Prop
 |Dg:Dp K H .Dg .none
 |bl (b:Bool):Dp K H (.bl b) (.bool b)
 |int (i:Int):Dp K H (.int i) (.int i)
 |str (x:Str):Dp K H (.str x) (.str x)
 |lst {a:Addr} {xs:List V} {ds:List PyData}:A_ K H a xs->Ed K H xs ds->Dp K H (.ref a) (.list ds)
 |tup {a:Addr} {xs:List V} {ds:List PyData}:Bi K H a xs->Ed K H xs ds->Dp K H (.ref a) (.tuple ds)
inductive Ed(K:Ab)(H:Hp):List V->List PyData->Prop
 |nil:Ed K H [] []
 |cons {v:V} {vs:List V} {d:PyData} {ds:List PyData}:Dp K H v d->Ed K H vs ds->Ed K H (v::vs) (d::ds)
end
section
variable{X:Cx}{pins:List (Addr×Obj)}{σ:St}{H:Hp}{s:Shared}
mutual
theorem Dp.reads(I:Inv X pins σ H s):∀(d:PyData) (v:V) (u:Value),Dp X.K H v d->RelV v u->∃as,Reads s.heap u d as
 | .none,_,_,h,r=>by
  cases h;cases r;exact⟨_,Reads.none⟩
 | .bool b,_,_,h,r=>by
  cases h;cases r;exact⟨_,Reads.bool b⟩
 | .int i,_,_,h,r=>by
  cases h;obtain⟨t,rfl⟩:=r;exact⟨_,Reads.int i t⟩
 | .str x,_,_,h,r=>by
  cases h;obtain⟨t,rfl⟩:=r;exact⟨_,Reads.str x t⟩
 | .list ds,_,_,h,r=>by
  cases h with
  |lst hs ha=>
   cases r;obtain⟨its,rv,⟨o,n,ho,hc,_,hd⟩,_⟩:=I.list hs;obtain⟨as,hr⟩:=Dp.readsAll I ds _ its ha rv;exact⟨_,Reads.list ho hc hd hr⟩
 | .tuple ds,_,_,h,r=>by
  cases h with
  |tup hs ha=>
   cases r;obtain⟨its,rv,⟨o,ho,hc,n,hd⟩,_⟩:=I.tuple hs;obtain⟨as,hr⟩:=Dp.readsAll I ds _ its ha rv;exact⟨_,Reads.tuple ho hc hd hr⟩
 | .dict _,_,_,h,_=>by cases h
theorem Dp.readsAll(I:Inv X pins σ H s):∀(ds:List PyData) (vs:List V) (us:List Value),Ed X.K H vs ds->Vals vs us->∃as,ReadsAll s.heap us ds as
 | [],_,_,h,r=>by
  cases h;cases r;exact⟨_,ReadsAll.nil⟩
 |d::ds,_,_,h,r=>by
  cases h with
  |cons h1 h2=>
   cases r with
   |cons r1 r2=>
    obtain⟨as,q1⟩:=Dp.reads I d _ _ h1 r1;obtain⟨bs,q2⟩:=Dp.readsAll I ds _ _ h2 r2;exact⟨_,ReadsAll.cons q1 q2⟩
end
end
section
variable{X:Cx}
inductive ACw(K:Ab):R2
 |mk (d e:_):Dp K H x d->Dp K H y e->KQ d=true->KQ e=true->Q (.bl (FO d e)) H->ACw K x y H Q
inductive uE(K:Ab):R2
 |mk (d e:_):Dp K H x d->Dp K H y e->KQ d=true->KQ e=true->Q (.bl (!FO d e)) H->uE K x y H Q
theorem zi(hu:X.A.units+64<cLine):LG X (compareOp .Eq) (ACw X.K):=by
 intro pins s σ H x y v u Q I rx ry h;obtain⟨d,e,hd,he,sd,se,q⟩:=h;obtain⟨as,r1⟩:=Dp.reads I d x v hd rx;obtain⟨bs,r2⟩:=Dp.reads I e y u he ry;exact SeqAt.compareEq_shaped r1 r2 sd se hu ⟨.bl _,H,I,rfl,q⟩
theorem oT(hu:X.A.units+64<cLine):LG X (compareOp .NotEq) (uE X.K):=by
 intro pins s σ H x y v u Q I rx ry h;obtain⟨d,e,hd,he,sd,se,q⟩:=h;obtain⟨as,r1⟩:=Dp.reads I d x v hd rx;obtain⟨bs,r2⟩:=Dp.reads I e y u he ry;exact SeqAt.compareNe_shaped r1 r2 sd se hu ⟨.bl _,H,I,rfl,q⟩
end
end L2
namespace L2
open PySem PySem.Spec PyProof.Rows
abbrev oU(h:Heap)(c:Addr)(v:Option Value):Prop:=h.IsCell c v
def AEs(scope sc:Scope):Scope:=
 {scope with names:=scope.names.map λ(n,k)=>if(k== .free && sc.kind== .function && sc.names.lookup n==some .cell) then(n,.cell) else(n,k)}
def Bv(cells:List (Str×Addr)):List (Str×NameKind)->List (Str×Addr)->List (Str×Addr)
 | [],acc=>acc
 |(n,k)::r,acc=>if k== .free then Bv cells r ((n,(cells.lookup n).getD 0)::acc) else Bv cells r acc
theorem Me(env:Env)(f:Str×NameKind->List (Str×Addr)->Sem (ForInStep (List (Str×Addr))))
  (hf:∀n k c,f (n,k) c=if k== .free then(do let a←cellOf env n;pure (.yield ((n,a)::c))) else pure (.yield c)):
  ∀(names:List (Str×NameKind)) (acc:List (Str×Addr)),(∀y∈names,y.2= .free->∃c,env.cells.lookup y.1=some c)->forIn names acc f=pure (Bv env.cells names acc)
 | [],acc,_=>by rw[Ze];rfl
 |(n,k)::r,acc,h=>by
  rw[kP,hf];have ih:=λacc=>Me env f hf r acc λy hy=>h y (Bb _ hy);unfold Bv;by_cases hk:(k==N1)=true
  ·rw[AG hk,AG hk];obtain⟨c,hc⟩:=h (n,k) Bw (by simpa using hk);have e:cellOf env n=pure c:=by unfold cellOf;rw[hc]
   rw[e];have e2:(env.cells.lookup n).getD 0=c:=by rw[hc];rfl
   rw[e2];exact ih _
  ·rw[AB hk,AB hk];exact ih _
theorem a9{scope:Scope}{env:Env}(h:∀y∈scope.names,y.2= .free->∃c,env.cells.lookup y.1=some c):closureFor scope env=pure (Bv env.cells scope.names []):=by
 simp only[closureFor];rw[Me env _ (λn k c=>rfl) scope.names [] h];rfl
theorem mem_lookup{α:Type}:∀{l:List (Str×α)} {n:Str} {c:α},(n,c)∈l->∃c',l.lookup n=some c'
 |(k,v)::r,n,c,h=>by
  rw[LQ];cases hb:n==k with
  |true=>exact⟨_,AA⟩
  |false=>
   rcases BQ.mp h with e|h
   ·cases e;simp at hb
   ·exact mem_lookup h
theorem HV{cells:List (Str×Addr)}:∀{names:List (Str×NameKind)} {acc:List (Str×Addr)} {n:Str} {c:Addr},(n,c)∈Bv cells names acc->(n,c)∈acc\/((n,.free)∈names/\c=(cells.lookup n).getD 0)
 | [],_,_,_,h=> .inl h
 |(m,k)::r,acc,n,c,h=>by
  unfold Bv at h;split at h
  ·rename_i hk;have hk:k= .free:=by simpa using hk
   rcases HV h with h|⟨h1,h2⟩
   ·rcases BQ.mp h with e|h
    ·cases e;exact .inr ⟨hk▸Bw,rfl⟩
    ·exact .inl h
   ·exact .inr ⟨Bb _ h1,h2⟩
  ·rcases HV h with h|⟨h1,h2⟩
   ·exact .inl h
   ·exact .inr ⟨Bb _ h1,h2⟩
theorem KZ{cells:List (Str×Addr)}:∀{names:List (Str×NameKind)} {acc:List (Str×Addr)} {p:Str×Addr},p∈acc->p∈Bv cells names acc
 | [],_,_,h=>h
 |(m,k)::r,acc,p,h=>by
  unfold Bv;split
  ·exact KZ (Bb _ h)
  ·exact KZ h
theorem Ka{cells:List (Str×Addr)}:∀{names:List (Str×NameKind)} {acc:List (Str×Addr)} {n:Str},(n,.free)∈names->(n,(cells.lookup n).getD 0)∈Bv cells names acc
 |(m,k)::r,acc,n,h=>by
  unfold Bv;rcases BQ.mp h with e|h
  ·cases e;exact KZ Bw
  ·split
   ·exact Ka h
   ·exact Ka h
theorem IS:∀{names:List (Str×NameKind)} {h:Heap} {acc:List (Str×Addr)} {x:Str} {c:Addr},(x,c)∈cellsFrom h.objs.size names acc->
  (x,c)∈acc\/((x,.cell)∈names/\h.objs.size<=c/\oU (pushCells h names) c none)
 | [],_,_,_,_,h=> .inl h
 |(n,k)::r,h,acc,x,c,hm=>by
  unfold cellsFrom at hm;unfold pushCells;split at hm
  ·rename_i hk;rw[AG hk];have hk:k= .cell:=by simpa using hk
   rw[←Jk h {cls:= .type "cell",data:= .cell none}] at hm;rcases IS hm with hm|⟨h1,h2,h3⟩
   ·rcases BQ.mp hm with e|hm
    ·cases e;exact .inr ⟨hk▸Bw,As _,_,pushCells_keeps r _ _ _ (Df _ rfl),rfl⟩
    ·exact .inl hm
   ·rw[Jk] at h2;exact .inr ⟨Bb _ h1,Uv h2,h3⟩
  ·rename_i hk;rw[AB hk];rcases IS hm with hm|⟨h1,h2,h3⟩
   ·exact .inl hm
   ·exact .inr ⟨Bb _ h1,h2,h3⟩
theorem Ky:∀{names:List (Str×NameKind)} {n:Nat} {acc:List (Str×Addr)} {p:Str×Addr},p∈acc->p∈cellsFrom n names acc
 | [],_,_,_,h=>h
 |(m,k)::r,n,acc,p,h=>by
  unfold cellsFrom;split
  ·exact Ky (Bb _ h)
  ·exact Ky h
theorem N7:∀{names:List (Str×NameKind)} {n:Nat} {acc:List (Str×Addr)} {x:Str},(x,.cell)∈names->∃c,(x,c)∈cellsFrom n names acc
 |(m,k)::r,n,acc,x,h=>by
  unfold cellsFrom;rcases BQ.mp h with e|h
  ·cases e;exact⟨n,Ky Bw⟩
  ·split
   ·exact N7 h
   ·exact N7 h
theorem N8:∀{names:List (Str×NameKind)} {h:Heap} {acc:List (Str×Addr)} {x y:Str} {c:Addr},(∀p∈acc,p.2<h.objs.size)->(∀x y c,(x,c)∈acc->(y,c)∈acc->x=y)->
  (x,c)∈cellsFrom h.objs.size names acc->(y,c)∈cellsFrom h.objs.size names acc->x=y
 | [],_,_,_,_,_,_,hi,h1,h2=>hi _ _ _ h1 h2
 |(n,k)::r,h,acc,x,y,c,hl,hi,h1,h2=>by
  unfold cellsFrom at h1 h2;split at h1
  ·rename_i hk;rw[AG hk] at h2;rw[←Jk h {cls:= .type "cell",data:= .cell none}] at h1 h2;refine N8 (h:=h.push _) (λp hp=> ?_) (λx y c a b=> ?_) h1 h2
   ·rw[Jk];rcases BQ.mp hp with rfl|hp
    ·exact Zn _
    ·exact Zm (hl p hp)
   ·rcases BQ.mp a with e|a <;> rcases BQ.mp b with e'|b
    ·cases e;cases e';rfl
    ·cases e;exact absurd (hl _ b) (Io _)
    ·cases e';exact absurd (hl _ a) (Io _)
    ·exact hi _ _ _ a b
  ·rename_i hk;rw[AB hk] at h2;exact N8 hl hi h1 h2
theorem Xh{M:Model}{A:Around}{E:Value->Shared->Prop}{s:Shared}{scope:Scope}{globals:Addr}{closure:List (Str×Addr)}{qual:Str}{func:Option Addr}{code:Value}{around:Env}{builtins:Addr}{Q:Env->Shared->Prop}
  (h:Q (newEnv scope s.heap.objs.size globals (cellsFrom (s.heap.objs.size+1) scope.names closure) qual func code (some around) builtins)
   {s with heap:=pushCells (s.heap.push {cls:= .type "dict",data:= .dict #[]}) scope.names}):
  wpAny M A (newFunctionEnv scope globals closure [] qual func code (some around) builtins) Q E s:=by
 simp only[newFunctionEnv,l9,if_true];refine wpAny_bind (wpAny_alloc ?_);refine wpAny_bind (wpAny_layCells _ (λn k c=>rfl) scope.names closure _ _ ?_);rw[show({s with heap:=s.heap.push {cls:= .type "dict",data:= .dict #[]}}:Shared).heap.objs.size=s.heap.objs.size+1 from Jk ..];rw[Ze];exact wpAny_bind (wpAny_pure (wpAny_pure h))
theorem Kb{sc:Scope}:∀{names:List (Str×NameKind)} {x:Str} {k:NameKind},
  (names.map λ(n,k)=>if(k==N1 && sc.kind== .function && sc.names.lookup n==some .cell) then(n,aT) else(n,k)).lookup x=some k->
  ∃k',names.lookup x=some k'/\(k=k'\/(k'= .free/\k= .cell))
 | [],_,_,h=>by simp at h
 |(n,k₀)::r,x,k,h=>by
  have ih:= @Kb sc r x k;have h':Gp x ((if(k₀==N1 && sc.kind== .function && sc.names.lookup n==some .cell)=true then(n,aT) else(n,k₀))::(r.map _))=some k:=h;cases hx:x==n with
  |true=>
   simp only[LQ,hx];by_cases hc:(k₀==N1 && sc.kind== .function && sc.names.lookup n==some .cell)=true
   ·rw[AG hc] at h';simp only[LQ,hx] at h';cases h';simp only[DV,beq_iff_eq] at hc;exact⟨k₀,AA,.inr ⟨hc.1.1,AA⟩⟩
   ·rw[AB hc] at h';simp only[LQ,hx] at h';cases h';exact⟨_,AA,.inl rfl⟩
  |false=>
   simp only[LQ,hx];by_cases hc:(k₀==N1 && sc.kind== .function && sc.names.lookup n==some .cell)=true
   ·rw[AG hc] at h';simp only[LQ,hx] at h';exact ih h'
   ·rw[AB hc] at h';simp only[LQ,hx] at h';exact ih h'
structure Xi(N:List Str)(sc scope:Scope)(own:List (Str×Nat)):Prop where
 kind:scope.kind= .function
 uniq:∀y∈scope.names,scope.names.lookup y.1=some y.2
 ix:∀p∈own,N[p.2]? =some p.1
 free:∀y∈scope.names,y.2= .free->sc.names.lookup y.1=some .cell\/sc.names.lookup y.1=some .free
 own:∀y∈scope.names,y.2= .local\/y.2= .cell->y.1∈own.map (·.1)\/y.1∉N
def wipe(σ:St):List Nat->St
 | []=>σ
 |v::vs=>(wipe σ vs).set v none
theorem Kc(σ:St):∀vs:List Nat,(wipe σ vs).length=σ.length
 | []=>rfl
 |v::vs=>by unfold wipe;rw[Lk,Kc σ vs]
theorem N9{σ:St}{i:Nat}{x:V}:∀{vs:List Nat},(wipe σ vs)[i]? =some (some x)->σ[i]? =some (some x)/\i∉vs
 | [],h=>⟨h,by simp⟩
 |v::vs,h=>by
  unfold wipe at h;by_cases hi:v=i
  ·subst hi;by_cases hv:v< (wipe σ vs).length
   ·rw[QV hv] at h;cases h
   ·rw[ZV (by simpa using hv)] at h;cases h
  ·rw[QW hi] at h;obtain⟨h1,h2⟩:=N9 h;exact⟨h1,by simp only[BQ,not_or];exact⟨λe=>hi e.symm,h2⟩⟩
abbrev Cx.Vm(X:Cx)(s:Shared)(H:Hp)(scope:Scope)(Ei:Env)(fp:List Addr):Cx:={X with Tv:=s,zE:=H,env:=Ei,outer:=X.stack,ex:=fp,fn:=λx=>scope.names.lookup x==some .cell,pn:= [],xe:=λ_ _=>False}
section
variable{X:Cx}{pins:List (Addr×Obj)}{σ:St}{H:Hp}{s:Shared}
theorem Xj{scope:Scope}{own:List (Str×Nat)}{fp:List Addr}(I:Inv X pins σ H s)(ok:Xi X.N X.env.scope scope own)(hN:X.N.Nodup)(hfp:∀b∈fp,Q2 X pins H b/\b<s.heap.objs.size):
  Inv (X.Vm s H scope (compEnvC scope (cellsFrom (s.heap.objs.size+1) scope.names (Bv X.env.cells scope.names [])) s.heap.objs.size X.env) fp) [] (wipe σ (own.map (·.2))) H {s with heap:=pushCells (s.heap.push {cls:= .type "dict",data:= .dict #[]}) scope.names}:=by
 have Tz:∀y∈scope.names,y.2= .free->∃c,X.env.cells.lookup y.1=some c:=λy hy e=>by
  rcases ok.free y hy e with k|k
  ·exact I.ok.has _ (.inl k)
  ·exact I.ok.has _ (.inr k)
 generalize Xk:compEnvC scope (cellsFrom (s.heap.objs.size+1) scope.names (Bv X.env.cells scope.names [])) s.heap.objs.size X.env=Ei;have kp:∀b o,s.heap.get? b=some o->(pushCells (s.heap.push {cls:= .type "dict",data:= .dict #[]}) scope.names).get? b=some o:=λb o e=>pushCells_keeps _ _ _ _ (Cy _ e);have hL:Ei.locals=s.heap.objs.size:=by rw[←Xk];rfl
 have zj:Ei.cells=cellsFrom (s.heap.objs.size+1) scope.names (Bv X.env.cells scope.names []):=by rw[←Xk];rfl
 have hsc:Ei.scope=AEs scope X.env.scope:=by rw[←Xk];rfl
 rw[←Jk s.heap {cls:= .type "dict",data:= .dict #[]}] at zj;have cm:∀{y c},(y,c)∈Bv X.env.cells scope.names []->X.env.cells.lookup y=some c/\c<s.heap.objs.size:=λ{y c} hm=>by
  rcases HV hm with hm|⟨h1,rfl⟩
  ·cases hm
  ·obtain⟨c,hc⟩:=Tz _ h1 rfl;rw[hc];obtain⟨w,z⟩:=I.cell _ _ hc;exact⟨AA,z.lt⟩
 have mem:∀{y c},Ei.cells.lookup y=some c->(X.env.cells.lookup y=some c/\c<s.heap.objs.size)\/(s.heap.objs.size+1<=c/\oU (pushCells (s.heap.push {cls:= .type "dict",data:= .dict #[]}) scope.names) c none):=λ{y c} e=>by
  rw[zj] at e;rcases IS (Gw e) with hm|⟨_,h2,h3⟩
  ·exact .inl (cm hm)
  ·rw[Jk] at h2;exact .inr ⟨h2,h3⟩
 have look:∀{y},scope.names.lookup y=some .free->∃c,Ei.cells.lookup y=some c/\X.env.cells.lookup y=some c:=λ{y} hl=>by
  have hy:(y,N1)∈scope.names:=Gw hl;obtain⟨c',e'⟩:=mem_lookup (Ky (names:=scope.names) (n:=(s.heap.push {cls:= .type "dict",data:= .dict #[]}).objs.size) (Ka (cells:=X.env.cells) (acc:= []) hy));rw[←zj] at e';refine⟨c',e',?_⟩;rw[zj] at e';rcases IS (Gw e') with hm|⟨h1,_,_⟩
  ·exact(cm hm).1
  ·have:=ok.uniq _ h1;rw[hl] at this;cases this
 have okB:(X.Vm s H scope Ei fp).Ok:=by
  refine⟨I.ok.mod,by show Ei.scope.kind=_;rw[hsc];exact ok.kind,by show Ei.globals=_;rw[←Xk];exact I.ok.glob,by show Ei.builtins=_;rw[←Xk];exact I.ok.blt,by show s.heap.objs.size<=Ei.locals;rw[hL];exact As _,
   λy z c e1 e2=> ?_,λy hy=> ?_,λy c z e=> ?_,I.ok.hd,I.ok.frames,.inl rfl,λb hb=>⟨?_,λy c e z=> ?_⟩,I.bs,A6 I.ok.tY I.sz,λb o e hb=> ?_,λb hb z=> ?_,I.stack,I.dX⟩
  ·have e1:Ei.cells.lookup y=some c:=e1;have e2:Ei.cells.lookup z=some c:=e2;rw[zj] at e1 e2;refine N8 (λp hp=> ?_) (λy z c a b=>I.ok.inj y z c (cm a).1 (cm b).1) (Gw e1) (Gw e2);rw[Jk];exact Zm (cm (y:=p.1) (c:=p.2) hp).2
  ·show∃c,Ei.cells.lookup y=some c;have key:∀k,Ei.kindOf y=some k->(k= .cell\/k= .free)->∃c,Ei.cells.lookup y=some c:=λk hk hk'=>by
    unfold Env.kindOf at hk;rw[hsc] at hk;obtain⟨k',e,r⟩:=Kb hk;have:k'= .cell\/k'= .free:=by
     rcases r with rfl|⟨rfl,_⟩
     ·exact hk'
     ·exact .inr rfl
    rcases this with rfl|rfl
    ·obtain⟨c,hm⟩:=N7 (n:=(s.heap.push {cls:= .type "dict",data:= .dict #[]}).objs.size) (acc:=Bv X.env.cells scope.names []) (Gw e);obtain⟨c',e'⟩:=mem_lookup hm;exact⟨c',by rw[zj];exact e'⟩
    ·obtain⟨c,h1,_⟩:=look e;exact⟨c,h1⟩
   rcases hy with hy|hy
   ·exact key _ hy (.inl rfl)
   ·exact key _ hy (.inr rfl)
  ·have z:(scope.names.lookup y==some aT)=true:=z;have z:scope.names.lookup y=some .cell:=by simpa using z
   have e:Ei.cells.lookup y=some c:=e;rw[zj] at e;rcases IS (Gw e) with hm|⟨_,h2,_⟩
   ·rcases HV hm with hm|⟨h1,_⟩
    ·cases hm
    ·have q:=ok.uniq _ h1;rw[z] at q;cases q
   ·rw[Jk] at h2;exact Uv h2
  ·show b≠Ei.locals;rw[hL];exact Dm (hfp b hb).2
  ·have e:Ei.cells.lookup y=some c:=e;rcases mem e with⟨h1,_⟩|⟨h1,_⟩
   ·exact(hfp b hb).1.2.2.2.2.1 y c h1 z
   ·have h2:s.heap.objs.size+1<=b:=by rw[←z];exact h1
    exact absurd (Cm (hfp b hb).2 (Uv h2)) (Io _)
  ·rcases(hfp b hb).1.2.2.2.1 with z|z
   ·exact I.ok.m8 b o e z
   ·exact absurd (Cm (Bh e) (A6 I.ok.tY z)) (Io _)
  ·rcases BQ.mp (I.aY b z) with z|z
   ·exact(hfp b hb).1.2.1 z
   ·exact(hfp b hb).1.2.2.1 z
 refine⟨okB,AA,I.bare,Un.kept kp,⟨λ_=>none,?_,λi y av e1 e2 e3=> ?_⟩,λy c e=> ?_,?_,λy c e=> ?_,λp hp=> ?_,I.BS.kept kp,by rw[Kc];exact I.len⟩
 ·show Heap.Ns _ Ei.locals _;rw[hL];exact Heap.Ns.keeps (Heap.Ns.new ..) λb o e=>pushCells_keeps _ _ _ _ e
 ·obtain⟨e2,Fv⟩:=N9 e2;have zo:scope.names.lookup y=some .free/\(Ei.kindOf y=some .cell\/Ei.kindOf y=some .free):=by
   have key:∀k,Ei.scope.names.lookup y=some k->k= .local\/k= .cell\/k= .free->scope.names.lookup y=some .free/\(Ei.kindOf y=some .cell\/Ei.kindOf y=some .free):=λk hk hk'=>by
    have a_:=hk;rw[hsc] at hk;obtain⟨k',e,r⟩:=Kb hk;have no:¬(k'= .local\/k'= .cell):=λhh=>by
     rcases ok.own _ (Gw e) hh with e'|e'
     ·obtain⟨p,hp,hpy⟩:=Fp.mp e';have e3:=ok.ix p hp;have:p.1=y:=hpy;rw[this] at e3;exact Fv (Fp.mpr ⟨p,hp,Qy hN e3 e1⟩)
     ·exact e' (II e1)
    rcases r with rfl|⟨rfl,rfl⟩
    ·rcases hk' with rfl|rfl|rfl
     ·exact absurd (.inl rfl) no
     ·exact absurd (.inr rfl) no
     ·exact⟨e,.inr a_⟩
    ·exact⟨e,.inl a_⟩
   have e3:zF Ei.scope y:=e3;rcases e3 with e3|e3|e3
   ·exact key _ e3 (.inl rfl)
   ·exact key _ e3 (.inr (.inl rfl))
   ·exact key _ e3 (.inr (.inr rfl))
  obtain⟨m,hn,hl⟩:=I.loc;have AEt:zF X.env.scope y:=(ok.free _ (Gw zo.1) rfl).elim (λk=> .inr (.inl k)) (λk=> .inr (.inr k));obtain⟨w,r,q⟩:=hl i y av e1 e2 AEt;refine⟨w,r,.inr ⟨zo.2,?_⟩⟩;obtain⟨c,h1,h2⟩:=look zo.1;rcases q with⟨k,_⟩|⟨_,c',e',z⟩
  ·have k:X.env.scope.names.lookup y=some .local:=k;rcases ok.free _ (Gw zo.1) rfl with k'|k' <;> rw[show X.env.scope.names.lookup y=_ from k'] at k <;> cases k
  ·rw[h2] at e';cases e';exact⟨c,h1,z.keeps kp⟩
 ·have e:Ei.cells.lookup y=some c:=e;rcases mem e with⟨h1,_⟩|⟨_,z⟩
  ·obtain⟨w,z⟩:=I.cell y c h1;exact⟨w,z.keeps kp⟩
  ·exact⟨_,z⟩
 ·show H Ei.locals=none;rw[hL];exact I.BS.fresh (As _)
 ·have e:Ei.cells.lookup y=some c:=e;rcases mem e with⟨h1,_⟩|⟨h1,_⟩
  ·exact I.IL y c h1
  ·exact I.BS.fresh (Uv h1)
 ·exact absurd (show p∈([]:List (Addr×Obj))++ [] from hp) (by simp)
theorem zp{E:Value->Shared->Prop}{D:Addr}{xs:List V}{y:V}{v:Value}{Q:Value->Shared->Prop}(I:Inv X pins σ H s)(hD:H D=some (.lst xs))(hz:xs.length<sizeLine)(r:RelV y v)
  (h:∀s',Inv X pins σ (upd H D (.lst (xs++ [y]))) s'->Q .none s'):wpAny (model X.prog X.w) X.A (call (.builtin "list.append") [.ref D,v]) Q E s:=by
 obtain⟨hz',its,n,ri,e⟩:=I.BS D _ hD;have hl:=ri.length;refine append_at (hsz:=by rw[Br];omega) e λh' sb dW=> ?_;refine h {s with heap:=h'} (I.write (t':=s.toks) (by rw[hD];trivial) (.inl rfl) (λb u hb q=>(sb.2 b hb).trans q) ⟨_,dW⟩ ⟨by rw[CH];exact hz,its++ [v],n+1,ri.append (.cons r .nil),?_⟩);rw[dW];simp
def PTs(X:Cx)(ifs:List Expr)(t:TT):Prop:=
 ∀(pins:List (Addr×Obj)) (s:Shared) (σ:St) (H:Hp) (Q:Bool->Hp->Prop),Inv X pins σ H s->t σ H Q->
  wpAny (model X.prog X.w) X.A (forIn ifs true λc r=>if r=true then do let ok←isTrue c X.env (eval c X.env);pure (VS ok) else pure (VS r)) (TP X pins σ Q) X.xe s
def zq:TT:=λ_ H Q=>Q true H
theorem Mf:PTs X [] zq:=λ_ _ _ H _ I h=>wpAny_tests_nil ⟨H,I,h⟩
theorem JD{c:Expr}{t:TT}(h:PT X c t):PTs X [c] t:=λpins s σ H Q I hw=>wpAny_tests_one (h pins s σ H Q I hw)
end
theorem hJ{α:Type}{t:Sem α}{Q Q':α->Shared->Prop}{M:Model}{A:Around}{E:Value->Shared->Prop}{s:Shared}(h:wpAny M A t Q (λ_ _=>False) s)(hQ:∀a s,Q a s->Q' a s):wpAny M A t Q' E s:=wpAny_mono h hQ λ_ _ z=>Ft z
theorem Vn{prog:Program}{w:World}{A:Around}{R:Result->Shared->Prop}{s:Shared}{elt target iter:Expr}{ifs:List Expr}{scope:Scope}{pos:Pos}{it acc:Value}{env:Env}(I:Nat->Shared->Prop)
  (turn:∀n s,I n s->wpAny (model prog w) A (pyNext it) (λr s₁=>match r with
   |none=>R (.ok .next) s₁
   |some v=>wpAny (model prog w) A (letOwnedTupleGo target it v) (λ_ s₁'=>wpAny (model prog w) A (assign target env v) (λ_ s₂=>
     wpAny (model prog w) A (forIn ifs true λc r=>if r=true then do let ok←isTrue c env (eval c env);pure (VS ok) else pure (VS r)) (λok s₃=>
      if ok=true then wpAny (model prog w) A (eval elt env) (λx s₄=>
       wpAny (model prog w) A (call (.builtin "list.append") [acc,x]) (λ_ s₅=>∃m,m<n/\I m s₅) (notedBy (model prog w) A env λe s'=>R (.error e) s') s₄) (notedBy (model prog w) A env λe s'=>R (.error e) s') s₃
      else∃m,m<n/\I m s₃) (notedBy (model prog w) A env λe s'=>R (.error e) s') s₂) (notedBy (model prog w) A env λe s'=>R (.error e) s') s₁') (notedBy (model prog w) A env λe s'=>R (.error e) s') s₁) (notedBy (model prog w) A env λe s'=>R (.error e) s') s)
  (n:Nat) (h:I n s):
  codeAny (model prog w) A (.compLoop (.ListComp elt [⟨target,iter,ifs,0⟩] scope pos) 0 it acc env) R s:=by
 refine codeAny_loop rfl I (λn s hI=> ?_) n h;show wpAny _ A ((compTurn (.ListComp elt [⟨target,iter,ifs,0⟩] scope pos) 0 it acc env).onRaise (λx=>do noteFrame x env;theTreesLotGoes x)) _ _ s;refine wpAny_noted ?_;rw[compTurn_list];refine wpAny_bind (wpAny_standAt (wpAny_bind (wpAny_mono (turn n s hI) (λr s₁ h₁=> ?_) λ_ _ h'=>h')));cases r with
 |none=>exact wpAny_pure h₁
 |some v=>
  refine wpAny_bind (wpAny_mono h₁ (λ_ s₁' h₁'=> ?_) λ_ _ h'=>h');refine wpAny_bind (wpAny_mono h₁' (λ_ s₂ h₂=>wpAny_bind (wpAny_mono h₂ (λok s₃ h₃=> ?_) λ_ _ h'=>h')) λ_ _ h'=>h');cases ok with
  |false=>exact wpAny_pure ⟨rfl,h₃⟩
  |true=>
   exact wpAny_bind (wpAny_bind (wpAny_mono h₃ (λx s₄ h₄=>wpAny_bind (wpAny_mono h₄ (λ_ s₅ h₅=>wpAny_pure (wpAny_pure ⟨rfl,h₅⟩)) λ_ _ h'=>h')) λ_ _ h'=>h'))
section
variable{X:Cx}
def tLc(wi:TI)(g:TG)(tt:TT)(te:TE)(vs:List Nat):TE:=λσ H Q=>wi σ H λJ H1=>∀D,H1 D=none->∃W:Nat->Nat->Hp->Prop,(∃m,W 0 m (upd H1 D (.lst [])))/\∀i m H,W i m H->
 (J.stop i H/\Q (.ref D) H)\/(J.go i H/\∃Nx:Hp->Prop,(∀H',Nx H'->∃m',m'<m/\W (i+1) m' H')/\∀x H',J.ah i H x H'->g x (wipe σ vs) H' λσ2 H2=>wipe σ2 vs=wipe σ vs/\tt σ2 H2 λb H3=>
  if b=true then te σ2 H3 λy H4=>∃acc,H4 D=some (.lst acc)/\acc.length<sizeLine/\Nx (upd H4 D (.lst (acc++ [y]))) else Nx H3)
theorem d7{pins:List (Addr×Obj)}{s:Shared}{σ:St}{H:Hp}{Q:VK}{elt tg iter:Expr}{ifs:List Expr}{scope:Scope}{own:List (Str×Nat)}{pos pos':Pos}{wi:TI}{g:TG}{tt:TT}{te:TE}{use:Option (Value->Sem Unit)}{Qf:Value->Shared->Prop}
  (hc:X.calm=true) (hN:X.N.Nodup) (I:Inv X pins σ H s) (hi:PI X tg iter wi) (ok:Xi X.N X.env.scope scope own)
  (hg:∀(s:Shared) (H:Hp) (C:Addr) (cl:List (Str×Addr)) (fp:List Addr),PG (X.Vm s H scope (compEnvC scope cl C X.env) fp) tg g) (ht:∀(s:Shared) (H:Hp) (C:Addr) (cl:List (Str×Addr)) (fp:List Addr),PTs (X.Vm s H scope (compEnvC scope cl C X.env) fp) ifs tt)
  (he:∀(s:Shared) (H:Hp) (C:Addr) (cl:List (Str×Addr)) (fp:List Addr),PE (X.Vm s H scope (compEnvC scope cl C X.env) fp) elt te) (hs:∀x,foldedSetIterable iter X.env x=pure x)
  (h:tLc wi g tt te (own.map (·.2)) σ H Q)
  (hRR:∀D C s' m H',Inv X pins σ H' s'->Q (.ref D) H'->s'.heap.Ns C m->Q2 X pins H' C->compPost (model X.prog X.w) X.A X.xe use Qf (.ref D) C (.ok .next) s'):
  wpAny (model X.prog X.w) X.A (comprehension (.ListComp elt [⟨tg,iter,ifs,0⟩] scope pos) scope X.env pos' (newList []) false (eval iter X.env) use) Qf X.xe s:=by
 have Tz:∀y∈scope.names,y.2= .free->∃c,X.env.cells.lookup y.1=some c:=λy hy e=>by
  rcases ok.free y hy e with k|k
  ·exact I.ok.has _ (.inl k)
  ·exact I.ok.has _ (.inr k)
 refine wpAny_comprehension_free (use:=use) rfl hs (a9 Tz) ok.kind (λy hy e=>by rw[ok.uniq y hy,e])
  (Bt (hi pins s σ H _ I h) λxv s1 hx=>Bt hx λitv s2 h2=> ?_)
 obtain⟨it,fp,tn,J,H2,e,I2,T,st2,f2,q⟩:=h2;subst e;refine wpAny_newObj_type (Xh ?_) (by show 0<=sizeLine;decide);generalize hD:s2.heap.objs.size=D;have hDn:H2 D=none:=I2.BS.fresh (Ux hD);obtain⟨W,⟨m0,w0⟩,turn⟩:=q D hDn;generalize hs3:({s2 with heap:=s2.heap.push {cls:= .type "list",data:= .seq ([]:List Value).toArray}}:Shared)=s3;have I3:Inv X pins σ (upd H2 D (.lst [])) s3:=by
  rw[←hs3];refine I2.laid (t':=s2.toks) (λb o e=>Cy _ e) (Ux hD) ⟨BR _,[],0,.nil,?_⟩;rw[←hD];exact Df _ rfl
 have h3:s3.heap=s2.heap.push {cls:= .type "list",data:= .seq ([]:List Value).toArray}:=by rw[←hs3]
 have sz:∀b∈fp,b<s2.heap.objs.size:=λb hb=>by
  obtain⟨o,e,_⟩:=T.obj _ _ st2 b hb;exact Bh e
 have f3:∀b∈fp,Q2 X pins (upd H2 D (.lst [])) b/\b<s3.heap.objs.size:=λb hb=>by
  have IA:=sz b hb;refine⟨⟨?_,(f2 b hb).2⟩,by rw[h3,Jk];exact Zm IA⟩;rw[AS (by rw[←hD];exact Dm IA)];exact(f2 b hb).1
 have st3:tn 0 s3.heap:=T.keep _ _ _ st2 λb _ o e=>by rw[h3];exact Cy _ e
 have I4:=Xj I3 ok hN f3;have pg:=hg s3 (upd H2 D (.lst [])) s3.heap.objs.size (cellsFrom (s3.heap.objs.size+1) scope.names (Bv X.env.cells scope.names [])) fp;have pt:=ht s3 (upd H2 D (.lst [])) s3.heap.objs.size (cellsFrom (s3.heap.objs.size+1) scope.names (Bv X.env.cells scope.names [])) fp;have pe:=he s3 (upd H2 D (.lst [])) s3.heap.objs.size (cellsFrom (s3.heap.objs.size+1) scope.names (Bv X.env.cells scope.names [])) fp;show codeAny _ _ (.compStart (.ListComp elt [⟨tg,iter,ifs,0⟩] scope pos) 0 (.ref it) (.ref D) (compEnvC scope (cellsFrom (s3.heap.objs.size+1) scope.names (Bv X.env.cells scope.names [])) s3.heap.objs.size X.env)) (compPost (model X.prog X.w) X.A X.xe use Qf (.ref D) s3.heap.objs.size) {s3 with heap:=pushCells (s3.heap.push {cls:= .type "dict",data:= .dict #[]}) scope.names};have nfp:∀b∈fp,(upd H2 D (.lst [])) b=none:=λb hb=>(f3 b hb).1.1;generalize hce:compEnvC scope (cellsFrom (s3.heap.objs.size+1) scope.names (Bv X.env.cells scope.names [])) s3.heap.objs.size X.env=ce at I4 pg pt pe ⊢;have cL:ce.locals=s3.heap.objs.size:=by subst hce;rfl
 generalize hH3:upd H2 D (.lst [])=H3 at I3 I4 pg pt pe w0 nfp f3;generalize hs4:({s3 with heap:=pushCells (s3.heap.push {cls:= .type "dict",data:= .dict #[]}) scope.names}:Shared)=s4 at I4 ⊢;have st4:tn 0 s4.heap:=T.keep _ _ _ st3 λb _ o e=>by rw[←hs4];exact pushCells_keeps _ _ _ _ (Cy _ e)
 have aj:∀{σ':St} {H':Hp} {s':Shared},Inv (X.Vm s3 H3 scope ce fp) [] σ' H' s'->(∀b∈fp,H' b=none)->∀b∈fp,Q2 (X.Vm s3 H3 scope ce fp) [] H' b:=λ{σ' H' s'} I' hn b hb=>
  ⟨hn b hb,(I'.ok.exf b hb).1,I'.ok.m9 b hb,.inl hb,λx c e=>(I'.ok.exf b hb).2 x c e,λp hp=>absurd (show p∈([]:List (Addr×Obj))++ [] from hp) (by simp)⟩
 have loop:codeAny (model X.prog X.w) X.A (.compLoop (.ListComp elt [⟨tg,iter,ifs,0⟩] scope pos) 0 (.ref it) (.ref D) ce) (compPost (model X.prog X.w) X.A X.xe use Qf (.ref D) s3.heap.objs.size) s4:=by
  refine Vn (λn s'=>∃i H',Inv (X.Vm s3 H3 scope ce fp) [] (wipe σ (own.map (·.2))) H' s'/\tn i s'.heap/\(∀b∈fp,H' b=none)/\W i n H') ?_ m0 ⟨0,H3,I4,st4,nfp,w0⟩;rintro n s5 ⟨i,H5,I5,st5,n5,w5⟩;rcases turn i n H5 w5 with⟨stop,qq⟩|⟨go,Nx,hNx,step⟩
  ·have td:=T.done (X.Vm s3 H3 scope ce fp) rfl rfl rfl hc i [] s5 _ H5 (λ_ _=>False) I5 (aj I5 n5) st5 stop;refine hJ td λr s6 ⟨hr,I6⟩=> ?_;subst hr;have I7:Inv X pins σ H5 s6:=I3.ACO (ch:=fp) I6.os I6.base I6.BS I6.bare λb hb=>⟨(f3 b hb).1.2.2.2.1,(f3 b hb).1.2.1,(f3 b hb).1.2.2.2.2.1,(f3 b hb).1.2.2.2.2.2⟩;have nC:H5 s3.heap.objs.size=none:=by
    have z:H5 ce.locals=none:=I6.free;rw[cL] at z;exact z
   obtain⟨m,hn,_⟩:=I6.loc;have hn:s6.heap.Ns ce.locals m:=hn;rw[cL] at hn;exact hRR D s3.heap.objs.size s6 m H5 I7 qq hn (I3.nN (As _) nC)
  ·have ti:=T.item (X.Vm s3 H3 scope ce fp) rfl rfl rfl hc i [] s5 _ H5 (λ_ _=>False) I5 (aj I5 n5) st5 go;refine hJ ti λr s6 ⟨u,hr,h6⟩=> ?_;subst hr;refine hJ h6 λ_ s7 ⟨x,H7,I7,r7,y7,st7,n7⟩=> ?_;have I7':=I7.pinned (aj I7 n7) (T.obj _ _ st7);refine hJ (pg _ s7 _ H7 x u _ I7' r7 (step x H7 y7)) λ_ s8 ⟨σ8,H8,I8,hw8,q8⟩=> ?_;refine hJ (pt _ s8 σ8 H8 _ I8 q8) λb s9 ⟨H9,I9,q9⟩=> ?_;have fin:∀{s':Shared} {H':Hp},Inv (X.Vm s3 H3 scope ce fp) ([]++Q3 fp s7.heap) σ8 H' s'->Nx H'->∃m,m<n/\∃i H',Inv (X.Vm s3 H3 scope ce fp) [] (wipe σ (own.map (·.2))) H' s'/\tn i s'.heap/\(∀b∈fp,H' b=none)/\W i m H':=λ{s' H'} I' nx=>by
    obtain⟨m',hm,w'⟩:=hNx H' nx;have ACx:∀b∈fp,∀o,s7.heap.get? b=some o->s'.heap.get? b=some o/\H' b=none:=λb hb o e=>
     let z:=I'.pin (b,o) (EF _ (EF _ (L8 hb e)))
     ⟨z.1,z.2.1⟩
    have hl:(wipe σ (own.map (·.2))).length=σ8.length:=by rw[←hw8,Kc]
    refine⟨m',hm,i+1,H',(I'.MY (pins:= [])).weak hl (λj v e=> ?_),T.keep _ _ _ st7 λb hb o e=>(ACx b hb o e).1,λb hb=> ?_,w'⟩
    ·rw[←hw8] at e;exact(N9 e).1
    ·obtain⟨o,e,_⟩:=T.obj _ _ st7 b hb;exact(ACx b hb o e).2
   cases b with
   |false=>
    simp only[Z1,if_false] at q9 ⊢;exact fin I9 q9
   |true=>
    simp only[if_true] at q9 ⊢;refine hJ (pe _ s9 σ8 H9 _ I9 q9) λz s10 ⟨yv,H10,I10,r10,acc,AEu,AEv,nx⟩=> ?_;exact zp (X:=X.Vm s3 H3 scope ce fp) I10 AEu AEv r10 λs11 I11=>fin I11 nx
 exact codeAny_compStart_list loop (T.self X.A 0 _ _ _ st4 loop)
theorem Kd{elt tg iter:Expr}{ifs:List Expr}{scope:Scope}{own:List (Str×Nat)}{pos:Pos}{wi:TI}{g:TG}{tt:TT}{te:TE}(hc:X.calm=true)(hN:X.N.Nodup)(hi:PI X tg iter wi)(ok:Xi X.N X.env.scope scope own)
  (hg:∀(s:Shared) (H:Hp) (C:Addr) (cl:List (Str×Addr)) (fp:List Addr),PG (X.Vm s H scope (compEnvC scope cl C X.env) fp) tg g) (ht:∀(s:Shared) (H:Hp) (C:Addr) (cl:List (Str×Addr)) (fp:List Addr),PTs (X.Vm s H scope (compEnvC scope cl C X.env) fp) ifs tt)
  (he:∀(s:Shared) (H:Hp) (C:Addr) (cl:List (Str×Addr)) (fp:List Addr),PE (X.Vm s H scope (compEnvC scope cl C X.env) fp) elt te) (hs:∀x,foldedSetIterable iter X.env x=pure x:=by intro _;rfl):
  PE X (.ListComp elt [⟨tg,iter,ifs,0⟩] scope pos) (tLc wi g tt te (own.map (·.2))):=by
 intro pins s σ H Q I h;rw[eval_ListComp];refine d7 hc hN I hi ok hg ht he hs h λD C s' m H' I' q hn f=>⟨m,hn,λjo sb=> ?_⟩;obtain⟨f0,f1,f2,f3,f4,f5⟩:=f;exact⟨.ref D,H',I'.turned (t':=s'.toks) (λb o hb e=>(sb.2 b hb).trans e) f0 f1 f3 f4 f5,AA,q⟩
theorem oV{i:Nat}{y:Str}{py:Pos}{elt tg iter:Expr}{ifs:List Expr}{scope:Scope}{own:List (Str×Nat)}{pos ACy:Pos}{wi:TI}{g:TG}{tt:TT}{te:TE}(hc:X.calm=true)(hN:X.N.Nodup)(hy:X.N[i]? =some y)(hyl:X.env.scope.names.lookup y=some .local)
  (hsw:swapsWith (.ListComp elt [⟨tg,iter,ifs,0⟩] scope pos) (some (.Name y py)) ACy.line X.env=pure true) (hi:PI X tg iter wi) (ok:Xi X.N X.env.scope scope own)
  (hg:∀(s:Shared) (H:Hp) (C:Addr) (cl:List (Str×Addr)) (fp:List Addr),PG (X.Vm s H scope (compEnvC scope cl C X.env) fp) tg g) (ht:∀(s:Shared) (H:Hp) (C:Addr) (cl:List (Str×Addr)) (fp:List Addr),PTs (X.Vm s H scope (compEnvC scope cl C X.env) fp) ifs tt)
  (he:∀(s:Shared) (H:Hp) (C:Addr) (cl:List (Str×Addr)) (fp:List Addr),PE (X.Vm s H scope (compEnvC scope cl C X.env) fp) elt te) (hs:∀x,foldedSetIterable iter X.env x=pure x:=by intro _;rfl):
  PS X (.Assign [.Name y py] (.ListComp elt [⟨tg,iter,ifs,0⟩] scope pos) ACy) (zO (tLc wi g tt te (own.map (·.2))) (Ow i)):=by
 intro pins s σ H D I h;rw[exec_Assign_Name_used _ _ _ _ hsw];refine wpAny_bind (wpAny_standAt (wpAny_bind ?_));show wpAny _ X.A (do let _←comprehension (.ListComp elt [⟨tg,iter,ifs,0⟩] scope pos) scope X.env (firstIterPos [⟨tg,iter,ifs,0⟩] pos) (newList []) false (eval iter X.env) (some (assign (.Name y py) X.env))) _ _ s;have h:tLc wi g tt te (own.map (·.2)) σ H (λx H1=>Ow i x σ H1 D.nx):=h;refine wpAny_bind (Bt (d7 (Qf:=λ_ s'=>SP X pins D .next s') hc hN I hi ok hg ht he hs h λL C s' m H' I' q hn f=> ?_) λ_ s' hq=>wpAny_pure (wpAny_pure hq));show wpAny _ _ (assign (.Name y py) X.env (.ref L)) _ _ _;refine wpAny_assign_Name (Tx (v:=V.ref L) I' hN hy (.inl hyl) rfl (λs2 I2 ⟨a,sb,ha⟩=> ?_) (.inr hyl));obtain⟨f0,f1,f2,f3,f4,f5⟩:=f;have haC:C≠a:=by
  rcases ha with z|z
  ·rw[z];exact f1
  ·exact λe=>f4 y a z e.symm
 refine⟨m,hn.sameBut sb haC,λh3 sb3=> ?_⟩;exact⟨_,H',I2.turned (t':=s2.toks) (λb o hb e=>(sb3.2 b hb).trans e) f0 f1 f3 f4 f5,q⟩
theorem uF{elt:Expr}{gs:List Comprehension}{scope:Scope}{pos py:Pos}{y:Str}{l:Nat}{env:Env}(hk:env.scope.kind= .function)(hy:env.scope.names.lookup y=some .local)(hl:(py.line==pos.line)=true)
  (ha:(scope.names.any λ(n,k)=>n==y && (k== .local || k== .cell))=false):swapsWith (.ListComp elt gs scope pos) (some (.Name y py)) l env=pure true:=by
 have ky:env.kindOf y=some .local:=hy;have hb:env.blockKind= .function:=by unfold Env.blockKind;rw[hk];rfl
 unfold swapsWith;simp only[hb,ky,ha,Expr.pos,hl];rfl
end
theorem oW{lo:Int}{n:Nat}{g:TG}{tt:TT}{te:TE}{vs:List Nat}{σ:St}{H1:Hp}{D:Addr}{Qd:Hp->Prop}(Pv:Nat->Hp->Prop)(h0:Pv 0 (upd H1 D (.lst [])))
  (hs:∀i H,i<n->Pv i H->g (.int (lo+i)) (wipe σ vs) H λσ2 H2=>wipe σ2 vs=wipe σ vs/\tt σ2 H2 λb H3=>
   if b=true then te σ2 H3 λy H4=>∃acc,H4 D=some (.lst acc)/\acc.length<sizeLine/\Pv (i+1) (upd H4 D (.lst (acc++ [y]))) else Pv (i+1) H3) (hd:∀H,Pv n H->Qd H):
  ∃W:Nat->Nat->Hp->Prop,(∃m,W 0 m (upd H1 D (.lst [])))/\∀i m H,W i m H->
   ((tE lo n).stop i H/\Qd H)\/((tE lo n).go i H/\∃Nx:Hp->Prop,(∀H',Nx H'->∃m',m'<m/\W (i+1) m' H')/\∀x H',(tE lo n).ah i H x H'->g x (wipe σ vs) H' λσ2 H2=>wipe σ2 vs=wipe σ vs/\tt σ2 H2 λb H3=>
    if b=true then te σ2 H3 λy H4=>∃acc,H4 D=some (.lst acc)/\acc.length<sizeLine/\Nx (upd H4 D (.lst (acc++ [y]))) else Nx H3):=by
 refine⟨λi m H=>m=n - i/\i<=n/\Pv i H,⟨n,by simp,BR _,h0⟩,?_⟩;rintro i m H ⟨rfl,hi,p⟩;by_cases IA:i<n
 ·refine .inr ⟨IA,Pv (i+1),λH' p'=>⟨n - (i+1),by omega,rfl,IA,p'⟩,λx H' y=> ?_⟩;obtain⟨e,y⟩:=y;subst e y;exact hs i _ IA p
 ·have e:i=n:=by omega
  subst e;exact .inl ⟨As _,hd H p⟩
theorem Vo{K:Ab}{a:Addr}{xs:List V}{g:TG}{tt:TT}{te:TE}{vs:List Nat}{σ:St}{H1:Hp}{D:Addr}{Qd:Hp->Prop}(Pv:Nat->Hp->Prop)(h0:Pv 0 (upd H1 D (.lst [])))(hl:∀i H,i<=xs.length->Pv i H->A_ K H a xs)
  (hs:∀i x H,xs[i]? =some x->Pv i H->g x (wipe σ vs) H λσ2 H2=>wipe σ2 vs=wipe σ vs/\tt σ2 H2 λb H3=>
   if b=true then te σ2 H3 λy H4=>∃acc,H4 D=some (.lst acc)/\acc.length<sizeLine/\Pv (i+1) (upd H4 D (.lst (acc++ [y]))) else Pv (i+1) H3) (hd:∀H,Pv xs.length H->Qd H):
  ∃W:Nat->Nat->Hp->Prop,(∃m,W 0 m (upd H1 D (.lst [])))/\∀i m H,W i m H->
   ((XX K a).stop i H/\Qd H)\/((XX K a).go i H/\∃Nx:Hp->Prop,(∀H',Nx H'->∃m',m'<m/\W (i+1) m' H')/\∀x H',(XX K a).ah i H x H'->g x (wipe σ vs) H' λσ2 H2=>wipe σ2 vs=wipe σ vs/\tt σ2 H2 λb H3=>
    if b=true then te σ2 H3 λy H4=>∃acc,H4 D=some (.lst acc)/\acc.length<sizeLine/\Nx (upd H4 D (.lst (acc++ [y]))) else Nx H3):=by
 refine⟨λi m H=>m=xs.length - i/\i<=xs.length/\Pv i H,⟨xs.length,by simp,BR _,h0⟩,?_⟩;rintro i m H ⟨rfl,hi,p⟩;have q:=hl i H hi p;by_cases IA:i<xs.length
 ·refine .inr ⟨⟨xs,xs[i],q,by simp[IA]⟩,Pv (i+1),λH' p'=>⟨xs.length - (i+1),by omega,rfl,IA,p'⟩,λx H' y=> ?_⟩;obtain⟨e,y⟩:=y;subst e;exact hs i x _ (y xs q) p
 ·have e:i=xs.length:=by omega
  subst e;exact .inl ⟨⟨xs,q,As _⟩,hd H p⟩
def ACz(N:List Str)(sc scope:Scope)(own:List (Str×Nat)):Bool:=
 (match scope.kind with| .function=>true|_=>false) && (scope.names.all λy=>decide (scope.names.lookup y.1=some y.2)) && (own.all λp=>decide (N[p.2]? =some p.1)) &&
  (scope.names.all λy=>match y.2 with
   | .free=>(match sc.names.lookup y.1 with|some .cell=>true|some .free=>true|_=>false)
   | .local=>decide (y.1∈own.map (·.1)) || decide (y.1∉N)
   | .cell=>decide (y.1∈own.map (·.1)) || decide (y.1∉N)
   |_=>true)
theorem DX{N:List Str}{sc scope:Scope}{own:List (Str×Nat)}(h:ACz N sc scope own=true):Xi N sc scope own:=by
 unfold ACz at h;simp only[DV,Li,decide_eq_true_eq] at h;obtain⟨⟨⟨h1,h2⟩,h3⟩,h4⟩:=h;refine⟨?_,h2,h3,λy hy e=> ?_,λy hy e=> ?_⟩
 ·split at h1
  ·assumption
  ·cases h1
 ·have q:=h4 y hy;simp only[e] at q;split at q <;> first|exact .inl (by assumption)|exact .inr (by assumption)|cases q
 ·have q:=h4 y hy;rcases e with e|e <;> (simp only[e,U1,decide_eq_true_eq] at q;exact q)
end L2
namespace L2
open PySem PySem.Spec PyProof.Rows
section
variable{prog:Program}{w:World}{A:Around}{R:Result->Shared->Prop}{s:Shared}{elt t0 i0 t1 i1:Expr}{AFw AFx:List Expr}{scope:Scope}{pos:Pos}{it acc:Value}{env:Env}
end
section
variable{X:Cx}
end
end L2
namespace L2
open PySem PySem.Spec PyProof.Rows
section
variable{κ:Type} [DecidableEq κ]
def EG(AZ:List (κ×V))(k:κ):Option V:=(AZ.find? λkv=>decide (kv.1=k)).map (·.2)
def putK(AZ:List (κ×V))(k:κ)(v:V):List (κ×V):=
 if(AZ.any λkv=>decide (kv.1=k))=true then AZ.map (λkv=>if kv.1=k then(kv.1,v) else kv) else AZ++ [(k,v)]
theorem CW{p:κ×V}{r:List (κ×V)}{k:κ}(e:p.1=k):EG (p::r) k=some p.2:=by simp[EG,Nf,e]
theorem CY{p:κ×V}{r:List (κ×V)}{k:κ}(e:¬p.1=k):EG (p::r) k=EG r k:=by simp[EG,Nf,e]
theorem Gz(k:κ):∀AZ:List (κ×V),(AZ.any λkv=>decide (kv.1=k))=(EG AZ k).isSome
 | []=>rfl
 |p::r=>by
  rw[Ll];by_cases e:p.1=k
  ·simp only[CW e,AH e,Bool.true_or,l9]
  ·rw[CY e,AL e,Z2];exact Gz k r
theorem Xl(k j:κ)(y:V):∀AZ:List (κ×V),EG (AZ.map λkv=>if kv.1=k then(kv.1,y) else kv) j=(EG AZ j).map λx=>if j=k then y else x
 | []=>rfl
 |p::r=>by
  have ih:=Xl k j y r;rw[B7];by_cases h:p.1=k
  ·rw[AG h];by_cases e:p.1=j
   ·rw[CW (p:=(p.1,y)) e,CW e,Ly,AG (e.symm.trans h)]
   ·rw[CY (p:=(p.1,y)) e,CY e,ih]
  ·rw[AB h];by_cases e:p.1=j
   ·rw[CW (p:=p) e,CW e,Ly,AB (λz=>h (e.trans z))]
   ·rw[CY (p:=p) e,CY e,ih]
theorem T9(k j:κ)(y:V):∀AZ:List (κ×V),EG AZ k=none->EG (AZ++ [(k,y)]) j=if j=k then some y else EG AZ j
 | [],_=>by
  by_cases e:k=j
  ·rw[AG e.symm];exact CW (p:=(k,y)) e
  ·rw[AB (λz=>e z.symm)];exact CY (p:=(k,y)) e
 |p::r,hn=>by
  rw[List.cons_append];have hk:¬p.1=k:=λz=>by rw[CW z] at hn;cases hn
  rw[CY hk] at hn;have ih:=T9 k j y r hn;by_cases e:p.1=j
  ·rw[CW e,CW e,AB (λz=>hk (e.trans z))]
  ·rw[CY e,CY e,ih]
theorem oX(AZ:List (κ×V))(k j:κ)(y:V):EG (putK AZ k y) j=if j=k then some y else EG AZ j:=by
 unfold putK;by_cases a:(AZ.any λkv=>decide (kv.1=k))=true
 ·rw[AG a,Xl];rw[Gz] at a;by_cases e:j=k
  ·obtain⟨x,hx⟩:=l7.mp a;rw[AG e,e,hx,Ly,AG rfl]
  ·rw[AB e];cases EG AZ j with
   |none=>rfl
   |some x=>rw[Ly,AB e]
 ·rw[AB a];refine T9 k j y AZ ?_;rw[Gz] at a;cases q:EG AZ k with
  |none=>rfl
  |some x=>rw[q] at a;exact(a rfl).elim
theorem HW(AZ:List (κ×V))(k:κ)(v:V):(putK AZ k v).length<=AZ.length+1:=by
 unfold putK;split
 ·rw[BP];omega
 ·rw[CH,CD,Nd];omega
theorem Xm{AZ:List (κ×V)}{k:κ}(v:V)(h:EG AZ k=none):putK AZ k v=AZ++ [(k,v)]:=by
 unfold putK;rw[Gz,h];exact AB (by decide)
theorem Jx.N_{o:Option V}{u:Option Value}(r:Jx o u):o.isSome=u.isSome:=by
 cases o with
 |none=>cases u with
  |none=>rfl
  |some _=>exact(show False from r).elim
 |some _=>cases u with
  |none=>exact(show False from r).elim
  |some _=>rfl
theorem Jx.getD{o:Option V}{u:Option Value}{d:V}{d':Value}(r:Jx o u)(rd:RelV d d'):RelV (o.getD d) (u.getD d'):=by
 cases o with
 |none=>cases u with
  |none=>exact rd
  |some _=>exact(show False from r).elim
 |some _=>cases u with
  |none=>exact(show False from r).elim
  |some _=>exact r
theorem KV.val{AZ:List (κ×V)}{vs:List (κ×Value)}(r:KV AZ vs)(k:κ):Jx (EG AZ k) (valueAt vs k):=by
 unfold KV at r;induction r with
 |nil=>exact I_
 | @cons p q ps qs h t ih=>
  obtain⟨h1,h2⟩:=h;by_cases e:p.1=k
  ·have e':q.1=k:=h1.symm.trans e;have b:valueAt (q::qs) k=some q.2:=by simp[valueAt,Nf,e']
   rw[CW e,b];exact h2
  ·have e':¬q.1=k:=λz=>e (h1.trans z);have b:valueAt (q::qs) k=valueAt qs k:=by simp[valueAt,Nf,e']
   rw[CY e,b];exact ih
theorem KV.any{AZ:List (κ×V)}{vs:List (κ×Value)}(r:KV AZ vs)(k:κ):(AZ.any λkv=>decide (kv.1=k))=vs.any λkv=>decide (kv.1=k):=by
 unfold KV at r;induction r with
 |nil=>rfl
 |cons h t ih=>rw[Ll,Ll,ih,h.1]
theorem KV.zr{AZ:List (κ×V)}{vs:List (κ×Value)}(r:KV AZ vs)(k:κ){y:V}{u:Value}(ry:RelV y u):
  KV (AZ.map λkv=>if kv.1=k then(kv.1,y) else kv) (vs.map λkv=>if kv.1=k then(kv.1,u) else kv):=by
 unfold KV at r ⊢;induction r with
 |nil=>exact .nil
 | @cons p q ps qs h t ih=>
  rw[B7,B7];refine .cons ?_ ih;obtain⟨h1,h2⟩:=h;by_cases e:p.1=k
  ·rw[AG e,AG (h1.symm.trans e)];exact⟨h1,ry⟩
  ·rw[AB e,AB (λz=>e (h1.trans z))];exact⟨h1,h2⟩
theorem KV.put{AZ:List (κ×V)}{vs:List (κ×Value)}(r:KV AZ vs)(k:κ){y:V}{u:Value}(ry:RelV y u):KV (putK AZ k y) (stored vs k u):=by
 unfold putK stored;rw[r.any k];by_cases e:(vs.any λkv=>decide (kv.1=k))=true
 ·rw[AG e,AG e];exact r.zr k ry
 ·rw[AB e,AB e];exact Paired.snoc r ⟨rfl,ry⟩
theorem KV.length{AZ:List (κ×V)}{vs:List (κ×Value)}(r:KV AZ vs):AZ.length=vs.length:=Paired.length r
end
theorem T_{P:Program}{w:World}{k:Key}{u:Value}(r:RelV (kV k) u):(Bf P w).is k u=true:=by
 cases k with
 |inl i=>obtain⟨t,e⟩:=(show∃t,u=KL i t from r);subst e;exact XS P w i t
 |inr x=>obtain⟨t,e⟩:=(show∃t,u=VA x t from r);subst e;exact XT P w x t
theorem T'{P:Program}{w:World}:∀{ks:List Key} {us:List Value},Vals (ks.map kV) us->ItemsAre (Bf P w) ks us
 | [],_,r=>by rw[Qb] at r;cases r;exact .nil
 |k::ks,_,r=>by
  rw[B7] at r;cases r with
  |cons h t=>exact .cons (T_ h) (T' t)
abbrev KT(H:Hp):List (List Key×V)->List (List Key×Addr×Value)->Prop:=Paired λp q=>p.1=q.1/\H q.2.1=some (.tup (p.1.map kV))/\RelV p.2 q.2.2
theorem KT.val{H:Hp}{AZ:List (List Key×V)}{xs:List (List Key×Addr×Value)}(r:KT H AZ xs)(k:List Key):Jx (EG AZ k) ((atKey xs k).map (·.2)):=by
 induction r with
 |nil=>exact I_
 | @cons p q ps qs h t ih=>
  obtain⟨h1,_,h2⟩:=h;by_cases e:p.1=k
  ·have e':q.1=k:=h1.symm.trans e;have b:atKey (q::qs) k=some q.2:=by simp[atKey,Nf,e']
   rw[CW e,b];exact h2
  ·have e':¬q.1=k:=λz=>e (h1.trans z);have b:atKey (q::qs) k=atKey qs k:=by simp[atKey,Nf,e']
   rw[CY e,b];exact ih
theorem KT.zr{H:Hp}{AZ:List (List Key×V)}{xs:List (List Key×Addr×Value)}(r:KT H AZ xs)(k:List Key){y:V}{u:Value}(ry:RelV y u):
  KT H (AZ.map λkv=>if kv.1=k then(kv.1,y) else kv) (xs.map (putAt k u)):=by
 induction r with
 |nil=>exact .nil
 | @cons p q ps qs h t ih=>
  rw[B7,B7];refine .cons ?_ ih;obtain⟨h1,h2,h3⟩:=h;unfold putAt;by_cases e:p.1=k
  ·rw[AG e,AG (h1.symm.trans e)];exact⟨h1,h2,ry⟩
  ·rw[AB e,AB (λz=>e (h1.trans z))];exact⟨h1,h2,h3⟩
theorem KT.put{H:Hp}{AZ:List (List Key×V)}{xs:List (List Key×Addr×Value)}(r:KT H AZ xs)(k:List Key){b:Addr}{y:V}{u:Value}(hb:H b=some (.tup (k.map kV)))(ry:RelV y u):
  KT H (putK AZ k y) (storedH xs k b u):=by
 have e:(AZ.any λkv=>decide (kv.1=k))=(atKey xs k).isSome:=by
  rw[Gz,(r.val k).N_,l_]
 unfold putK storedH;rw[e];by_cases q:(atKey xs k).isSome=true
 ·rw[AG q,AG q];exact r.zr k ry
 ·rw[AB q,AB q];exact Paired.snoc r ⟨rfl,hb,ry⟩
theorem KT.keeps{H H':Hp}{AZ:List (List Key×V)}{xs:List (List Key×Addr×Value)}(r:KT H AZ xs)(ht:∀b ys,H b=some (.tup ys)->H' b=some (.tup ys)):KT H' AZ xs:=
 Paired.Jy r λ_ _ z=>⟨z.1,ht _ _ z.2.1,z.2.2⟩
section
variable{P:Program}{w:World}{H:Hp}{h:Heap}{a:Addr}
theorem wz{u:HO}(ok:KS P w H h)(e:Rd H a u):Cp P w H h a u:=e.ok ok
theorem UA{AZ:List (Key×V)}(ok:KS P w H h)(e:Rd H a (.dK AZ)):AZ.length<=sizeLine/\(a==sysModules)=false/\∃vs,KV AZ vs/\h.DictOf (Bf P w) a vs:=
 show Cp P w H h a (.dK AZ) from wz ok e
theorem w6{AZ:List (Key×V)}(ok:KS P w H h)(e:H a=some (.dK AZ)):AZ.length<=sizeLine/\(a==sysModules)=false/\∃vs,KV AZ vs/\h.DictOf (Bf P w) a vs:=UA ok (.inl e)
theorem L'{ks:List Key}(ok:KS P w H h)(e:H a=some (.tup (ks.map kV))):(tupleKind (Bf P w)).is h ks a:=by
 obtain⟨_,its,r,o,h1,h2,n,h3⟩:=(show Cp P w H h a (.tup (ks.map kV)) from ok a _ e);exact⟨o,its.toArray,n,h1,h2,h3,by simpa using T' r⟩
theorem UB{AZ:List (List Key×V)}(ok:KS P w H h)(e:Rd H a (.dT AZ)):AZ.length<=sizeLine/\(a==sysModules)=false/\
  ∃xs,KT H AZ xs/\h.DictOfH (tupleKind (Bf P w)) a xs:=by
 obtain⟨z,y,xs,r,o,es,ep,h1,h2,h3,h4,h5⟩:=(show Cp P w H h a (.dT AZ) from wz ok e);refine⟨z,y,xs,r,o,es,ep,h1,h2,h3,h4,λx hx=> ?_,h5⟩;have all:∀{l:List (List Key×V)} {m:List (List Key×Addr×Value)},KT H l m->∀x∈m,(tupleKind (Bf P w)).is h x.1 x.2.1:=by
  intro l m q;induction q with
  |nil=>intro x hx;exact nomatch hx
  | @cons p q ps qs hq t ih=>
   intro x hx;rcases BQ.mp hx with e|hx
   ·subst e;exact L' ok (by rw[←hq.1];exact hq.2.1)
   ·exact ih x hx
 exact all r x hx
theorem w8{AZ:List (List Key×V)}(ok:KS P w H h)(e:H a=some (.dT AZ)):AZ.length<=sizeLine/\(a==sysModules)=false/\
  ∃xs,KT H AZ xs/\h.DictOfH (tupleKind (Bf P w)) a xs:=UB ok (.inl e)
end
def Jz(H:Hp)(a:Addr)(y:V)(r:Option V):Prop:=
 (∃AZ k,Rd H a (.dK AZ)/\y=kV k/\r=EG AZ k)\/∃AZ k b,Rd H a (.dT AZ)/\y= .ref b/\H b=some (.tup (k.map kV))/\r=EG AZ k
def Vp(H:Hp)(a:Addr)(y v:V)(H':Hp):Prop:=
 (∃AZ k,H a=some (.dK AZ)/\y=kV k/\AZ.length<sizeLine/\H'=upd H a (.dK (putK AZ k v)))\/
 ∃AZ k b,H a=some (.dT AZ)/\y= .ref b/\H b=some (.tup (k.map kV))/\AZ.length<sizeLine/\H'=upd H a (.dT (putK AZ k v))
theorem Jz.k{H:Hp}{a:Addr}{AZ:List (Key×V)}{k:Key}(e:H a=some (.dK AZ)):Jz H a (kV k) (EG AZ k):= .inl ⟨AZ,k,.inl e,rfl,rfl⟩
theorem Jz.t{H:Hp}{a b:Addr}{AZ:List (List Key×V)}{k:List Key}(e:H a=some (.dT AZ))(eb:H b=some (.tup (k.map kV))):Jz H a (.ref b) (EG AZ k):= .inr ⟨AZ,k,b,.inl e,rfl,eb,rfl⟩
theorem Vp.k{H:Hp}{a:Addr}{AZ:List (Key×V)}{k:Key}{v:V}(e:H a=some (.dK AZ))(hl:AZ.length<sizeLine):Vp H a (kV k) v (upd H a (.dK (putK AZ k v))):= .inl ⟨AZ,k,e,rfl,hl,rfl⟩
theorem Vp.t{H:Hp}{a b:Addr}{AZ:List (List Key×V)}{k:List Key}{v:V}(e:H a=some (.dT AZ))(eb:H b=some (.tup (k.map kV)))(hl:AZ.length<sizeLine):
  Vp H a (.ref b) v (upd H a (.dT (putK AZ k v))):= .inr ⟨AZ,k,b,e,rfl,eb,hl,rfl⟩
section
variable{X:Cx}{pins:List (Addr×Obj)}{σ:St}{H:Hp}{s:Shared}{a:Addr}{y v:V}{u r:Value}{o:Option V}{A:Around}{E:Value->Shared->Prop}
theorem Inv.big(I:Inv X pins σ H s):sysModules<s.heap.objs.size:=by
 have h:mainGlobals<s.heap.objs.size:=(I.mod.glob.keeps I.bk).lt;exact Zu (by decide) h
theorem hU{Q:Value->Shared->Prop}(hu:A.units+1<cLine)(I:Inv X pins σ H s)(g:Jz H a y (some v))(ry:RelV y u)(h:∀w' s',Inv X pins σ H s'->RelV v w'->Q w' s'):
  wpAny (model X.prog X.w) A (getItem (.ref a) u) Q E s:=by
 rcases g with⟨AZ,k,e,ey,l⟩|⟨AZ,k,b,e,ey,eb,l⟩
 ·subst ey;obtain⟨z,hd,vs,rel,dd⟩:=UA I.BS e;obtain⟨w',hw,g8⟩:=Jx.some_of (v:=v) (o:=valueAt vs k) (by rw[l];exact rel.val k);exact wpAny_getItem_of (T_ ry) dd.mapOf hw (h w' _ (I.tok _) g8)
 ·subst ey;cases (show u=BI b from ry);obtain⟨z,hd,xs,rel,dd⟩:=UB I.BS e;obtain⟨w',hw,g8⟩:=Jx.some_of (v:=v) (o:=(atKey xs k).map (·.2)) (by rw[l];exact rel.val k);obtain⟨p,hp,RE⟩:=l8.mp hw;refine wpAny_getItem_heap (tupleKind_room_in1 hu) (L' I.BS eb) dd hp ?_;rw[RE];exact h w' _ (I.tok _) g8
theorem uG{Q:Value->Shared->Prop}(hu:A.units+1<cLine)(I:Inv X pins σ H s)(g:Jz H a y o)(ry:RelV y u)(h:∀s',Inv X pins σ H s'->Q (.bool (!o.isSome)) s'):
  wpAny (model X.prog X.w) A (compareOp .NotIn u (.ref a)) Q E s:=by
 rcases g with⟨AZ,k,e,ey,l⟩|⟨AZ,k,b,e,ey,eb,l⟩
 ·subst ey;obtain⟨z,hd,vs,rel,dd⟩:=UA I.BS e;refine wpAny_notIn_of (T_ ry) hd dd.mapOf ?_;rw[←(rel.val k).N_,←l];exact h _ (I.tok _)
 ·subst ey;cases (show u=BI b from ry);obtain⟨z,hd,xs,rel,dd⟩:=UB I.BS e;refine wpAny_notIn_heap (tupleKind_room_in1 hu) (L' I.BS eb) hd dd ?_;have q:=(rel.val k).N_;rw[l_] at q;rw[←q,←l];exact h _ (I.tok _)
theorem P4{h':Heap}{t':Nat}{ob:HO}(I:Inv X pins σ H s)(mu:s_ (H a))(hs:Hu a s.heap h')(he:∃q,h'.get? a=some q)(new:Cp X.prog X.w (upd H a ob) h' a ob):
  Inv X pins σ (upd H a ob) {s with heap:=h',toks:=t'}:=
 I.write (x:=a) (e:=a) mu (.inl rfl) (λb q hb z=>(hs.2 b hb).trans z) he new
theorem oY{P:Program}{w:World}{H':Hp}{h':Heap}{AZ:List (Key×V)}{vs:List (Key×Value)}(z:AZ.length<=sizeLine)(hd:(a==sysModules)=false)(rel:KV AZ vs)(dd:h'.DictOf (Bf P w) a vs):
  Cp P w H' h' a (.dK AZ):=⟨z,hd,vs,rel,dd⟩
theorem hW{H':Hp}{Q:Unit->Shared->Prop}(hu:A.units+1<cLine)(I:Inv X pins σ H s)(g:Vp H a y v H')(ry:RelV y u)(rv:RelV v r)(h:∀s',Inv X pins σ H' s'->Q () s'):
  wpAny (model X.prog X.w) A (setItem (.ref a) u r) Q E s:=by
 rcases g with⟨AZ,k,e,ey,l,eH⟩|⟨AZ,k,b,e,ey,eb,l,eH⟩
 ·subst ey eH;obtain⟨z,hd,vs,rel,dd⟩:=w6 I.BS e;have hz:vs.length<=sizeLine:=by rw[←rel.length];exact z
  have hl:(putK AZ k v).length<=sizeLine:=by have:=HW AZ k v;omega
  refine wpAny_setItem_pairs (hsz:=hz) (T_ ry) dd λh' uH hs=>h _ ?_;have he:∃q,h'.get? a=some q:=let⟨q,_,_,hq,_⟩:=uH;⟨q,hq⟩;exact P4 I (by rw[e];exact I_) hs he (oY hl hd (rel.put k rv) uH)
 ·subst ey eH;cases (show u=BI b from ry);obtain⟨z,hd,xs,rel,dd⟩:=w8 I.BS e;have hz:xs.length<=sizeLine:=by rw[←Paired.length rel];exact z
  have hl:(putK AZ k v).length<=sizeLine:=by have:=HW AZ k v;omega
  refine wpAny_setItem_heap (hsz:=hz) (tupleKind_room_in1 hu) (L' I.BS eb) dd λh' uH hs=>h _ ?_;obtain⟨q,es,ep,hq,h2,h3,h4,_,h5⟩:=uH;refine P4 I (by rw[e];exact I_) hs ⟨q,hq⟩ ⟨hl,hd,_,(rel.put k eb rv).keeps λc ys ec=> ?_,q,es,ep,hq,h2,h3,h4,h5⟩;rw[AS (Ao ec e (λz=>nomatch z))];exact ec
end
section
variable{X:Cx}{pins:List (Addr×Obj)}{σ:St}{H:Hp}{s:Shared}{a:Addr}{AZ:List (Key×V)}{k:Key}{u:Value}{A:Around}{E:Value->Shared->Prop}
end
def AC0(i:Expr):Prop:=∀ov iv,subscripted i false ov iv=operate [ov,iv] (getItem ov iv)
theorem uI{prog:Program}{w:World}{A:Around}{E:Value->Shared->Prop}{s:Shared}{env:Env}{value slice:Expr}{pos:Pos}{T id:String}{Q:Value->Shared->Prop}
  (hl:typeLookup (.type T) "__getitem__"=pure (some (.builtin id))) (hs:AC0 slice)
  (h:wpAny (model prog w) A (eval value env) (λo s₁=>wpAny (model prog w) A (eval slice env) (λi s₂=>s₂.TypeIs o T/\wpAny (model prog w) A (getItem o i) Q E s₂) E s₁) E s):
  wpAny (model prog w) A (eval (.Subscript value slice pos) env) Q E s:=by
 refine Subscript_ (wpAny_mono h (λo s₁ h₁=>wpAny_mono h₁ (λi s₂ h₂=> ?_) λ_ _ x=>x) λ_ _ x=>x);obtain⟨hT,h₂⟩:=h₂;unfold subscriptTail;refine wpAny_bind ?_;rw[getitemInPython_of_ne hT.not_modules];refine wpAny_bind (wpAny_specialOf hT hl ?_);have fin:wpAny (model prog w) A (subscripted slice false o i) (λr s₃=>wpAny (model prog w) A (letTemporaryGo value o r>>=λ_=>pure r) Q E s₃) E s₂:=by
  rw[hs o i];exact wpAny_operating (wpAny_mono h₂ (λr s₃ h₃=>wpAny_bind (wpAny_letTemporaryGo (wpAny_pure h₃))) λ_ _ x=>x)
 first
  |exact wpAny_pure (wpAny_bind fin)
  |exact wpAny_bind (wpAny_pure (wpAny_bind fin))
  |exact wpAny_bind fin
theorem Xn{X:Cx}{pins:List (Addr×Obj)}{σ:St}{H:Hp}{s:Shared}{a:Addr}{y:V}{o:Option V}(I:Inv X pins σ H s)(g:Jz H a y o):s.TypeIs (.ref a) "dict":=by
 rcases g with⟨AZ,k,e,_,_⟩|⟨AZ,k,b,e,_,_,_⟩
 ·obtain⟨_,_,vs,_,dd⟩:=UA I.BS e;exact dd.typeIs
 ·obtain⟨_,_,xs,_,dd⟩:=UB I.BS e;exact dd.typeIs
inductive oZ(Q:VK)(x:V)(y:V)(H2:Hp):Prop
 |mk (a v:_) (x0:x= .ref a) (x1:Jz H2 a y (some v)) (x2:Q v H2):oZ Q x y H2
def Xo(td ty:TE):TE:=λσ H Q=>td σ H λx H1=>ty σ H1 (oZ Q x)
inductive Xp(Q:VK)(y:V)(x:V)(H2:Hp):Prop
 |mk (a o:_) (x0:x= .ref a) (x1:Jz H2 a y o) (x2:Q (.bl (!o.isSome)) H2):Xp Q y x H2
def uJ(ty td:TE):TE:=λσ H Q=>ty σ H λy H1=>td σ H1 (Xp Q y)
inductive oa(D:Ends)(σ:L2.St)(v:V)(x:V)(y:V)(H3:Hp):Prop
 |mk (a H4:_) (x0:x= .ref a) (x1:Vp H3 a y v H4) (x2:D.nx σ H4):oa D σ v x y H3
def AC1(td ty tv:TE):TS:=λD σ H=>tv σ H λv H1=>td σ H1 λx H2=>ty σ H2 (oa D σ v x)
section
variable{X:Cx}{o i e value:Expr}{pos pos' LH:Pos}{td ty tv:TE}
theorem Vq(hu:X.A.units+1<cLine)(ho:PE X o td)(hi:PE X i ty)(hs:AC0 i):PE X (.Subscript o i pos) (Xo td ty):=by
 intro pins s σ H Q I h;refine uI PySem.F.slot_dict_getitem.lookup hs (Bt (ho pins s σ H _ I h) λu s1 ⟨x,H1,I1,rx,q1⟩=>Bt (hi pins s1 σ H1 _ I1 q1) λiv s2 ⟨y,H2,I2,ry,a,v,ex,g,q2⟩=> ?_);subst ex;obtain rfl:u=BI a:=rx;exact⟨Xn I2 g,hU hu I2 g ry λw' s3 I3 g8=>⟨v,H2,I3,g8,q2⟩⟩
theorem hZ(hu:X.A.units+1<cLine)(hi:PE X i ty)(ho:PE X o td):PC X .NotIn i o (uJ ty td):=by
 intro pins s σ H Q I h;refine Bt (hi pins s σ H _ I h) λiv s1 ⟨y,H1,I1,ry,q1⟩=>Bt (ho pins s1 σ H1 _ I1 q1) λu s2 ⟨x,H2,I2,rx,a,ov,ex,g,q2⟩=> ?_;subst ex;obtain rfl:u=BI a:=rx;exact uG hu I2 g ry λs3 I3=>⟨.bl (!ov.isSome),H2,I3,rfl,q2⟩
theorem Vr(hu:X.A.units+1<cLine)(ho:PE X o td)(hi:PE X i ty)(hv:PE X value tv)(hs:swapsWith value (some (.Subscript o i pos')) pos.line X.env=pure false):
  PS X (.Assign [.Subscript o i pos'] value pos) (AC1 td ty tv):=by
 intro pins s σ H D I h;refine wpAny_Assign_Subscript (Bt (hv pins s σ H _ I h) λr s1 ⟨v,H1,I1,rv,q1⟩=>Bt (ho pins s1 σ H1 _ I1 q1) λu s2 ⟨x,H2,I2,rx,q2⟩=>Bt (hi pins s2 σ H2 _ I2 q2) λiv s3 ⟨y,H3,I3,ry,a,H4,ex,g,q3⟩=> ?_) hs;subst ex;obtain rfl:u=BI a:=rx;exact hW hu I3 g ry rv λs4 I4=>⟨σ,H4,I4,q3⟩
end
theorem Xq{P:Program}{w:World}{H:Hp}(h:Heap)(hb:sysModules<h.objs.size):Cp P w H (h.push {cls:= .type "dict",data:= .dict #[]}) h.objs.size (.dK []):=
 ⟨BR _,beq_eq_false_iff_ne.mpr (F9 (Dm hb)),[],.nil,yt h⟩
theorem Xr{P:Program}{w:World}{H:Hp}(h:Heap)(hb:sysModules<h.objs.size):Cp P w H (h.push {cls:= .type "dict",data:= .dict #[]}) h.objs.size (.dT []):=
 ⟨BR _,beq_eq_false_iff_ne.mpr (F9 (Dm hb)),[],.nil,_,#[],0,Df _ rfl,⟨rfl,rfl,rfl⟩,rfl,rfl,GD⟩
def zt:TE:=λ_ H Q=>∀p,H p=none->Q (.ref p) (upd H p (.dK []))
def zw:TE:=λ_ H Q=>∀p,H p=none->Q (.ref p) (upd H p (.dT []))
section
variable{X:Cx}{pos:Pos}
theorem oe:PE X (.Dict [] [] pos) zt:=λpins s σ H Q I h=>
 wpAny_Dict_empty ⟨.ref s.heap.objs.size,_,I.laid (a:=s.heap.objs.size) (o:= .dK []) (t':=s.toks) (λ_ _ q=>Cy _ q) (As _) (Xq s.heap I.big),rfl,h _ (I.BS.fresh (As _))⟩
theorem Xs:PE X (.Dict [] [] pos) zw:=λpins s σ H Q I h=>
 wpAny_Dict_empty ⟨.ref s.heap.objs.size,_,I.laid (a:=s.heap.objs.size) (o:= .dT []) (t':=s.toks) (λ_ _ q=>Cy _ q) (As _) (Xr s.heap I.big),rfl,h _ (I.BS.fresh (As _))⟩
end
def bC:List (TE×TE)->St->Hp->(List (V×V)->Hp->Prop)->Prop
 | [],_,H,Q=>Q [] H
 |(tk,tv)::r,σ,H,Q=>tk σ H λx H1=>tv σ H1 λy H2=>bC r σ H2 λps H3=>Q ((x,y)::ps) H3
abbrev VV:List (V×V)->List (Value×Value)->Prop:=Paired λp q=>RelV p.1 q.1/\RelV p.2 q.2
def PPs(X:Cx)(pos:Pos)(keys:List (Option Expr))(values:List Expr)(uK:List (TE×TE)):Prop:=
 ∀(pins:List (Addr×Obj)) (s:Shared) (σ:St) (H:Hp) (Q:List (V×V)->Hp->Prop),Inv X pins σ H s->bC uK σ H Q->
  wpAny (model X.prog X.w) X.A (evalPairs (pairTrees keys values X.env pos)) (λvs s'=>∃ps H',Inv X pins σ H' s'/\VV ps vs/\Q ps H') X.xe s
theorem d8{X:Cx}{pos:Pos}:PPs X pos [] [] []:=λpins s σ H Q I h=>pairTrees_nil_walk ⟨[],H,I,.nil,h⟩
theorem Xt{X:Cx}{pos:Pos}{k v:Expr}{ks:List (Option Expr)}{vs:List Expr}{tk tv:TE}{uK:List (TE×TE)}(hk:PE X k tk)(hv:PE X v tv)(hr:PPs X pos ks vs uK):
  PPs X pos (some k::ks) (v::vs) ((tk,tv)::uK):=λpins s σ H Q I h=>
 pairTrees_cons_walk (Bt (hk pins s σ H _ I h) λu s1 ⟨x,H1,I1,rx,q1⟩=>Bt (hv pins s1 σ H1 _ I1 q1) λw2 s2 ⟨y,H2,I2,ry,q2⟩=>
  Bt (hr pins s2 σ H2 _ I2 q2) λws s3 ⟨ps,H3,I3,rel,q3⟩=>⟨(x,y)::ps,H3,I3,.cons ⟨rx,ry⟩ rel,q3⟩)
def N'(AZ more:List (Key×V)):List (Key×V):=more.foldl (λacc kv=>putK acc kv.1 kv.2) AZ
theorem KV.merge:∀{more:List (Key×V)} {rs:List (Key×Value)} {AZ:List (Key×V)} {vs:List (Key×Value)},KV more rs->KV AZ vs->KV (N' AZ more) (merged vs rs):=by
 intro more rs AZ vs r;unfold KV at r;induction r generalizing AZ vs with
 |nil=>intro q;exact q
 | @cons p q ps qs h t ih=>
  intro r0;have e:KV (putK AZ p.1 p.2) (stored vs q.1 q.2):=by
   have:=r0.put p.1 h.2;rw[←h.1];exact this
  exact ih e
theorem LV:∀(more AZ:List (Key×V)),(N' AZ more).length<=AZ.length+more.length
 | [],AZ=>by show AZ.length<=AZ.length+0;omega
 |p::r,AZ=>by
  have h1:=LV r (putK AZ p.1 p.2);have h2:=HW AZ p.1 p.2;show(N' (putK AZ p.1 p.2) r).length<=_;rw[CD];omega
theorem RG{P:Program}{w:World}:∀{AZ:List (Key×V)} {ws:List (Value×Value)},VV (AZ.map λkv=>(kV kv.1,kv.2)) ws->∃rs,Carries (Bf P w) ws rs/\KV AZ rs
 | [],_,r=>by rw[Qb] at r;cases r;exact⟨[],I_,.nil⟩
 |p::AZ,_,r=>by
  rw[B7] at r;cases r with
  | @cons a b as bs h t=>
   obtain⟨rs,c,q⟩:=RG (P:=P) (w:=w) t;obtain⟨b1,b2⟩:=b;exact⟨(p.1,b2)::rs,⟨T_ h.1,AA,c⟩,.cons ⟨AA,h.2⟩ q⟩
def AC2(uK:List (TE×TE)):TE:=λσ H Q=>∀p,H p=none->bC uK σ (upd H p (.dK [])) λps H2=>H2 p=some (.dK [])/\∃AZ:List (Key×V),ps=AZ.map (λkv=>(kV kv.1,kv.2))/\AZ.length<=15/\Q (.ref p) (upd H2 p (.dK (N' [] AZ)))
theorem uL{X:Cx}{pos:Pos}{keys:List (Option Expr)}{values:List Expr}{uK:List (TE×TE)}(h:PPs X pos keys values uK)(MA:keys.all (·.isSome)=true)(hl:keys.length=values.length)(h0:keys≠ [])
  (h15:keys.length<=15):PE X (.Dict keys values pos) (AC2 uK):=by
 intro pins s σ H Q I q;have hn:=I.BS.fresh (As s.heap.objs.size);have I1:=I.laid (a:=s.heap.objs.size) (o:= .dK []) (h':=s.heap.push {cls:= .type "dict",data:= .dict #[]}) (t':=s.toks) (λ_ _ q=>Cy _ q) (As _) (Xq s.heap I.big);refine wpAny_Dict_walk (knd:=Bf X.prog X.w) MA hl h0 h15 (Bt (h pins _ σ _ _ I1 (q _ hn)) λws s2 ⟨ps,H2,I2,rel,e,AZ,ep,lk,q2⟩=> ?_);subst ep;obtain⟨rs,c,rk⟩:=RG (P:=X.prog) (w:=X.w) rel;obtain⟨z,hd,vs0,r0,dd⟩:=w6 I2.BS e;cases r0;refine⟨rs,c,dd,λh' uH hs=>⟨.ref s.heap.objs.size,_,?_,AA,q2⟩⟩;have hz:(N' [] AZ).length<=sizeLine:=by
  have h1:=LV AZ [];rw[Nd] at h1;rw[sizeLine_eq];omega
 have he:∃q,h'.get? s.heap.objs.size=some q:=let⟨q,_,_,hq,_⟩:=uH;⟨q,hq⟩;exact P4 I2 (by rw[e];exact I_) hs he (oY hz hd (rk.merge .nil) uH)
structure M2(X:Cx)(o:Expr)(m:Str)(apos:Pos)(e f:Expr)(F_:Pos):Prop where
 base:attributeBase o m X.env (eval o X.env)=eval o X.env
 EX:((backTo F_ (starEach [e,f] X.env)).all (λx=> !x.1) && (backToKw F_ (keywordEach [] X.env)).all (λx=>x.1.isSome)
  && decide (([e,f]:List Expr).length+([]:List Keyword).length+(if([]:List Keyword).isEmpty then 0 else 1)<30))=true
 line:(apos.endLine==F_.line)=true
 trees:backTo F_ (starEach [e,f] X.env)= [(false,eval e X.env),(false,eval f X.env)]
def IsD(H:Hp)(a:Addr):Prop:=(∃AZ,Rd H a (.dK AZ))\/∃AZ,Rd H a (.dT AZ)
theorem zy{X:Cx}{pins:List (Addr×Obj)}{σ:St}{H:Hp}{s:Shared}{a:Addr}(I:Inv X pins σ H s)(d:IsD H a):
  s.TypeIs (.ref a) "dict"/\(∀b,BI a= .ref b->∃ob,s.heap.get? b=some ob/\ob.dict=none)/\(a==sysModules)=false:=by
 rcases d with⟨AZ,e⟩|⟨AZ,e⟩
 ·obtain⟨_,hd,vs,_,dd⟩:=UA I.BS e;refine⟨dd.typeIs,λb q=> ?_,hd⟩;cases q;obtain⟨ob,_,_,h1,h2,_⟩:=dd;exact⟨ob,h1,h2.2.1⟩
 ·obtain⟨_,hd,xs,_,dd⟩:=UB I.BS e;refine⟨dd.typeIs,λb q=> ?_,hd⟩;cases q;obtain⟨ob,_,_,h1,h2,_⟩:=dd;exact⟨ob,h1,h2.2.1⟩
section
variable{X:Cx}{pins:List (Addr×Obj)}{σ:St}{H:Hp}{s:Shared}{a:Addr}{y d:V}{u r:Value}{o:Option V}{A:Around}{E:Value->Shared->Prop}
theorem zz{Q:Value->Shared->Prop}(hu:A.units+1<cLine)(I:Inv X pins σ H s)(g:Jz H a y o)(ry:RelV y u)(rd:RelV d r)(h:∀w' s',Inv X pins σ H s'->RelV (o.getD d) w'->Q w' s'):
  wpAny (model X.prog X.w) A (call (.builtin "dict.get") [.ref a,u,r]) Q E s:=by
 rcases g with⟨AZ,k,e,ey,l⟩|⟨AZ,k,b,e,ey,eb,l⟩
 ·subst ey;obtain⟨z,hd,vs,rel,dd⟩:=UA I.BS e;refine call_meetsIn aB dd.typeIs lN (lK _ _ _) (meets_dict_get_default (Bf X.prog X.w) a (T_ ry) hd r) ⟨_,dd.mapOf,h _ _ (I.tok _) ?_⟩;rw[l];exact(rel.val k).getD rd
 ·subst ey;cases (show u=BI b from ry);obtain⟨z,hd,xs,rel,dd⟩:=UB I.BS e;refine call_meetsIn aB dd.typeIs lN (lK _ _ _) (meetsH_dict_get_default (tupleKind (Bf X.prog X.w)) a b hd r) ⟨tupleKind_room_in1 hu,k,xs,L' I.BS eb,dd,h _ _ (I.tok _) ?_⟩;rw[l];exact(rel.val k).getD rd
end
inductive d9(ty:TE)(tx:TE)(σ:L2.St)(Q:VK)(x:V)(H1:Hp):Prop
 |mk (a:_) (x0:x= .ref a) (x1:IsD H1 a) (x2:ty σ H1 λy H2=>tx σ H2 λz H3=>∃o,Jz H3 a y o/\Q (o.getD z) H3):d9 ty tx σ Q x H1
def z7(td ty tx:TE):TE:=λσ H Q=>td σ H (d9 ty tx σ Q)
section
variable{X:Cx}{o e f:Expr}{apos F_:Pos}{td ty tx:TE}
theorem RH(hu:X.A.units+1<cLine)(ho:PE X o td)(he:PE X e ty)(hf:PE X f tx)(m:M2 X o "get" apos e f F_):PE X (.Call (.Attribute o "get" apos) [e,f] [] F_) (z7 td ty tx):=by
 intro pins s σ H Q I h;refine wpAny_Call_method m.base m.EX m.line PySem.F.plainAttrs_dict aB PySem.F.type_dict_get (Bt (ho pins s σ H _ I h) λu s1 ⟨x,H1,I1,rx,a,ex,d,q1⟩=> ?_);subst ex;obtain rfl:u=BI a:=rx;obtain⟨t1,t2,_⟩:=zy I1 d;refine⟨t1,t2,?_⟩;rw[m.trees];refine Calls.callWith_builtin rfl (Calls.evalArgs_plain (Calls.spliced_cons (Bt (he pins s1 σ H1 _ I1 q1) λiv s2 ⟨y,H2,I2,ry,q2⟩=>
  Calls.spliced_cons (Bt (hf pins s2 σ H2 _ I2 q2) λfv s3 ⟨z,H3,I3,rz,ov,g,q3⟩=>Calls.spliced_nil ?_))))
 exact zz hu I3 g ry rz λw' s4 I4 g8=>⟨_,H3,I4,g8,q3⟩
end
section
variable{X:Cx}{pins:List (Addr×Obj)}{σ:St}{H:Hp}{s:Shared}{a:Addr}{AZ:List (Key×V)}{A:Around}{E:Value->Shared->Prop}
end
section
variable{X:Cx}{pins:List (Addr×Obj)}{σ:St}{H:Hp}{s:Shared}{a:Addr}{y:V}{u:Value}{A:Around}{E:Value->Shared->Prop}
end
end L2
namespace L2
open PySem PySem.Spec PyProof.Rows
theorem RI:typeLookup (.type "list") "keys"=pure none:=am_miss_of_fast (by first|decide+kernel|rfl)
theorem Xu:entryFor table "dict.update.loop"=some Builtin.«dict.update.loop»:=entryFor_of_tree (by kernel_rfl)
theorem Ke:plainId "dict.update.loop"=true:=by decide+kernel
section
variable{prog:Program}{w:World}{A:Around}{E:Value->Shared->Prop}
theorem h_{s:Shared}{a:Addr}{o:Obj}{xs:Array Value}{k:Nat}{Q:Option Value->Shared->Prop}(hx:s.heap.get? a=some o)(hc:o.cls= .type "list")(Sw:o.data= .seq xs k)(hd:o.dict=none)(hA:A.handled=none)
  (h:∀h' tk,(∀b ob,s.heap.get? b=some ob->h'.get? b=some ob)->Q none {s with heap:=h',toks:=tk}):wpAny (model prog w) A (getAttr? (.ref a) "keys") Q E s:=by
 obtain⟨c,dct,dat,sl⟩:=o;simp only at hc Sw hd;subst hc Sw hd;obtain⟨hp,g,d,tk,os⟩:=s;have hT:∀tk',(⟨hp,g,d,tk',os⟩:Shared).TypeIs (.ref a) "list":=λ_=>⟨_,hx,rfl⟩;have AC3:=RI;have AC4:(["__module__","__name__","__qualname__","__doc__","__annotations__"]:List Str).contains "keys"=false:=by decide+kernel
 have hsz:("keys":Str).length+100<=sizeLine:=by first|size_fits|decide+kernel
 have f1:=sub_AttributeError;have f3:=Z'.lookup;have f4:=Z'.bind (.ref a);have f5:=am_list_getattr_none;unfold getAttr? getAttrBy? getAttrBy
 repeat (any_goals (first|assumption|exact hT _|((with_reducible show wpAny _ _ (call (Value.builtin "list.__getattribute__") _ _) _ _ _);refine call_meets Z' (hT _) am_entry_list_getattribute (PySem.F.args_list_getattribute_2 _ _) (meets_getattribute_miss_list a xs k sl "keys" _ AC3 AC4 hsz) ⟨hx,hA,λh' tk' e hx'=> ?_⟩)|wp_step))
 obtain⟨t',u',he⟩:=hx'.there;show wpAny _ _ (getattributeRaised _ _ _ _ _ _ _) _ _ _;unfold getattributeRaised
 repeat (any_goals (first|assumption|wp_step))
 all_goals first|exact h _ _ hx'.keeps|(dsimp only;repeat (any_goals (first|assumption|exact h _ _ hx'.keeps|wp_step)))
end
section
variable{X:Cx}
theorem d_:∀{ps:List Addr} {us:List Value},Vals (ps.map V.ref) us->us=ps.map BI
 | [],us,r=>by
  rw[Qb] at r;cases r;rfl
 |p::ps,us,r=>by
  rw[B7] at r;cases r with
  |cons h t=>
   cases h;rw[B7,←d_ t]
end
end L2
namespace L2
open PySem PySem.Spec PyProof.Rows
section
variable{X:Cx}{pins:List (Addr×Obj)}{σ:St}{H:Hp}{s:Shared}{h':Heap}
theorem Inv.OB{t':Nat}{ch:List Addr}{T:Addr}{ob:HO}(I:Inv X pins σ H s)(k:∀b o,b∉ch->s.heap.get? b=some o->h'.get? b=some o)(hf:∀b∈ch,Q2 X pins H b)(hT:s.heap.objs.size<=T)
  (new:Cp X.prog X.w (upd H T ob) h' T ob):Inv X pins σ (upd H T ob) {s with heap:=h',toks:=t'}:=by
 have hn:H T=none:=I.BS.fresh hT;have nit:∀b u,H b=some u->b∉ch:=λb u e z=>by
  have q:=(hf b z).1;rw[q] at e;cases e
 refine I.step (g':=s.gens) (d':=s.drawn) (ch:=ch) (λb hb=>⟨(hf b hb).2.2.2.1,(hf b hb).2.1,(hf b hb).2.2.2.2.1,(hf b hb).2.2.2.2.2⟩) (λb o _ _ hc e _=>k b o hc e) (λb o _ _ hc e _=>⟨o.slots,k b o hc e⟩)
  (λb o _ e n=> ?_) (λb o hc e=>⟨o,k b o hc e⟩) (λb xs e=> ?_) (λb o u e=> ?_) (λb ps e=>⟨#[],?_⟩) (λm hm=> ?_) (λb u e=> ?_) I.bare
 ·rw[AS (Dm (Cm (Bh e) hT))];exact n
 ·rw[AS (AQ e hn)];exact e
 ·rw[AS (AQ e hn)];exact e
 ·rw[AS (AQ e hn),e];simp
 ·obtain⟨o,es,ep,ho,r⟩:=hm;exact⟨o,es,ep,k _ o (λz=>(hf _ z).2.1 rfl) ho,r⟩
 ·by_cases hb:b=T
  ·subst hb;rw[AJ] at e;cases e;exact new
  ·rw[AS hb] at e;refine(I.BS b u e).VY (λc v hc q=>k c v ?_ q) (λc q=>by rw[AS (AQ q hn)];exact q) λc xs q=>by rw[AS (AQ q hn)];exact q
   rcases hc with z|z
   ·rw[z];exact nit b u e
   ·exact nit c _ z
theorem Inv.lock{d:Addr}{u:HO}(I:Inv X pins σ H s)(h:H d=some u)(mu:s_ (some u)):∃od,Inv X pins σ (upd H d (.DW od u)) s:=by
 have x:=I.BS d u h;have ex:∃od,s.heap.get? d=some od:=by
  cases u with
  |lst xs=>obtain⟨_,_,_,_,e⟩:=x;exact⟨_,e⟩
  |dK AZ=>obtain⟨_,_,_,_,o,_,_,e,_⟩:=x;exact⟨o,e⟩
  |dT AZ=>obtain⟨_,_,_,_,o,_,_,e,_⟩:=x;exact⟨o,e⟩
  |set S n=>obtain⟨o,_,_,_,e,_⟩:=x;exact⟨o,e⟩
  |ins C dx fs=>obtain⟨_,_,_,e,_⟩:=x;exact⟨_,e⟩
  |ext φ=>obtain⟨_,⟨_,e⟩,_⟩:=x;exact⟨_,e⟩
  |_=>exact Ft mu
 obtain⟨od,e⟩:=ex;have new:Cp X.prog X.w (upd H d (.DW od u)) s.heap d (.DW od u):=by
  refine⟨e,x.VY (λb v _ q=>q) (λb q=> ?_) λb xs q=> ?_⟩
  ·rw[AS (λz=>by rw[z,h] at q;cases q;exact mu)];exact q
  ·rw[AS (λz=>by rw[z,h] at q;cases q;exact mu)];exact q
 exact⟨od,I.write (x:=d) (e:=d) (t':=s.toks) (h':=s.heap) (by rw[h];exact mu) (.inl rfl) (λb v _ q=>q) ⟨od,e⟩ new⟩
theorem Inv.Xv{d:Addr}{u:HO}(I:Inv X pins σ H s)(h:H d=some u)(mu:s_ (some u)):∀o' u',X.zE d≠some (.DW o' u'):=λo' u' e=>by
 have q:=I.base.Qx d o' u' e;rw[h] at q;cases q;exact mu
theorem Inv.unlock{d:Addr}{od:Obj}{u:HO}(I:Inv X pins σ H s)(h:H d=some (.DW od u))(hn:∀o' u',X.zE d≠some (.DW o' u')):Inv X pins σ (upd H d u) s:=by
 have neH:∀b o,H b=some o->(∀o' u',o≠ .DW o' u')->b≠d:=λb o e Fv z=>by
  rw[z,h] at e;cases e;exact Fv _ _ rfl
 have neN:∀b,H b=none->b≠d:=λb e z=>by rw[z,h] at e;cases e
 refine⟨I.ok,I.os,I.bare,⟨I.base.keep,I.base.slot,λb o e n hx=> ?_,I.base.there,λb xs e=> ?_,λb o x e=> ?_,λb ps e=> ?_⟩,I.loc,I.cell,?_,λx c e=> ?_,λp hp=> ?_,λb o e=> ?_,I.len⟩
 ·rw[AS (neN b (I.base.free b o e n hx))];exact I.base.free b o e n hx
 ·have q:=I.base.VZ b xs e;rw[AS (neH b _ q (λ_ _ z=>nomatch z))];exact q
 ·have q:=I.base.Qx b o x e;rw[AS (λz=>by rw[z] at e;exact hn _ _ e)];exact q
 ·obtain⟨m,q⟩:=I.base.Va b ps e;exact⟨m,by rw[AS (neH b _ q (λ_ _ z=>nomatch z))];exact q⟩
 ·rw[AS (neN _ I.free)];exact I.free
 ·rw[AS (neN c (I.IL x c e))];exact I.IL x c e
 ·obtain⟨e,n,r⟩:=I.pin p hp;exact⟨e,by rw[AS (neN _ n)];exact n,r⟩
 ·by_cases hb:b=d
  ·rw[hb,AJ] at e;cases e;rw[hb];obtain⟨_,x⟩:=I.BS d _ h;exact x.VY (λc v _ q=>q) (λc q=>by rw[AS (neH c _ q (λ_ _ z=>nomatch z))];exact q) λc xs q=>by rw[AS (neH c _ q (λ_ _ z=>nomatch z))];exact q
  ·rw[AS hb] at e;exact(I.BS b o e).VY (λc v _ q=>q) (λc q=>by rw[AS (neH c _ q (λ_ _ z=>nomatch z))];exact q) λc xs q=>by rw[AS (neH c _ q (λ_ _ z=>nomatch z))];exact q
end
inductive w9(t:TS):TS
 |mk (d u:_):H d=some u->s_ (some u)->(∀od,t ⟨λσ' H'=>H' d=some (.DW od u)/\D.nx σ' (upd H' d u),λv H'=>H' d=some (.DW od u)/\D.rt v (upd H' d u),λσ' H'=>H' d=some (.DW od u)/\D.bk σ' (upd H' d u),λσ' H'=>H' d=some (.DW od u)/\D.ct σ' (upd H' d u)⟩ σ (upd H d (.DW od u)))->w9 t D σ H
inductive og(t:TE):TE
 |mk (d u:_):H d=some u->s_ (some u)->(∀od,t σ (upd H d (.DW od u)) λv H'=>H' d=some (.DW od u)/\Q v (upd H' d u))->og t σ H Q
section
variable{X:Cx}
theorem eC{st:Stmt}{t:TS}(h:PS X st t):PS X st (w9 t):=by
 intro pins s σ H D I hw;obtain⟨d,u,hd,mu,hw⟩:=hw;obtain⟨od,I1⟩:=I.lock hd mu;refine Bt (h pins s σ _ _ I1 (hw od)) λf s1 q=> ?_;cases f with
 |next=>obtain⟨σ',H',I2,e,q⟩:=q;exact⟨σ',_,I2.unlock e (I.Xv hd mu),q⟩
 |brk=>obtain⟨σ',H',I2,e,q⟩:=q;exact⟨σ',_,I2.unlock e (I.Xv hd mu),q⟩
 |cont=>obtain⟨σ',H',I2,e,q⟩:=q;exact⟨σ',_,I2.unlock e (I.Xv hd mu),q⟩
 |ret v=>obtain⟨x,σ',H',I2,r,e,q⟩:=q;exact⟨x,σ',_,I2.unlock e (I.Xv hd mu),r,q⟩
theorem uM{e:Expr}{t:TE}(h:PE X e t):PE X e (og t):=by
 intro pins s σ H Q I hw;obtain⟨d,u,hd,mu,hw⟩:=hw;obtain⟨od,I1⟩:=I.lock hd mu;refine Bt (h pins s σ _ _ I1 (hw od)) λv s1 ⟨x,H1,I2,r,e2,q⟩=> ?_;exact⟨x,_,I2.unlock e2 (I.Xv hd mu),r,q⟩
theorem Vs{tg:Expr}{pins:List (Addr×Obj)}{σ:St}{H:Hp}{s:Shared}{R:It->Hp->Prop}{J:It}{tn:Nat->Heap->Prop}{tk:Nat}(I:Inv X pins σ H s)(o:Obj)
  (T:Turn X.prog X.w X.K tg J [s.heap.objs.size] s.heap.objs.size tn) (st:tn 0 (s.heap.push o)) (q:R J H):PIE X pins σ tg R (.ref s.heap.objs.size) {s with heap:=s.heap.push o,toks:=tk}:=by
 refine⟨s.heap.objs.size,[s.heap.objs.size],tn,J,H,AA,I.kept λb ob e=>Cy _ e,T,st,λb hb=> ?_,q⟩;have e:b=s.heap.objs.size:=by simpa using hb
 subst e;exact I.nN (As _) (I.BS.fresh (As _))
end
section
variable{X:Cx}{tg:Expr}
end
section
variable{X:Cx}{tg:Expr}
end
section
variable{prog:Program}{w:World}{A:Around}{E:Value->Shared->Prop}{s:Shared}
theorem UC{d:Addr}{o:Obj}{es:Array DictEntry}{ep:Nat}{Q:Value->Shared->Prop}(hd:(d==sysModules)=false)(ho:s.heap.get? d=some o)(hc:o.ExactDict)(Sw:o.data= .dict es ep)
  (hQ:Q (.ref s.heap.objs.size) {s with heap:=s.heap.push {cls:= .type "dict_keyiterator",data:= .fields #[.ref d,.int 0 0,.int es.size 0,.int ep 0]}}):
  wpAny (model prog w) A (pyIter (.ref d)) Q E s:=by
 have hT:s.TypeIs (.ref d) "dict":=⟨o,ho,hc.1⟩;refine wpAny_pyIter_slot hT lX (wpAny_call_entry lX hT F.entry_dict_iter ?_ (F.args_dict_iter_1 _));unfold Builtin.«dict.__iter__»;refine wpAny_bind ?_;unfold yL;refine wpAny_bind (wpAny_notOrdered_dict hT ?_);show wpAny _ _ (pure (BI d)) _ _ s;refine wpAny_pure ?_;show wpAny _ _ (VO d>>=_) _ _ s;unfold VO;rw[AB (by rw[hd];exact DA)];refine wpAny_bind (wpAny_pure ?_);refine wpAny_bind (wpAny_dictEntries ho Sw ?_);refine wpAny_bind (wpAny_dictEpoch ho Sw ?_);refine wpAny_bind (wpAny_newObj_type (wpAny_pure ⟨_,rfl,"dict_keyiterator",_,⟨_,Df _ rfl,rfl⟩,Tt.lookup,?_⟩));simpa [rawInt] using hQ
theorem Sx{it d:Addr}{i n ep:Nat}{od:Obj}{es:Array DictEntry}{en:DictEntry}{Q:Option Value->Shared->Prop}(hit:s.heap.IsKeyIter it d i n ep)(O9:s.heap.get? d=some od)(Xw:od.data= .dict es ep)
  (hsz:es.size=n) (hx:es[i]? =some en) (hQ:∀h',h'.IsKeyIter it d (i+1) n ep->Hu it s.heap h'->Q (some en.key) {s with heap:=h'}):wpAny (model prog w) A (pyNext (.ref it)) Q E s:=by
 obtain⟨o,ho,hc,hd⟩:=id hit;unfold pyNext;refine wpAny_bind (wpAny_attempt (wpAny_callSpecial?_slot (name:=VW "__next__") hit.typeIs Tt
  (wpAny_call_entry Tt hit.typeIs lL ?_ (lI _))))
 refine wpAny_bind (wpAny_pure ?_);refine wpAny_bind ?_;refine wpAny_bind ?_
 first|refine wpAny_bind (wpAny_typeNameOfWhole_keyiter hit.typeIs (wpAny_pure ?_))|refine wpAny_bind (wpAny_typeNameOf_keyiter hit.typeIs (wpAny_pure ?_))
 refine wpAny_bind (wpAny_fieldsOf ho hd ?_);have Pk:XR "dict_keyiterator"=false:=by decide
 simp only[Pk,Z1,if_false];show wpAny _ _ (if(BI d==EV)=true then _ else _) _ _ s;rw[AB (show¬((BI d==EV)=true) from DA)];refine wpAny_bind (wpAny_pure ?_);refine wpAny_bind (wpAny_dictEntries O9 Xw ?_);rw[AB (by rw[hsz];simp)];refine wpAny_bind (wpAny_pure ?_);refine wpAny_bind (wpAny_dictEpoch O9 Xw ?_);rw[AB (by simp)];refine wpAny_pure ?_;obtain⟨AEw,hen⟩:=mO.mp hx;simp only[show¬((i:Int)<0) from by omega,if_false,EJ,Array.getElem?_eq_getElem AEw];refine wpAny_bind ?_
 first|refine wpAny_bind (wpAny_typeNameOfWhole_keyiter hit.typeIs (wpAny_pure ?_))|refine wpAny_bind (wpAny_typeNameOf_keyiter hit.typeIs (wpAny_pure ?_))
 refine wpAny_bind (wpAny_isOneOf_keyiter hit.typeIs ?_);show wpAny _ _ (setField (.ref it) 1 (rawInt ((i:Int)+1))>>=_) _ _ s;refine wpAny_bind (wpAny_setField ho hd (by simp) ?_);have uO:(s.heap.update it (mf (·.setIfInBounds 1 (rawInt ((i:Int)+1))))).IsKeyIter it d (i+1) n ep:=
  ⟨_,ko _ ho (Obj.isFreed_of_fields (ma hd _)),(Obj.cls_mapFields ..).trans hc,by rw[ma hd];simp[rawInt]⟩
 refine wpAny_bind (wpAny_holding ?_);refine wpAny_bind (wpAny_isOneOf_keyiter (s:={s with heap:=s.heap.update it (mf (·.setIfInBounds 1 (rawInt ((i:Int)+1))))}) uO.typeIs ?_);show wpAny _ _ (pure es[i].key) _ _ _;rw[hen];exact wpAny_pure (wpAny_pure ⟨_,rfl,wpAny_pure (hQ _ uO (aU ..))⟩)
theorem Mg{it d:Addr}{i n ep:Nat}{od:Obj}{es:Array DictEntry}{Q:Option Value->Shared->Prop}(hh:A.handled=none)(hit:s.heap.IsKeyIter it d i n ep)(O9:s.heap.get? d=some od)(Xw:od.data= .dict es ep)
  (hsz:es.size=n) (hge:n<=i) (hQ:∀h',kq it s.heap h'->Q none {s with heap:=h'}):wpAny (model prog w) A (pyNext (.ref it)) Q E s:=by
 obtain⟨o,ho,hc,hd⟩:=id hit;unfold pyNext;refine wpAny_bind (wpAny_attempt (wpAny_callSpecial?_slot (name:=VW "__next__") hit.typeIs Tt
  (wpAny_call_entry Tt hit.typeIs lL ?_ (lI _))))
 refine wpAny_bind (wpAny_pure ?_);refine wpAny_bind ?_;refine wpAny_bind ?_
 first|refine wpAny_bind (wpAny_typeNameOfWhole_keyiter hit.typeIs (wpAny_pure ?_))|refine wpAny_bind (wpAny_typeNameOf_keyiter hit.typeIs (wpAny_pure ?_))
 refine wpAny_bind (wpAny_fieldsOf ho hd ?_);have Pk:XR "dict_keyiterator"=false:=by decide
 simp only[Pk,Z1,if_false];show wpAny _ _ (if(BI d==EV)=true then _ else _) _ _ s;rw[AB (show¬((BI d==EV)=true) from DA)];refine wpAny_bind (wpAny_pure ?_);refine wpAny_bind (wpAny_dictEntries O9 Xw ?_);rw[AB (by rw[hsz];simp)];refine wpAny_bind (wpAny_pure ?_);refine wpAny_bind (wpAny_dictEpoch O9 Xw ?_);rw[AB (by simp)];refine wpAny_pure ?_;have AEx:es.size<=i:=by rw[hsz];exact hge
 simp only[show¬((i:Int)<0) from by omega,if_false,EJ,aS AEx];refine wpAny_bind ?_
 first|refine wpAny_bind (wpAny_typeNameOfWhole_keyiter hit.typeIs (wpAny_pure ?_))|refine wpAny_bind (wpAny_typeNameOf_keyiter hit.typeIs (wpAny_pure ?_))
 show wpAny _ _ (setField (.ref it) 0 .none>>=_) _ _ s;refine wpAny_bind (wpAny_setField ho hd (by simp) ?_);show wpAny _ _ (newExc (.type "StopIteration") []>>=_) _ _ _;refine wpAny_bind ?_;simp only[newExc,newTuple];refine wpAny_bind (wpAny_newObj_type ?_ (by size_fits));refine wpAny_bind (m:=firstArgMember _ _) (wpAny_of_eq (a:=EV) (by first|rfl|(simp only[firstArgMember];rfl)) ?_);refine wpAny_newObj_type ?_ (by size_fits);simp only[raiseNew];refine wpAny_bind (wpAny_handled ?_);rw[show A.in1.handled=none from hh];refine wpAny_bind (wpAny_pure (wpAny_throw ?_));refine wpAny_bind (wpAny_isInstance (T:="StopIteration") (b:=true) ⟨_,Df _ rfl,rfl⟩ isSubtype_stop ?_);exact wpAny_pure (hQ _ (((aU ..).extBut.push _).push _))
end
theorem oh{κ:Type}{AZ:List (κ×V)}{vs:List (κ×Value)}(h:KV AZ vs):∀{i:Nat} {k:κ} {v:V},AZ[i]? =some (k,v)->∃u,vs[i]? =some (k,u)/\RelV v u:=by
 unfold KV at h;induction h with
 |nil=>intro i k v e;simp at e
 | @cons a b l₁ l₂ r t ih=>
  intro i k v e;cases i with
  |zero=>
   simp only[ZT,Z6] at e;subst e;refine⟨b.2,?_,r.2⟩;simp only[ZT];exact congrArg some (L6 r.1.symm rfl)
  |succ j=>
   simp only[kC] at e ⊢;exact ih e
theorem RJ{α β:Type}{G:α->β->Prop}{l₁:List α}{l₂:List β}(h:Paired G l₁ l₂):∀{i:Nat} {a:α},l₁[i]? =some a->∃b,l₂[i]? =some b/\G a b:=by
 induction h with
 |nil=>intro i a e;simp at e
 | @cons a b l₁ l₂ r t ih=>
  intro i a' e;cases i with
  |zero=>
   simp only[ZT,Z6] at e;subst e;exact⟨b,AA,r⟩
  |succ j=>
   simp only[kC] at e ⊢;exact ih e
theorem Xx{k:Key}{u:Value}(h:MV k u=true):RelV (kV k) u:=by
 rcases CJ h with⟨i,t,rfl,rfl⟩|⟨x,t,rfl,rfl⟩
 ·exact⟨t,AA⟩
 ·exact⟨t,AA⟩
section
variable{X:Cx}{pins:List (Addr×Obj)}{σ:St}{H:Hp}{s:Shared}{d:Addr}{o:Obj}
theorem Inv.iA{AZ:List (Key×V)}(I:Inv X pins σ H s)(h:H d=some (.DW o (.dK AZ))):
  (d==sysModules)=false/\s.heap.get? d=some o/\o.ExactDict/\∃(es:Array DictEntry) (ep:Nat) (vs:List (Key×Value)),o.data= .dict es ep/\es.size=AZ.length/\KV AZ vs/\s.heap.DictAt (Bf X.prog X.w) d vs ep:=by
 obtain⟨hd,z,hs,vs,kv,o',es,ep,ho,hx,Jo,r⟩:=I.BS d _ h;rw[hd] at ho;cases ho;refine⟨hs,hd,hx,es,ep,vs,Jo,?_,kv,o,es,hd,hx,Jo,r⟩;have l1:=r.2.1.length;have l2:AZ.length=vs.length:=Paired.length kv;rw[Qv] at l1;omega
theorem Inv.z8{AZ:List (List Key×V)}(I:Inv X pins σ H s)(h:H d=some (.DW o (.dT AZ))):
  (d==sysModules)=false/\s.heap.get? d=some o/\o.ExactDict/\∃(es:Array DictEntry) (ep:Nat),o.data= .dict es ep/\es.size=AZ.length/\
   ∀(i:Nat) (k:List Key) (v:V),AZ[i]? =some (k,v)->∃(en:DictEntry) (q:Addr),es[i]? =some en/\en.key= .ref q/\H q=some (.tup (k.map kV)):=by
 obtain⟨hd,z,hs,xs,pr,o',es,ep,ho,hx,Jo,he,_⟩:=I.BS d _ h;rw[hd] at ho;cases ho;refine⟨hs,hd,hx,es,ep,Jo,?_,λi k v e=> ?_⟩
 ·have l1:es.size=xs.length:=size_of_entries he;have l2:AZ.length=xs.length:=Paired.length pr;omega
 ·obtain⟨b,hb,e1,e2,_⟩:=RJ pr e;have q:=entry_at he i;rw[hb] at q;exact⟨_,b.2.1,q,AA,e2⟩
end
def Itk(d:Addr)(o:Obj)(AZ:List (Key×V)):It:=
 ⟨λi H=>H d=some (.DW o (.dK AZ))/\i<AZ.length,λi H x H'=>H'=H/\∃k v,AZ[i]? =some (k,v)/\x=kV k,λi H=>H d=some (.DW o (.dK AZ))/\AZ.length<=i⟩
def Xy(d:Addr)(o:Obj)(AZ:List (List Key×V)):It:=
 ⟨λi H=>H d=some (.DW o (.dT AZ))/\i<AZ.length,λi H x H'=>H'=H/\∃(k:List Key) (v:V) (q:Addr),AZ[i]? =some (k,v)/\x= .ref q/\H q=some (.tup (k.map kV)),λi H=>H d=some (.DW o (.dT AZ))/\AZ.length<=i⟩
def Iti(d:Addr)(o:Obj)(AZ:List (Key×V)):It:=
 ⟨λi H=>H d=some (.DW o (.dK AZ))/\i<AZ.length,λi H x H'=>∃T k v,AZ[i]? =some (k,v)/\x= .ref T/\H T=none/\H'=upd H T (.tup [kV k,v]),λi H=>H d=some (.DW o (.dK AZ))/\AZ.length<=i⟩
theorem HX{o:Obj}{es Tw:Array DictEntry}{ep dY:Nat}(h:o.data= .dict es ep)(h':o.data= .dict Tw dY):Tw=es/\dY=ep:=by
 rw[h] at h';cases h';exact⟨AA,AA⟩
section
variable{P:Program}{w:World}{K:Ab}{tg:Expr}{d:Addr}{o:Obj}{es:Array DictEntry}{ep:Nat}
theorem iC{AZ:List (Key×V)}(it:Addr)(O9:o.data= .dict es ep):Turn P w K tg (Itk d o AZ) [it] it (λi h=>h.IsKeyIter it d i AZ.length ep) where
 mem:=by simp
 obj:=λi h st b hb=>by
  have e:b=it:=by simpa using hb
  subst e;obtain⟨oi,e,c,dd⟩:=st;exact⟨oi,e,λv z=>by rw[dd] at z;cases z⟩
 keep:=λi h h' st k=>st.at λoi e=>k it (by simp) oi e
 item:=by
  intro X hP hw hK hc i pins s σ H E I hf st hg;subst hP hw hK;obtain⟨hd,hi⟩:=hg;obtain⟨f0,f1,f2,f3,f4,f5⟩:=hf it (by simp);obtain⟨hs,Sy,hx,Tw,dY,vs,Jo,hsz,kv,hm⟩:=I.iA hd;obtain⟨rfl,rfl⟩:=HX O9 Jo;obtain⟨⟨k,v⟩,S0⟩:∃p,AZ[i]? =some p:=⟨AZ[i],Gk hi⟩;obtain⟨u,hu,ru⟩:=oh kv S0;have hl:AZ.length=vs.length:=Paired.length kv;rw[hl] at st;refine wpAny_pyNext_dict_item st hm hu λkey h' Vg nQ sb=> ?_;have I1:Inv X pins σ H {s with heap:=h'}:=I.turned (t':=s.toks) (λb ob hb e=>(sb.2 b hb).trans e) f0 f1 f3 f4 f5;obtain⟨oi,e,c,dd⟩:=id nQ;refine⟨key,rfl,df (s:={s with heap:=h'}) e c dd (by decide) ⟨kV k,H,I1,Xx (show MV k key=true from Vg),⟨rfl,k,v,S0,rfl⟩,?_,λb hb=>(hf b hb).1⟩⟩;show h'.IsKeyIter it d (i+1) AZ.length _;rw[hl];exact nQ
 done:=by
  intro X hP hw hK hc i pins s σ H E I hf st hg;subst hP hw hK;obtain⟨hd,hi⟩:=hg;obtain⟨f0,f1,f2,f3,f4,f5⟩:=hf it (by simp);obtain⟨hs,Sy,hx,Tw,dY,vs,Jo,hsz,kv,hm⟩:=I.iA hd;obtain⟨rfl,rfl⟩:=HX O9 Jo;exact Mg (I.ok.hd hc) st Sy Jo hsz hi λh' eb=>⟨rfl,I.turned (t':=s.toks) (λb ob hb e=>eb b ob hb e) f0 f1 f3 f4 f5⟩
 self:=λA i s Q E st h=>wpAny_pyIter_keyiter st h
theorem bF{AZ:List (List Key×V)}(it:Addr)(O9:o.data= .dict es ep):Turn P w K tg (Xy d o AZ) [it] it (λi h=>h.IsKeyIter it d i AZ.length ep) where
 mem:=by simp
 obj:=λi h st b hb=>by
  have e:b=it:=by simpa using hb
  subst e;obtain⟨oi,e,c,dd⟩:=st;exact⟨oi,e,λv z=>by rw[dd] at z;cases z⟩
 keep:=λi h h' st k=>st.at λoi e=>k it (by simp) oi e
 item:=by
  intro X hP hw hK hc i pins s σ H E I hf st hg;subst hP hw hK;obtain⟨hd,hi⟩:=hg;obtain⟨f0,f1,f2,f3,f4,f5⟩:=hf it (by simp);obtain⟨hs,Sy,hx,Tw,dY,Jo,hsz,ent⟩:=I.z8 hd;obtain⟨rfl,rfl⟩:=HX O9 Jo;obtain⟨⟨k,v⟩,S0⟩:∃p,AZ[i]? =some p:=⟨AZ[i],Gk hi⟩;obtain⟨en,q,hen,Vg,hq⟩:=ent i k v S0;refine Sx st Sy Jo hsz hen λh' nQ sb=> ?_;have I1:Inv X pins σ H {s with heap:=h'}:=I.turned (t':=s.toks) (λb ob hb e=>(sb.2 b hb).trans e) f0 f1 f3 f4 f5;obtain⟨oi,e,c,dd⟩:=id nQ;exact⟨en.key,rfl,df (s:={s with heap:=h'}) e c dd (by decide) ⟨.ref q,H,I1,Vg,⟨rfl,k,v,q,S0,rfl,hq⟩,nQ,λb hb=>(hf b hb).1⟩⟩
 done:=by
  intro X hP hw hK hc i pins s σ H E I hf st hg;subst hP hw hK;obtain⟨hd,hi⟩:=hg;obtain⟨f0,f1,f2,f3,f4,f5⟩:=hf it (by simp);obtain⟨hs,Sy,hx,Tw,dY,Jo,hsz,ent⟩:=I.z8 hd;obtain⟨rfl,rfl⟩:=HX O9 Jo;exact Mg (I.ok.hd hc) st Sy Jo hsz hi λh' eb=>⟨rfl,I.turned (t':=s.toks) (λb ob hb e=>eb b ob hb e) f0 f1 f3 f4 f5⟩
 self:=λA i s Q E st h=>by
  refine wpAny_pyIter_slot st.typeIs lO (wpAny_call_entry lO st.typeIs F.entry_dict_keyiterator_iter ?_ (F.args_dict_keyiterator_iter_1 _));show wpAny _ _ (ret (.ref it)) _ _ s;exact wpAny_pure ⟨_,rfl,"dict_keyiterator",_,st.typeIs,Tt.lookup,h⟩
theorem bH{AZ:List (Key×V)}{elts:List Expr}{kk:Nat}{LH:Pos}(it:Addr)(O9:o.data= .dict es ep):
  Turn P w K (.Tuple elts kk LH) (Iti d o AZ) [it] it (λi h=>∃ok ov,IsItemIter h it d i AZ.length ep ok ov) where
 mem:=by simp
 obj:=λi h st b hb=>by
  have e:b=it:=by simpa using hb
  subst e;obtain⟨ok,ov,e⟩:=st;exact⟨_,e,λv z=>nomatch z⟩
 keep:=λi h h' st k=>let⟨ok,ov,e⟩:=st;⟨ok,ov,k it (by simp) _ e⟩
 item:=by
  intro X hP hw hK hc i pins s σ H E I hf st hg;subst hP hw hK;obtain⟨hd,hi⟩:=hg;obtain⟨hs,Sy,hx,Tw,dY,vs,Jo,hsz,kv,hm⟩:=I.iA hd;obtain⟨rfl,rfl⟩:=HX O9 Jo;obtain⟨⟨k,v⟩,S0⟩:∃p,AZ[i]? =some p:=⟨AZ[i],Gk hi⟩;obtain⟨u,hu,ru⟩:=oh kv S0;have hl:AZ.length=vs.length:=Paired.length kv;obtain⟨ok,ov,he⟩:=st;rw[hl] at he;have IA:it<s.heap.objs.size:=Bh he;refine wpAny_pyNext_items_item he hm hu λkey h' Vg ho hT hz hk=> ?_;refine⟨_,rfl,wpAny_letOwnedTupleGo_items (s:={s with heap:=h'}) ho λjo w_ sb=> ?_⟩;have oj:jo.get? s.heap.objs.size=some {cls:= .type "tuple",data:= .seq #[key,u]}:=(sb.2 _ (Ln IA)).trans hT;have new:Cp X.prog X.w (upd H s.heap.objs.size (.tup [kV k,v])) jo s.heap.objs.size (.tup [kV k,v]):=
   ⟨by show 2<=sizeLine;decide,[key,u],.cons (Xx (show MV k key=true from Vg)) (.cons ru .nil),⟨_,oj,rfl,_,rfl⟩⟩
  have I1:Inv X pins σ (upd H s.heap.objs.size (.tup [kV k,v])) {s with heap:=jo}:=
   I.OB (t':=s.toks) (ch:= [it]) (λb ob hb e=>(sb.2 b (by simpa using hb)).trans (hk b ob (by simpa using hb) e)) hf (As _) new
  refine⟨.ref s.heap.objs.size,_,I1,AA,⟨_,k,v,S0,AA,I.BS.fresh (As _),AA⟩,⟨key,u,?_⟩,λb hb=> ?_⟩
  ·rw[hl];exact w_
  ·have e:b=it:=by simpa using hb
   rw[e,AS (Dm IA)];exact(hf it (by simp)).1
 done:=by
  intro X hP hw hK hc i pins s σ H E I hf st hg;subst hP hw hK;obtain⟨hd,hi⟩:=hg;obtain⟨f0,f1,f2,f3,f4,f5⟩:=hf it (by simp);obtain⟨hs,Sy,hx,Tw,dY,vs,Jo,hsz,kv,hm⟩:=I.iA hd;obtain⟨rfl,rfl⟩:=HX O9 Jo;have hl:AZ.length=vs.length:=Paired.length kv;obtain⟨ok,ov,he⟩:=st;rw[hl] at he;exact wpAny_pyNext_items_end (I.ok.hd hc) he hm (ZV (by omega)) λh' eb=>⟨rfl,I.turned (t':=s.toks) (λb ob hb e=>eb b ob hb e) f0 f1 f3 f4 f5⟩
 self:=λA i s Q E st h=>let⟨_,_,e⟩:=st;j3 e h
end
inductive om(R:It->Hp->Prop)(x:V)(H1:Hp):Prop
 |mk (d o:_) (x0:x= .ref d) (x1:((∃AZ,H1 d=some (.DW o (.dK AZ))/\R (Itk d o AZ) H1)\/∃AZ,H1 d=some (.DW o (.dT AZ))/\R (Xy d o AZ) H1)):om R x H1
def AC5(td:TE):TI:=λσ H R=>td σ H (om R)
inductive eE(R:It->Hp->Prop)(x:V)(H1:Hp):Prop
 |mk (d o AZ:_) (x0:x= .ref d) (x1:H1 d=some (.DW o (.dK AZ))) (x2:R (Iti d o AZ) H1):eE R x H1
def z9(td:TE):TI:=λσ H R=>td σ H (eE R)
section
variable{X:Cx}{tg e:Expr}{td:TE}{apos F_:Pos}
theorem uP(he:PE X e td):PI X tg e (AC5 td):=by
 intro pins s σ H R I h;refine Bt (he pins s σ H _ I h) λu s1 ⟨x,H1,I1,rx,d,o,ex,q⟩=> ?_;subst ex;obtain rfl:u=BI d:=rx;rcases q with⟨AZ,hd,q⟩|⟨AZ,hd,q⟩
 ·obtain⟨hs,Sy,hx,es,ep,vs,Jo,hsz,kv,hm⟩:=I1.iA hd;refine UC hs Sy hx Jo (Vs (tk:=s1.toks) I1 _ (iC _ Jo) ⟨_,Df _ rfl,rfl,?_⟩ q);rw[hsz] <;> rfl
 ·obtain⟨hs,Sy,hx,es,ep,Jo,hsz,ent⟩:=I1.z8 hd;refine UC hs Sy hx Jo (Vs (tk:=s1.toks) I1 _ (bF _ Jo) ⟨_,Df _ rfl,rfl,?_⟩ q);rw[hsz] <;> rfl
theorem Xz{elts:List Expr}{kk:Nat}{LH:Pos}(he:PE X e td)(Q_:attributeBase e "items" X.env (eval e X.env)=eval e X.env:=by rfl)(RA:(apos.endLine==F_.line)=true:=by rfl):
  PI X (.Tuple elts kk LH) (.Call (.Attribute e "items" apos) [] [] F_) (z9 td):=by
 intro pins s σ H R I h;refine wpAny_Call_method (T:="dict") (id:="dict.items") Q_ rfl RA lW VD lV (Bt (he pins s σ H _ I h) λu s1 ⟨x,H1,I1,rx,d,o,AZ,ex,hd,q⟩=> ?_);subst ex;obtain rfl:u=BI d:=rx;obtain⟨hs,Sy,hx,es,ep,vs,Jo,hsz,kv,hm⟩:=I1.iA hd;have hl:AZ.length=vs.length:=Paired.length kv;refine⟨hm.dictOf.typeIs,hm.dictOf.mapOf.noDict,?_⟩;have I2:Inv X pins σ H1 {s1 with heap:=s1.heap.push {cls:= .type "dict_items",data:= .fields #[.ref d]}}:=I1.kept (t':=s1.toks) λb ob q=>Cy _ q;have fin:wpAny (model X.prog X.w) X.A (pyIter (.ref s1.heap.objs.size)) (PIE X pins σ (.Tuple elts kk LH) R) X.xe {s1 with heap:=s1.heap.push {cls:= .type "dict_items",data:= .fields #[.ref d]}}:=by
  refine wpAny_pyIter_items (d:=d) (knd:=Bf X.prog X.w) ⟨_,Df _ rfl,rfl,rfl⟩ (hm.push _) (Vs (tk:=s1.toks) I2 _ (bH _ Jo) ⟨.none,.none,?_⟩ q);rw[hl];exact Df _ rfl
 show wpAny _ _ (callWith F_ (.builtin "dict.items") [.ref d] [] []) _ X.xe s1;exact method_meetsIn VD lU rfl (Z7 ⟨rfl,hm.dictOf.typeIs,lT _,_,meets_dict_items (Bf X.prog X.w) d hs,⟨vs,hm.dictOf⟩,fin⟩)
end
def Ite(K:Ab)(a:Addr):It:=
 ⟨λi H=>∃(xs:List V) (x:V),A_ K H a xs/\xs[i]? =some x,λi H v H'=>∃T x,v= .ref T/\H T=none/\H'=upd H T (.tup [.int (i:Nat),x])/\∀xs,A_ K H a xs->xs[i]? =some x,λi H=>∃xs:List V,A_ K H a xs/\xs.length<=i⟩
theorem iD{P:Program}{w:World}{K:Ab}{elts:List Expr}{kk:Nat}{LH:Pos}(a e it:Addr):
  Turn P w K (.Tuple elts kk LH) (Ite K a) [e,it] e (λi h=>(∃old,IsEnum h e it ((i:Nat):Int) old)/\h.IsListIter it a i/\e≠it) where
 mem:=by simp
 obj:=λi h st b hb=>by
  obtain⟨⟨old,he⟩,⟨o,ho,hc,hd⟩,_⟩:=st;have e':b=e\/b=it:=by simpa using hb
  rcases e' with z|z
  ·rw[z];exact⟨_,he,λv q=>nomatch q⟩
  ·rw[z];exact⟨o,ho,λv q=>by rw[hd] at q;cases q⟩
 keep:=λi h h' st k=>let⟨⟨old,he⟩,hi,Fv⟩:=st;⟨⟨old,k e (by simp) _ he⟩,hi.at λo q=>k it (by simp) o q,Fv⟩
 item:=by
  intro X hP hw hK hc i pins s σ H E I hf st hg;subst hP hw hK;obtain⟨⟨old,he⟩,hit,Fv⟩:=st;obtain⟨xs,x,hq,hx⟩:=hg;obtain⟨its,rv,p,hz⟩:=I.list hq;obtain⟨u,hu,ru⟩:=rv.get hx;have hel:e<s.heap.objs.size:=Bh he;have hil:it<s.heap.objs.size:=by obtain⟨_,q,_⟩:=hit;exact Bh q
  refine wpAny_pyNext_enum_item he hit p.isList (x:=u) (by simpa using hu) Fv λh' ho uO hT hsz hk=> ?_;refine⟨_,rfl,wpAny_letOwnedTupleGo_enum (s:={s with heap:=h',toks:=s.toks+1}) ho λjo w_ sb=> ?_⟩;have oj:jo.get? s.heap.objs.size=some {cls:= .type "tuple",data:= .seq #[.int i s.toks,u]}:=(sb.2 _ (Ln hel)).trans hT;have new:Cp X.prog X.w (upd H s.heap.objs.size (.tup [.int (i:Nat),x])) jo s.heap.objs.size (.tup [.int (i:Nat),x]):=
   ⟨by show 2<=sizeLine;decide,[.int i s.toks,u],.cons ⟨_,rfl⟩ (.cons ru .nil),⟨_,oj,rfl,_,rfl⟩⟩
  have I1:Inv X pins σ (upd H s.heap.objs.size (.tup [.int (i:Nat),x])) {s with heap:=jo,toks:=s.toks+1}:=
   I.OB (ch:= [e,it]) (λb ob hb q=>(sb.2 b (λz=>hb (by simp[z]))).trans (hk b ob (λz=>hb (by simp[z])) (λz=>hb (by simp[z])) q)) hf (As _) new
  refine⟨.ref s.heap.objs.size,_,I1,AA,⟨_,x,AA,I.BS.fresh (As _),AA,λys hy=>by rw[I.XW hy hq];exact hx⟩,⟨⟨u,?_⟩,uO.at λo q=>(sb.2 it (F9 Fv)).trans q,Fv⟩,λb hb=> ?_⟩
  ·have e1:((i+1:Nat):Int)=(i:Int)+1:=by omega
   rw[e1];exact w_
  ·have hb':b<s.heap.objs.size:=by
    have e':b=e\/b=it:=by simpa using hb
    rcases e' with z|z
    ·rw[z];exact hel
    ·rw[z];exact hil
   rw[AS (Dm hb')];exact(hf b hb).1
 done:=by
  intro X hP hw hK hc i pins s σ H E I hf st hg;subst hP hw hK;obtain⟨⟨old,he⟩,hit,Fv⟩:=st;obtain⟨xs,hq,hx⟩:=hg;obtain⟨its,rv,p,hz⟩:=I.list hq;obtain⟨f0,f1,f2,f3,f4,f5⟩:=hf it (by simp);have hl:=rv.length;exact wpAny_pyNext_enum_end (I.ok.hd hc) he hit p.isList (by simp;omega) λh' eb=>⟨rfl,I.turned (t':=s.toks) (λb o hb q=>eb b o hb q) f0 f1 f3 f4 f5⟩
 self:=λA i s Q E st h=>let⟨⟨_,he⟩,_⟩:=st;wpAny_pyIter_enum he h
inductive oo(K:Ab)(R:It->Hp->Prop)(vs:List V)(H1:Hp):Prop
 |mk (a xs:_) (x0:vs= [.ref a]) (x1:A_ K H1 a xs) (x2:R (Ite K a) H1):oo K R vs H1
def AC6(K:Ab)(ta:TA):TI:=λσ H R=>ta σ H (oo K R)
theorem uQ{X:Cx}{e:Expr}{ta:TA}{p pos LH:Pos}{elts:List Expr}{kk:Nat}(hg:Gl X "enumerate")(hm:X.mg "enumerate"=none)(ha:PA X [e] ta)(hs:starEach [e] X.env= [(false,eval e X.env)]:=by rfl):
  PI X (.Tuple elts kk LH) (.Call (.Name "enumerate" p) [e] [] pos) (AC6 X.K ta):=by
 intro pins s σ H R I h;refine Call_ (Q1 I hg hm boot_enumerate (VM (Bt (ha pos pins s σ H _ I h) λus s1 ⟨vs,H1,I1,r1,q1⟩=> ?_) hs rfl));obtain⟨a,xs,ex,hq,q⟩:=q1;subst ex;cases r1 with
 |cons r rr=>
  cases rr;cases r;obtain⟨its,rv,p',hz⟩:=I1.list hq;refine call_enumerate_list p'.isList λh' he hit hsz hk=>wpAny_pyIter_enum he ?_;have I2:Inv X pins σ H1 {s1 with heap:=h'}:=I1.kept (t':=s1.toks) hk;refine⟨s1.heap.objs.size+1,[s1.heap.objs.size+1,s1.heap.objs.size],_,_,H1,AA,I2,iD a (s1.heap.objs.size+1) s1.heap.objs.size,⟨⟨.none,he⟩,hit,Nat.succ_ne_self _⟩,λb hb=> ?_,q⟩;have e':b=s1.heap.objs.size+1\/b=s1.heap.objs.size:=by simpa using hb
  have hle:s1.heap.objs.size<=b:=by
   rcases e' with z|z
   ·rw[z];exact Nat.le_add_right _ _
   ·rw[z];exact As _
  exact I1.nN hle (I1.BS.fresh hle)
end L2
section
namespace AEy
open PySem PyProof.Rows
end AEy
end
section
namespace TL
open PySem PySem.Builtin PySem.Builtin.Str PySem.StrLaws
end TL
end
namespace L2
open PySem PySem.Spec PyProof.Rows
section
variable{X:Cx}{pins:List (Addr×Obj)}{σ:St}{H:Hp}{s:Shared}{Q:VK}
end
section
variable{X:Cx}
end
section
variable{X:Cx}{o e:Expr}{to te:TE}
end
end L2
namespace L2
open PySem PySem.Spec PyProof.Rows
section
variable{X:Cx}
end
end L2
namespace Att
open PySem PySem.W PySem.Calls PyProof.Rows
section
variable{prog:Program}{w:World}{A:Around}{E:Value->Shared->Prop}{s:Shared}{K:Frag}
end
end Att
namespace L2
open PySem PySem.Spec PyProof.Rows
end L2
namespace L2
open PySem PySem.Spec PyProof.Rows
end L2
namespace L2
open PySem PySem.Spec PyProof.Rows
def inClass(s:Stmt)(j:Nat):Stmt:=match s with
 | .ClassDef _ _ _ body _ _ _ _ _ _ _=>body.getD j (.Pass ⟨0,0,0,0⟩)
 |_=> .Pass ⟨0,0,0,0⟩
def Mh(s:Stmt):Arguments:=match s with
 | .FunctionDef _ a _ _ _ _ _ _ _ _=>a
 |_=>{posonlyargs:= [],args:= [],vararg:=none,kwonlyargs:= [],kw_defaults:= [],kwarg:=none,defaults:= []}
def FV(s:Stmt):List Stmt:=match s with
 | .FunctionDef _ _ b _ _ _ _ _ _ _=>b
 |_=> []
def BE(s:Stmt):Scope:=match s with
 | .FunctionDef _ _ _ _ _ _ sc _ _ _=>sc
 |_=>{kind:= .function,names:= [],isGenerator:=false,isCoroutine:=false}
abbrev eJ:dk:=λ_ _ _ _ _ _=>False
abbrev E0:XK:=λ_ _ _=>False
theorem O_{X:Cx}:Passes eJ X E0:=λ_ _ _ _ _ _ _ h=>h.elim
structure uR(K:Ab)(x qual:Str)(st:Stmt)(f:Addr)(fd:FuncData):Prop where
 ex:∃(oc:Value) (od:Option Addr) (kV doc pm:Value) (an:Option Addr) (CL ct:Value) (Sk:Array (Option Value)),
  fd=QT x qual (Mh st) (FV st) (BE st) .none kV doc pm an CL ct/\K.lookup f=some ⟨oc,od,.func fd,Sk⟩/\ZS K CL qual=true
 kp:J8 K (.ref f)=true
section
variable{P:Program}{w:World}{K:Ab}{mg:Str->Option Value}{base:Heap}
theorem uR.ok{x qual:Str}{st:Stmt}{f:Addr}{fd:FuncData}{N ps:List Str}{k:Nat}{sp:Sp}(F:uR K x qual st f fd)(S:HU N ps (BE st))(len:∀vs H Q E,sp vs H Q E->vs.length=ps.length)
  (Q8:∀(CL:Value) (A:Around) (outer:List Env) (s:Shared) (H:Hp) (vs:List V) (Q:VK) (E:XK),DD k (A.deeper (envOfC qual (BE st) s.heap.objs.size f CL))->sp vs H Q E->
   ∃t,XU (Su eJ P w K mg base N qual (BE st) f CL A outer s H E).wj (FV st) t/\t {nx:=λ_ H'=>Q .Dg H',rt:=Q} (start N vs) H):GJ P w K mg base eJ (k+1) f fd ps sp:=by
 obtain⟨oc,od,kV,doc,pm,an,CL,ct,Sk,rfl,lk,jn⟩:=F.ex;refine ACl lk jn S len λA outer s H vs Q E hr ZH=> ?_;obtain⟨t,h,q⟩:=Q8 CL A outer s H vs Q E hr ZH;exact⟨t,h.wj,q⟩
theorem uR.binds{x qual:Str}{st:Stmt}{f:Addr}{fd:FuncData}{ps:List Str}(F:uR K x qual st f fd)
  (h:∀(kV doc pm:Value) (an:Option Addr) (CL ct:Value) (us:List Value),us.length=ps.length->bindArgs (QT x qual (Mh st) (FV st) (BE st) .none kV doc pm an CL ct) ⟨us,[]⟩=pure (ps.zip us)):Binds K fd ps []:=by
 obtain⟨oc,od,kV,doc,pm,an,CL,ct,Sk,rfl,lk,jn⟩:=F.ex;exact .all (h kV doc pm an CL ct)
end
theorem UD{A:Around}{k:Nat}(hr:DD k A):A.units+1<cLine:=DU (kW (by decide:1<=64) _) hr.units
theorem iE{n:Nat}(h:n<=1000):n<sizeLine:=DU h (by decide)
section
variable{X:Cx}
theorem pv(i:Nat){x:Str}{pos:Pos}(hN:X.N[i]? =some x:=by rfl)(hv:zF X.env.scope x:=by first|exact BJ rfl|exact Eo (BJ rfl)|exact Eo (Eo rfl))(hd:(x==("__debug__":Str))=false:=by decide)
  (jn:(x==("__classdict__":Str))=false:=by decide):PE X (.Name x pos) (Cc i):=m_ hN hv hd jn
end
theorem A'{A B:Prop}(h:B):if false=true then A else B:=by
 rw[AB DA];exact h
theorem Au{A B:Prop}(h:A):if true=true then A else B:=by
 rw[AG rfl];exact h
theorem BF{c A B:Prop} [Decidable c](h1:c->A)(h2:¬c->B):if c then A else B:=by
 by_cases h:c
 ·rw[AG h];exact h1 h
 ·rw[AB h];exact h2 h
def Ag(H H':Hp):Prop:=∀b o,H b=some o->H' b=some o
theorem Ag.refl(H:Hp):Ag H H:=λ_ _ h=>h
theorem Ag.trans{H H1 H2:Hp}(a:Ag H H1)(b:Ag H1 H2):Ag H H2:=λc o h=>b c o (a c o h)
theorem Ag.free{H H':Hp}(e:Ag H H'){l:Addr}(h:H' l=Iz):H l=Iz:=by
 cases q:H l with
 |none=>rfl
 |some o=>
  rw[e l o q] at h;cases h
theorem Ag.seq{K:Ab}{H H':Hp}{a:Addr}{xs:List V}(e:Ag H H')(h:A_ K H a xs):A_ K H' a xs:=by
 rcases h with(h|⟨o,h⟩)|h
 ·exact .inl (.inl (e _ _ h))
 ·exact .inl (.inr ⟨o,e _ _ h⟩)
 ·exact .inr h
section
variable{κ:Type} [DecidableEq κ]
theorem oq{AZ:List (κ×V)}{k:κ}(h:EG AZ k=none):¬k∈AZ.map (·.1):=by
 intro m;obtain⟨p,hp,e⟩:=Fp.mp m;have q:(AZ.any λkv=>decide (kv.1=k))=true:=List.any_eq_true.mpr ⟨p,hp,AH e⟩;rw[Gz,h] at q;exact absurd q (by simp)
theorem eO:∀{l:List κ} {k:κ},l.Nodup->¬k∈l->(l++ [k]).Nodup
 | [],k,_,_=>by simp
 |a::r,k,h,hk=>by
  obtain⟨h1,h2⟩:=Bx.mp h;show(a::(r++ [k])).Nodup;refine Bx.mpr ⟨λm=> ?_,eO h2 λm=>hk (BQ.mpr (Eo m))⟩;rcases Eb.mp m with q|q
  ·exact h1 q
  ·exact hk (BQ.mpr (BJ (Gm.mp q).symm))
theorem uS{AZ:List (κ×V)}{k:κ}(v:V)(hn:(AZ.map (·.1)).Nodup)(h:EG AZ k=none):((putK AZ k v).map (·.1)).Nodup:=by
 rw[Xm v h,GB];exact eO hn (oq h)
end
theorem Ag.made{H H1:Hp}{x dx C:Addr}(nx:H x=Iz)(nd:H dx=Iz)(k:∀b o,(upd (upd H dx (.own x)) x (.ins C dx [])) b=some o->b≠x->H1 b=some o):Ag H H1:=λb o e=>
 k b o (by rw[AS (AQ e nx),AS (AQ e nd)];exact e) (AQ e nx)
end L2
section
set_option Elab.async false
set_option linter.all false
set_option maxRecDepth 100000
set_option maxHeartbeats 2000000
namespace L2
open PySem PySem.Spec PyProof.Rows
open PySem.W (WData Codec OpenSpec Well WellAll ReadsW ReadsAllW)
mutual
inductive Dw(K:Ab)(H:Hp):V->WData->Prop
 |Dg:Dw K H .Dg .none
 |bl (b:Bool):Dw K H (.bl b) (.bool b)
 |int (i:Int):Dw K H (.int i) (.int i)
 |str (x:Str):Dw K H (.str x) (.str x)
 |XI (b:Array UInt8):Dw K H (.XI b) (.bytes b.toList)
 |lst {a:Addr} {xs:List V} {ds:List WData}:A_ K H a xs->Jp K H xs ds->Dw K H (.ref a) (.list ds)
 |tup {a:Addr} {xs:List V} {ds:List WData}:Bi K H a xs->Jp K H xs ds->Dw K H (.ref a) (.tuple ds)
inductive Jp(K:Ab)(H:Hp):List V->List WData->Prop
 |nil:Jp K H [] []
 |cons {v:V} {vs:List V} {d:WData} {ds:List WData}:Dw K H v d->Jp K H vs ds->Jp K H (v::vs) (d::ds)
end
theorem eP{K:Ab}{H:Hp}:∀ns:List Int,Jp K H (ns.map V.int) (ns.map mZ)
 | []=> .nil
 |n::r=> .cons (.int n) (eP r)
theorem eQ{K:Ab}{H:Hp}:∀(ns:List Int) (xs:List V),Jp K H xs (ns.map mZ)->xs=ns.map V.int
 | [],xs,h=>by
  cases h;rfl
 |n::r,xs,h=>by
  cases h with
  |cons h1 h2=>
   cases h1;rw[eQ r _ h2] <;> rfl
section
variable{P:Program}{w:World}{K:Ab}{H:Hp}{h:Heap}{R:j5}{cl:Str->Option Addr}
theorem z_{a:Addr}{xs:List V}(BS:KS P w H h)(KX:K.In h)(q:A_ K H a xs):∃(its:List Value) (o:Obj) (n:Nat),Vals xs its/\h.get? a=some o/\o.cls= .type "list"/\o.data= .seq its.toArray n:=by
 rcases q with q|⟨o,its,n,e,hc,_,hd,_,hv⟩
 ·obtain⟨_,its,n,hv,e⟩:=(show Cp P w H h a (.lst xs) from q.ok BS);exact⟨its,_,n,hv,e,AA,AA⟩
 ·exact⟨its.toList,o,n,hv,KX _ _ e,hc,by simp[hd]⟩
theorem AAA{a:Addr}{xs:List V}(BS:KS P w H h)(KX:K.In h)(q:Bi K H a xs):∃(its:List Value) (o:Obj) (n:Nat),Vals xs its/\h.get? a=some o/\o.cls= .type "tuple"/\o.data= .seq its.toArray n:=by
 rcases q with q|⟨o,its,n,e,hc,hd,_,hv⟩
 ·obtain⟨_,its,hv,o,e,hc,n,hd⟩:=(show Cp P w H h a (.tup xs) from q.ok BS);exact⟨its,o,n,hv,e,hc,hd⟩
 ·exact⟨its.toList,o,n,hv,KX _ _ e,hc,by simp[hd]⟩
mutual
theorem Dw.reads(BS:KS P w H h)(KX:K.In h):∀(d:WData) (v:V) (u:Value),Dw K H v d->RelV v u->∃as,ReadsW R cl h u d as
 | .none,_,_,x,r=>by
  cases x;cases r;exact⟨_,ReadsW.none⟩
 | .bool b,_,_,x,r=>by
  cases x;cases r;exact⟨_,ReadsW.bool b⟩
 | .int i,_,_,x,r=>by
  cases x;obtain⟨t,rfl⟩:=r;exact⟨_,ReadsW.int i t⟩
 | .str s,_,_,x,r=>by
  cases x;obtain⟨t,rfl⟩:=r;exact⟨_,ReadsW.str s t⟩
 | .bytes b,_,_,x,r=>by
  cases x;obtain⟨t,rfl⟩:=r;exact⟨_,ReadsW.bytes _ t⟩
 | .list ds,_,_,x,r=>by
  cases x with
  |lst hs ha=>
   cases r;obtain⟨its,o,n,rv,ho,hc,hd⟩:=z_ BS KX hs;obtain⟨as,hr⟩:=Dw.readsAll BS KX ds _ its ha rv;exact⟨_,ReadsW.list ho hc hd hr⟩
 | .tuple ds,_,_,x,r=>by
  cases x with
  |tup hs ha=>
   cases r;obtain⟨its,o,n,rv,ho,hc,hd⟩:=AAA BS KX hs;obtain⟨as,hr⟩:=Dw.readsAll BS KX ds _ its ha rv;exact⟨_,ReadsW.tuple ho hc hd hr⟩
 | .float _,_,_,x,_=>by cases x
 | .dict _,_,_,x,_=>by cases x
 | .bytearray _,_,_,x,_=>by cases x
 | .set _,_,_,x,_=>by cases x
 | .frozenset _,_,_,x,_=>by cases x
 | .obj _ _,_,_,x,_=>by cases x
theorem Dw.readsAll(BS:KS P w H h)(KX:K.In h):∀(ds:List WData) (vs:List V) (us:List Value),Jp K H vs ds->Vals vs us->∃as,ReadsAllW R cl h us ds as
 | [],_,_,x,r=>by
  cases x;cases r;exact⟨_,ReadsAllW.nil⟩
 |d::ds,_,_,x,r=>by
  cases x with
  |cons h1 h2=>
   cases r with
   |cons r1 r2=>
    obtain⟨as,q1⟩:=Dw.reads BS KX d _ _ h1 r1;obtain⟨bs,q2⟩:=Dw.readsAll BS KX ds _ _ h2 r2;exact⟨_,ReadsAllW.cons q1 q2⟩
end
end
mutual
def eR:WData->Bool
 | .none=>true
 | .bool _=>true
 | .int _=>true
 | .str _=>true
 | .bytes _=>true
 | .list xs=>Pl xs
 | .tuple xs=>Pl xs
 |_=>false
def Pl:List WData->Bool
 | []=>true
 |x::r=>eR x && Pl r
end
theorem X0{α:Type}{f:α->WData}(h:∀a,eR (f a)=true):∀l:List α,Pl (l.map f)=true
 | []=>rfl
 |x::r=>by
  show(eR (f x) && Pl (r.map f))=true;rw[h x,X0 h r] <;> rfl
theorem Kf:∀(c:Codec) (a:c.denote),eR (c.enc a)=true
 | .unit,_=>rfl
 | .bool,_=>rfl
 | .int _ _,_=>rfl
 | .nat _ _,_=>rfl
 | .u8,_=>rfl
 | .bytes _ _,_=>rfl
 | .text _ _ _ _,_=>rfl
 | .list _ _ c,a=>X0 (λx=>Kf c x) a
 | .pair c d,a=>by
  show(eR (c.enc a.1) && (eR (d.enc a.2) && true))=true;rw[Kf c a.1,Kf d a.2] <;> rfl
 | .triple c d e,a=>by
  show(eR (c.enc a.1) && (eR (d.enc a.2.1) && (eR (e.enc a.2.2) && true)))=true;rw[Kf c a.1,Kf d a.2.1,Kf e a.2.2] <;> rfl
 | .option c,none=>rfl
 | .option c,some x=>Kf c x
theorem UE:∀(cs:List Codec) (a:VR cs),Pl (N2 cs a)=true
 | [],_=>rfl
 |c::cs,a=>by
  show(eR (c.enc a.1) && Pl (N2 cs a.2))=true;rw[Kf c a.1,UE cs a.2] <;> rfl
theorem MB:∀{xs:List WData} {d:WData},d∈xs->d.weight<=VT xs
 | [],d,h=>absurd h (by simp)
 |x::r,d,h=>by
  show d.weight<=x.weight+1+VT r;rcases BQ.mp h with e|m
  ·rw[e];omega
  ·have z:=MB m;omega
def toV:Value->V
 | .none=> .Dg
 | .bool b=> .bl b
 | .int i _=> .int i
 | .str x _=> .str x
 | .bytes b _=> .XI b
 | .ref a=> .ref a
 |_=> .Dg
def iF(A:List Addr):Value->Prop
 | .none=>True
 | .bool _=>True
 | .int _ _=>True
 | .str _ _=>True
 | .bytes _ _=>True
 | .ref a=>a∈A
 |_=>False
theorem iF.mono{A B:List Addr}(h:∀a∈A,a∈B):∀{u:Value},iF A u->iF B u:=λ{u} x=>by
 cases u with
 |ref a=>exact h a x
 |none=>trivial
 |bool b=>trivial
 |int i t=>trivial
 |str s t=>trivial
 |bytes b t=>trivial
 |_=>exact Ft x
theorem ot{A:List Addr}{u:Value}(x:iF A u):RelV (toV u) u:=by
 cases u with
 |ref a=>rfl
 |none=>rfl
 |bool b=>rfl
 |int i t=>exact⟨t,AA⟩
 |str s t=>exact⟨t,AA⟩
 |bytes b t=>exact⟨t,AA⟩
 |_=>exact Ft x
theorem IT{A:List Addr}:∀{vs:List Value},(∀u∈vs,iF A u)->Vals (vs.map toV) vs
 | [],_=> .nil
 |u::r,h=> .cons (ot (h u (Bw ..))) (IT λx hx=>h x (Bb _ hx))
inductive IU(h:Heap)(A:List Addr)(a:Addr):Prop
 |mk (vs:List Value):vs.length<=sizeLine->(∀u∈vs,iF A u)->((h.get? a=some {cls:= .type "list",data:= .seq vs.toArray}\/h.get? a=some {cls:= .type "tuple",data:= .seq vs.toArray}))->IU h A a
theorem IU.mono{h:Heap}{A B:List Addr}{a:Addr}(k:∀a∈A,a∈B)(x:IU h A a):IU h B a:=by
 obtain⟨vs,h1,h2,h3⟩:=x;exact⟨vs,h1,λu hu=>(h2 u hu).mono k,h3⟩
theorem HY{P:Params}{h:Heap}:∀{vs:List Value} {ds:List WData},WellAll P h vs ds->vs.length=ds.length
 |_,_,.nil=>rfl
 |_,_,.cons _ b=>by
  show _+1=_+1;rw[HY b]
theorem UG{P:Params}{h:Heap}{v:Value}{ds:List WData}(x:Well P h v (.list ds)):∃(a:Addr) (vs:List Value),v= .ref a/\h.get? a=some {cls:= .type "list",data:= .seq vs.toArray}/\WellAll P h vs ds:=by
 cases x with
 |list ho MA=>exact⟨_,_,AA,ho,MA⟩
theorem RL{P:Params}{h:Heap}{v:Value}{ds:List WData}(x:Well P h v (.tuple ds)):∃(a:Addr) (vs:List Value),v= .ref a/\h.get? a=some {cls:= .type "tuple",data:= .seq vs.toArray}/\WellAll P h vs ds:=by
 cases x with
 |tuple ho MA=>exact⟨_,_,AA,ho,MA⟩
theorem UH{P:Params}{h:Heap}{us:List Value}{d:WData}{ds:List WData}(x:WellAll P h us (d::ds)):∃(v:Value) (vs:List Value),us=v::vs/\Well P h v d/\WellAll P h vs ds:=by
 cases x with
 |cons a b=>exact⟨_,_,AA,a,b⟩
theorem eV{n:Nat}(h:n<=1048576):n<=sizeLine:=A6 h (by decide)
section
variable{P:Params}{h:Heap}
mutual
theorem ow:∀(d:WData) (v:Value),Well P h v d->eR d=true->d.weight<=1048576->∃A:List Addr,iF A v/\∀a∈A,IU h A a
 | .none,_,x,_,_=>by
  cases x;exact⟨[],trivial,λa m=>absurd m (by simp)⟩
 | .bool b,_,x,_,_=>by
  cases x;exact⟨[],trivial,λa m=>absurd m (by simp)⟩
 | .int i,_,x,_,_=>by
  cases x;exact⟨[],trivial,λa m=>absurd m (by simp)⟩
 | .str s,_,x,_,_=>by
  cases x;exact⟨[],trivial,λa m=>absurd m (by simp)⟩
 | .bytes b,_,x,_,_=>by
  cases x;exact⟨[],trivial,λa m=>absurd m (by simp)⟩
 | .list ds,_,x,p,z=>by
  obtain⟨a,vs,rfl,ho,MA⟩:=UG x;have z2:VT ds<=1048576:=z;obtain⟨A,h1,h2⟩:=Mi ds _ MA p λd hd=>A6 (MB hd) z2;have k:∀b∈A,b∈a::A:=λb hb=>Bb _ hb;refine⟨a::A,Bw ..,λb hb=> ?_⟩;rcases BQ.mp hb with e|m
  ·rw[e];exact⟨vs,eV (by rw[HY MA];exact A6 (j0 ds) z2),λu hu=>(h1 u hu).mono k,.inl ho⟩
  ·exact(h2 b m).mono k
 | .tuple ds,_,x,p,z=>by
  obtain⟨a,vs,rfl,ho,MA⟩:=RL x;have z2:VT ds<=1048576:=z;obtain⟨A,h1,h2⟩:=Mi ds _ MA p λd hd=>A6 (MB hd) z2;have k:∀b∈A,b∈a::A:=λb hb=>Bb _ hb;refine⟨a::A,Bw ..,λb hb=> ?_⟩;rcases BQ.mp hb with e|m
  ·rw[e];exact⟨vs,eV (by rw[HY MA];exact A6 (j0 ds) z2),λu hu=>(h1 u hu).mono k,.inr ho⟩
  ·exact(h2 b m).mono k
 | .float _,_,_,p,_=>Cd (show false=true from p)
 | .dict _,_,_,p,_=>Cd (show false=true from p)
 | .bytearray _,_,_,p,_=>Cd (show false=true from p)
 | .set _,_,_,p,_=>Cd (show false=true from p)
 | .frozenset _,_,_,p,_=>Cd (show false=true from p)
 | .obj _ _,_,_,p,_=>Cd (show false=true from p)
theorem Mi:∀(ds:List WData) (vs:List Value),WellAll P h vs ds->Pl ds=true->(∀d∈ds,d.weight<=1048576)->∃A:List Addr,(∀u∈vs,iF A u)/\∀a∈A,IU h A a
 | [],_,x,_,_=>by
  cases x;exact⟨[],λu m=>absurd m (by simp),λa m=>absurd m (by simp)⟩
 |d::ds,_,x,p,z=>by
  obtain⟨v,vs,rfl,x1,x2⟩:=UH x;have q:eR d=true/\Pl ds=true:=LU.mp p;obtain⟨A,a1,a2⟩:=ow d v x1 q.1 (z d (Bw ..));obtain⟨B,b1,b2⟩:=Mi ds vs x2 q.2 λe he=>z e (Bb _ he);have kA:∀b∈A,b∈A++B:=λb hb=>Eb.mpr (.inl hb);have kB:∀b∈B,b∈A++B:=λb hb=>Eb.mpr (.inr hb);refine⟨A++B,λu hu=> ?_,λb hb=> ?_⟩
  ·rcases BQ.mp hu with e|m
   ·rw[e];exact a1.mono kA
   ·exact(b1 u m).mono kB
  ·rcases Eb.mp hb with m|m
   ·exact(a2 b m).mono kA
   ·exact(b2 b m).mono kB
end
end
def uT(o:Obj):Option HO:=match o.data with
 | .seq vs _=>if(o.cls==Lv "list")=true then some (.DW o (.lst (vs.toList.map toV))) else some (.DW o (.tup (vs.toList.map toV)))
 |_=>none
def JE(K:Ab)(h:Heap)(A:List Addr):Hp:=λb=>if b∈A then(if(K.lookup b).isNone=true then(h.get? b).bind uT else none) else none
def X1(H:Hp):Prop:=∀b,H b=none\/∃o u,H b=some (.DW o u)
theorem X2(vs:List Value):uT {cls:= .type "list",data:= .seq vs.toArray}=some (.DW {cls:= .type "list",data:= .seq vs.toArray} (.lst (vs.map toV))):=by
 show(if(Lv "list"==Lv "list")=true then some (HO.DW {cls:= .type "list",data:= .seq vs.toArray} (.lst (vs.toArray.toList.map toV))) else some (HO.DW {cls:= .type "list",data:= .seq vs.toArray} (.tup (vs.toArray.toList.map toV))))=_;rw[AG (beq_self_eq_true _)]
theorem X3(vs:List Value):uT {cls:= .type "tuple",data:= .seq vs.toArray}=some (.DW {cls:= .type "tuple",data:= .seq vs.toArray} (.tup (vs.map toV))):=by
 show(if(Lv "tuple"==Lv "list")=true then some (HO.DW {cls:= .type "tuple",data:= .seq vs.toArray} (.lst (vs.toArray.toList.map toV))) else some (HO.DW {cls:= .type "tuple",data:= .seq vs.toArray} (.tup (vs.toArray.toList.map toV))))=_;rw[AB (by decide)]
section
variable{P:Program}{w:World}{K:Ab}{h:Heap}{A:List Addr}
theorem P5{b:Addr}{o:Obj}(hb:b∈A)(hk:K.lookup b=none)(e:h.get? b=some o):JE K h A b=uT o:=by
 unfold JE;rw[AG hb,hk,AG (show(none:Option Obj).isNone=true from rfl),e] <;> rfl
theorem uU{b:Addr}{u:HO}(q:JE K h A b=some u):b∈A/\K.lookup b=none:=by
 unfold JE at q;by_cases hb:b∈A
 ·rw[AG hb] at q;cases hk:K.lookup b with
  |none=>exact⟨hb,AA⟩
  |some o=>
   rw[hk,AB (by simp)] at q;cases q
 ·rw[AB hb] at q;cases q
theorem P6(ar:∀a∈A,IU h A a){b:Addr}{u:HO}(q:JE K h A b=some u):K.lookup b=none/\∃vs:List Value,vs.length<=sizeLine/\(∀u∈vs,iF A u)/\
  ((h.get? b=some {cls:= .type "list",data:= .seq vs.toArray}/\u= .DW {cls:= .type "list",data:= .seq vs.toArray} (.lst (vs.map toV)))\/
   (h.get? b=some {cls:= .type "tuple",data:= .seq vs.toArray}/\u= .DW {cls:= .type "tuple",data:= .seq vs.toArray} (.tup (vs.map toV)))):=by
 obtain⟨hb,hk⟩:=uU q;obtain⟨vs,h1,h2,h3⟩:=ar b hb;refine⟨hk,vs,h1,h2,?_⟩;rcases h3 with e|e
 ·rw[P5 hb hk e,X2] at q;exact .inl ⟨e,(Bl q).symm⟩
 ·rw[P5 hb hk e,X3] at q;exact .inr ⟨e,(Bl q).symm⟩
theorem iG(ar:∀a∈A,IU h A a):X1 (JE K h A):=λb=>by
 cases q:JE K h A b with
 |none=>exact .inl rfl
 |some u=>
  obtain⟨_,vs,_,_,⟨_,e⟩|⟨_,e⟩⟩:=P6 ar q
  ·exact .inr ⟨_,_,by rw[e]⟩
  ·exact .inr ⟨_,_,by rw[e]⟩
theorem uV(ar:∀a∈A,IU h A a):KS P w (JE K h A) h:=λb u q=>by
 obtain⟨_,vs,h1,h2,⟨e,rfl⟩|⟨e,rfl⟩⟩:=P6 ar q
 ·exact⟨e,by rw[BP];exact h1,vs,_,IT h2,e⟩
 ·exact⟨e,by rw[BP];exact h1,vs,IT h2,_,e,AA,_,AA⟩
theorem P7{c c':Value}{vs us:List Value}(e:(some {cls:=c,data:= .seq vs.toArray}:Option Obj)=some {cls:=c',data:= .seq us.toArray}):c=c'/\vs=us:=by
 have e1:=Bl e;have e2:c=c':=congrArg Obj.cls e1;have e3:VX vs.toArray=VX us.toArray:=congrArg Obj.data e1;injection e3 with e4
 refine⟨e2,?_⟩;have e5:=congrArg mT e4;simpa using e5
theorem AEz(KX:K.In h)(ar:∀a∈A,IU h A a){a:Addr}{vs:List Value}(ha:a∈A)(e:h.get? a=some {cls:= .type "list",data:= .seq vs.toArray}):(∀u∈vs,iF A u)/\A_ K (JE K h A) a (vs.map toV):=by
 obtain⟨us,h1,h2,h3⟩:=ar a ha;have hu:us=vs:=by
  rcases h3 with q|q
  ·rw[e] at q;exact(P7 q).2.symm
  ·rw[e] at q;exact absurd (mq (P7 q).1) (by decide)
 subst hu;refine⟨h2,?_⟩;cases hk:K.lookup a with
 |none=>exact .inl (.inr ⟨_,by rw[P5 ha hk e,X2]⟩)
 |some o=>
  have e2:=KX a o hk;rw[e] at e2;obtain rfl:=Bl e2;exact .inr ⟨_,us.toArray,_,hk,rfl,rfl,rfl,by rw[Br];exact h1,by simpa using IT h2⟩
theorem AE0(KX:K.In h)(ar:∀a∈A,IU h A a){a:Addr}{vs:List Value}(ha:a∈A)(e:h.get? a=some {cls:= .type "tuple",data:= .seq vs.toArray}):(∀u∈vs,iF A u)/\Bi K (JE K h A) a (vs.map toV):=by
 obtain⟨us,h1,h2,h3⟩:=ar a ha;have hu:us=vs:=by
  rcases h3 with q|q
  ·rw[e] at q;exact absurd (mq (P7 q).1) (by decide)
  ·rw[e] at q;exact(P7 q).2.symm
 subst hu;refine⟨h2,?_⟩;cases hk:K.lookup a with
 |none=>exact .inl (.inr ⟨_,by rw[P5 ha hk e,X3]⟩)
 |some o=>
  have e2:=KX a o hk;rw[e] at e2;obtain rfl:=Bl e2;exact .inr ⟨_,us.toArray,_,hk,rfl,rfl,by rw[Br];exact h1,by simpa using IT h2⟩
mutual
theorem AAB{Pm:Params}(KX:K.In h)(ar:∀a∈A,IU h A a):∀(d:WData) (v:Value),Well Pm h v d->eR d=true->iF A v->Dw K (JE K h A) (toV v) d
 | .none,_,x,_,_=>by
  cases x;exact .Dg
 | .bool b,_,x,_,_=>by
  cases x;exact .bl b
 | .int i,_,x,_,_=>by
  cases x;exact .int i
 | .str s,_,x,_,_=>by
  cases x;exact .str s
 | .bytes b,_,x,_,_=>by
  cases x;have z:=Dw.XI (K:=K) (H:=JE K h A) b.toArray;exact z
 | .list ds,_,x,p,hu=>by
  obtain⟨a,vs,rfl,ho,MA⟩:=UG x;obtain⟨h2,hs⟩:=AEz KX ar hu ho;exact .lst hs (Vt KX ar ds _ MA p h2)
 | .tuple ds,_,x,p,hu=>by
  obtain⟨a,vs,rfl,ho,MA⟩:=RL x;obtain⟨h2,hs⟩:=AE0 KX ar hu ho;exact .tup hs (Vt KX ar ds _ MA p h2)
 | .float _,_,_,p,_=>Cd (show false=true from p)
 | .dict _,_,_,p,_=>Cd (show false=true from p)
 | .bytearray _,_,_,p,_=>Cd (show false=true from p)
 | .set _,_,_,p,_=>Cd (show false=true from p)
 | .frozenset _,_,_,p,_=>Cd (show false=true from p)
 | .obj _ _,_,_,p,_=>Cd (show false=true from p)
theorem Vt{Pm:Params}(KX:K.In h)(ar:∀a∈A,IU h A a):∀(ds:List WData) (vs:List Value),WellAll Pm h vs ds->Pl ds=true->(∀u∈vs,iF A u)->Jp K (JE K h A) (vs.map toV) ds
 | [],_,x,_,_=>by
  cases x;exact .nil
 |d::ds,_,x,p,hu=>by
  obtain⟨v,vs,rfl,x1,x2⟩:=UH x;have q:eR d=true/\Pl ds=true:=LU.mp p;exact .cons (AAB KX ar d v x1 q.1 (hu _ (Bw ..))) (Vt KX ar ds vs x2 q.2 λu m=>hu u (Bb _ m))
end
end
theorem iH{P:Program}{w:World}{K:Ab}{mg mb:Str->Option Value}{CX:dk}{k:Nat}{fa:Addr}{fd:FuncData}{ps:List Str}{sp:Sp}{s₁:Shared}{vals:List Value}{ds:List WData}{R:j5}{cl:Str->Option Addr}{d0:WData}
  (KX:K.In s₁.heap) (hns:s₁.heap.Ns mainGlobals mg) (hb:s₁.heap.Ns builtinsNs mb) (hbb:∀x:Str,x≠"__name__"->mb x=bootBuiltins x) (AE1:s₁.heap.NoLimit) (hg:s₁.gens= #[])
  (hwl:WellAll w.params s₁.heap vals ds) (Dn:Pl ds=true) (hwt:∀d∈ds,d.weight<=1048576) (hr:DD k callerA)
  (F:∀base:Heap,K.In base->base.Ns mainGlobals mg->GJ P w K mg base CX k fa fd ps sp) (AC7:∀(s:Shared) (us:List Value),us.length=ps.length->BindsTo s fd ⟨us,[]⟩ (ps.zip us)) (hlen:ds.length=ps.length)
  (ZH:∀(H:Hp) (xs:List V),X1 H->Jp K H xs ds->sp xs H (λv H'=>Dw K H' v d0) λ_ _ _=>False)
  (hCX:∀H e s',CX [] H s₁ (λ_ _ _=>False) e s'->False):
  codeAny (model P w) callerA (.call (.ref fa) ⟨vals,[]⟩) (λr s'=>∃u as,r= .ok (.ret u)/\ReadsW R cl s'.heap u d0 as/\OldK s₁.heap s'.heap/\s'.os=s₁.os/\AllBare s'.gens) s₁:=by
 obtain⟨A,ho,ar⟩:=Mi ds vals hwl Dn hwt;have hO:X1 (JE K s₁.heap A):=iG ar;have BS:KS P w (JE K s₁.heap A) s₁.heap:=uV ar;have hS:=Vt KX ar ds vals hwl Dn ho;have hV:=IT ho;have hK:∀b u,JE K s₁.heap A b=some u->K.lookup b=none:=λb u q=>(P6 ar q).1;have noA:∀{b:Addr} {o:Obj} {es:Array DictEntry} {ep:Nat},s₁.heap.get? b=some o->o.data= .dict es ep->JE K s₁.heap A b=none:=λ{b o es ep} e d=>by
  cases q:JE K s₁.heap A b with
  |none=>rfl
  |some u=>
   obtain⟨_,vs,_,_,⟨e2,_⟩|⟨e2,_⟩⟩:=P6 ar q
   ·rw[e2] at e;cases e;have d':VX vs.toArray _=my es ep:=d;cases d'
   ·rw[e2] at e;cases e;have d':VX vs.toArray _=my es ep:=d;cases d'
 generalize JE K s₁.heap A=H at hO BS hS hK noA;have eX:∀{b:Addr} {o:Obj},s₁.heap.get? b=some o->H b=none->(Vb s₁.heap H).get? b=some o:=λe n=>m6 e n;have nsK:∀{b:Addr} {m:Str->Option Value},s₁.heap.Ns b m->(Vb s₁.heap H).Ns b m:=λ{b m} ⟨o,es,ep,e,d,r⟩=>⟨o,es,ep,eX e (noA e d),d,r⟩;have nK:∀b o,K.lookup b=some o->H b=none:=λb o e=>by
  cases q:H b with
  |none=>rfl
  |some u=>
   rw[hK b u q] at e;cases e
 have hKb:K.In (Vb s₁.heap H):=λb o e=>eX (KX b o e) (nK b o e);have hM:Mod K mg (Vb s₁.heap H):=⟨hKb,nsK hns,⟨mb,nsK hb,hbb⟩,let⟨mc,h1,h2⟩:=AE1;⟨mc,nsK h1,h2⟩⟩;have e0:az P w K mg (Vb s₁.heap H) callerA [] s₁ H:=⟨rfl,hM,λb o e=>tX e,Ux (gu _ _),trivial,λb hb=>absurd (show b∈([]:List Addr) from hb) (by simp),BS,.of_eq hg⟩;have hl:vals.length=ps.length:=by rw[HY hwl];exact hlen
 refine codeAny_mono ((F _ hKb (nsK hns)).run callerA [] s₁ H ⟨vals,[]⟩ vals (vals.map toV) _ _ hr e0 (AC7 s₁ vals hl) hV (ZH H _ hO hS)) λr s' x=> ?_;cases r with
 |error e=>exact(hCX H e s' x).elim
 |ok fl=>
  cases fl with
  |next=>exact Ft x
  |brk=>exact Ft x
  |cont=>exact Ft x
  |ret u=>
   obtain⟨v,H',os,bare,un,Pn,r',q⟩:=x;have kept:∀b o,s₁.heap.get? b=some o->s'.heap.get? b=some o:=λb o e=>by
    cases q2:H b with
    |none=>exact un.keep b o e q2 (by intro z;exact absurd (show b∈([]:List Addr) from z) (by simp)) (by simp)
    |some u2=>
     rcases hO b with z|⟨ob,u3,z⟩
     ·rw[q2] at z;cases z
     ·have z2:=un.Qx b ob _ z;obtain⟨e1,_⟩:=BS b _ z;obtain⟨e2,_⟩:=Pn b _ z2;rw[e] at e1;cases e1;exact e2
   have KX':K.In s'.heap:=λb o e=>kept b o (KX b o e);obtain⟨as,hrd⟩:=Dw.reads (R:=R) (cl:=cl) Pn KX' d0 v u q r';exact⟨u,as,AA,hrd,OldK.of_keep kept,os,bare⟩
theorem RM{ds:List WData}(h:WData.layableAll ds=true):∀d∈ds,d.weight<=1048576:=λd hd=>
 (PySem.W.layableW_iff.mp (Li.mp h d hd)).2.2
theorem RN:∀(cs:List Codec) (a:VR cs),(N2 cs a).length=cs.length
 | [],_=>rfl
 |c::cs,a=>by
  show(N2 cs a.2).length+1=cs.length+1;rw[RN cs a.2]
theorem iJ{r:OpenSpec}{k:Nat}{q:Program}{loose:List Str}{XP:(Str->Option Value)->Heap->Prop}{YP:World->Heap->Prop}{d:DefRec}{K:Params->Ab}{CX:World->dk}{ps:List Str}{sp:World->Sp}
  (ox:r.wellSaid=true) (hdf:d.params.defaults= []) (hlen:r.args.length=ps.length) (hr:DD k callerA)
  (hY:∀(w:World) (h:Heap),YP w h->(K w.params).In h)
  (F:∀(w:World) (mg:Str->Option Value) (fa:Addr) (h:Heap),YP w h->(K w.params).In h->h.Ns mainGlobals mg->mg d.name=some (.ref fa)->
   ∃fd:FuncData,(∀(s:Shared) (us:List Value),us.length=ps.length->BindsTo s fd ⟨us,[]⟩ (ps.zip us))/\
    ∀base:Heap,(K w.params).In base->base.Ns mainGlobals mg->GJ r.prog w (K w.params) mg base (CX w) k fa fd ps (sp w))
  (ZH:∀(w:World) (H:Hp) (xs:List V) (a:VR r.args),X1 H->mY r.args a=true->Qw r.args r.asked a=true->Jp (K w.params) H xs (N2 r.args a)->
   sp w xs H (λv H'=>Dw (K w.params) H' v (r.ret.enc (Qw r.args r.f a))) λ_ _ _=>False)
  (hCX:∀(w:World) (H:Hp) (s:Shared) (e:Value) (s':Shared),CX w [] H s (λ_ _ _=>False) e s'->False):
  j7 q loose XP YP r d [] (λf vs=>Z9 f vs):=by
 intro w Tv s₁ mg mb G Y fa o pm cd doc dV kV ho hd jn hD hmg hg args vals as AE2 AE3 hrd hwl hlo;obtain⟨a,e1,e2⟩:=PySem.W.os_pre_some AE2;obtain⟨e3,hwi⟩:=Codec.encAll_of_decAll r.args args a e1;subst e3;have KX:=hY w _ Y;obtain⟨fd,hb,hF⟩:=F w mg fa _ Y KX G.T.g hmg;refine PySem.W.enter_call (codeAny_mono (iH (R:= []) (cl:=classAt Tv.heap) (d0:=r.ret.enc (Qw r.args r.f a)) KX G.T.g G.T.b G.T.builtins G.T.nolimit hg hwl (UE _ _) (RM AE3) hr hF hb (by rw[RN];exact hlen)
  (λH xs hO hS=>ZH w H xs a hO hwi e2 hS) λH e s'=>hCX w H s₁ e s') λr' s' hq=> ?_)
 obtain⟨u,as',rfl,h1,h2,h3,h4⟩:=hq;exact⟨.inl ⟨u,_,as',AA,λ_=>rfl,h1,(OpenSpec.post_iff ox hwi _ _).mpr rfl,λz=>Cd (show false=true from z)⟩,h2,h3,h4⟩
theorem bI{r:OpenSpec}{k:Nat}{q:Program}{loose:List Str}{XP:(Str->Option Value)->Heap->Prop}{YP:World->Heap->Prop}{d:DefRec}{K:Params->Ab}{CX:dk}{ps:List Str}{sp:Ab->Sp}
  (ox:r.wellSaid=true) (hdf:d.params.defaults= []) (hlen:r.args.length=ps.length) (hr:DD k callerA)
  (hY:∀(w:World) (h:Heap),YP w h->(K w.params).In h)
  (F:∀(w:World) (mg:Str->Option Value) (fa:Addr) (h:Heap),YP w h->(K w.params).In h->h.Ns mainGlobals mg->mg d.name=some (.ref fa)->
   ∃fd:FuncData,(∀(s:Shared) (us:List Value),us.length=ps.length->BindsTo s fd ⟨us,[]⟩ (ps.zip us))/\
    ∀base:Heap,(K w.params).In base->base.Ns mainGlobals mg->GJ r.prog w (K w.params) mg base CX k fa fd ps (sp (K w.params)))
  (ZH:∀(K:Ab) (H:Hp) (xs:List V) (a:VR r.args),X1 H->mY r.args a=true->Qw r.args r.asked a=true->Jp K H xs (N2 r.args a)->
   sp K xs H (λv H'=>Dw K H' v (r.ret.enc (Qw r.args r.f a))) λ_ _ _=>False)
  (hCX:∀(H:Hp) (s:Shared) (e:Value) (s':Shared),CX [] H s (λ_ _ _=>False) e s'->False):
  j7 q loose XP YP r d [] (λf vs=>Z9 f vs):=
 iJ (K:=K) (CX:=λ_=>CX) (sp:=λw=>sp (K w.params)) ox hdf hlen hr hY F (λw H xs a h1 h2 h3 h4=>ZH (K w.params) H xs a h1 h2 h3 h4) λ_ H s e s'=>hCX H s e s'
end L2
end
namespace In
set_option hygiene false
local macro_rules|`(nofun)=>`(⟨rfl,rfl,rfl,by decide+kernel,rfl,by decide+kernel,by decide+kernel⟩)
local macro_rules|`(())=>`(by omega)
local macro_rules|`((()))=>`(by decide)
section
def q(r:Rat):Nz:=(r.num,r.den)
theorem AFp{r s:Rat}(h:q r=q s):r=s:=Rat.ext (congrArg KR h) (congrArg JA h)
theorem G0(a:Int){b:Nat}(hb:b≠0):FN a b=q ((a:Rat) / (b:Rat)):=by
 have h:=Rat.normalize_eq (num:=a) (den:=b) hb;have h2:Rat.normalize a b hb=(a:Rat) / (b:Rat):=by
  rw[Rat.normalize_eq_mkRat,lh]
 unfold q;rw[←h2,h];rfl
theorem JF(a:Int):Hw a=q (a:Rat):=rfl
theorem OC:((0,1):Nz)=q 0:=rfl
theorem xA:((1,1):Nz)=q 1:=rfl
theorem Bq(r:Rat):((r.den:Nat):Rat)≠0:=by
 have:=r.den_nz;intro h;exact this (by exact_mod_cast h)
theorem eY(r:Rat):(r.num:Rat) / (r.den:Rat)=r:=by
 rw[←lh,Rat.mkRat_self]
theorem BW(r:Rat):(r.num:Rat)=r*(r.den:Rat):=by
 have h:=eY r;have h2:=Bq r;grind
theorem DN(r s:Rat):Ny (q r) (q s)=q (r+s):=by
 show FN (r.num*(s.den:Int)+s.num*(r.den:Int)) (r.den*s.den)=_;rw[G0 _ (Uw r.den_nz s.den_nz)];have e1:=BW r;have e2:=BW s;have d1:=Bq r;have d2:=Bq s;congr 1;push_cast;rw[e1,e2];grind
theorem HZ(r s:Rat):Hx (q r) (q s)=q (r - s):=by
 show FN (r.num*(s.den:Int) - s.num*(r.den:Int)) (r.den*s.den)=_;rw[G0 _ (Uw r.den_nz s.den_nz)];have e1:=BW r;have e2:=BW s;have d1:=Bq r;have d2:=Bq s;congr 1;push_cast;rw[e1,e2];grind
theorem Ha(r s:Rat):Qr (q r) (q s)=q (r*s):=by
 show FN (r.num*s.num) (r.den*s.den)=_;rw[G0 _ (Uw r.den_nz s.den_nz)];have e1:=BW r;have e2:=BW s;have d1:=Bq r;have d2:=Bq s;congr 1;push_cast;rw[e1,e2];grind
theorem Kz{s:Rat}(h:0<s):0<s.num:=by
 have h2:=(VG 0 s).mp h;have e1:(0:Rat).num=0:=rfl;have e2:(0:Rat).den=1:=rfl;rw[e1,e2] at h2;omega
theorem eZ(r:Rat){s:Rat}(h:0<s):aP (q r) (q s)=q (r / s):=by
 have hs:=Kz h;show FN (r.num*(s.den:Int)) (r.den*s.num.natAbs)=_;rw[G0 _ (Uw r.den_nz ())];have e1:=BW r;have e2:=BW s;have d1:=Bq r;have d2:=Bq s;congr 1;have e3:((s.num.natAbs:Nat):Rat)=(s.num:Rat):=by
  have:((s.num.natAbs:Nat):Int)=s.num:=by omega
  exact_mod_cast congrArg (λz:Int=>(z:Rat)) this
 push_cast;rw[e3,e1,e2];grind
theorem MD(r s:Rat):F8 (q r) (q s)=decide (r<s):=by
 show decide (r.num*(s.den:Int)<s.num*(r.den:Int))=_;congr 1;exact propext (VG r s).symm
theorem UI(r s:Rat):ly (q r) (q s)=q (if r<s then s else r):=by
 unfold ly;rw[MD];by_cases h:r<s
 ·rw[AG h,AG (AH h)]
 ·rw[AB h,AB (by simp[h])]
theorem ed(x p r:Rat):l6 (q x) (q p) (q r)=q (x*p+(1 - x)*r):=by
 unfold l6;rw[JF,Ha,HZ,Ha,DN];rfl
end
section
def wR(b:Nat):List Nat->Nat->Nat->Rat
 | [],_,_=>0
 |u::l,m,k=>if k=0 then 0 else
  if wR b l m k< (u:Rat)+wR b l m (k - 1) then
   (if m=0 then(u:Rat)+wR b l m (k - 1) else
    ((u:Rat)+wR b l m (k - 1) - wR b l m k) / (((u:Rat)+wR b l m (k - 1) - wR b l m k)+(wR b l (m - 1) k+(b:Rat)))*wR b l (m - 1) k+
    (1 - ((u:Rat)+wR b l m (k - 1) - wR b l m k) / (((u:Rat)+wR b l m (k - 1) - wR b l m k)+(wR b l (m - 1) k+(b:Rat))))*wR b l m k)
  else wR b l m k
def tR(b u:Nat)(l:List Nat)(m k:Nat):Prop:=¬k=0/\wR b l m k< (u:Rat)+wR b l m (k - 1)
instance (b u:Nat) (l:List Nat) (m k:Nat):Decidable (tR b u l m k):=by unfold tR;infer_instance
def lR(b:Nat)(l:List Nat)(m k:Nat):Rat:=match l with
 | []=>0
 |u::l=>if m=0\/¬tR b u l m k then 0 else((u:Rat)+wR b l m (k - 1) - wR b l m k) / (((u:Rat)+wR b l m (k - 1) - wR b l m k)+(wR b l (m - 1) k+(b:Rat)))
def dR(b:Nat)(l:List Nat)(m k:Nat):Rat:=match l with
 | []=>0
 |u::l=>if¬tR b u l m k then 0 else if m=0 then 1 else(wR b l (m - 1) k - wR b l m k) / ((wR b l (m - 1) k - wR b l m k)+((u:Rat)+wR b l m (k - 1)+(b:Rat)))
theorem GL(n:Nat):(0:Rat)<=(n:Rat):=by exact_mod_cast BR n
theorem BO{n:Nat}(h:0<n):(0:Rat)< (n:Rat):=by exact_mod_cast h
theorem oy{g s x y:Rat}(hg:0<g)(hs:0<s)(hx:0<=x)(hy:0<=y):0<=g / (g+s)*x+(1 - g / (g+s))*y:=by
 have h:0<g+s:=by grind
 have e:g / (g+s)*x+(1 - g / (g+s))*y=(g*x+s*y) / (g+s):=by grind
 rw[e,FK];refine Iw ?_ (Gx (Nv.mpr h));have h1:=Iw (Gx hg) hx;have h2:=Iw (Gx hs) hy;grind
theorem DO{b:Nat}(hb:0<b):∀(l:List Nat) (m k:Nat),0<=wR b l m k
 | [],m,k=>by simp only[wR];exact Hv
 |u::l,m,k=>by
  have hB:=BO hb;have h1:=DO hb l m k;have h2:=DO hb l (m - 1) k;have h3:=DO hb l m (k - 1);have hu:=GL u;simp only[wR];split
  ·exact Hv
  ·split
   ·rename_i h;split
    ·grind
    ·exact oy (by grind) (by grind) h2 h1
   ·exact h1
theorem OD(b:Nat):Hw (-(b:Int))=q (-(b:Rat)):=by
 rw[JF];congr 1
theorem X4(u:Nat):Hw (u:Int)=q (u:Rat):=by
 rw[JF];congr 1
theorem Ca{b:Nat}(hb:0<b):∀(l:List Nat) (m k:Nat),Nq b l m k=q (wR b l m k)
 | [],m,k=>rfl
 |u::l,m,k=>by
  have hB:=BO hb;have h1:=DO hb l m k;have h2:=DO hb l (m - 1) k;have h3:=DO hb l m (k - 1);simp only[Nq,wR];by_cases hk:k=0
  ·rw[AG hk,AG hk];rfl
  rw[AB hk,AB hk];by_cases hm:m=0
  ·subst hm;rw[AG rfl,Ca hb l 0 (k - 1),Ca hb l 0 k,X4,DN,UI,AG rfl];congr 1;by_cases h:wR b l 0 k< (u:Rat)+wR b l 0 (k - 1)
   ·rw[AG h,AB (by grind)]
   ·rw[AB h];split <;> grind
  ·rw[AB hm,AB hm,Ca hb l (m - 1) k,Ca hb l m (k - 1),Ca hb l m k,X4,DN,OD];simp only[Kp319.value];rw[MD];by_cases h:wR b l m k< (u:Rat)+wR b l m (k - 1)
   ·have hp:0< (u:Rat)+wR b l m (k - 1) - wR b l m k+(wR b l (m - 1) k - -(b:Rat)):=by grind
    rw[AG (AH h),AG h,HZ,HZ,DN,eZ _ hp,ed];congr 1;grind
   ·rw[AB (by simp[h]),AB h]
theorem bJ{b:Nat}(hb:0<b)(u:Nat)(l:List Nat)(m k:Nat):Nt b u l m k=⟨q (-(b:Rat)),q (wR b l (m - 1) k),q ((u:Rat)+wR b l m (k - 1)),q (wR b l m k)⟩:=by
 unfold Nt;rw[Ca hb,Ca hb,Ca hb,X4,DN,OD]
theorem oz{s i u n:Rat}(h:n<u->0< (u - n)+(i - s)):ku ⟨q s,q i,q u,q n⟩=q (if n<u then(u - n) / ((u - n)+(i - s)) else 0):=by
 show(if F8 (q n) (q u)=true then aP (Hx (q u) (q n)) (Ny (Hx (q u) (q n)) (Hx (q i) (q s))) else(0,1))=_;rw[MD];by_cases hl:n<u
 ·rw[AG (AH hl),AG hl,HZ,HZ,DN,eZ _ (h hl)]
 ·rw[AB (by simp[hl]),AB hl];rfl
theorem o3{s i u n:Rat}(h:n<u->0< (i - n)+(u - s)):kx ⟨q s,q i,q u,q n⟩=q (if n<u then(i - n) / ((i - n)+(u - s)) else 0):=by
 show(if F8 (q n) (q u)=true then aP (Hx (q i) (q n)) (Ny (Hx (q i) (q n)) (Hx (q u) (q s))) else(0,1))=_;rw[MD];by_cases hl:n<u
 ·rw[AG (AH hl),AG hl,HZ,HZ,DN,eZ _ (h hl)]
 ·rw[AB (by simp[hl]),AB hl];rfl
theorem RO{b:Nat}(hb:0<b)(l:List Nat)(m k:Nat):KJ b l m k=q (lR b l m k):=by
 cases l with
 |nil=>rfl
 |cons u l=>
  have hB:=BO hb;have h1:=DO hb l m k;have h2:=DO hb l (m - 1) k;have h3:=DO hb l m (k - 1);show(if k=0\/m=0 then(0,1) else ku (Nt b u l m k))=q (if m=0\/¬tR b u l m k then 0 else _);by_cases hk:k=0
  ·rw[AG (BJ hk),AG (Eo (λh:tR b u l m k=>h.1 hk))];rfl
  by_cases hm:m=0
  ·rw[AG (Eo hm),AG (BJ hm)];rfl
  rw[AB (),bJ hb,oz (by intro h;grind)];congr 1;by_cases h:wR b l m k< (u:Rat)+wR b l m (k - 1)
  ·rw[AG h,AB (λz:m=0\/¬tR b u l m k=>z.elim hm (λw=>w ⟨hk,h⟩))];grind
  ·rw[AB h,AG (Eo (λz:tR b u l m k=>h z.2))]
theorem OE{b:Nat}(hb:0<b)(l:List Nat)(m k:Nat):FJ b l m k=q (dR b l m k):=by
 cases l with
 |nil=>rfl
 |cons u l=>
  have hB:=BO hb;have h1:=DO hb l m k;have h2:=DO hb l (m - 1) k;have h3:=DO hb l m (k - 1);show(if k=0 then(0,1) else if m=0 then(if F8 (Nq b l 0 k) (Ny (Hw u) (Nq b l 0 (k - 1)))=true then(1,1) else(0,1)) else kx (Nt b u l m k))=q (if¬tR b u l m k then 0 else if m=0 then 1 else _);by_cases hk:k=0
  ·rw[AG hk,AG (λh:tR b u l m k=>h.1 hk)];rfl
  rw[AB hk];by_cases hm:m=0
  ·rw[AG hm,AG hm,Ca hb l 0 (k - 1),Ca hb l 0 k,X4,DN,MD];subst hm;by_cases h:wR b l 0 k< (u:Rat)+wR b l 0 (k - 1)
   ·rw[AG (AH h),AB (λw:¬tR b u l 0 k=>w ⟨hk,h⟩)];rfl
   ·rw[AB (by simp[h]),AG (λz:tR b u l 0 k=>h z.2)];rfl
  rw[AB hm,AB hm,bJ hb,o3 (by intro h;grind)];congr 1;by_cases h:wR b l m k< (u:Rat)+wR b l m (k - 1)
  ·rw[AG h,AB (λw:¬tR b u l m k=>w ⟨hk,h⟩)];grind
  ·rw[AB h,AG (λz:tR b u l m k=>h z.2)]
end
section
def Sz(n:Nat)(r:Rat):Prop:=r.num.natAbs<2^n/\r.den<2^n
theorem Sz.mono{n m:Nat}{r:Rat}(h:Sz n r)(e:n<=m):Sz m r:=
 ⟨Cm h.1 (DM (()) e),Cm h.2 (DM (()) e)⟩
theorem Sz.JG{n:Nat}(a:Int){b:Nat}(hb:0<b)(h1:a.natAbs<2^n)(h2:b<2^n):Sz n ((a:Rat) / (b:Rat)):=by
 have h:=G0 a (b:=b) ();have e1:((a:Rat) / (b:Rat)).num=a / ((F6 a.natAbs b:Nat):Int):=(congrArg KR h).symm;have e2:((a:Rat) / (b:Rat)).den=b / F6 a.natAbs b:=(congrArg JA h).symm;refine⟨?_,?_⟩
 ·rw[e1];refine DU ?_ h1;rw[Int.natAbs_ediv_of_dvd (by rw[←Int.natAbs_dvd_natAbs,Jl];exact Nat.gcd_dvd_left _ _),Jl];exact Zr _ _
 ·rw[e2];exact DU (Zr _ _) h2
theorem EY{a b n m:Nat}(ha:a<2^n)(hb:b<2^m):a*b<2^(n+m):=by
 rw[GF];exact kY ha hb
theorem Sz.add{n m:Nat}{r s:Rat}(hr:Sz n r)(hs:Sz m s):Sz (n+m+1) (r+s):=by
 have e:r+s=((r.num*((s.den:Nat):Int)+s.num*((r.den:Nat):Int):Int):Rat) / ((r.den*s.den:Nat):Rat):=by
  have e1:=BW r;have e2:=BW s;have d1:=Bq r;have d2:=Bq s;push_cast;rw[e1,e2];grind
 rw[e];have h1:=EY hr.1 hs.2;have h2:=EY hs.1 hr.2;have h3:=EY hr.2 hs.2;have e2:2^(n+m+1)=2^(n+m)+2^(n+m):=by rw[Gr];omega
 rw[kb m n] at h2;refine Sz.JG _ (Fq r.den_pos s.den_pos) ?_ ();refine DU (Int.natAbs_add_le _ _) ?_;rw[U9,U9,Jl,Jl];omega
theorem Sz.neg{n:Nat}{r:Rat}(h:Sz n r):Sz n (-r):=by
 refine⟨?_,?_⟩
 ·rw[Rat.neg_num,Int.natAbs_neg];exact h.1
 ·rw[Rat.neg_den];exact h.2
theorem Sz.sub{n m:Nat}{r s:Rat}(hr:Sz n r)(hs:Sz m s):Sz (n+m+1) (r - s):=by
 rw[lg];exact hr.add hs.neg
theorem Sz.mul{n m:Nat}{r s:Rat}(hr:Sz n r)(hs:Sz m s):Sz (n+m) (r*s):=by
 have e:r*s=((r.num*s.num:Int):Rat) / ((r.den*s.den:Nat):Rat):=by
  have e1:=BW r;have e2:=BW s;have d1:=Bq r;have d2:=Bq s;push_cast;rw[e1,e2];grind
 rw[e];have h1:=EY hr.1 hs.1;have h3:=EY hr.2 hs.2;refine Sz.JG _ (Fq r.den_pos s.den_pos) ?_ h3;rw[U9];exact h1
theorem Sz.div{n m:Nat}{r s:Rat}(hr:Sz n r)(hs:Sz m s)(h:0<s):Sz (n+m) (r / s):=by
 have hn:=Kz h;have e:r / s=((r.num*((s.den:Nat):Int):Int):Rat) / ((r.den*s.num.natAbs:Nat):Rat):=by
  have e1:=BW r;have e2:=BW s;have d1:=Bq r;have d2:=Bq s;have e3:((s.num.natAbs:Nat):Rat)=(s.num:Rat):=by
   have:((s.num.natAbs:Nat):Int)=s.num:=by omega
   exact_mod_cast congrArg (λz:Int=>(z:Rat)) this
  push_cast;rw[e3,e1,e2];grind
 rw[e];have h1:=EY hr.1 hs.2;have h3:=EY hr.2 hs.1;refine Sz.JG _ (Fq r.den_pos ()) ?_ h3;rw[U9,Jl];exact h1
theorem Sz.int{n:Nat}{i:Int}(h:i.natAbs<2^n)(hn:0<n):Sz n (i:Rat):=
 ⟨by rw[Rat.num_intCast];exact h,by rw[Rat.den_intCast];exact kX ()⟩
theorem Sz.nat{n:Nat}{i:Nat}(h:i<2^n)(hn:0<n):Sz n (i:Rat):=Sz.int (i:=(i:Int)) (by rw[Jl];exact h) hn
theorem Sz.zero{n:Nat}(hn:0<n):Sz n 0:=Sz.int (i:=0) (Zp n) hn
theorem Sz.one{n:Nat}(hn:0<n):Sz n 1:=Sz.int (i:=1) (kX ()) hn
end
section
theorem o4(a:Int){b:Nat}(hb:0<b){r:Rat}(h:r=(a:Rat) / (b:Rat)):r.den<=b:=by
 have h1:=G0 a (b:=b) ();have e2:((a:Rat) / (b:Rat)).den=b / F6 a.natAbs b:=(congrArg JA h1).symm;rw[h,e2];exact Zr _ _
theorem bK(a:Int){z:Int}(hz:0<z){r:Rat}(h:r=(a:Rat) / (z:Rat)):(r.den:Int)<=z:=by
 obtain⟨n,rfl⟩:∃n:Nat,z=n:=⟨z.toNat,()⟩;have:=o4 a (b:=n) () (r:=r) (by rw[h];rfl);omega
def Kg(l:List Nat):Nat:=l.foldr (λu a=>u+a) 0
theorem AAC{g s x y z:Rat}(hg:0<g)(hs:0<s)(hx:x<=z)(hy:y<=z):g / (g+s)*x+(1 - g / (g+s))*y<=z:=by
 have h:=oy hg hs (x:=z - x) (y:=z - y) (by grind) (by grind);have hp:g+s≠0:=by grind
 grind
theorem IV{b:Nat}(hb:0<b):∀(l:List Nat) (m k:Nat),wR b l m k<=(Kg l:Rat)
 | [],m,k=>by simp only[wR,Kg];exact Hv
 |u::l,m,k=>by
  have hB:=BO hb;have h1:=IV hb l m k;have h2:=IV hb l (m - 1) k;have h3:=IV hb l m (k - 1);have h4:=DO hb l (m - 1) k;have hu:=GL u;have hl:=GL (Kg l);have e:((Kg (u::l):Nat):Rat)=(u:Rat)+(Kg l:Rat):=by
   show((u+Kg l:Nat):Rat)=_;push_cast;rfl
  rw[e];simp only[wR];split
  ·grind
  ·split
   ·split
    ·grind
    ·exact AAC (by grind) (by grind) (by grind) (by grind)
   ·grind
def aD:Nat->Nat
 |0=>0
 |n+1=>3*aD n+5
theorem o5{g B D b S x y z:Rat}{U F:Rat}(hg:g=U+F - D)(hS:S=g+(B+b))(hs:S≠0)(hx:x≠0)(hy:y≠0)(hz:z≠0):
  g / S*B+(1 - g / S)*D=(B*x*(U*y+F*y)*z+b*(D*z)*(x*y)) / (S*(x*y*z)):=by
 have e1:g / S*B+(1 - g / S)*D=(B*(U+F)+b*D) / S:=by grind
 have e2:B*x*(U*y+F*y)*z+b*(D*z)*(x*y)=(B*(U+F)+b*D)*(x*y*z):=by grind
 have hn:x*y*z≠0:=by grind
 rw[e1,e2];generalize x*y*z=n at*
 grind
theorem Cu{a b:Int}(h:(a:Rat)<=(b:Rat)):a<=b:=by exact_mod_cast h
theorem IC{b:Nat}(hb:0<b)(MP:b<=3):∀(l:List Nat) (m k:Nat),l.length<=4->(∀u∈l,u<=3)->(wR b l m k).den<=2^aD l.length
 | [],m,k,_,_=>by simp only[wR];exact As 1
 |u::l,m,k,hl,hu=>by
  have ZG:l.length<=4:=by rw[CD] at hl;omega
  have eh:∀x∈l,x<=3:=λx hx=>hu x (Bb _ hx);have h1:=IC hb MP l m k ZG eh;have h2:=IC hb MP l (m - 1) k ZG eh;have h3:=IC hb MP l m (k - 1) ZG eh;have b1:=DO hb l m k;have b2:=DO hb l (m - 1) k;have b3:=DO hb l m (k - 1);have c1:=IV hb l m k;have c2:=IV hb l (m - 1) k;have c3:=IV hb l m (k - 1);have hB:=BO hb;have hs:Kg l<=12:=by
   have:∀(l:List Nat),(∀x∈l,x<=3)->Kg l<=3*l.length:=by
    intro l;induction l with
    |nil=>intro _;exact As 0
    |cons x t ih=>
     intro h;have a1:=ih λy hy=>h y (Bb _ hy);have a2:=h x Bw;show x+Kg t<=3*(t.length+1);omega
   have:=this l eh;omega
  have hsR:(Kg l:Rat)<=12:=by exact_mod_cast hs
  have hu3:(u:Rat)<=3:=by exact_mod_cast hu u Bw
  have hbR:(b:Rat)<=3:=by exact_mod_cast MP
  have mono:2^aD l.length<=2^aD (u::l).length:=DM (()) (by show aD l.length<=3*aD l.length+5;omega);have one:1<=2^aD (u::l).length:=Gq;simp only[wR];generalize hD:wR b l m k=D at*
  generalize hE:wR b l (m - 1) k=B at*
  generalize hF:wR b l m (k - 1)=F at*
  have eD:=BW D;have eB:=BW B;have eF:=BW F;have nD:=Bq D;have nB:=Bq B;have nF:=Bq F;split
  ·exact one
  ·split
   ·rename_i ht;split
    ·refine A6 (o4 (u*(F.den:Int)+F.num) F.den_pos ?_) (A6 h3 mono);push_cast;rw[eF];grind
    ·have o6:B.den*F.den*D.den<=2^(3*aD l.length):=by
      have:2^(3*aD l.length)=2^aD l.length*2^aD l.length*2^aD l.length:=by
       rw[←GF,←GF];congr 1;omega
      rw[this];exact Ji (Ji h2 h3) h1
     have pE:(0:Rat)< ((B.den*F.den*D.den:Nat):Rat):=BO (Fq (Fq B.den_pos F.den_pos) D.den_pos)
     let z:Int:=B.num*F.den*D.den+((u:Int)+b)*(B.den*F.den*D.den)+F.num*B.den*D.den - D.num*B.den*F.den
     have hz:(z:Rat)=((u:Rat)+F - D+(B+b))*((B.den*F.den*D.den:Nat):Rat):=by
      show((B.num*F.den*D.den+((u:Int)+b)*(B.den*F.den*D.den)+F.num*B.den*D.den - D.num*B.den*F.den:Int):Rat)=_;push_cast;rw[eB,eF,eD];grind
     have AAD:0< (u:Rat)+F - D+(B+b):=by grind
     have hz0:0<z:=by
      have:(0:Rat)< (z:Rat):=by rw[hz];exact VF AAD pE
      exact_mod_cast this
     have hz1:z<=((32*(B.den*F.den*D.den):Nat):Int):=by
      refine Cu ?_;rw[hz];have:(u:Rat)+F - D+(B+b)<=32:=by grind
      have h5:=Ov this (Gx pE);refine El h5 ?_;push_cast;exact Hv
     have hd:=bK (B.num*(u*F.den+F.num)*D.den+b*D.num*(B.den*F.den)) hz0 (r:=(u+F - D) / (u+F - D+(B+b))*B+(1 - (u+F - D) / (u+F - D+(B+b)))*D) (by
      rw[hz];push_cast;rw[eB,eF,eD];exact o5 rfl rfl (λe=>by rw[e] at AAD;exact absurd AAD (())) nB nF nD)
     have h6:aD (u::l).length=5+3*aD l.length:=by show 3*aD l.length+5=_;omega
     rw[h6,GF];have h7:32*(B.den*F.den*D.den)<=2^5*2^(3*aD l.length):=Ji (()) o6;omega
   ·exact A6 h1 mono
theorem Vu:∀(l:List Nat),(∀x∈l,x<=3)->Kg l<=3*l.length:=by
 intro l;induction l with
 |nil=>intro _;exact As 0
 |cons x t ih=>
  intro h;have a1:=ih λy hy=>h y (Bb _ hy);have a2:=h x Bw;show x+Kg t<=3*(t.length+1);omega
theorem Sz.AAE{r:Rat}{n v:Nat}(h0:0<=r)(h1:r<=(2^v:Nat))(hd:r.den<=2^n):Sz (n+v+1) r:=by
 have e:=BW r;have hn:r.num<=((2^v*2^n:Nat):Int):=by
  refine Cu ?_;rw[e];refine El (Ov h1 (GL _)) ?_;have h2:(r.den:Rat)<=((2^n:Nat):Rat):=by exact_mod_cast hd
  refine El (XQ h2 (GL _)) ?_;have:(((2^v*2^n:Nat):Int):Rat)=((2^v:Nat):Rat)*((2^n:Nat):Rat):=by
   have h3:(((2^v*2^n:Nat):Int):Rat)=((2^v*2^n:Nat):Rat):=rfl;rw[h3,aE]
  rw[this];exact Hv
 have hp:0<=r.num:=lj.mpr h0;have e2:2^(n+v+1)=2*(2^v*2^n):=by rw[Gr,GF,Gs (2^n)];omega
 have p1:1<=2^v:=Gq;have p2:1<=2^n:=Gq;have p3:2^n<=2^v*2^n:=Zj _ ();refine⟨?_,?_⟩ <;> omega
theorem P8{a b:Nat}(h:a<=b):aD a<=aD b:=by
 induction h with
 |refl=>exact As _
 |step _ ih=>exact A6 ih (by show _<=3*aD _+5;omega)
theorem xB{b:Nat}(hb:0<b)(MP:b<=3){l:List Nat}(hl:l.length<=4)(hu:∀u∈l,u<=3)(m k:Nat):Sz 205 (wR b l m k):=by
 have h1:=IC hb MP l m k hl hu;have h2:=IV hb l m k;have h3:Kg l<=2^4:=by have:=Vu l hu;omega
 have h4:aD l.length<=200:=P8 hl;refine Sz.AAE (n:=200) (v:=4) (DO hb l m k) (El h2 (by exact_mod_cast h3)) (A6 h1 (DM (()) h4))
end
section
def cR(b:Nat):List Nat->Nat->Nat->Rat
 | [],_,_=>0
 |u::l,m,k=>if k=0 then 0 else
  lR b (u::l) m k*dR b (u::l) m k+(if m=0 then 0 else lR b (u::l) m k*(1 - dR b (u::l) m k)*cR b l (m - 1) k)+
   ((1 - lR b (u::l) m k)*dR b (u::l) m k*cR b l m (k - 1)+(1 - lR b (u::l) m k)*(1 - dR b (u::l) m k)*cR b l m k)
def bR(b:Nat):List Nat->Nat->Nat->Rat
 | [],_,_=>0
 |u::l,m,k=>if k=0 then 0 else
  (if m=0 then 0 else lR b (u::l) m k*(1 - dR b (u::l) m k)*bR b l (m - 1) k)+
   ((1 - lR b (u::l) m k)*dR b (u::l) m k*((u:Rat)+bR b l m (k - 1))+(1 - lR b (u::l) m k)*(1 - dR b (u::l) m k)*bR b l m k)
theorem Mj{b:Nat}(hb:0<b):∀(l:List Nat) (m k:Nat),U8 b l m k=q (cR b l m k)
 | [],m,k=>rfl
 |u::l,m,k=>by
  simp only[U8,cR];by_cases hk:k=0
  ·rw[AG hk,AG hk];rfl
  rw[AB hk,AB hk,RO hb,OE hb,Mj hb l m (k - 1),Mj hb l m k,xA];by_cases hm:m=0
  ·rw[AG hm,AG hm,OC];simp only[HZ,Ha,DN]
  ·rw[AB hm,AB hm,Mj hb l (m - 1) k];simp only[HZ,Ha,DN]
theorem K0{b:Nat}(hb:0<b):∀(l:List Nat) (m k:Nat),U7 b l m k=q (bR b l m k)
 | [],m,k=>rfl
 |u::l,m,k=>by
  simp only[U7,bR];by_cases hk:k=0
  ·rw[AG hk,AG hk];rfl
  rw[AB hk,AB hk,RO hb,OE hb,K0 hb l m (k - 1),K0 hb l m k,xA,X4];by_cases hm:m=0
  ·rw[AG hm,AG hm,OC];simp only[HZ,Ha,DN]
  ·rw[AB hm,AB hm,K0 hb l (m - 1) k];simp only[HZ,Ha,DN]
theorem o7(b:Nat)(l:List Nat)(k:Nat):lR b l 0 k=0:=by
 cases l with
 |nil=>rfl
 |cons u l=>simp[lR]
theorem xC(b u:Nat)(l:List Nat)(m:Nat):¬tR b u l m 0:=λh=>h.1 rfl
theorem xD(b:Nat)(l:List Nat)(m:Nat):lR b l m 0=0:=by
 cases l with
 |nil=>rfl
 |cons u l=>simp[lR,xC b u l m]
theorem X5(b:Nat)(l:List Nat)(m:Nat):dR b l m 0=0:=by
 cases l with
 |nil=>rfl
 |cons u l=>simp[dR,xC b u l m]
theorem o8(b:Nat):∀(l:List Nat) (m:Nat),cR b l m 0=0
 | [],_=>rfl
 |u::l,m=>by simp[cR]
theorem o9(b:Nat):∀(l:List Nat) (m:Nat),bR b l m 0=0
 | [],_=>rfl
 |u::l,m=>by simp[bR]
theorem uW(b u:Nat)(l:List Nat)(m k:Nat):cR b (u::l) m k=lR b (u::l) m k*dR b (u::l) m k+lR b (u::l) m k*(1 - dR b (u::l) m k)*cR b l (m - 1) k+
   ((1 - lR b (u::l) m k)*dR b (u::l) m k*cR b l m (k - 1)+(1 - lR b (u::l) m k)*(1 - dR b (u::l) m k)*cR b l m k):=by
 by_cases hk:k=0
 ·subst hk;rw[o8,xD,X5,o8,o8];grind
 ·simp only[cR];rw[AB hk];by_cases hm:m=0
  ·subst hm;rw[AG rfl,o7];grind
  ·rw[AB hm]
theorem uX(b u:Nat)(l:List Nat)(m k:Nat):bR b (u::l) m k=lR b (u::l) m k*(1 - dR b (u::l) m k)*bR b l (m - 1) k+
   ((1 - lR b (u::l) m k)*dR b (u::l) m k*((u:Rat)+bR b l m (k - 1))+(1 - lR b (u::l) m k)*(1 - dR b (u::l) m k)*bR b l m k):=by
 by_cases hk:k=0
 ·subst hk;rw[o9,xD,X5,o9,o9];grind
 ·simp only[bR];rw[AB hk];by_cases hm:m=0
  ·subst hm;rw[AG rfl,o7];grind
  ·rw[AB hm]
structure Bd(E v:Nat)(r:Rat):Prop where
 dv:∃z:Int,r*(E:Rat)=z
 lo:-((2^v:Nat):Rat)<=r
 hi:r<=((2^v:Nat):Rat)
theorem o_{v u:Nat}(h:v<=u):((2^v:Nat):Rat)<=((2^u:Nat):Rat):=by exact_mod_cast DM (()) h
theorem Bd.up{E v:Nat}{r:Rat}(h:Bd E v r)(F:Nat){u:Nat}(hu:v<=u):Bd (E*F) u r:=by
 obtain⟨z,hz⟩:=h.dv;have hp:=o_ hu;refine⟨⟨z*F,?_⟩,?_,?_⟩
 ·push_cast;rw[←hz];grind
 ·have:=h.lo;grind
 ·have:=h.hi;grind
theorem Bd.mono{E v:Nat}{r:Rat}(h:Bd E v r){u:Nat}(hu:v<=u):Bd E u r:=by
 have:=h.up 1 hu;rw[Uy] at this;exact this
theorem bL(v:Nat):((2^(v+1):Nat):Rat)=((2^v:Nat):Rat)+((2^v:Nat):Rat):=by
 rw[Gr];push_cast;grind
theorem Bd.add{E v:Nat}{r s:Rat}(h:Bd E v r)(g:Bd E v s):Bd E (v+1) (r+s):=by
 obtain⟨z,hz⟩:=h.dv;obtain⟨y,hy⟩:=g.dv;have h1:=h.lo;have h2:=h.hi;have h3:=g.lo;have h4:=g.hi;have e:=bL v;refine⟨⟨z+y,?_⟩,?_,?_⟩
 ·push_cast;rw[←hz,←hy];grind
 ·rw[e];grind
 ·rw[e];grind
theorem Bd.neg{E v:Nat}{r:Rat}(h:Bd E v r):Bd E v (-r):=by
 obtain⟨z,hz⟩:=h.dv;have h1:=h.lo;have h2:=h.hi;refine⟨⟨-z,?_⟩,by grind,by grind⟩;push_cast;rw[←hz];grind
theorem Bd.sub{E v:Nat}{r s:Rat}(h:Bd E v r)(g:Bd E v s):Bd E (v+1) (r - s):=by
 rw[lg];exact h.add g.neg
theorem e_{r s x y:Rat}(h1:-x<=r)(h2:r<=x)(h3:-y<=s)(h4:s<=y):r*s<=x*y:=by
 have a1:=Iw (show 0<=x - r by grind) (show 0<=y+s by grind);have a2:=Iw (show 0<=x+r by grind) (show 0<=y - s by grind);grind
theorem Bd.mul{E F v u:Nat}{r s:Rat}(h:Bd E v r)(g:Bd F u s):Bd (E*F) (v+u) (r*s):=by
 obtain⟨z,hz⟩:=h.dv;obtain⟨y,hy⟩:=g.dv;have h1:=h.lo;have h2:=h.hi;have h3:=g.lo;have h4:=g.hi;have e:((2^(v+u):Nat):Rat)=((2^v:Nat):Rat)*((2^u:Nat):Rat):=by
  rw[GF];push_cast;rfl
 refine⟨⟨z*y,?_⟩,?_,?_⟩
 ·push_cast;rw[←hz,←hy];grind
 ·rw[e];have:=e_ (r:= -r) (s:=s) (x:=((2^v:Nat):Rat)) (y:=((2^u:Nat):Rat)) (by grind) (by grind) h3 h4;grind
 ·rw[e];exact e_ h1 h2 h3 h4
theorem Bd.int{E v:Nat}{i:Int}(h:i.natAbs<=2^v):Bd E v (i:Rat):=by
 refine⟨⟨i*E,by push_cast;rfl⟩,?_,?_⟩
 ·have h2:-((2^v:Nat):Int)<=i:=by omega
  have h3:((-((2^v:Nat):Int):Int):Rat)= -((2^v:Nat):Rat):=by rw[Rat.intCast_neg];rfl
  rw[←h3];exact Rat.intCast_le_intCast.mpr h2
 ·have:i<=((2^v:Nat):Int):=by omega
  exact_mod_cast this
theorem Bd.zero(E v:Nat):Bd E v 0:=Bd.int (i:=0) (BR _)
theorem Bd.one(E v:Nat):Bd E v 1:=Bd.int (i:=1) Gq
theorem Bd.nat{E v n:Nat}(h:n<=2^v):Bd E v (n:Rat):=Bd.int (i:=(n:Int)) (by rw[Jl];exact h)
theorem Bd.sz{E e v:Nat}{r:Rat}(h:Bd E v r)(h0:0<E)(hE:E<=2^e):Sz (e+v+1) r:=by
 obtain⟨z,hz⟩:=h.dv;have pE:=BO h0;have er:r=(z:Rat) / (E:Rat):=by grind
 have p1:1<=2^v:=Gq;have p2:1<=2^e:=Gq;have e2:2^(e+v+1)=2*(2^e*2^v):=by rw[Gr,GF];omega
 have p3:2^e<=2^e*2^v:=Nat.le_mul_of_pos_right _ ();have hz1:z.natAbs<=2^e*2^v:=by
  have a1:z<=((2^e*2^v:Nat):Int):=by
   refine Cu ?_;rw[←hz];refine El (Ov h.hi (Gx pE)) ?_;have h2:(E:Rat)<=((2^e:Nat):Rat):=by exact_mod_cast hE
   refine El (XQ h2 (GL _)) ?_;have h3:(((2^e*2^v:Nat):Int):Rat)=((2^e*2^v:Nat):Rat):=rfl;rw[h3,aE,lq];exact Hv
  have a2:-z<=((2^e*2^v:Nat):Int):=by
   refine Cu ?_;have hz':((-z:Int):Rat)=(-r)*(E:Rat):=by push_cast;rw[←hz];grind
   rw[hz'];refine El (Ov (show -r<=((2^v:Nat):Rat) by have:=h.lo;grind) (Gx pE)) ?_;have h2:(E:Rat)<=((2^e:Nat):Rat):=by exact_mod_cast hE
   refine El (XQ h2 (GL _)) ?_;have h3:(((2^e*2^v:Nat):Int):Rat)=((2^e*2^v:Nat):Rat):=rfl;rw[h3,aE,lq];exact Hv
  omega
 rw[er];exact Sz.JG z h0 () ()
end
section
theorem common{b u:Nat}{B F D:Rat}{a:Nat}(MP:b<=3)(hu3:u<=3)(_:0<=B)(hB2:B<=12)(_:0<=F)(hF2:F<=12)(hD:0<=D)(_:D<=12)(h1:B.den<=2^a)(h2:F.den<=2^a)(h3:D.den<=2^a)
  (hS:0< (u:Rat)+F - D+(B+(b:Rat))):
  ∃(z E:Nat),0<z/\z<=2^(3*a+5)/\0<E/\E<=2^(3*a)/\(z:Rat)=((u:Rat)+F - D+(B+(b:Rat)))*(E:Rat)/\(∃i:Int,((u:Rat)+F - D)*(E:Rat)=i)/\(∃i:Int,(B - D)*(E:Rat)=i):=by
 have eD:=BW D;have eB:=BW B;have eF:=BW F;have o6:B.den*F.den*D.den<=2^(3*a):=by
  have:2^(3*a)=2^a*2^a*2^a:=by
   rw[←GF,←GF];congr 1;omega
  rw[this];exact Ji (Ji h1 h2) h3
 have p0:0<B.den*F.den*D.den:=Fq (Fq B.den_pos F.den_pos) D.den_pos;have pE:(0:Rat)< ((B.den*F.den*D.den:Nat):Rat):=BO p0
 let z:Int:=B.num*F.den*D.den+((u:Int)+b)*(B.den*F.den*D.den)+F.num*B.den*D.den - D.num*B.den*F.den
 have hz:(z:Rat)=((u:Rat)+F - D+(B+b))*((B.den*F.den*D.den:Nat):Rat):=by
  show((B.num*F.den*D.den+((u:Int)+b)*(B.den*F.den*D.den)+F.num*B.den*D.den - D.num*B.den*F.den:Int):Rat)=_;push_cast;rw[eB,eF,eD];grind
 have hz0:0<z:=by
  have:(0:Rat)< (z:Rat):=by rw[hz];exact VF hS pE
  exact_mod_cast this
 have huR:(u:Rat)<=3:=by exact_mod_cast hu3
 have hbR:(b:Rat)<=3:=by exact_mod_cast MP
 have hz1:z<=((32*(B.den*F.den*D.den):Nat):Int):=by
  refine Cu ?_;rw[hz];have:(u:Rat)+F - D+(B+b)<=32:=by grind
  have h5:=Ov this (Gx pE);refine El h5 ?_;push_cast;exact Hv
 refine⟨z.toNat,B.den*F.den*D.den,(),?_,p0,o6,?_,⟨u*(B.den*F.den*D.den)+F.num*B.den*D.den - D.num*B.den*F.den,?_⟩,⟨B.num*F.den*D.den - D.num*B.den*F.den,?_⟩⟩
 ·have:2^(3*a+5)=32*2^(3*a):=by rw[GF];omega
  omega
 ·have e:((z.toNat:Nat):Rat)=(z:Rat):=by
   have:((z.toNat:Nat):Int)=z:=by omega
   exact_mod_cast congrArg (λi:Int=>(i:Rat)) this
  rw[e,hz]
 ·push_cast;rw[eF,eD];grind
 ·push_cast;rw[eB,eD];grind
theorem shrink{r z i V:Rat}(hz:1<=z)(h:r*z=i)(h1:-V<=i)(h2:i<=V):-V<=r/\r<=V:=by
 by_cases hr:0<=r
 ·have:=Iw hr (show 0<=z - 1 by grind);constructor <;> grind
 ·have:=Iw (show 0<=-r by grind) (show 0<=z - 1 by grind);constructor <;> grind
theorem uY{b:Nat}(hb:0<b)(MP:b<=3){l:List Nat}(hl:l.length<=4)(hu:∀u∈l,u<=3)(m k:Nat):∃z,0<z/\z<=2^aD l.length/\Bd z 0 (lR b l m k):=by
 cases l with
 |nil=>exact⟨1,(()),Gq,Bd.zero _ _⟩
 |cons u l=>
  have ZG:l.length<=4:=by rw[CD] at hl;omega
  have eh:∀x∈l,x<=3:=λx hx=>hu x (Bb _ hx);simp only[lR];split
  ·exact⟨1,(()),Gq,Bd.zero _ _⟩
  ·rename_i hc;have ht:tR b u l m k:=mh λz=>hc (.inr z);have D5:(Kg l:Rat)<=12:=by have:=Vu l eh;exact_mod_cast (show Kg l<=12 by omega)
   have b1:=DO hb l m k;have b2:=DO hb l (m - 1) k;have b3:=DO hb l m (k - 1);have c1:=El (IV hb l m k) D5;have c2:=El (IV hb l (m - 1) k) D5;have c3:=El (IV hb l m (k - 1)) D5;have hB:=BO hb;have h2:=ht.2;obtain⟨z,E,z0,z1,E0,_,ez,⟨i,hi⟩,_⟩:=common (a:=aD l.length) (b:=b) (u:=u) MP (hu u Bw) b2 c2 b3 c3 b1 c1 (IC hb MP l _ _ ZG eh) (IC hb MP l _ _ ZG eh) (IC hb MP l _ _ ZG eh) (by grind);generalize wR b l m k=D at*
   generalize wR b l (m - 1) k=B at*
   generalize wR b l m (k - 1)=F at*
   have hS:0< (u:Rat)+F - D+(B+(b:Rat)):=by grind
   generalize hg:(u:Rat)+F - D=g at*
   have hg0:0<g:=by grind
   generalize hs:g+(B+(b:Rat))=S at*
   have hgS:g<=S:=by grind
   refine⟨z,z0,z1,⟨i,?_⟩,?_,?_⟩
   ·rw[ez,←hi];grind
   ·have:0<=g / S:=by rw[FK];exact Iw (Gx hg0) (Gx (Nv.mpr hS))
    have e:((2^0:Nat):Rat)=1:=rfl;rw[e];grind
   ·have h0:0<=(S - g) / S:=by rw[FK];exact Iw (by grind) (Gx (Nv.mpr hS))
    have e:((2^0:Nat):Rat)=1:=rfl;rw[e];have e2:(S - g) / S=1 - g / S:=by grind
    grind
theorem Vv{b:Nat}(hb:0<b)(MP:b<=3){l:List Nat}(hl:l.length<=4)(hu:∀u∈l,u<=3)(m k:Nat):∃z,0<z/\z<=2^aD l.length/\Bd z (aD l.length) (dR b l m k):=by
 cases l with
 |nil=>exact⟨1,(()),Gq,Bd.zero _ _⟩
 |cons u l=>
  have ZG:l.length<=4:=by rw[CD] at hl;omega
  have eh:∀x∈l,x<=3:=λx hx=>hu x (Bb _ hx);simp only[dR];split
  ·exact⟨1,(()),Gq,Bd.zero _ _⟩
  ·rename_i hc;have ht:tR b u l m k:=mh λz=>hc z;split
   ·exact⟨1,(()),Gq,Bd.one _ _⟩
   have D5:(Kg l:Rat)<=12:=by have:=Vu l eh;exact_mod_cast (show Kg l<=12 by omega)
   have b1:=DO hb l m k;have b2:=DO hb l (m - 1) k;have b3:=DO hb l m (k - 1);have c1:=El (IV hb l m k) D5;have c2:=El (IV hb l (m - 1) k) D5;have c3:=El (IV hb l m (k - 1)) D5;have hB:=BO hb;have h2:=ht.2;obtain⟨z,E,z0,z1,E0,E1,ez,_,⟨i,hi⟩⟩:=common (a:=aD l.length) (b:=b) (u:=u) MP (hu u Bw) b2 c2 b3 c3 b1 c1 (IC hb MP l _ _ ZG eh) (IC hb MP l _ _ ZG eh) (IC hb MP l _ _ ZG eh) (by grind);generalize wR b l m k=D at*
   generalize wR b l (m - 1) k=B at*
   generalize wR b l m (k - 1)=F at*
   have hS:0< (u:Rat)+F - D+(B+(b:Rat)):=by grind
   have eS:B - D+((u:Rat)+F+(b:Rat))=(u:Rat)+F - D+(B+(b:Rat)):=by grind
   rw[eS];generalize hs:(u:Rat)+F - D+(B+(b:Rat))=S at*
   have zR:=BO z0;have z1R:(1:Rat)<=(z:Rat):=by exact_mod_cast z0
   have key:(B - D) / S*(z:Rat)=i:=by
    rw[ez,←hi];grind
   have iB:i.natAbs<=2^aD (u::l).length:=by
    have e5:aD (u::l).length=3*aD l.length+5:=rfl;have e6:2^(3*aD l.length+5)=32*2^(3*aD l.length):=by rw[GF];omega
    rw[e5,e6];have ER:(E:Rat)<=((2^(3*aD l.length):Nat):Rat):=by exact_mod_cast E1
    have a1:i<=((32*2^(3*aD l.length):Nat):Int):=by
     refine Cu ?_;rw[←hi];refine El (Ov (show B - D<=32 by grind) (GL _)) ?_;refine El (XQ ER (())) ?_;push_cast;exact Hv
    have a2:-i<=((32*2^(3*aD l.length):Nat):Int):=by
     refine Cu ?_;have hz':((-i:Int):Rat)=(-(B - D))*(E:Rat):=by push_cast;rw[←hi];grind
     rw[hz'];refine El (Ov (show -(B - D)<=32 by grind) (GL _)) ?_;refine El (XQ ER (())) ?_;push_cast;exact Hv
    omega
   have IB:=Bd.int (E:=1) iB;have fin:=shrink z1R key IB.lo IB.hi;exact⟨z,z0,z1,⟨i,key⟩,fin.1,fin.2⟩
end
section
open Kp317 (choose heavy)
theorem Ef(n:Nat):choose n 0=1:=by cases n <;> rfl
theorem Dq(n k:Nat):choose (n+1) (k+1)=choose n k+choose n (k+1):=rfl
theorem X6(k:Nat):choose 0 (k+1)=0:=rfl
theorem ME:∀n:Nat,choose n 1=n
 |0=>rfl
 |n+1=>by rw[Dq,Ef,ME n];omega
theorem FQ:∀(n k:Nat),n<k->choose n k=0
 |0,k+1,_=>rfl
 |n+1,k+1,h=>by rw[Dq,FQ n k (),FQ n (k+1) ()]
theorem Vw(n k:Nat):choose n k<=choose (n+1) k:=by
 cases k with
 |zero=>rw[Ef,Ef];exact As _
 |succ k=>rw[Dq];omega
theorem PB{a b:Nat}(k:Nat)(h:a<=b):choose a k<=choose b k:=by
 induction h with
 |refl=>exact As _
 |step h ih=>exact A6 ih (Vw _ _)
theorem OH:∀(n k:Nat),choose n k<=2^n
 |0,0=>As _
 |0,k+1=>BR _
 |n+1,0=>by rw[Ef];exact Gq
 |n+1,k+1=>by rw[Dq,Gr];have:=OH n k;have:=OH n (k+1);omega
theorem foldl_add(l:List Nat)(a:Nat):l.foldl (λ(a b:Nat)=>a+b) a=a+l.foldl (λ(a b:Nat)=>a+b) 0:=by
 induction l generalizing a with
 |nil=>rfl
 |cons x l ih=>rw[LS,LS,ih,ih (0+x)];omega
theorem pA(l:List Nat)(x:Nat):Nw (l++ [x])=Nw l+x:=by unfold Nw;rw[List.foldl_append];rfl
theorem fC(c:Nat):∀(l:List Nat),Nw (l.map λx=>c*x)=c*Nw l
 | []=>rfl
 |x::l=>by
  have h:=fC c l;unfold Nw at h ⊢;rw[B7,LS,LS,foldl_add,h,foldl_add l (0+x),Qi,KD,KD]
theorem G_(n b:Nat):heavy n 0 b=1:=by
 show 0+choose n 0*b^0=1;rw[Ef];rfl
theorem DQ(n m b:Nat):heavy n (m+1) b=b*heavy n m b+choose n (m+1):=by
 unfold heavy;rw[Zb,GB,B7,Qb,pA,←fC,Lm];congr 1
 ·congr 1;refine QY λi hi=> ?_;have hi:=Gn.mp hi;show choose n i*b^(m+1 - i)=b*(choose n i*b^(m - i));rw[show m+1 - i=(m - i)+1 by omega,Gr,Gs b,Zs]
 ·rw[Qh,Zt,Uy]
theorem GN(n b:Nat):∀m,heavy (n+1) (m+1) b=heavy n (m+1) b+heavy n m b
 |0=>by rw[DQ,DQ,G_,G_,Dq,Ef];omega
 |m+1=>by rw[DQ (n+1) (m+1),GN n b m,DQ n (m+1),DQ n m,Dq,Qi,Qi];omega
theorem DG{b:Nat}(hb:0<b)(n:Nat):∀m,0<heavy n m b
 |0=>by rw[G_];exact Nat.one_pos
 |m+1=>by rw[DQ];have:=Fq hb (DG hb n m);omega
theorem Kh{b:Nat}(hb:0<b):∀n m,heavy n m b<=2^n*b^m
 |n,0=>by rw[G_,Zt,Uy];exact Gq
 |0,m+1=>by
  have:=Kh hb 0 m;rw[DQ,X6,Gr];rw[Zt,Nat.one_mul] at this ⊢;have:=Uu b this;rw[Gs (b^m)];omega
 |n+1,m+1=>by
  rw[GN,Gr 2,Gs (2^n) 2,Zs];have h1:=Kh hb n (m+1);have h2:=Kh hb n m;have h3:2^n*b^m<=2^n*b^(m+1):=Uu _ (DM hb ());omega
def wE(b n m k:Nat):Rat:=((choose n (m+1):Nat) - (choose (n - k) (m+1):Nat):Rat) / ((heavy n m b:Nat):Rat)
theorem BZ{b:Nat}(hb:0<b)(n m k:Nat):HR n m k b=q (wE b n m k):=by
 unfold HR wE;rw[G0 _ (by have:=DG hb n m;omega)];congr 2;push_cast;rfl
theorem pas(n k m:Nat):choose (n - k) (m+1)=choose (n - (k+1)) m+choose (n - (k+1)) (m+1)\/(n - k=0/\n - (k+1)=0):=by
 by_cases h:k<n
 ·refine .inl ?_;rw[show n - k=(n - (k+1))+1 by omega];rfl
 ·exact .inr ()
theorem AE4{h0 h1 a1 a2 p1 p2 b:Rat}(e:h1=b*h0+a1)(n0:0<h0)(n1:0<h1)(np:p1<h1):
  (a2 - p2) / h1<1+(a2 - (p1+p2)) / h1/\
  (1+(a2 - (p1+p2)) / h1 - (a2 - p2) / h1) / ((1+(a2 - (p1+p2)) / h1 - (a2 - p2) / h1)+((a1 - p1) / h0+b))=h0 / (h0+h1):=by
 have z0:h0≠0:=by grind
 have z1:h1≠0:=by grind
 have z2:h0+h1≠0:=by grind
 have z3:h1 - p1≠0:=by grind
 have g:1+(a2 - (p1+p2)) / h1 - (a2 - p2) / h1=(h1 - p1) / h1:=by grind
 have s:(h1 - p1) / h1+((a1 - p1) / h0+b)=(h1 - p1)*(h0+h1) / (h0*h1):=by grind
 have p:0< (h1 - p1) / h1:=by rw[FK];exact VF (by grind) (Nv.mpr n1)
 refine⟨by grind,?_⟩;rw[g,s];grind
end
section
open Kp317 (choose heavy)
def ones(n:Nat):List Nat:=GC n 1
theorem AC8(n k m:Nat):choose (n - k) (m+2)=choose (n - (k+1)) (m+1)+choose (n - (k+1)) (m+2):=by
 rcases pas n k (m+1) with h|⟨h1,h2⟩
 ·exact h
 ·rw[h1,h2];rfl
theorem pC{b:Nat}(hb:0<b)(n k m:Nat):choose (n - (k+1)) (m+1)<heavy n (m+1) b:=by
 rw[DQ];have h1:=PB (m+1) (show n - (k+1)<=n by omega);have h2:=Fq hb (DG hb n m);omega
theorem OJ{b:Nat}(hb:0<b)(n m k:Nat):wE b n (m+1) (k+1)<1+wE b n (m+1) k/\
  (1+wE b n (m+1) k - wE b n (m+1) (k+1)) / ((1+wE b n (m+1) k - wE b n (m+1) (k+1))+(wE b n m (k+1)+(b:Rat)))=((heavy n m b:Nat):Rat) / ((heavy (n+1) (m+1) b:Nat):Rat):=by
 have h0:=DG hb n m;have h1:=DG hb n (m+1);have key:=AE4 (h0:=((heavy n m b:Nat):Rat)) (h1:=((heavy n (m+1) b:Nat):Rat)) (a1:=((choose n (m+1):Nat):Rat)) (a2:=((choose n (m+2):Nat):Rat)) (p1:=((choose (n - (k+1)) (m+1):Nat):Rat)) (p2:=((choose (n - (k+1)) (m+2):Nat):Rat)) (b:=(b:Rat))
  (by rw[DQ];push_cast;rfl) (BO h0) (BO h1) (by exact_mod_cast pC hb n k m)
 unfold wE;rw[AC8 n k m,GN];push_cast;rw[Rat.add_comm ((heavy n (m+1) b:Nat):Rat)];exact key
theorem uZ(b n m:Nat):wE b n m 0=0:=by
 unfold wE;rw[Qg,VE,FK,Lw]
theorem ua(b m k:Nat):wE b 0 m k=0:=by
 unfold wE;rw[Nat.zero_sub,VE,FK,Lw]
theorem pF(b n k:Nat):wE b n 0 k=((n - (n - k):Nat):Rat):=by
 unfold wE;rw[G_,ME,ME];have h:n=(n - (n - k))+(n - k):=by omega
 generalize n - (n - k)=x at*
 generalize n - k=y at*
 rw[h];push_cast;grind
theorem Dh{b:Nat}(hb:0<b):∀(n m k:Nat),wR b (ones n) m k=wE b n m k
 |0,m,k=>by rw[ua];rfl
 |n+1,m,0=>by
  rw[uZ];show wR b (1::ones n) m 0=0;simp[wR]
 |n+1,0,k+1=>by
  show wR b (1::ones n) 0 (k+1)=_;simp only[wR];rw[AB (),AG trivial,Qc,Dh hb n 0 k,Dh hb n 0 (k+1),pF,pF,pF];by_cases h:k+1<=n
  ·rw[AB]
   ·congr 1;omega
   ·rw[show n - (n - (k+1))=k+1 by omega,show n - (n - k)=k by omega];push_cast;grind
  ·rw[AG]
   ·rw[show n+1 - (n+1 - (k+1))=n+1 by omega,show n - (n - k)=n by omega];push_cast;grind
   ·rw[show n - (n - (k+1))=n by omega,show n - (n - k)=n by omega];push_cast;grind
 |n+1,m+1,k+1=>by
  show wR b (1::ones n) (m+1) (k+1)=_;simp only[wR];rw[AB (),AB (show¬m+1=0 by omega),Qc,Qc,Dh hb n (m+1) k,Dh hb n (m+1) (k+1),Dh hb n m (k+1)];obtain⟨h1,h2⟩:=OJ hb n m k;have e1:((1:Nat):Rat)=1:=rfl;rw[e1,AG h1,h2];have p0:=BO (DG hb n m);have p1:=BO (DG hb n (m+1));unfold wE;rw[GN,Nat.add_sub_add_right,AC8 n k m,Dq];push_cast;generalize ((heavy n m b:Nat):Rat)=h0 at*
  generalize ((heavy n (m+1) b:Nat):Rat)=h1 at*
  have z0:h0≠0:=by grind
  have z1:h1≠0:=by grind
  have z2:h1+h0≠0:=by grind
  grind
theorem fI{b:Nat}(hb:0<b)(S6:b<=99){n:Nat}(hn:n<=8)(m k:Nat):Sz 100 (wE b n m k):=by
 by_cases h:n<=m
 ·have e:wE b n m k=0:=by
   unfold wE;rw[FQ n (m+1) (),FQ (n - k) (m+1) (),VE,FK,Lw]
  rw[e];exact Sz.zero (())
 ·have h1:=OH n (m+1);have h2:=PB (m+1) (show n - k<=n by omega);have h3:=Kh hb n m;have h4:2^n<=2^8:=DM (()) hn;have h5:b^m<=99^8:=A6 (Zk S6 m) (DM (()) ());have h6:heavy n m b<=2^8*99^8:=A6 h3 (Ji h4 h5);have e:wE b n m k=(((choose n (m+1):Nat):Int) - ((choose (n - k) (m+1):Nat):Int):Int) / ((heavy n m b:Nat):Rat):=by
   unfold wE;push_cast;rfl
  rw[e];refine Sz.JG _ (DG hb n m) ?_ (DU h6 (()));refine DU (show _<=2^8 by omega) (())
end
section
open Kp317 (choose heavy)
def lE(b n m:Nat):Rat:=if n=0\/m=0 then 0 else((heavy (n - 1) (m - 1) b:Nat):Rat) / ((heavy n m b:Nat):Rat)
theorem DR{b:Nat}(hb:0<b)(n m:Nat):En n m b=q (lE b n m):=by
 unfold En lE;split
 ·rfl
 ·rw[G0 _ (by have:=DG hb n m;omega)];rfl
def dE(b n m k:Nat):Rat:=if n=0\/k=0 then 0 else if m=0 then 1 else
 (wE b (n - 1) (m - 1) k - wE b (n - 1) m k) / ((wE b (n - 1) (m - 1) k - wE b (n - 1) m k)+(1+wE b (n - 1) m (k - 1)+(b:Rat)))
theorem AC9{b:Nat}(hb:0<b)(n m k:Nat):0<=wE b n m k:=by rw[←Dh hb];exact DO hb _ _ _
theorem AAF{b:Nat}(hb:0<b){n m k:Nat}(hm:m≠0)(hk:k≠0):0< (wE b n (m - 1) k - wE b n m k)+(1+wE b n m (k - 1)+(b:Rat)):=by
 obtain⟨m,rfl⟩:∃i,m=i+1:=⟨m - 1,()⟩;obtain⟨k,rfl⟩:∃i,k=i+1:=⟨k - 1,()⟩;have h1:=(OJ hb n m k).1;have h2:=AC9 hb n m (k+1);have h3:=BO hb;rw[Qc,Qc];grind
theorem MF{b:Nat}(hb:0<b)(n m k:Nat):aO n m k b=q (dE b n m k):=by
 unfold aO dE;split
 ·rfl
 split
 ·rfl
 ·rename_i h1 h2;have hk:k≠0:=λz=>h1 (.inr z);have h3:=AAF hb (n:=n - 1) h2 hk;simp only[aN,aM,aH];rw[BZ hb,BZ hb,BZ hb,JF,JF,HZ,DN,DN,DN];exact eZ _ h3
theorem fJ{b:Nat}(hb:0<b)(n m k:Nat)(hm:m≠0):dR b (ones n) m k=dE b n m k:=by
 cases n with
 |zero=>
  unfold dE;rw[AG (.inl rfl)];rfl
 |succ n=>
  by_cases hk:k=0
  ·subst hk;unfold dE;rw[AG (.inr rfl),X5]
  show(if¬tR b 1 (ones n) m k then(0:Rat) else if m=0 then 1 else _)=_;have ht:tR b 1 (ones n) m k:=by
   refine⟨hk,?_⟩;obtain⟨m,rfl⟩:∃i,m=i+1:=⟨m - 1,()⟩;obtain⟨k,rfl⟩:∃i,k=i+1:=⟨k - 1,()⟩;rw[Dh hb,Dh hb];exact(OJ hb n m k).1
  unfold dE;rw[AB (λz=>z ht),AB hm,AB (show¬(n+1=0\/k=0) by omega),AB hm];have e:∀i j,wR b (GC n 1) i j=wE b n i j:=Dh hb n;rw[e,e,e];rfl
theorem UJ(b n:Nat):lE b n 0=0:=by unfold lE;rw[AG (.inr rfl)]
theorem fN(b n m:Nat):dE b n m 0=0:=by unfold dE;rw[AG (.inr rfl)]
def kE(b:Nat):Nat->Nat->Nat->Rat
 |n,m,0=>lE b n m
 |0,_,_+1=>0
 |n+1,m,t+1=>lE b (n+1) m*kE b n (m - 1) t+(1 - lE b (n+1) m)*kE b n m t
def fE(b:Nat):Nat->Nat->Nat->Rat
 |0,m,j=>if m=j then 1 else 0
 |n+1,m,j=>lE b (n+1) m*fE b n (m - 1) j+(1 - lE b (n+1) m)*fE b n m j
theorem one_sub(r:Rat):Hx (Hw 1) (q r)=q (1 - r):=by
 have e:Hw 1=q 1:=rfl;rw[e,HZ]
theorem MG{b:Nat}(hb:0<b):∀(n m t:Nat),Qp b n m t=q (kE b n m t)
 |n,m,0=>by
  have e1:Qp b n m 0=En n m b:=by cases n <;> rfl
  have e2:kE b n m 0=lE b n m:=by cases n <;> rfl
  rw[e1,e2,DR hb]
 |0,m,t+1=>rfl
 |n+1,m,t+1=>by
  show Ny (if m=0 then(0,1) else Qr (En (n+1) m b) (Qp b n (m - 1) t)) (Qr (Hx (Hw 1) (En (n+1) m b)) (Qp b n m t))=q (lE b (n+1) m*kE b n (m - 1) t+(1 - lE b (n+1) m)*kE b n m t);rw[DR hb,MG hb n (m - 1) t,MG hb n m t,one_sub,Ha,Ha];by_cases h:m=0
  ·subst h;rw[AG rfl,UJ,OC,DN];congr 1;grind
  ·rw[AB h,DN]
theorem RQ{b:Nat}(hb:0<b):∀(n m j:Nat),VH b n m j=q (fE b n m j)
 |0,m,j=>by
  show(if m=j then((1,1):Nz) else(0,1))=q (if m=j then 1 else 0);split <;> rfl
 |n+1,m,j=>by
  show Ny (if m=0 then(0,1) else Qr (En (n+1) m b) (VH b n (m - 1) j)) (Qr (Hx (Hw 1) (En (n+1) m b)) (VH b n m j))=q (lE b (n+1) m*fE b n (m - 1) j+(1 - lE b (n+1) m)*fE b n m j);rw[DR hb,RQ hb n (m - 1) j,RQ hb n m j,one_sub,Ha,Ha];by_cases h:m=0
  ·subst h;rw[AG rfl,UJ,OC,DN];congr 1;grind
  ·rw[AB h,DN]
theorem bM:∀n<5,∀m<6,∀b<4,0<b->(En n m b).2<=2^aD n/\0<=(En n m b).1/\(En n m b).1<=(En n m b).2:=by decide+kernel
theorem xF{b n m:Nat}(hb:0<b)(MP:b<=3)(hn:n<=4)(hm:m<=5):∃z,0<z/\z<=2^aD n/\Bd z 0 (lE b n m):=by
 obtain⟨h1,h2,h3⟩:=bM n () m () b () hb;rw[DR hb] at h1 h2 h3;have e1:(q (lE b n m)).2=(lE b n m).den:=rfl;have e2:(q (lE b n m)).1=(lE b n m).num:=rfl;rw[e1] at h1 h3;rw[e2] at h2 h3;generalize lE b n m=r at*
 have hd:=Bq r;have hp:=BO r.den_pos;have en:=BW r;refine⟨r.den,r.den_pos,h1,⟨r.num,en.symm⟩,?_,?_⟩
 ·have:0<=r:=lj.mp h2;have e:((2^0:Nat):Rat)=1:=rfl;rw[e];grind
 ·have h4:(r.num:Rat)<=(r.den:Rat):=by exact_mod_cast h3
  have e:((2^0:Nat):Rat)=1:=rfl;rw[e];have h6:=eY r;rw[←h6,FK];have h5:=Ov h4 (Gx (Nv.mpr hp));rw[Rat.mul_inv_cancel _ hd] at h5;exact h5
end
section
open Kp317 (choose heavy)
open Kp318 (fair total with_ without replyUp size)
theorem G':∀n<5,∀m<6,∀b<10,total (fair n m b)=heavy n m b/\total (with_ (fair n m b) 0)=(if n=0\/m=0 then 0 else heavy (n - 1) (m - 1) b):=by decide+kernel
theorem pG:∀n<5,∀m<5,∀s<2^n,∀b<10,total ((fair n m b).filter λp=>p.set==s)=(if size n s<=m then b^(m - size n s) else 0):=by decide+kernel
theorem X7:∀n<5,∀m<n+1,∀k<7,∀b<9,replyUp (b+1) n 0 (fair n m (b+1)) k=(choose n (m+1):Int) - choose (n - k) (m+1):=by decide+kernel
theorem bO{n m k b:Nat}(hn:n<=4)(hm:m<=n)(hk:k<=6)(hb:0<b)(S6:b<=9):replyUp b n 0 (fair n m b) k=(choose n (m+1):Int) - choose (n - k) (m+1):=by
 obtain⟨c,rfl⟩:∃c,b=c+1:=⟨b - 1,()⟩;exact X7 n () m () k () c ()
theorem bP{n m k b:Nat}(hn:n<=4)(hm:m<=n)(hk:k<=6)(hb:0<b)(S6:b<=9):((replyUp b n 0 (fair n m b) k:Int):Rat) / ((total (fair n m b):Nat):Rat)=wE b n m k:=by
 rw[bO hn hm hk hb S6,(G' n () m () b ()).1];unfold wE;push_cast;rfl
def IX(b:Nat):Nat->Nat->List Al->Nat->Int×Int
 |0,_,_,_=>(0,0)
 |f+1,t,l,k=>if k=0\/l= [] then(0,0) else
  let r:=IX b f (t+1) (without l t) (k - 1)
  let d:Int×Int:=((total (without l t):Int)+r.1,(total (with_ l t):Int)+r.2)
  let x:=IX b f (t+1) (with_ l t) k
  let y:=IX b f (t+1) (without l t) k
  let v:Int×Int:=(x.1+y.1,x.2+y.2)
  if d.1 - b*d.2<v.1 - b*v.2 then v else d
def JH(b:Nat)(o:Int×Int):Int:=o.1 - b*o.2
theorem RT(b:Nat):∀(f t:Nat) (l:List Al),replyUp b f t l 0=0
 |0,_,_=>rfl
 |f+1,t,l=>by
  show(if l.isEmpty=true then(0:Int) else if 0=0 then replyUp b f (t+1) (with_ l t) 0+replyUp b f (t+1) (without l t) 0 else _)=0;rw[RT b f,RT b f];split <;> rfl
theorem iM(b:Nat)(f t k:Nat):replyUp b f t [] k=0:=by cases f <;> rfl
def PF(b f t:Nat)(l:List Al)(k:Nat):Int×Int:=((total (without l t):Int)+(IX b f (t+1) (without l t) (k - 1)).1,(total (with_ l t):Int)+(IX b f (t+1) (without l t) (k - 1)).2)
def PH(b f t:Nat)(l:List Al)(k:Nat):Int×Int:=((IX b f (t+1) (with_ l t) k).1+(IX b f (t+1) (without l t) k).1,(IX b f (t+1) (with_ l t) k).2+(IX b f (t+1) (without l t) k).2)
theorem JI(b f t:Nat)(l:List Al)(k:Nat):IX b (f+1) t l k=if k=0\/l= [] then(0,0) else if JH b (PF b f t l k)<JH b (PH b f t l k) then PH b f t l k else PF b f t l k:=rfl
theorem HA(b:Nat):∀(f t:Nat) (l:List Al) (k:Nat),JH b (IX b f t l k)=replyUp b f t l k
 |0,_,_,_=>by show(0:Int) - b*0=0;omega
 |f+1,t,l,k=>by
  rw[JI];by_cases h:k=0\/l= []
  ·rw[AG h];have e:JH b (0,0)=0:=by show(0:Int) - b*0=0;omega
   rw[e];rcases h with h|h
   ·rw[h,RT]
   ·rw[h,iM]
  rw[AB h];have hk:¬k=0:=λz=>h (.inl z);have hl:¬l.isEmpty=true:=λz=>h (.inr (Qa.mp z));have e1:=HA b f (t+1) (without l t) (k - 1);have e2:=HA b f (t+1) (with_ l t) k;have e3:=HA b f (t+1) (without l t) k;have eD:JH b (PF b f t l k)=(total (without l t):Int) - b*total (with_ l t)+replyUp b f (t+1) (without l t) (k - 1):=by
   rw[←e1];unfold JH PF;grind
  have eW:JH b (PH b f t l k)=replyUp b f (t+1) (with_ l t) k+replyUp b f (t+1) (without l t) k:=by
   rw[←e2,←e3];unfold JH PH;grind
  show _=(if l.isEmpty=true then(0:Int) else if k=0 then _ else max (replyUp b f (t+1) (with_ l t) k+replyUp b f (t+1) (without l t) k) ((total (without l t):Int) - b*total (with_ l t)+replyUp b f (t+1) (without l t) (k - 1)));rw[AB hl,AB hk,←eD,←eW];split
  ·omega
  ·omega
theorem X8{b n t:Nat}(l:List Al)(k:Nat):JH b (PF b (n - (t+1)) t l k)=Iu b n t l k:=by
 unfold Iu;rw[←HA b _ (t+1) (without l t) (k - 1)];unfold JH PF;grind
theorem X9{b n t:Nat}(l:List Al)(k:Nat):JH b (PH b (n - (t+1)) t l k)=Iq b n t l k:=by
 unfold Iq;rw[←HA b _ (t+1) (with_ l t) k,←HA b _ (t+1) (without l t) k];unfold JH PH;grind
theorem GP(b n:Nat):∀(f t:Nat) (l:List Al) (k:Nat),n=t+f->IX b f t l k=(((HQ b n f t l k).2:Int),((HQ b n f t l k).1:Int))
 |0,_,_,_,_=>rfl
 |f+1,t,l,k,h=>by
  rw[JI];have ef:f=n - (t+1):=by omega
  have i1:=GP b n f (t+1) (without l t) (k - 1) ();have i2:=GP b n f (t+1) (with_ l t) k ();have i3:=GP b n f (t+1) (without l t) k ();show _=(((if l.isEmpty=true\/k=0 then((0,0):Nat×Nat) else if Iq b n t l k<=Iu b n t l k then
   ((HQ b n f (t+1) (without l t) (k - 1)).1+total (with_ l t),(HQ b n f (t+1) (without l t) (k - 1)).2+total (without l t))
   else((HQ b n f (t+1) (with_ l t) k).1+(HQ b n f (t+1) (without l t) k).1,(HQ b n f (t+1) (with_ l t) k).2+(HQ b n f (t+1) (without l t) k).2)).2:Int),
   ((if l.isEmpty=true\/k=0 then((0,0):Nat×Nat) else if Iq b n t l k<=Iu b n t l k then
   ((HQ b n f (t+1) (without l t) (k - 1)).1+total (with_ l t),(HQ b n f (t+1) (without l t) (k - 1)).2+total (without l t))
   else((HQ b n f (t+1) (with_ l t) k).1+(HQ b n f (t+1) (without l t) k).1,(HQ b n f (t+1) (with_ l t) k).2+(HQ b n f (t+1) (without l t) k).2)).1:Int))
  by_cases hc:k=0\/l= []
  ·have hc':l.isEmpty=true\/k=0:=hc.elim .inr λz=> .inl (Qa.mpr z);rw[AG hc,AG hc'];rfl
  have hc':¬(l.isEmpty=true\/k=0):=λz=>hc (z.elim (λy=> .inr (Qa.mp y)) .inl);rw[AB hc,AB hc'];have eD:=X8 (b:=b) (n:=n) (t:=t) l k;have eW:=X9 (b:=b) (n:=n) (t:=t) l k;rw[←ef] at eD eW;rw[eD,eW];by_cases hd:Iq b n t l k<=Iu b n t l k
  ·rw[AB (),AG hd];unfold PF;rw[i1];refine L6 ?_ ?_
   ·show _=((_+_:Nat):Int);push_cast;show(total (without l t):Int)+_=_;omega
   ·show _=((_+_:Nat):Int);push_cast;show(total (with_ l t):Int)+_=_;omega
  ·rw[AG (),AB hd];unfold PH;rw[i2,i3];refine L6 ?_ ?_
   ·show _=((_+_:Nat):Int);push_cast;rfl
   ·show _=((_+_:Nat):Int);push_cast;rfl
end
open PySem PySem.Spec PyProof.Rows L2
variable{P:Program}{w:World}{K:Ab}{mg:Str->Option Value}{base:Heap}
abbrev B6:List Str:=["first","second"]
abbrev RU:List Str:=["above","below"]
abbrev iO:List Str:=["number"]
abbrev iP:List Str:=["chance","first","second"]
abbrev iQ:List Str:=["ratios"]
abbrev IE:List Str:=["self","days","fine"]
abbrev EH:List Str:=["self","t","looks","misdeeds"]
abbrev BX:List Str:=["self"]
abbrev Vx:List Str:=["chances","state","chance"]
abbrev X_:List Str:=["outlook","looks","misdeeds"]
abbrev RV:List Str:=["is_over","looks","misdeeds","looked","dared"]
abbrev HB:List Str:=["amount"]
abbrev Cg:List Str:=["season"]
abbrev CM:List Str:=["whole","amount"]
abbrev Ae:List Str:=["whole"]
abbrev RW:List Str:=["season","t","amount"]
abbrev PJ:List Str:=["whole","t","amount"]
abbrev pH:List Str:=["whole","amount","season","was"]
abbrev UK:List Str:=["whole","season"]
abbrev PK:List Str:=["season","t","looks_left","misdeeds_left"]
abbrev pI:List Str:=["whole","t","looks_left","misdeeds_left","refusal"]
abbrev Jq:List Str:=["whole","t","looks_left","misdeeds_left"]
abbrev Jr:List Str:=["whole","t"]
abbrev PM:List Str:=["chosen","t"]
abbrev UL:List Str:=["chosen","days"]
abbrev UM:List Str:=["chosen"]
abbrev UN:List Str:=["fine","times"]
abbrev Js:List Str:=["days","looks","fine"]
abbrev UO:List Str:=["plans"]
abbrev UP:List Str:=["some","plans"]
abbrev LX:List Str:=["plans","t"]
abbrev PN:List Str:=["self","outcome"]
abbrev LY:List Str:=["self","plans","t","misdeeds"]
abbrev LZ:List Str:=["days","fine"]
abbrev UQ:List Str:=["days","looks","misdeeds","fine"]
abbrev La:List Str:=["outlook","looks","misdeeds","chance"]
abbrev UR:List Str:=["days","looks","fine","passed"]
abbrev X':List Str:=["days","looks","fine","t"]
abbrev PQ:List Str:=["alike","fine"]
abbrev Fw:List Str:=["alike"]
abbrev RX:List Str:=["parts"]
abbrev RY:List Str:=["alike","chances","left_over"]
abbrev fO:List Str:=["whole","look","dare"]
abbrev pJ:List Str:=["whole","alike"]
abbrev YA:List Str:=["whole","days","looks","misdeeds"]
abbrev YB:List Str:=["whole","fine"]
abbrev xG:List Str:=["whole","chances","alike","refusal","outlook"]
abbrev PR:List Str:=["whole","chances"]
abbrev GG:List Str:=["whole","looks"]
abbrev PU:List Str:=["whole","parts"]
abbrev Ci:List Str:=["table"]
abbrev US:List Str:=["table","looks"]
abbrev fQ:List Str:=["whole","chosen","amount"]
abbrev fR:List Str:=["whole","i"]
abbrev fU:List Str:=["whole","i","amount"]
abbrev xH:List Str:=["whole","amount","table","was"]
abbrev xI:List Str:=["whole","looks","table","plans_drawn"]
abbrev fV:List Str:=["whole","t","chosen","misdeeds"]
abbrev pK:List Str:=["whole","table"]
abbrev fW:List Str:=["whole","looks","chosen"]
abbrev IY:List Str:=["self","looks","misdeeds","fine"]
abbrev RZ:List Str:=["self","days","looks","misdeeds","fine"]
abbrev Ra:List Str:=["self","days","misdeeds","fine"]
abbrev UT:List Str:=["self","before"]
abbrev IZ:List Str:=["season","looked","dared"]
abbrev YC:List Str:=["whole","looks","misdeeds","fine"]
abbrev PV:List Str:=["whole","looked","dared"]
abbrev Lb:List Str:=["whole","number","given"]
abbrev UU:List Str:=["calls"]
section
structure MH(P:Program)(w:World)(K:Ab)(mg:Str->Option Value)(base:Heap)(k:Nat)(x:Str)(ps:List Str)(sp:Sp):Prop where
 ex:∃f fd,mg x=some (.ref f)/\GJ P w K mg base eJ k f fd ps sp/\Binds K fd ps []/\J8 K (.ref f)=true
structure Def(K:Ab)(mg:Str->Option Value)(x:Str)(st:Stmt)(ps:List Str):Prop where
 ex:∃f fd,mg x=some (.ref f)/\uR K x x st f fd/\Binds K fd ps []
section
theorem Def.has{x:Str}{st:Stmt}{N ps:List Str}{k:Nat}{sp:Sp}(D:Def K mg x st ps)(S:HU N ps (BE st))(len:∀vs H Q E,sp vs H Q E->vs.length=ps.length)
  (Q8:∀(f:Addr) (CL:Value) (A:Around) (outer:List Env) (s:Shared) (H:Hp) (vs:List V) (Q:VK) (E:XK),DD k (A.deeper (envOfC x (BE st) s.heap.objs.size f CL))->sp vs H Q E->
   ∃t,XU (Su eJ P w K mg base N x (BE st) f CL A outer s H E).wj (FV st) t/\t {nx:=λ_ H'=>Q .Dg H',rt:=Q} (start N vs) H):MH P w K mg base (k+1) x ps sp:=by
 obtain⟨f,fd,m,F,b⟩:=D.ex;exact⟨f,fd,m,F.ok S len λCL A outer s H vs Q E hr h=>Q8 f CL A outer s H vs Q E hr h,b,F.kp⟩
theorem MH.mono{j k:Nat}{x:Str}{ps:List Str}{sp:Sp}(h:MH P w K mg base j x ps sp)(hj:j<=k):MH P w K mg base k x ps sp:=
 let⟨f,fd,m,F,b,kp⟩:=h.ex;⟨f,fd,m,F.mono hj,b,kp⟩
end
section
variable{X:Cx}{k j:Nat}{x:Str}{ps:List Str}{sp:Sp}{e:Expr}{es:List Expr}{t:TA}{p pos:Pos}
theorem AV(h:MH X.prog X.w X.K X.mg X.base k x ps sp)(hr:DD j X.A)(ha:PA X (e::es) t)(hj:k<=j:=by decide)(hg:Gl X x:=by rfl)(a0:(x==("__debug__":Str))=false:=by decide)
  (he:starEach (e::es) X.env=(false,eval e X.env)::starEach es X.env:=by rfl) (Dn:(backTo pos (starEach es X.env)).any (·.1)=false:=by rfl):
  PE X (.Call (.Name x p) (e::es) [] pos) (Jn sp [] E0 t):=
 let⟨_,_,m,F,b,kp⟩:=h.ex
 t6 F (hr.mono hj) hg m kp b .nil O_ ha a0 he Dn
end
theorem fX{k:Int}{n:Nat}(h:k.natAbs<2^n):VP k<=n:=by
 unfold VP;split
 ·exact BR _
 ·rename_i hk;have h0:k.natAbs≠0:=by
   intro z;apply hk;have:k=0:=by omega
   rw[this];rfl
  have:=(kd h0).mpr h;omega
def ADA(i j:Int):Prop:=VP i<=2^20/\VP j<=2^20
def ADB(_i j:Int):Prop:=0<j/\j.natAbs.log2<9000
section
variable{X:Cx}
theorem ES:LG X (binaryOp .Mult) (rI ADA λi j=> .int (i*j)):=zQ λ_ _ _ _ _ _ _ hc q=>mul_int q (IntMulOk.of_bits hc.1 hc.2)
theorem YD:LG X (binaryOp .FloorDiv) (rI ADB λi j=> .int (i / j)):=zQ λi j _ _ _ _ _ hc q=>by
 have h1:(0:Int)<j:=hc.1;exact floordiv_int () (by rw[kz i ()];exact q) (.inl (PyProof.noPylong_of_log2 hc.2))
end
inductive A8(K:Ab)(H:Hp)(v:V)(r:Rat):Prop
 |mk (a:_):v= .ref a->Bi K H a [.int r.num,.int (r.den:Nat)]->A8 K H v r
theorem Bi.same{K:Ab}{H H':Hp}{a:Addr}{xs:List V}(h:Bi K H a xs)(s:Ag H H'):Bi K H' a xs:=by
 rcases h with h|h
 ·refine .inl ?_;rcases h with h|⟨o,h⟩
  ·exact .inl (s _ _ h)
  ·exact .inr ⟨o,s _ _ h⟩
 ·exact .inr h
theorem A8.same{K:Ab}{H H':Hp}{v:V}{r:Rat}(h:A8 K H v r)(s:Ag H H'):A8 K H' v r:=
 let⟨a,e,q⟩:=h;⟨a,e,Bi.same q s⟩
def Ok(r:Rat):Prop:=r.num.natAbs<2^4000/\r.den<2^4000
theorem AX{H:Hp}{p:Addr}(h:H p=none)(o:HO):Ag H (upd H p o):=λb u q=>by rw[AS (AQ q h)];exact q
section
variable{X:Cx}{a:Expr}{ta:TE}{pos pos':Pos}{j:Nat}
inductive rQ0(K:Ab):R2
 |mk (r:_):A8 K H x r->y= .int 0->Q (.int r.num) H->rQ0 K x y H Q
inductive rQ1(K:Ab):R2
 |mk (r:_):A8 K H x r->y= .int 1->Q (.int (r.den:Nat)) H->rQ1 K x y H Q
theorem ADC:IxR X (rQ0 X.K):=λvalue slice pins s σ H x y v u Q I rx ry h hs=>by
 obtain⟨r,⟨p,rfl,hq⟩,rfl,k⟩:=h;exact BV value slice pins s σ H _ _ v u Q I rx ry ⟨p,_,0,_,rfl,rfl,hq,rfl,k⟩ hs
theorem ADD:IxR X (rQ1 X.K):=λvalue slice pins s σ H x y v u Q I rx ry h hs=>by
 obtain⟨r,⟨p,rfl,hq⟩,rfl,k⟩:=h;exact BV value slice pins s σ H _ _ v u Q I rx ry ⟨p,_,1,_,rfl,rfl,hq,rfl,k⟩ hs
theorem tH(ha:PE X a ta):PE X (.Subscript a (.Constant (.int 0) j pos') pos) (Pj (rQ0 X.K) ta (tC (.int 0))):=BM ADC ha AU (λ_ _=>rfl)
theorem fY(ha:PE X a ta):PE X (.Subscript a (.Constant (.int 1) j pos') pos) (Pj (rQ1 X.K) ta (tC (.int 1))):=BM ADD ha AU (λ_ _=>rfl)
inductive B'(mg:Str->Option Value)(x:Str)(i:Int):Prop
 |mk (t:_):mg x=some (.int i t)->B' mg x i
theorem BD{x:Str}{i:Int}(h:B' X.mg x i)(hg:Gl X x:=by rfl)(hd:(x==("__debug__":Str))=false:=by decide):PE X (.Name x pos) (tC (.int i)):=
 let⟨t,m⟩:=h;JB hg m ⟨t,rfl⟩ hd
inductive GQ(K:Ab)(mg:Str->Option Value)(x:Str)(r:Rat):Prop
 |mk (a:_):mg x=some (.ref a)->(∀H,Bi K H a [.int r.num,.int (r.den:Nat)])->GQ K mg x r
def tGQ(K:Ab)(r:Rat):TE:=λ_ H Q=>∀v,(∀H',A8 K H' v r)->Q v H
theorem Sm{x:Str}{r:Rat}(h:GQ X.K X.mg x r)(hg:Gl X x:=by rfl)(hd:(x==("__debug__":Str))=false:=by decide):PE X (.Name x pos) (tGQ X.K r):=by
 obtain⟨a,m,q⟩:=h;intro pins s σ H Q I k;exact JB (v:= .ref a) hg m rfl hd pins s σ H Q I (k _ λH'=>⟨a,rfl,q H'⟩)
end
end
section
def top(i:Nat):Stmt:=mX.main.body.getD i (.Pass ⟨0,0,0,0⟩)
abbrev FS(s:Stmt)(a b:List Str):=HU a b (BE s)
abbrev Di:=top 3
theorem Hb:FS Di ["first","second","rest"] B6:=nofun
abbrev P9:=top 4
theorem fZ:FS P9 ["above","below","shared"] RU:=nofun
abbrev GR:=top 5
theorem Vy:FS GR iO iO:=nofun
abbrev Vz:=top 6
theorem AAG:FS Vz B6 B6:=nofun
abbrev P_:=top 7
theorem uc:FS P_ B6 B6:=nofun
abbrev P':=top 8
theorem ud:FS P' B6 B6:=nofun
abbrev K1:=top 9
theorem iT:FS K1 B6 B6:=nofun
abbrev K2:=top 10
theorem iU:FS K2 B6 B6:=nofun
abbrev K3:=top 11
theorem iV:FS K3 B6 B6:=nofun
abbrev Ml:=top 12
theorem pL:FS Ml B6 B6:=nofun
abbrev QA:=top 13
theorem ue:FS QA iP iP:=nofun
abbrev FW:=top 14
theorem Lc:FS FW ["ratios","numbers","each"] iQ:=nofun
abbrev DS:=inClass (top 16) 0
theorem MJ:FS DS IE IE:=nofun
abbrev DY:=inClass (top 16) 1
theorem Jt:FS DY ["self","t","looks","misdeeds","state"] EH:=nofun
abbrev CQ:=inClass (top 16) 2
theorem Ia:FS CQ ["self","t","looks","misdeeds","chance"] EH:=nofun
abbrev Dr:=inClass (top 16) 3
theorem Rb:FS Dr BX BX:=nofun
abbrev DH:=inClass (top 16) 4
theorem OK:FS DH EH EH:=nofun
abbrev DI:=inClass (top 16) 5
theorem OM:FS DI EH EH:=nofun
abbrev Cr:=inClass (top 16) 6
theorem Mm:FS Cr EH EH:=nofun
abbrev Ds:=inClass (top 16) 7
theorem Rc:FS Ds EH EH:=nofun
abbrev Bm:=inClass (top 16) 8
theorem J0:FS Bm EH EH:=nofun
abbrev Bn:=inClass (top 16) 9
theorem FG:FS Bn ["self","t","looks","misdeeds","got_unlooked","lost_looked"] EH:=nofun
abbrev Bo:=inClass (top 16) 10
theorem FH:FS Bo ["self","t","looks","misdeeds","look_wasted","look_spared"] EH:=nofun
abbrev Es:=top 17
theorem Mn:FS Es Vx Vx:=nofun
abbrev Et:=top 18
theorem Mo:FS Et ["outlook","looks","misdeeds","caught","brought","chances","t","brings","later","state","chance","looks_left","misdeeds_left","looking","daring","looked_at","not_looked_at","waiting","unseen"] X_:=nofun
abbrev Eu:=top 26
theorem Rf:FS Eu RV RV:=nofun
abbrev K4:=top 32
theorem iW:FS K4 HB HB:=nofun
abbrev D6:=top 33
theorem ON:FS D6 Cg Cg:=nofun
abbrev Ew:=top 34
theorem Rg:FS Ew Cg Cg:=nofun
abbrev ff:=top 35
theorem xJ:FS ff ["whole","amount","days"] CM:=nofun
abbrev V0:=top 36
theorem pM:FS V0 ["whole","days"] Ae:=nofun
abbrev D7:=top 37
theorem OO:FS D7 RW RW:=nofun
abbrev Mp:=top 38
theorem YE:FS Mp ["whole","t","amount","season","refusal","was"] PJ:=nofun
abbrev QB:=top 39
theorem fg:FS QB pH CM:=nofun
abbrev JJ:=top 40
theorem Rh:FS JJ pH CM:=nofun
abbrev V1:=top 41
theorem pO:FS V1 pH CM:=nofun
abbrev QC:=top 42
theorem uf:FS QC Ae Ae:=nofun
abbrev V2:=top 43
theorem pP:FS V2 UK Ae:=nofun
abbrev V3:=top 44
theorem pQ:FS V3 UK Ae:=nofun
abbrev Ex:=top 45
theorem Ri:FS Ex PK PK:=nofun
abbrev JK:=top 46
theorem Rj:FS JK pI Jq:=nofun
abbrev JL:=top 47
theorem Rk:FS JL pI Jq:=nofun
abbrev JM:=top 48
theorem Rl:FS JM pI Jq:=nofun
abbrev V4:=top 49
theorem pS:FS V4 UK Ae:=nofun
abbrev Mq:=top 50
theorem YF:FS Mq UK Ae:=nofun
abbrev K5:=top 51
theorem UW:FS K5 UK Ae:=nofun
abbrev JN:=top 52
theorem Rm:FS JN ["whole","t","amount","refusal","supposed"] PJ:=nofun
abbrev K6:=top 53
theorem UX:FS K6 ["whole","amount","supposed"] CM:=nofun
abbrev Mr:=top 54
theorem YG:FS Mr ["whole","amount","supposed"] CM:=nofun
abbrev K7:=top 55
theorem UY:FS K7 ["whole","t","supposed"] Jr:=nofun
abbrev JO:=top 56
theorem Rn:FS JO ["whole","season","outlook","t"] Ae:=nofun
abbrev V5:=top 57
theorem pT:FS V5 UK Ae:=nofun
abbrev K8:=top 60
theorem iX:FS K8 PM PM:=nofun
abbrev Hc:=top 61
theorem YH:FS Hc UL UL:=nofun
abbrev V6:=top 62
theorem pV:FS V6 ["chosen","count"] UM:=nofun
abbrev GS:=top 63
theorem Ms:FS GS ["fine","times","product","again"] UN:=nofun
abbrev Hd:=top 64
theorem PX:FS Hd ["days","looks","fine","chosen"] Js:=nofun
abbrev FX:=top 65
theorem Ld:FS FX ["plans","each"] UO:=nofun
abbrev QD:=top 66
theorem ug:FS QD UP UP:=nofun
abbrev GU:=top 67
theorem Mt:FS GU ["plans","t","each"] LX:=nofun
abbrev D8:=top 68
theorem Ib:FS D8 ["plans","t","each"] LX:=nofun
abbrev CB:=inClass (top 69) 0
theorem LJ:FS CB IE IE:=nofun
abbrev Dt:=inClass (top 69) 1
theorem Ro:FS Dt PN PN:=nofun
abbrev DZ:=inClass (top 69) 2
theorem Ju:FS DZ ["self","plans","t","misdeeds","daring","waiting"] LY:=nofun
abbrev CC:=inClass (top 69) 3
theorem GH:FS CC ["self","plans","t","misdeeds","unlooked","behind"] LY:=nofun
abbrev Bz:=inClass (top 69) 4
theorem Fy:FS Bz ["self","plans","t","misdeeds","looked","unlooked"] LY:=nofun
abbrev DE:=inClass (top 69) 5
theorem LK:FS DE LY LY:=nofun
abbrev Ey:=top 71
theorem Rp:FS Ey LZ LZ:=nofun
abbrev GV:=top 72
theorem V7:FS GV UQ UQ:=nofun
abbrev He:=top 73
theorem PY:FS He ["days","looks","fine","plans"] Js:=nofun
abbrev CF:=inClass (top 74) 0
theorem JP:FS CF IE IE:=nofun
abbrev Bj:=inClass (top 74) 1
theorem HG:FS Bj EH EH:=nofun
abbrev Bk:=inClass (top 74) 2
theorem HH:FS Bk EH EH:=nofun
abbrev D9:=top 75
theorem Ic:FS D9 ["outlook","looks","misdeeds","chance","daring","waiting"] La:=nofun
abbrev D_:=top 76
theorem Ie:FS D_ ["outlook","looks","misdeeds","chance","unlooked"] La:=nofun
abbrev GW:=top 77
theorem Mu:FS GW ["days","looks","fine","passed","chances","t","later","left","chance","looking"] UR:=nofun
abbrev Hf:=top 78
theorem PZ:FS Hf ["days","looks","fine","t","together","left","chance"] X':=nofun
abbrev FY:=top 85
theorem S7:FS FY PQ PQ:=nofun
abbrev ET:=top 86
theorem Po:FS ET Fw Fw:=nofun
abbrev Hg:=top 87
theorem YI:FS Hg Fw Fw:=nofun
abbrev JQ:=top 88
theorem bQ:FS JQ RX RX:=nofun
abbrev D':=top 89
theorem OP:FS D' RY RY:=nofun
abbrev K9:=top 90
theorem UZ:FS K9 ["whole","look","dare","alike","refusal"] fO:=nofun
abbrev JR:=top 91
theorem bS:FS JR Ae Ae:=nofun
abbrev V8:=top 92
theorem pX:FS V8 pJ Ae:=nofun
abbrev Hi:=top 93
theorem YJ:FS Hi Ae Ae:=nofun
abbrev JS:=top 94
theorem Rq:FS JS pJ Ae:=nofun
abbrev JT:=top 95
theorem Rr:FS JT pJ Ae:=nofun
abbrev K_:=top 96
theorem iY:FS K_ YA YA:=nofun
abbrev GX:=top 97
theorem V9:FS GX YB YB:=nofun
abbrev Mv:=top 98
theorem YK:FS Mv xG PR:=nofun
abbrev Mw:=top 99
theorem YL:FS Mw xG PR:=nofun
abbrev GY:=top 100
theorem V_:FS GY Ae Ae:=nofun
abbrev V':=top 101
theorem AAH:FS V' Ae Ae:=nofun
abbrev Mx:=top 102
theorem YM:FS Mx ["whole","t","alike"] Jr:=nofun
abbrev QE:=top 103
theorem fh:FS QE ["whole","looks","alike","chances"] GG:=nofun
abbrev JU:=top 104
theorem Rt:FS JU ["whole","parts","alike","looks"] PU:=nofun
abbrev K':=top 105
theorem Ua:FS K' ["whole","parts","fine"] PU:=nofun
abbrev Hj:=top 112
theorem YN:FS Hj HB HB:=nofun
abbrev EA:=top 113
theorem OQ:FS EA Ci Ci:=nofun
abbrev FZ:=top 114
theorem S8:FS FZ Ci Ci:=nofun
abbrev Hk:=top 115
theorem YO:FS Hk Ci Ci:=nofun
abbrev Fd:=top 116
theorem Le:FS Fd ["table","looks","plans_drawn"] US:=nofun
abbrev GZ:=top 117
theorem My:FS GZ ["table","each"] Ci:=nofun
abbrev WA:=top 118
theorem pY:FS WA ["whole","chosen","amount","table"] fQ:=nofun
abbrev JV:=top 119
theorem Ru:FS JV ["whole","i","table"] fR:=nofun
abbrev Mz:=top 120
theorem YQ:FS Mz ["whole","i","amount","table","was"] fU:=nofun
abbrev Ez:=top 121
theorem Ki:FS Ez xH CM:=nofun
abbrev JW:=top 122
theorem Rv:FS JW xH CM:=nofun
abbrev WC:=top 123
theorem pZ:FS WC xI GG:=nofun
abbrev QF:=top 124
theorem uh:FS QF Ae Ae:=nofun
abbrev JX:=top 125
theorem Rw:FS JX ["whole","table","answerer","daring","waiting"] Ae:=nofun
abbrev WD:=top 126
theorem pb:FS WD ["whole","t","chosen","misdeeds","table","alike_so_far","each"] fV:=nofun
abbrev Ga:=top 127
theorem M0:FS Ga ["whole","t","table"] Jr:=nofun
abbrev Hl:=top 128
theorem Pa:FS Hl ["whole","table","looks","each"] Ae:=nofun
abbrev Hm:=top 129
theorem YR:FS Hm Ae Ae:=nofun
abbrev Gb:=top 130
theorem M1:FS Gb ["whole","looks","table"] GG:=nofun
abbrev WE:=top 131
theorem pd:FS WE pK Ae:=nofun
abbrev Gd:=top 132
theorem M3:FS Gd ["whole","looks","chosen","table","plans_drawn","each"] fW:=nofun
abbrev Ge:=top 133
theorem M4:FS Ge xI GG:=nofun
abbrev Fe:=top 134
theorem Lf:FS Fe pK Ae:=nofun
abbrev Hn:=top 135
theorem Pb:FS Hn pK Ae:=nofun
abbrev JY:=top 136
theorem Rx:FS JY ["whole","table","each"] Ae:=nofun
abbrev QG:=top 137
theorem fi:FS QG ["whole","table","numbers","each"] Ae:=nofun
abbrev Dj:=inClass (top 141) 0
theorem M5:FS Dj IY IY:=nofun
abbrev E6:=inClass (top 141) 1
theorem Ry:FS E6 BX BX:=nofun
abbrev EU:=inClass (top 141) 2
theorem Jv:FS EU ["self","other"] BX:=nofun
abbrev EB:=inClass (top 142) 0
theorem OR:FS EB RZ RZ:=nofun
abbrev Ff:=inClass (top 142) 1
theorem S9:FS Ff BX BX:=nofun
abbrev E7:=inClass (top 142) 2
theorem Kj:FS E7 ["self","other"] BX:=nofun
abbrev EC:=inClass (top 143) 0
theorem OS:FS EC Ra Ra:=nofun
abbrev Fg:=inClass (top 143) 1
theorem S_:FS Fg BX BX:=nofun
abbrev E8:=inClass (top 143) 2
theorem Kk:FS E8 ["self","other"] BX:=nofun
abbrev ED:=inClass (top 144) 0
theorem OT:FS ED BX BX:=nofun
abbrev Fh:=inClass (top 144) 1
theorem S':FS Fh IY IY:=nofun
abbrev Fi:=inClass (top 144) 2
theorem TF:FS Fi BX BX:=nofun
abbrev B8:=inClass (top 144) 3
theorem Eg:FS B8 ["self","before","part"] UT:=nofun
abbrev Dk:=inClass (top 144) 4
theorem Ho:FS Dk UT BX:=nofun
abbrev LB:=top 146
theorem iZ:FS LB Cg Cg:=nofun
abbrev Fj:=top 147
theorem TH:FS Fj Cg Cg:=nofun
abbrev Cb:=top 148
theorem J1:FS Cb IZ IZ:=nofun
abbrev JZ:=top 149
theorem Rz:FS JZ ["season","looked","dared","amount"] IZ:=nofun
abbrev QH:=top 150
theorem ui:FS QH YC YC:=nofun
abbrev WG:=top 151
theorem ph:FS WG ["whole","looked","dared","season","refusal"] PV:=nofun
abbrev WH:=top 152
theorem AAI:FS WH Ae Ae:=nofun
abbrev Ja:=top 153
theorem R0:FS Ja ["whole","looked","dared","refusal","supposed"] PV:=nofun
abbrev WJ:=top 154
theorem pj:FS WJ ["whole","season","outlook","looking","daring"] Ae:=nofun
abbrev WK:=top 155
theorem AAJ:FS WK Ae Ae:=nofun
abbrev M6:=top 156
theorem YS:FS M6 ["whole","season","days"] Ae:=nofun
abbrev LD:=top 157
theorem Ub:FS LD ["whole","season","days"] Ae:=nofun
abbrev WL:=top 158
theorem AAK:FS WL Ae Ae:=nofun
abbrev WM:=top 159
theorem AAL:FS WM Ae Ae:=nofun
abbrev Fz:=top 165
theorem Pc:FS Fz ["whole","number","given","call"] Lb:=nofun
abbrev M7:=top 166
theorem YT:FS M7 ["whole","number","given","before","numbers"] Lb:=nofun
abbrev FR:=top 167
theorem Uc:FS FR ["calls","whole","all_numbers","place","number","behind","numbers"] UU:=nofun
end
section
inductive pq:Sp
 |mk (a b:Nat):vs= [.int (a:Int),.int (b:Int)]->Q (.int (F6 a b:Nat)) H->pq vs H Q DJ
theorem ADE(D:Def K mg "greatest_common" Di B6):MH P w K mg base 1 "greatest_common" B6 pq:=by
 refine D.has Hb (λvs H Q E h=> ?_) (λf CL A outer s H vs Q E hr h=> ?_)
 ·obtain⟨a,b,rfl,_⟩:=h;rfl
 obtain⟨a,b,rfl,k⟩:=h;have nd:=Hb.nd;refine⟨_,AF (MX HS (Af wo (pv 1) AU (Ai _))
  (AF (L7 (i:=2) nd rfl (BJ rfl) (Ay ng (pv 0) (pv 1)))
  (AF (L7 (i:=0) nd rfl (BJ rfl) (pv 1)) (AK (L7 (i:=1) nd rfl (BJ rfl) (pv 2))))))
  (AK (AO (pv 0))),?_⟩
 refine MZ (λσ H'=>∃(x y:Nat) (z:Option V),σ= [some (.int (x:Int)),some (.int (y:Int)),z]/\H'=H/\F6 x y=F6 a b)
  (λσ _=>match σ with| [_,some (.int y),_]=>y.toNat|_=>0) ⟨a,b,none,rfl,rfl,rfl⟩ ?_ ?_
 ·rintro σ H' ⟨x,y,z,rfl,rfl,e⟩;refine⟨_,AA,AA,_,AA,?_⟩;by_cases hy:y=0
  ·subst hy;have e1:decide (V.int ((0:Nat):Int)=V.int 0)=true:=AH rfl;rw[e1];refine A' ?_;refine⟨_,AA,?_⟩;rw[Nat.gcd_zero_right] at e;rw[e];exact k
  ·have e1:decide (V.int (y:Int)=V.int 0)=false:=AL (λz=>hy (by injection z with z;omega));rw[e1];refine Au ?_;refine⟨_,AA,_,AA,_,_,AA,AA,(by show(0:Int)<y;omega),_,AA,_,AA,⟨y,x%y,some (.int ((x:Int)%(y:Int))),?_,AA,?_⟩,?_⟩
   ·rw[←k7];rfl
   ·rw[←e,ka y,←Nat.gcd_rec,ka]
   ·show((x:Int)%(y:Int)).toNat< (y:Int).toNat;have:=Int.emod_lt_of_pos (x:Int) (show(0:Int)<y by omega);have:=Int.emod_nonneg (x:Int) (show(y:Int)≠0 by omega);omega
 ·intro σ H Q Q' h q;obtain⟨v,hv,hs,c,hc,q⟩:=q;exact⟨v,hv,hs,c,hc,h _ _ q⟩
theorem ia(a:Nat){b:Nat}(h:0<b):0<F6 a b:=Nat.gcd_pos_of_pos_right a h
theorem uj(a:Int){b:Nat}(hb:0<b):(((a:Rat) / (b:Rat)).num,((a:Rat) / (b:Rat)).den)=(a / ((F6 a.natAbs b:Nat):Int),b / F6 a.natAbs b):=by
 have h:=G0 a (b:=b) ();exact h.symm
inductive Gf(K:Ab):Sp
 |mk (a:Int) (b:Nat):vs= [.int a,.int (b:Int)]->0<b->b<2^9000->(∀v H',Ag H H'->A8 K H' v ((a:Rat) / (b:Rat))->Q v H')->Gf K vs H Q DJ
theorem uk(D:Def K mg "ratio" P9 RU)(G:MH P w K mg base 1 "greatest_common" B6 pq)(ab:mg "abs"=none):MH P w K mg base 2 "ratio" RU (Gf K):=by
 refine D.has fZ (λvs H Q E h=> ?_) (λf CL A outer s H vs Q E hr h=> ?_)
 ·obtain⟨a,b,rfl,_⟩:=h;rfl
 obtain⟨a,b,rfl,hb,hs,k⟩:=h;refine⟨_,AF (L7 (i:=2) fZ.nd rfl (BJ rfl) (AV G hr (A0 (Ax ny rfl ab yH (A0 (pv 0) By)) (A0 (pv 1) By))))
  (AK (AO (Dd (A0 (Ay YD (pv 0) (pv 2)) (A0 (Ay YD (pv 1) (pv 2)) By))))),?_⟩
 refine⟨_,AA,_,AA,_,AA,a.natAbs,b,?_,?_⟩
 ·show [V.int (if a<0 then -a else a),V.int (b:Int)]=_;have e:(if a<0 then -a else a)=((a.natAbs:Nat):Int):=by split <;> omega
  rw[e]
 have g0:=ia a.natAbs hb;have gl:F6 a.natAbs b<=b:=Nat.le_of_dvd hb (Nat.gcd_dvd_right _ _);have gd:ADB a ((F6 a.natAbs b:Nat):Int):=by
  refine⟨(),?_⟩;rw[Jl];exact(kd ()).mpr (DU gl hs)
 refine⟨_,AA,_,AA,_,_,AA,AA,gd,_,AA,_,AA,_,_,AA,AA,⟨gd.1,gd.2⟩,(by show 2<=sizeLine;decide),λp hp=> ?_⟩;refine k _ _ (AX hp _) ⟨p,rfl,Bi.of ?_⟩;rw[AJ];have e:=uj a hb;have e1:=congrArg KR e;have e2:=congrArg JA e;dsimp only at e1 e2;rw[e1,e2,k8]
inductive M8(K:Ab)(c:Rat->Rat->Prop)(g:Rat->Rat->Rat):Sp
 |mk (x y:V) (r s:Rat):vs= [x,y]->A8 K H x r->A8 K H y s->Ok r->Ok s->c r s->(∀v H',Ag H H'->A8 K H' v (g r s)->Q v H')->M8 K c g vs H Q DJ
theorem Pp{a b:Int}(ha:a.natAbs<2^4000)(hb:b.natAbs<2^4000):ADA a b:=⟨A6 (fX ha) (()),A6 (fX hb) (())⟩
theorem Jb{a b:Nat}(ha:a<2^4000)(hb:b<2^4000):a*b<2^9000:=by
 have h:a*b<2^4000*2^4000:=kY ha hb;rw[←GF] at h;exact Cm h (DM (()) (()))
theorem Ok.den{r:Rat}(h:Ok r):((r.den:Nat):Int).natAbs<2^4000:=by rw[Jl];exact h.2
theorem pw(r s:Rat):((r.num*((s.den:Nat):Int)+s.num*((r.den:Nat):Int):Int):Rat) / ((r.den*s.den:Nat):Rat)=r+s:=by
 have e1:=BW r;have e2:=BW s;have d1:=Bq r;have d2:=Bq s;push_cast;rw[e1,e2];grind
theorem ib(r s:Rat):((r.num*((s.den:Nat):Int) - s.num*((r.den:Nat):Int):Int):Rat) / ((r.den*s.den:Nat):Rat)=r - s:=by
 have e1:=BW r;have e2:=BW s;have d1:=Bq r;have d2:=Bq s;push_cast;rw[e1,e2];grind
theorem ic(r s:Rat):((r.num*s.num:Int):Rat) / ((r.den*s.den:Nat):Rat)=r*s:=by
 have e1:=BW r;have e2:=BW s;have d1:=Bq r;have d2:=Bq s;push_cast;rw[e1,e2];grind
theorem YU(r:Rat){s:Rat}(h:0<s):((r.num*((s.den:Nat):Int):Int):Rat) / ((r.den*s.num.natAbs:Nat):Rat)=r / s:=by
 have hs:=Kz h;have e1:=BW r;have e2:=BW s;have d1:=Bq r;have d2:=Bq s;have e3:((s.num.natAbs:Nat):Rat)=(s.num:Rat):=by
  have:((s.num.natAbs:Nat):Int)=s.num:=by omega
  exact_mod_cast congrArg (λz:Int=>(z:Rat)) this
 push_cast;rw[e3,e1,e2];grind
theorem AAM(D:Def K mg "plus" Vz B6)(R:MH P w K mg base 2 "ratio" RU (Gf K)):MH P w K mg base 3 "plus" B6 (M8 K (λ_ _=>True) (λr s=>r+s)):=by
 refine D.has AAG (λvs H Q E h=> ?_) (λf CL A outer st H vs Q E hr h=> ?_)
 ·obtain⟨x,y,r,s,rfl,_⟩:=h;rfl
 obtain⟨x,y,r,s,rfl,hx,hy,or,os,hc,k⟩:=h;refine⟨_,AK (AO (AV R hr (A0 (Ay EW (Ay ES (tH (pv 0)) (fY (pv 1))) (Ay ES (tH (pv 1)) (fY (pv 0)))) (A0 (Ay ES (fY (pv 0)) (fY (pv 1))) By)))),?_⟩;refine⟨_,AA,r,hx,AA,_,AA,s,hy,AA,_,_,AA,AA,Pp or.1 os.den,_,AA,s,hy,AA,_,AA,r,hx,AA,_,_,AA,AA,Pp os.1 or.den,_,_,AA,AA,_,AA,r,hx,AA,_,AA,s,hy,AA,_,_,AA,AA,Pp or.den os.den,r.num*((s.den:Nat):Int)+s.num*((r.den:Nat):Int),r.den*s.den,?_,Fq r.den_pos s.den_pos,Jb or.2 os.2,λv H' g q=> ?_⟩
 ·rw[Qm];rfl
 ·rw[pw] at q;exact k v H' g q
theorem um(D:Def K mg "minus" P_ B6)(R:MH P w K mg base 2 "ratio" RU (Gf K)):MH P w K mg base 3 "minus" B6 (M8 K (λ_ _=>True) (λr s=>r - s)):=by
 refine D.has uc (λvs H Q E h=> ?_) (λf CL A outer st H vs Q E hr h=> ?_)
 ·obtain⟨x,y,r,s,rfl,_⟩:=h;rfl
 obtain⟨x,y,r,s,rfl,hx,hy,or,os,hc,k⟩:=h;refine⟨_,AK (AO (AV R hr (A0 (Ay Er (Ay ES (tH (pv 0)) (fY (pv 1))) (Ay ES (tH (pv 1)) (fY (pv 0)))) (A0 (Ay ES (fY (pv 0)) (fY (pv 1))) By)))),?_⟩;refine⟨_,AA,r,hx,AA,_,AA,s,hy,AA,_,_,AA,AA,Pp or.1 os.den,_,AA,s,hy,AA,_,AA,r,hx,AA,_,_,AA,AA,Pp os.1 or.den,_,_,AA,AA,_,AA,r,hx,AA,_,AA,s,hy,AA,_,_,AA,AA,Pp or.den os.den,r.num*((s.den:Nat):Int) - s.num*((r.den:Nat):Int),r.den*s.den,?_,Fq r.den_pos s.den_pos,Jb or.2 os.2,λv H' g q=> ?_⟩
 ·rw[Qm];rfl
 ·rw[ib] at q;exact k v H' g q
theorem uo(D:Def K mg "times" P' B6)(R:MH P w K mg base 2 "ratio" RU (Gf K)):MH P w K mg base 3 "times" B6 (M8 K (λ_ _=>True) (λr s=>r*s)):=by
 refine D.has ud (λvs H Q E h=> ?_) (λf CL A outer st H vs Q E hr h=> ?_)
 ·obtain⟨x,y,r,s,rfl,_⟩:=h;rfl
 obtain⟨x,y,r,s,rfl,hx,hy,or,os,hc,k⟩:=h;refine⟨_,AK (AO (AV R hr (A0 (Ay ES (tH (pv 0)) (tH (pv 1))) (A0 (Ay ES (fY (pv 0)) (fY (pv 1))) By)))),?_⟩;refine⟨_,AA,r,hx,AA,_,AA,s,hy,AA,_,_,AA,AA,Pp or.1 os.1,_,AA,r,hx,AA,_,AA,s,hy,AA,_,_,AA,AA,Pp or.den os.den,r.num*s.num,r.den*s.den,?_,Fq r.den_pos s.den_pos,Jb or.2 os.2,λv H' g q=> ?_⟩
 ·rw[Qm];rfl
 ·rw[ic] at q;exact k v H' g q
theorem ie(D:Def K mg "divided" K1 B6)(R:MH P w K mg base 2 "ratio" RU (Gf K)):MH P w K mg base 3 "divided" B6 (M8 K (λ_ s=>0<s) (λr s=>r / s)):=by
 refine D.has iT (λvs H Q E h=> ?_) (λf CL A outer st H vs Q E hr h=> ?_)
 ·obtain⟨x,y,r,s,rfl,_⟩:=h;rfl
 obtain⟨x,y,r,s,rfl,hx,hy,or,os,hc,k⟩:=h;refine⟨_,AK (AO (AV R hr (A0 (Ay ES (tH (pv 0)) (fY (pv 1))) (A0 (Ay ES (fY (pv 0)) (tH (pv 1))) By)))),?_⟩;refine⟨_,AA,r,hx,AA,_,AA,s,hy,AA,_,_,AA,AA,Pp or.1 os.den,_,AA,r,hx,AA,_,AA,s,hy,AA,_,_,AA,AA,Pp or.den os.1,r.num*((s.den:Nat):Int),r.den*s.num.natAbs,?_,Fq r.den_pos (by have:=Kz hc;omega),Jb or.2 os.1,λv H' g q=> ?_⟩
 ·have e3:((s.num.natAbs:Nat):Int)=s.num:=by have:=Kz hc;omega
  rw[Qm,e3];rfl
 ·rw[YU r hc] at q;exact k v H' g q
inductive R1(K:Ab):Sp
 |mk (x y:V) (r s:Rat):vs= [x,y]->A8 K H x r->A8 K H y s->Ok r->Ok s->Q (.bl (decide (r<s))) H->R1 K vs H Q DJ
theorem ig(D:Def K mg "is_less" K2 B6):MH P w K mg base 1 "is_less" B6 (R1 K):=by
 refine D.has iU (λvs H Q E h=> ?_) (λf CL A outer st H vs Q E hr h=> ?_)
 ·obtain⟨x,y,r,s,rfl,_⟩:=h;rfl
 obtain⟨x,y,r,s,rfl,hx,hy,or,os,k⟩:=h;refine⟨_,AK (AO (Ma nq (Ay ES (tH (pv 0)) (fY (pv 1))) (Ay ES (tH (pv 1)) (fY (pv 0))) (Ai _))),?_⟩;refine⟨_,AA,r,hx,AA,_,AA,s,hy,AA,_,_,AA,AA,Pp or.1 os.den,_,AA,s,hy,AA,_,AA,r,hx,AA,_,_,AA,AA,Pp os.1 or.den,_,_,AA,AA,?_⟩;have e:decide (r.num*((s.den:Nat):Int)<s.num*((r.den:Nat):Int))=decide (r<s):=by
  congr 1;exact propext (VG r s).symm
 show Q (V.bl (decide (r.num*((s.den:Nat):Int)<s.num*((r.den:Nat):Int)))) H;rw[e];exact k
inductive WN(K:Ab):Sp
 |mk (i:Int):vs= [.int i]->(∀v H',Ag H H'->A8 K H' v (i:Rat)->Q v H')->WN K vs H Q DJ
theorem WO(D:Def K mg "from_whole" GR iO):MH P w K mg base 1 "from_whole" iO (WN K):=by
 refine D.has Vy (λvs H Q E h=> ?_) (λf CL A outer st H vs Q E hr h=> ?_)
 ·obtain⟨i,rfl,_⟩:=h;rfl
 obtain⟨i,rfl,k⟩:=h;refine⟨_,AK (AO (Dd (A0 (pv 0) (A0 AU By)))),?_⟩;refine⟨_,AA,(by show 2<=sizeLine;decide),λp hp=> ?_⟩;exact k _ _ (AX hp _) ⟨p,rfl,Bi.of AJ⟩
end
section
section
open PySem.AutoSeq1 (wpAny_loadPart')
open PySem.SeqAt PySem.MeetsSeq PySem.MeetsSeq2 PySem.MeetsSeq3
theorem bT(l:Addr)(items:Array Value)(n:Nat)(b:Addr)(R3:Array Value)(n2:Nat)(dd:Option Addr)(sl:Array (Option Value))(hs0:¬(!items.isEmpty && Tu (items.size+R3.size))=true)(Hq:items.size<=sizeLine)(Vf:items.size+R3.size<=sizeLine+1):
  Meets (Builtin.«list.extend» ⟨[.ref l,.ref b],[]⟩) (λ_ R s=>s.heap.get? l=some {cls:= .type "list",dict:=none,data:= .seq items n,slots:= #[]}/\s.heap.get? b=some {cls:= .type "tuple",dict:=dd,data:= .seq R3 n2,slots:=sl}/\R (.ok (.ret EV)) {s with heap:=s.heap.update l (N3 λx=>x++R3),toks:=s.toks}):=
 .of_wp λprog w A R s h=>by
  obtain⟨hp,g,d,tk,os⟩:=s;obtain⟨hl,hb,h⟩:=h;have f1:=AutoSeq1.idx_int;have f2:=AutoSeq1.sub_tuple_tuple;have f3:=AutoSeq1.sub_list_list;have f4:=AutoSeq1.sub_tuple_list;have f5:=AutoSeq1.sub_list_tuple;have hz':(items++R3).size<=sizeLine+1:=by rw[Array.size_append];exact Vf
  wp_walk using(wpAny_updateSeq hl rfl (hz:=Hq) (_hz':=hz')),wpAny_loadPart' hl,wpAny_loadPart' hb;exact⟨_,AA,h⟩
end
inductive xK(K:Ab):V->List V->Hp->VK->Prop
 |mk (l b xs zs:_):x= .ref l->vs= [.ref b]->H l=some (.lst xs)->Bi K H b zs->xs.length+zs.length<=sizeLine->Q .Dg (upd H l (.lst (xs++zs)))->xK K x vs H Q
theorem fj{X:Cx}:MtM X "list.extend" (xK X.K):=by
 intro pins s σ H x vs v us Q I rx rv h;obtain⟨l,b,xs,zs,rfl,rfl,hH,hB,hz,q⟩:=h;cases rx;obtain⟨u,rfl,ru⟩:=rv.one;cases ru;obtain⟨z,its,n,r,hl,e⟩:=I.Vl hH;obtain⟨Mb,r2,⟨o2,e2,c2,n2,d2⟩,z2⟩:=I.tuple hB;have Sl:=r2.length;have hsz:its.toArray.size+Mb.toArray.size<=sizeLine:=by rw[Br,Br];omega
 have Xg:¬(!its.toArray.isEmpty && Tu (its.toArray.size+Mb.toArray.size))=true:=by
  rw[RD hsz,kg];exact DA
 obtain⟨oc,od,AE5,Sk⟩:=o2;have c2':oc= .type "tuple":=c2;have d2':AE5= .seq Mb.toArray n2:=d2;subst c2';subst d2';refine call_meets Qo ⟨_,e,rfl⟩ lS (lQ _ _)
  (bT l its.toArray n b Mb.toArray n2 od Sk Xg (by rw[Br];omega) ()) ⟨e,e2,?_⟩
 refine⟨.Dg,_,I.oO (its':=its++Mb) hH e (by simp) (r.append r2) ?_,AA,q⟩;rw[CH];omega
def bX(K:Ab)(H:Hp)(vs:List V)(rs:List Rat):Prop:=Paired (λv r=>A8 K H v r) vs rs
def nums(rs:List Rat):List Int:=rs.flatMap λr=> [r.num,(r.den:Int)]
inductive WQ(K:Ab):Sp
 |mk (p:Addr) (xs:List V) (rs:List Rat):vs= [.ref p]->A_ K H p xs->bX K H xs rs->rs.length<=1000->(∀l H',Ag H H'->H l=none->H' l=some (.lst ((0::nums rs).map V.int))->Q (.ref l) H')->WQ K vs H Q DJ
theorem bX.len{H:Hp}{vs:List V}{rs:List Rat}(h:bX K H vs rs):vs.length=rs.length:=Paired.length h
theorem bX.get{H:Hp}:∀{vs:List V} {rs:List Rat} {i:Nat} {v:V},bX K H vs rs->vs[i]? =some v->∃r,rs[i]? =some r/\A8 K H v r/\rs.take (i+1)=rs.take i++ [r]
 |_,_,_,_,.nil,e=>by simp at e
 |_,_,0,_,.cons r _,e=>by simp at e;subst e;exact⟨_,AA,r,AA⟩
 |_,_,i+1,v,.cons _ t,e=>by
  obtain⟨u,h1,h2,h3⟩:=bX.get (i:=i) (v:=v) t (by simpa using e);refine⟨u,by simpa using h1,h2,?_⟩;rw[QX,h3];rfl
theorem px(rs:List Rat):(nums rs).length=2*rs.length:=by
 induction rs with
 |nil=>rfl
 |cons r t ih=>
  show([r.num,(r.den:Int)]++nums t).length=2*(t.length+1);rw[CH,ih];show 2+_=_;omega
theorem ij(rs:List Rat)(r:Rat):nums (rs++ [r])=nums rs++ [r.num,(r.den:Int)]:=by
 unfold nums;rw[kH];rfl
theorem AAN(D:Def K mg "told_ratios" FW iQ):MH P w K mg base 1 "told_ratios" iQ (WQ K):=by
 refine D.has Lc (λvs H Q E h=> ?_) (λf CL A outer st H vs Q E hr h=> ?_)
 ·obtain⟨p,xs,rs,rfl,_⟩:=h;rfl
 obtain⟨p,xs,rs,rfl,hp,hq,hlen,k⟩:=h;have nd:=Lc.nd;refine⟨_,AF (L7 (i:=1) nd rfl (BJ rfl) (Am (A0 AU By)))
  (AF (H_ HS rfl (EM (pv 0)) (BK (i:=2) nd rfl (BJ rfl))
   (AK (Bu (KY IJ Qo aA fj (pv 1) (A0 (pv 2) By)))))
  (AK (AO (pv 1)))),?_⟩
 refine⟨(by show 1<=sizeLine;decide),λl hl=> ?_⟩;have s1:Ag H (upd H l (.lst [.int 0])):=AX hl _;refine⟨_,AA,p,AA,⟨_,s1.seq hp⟩,XZ (K:=K) (a:=p) (xs:=xs) (λi σ H'=>∃v:Option V,σ= [some (.ref p),some (.ref l),v]/\Ag H H'/\H' l=some (.lst ((0::nums (rs.take i)).map V.int)))
  ⟨none,AA,s1,AJ⟩ (λi σ H' _ ⟨_,_,s2,_⟩=>s2.seq hp) ?_ ?_⟩
 ·rintro i v σ H' hi ⟨_,rfl,s2,h2⟩;obtain⟨r,hr1,⟨a,rfl,hr2⟩,hr3⟩:=hq.get hi;have hll:(rs.take i).length<=1000:=by rw[LR];omega
  refine⟨_,AA,.inl ⟨AA,_,A_.of h2⟩,_,AA,l,a,_,_,AA,AA,h2,Bi.same hr2 s2,?_,?_⟩
  ·rw[BP,CD,px];show _+2<=sizeLine;have:=iE (As 1000);have e:sizeLine=sizeLine:=rfl;exact A6 (show 2*(rs.take i).length+1+2<=2003 by omega) (())
  ·refine⟨_,AA,λb o e=>by rw[AS (AQ e hl)];exact s2 b o e,?_⟩;rw[AJ,hr3,ij];simp
 ·rintro σ H' ⟨v,rfl,s2,h2⟩;refine⟨_,AA,?_⟩;rw[hq.len,KA] at h2;exact k l H' s2 hl h2
end
section
theorem IF{n:Nat}{r:Rat}(h:Sz n r)(e:n<=4000:=by decide):Ok r:=h.mono e
inductive pz(K:Ab):Sp
 |mk (x y z:V) (c r s:Rat):vs= [x,y,z]->A8 K H x c->A8 K H y r->A8 K H z s->Sz 1600 c->Sz 320 r->Sz 320 s->(∀v H',Ag H H'->A8 K H' v (c*r+(1 - c)*s)->Q v H')->pz K vs H Q DJ
theorem uq(D:Def K mg "mixed" QA iP)(plus:MH P w K mg base 3 "plus" B6 (M8 K (λ_ _=>True) (λr s=>r+s)))
  (minus:MH P w K mg base 3 "minus" B6 (M8 K (λ_ _=>True) (λr s=>r - s))) (times:MH P w K mg base 3 "times" B6 (M8 K (λ_ _=>True) (λr s=>r*s))) (one:GQ K mg "ONE" 1):
  MH P w K mg base 4 "mixed" iP (pz K):=by
 refine D.has ue (λvs H Q E h=> ?_) (λf CL A outer st H vs Q E hr h=> ?_)
 ·obtain⟨x,y,z,c,r,s,rfl,_⟩:=h;rfl
 obtain⟨x,y,z,c,r,s,rfl,hx,hy,hz,oc,or,os,k⟩:=h;refine⟨_,AK (AO (AV plus hr (A0 (AV times hr (A0 (pv 0) (A0 (pv 1) By))) (A0 (AV times hr (A0 (AV minus hr (A0 (Sm one) (A0 (pv 0) By))) (A0 (pv 2) By))) By)))),?_⟩;have z1:=(Sz.one (n:=1) (())).sub oc;refine⟨_,AA,_,AA,x,y,c,r,AA,hx,hy,IF oc,IF or,trivial,λv1 H1 s1 q1=> ?_⟩;intro v0 YV;refine⟨_,AA,v0,x,1,c,AA,YV _,hx.same s1,IF (Sz.one (n:=1) (())),IF oc,trivial,λv2 H2 s2 q2=> ?_⟩;refine⟨_,AA,v2,z,1 - c,s,AA,q2,hz.same (s1.trans s2),IF z1,IF os,trivial,λv3 H3 s3 q3=> ?_⟩;exact⟨v1,v3,c*r,(1 - c)*s,AA,q1.same (s2.trans s3),q3,IF (oc.mul or),IF (z1.mul os),trivial,λv4 H4 s4 q4=>k v4 H4 (s1.trans (s2.trans (s3.trans s4))) q4⟩
inductive YW(K:Ab)(g:Rat->Rat->Rat):Sp
 |mk (x y:V) (r s:Rat):vs= [x,y]->A8 K H x r->A8 K H y s->Ok r->Ok s->(∀v,A8 K H v (g r s)->Q v H)->YW K g vs H Q DJ
theorem ik(D:Def K mg "greater" K3 B6)(less:MH P w K mg base 1 "is_less" B6 (R1 K)):MH P w K mg base 2 "greater" B6 (YW K λr s=>if r<s then s else r):=by
 refine D.has iV (λvs H Q E h=> ?_) (λf CL A outer st H vs Q E hr h=> ?_)
 ·obtain⟨x,y,r,s,rfl,_⟩:=h;rfl
 obtain⟨x,y,r,s,rfl,hx,hy,or,os,k⟩:=h;refine⟨_,AK (AO (MW (CU (AV less hr (A0 (pv 0) (A0 (pv 1) By)))) (pv 1) (pv 0))),?_⟩;refine⟨_,AA,_,AA,x,y,r,s,AA,hx,hy,or,os,_,AA,?_⟩;by_cases h:r<s
 ·rw[AH h];refine Au ?_;exact⟨_,AA,k y (by show A8 K H y (if r<s then s else r);rw[AG h];exact hy)⟩
 ·rw[AL h];refine A' ?_;exact⟨_,AA,k x (by show A8 K H x (if r<s then s else r);rw[AB h];exact hx)⟩
theorem p5(D:Def K mg "lesser" Ml B6)(less:MH P w K mg base 1 "is_less" B6 (R1 K)):MH P w K mg base 2 "lesser" B6 (YW K λr s=>if r<s then r else s):=by
 refine D.has pL (λvs H Q E h=> ?_) (λf CL A outer st H vs Q E hr h=> ?_)
 ·obtain⟨x,y,r,s,rfl,_⟩:=h;rfl
 obtain⟨x,y,r,s,rfl,hx,hy,or,os,k⟩:=h;refine⟨_,AK (AO (MW (CU (AV less hr (A0 (pv 0) (A0 (pv 1) By)))) (pv 0) (pv 1))),?_⟩;refine⟨_,AA,_,AA,x,y,r,s,AA,hx,hy,or,os,_,AA,?_⟩;by_cases h:r<s
 ·rw[AH h];refine Au ?_;exact⟨_,AA,k x (by show A8 K H x (if r<s then r else s);rw[AG h];exact hx)⟩
 ·rw[AL h];refine A' ?_;exact⟨_,AA,k y (by show A8 K H y (if r<s then r else s);rw[AB h];exact hy)⟩
end
section
section
variable{prog:Program}{w:World}{A:Around}{E:Value->Shared->Prop}{s:Shared}
variable{it d:Addr}{i n ep:Nat}{od:Obj}{es:Array DictEntry}{ok ov:Value}
theorem ADF{en:DictEntry}{Q:Option Value->Shared->Prop}(hit:IsItemIter s.heap it d i n ep ok ov)(O9:s.heap.get? d=some od)(Xw:od.data= .dict es ep)(hsz:es.size=n)(hx:es[i]? =some en)
  (hQ:∀h',IsItemIterOut h' it d (i+1) n ep en.key en.val s.heap.objs.size->h'.get? s.heap.objs.size=some {cls:= .type "tuple",data:= .seq #[en.key,en.val]}->
   (∀b o,b≠it->s.heap.get? b=some o->h'.get? b=some o)->Q (some (.ref s.heap.objs.size)) {s with heap:=h'}):wpAny (model prog w) A (pyNext (.ref it)) Q E s:=by
 obtain⟨hp,g,dr,tk,os⟩:=s;have hT:mz ⟨hp,g,dr,tk,os⟩ (.ref it) "dict_itemiterator":=⟨_,hit,rfl⟩;have Pk:XR "dict_itemiterator"=true:=by decide
 obtain⟨IA,hen⟩:=mO.mp hx;unfold pyNext;refine wpAny_bind (wpAny_attempt (wpAny_callSpecial?_slot (name:=VW "__next__") hT Qn (wpAny_call_entry Qn hT lH ?_ (lF _))));refine wpAny_bind (wpAny_pure (wpAny_bind (wpAny_bind ?_)));refine wpAny_bind (wpAny_typeNameOfWhole_itemiter hT (wpAny_pure (wpAny_bind (wpAny_fieldsOf hit rfl ?_))));simp only[Pk,if_true];show wpAny _ _ (if(BI d==EV)=true then _ else _) _ _ _;rw[AB (show¬((BI d==EV)=true) from DA)];refine wpAny_bind (wpAny_pure (wpAny_bind (wpAny_dictEntries O9 Xw ?_)));rw[AB (by rw[hsz];simp)];refine wpAny_bind (wpAny_pure (wpAny_bind (wpAny_dictEpoch O9 Xw ?_)));rw[AB (by simp)];refine wpAny_pure ?_;simp only[show¬((i:Int)<0) from by omega,if_false,EJ,hx];refine wpAny_bind (wpAny_bind (wpAny_typeNameOfWhole_itemiter hT (wpAny_pure (wpAny_bind (wpAny_isOneOf_itemiter hT ?_)))));show wpAny _ _ (setField (.ref it) 3 (rawInt ((i:Int)+1))>>=_) _ _ ⟨hp,g,dr,tk,os⟩;refine wpAny_bind (wpAny_setField_rec hit (by simp) λh₁ he₁ hs₁=> ?_);replace hs₁:Hu it hp h₁:=hs₁;replace he₁:IsItemIter h₁ it d (i+1) n ep ok ov:=by
  have e:((i+1:Nat):Int)=(i:Int)+1:=by omega
  unfold IsItemIter;rw[e];simpa [rawInt] using he₁
 have hT₁:mz ⟨h₁,g,dr,tk,os⟩ (.ref it) "dict_itemiterator":=⟨_,he₁,rfl⟩;refine wpAny_bind (wpAny_holding (wpAny_bind (wpAny_isOneOf_itemiter hT₁ (wpAny_bind (wpAny_isOneOf_itemiter hT₁ ?_)))));show wpAny _ _ (mJ (.ref it) 6 en.key en.val) _ _ ⟨h₁,g,dr,tk,os⟩;unfold mJ;refine wpAny_bind (wpAny_newTuple ?_);have he₂:IsItemIter (h₁.push {cls:= .type "tuple",data:= .seq #[en.key,en.val]}) it d (i+1) n ep ok ov:=Cy _ he₁;generalize hh₂:h₁.push {cls:= .type "tuple",data:= .seq #[en.key,en.val]}=h₂ at he₂;have hz₁:h₁.objs.size=hp.objs.size:=hs₁.1;have Fv:hp.objs.size≠it:=Ln (Bh hit);have ht₂:h₂.get? hp.objs.size=some {cls:= .type "tuple",data:= .seq #[en.key,en.val]}:=by rw[←hh₂,←hz₁];exact Df _ rfl
 have hk₂:∀b o,b≠it->hp.get? b=some o->h₂.get? b=some o:=λb o hb e=>by rw[←hh₂];exact Cy _ (hs₁.extBut b o hb e)
 show wpAny _ _ (mG (.ref it)>>=_) _ _ ⟨h₂,g,dr,tk,os⟩;rw[hz₁];clear hh₂ he₁ hs₁ hT₁ hz₁ h₁;refine wpAny_bind ?_;unfold mG;refine wpAny_bind (wpAny_field he₂ rfl (x:= .none) rfl (wpAny_pure ?_));simp only[if_true];refine wpAny_bind (wpAny_field he₂ rfl (x:=ok) rfl (wpAny_bind (wpAny_field he₂ rfl (x:=ov) rfl ?_)));refine wpAny_bind (wpAny_setField_rec he₂ (by simp) λh₃ he₃ hs₃=> ?_);replace hs₃:Hu it h₂ h₃:=hs₃;replace he₃:IsItemIter h₃ it d (i+1) n ep en.key ov:=he₃;refine wpAny_bind (wpAny_setField_rec he₃ (by simp) λh₄ he₄ hs₄=> ?_);replace hs₄:Hu it h₃ h₄:=hs₄;replace he₄:IsItemIter h₄ it d (i+1) n ep en.key en.val:=he₄;refine wpAny_bind (wpAny_setField_rec he₄ (by simp) λh₅ he₅ hs₅=> ?_);replace hs₅:Hu it h₄ h₅:=hs₅;replace he₅:IsItemIterOut h₅ it d (i+1) n ep en.key en.val hp.objs.size:=he₅;refine wpAny_bind (wpAny_setField_rec he₅ (by simp) λh₆ he₆ hs₆=> ?_);replace hs₆:Hu it h₅ h₆:=hs₆;replace he₆:IsItemIterOut h₆ it d (i+1) n ep en.key en.val hp.objs.size:=he₆;have all:∀b o,b≠it->h₂.get? b=some o->h₆.get? b=some o:=λb o hb e=>hs₆.extBut b o hb (hs₅.extBut b o hb (hs₄.extBut b o hb (hs₃.extBut b o hb e)));exact wpAny_bind (wpAny_letGo (wpAny_pure (wpAny_pure ⟨_,rfl,wpAny_pure (hQ h₆ he₆ (all _ _ Fv ht₂) λb o hb e=>all b o hb (hk₂ b o hb e))⟩)))
theorem AE6{Q:Option Value->Shared->Prop}(hh:A.handled=none)(hit:IsItemIter s.heap it d i n ep ok ov)(O9:s.heap.get? d=some od)(Xw:od.data= .dict es ep)(hsz:es.size=n)(hx:n<=i)
  (hQ:∀h',kq it s.heap h'->Q none {s with heap:=h'}):wpAny (model prog w) A (pyNext (.ref it)) Q E s:=by
 have hT:s.TypeIs (.ref it) "dict_itemiterator":=⟨_,hit,rfl⟩;have Pk:XR "dict_itemiterator"=true:=by decide
 unfold pyNext;refine wpAny_bind (wpAny_attempt (wpAny_callSpecial?_slot (name:=VW "__next__") hT Qn (wpAny_call_entry Qn hT lH ?_ (lF _))));refine wpAny_bind (wpAny_pure (wpAny_bind (wpAny_bind ?_)));refine wpAny_bind (wpAny_typeNameOfWhole_itemiter hT (wpAny_pure (wpAny_bind (wpAny_fieldsOf hit rfl ?_))));simp only[Pk,if_true];show wpAny _ _ (if(BI d==EV)=true then _ else _) _ _ s;rw[AB (show¬((BI d==EV)=true) from DA)];refine wpAny_bind (wpAny_pure (wpAny_bind (wpAny_dictEntries O9 Xw ?_)));rw[AB (by rw[hsz];simp)];refine wpAny_bind (wpAny_pure (wpAny_bind (wpAny_dictEpoch O9 Xw ?_)));rw[AB (by simp)];refine wpAny_pure ?_;simp only[show¬((i:Int)<0) from by omega,if_false,EJ,aS (show es.size<=i by omega)];refine wpAny_bind (wpAny_bind (wpAny_typeNameOfWhole_itemiter hT (wpAny_pure ?_)));show wpAny _ _ (setField (.ref it) 2 .none>>=_) _ _ s;refine wpAny_bind (wpAny_setField hit rfl (by simp) ?_);show wpAny _ _ (newExc (.type "StopIteration") []>>=_) _ _ _;refine wpAny_bind ?_;simp only[newExc,newTuple];refine wpAny_bind (wpAny_newObj_type ?_ (by size_fits));refine wpAny_bind (m:=firstArgMember _ _) (wpAny_of_eq (a:=EV) (by first|rfl|(simp only[firstArgMember];rfl)) ?_);refine wpAny_newObj_type ?_ (by size_fits);simp only[raiseNew];refine wpAny_bind (wpAny_handled ?_);rw[show A.in1.handled=none from hh];refine wpAny_bind (wpAny_pure (wpAny_throw ?_));refine wpAny_bind (wpAny_isInstance (T:="StopIteration") (b:=true) ⟨_,Df _ rfl,rfl⟩ isSubtype_stop ?_);exact wpAny_pure (hQ _ (((aU ..).extBut.push _).push _))
theorem ADG{v:Addr}{Q:Value->Shared->Prop}(hv:s.heap.IsItemsView v d)(O9:s.heap.get? d=some od)(Xw:od.data= .dict es ep)(hsz:es.size=n)
  (hQ:Q (.ref s.heap.objs.size) {s with heap:=s.heap.push {cls:= .type "dict_itemiterator",data:= .fields #[.none,.bool false,.ref d,.int 0 0,.int n 0,.int ep 0,.none,.none]}}):
  wpAny (model prog w) A (pyIter (.ref v)) Q E s:=by
 obtain⟨ov,fk,hcv,hdv⟩:=id hv;have Pk:XR "dict_itemiterator"=true:=by decide
 refine wpAny_pyIter_slot hv.typeIs lP (wpAny_call_entry lP hv.typeIs F.entry_dict_items_iter ?_ (F.args_dict_items_iter_1 _));unfold Builtin.«dict_items.__iter__»;refine wpAny_bind (wpAny_pure (wpAny_bind ?_));unfold x';refine wpAny_bind (wpAny_field fk hdv (x:= .ref d) rfl (wpAny_pure (wpAny_bind ?_)));unfold x_;refine wpAny_bind (wpAny_dictEntries O9 Xw (wpAny_bind (wpAny_dictEpoch O9 Xw ?_)));simp only[Pk,if_true];refine wpAny_newObj_type (wpAny_pure ⟨_,rfl,"dict_itemiterator",_,⟨_,Df _ rfl,rfl⟩,Qn.lookup,?_⟩) (by simp only[sizeOk,mH,Br,CH,CD,Nd,sizeLine_eq];omega);simpa [rawInt,hsz,mH] using hQ
end
def p7(d:Addr)(o:Obj)(AZ:List (List Key×V)):It:=
 ⟨λi H=>H d=some (.DW o (.dT AZ))/\i<AZ.length,λi H x H'=>∃(T q:Addr) (k:List Key) (v:V),AZ[i]? =some (k,v)/\x= .ref T/\H T=none/\H q=some (.tup (k.map kV))/\H'=upd H T (.tup [.ref q,v]),λi H=>H d=some (.DW o (.dT AZ))/\AZ.length<=i⟩
section
variable{X:Cx}{pins:List (Addr×Obj)}{σ:L2.St}{H:Hp}{s:Shared}{d:Addr}{o:Obj}
theorem p8{AZ:List (List Key×V)}(I:Inv X pins σ H s)(h:H d=some (.DW o (.dT AZ))):
  (d==sysModules)=false/\s.heap.get? d=some o/\o.ExactDict/\∃(es:Array DictEntry) (ep:Nat),o.data= .dict es ep/\es.size=AZ.length/\
   ∀(i:Nat) (k:List Key) (v:V),AZ[i]? =some (k,v)->∃(en:DictEntry) (q:Addr),es[i]? =some en/\en.key= .ref q/\H q=some (.tup (k.map kV))/\RelV v en.val:=by
 obtain⟨hd,z,hs,xs,pr,o',es,ep,ho,hx,Jo,he,_⟩:=I.BS d _ h;rw[hd] at ho;cases ho;refine⟨hs,hd,hx,es,ep,Jo,?_,λi k v e=> ?_⟩
 ·have l1:es.size=xs.length:=size_of_entries he;have l2:AZ.length=xs.length:=Paired.length pr;omega
 ·obtain⟨b,hb,e1,e2,e3⟩:=RJ pr e;have q:=entry_at he i;rw[hb] at q;exact⟨_,b.2.1,q,AA,e2,e3⟩
end
section
variable{P:Program}{w:World}{K:Ab}{d:Addr}{o:Obj}{es:Array DictEntry}{ep:Nat}
theorem YX{AZ:List (List Key×V)}{elts:List Expr}{kk:Nat}{LH:Pos}(it:Addr)(O9:o.data= .dict es ep):
  Turn P w K (.Tuple elts kk LH) (p7 d o AZ) [it] it (λi h=>∃ok ov,IsItemIter h it d i AZ.length ep ok ov) where
 mem:=by simp
 obj:=λi h st b hb=>by
  have e:b=it:=by simpa using hb
  subst e;obtain⟨ok,ov,e⟩:=st;exact⟨_,e,λv z=>nomatch z⟩
 keep:=λi h h' st k=>let⟨ok,ov,e⟩:=st;⟨ok,ov,k it (by simp) _ e⟩
 item:=by
  intro X hP hw hK hc i pins s σ H E I hf st hg;subst hP hw hK;obtain⟨hd,hi⟩:=hg;obtain⟨hs,Sy,hx,Tw,dY,Jo,hsz,ent⟩:=p8 I hd;obtain⟨rfl,rfl⟩:=HX O9 Jo;obtain⟨⟨k,v⟩,S0⟩:∃p,AZ[i]? =some p:=⟨AZ[i],Gk hi⟩;obtain⟨en,q,hen,Vg,hq,hv⟩:=ent i k v S0;obtain⟨ok,ov,he⟩:=st;have IA:it<s.heap.objs.size:=Bh he;refine ADF he Sy Jo hsz hen λh' ho hT hk=> ?_;refine⟨_,rfl,wpAny_letOwnedTupleGo_items (s:={s with heap:=h'}) ho λjo w_ sb=> ?_⟩;have oj:jo.get? s.heap.objs.size=some {cls:= .type "tuple",data:= .seq #[en.key,en.val]}:=(sb.2 _ (Ln IA)).trans hT;have new:Cp X.prog X.w (upd H s.heap.objs.size (.tup [.ref q,v])) jo s.heap.objs.size (.tup [.ref q,v]):=
   ⟨by show 2<=sizeLine;decide,[en.key,en.val],.cons Vg (.cons hv .nil),⟨_,oj,rfl,_,rfl⟩⟩
  have I1:Inv X pins σ (upd H s.heap.objs.size (.tup [.ref q,v])) {s with heap:=jo}:=
   I.OB (t':=s.toks) (ch:= [it]) (λb ob hb e=>(sb.2 b (by simpa using hb)).trans (hk b ob (by simpa using hb) e)) hf (As _) new
  refine⟨.ref s.heap.objs.size,_,I1,AA,⟨_,q,k,v,S0,AA,I.BS.fresh (As _),hq,AA⟩,⟨en.key,en.val,w_⟩,λb hb=> ?_⟩;have e:b=it:=by simpa using hb
  rw[e,AS (Dm IA)];exact(hf it (by simp)).1
 done:=by
  intro X hP hw hK hc i pins s σ H E I hf st hg;subst hP hw hK;obtain⟨hd,hi⟩:=hg;obtain⟨f0,f1,f2,f3,f4,f5⟩:=hf it (by simp);obtain⟨hs,Sy,hx,Tw,dY,Jo,hsz,ent⟩:=p8 I hd;obtain⟨rfl,rfl⟩:=HX O9 Jo;obtain⟨ok,ov,he⟩:=st;exact AE6 (I.ok.hd hc) he Sy Jo hsz hi λh' eb=>⟨rfl,I.turned (t':=s.toks) (λb ob hb e=>eb b ob hb e) f0 f1 f3 f4 f5⟩
 self:=λA i s Q E st h=>let⟨_,_,e⟩:=st;j3 e h
end
section
variable{prog:Program}{w:World}
theorem bY(d:Addr)(hd:(d==sysModules)=false):
  MeetsIn prog w (Builtin.«dict.items» ⟨[.ref d],[]⟩) (λ_ R s=>s.TypeIs (.ref d) "dict"/\R (.ok (.ret (.ref s.heap.objs.size))) {s with heap:=s.heap.push {cls:= .type "dict_items",data:= .fields #[.ref d]}}):=
 .of_wp λA R s ⟨hm,h⟩=>by
  unfold Builtin.«dict.items»;refine wpAny_bind ?_;unfold yK;refine wpAny_bind (wpAny_notOrdered_dict hm ?_);show wpAny _ _ (pure d) _ _ s;refine wpAny_pure ?_;show wpAny _ _ (VO d>>=_) _ _ s;unfold VO;rw[AB (by rw[hd];exact DA)];exact wpAny_bind (wpAny_pure (wpAny_bind (wpAny_newObj_type (wpAny_pure ⟨_,rfl,h⟩))))
end
inductive YY(R:It->Hp->Prop)(x:V)(H1:Hp):Prop
 |mk (d o AZ:_) (x0:x= .ref d) (x1:H1 d=some (.DW o (.dT AZ))) (x2:R (p7 d o AZ) H1):YY R x H1
def ur(td:TE):TI:=λσ H R=>td σ H (YY R)
theorem il{X:Cx}{e:Expr}{td:TE}{apos F_:Pos}{elts:List Expr}{kk:Nat}{LH:Pos}(he:PE X e td)(Q_:attributeBase e "items" X.env (eval e X.env)=eval e X.env:=by rfl)(RA:(apos.endLine==F_.line)=true:=by rfl):
  PI X (.Tuple elts kk LH) (.Call (.Attribute e "items" apos) [] [] F_) (ur td):=by
 intro pins s σ H R I h;refine wpAny_Call_method (T:="dict") (id:="dict.items") Q_ rfl RA lW VD lV (Bt (he pins s σ H _ I h) λu s1 ⟨x,H1,I1,rx,d,o,AZ,ex,hd,q⟩=> ?_);subst ex;obtain rfl:u=BI d:=rx;obtain⟨hs,Sy,hx,es,ep,Jo,hsz,ent⟩:=p8 I1 hd;have tG:s1.TypeIs (.ref d) "dict":=⟨o,Sy,hx.1⟩;refine⟨tG,λa ea=> ?_,?_⟩
 ·cases ea;exact⟨o,Sy,hx.2.1⟩
 have I2:Inv X pins σ H1 {s1 with heap:=s1.heap.push {cls:= .type "dict_items",data:= .fields #[.ref d]}}:=I1.kept (t':=s1.toks) λb ob q=>Cy _ q;have fin:wpAny (model X.prog X.w) X.A (pyIter (.ref s1.heap.objs.size)) (PIE X pins σ (.Tuple elts kk LH) R) X.xe {s1 with heap:=s1.heap.push {cls:= .type "dict_items",data:= .fields #[.ref d]}}:=by
  refine ADG (d:=d) (n:=AZ.length) ⟨_,Df _ rfl,rfl,rfl⟩ (Cy _ Sy) Jo hsz (Vs (tk:=s1.toks) I2 _ (YX _ Jo) ⟨.none,.none,?_⟩ q);exact Df _ rfl
 show wpAny _ _ (callWith F_ (.builtin "dict.items") [.ref d] [] []) _ X.xe s1;exact method_meetsIn VD lU rfl (Z7 ⟨rfl,tG,lT _,_,bY d hs,tG,fin⟩)
def AAO(tk tv:TE):TE:=λσ H Q=>∀p,H p=none->tk σ (upd H p (.dT [])) λx H1=>tv σ H1 λy H2=>∃(b:Addr) (k:List Key),x= .ref b/\H2 b=some (.tup (k.map kV))/\H2 p=some (.dT [])/\Q (.ref p) (upd H2 p (.dT [(k,y)]))
theorem p9{X:Cx}{pos:Pos}{k v:Expr}{tk tv:TE}(hu:X.A.units+1<cLine)(hk:PE X k tk)(hv:PE X v tv):PE X (.Dict [some k] [v] pos) (AAO tk tv):=by
 intro pins s σ H Q I q;have hn:=I.BS.fresh (As s.heap.objs.size);have I1:=I.laid (a:=s.heap.objs.size) (o:= .dT []) (h':=s.heap.push {cls:= .type "dict",data:= .dict #[]}) (t':=s.toks) (λ_ _ q=>Cy _ q) (As _) (Xr s.heap I.big);have hp:=Xt (pos:=pos) hk hv (d8 (X:=X));refine wpAny_Dict_any (by rfl) (by rfl) (by simp) (by show 1<=15;decide) (Bt (hp pins _ σ _ (λps H2=>match ps with
   | [(x,y)]=>∃(b:Addr) (k:List Key),x= .ref b/\H2 b=some (.tup (k.map kV))/\H2 s.heap.objs.size=some (.dT [])/\Q (.ref s.heap.objs.size) (upd H2 s.heap.objs.size (.dT [(k,y)]))
   |_=>False) I1 (q _ hn)) λws s2 ⟨ps,H2,I2,rel,z⟩=> ?_)
 match ps,rel,z with
 | [],_,z=>exact z.elim
 |_::_::_,_,z=>exact z.elim
 | [(x,y)],rel,z=>
  obtain⟨b,ks,rfl,hb,hd,q2⟩:=z;cases rel with
  | @cons _ pr _ _ r1 r2=>
   cases r2;obtain⟨u,y'⟩:=pr;obtain⟨ru,ry⟩:=r1;obtain rfl:u=BI b:=ru;obtain⟨z1,z2,xs,kt,dd⟩:=w8 I2.BS hd;cases kt;unfold storeAll;simp only[kP,Ze];refine wpAny_bind (wpAny_bind (wpAny_dictSet_heap (knd:=tupleKind (Bf X.prog X.w)) (show X.A.units<cLine from DU (Uz _) hu) (L' I2.BS hb) dd (λh' uH hs=> ?_) (())));refine wpAny_pure (wpAny_pure ⟨.ref s.heap.objs.size,_,?_,rfl,q2⟩);obtain⟨q',es,ep,hq,h2,h3,h4,_,h5⟩:=uH;refine P4 I2 (by rw[hd];exact I_) hs ⟨q',hq⟩ ⟨by show 1<=sizeLine;decide,z2,_,KT.keeps (.cons ⟨rfl,hb,ry⟩ .nil) λc ys ec=> ?_,q',es,ep,hq,h2,h3,h4,h5⟩;rw[AS (Ao ec hd (λz=>nomatch z))];exact ec
end
section
abbrev Tk(prog:Program)(w:World):=tupleKind (Bf prog w)
abbrev Raw:=List Key×Addr×Value
def D3(prog:Program)(w:World)(h:Heap)(S:Addr)(xs:List Raw):Prop:=
 ∃o es ep,h.get? S=some o/\o.ExactDict/\o.data= .dict es ep/\es.toList=xs.map (entryOfKey (Tk prog w))/\(xs.map (·.1)).Nodup
def p_(acc rest:List Raw):List Raw:=rest.foldl (λa x=>storedH a x.1 x.2.1 x.2.2) acc
section
variable{prog:Program}{w:World}{A:Around}{E:Value->Shared->Prop}
theorem YZ{h h':Heap}{k:List Key}{a:Addr}(x:(Tk prog w).is h k a)(e:∀b o,h.get? b=some o->h'.get? b=some o):(Tk prog w).is h' k a:=by
 obtain⟨o,its,n,h1,h2⟩:=x;exact⟨o,its,n,e _ _ h1,h2⟩
theorem bZ(xs:List Raw)(k:List Key)(a:Addr)(v:Value):(storedH xs k a v).length<=xs.length+1:=by
 unfold storedH;split
 ·rw[BP];omega
 ·rw[CH];exact As _
theorem bf{xs:List Raw}{k:List Key}{a:Addr}{v:Value}{x:Raw}(h:x∈storedH xs k a v):(x.1=k/\x.2.1=a)\/∃y∈xs,x.1=y.1/\x.2.1=y.2.1:=by
 unfold storedH at h;split at h
 ·obtain⟨y,hy,rfl⟩:=Fp.mp h;refine .inr ⟨y,hy,?_⟩;unfold putAt;split <;> exact⟨AA,AA⟩
 ·rcases Eb.mp h with h|h
  ·exact .inr ⟨x,h,rfl,rfl⟩
  ·rw[Gm.mp h];exact .inl ⟨rfl,rfl⟩
theorem ADH{R:Result->Shared->Prop}{S I l:Addr}{items:Array Value}{res:Value}{h0:Heap}(hu:A.units+8<cLine)(hh:A.handled=none)(hlI:l≠I)(hSI:S≠I)(hSl:S≠l)(nS:h0.get? S=none)(nI:h0.get? I=none):
  ∀(rest:List Raw) (i:Nat) (acc:List Raw) (ix:Int) (t:Tok) (s:Shared),items.size=i+rest.length->acc.length+rest.length<=sizeLine->(∀b o,h0.get? b=some o->s.heap.get? b=some o)->
   (∀(j:Nat) (q:Raw),rest[j]? =some q->∃b:Addr,items[i+j]? =some (.ref b)/\IsTup h0 b #[.ref q.2.1,q.2.2]/\(Tk prog w).is h0 q.1 q.2.1)->(∀x∈acc,(Tk prog w).is h0 x.1 x.2.1)->
   s.heap.IsListIter I l i->s.heap.IsList l items->D3 prog w s.heap S acc->
   (∀h' tk,D3 prog w h' S (p_ acc rest)->(∀b o,b≠S->b≠I->s.heap.get? b=some o->h'.get? b=some o)->R (.ok (.ret res)) {s with heap:=h',toks:=tk})->
   codeAny (model prog w) A (.builtin "dict.update.loop" ⟨[.ref S,.ref I,.int ix t,res],[]⟩) R s
 | [],i,acc,ix,t,s,hsz,hln,ex,ht,F',hit,hl,hm,hR=>by
  refine codeAny_builtin Xu ?_;rw[mj Ke _];show wpAny _ A.in1 (pyNext (.ref I)>>=_) _ _ s;refine wpAny_bind (wpAny_pyNext_list_end (A:=A.in1) hh hit hl (aS (by rw[hsz];exact As _)) λh' he=> ?_);show wpAny _ A.in1 (yM S []>>=_) _ _ _;refine wpAny_bind (wpAny_pure (wpAny_pure ?_));obtain⟨o,es,ep,h1,h2⟩:=hm;exact hR h' s.toks ⟨o,es,ep,he S o hSI h1,h2⟩ λb o _ hb e=>he b o hb e
 |q::rest,i,acc,ix,t,s,hsz,hln,ex,ht,F',hit,hl,hm,hR=>by
  obtain⟨b,hb,AAP,hk⟩:=ht 0 q rfl;rw[CD] at hsz hln;have hbI:b≠I:=λz=>by obtain⟨o,h1,_⟩:=AAP;rw[z,nI] at h1;cases h1
  have hbS:b≠S:=λz=>by obtain⟨o,h1,_⟩:=AAP;rw[z,nS] at h1;cases h1
  refine codeAny_builtin Xu ?_;rw[mj Ke _];show wpAny _ A.in1 (pyNext (.ref I)>>=_) _ _ s;refine wpAny_bind (wpAny_pyNext_list_item (x:= .ref b) hit hl (by simpa using hb) λh1 AE7 Hq=> ?_);have ex1:∀c o,h0.get? c=some o->h1.get? c=some o:=λc o e=>Hq.extBut c o (λz=>by rw[z,nI] at e;cases e) (ex c o e);have ht1:IsTup h1 b #[.ref q.2.1,q.2.2]:=AAP.keeps ex1;have qA:h1.IsList l items:=hl.extBut Hq.extBut hlI;obtain⟨o,ho,hc,n,hd⟩:=id ht1;have hm1:h1.DictOfH (Tk prog w) S acc:=by
   obtain⟨od,es,ep,a1,a2,a3,a4,a5⟩:=hm;exact⟨od,es,ep,Hq.extBut S od hSI a1,a2,a3,a4,λx hx=>YZ (F' x hx) ex1,a5⟩
  show wpAny _ A.in1 (holding [BI b] _>>=_) _ _ _;refine wpAny_bind (wpAny_holding ?_);refine wpAny_bind (wpAny_tryCatch ?_);unfold yJ;refine wpAny_bind (wpAny_typeOf (T:="tuple") ⟨o,ho,hc⟩ ?_);rw[AG (by first|decide|rfl|simp)];refine wpAny_bind (wpAny_seqItems ho hd (wpAny_pure ?_));show wpAny _ A.in1 (holding [BI q.2.1,q.2.2] (dictSet S (.ref q.2.1) q.2.2)) _ _ _;refine wpAny_holding (wpAny_dictSet_heap (knd:=Tk prog w) (k:=q.1) (show A.in1.units<cLine from DU (show A.units+1<=A.units+8 by omega) hu) (YZ hk ex1) hm1 (λh2 hm2 Vf=> ?_) ());have ex2:∀c o,h0.get? c=some o->h2.get? c=some o:=λc o e=>Vf.extBut c o (λz=>by rw[z,nS] at e;cases e) (ex1 c o e);refine wpAny_pure ⟨plainId_quiet Ke _,ADH (items:=items) hu hh hlI hSI hSl nS nI rest (i+1) (storedH acc q.1 q.2.1 q.2.2) (ix+1) 0 _ (show items.size=i+1+rest.length by omega) ?_ ex2 (λj q' e=> ?_) (λx hx=> ?_) ?_ ?_ ?_ λh' tk tD k=> ?_⟩
  ·have z:=bZ acc q.1 q.2.1 q.2.2;omega
  ·obtain⟨b',hb',ADI,hk'⟩:=ht (j+1) q' (by simpa using e);refine⟨b',?_,ADI,hk'⟩;rw[show i+1+j=i+(j+1) by omega];exact hb'
  ·rcases bf hx with⟨e1,e2⟩|⟨y,hy,e1,e2⟩
   ·rw[e1,e2];exact hk
   ·rw[e1,e2];exact F' y hy
  ·exact AE7.at λo' e=>Vf.extBut I o' (F9 hSI) e
  ·exact qA.extBut Vf.extBut (F9 hSl)
  ·obtain⟨od,es,ep,a1,a2,a3,a4,_,a5⟩:=hm2;exact⟨od,es,ep,a1,a2,a3,a4,a5⟩
  ·exact hR h' tk tD λc oc h3 h4 e=>k c oc h3 h4 (Vf.extBut c oc h3 (Hq.extBut c oc h4 e))
end
end
section
section
variable{prog:Program}{w:World}{A:Around}{E:Value->Shared->Prop}
theorem Ya{s:Shared}{l:Addr}{ol:Obj}{items:Array Value}{n:Nat}{prs:List Raw}{Q:Value->Shared->Prop}(hu:A.units+16<cLine)(hh:A.handled=none)(hl:s.heap.get? l=some ol)(hc:ol.cls= .type "list")(hd:ol.dict=none)
  (Sw:ol.data= .seq items n) (hsz:items.size=prs.length) (hln:prs.length<=sizeLine)
  (ht:∀(j:Nat) (q:Raw),prs[j]? =some q->∃b:Addr,items[j]? =some (.ref b)/\IsTup s.heap b #[.ref q.2.1,q.2.2]/\(Tk prog w).is s.heap q.1 q.2.1)
  (h:∀h' tk,D3 prog w h' s.heap.objs.size (p_ [] prs)->(∀b o,s.heap.get? b=some o->h'.get? b=some o)->Q (.ref s.heap.objs.size) {s with heap:=h',toks:=tk}):
  wpAny (model prog w) A (call (.type "dict") [.ref l]) Q E s:=by
 refine callType_codes (Q₁:=λobj s₁=>obj= .ref s.heap.objs.size/\s₁={s with heap:=s.heap.push {cls:= .type "dict",data:= .dict #[]}}) PySem.F.kt_called_dict (PySem.F.kt_typeCall_dict_1 _) PySem.F.entry_dict_init (kt_code_dict_new _ ⟨rfl,rfl⟩) ?_;rintro obj s₁ ⟨rfl,rfl⟩;have AAQ:(s.heap.push {cls:= .type "dict",data:= .dict #[]}).get? s.heap.objs.size=some {cls:= .type "dict",data:= .dict #[]}:=Df _ rfl;have tG:({s with heap:=s.heap.push {cls:= .type "dict",data:= .dict #[]}}:Shared).TypeIs (.ref s.heap.objs.size) "dict":=⟨_,AAQ,rfl⟩;have k0:∀b o,s.heap.get? b=some o->(s.heap.push {cls:= .type "dict",data:= .dict #[]}).get? b=some o:=λb o e=>Cy _ e;refine⟨tG,PySem.F.args_dict_init_2 _ _,?_⟩;unfold Builtin.«dict.__init__»;refine wpAny_bind ?_;unfold yI;refine wpAny_bind (wpAny_notOrdered_dict tG ?_);show wpAny _ _ (pure (s.heap.objs.size,[BI l])) _ _ _;refine wpAny_pure ?_;show wpAny _ _ (mU "dict.__init__" s.heap.objs.size (.ref l) [] .none) _ _ _;unfold mU;refine wpAny_bind (wpAny_typeOf (T:="list") ⟨ol,k0 _ _ hl,hc⟩ ?_);rw[AG (by first|decide|rfl|simp)];refine wpAny_bind (h_ (k0 _ _ hl) hc Sw hd hh λh1 tk1 bh=> ?_);rw[AG (show(none:Option Value).isNone=true from rfl)];refine wpAny_bind (wpAny_rule ?_);have qA:h1.IsList l items:=⟨ol,bh _ _ (k0 _ _ hl),hc,n,Sw⟩;have hS1:s.heap.objs.size<h1.objs.size:=Bh (bh _ _ AAQ);refine wpAny_bind (wpAny_pyIter_list qA ?_);have k2:∀b o,h1.get? b=some o->(h1.push {cls:= .type "list_iterator",data:= .fields #[.ref l,.int 0 0]}).get? b=some o:=λb o e=>Cy _ e;have IA:l<s.heap.objs.size:=Bh hl;have out:∀a,s.heap.objs.size<=a->s.heap.get? a=none:=λa ha=>by
  cases e:s.heap.get? a with
  |none=>rfl
  |some o=>exact absurd (Bh e) (Nat.not_lt.mpr ha)
 have key:=ADH (prog:=prog) (w:=w) (A:=A.in1) (R:=wants (λr s₂=>r= .none/\Q (.ref s.heap.objs.size) s₂) E) (S:=s.heap.objs.size) (I:=h1.objs.size) (l:=l) (items:=items) (res:=EV) (h0:=s.heap)
  (show A.units+1+8<cLine by omega) hh
  (Dm (Zu IA hS1)) (Dm hS1) (Ln IA) (out _ (As _)) (out _ (KG hS1)) prs 0 [] 0 0
  {s with heap:=h1.push {cls:= .type "list_iterator",data:= .fields #[.ref l,.int 0 0]},toks:=tk1} (by rw[hsz,KD]) (by rw[Nd,KD];exact hln)
  (λb o e=>k2 _ _ (bh _ _ (k0 _ _ e)))
  (λj q e=>by
   obtain⟨b,e1,e2,e3⟩:=ht j q e;exact⟨b,by rw[KD];exact e1,e2,e3⟩)
  (λx hx=>nomatch hx)
  ⟨_,Df _ rfl,rfl,rfl⟩ (qA.at λo e=>k2 _ _ e) ⟨_,#[],0,k2 _ _ (bh _ _ AAQ),⟨rfl,rfl,rfl⟩,rfl,rfl,GD⟩
  (λh' tk tD k=>⟨rfl,h h' tk tD λb o e=>k b o (Dm (Bh e)) (Dm (Zu (Bh e) hS1)) (k2 _ _ (bh _ _ (k0 _ _ e)))⟩)
 first
  |exact wpAny_pure ⟨plainId_quiet Ke _,key⟩
  |exact wpAny_bind (wpAny_pure (wpAny_pure ⟨plainId_quiet Ke _,key⟩))
end
def Jc(AZ more:List (List Key×V)):List (List Key×V):=more.foldl (λacc kv=>putK acc kv.1 kv.2) AZ
theorem R4:∀(more AZ:List (List Key×V)),(Jc AZ more).length<=AZ.length+more.length
 | [],AZ=>by show AZ.length<=AZ.length+0;omega
 |m::more,AZ=>by
  have h1:=R4 more (putK AZ m.1 m.2);have h2:=HW AZ m.1 m.2;show(Jc (putK AZ m.1 m.2) more).length<=AZ.length+(more.length+1);omega
theorem KT.merge{H:Hp}:∀{more:List (List Key×V)} {rs:List Raw} {AZ:List (List Key×V)} {xs:List Raw},KT H more rs->KT H AZ xs->KT H (Jc AZ more) (p_ xs rs)
 |_,_,_,_,.nil,k=>k
 |_,_,_,_,.cons (a:=p) (b:=q) h t,k=>by
  obtain⟨h1,h2,h3⟩:=h;have:=KT.put k p.1 h2 h3;rw[h1] at this;have z:=KT.merge t this;show KT H (Jc (putK _ p.1 p.2) _) (p_ (storedH _ q.1 q.2.1 q.2.2) _);rw[h1];exact z
section
variable{X:Cx}
theorem qB{pins:List (Addr×Obj)}{σ:L2.St}{H:Hp}{s:Shared}(I:Inv X pins σ H s):∀{ps:List Addr} {AZ:List (List Key×V)},Paired (λp kv=>∃q,Bi X.K H p [.ref q,kv.2]/\H q=some (.tup (kv.1.map kV))) ps AZ->
  ∃prs:List Raw,KT H AZ prs/\prs.length=ps.length/\∀(j:Nat) (x:Raw),prs[j]? =some x->∃b:Addr,ps[j]? =some b/\IsTup s.heap b #[.ref x.2.1,x.2.2]/\(Tk X.prog X.w).is s.heap x.1 x.2.1
 |_,_,.nil=>⟨[],.nil,rfl,λj q e=>by simp at e⟩
 |_,_,.cons (a:=p) (b:=kv) ⟨q,h,hq⟩ t=>by
  obtain⟨prs,r,hl,hp⟩:=qB I t;obtain⟨its,rv,ht,_⟩:=I.tuple h;obtain⟨u,y,ei,ru,ry⟩:=vals2 rv;subst ei;obtain rfl:u=BI q:=ru;refine⟨(kv.1,q,y)::prs,.cons ⟨AA,hq,ry⟩ r,by rw[CD,CD,hl],λj x e=> ?_⟩;cases j with
  |zero=>
   have e':(kv.1,q,y)=x:=Bl e;subst e';exact⟨p,AA,ht,L' I.BS hq⟩
  |succ j=>
   obtain⟨b,e1,e2,e3⟩:=hp j x (by simpa using e);exact⟨b,by simpa using e1,e2,e3⟩
theorem bj(ADJ:X.calm=true)(hu:X.A.units+16<cLine):Ox X (.type "dict") (λxs H Q=>∃(a:Addr) (ps:List Addr) (AZ:List (List Key×V)),xs= [.ref a]/\A_ X.K H a (ps.map V.ref)/\
  Paired (λp kv=>∃q,Bi X.K H p [.ref q,kv.2]/\H q=some (.tup (kv.1.map kV))) ps AZ/\∀p,H p=none->Q (.ref p) (upd H p (.dT (Jc [] AZ)))):=by
 intro pins s σ H xs us Q I r q;obtain⟨a,ps,AZ,ex,hq,hp,q⟩:=q;subst ex;obtain⟨u,eu,rx⟩:=vals1 r;subst eu;cases rx;obtain⟨its,rv,pl,hz⟩:=I.list hq;have ei:=d_ rv;subst ei;rw[BP] at hz;obtain⟨prs,rel,hl,hpr⟩:=qB I hp;obtain⟨o,n,ho,hc,hd,Sw⟩:=pl;refine Ya (prs:=prs) hu (I.ok.hd ADJ) ho hc hd Sw (by simp[hl]) (by rw[hl];exact hz) (λj q' e=> ?_) λh' tk tD k=> ?_
 ·obtain⟨b,e1,e2,e3⟩:=hpr j q' e;exact⟨b,by simp[e1],e2,e3⟩
 ·have hm:(s.heap.objs.size==sysModules)=false:=beq_eq_false_iff_ne.mpr (Ln I.big);have zo:=I.BS.fresh (As s.heap.objs.size);have hlen:(Jc [] AZ).length<=sizeLine:=by
   refine A6 (R4 AZ []) ?_;have:AZ.length=prs.length:=Paired.length rel;rw[Nd,KD,this,hl];exact hz
  obtain⟨od,es,ep,a1,a2,a3,a4,a5⟩:=tD;refine⟨.ref s.heap.objs.size,upd H s.heap.objs.size (.dT (Jc [] AZ)),I.laid (t':=tk) k (As _) ⟨hlen,hm,p_ [] prs,KT.keeps (KT.merge rel .nil) λc ys ec=> ?_,od,es,ep,a1,a2,a3,a4,a5⟩,AA,q _ zo⟩;rw[AS (AQ ec zo)];exact ec
end
end
section
theorem qC{K:Ab}{a:Addr}{xs:List V}{g:TG}{tb:TS}{D:Ends}{σ:L2.St}{H:Hp}(Pv:Nat->L2.St->Hp->Prop)(h0:Pv 0 σ H)(hl:∀i σ H,i<=xs.length->Pv i σ H->A_ K H a xs)
  (hs:∀i x T σ H,xs[i]? =some x->Pv i σ H->H T=none->g (.ref T) σ (upd H T (.tup [.int (i:Nat),x])) λσ2 H2=>tb {D with nx:=Pv (i+1),ct:=Pv (i+1),bk:=D.nx} σ2 H2) (hd:∀σ H,Pv xs.length σ H->D.nx σ H):
  ∃W:Nat->Nat->L2.St->Hp->Prop,(∃m,W 0 m σ H)/\∀i m σ H,W i m σ H->
   ((Ite K a).stop i H/\D.nx σ H)\/((Ite K a).go i H/\∃N:L2.St->Hp->Prop,(∀σ' H',N σ' H'->∃m',m'<m/\W (i+1) m' σ' H')/\∀x H',(Ite K a).ah i H x H'->g x σ H' λσ2 H2=>tb {D with nx:=N,ct:=N,bk:=D.nx} σ2 H2):=by
 refine⟨λi m σ H=>m=xs.length - i/\i<=xs.length/\Pv i σ H,⟨xs.length,by simp,BR _,h0⟩,?_⟩;rintro i m σ H ⟨rfl,hi,p⟩;have q:=hl i σ H hi p;by_cases IA:i<xs.length
 ·refine .inr ⟨⟨xs,xs[i],q,by simp[IA]⟩,Pv (i+1),λσ' H' p'=>⟨xs.length - (i+1),(),rfl,IA,p'⟩,λx H' y=> ?_⟩;obtain⟨T,z,e1,e2,e3,y⟩:=y;subst e1 e3;exact hs i z T σ _ (y xs q) p e2
 ·have e:i=xs.length:=by omega
  subst e;exact .inl ⟨⟨xs,q,As _⟩,hd σ H p⟩
theorem bo{d:Addr}{o:Obj}{AZ:List (List Key×V)}{g:TG}{tb:TS}{D:Ends}{σ:L2.St}{H:Hp}(Pv:Nat->L2.St->Hp->Prop)(h0:Pv 0 σ H)(hl:∀i σ H,i<=AZ.length->Pv i σ H->H d=some (.DW o (.dT AZ)))
  (hs:∀i k v T q σ H,AZ[i]? =some (k,v)->Pv i σ H->H T=none->H q=some (.tup (k.map kV))->g (.ref T) σ (upd H T (.tup [.ref q,v])) λσ2 H2=>tb {D with nx:=Pv (i+1),ct:=Pv (i+1),bk:=D.nx} σ2 H2) (hd:∀σ H,Pv AZ.length σ H->D.nx σ H):
  ∃W:Nat->Nat->L2.St->Hp->Prop,(∃m,W 0 m σ H)/\∀i m σ H,W i m σ H->
   ((p7 d o AZ).stop i H/\D.nx σ H)\/((p7 d o AZ).go i H/\∃N:L2.St->Hp->Prop,(∀σ' H',N σ' H'->∃m',m'<m/\W (i+1) m' σ' H')/\∀x H',(p7 d o AZ).ah i H x H'->g x σ H' λσ2 H2=>tb {D with nx:=N,ct:=N,bk:=D.nx} σ2 H2):=by
 refine⟨λi m σ H=>m=AZ.length - i/\i<=AZ.length/\Pv i σ H,⟨AZ.length,by simp,BR _,h0⟩,?_⟩;rintro i m σ H ⟨rfl,hi,p⟩;have q:=hl i σ H hi p;by_cases IA:i<AZ.length
 ·refine .inr ⟨⟨q,IA⟩,Pv (i+1),λσ' H' p'=>⟨AZ.length - (i+1),(),rfl,IA,p'⟩,λx H' y=> ?_⟩;obtain⟨T,z,k,v,e0,e1,e2,e3,e4⟩:=y;subst e1 e4;exact hs i k v T z σ _ e0 p e2 e3
 ·have e:i=AZ.length:=by omega
  subst e;exact .inl ⟨⟨q,As _⟩,hd σ H p⟩
theorem qD{d:Addr}{o:Obj}{AZ:List (List Key×V)}{g:TG}{tt:TT}{te:TE}{vs:List Nat}{σ:L2.St}{H1:Hp}{D:Addr}{Qd:Hp->Prop}(Pv:Nat->Hp->Prop)(h0:Pv 0 (upd H1 D (.lst [])))(hl:∀i H,i<=AZ.length->Pv i H->H d=some (.DW o (.dT AZ)))
  (hs:∀i k v q H,AZ[i]? =some (k,v)->Pv i H->H q=some (.tup (k.map kV))->g (.ref q) (wipe σ vs) H λσ2 H2=>wipe σ2 vs=wipe σ vs/\tt σ2 H2 λb H3=>
   if b=true then te σ2 H3 λy H4=>∃acc,H4 D=some (.lst acc)/\acc.length<sizeLine/\Pv (i+1) (upd H4 D (.lst (acc++ [y]))) else Pv (i+1) H3) (hd:∀H,Pv AZ.length H->Qd H):
  ∃W:Nat->Nat->Hp->Prop,(∃m,W 0 m (upd H1 D (.lst [])))/\∀i m H,W i m H->
   ((Xy d o AZ).stop i H/\Qd H)\/((Xy d o AZ).go i H/\∃Nx:Hp->Prop,(∀H',Nx H'->∃m',m'<m/\W (i+1) m' H')/\∀x H',(Xy d o AZ).ah i H x H'->g x (wipe σ vs) H' λσ2 H2=>wipe σ2 vs=wipe σ vs/\tt σ2 H2 λb H3=>
    if b=true then te σ2 H3 λy H4=>∃acc,H4 D=some (.lst acc)/\acc.length<sizeLine/\Nx (upd H4 D (.lst (acc++ [y]))) else Nx H3):=by
 refine⟨λi m H=>m=AZ.length - i/\i<=AZ.length/\Pv i H,⟨AZ.length,by simp,BR _,h0⟩,?_⟩;rintro i m H ⟨rfl,hi,p⟩;have q:=hl i H hi p;by_cases IA:i<AZ.length
 ·refine .inr ⟨⟨q,IA⟩,Pv (i+1),λH' p'=>⟨AZ.length - (i+1),(),rfl,IA,p'⟩,λx H' y=> ?_⟩;obtain⟨e,k,v,z,e0,e1,e2⟩:=y;subst e e1;exact hs i k v z _ e0 p e2
 ·have e:i=AZ.length:=by omega
  subst e;exact .inl ⟨⟨q,As _⟩,hd H p⟩
end
local macro_rules|`(#[])=>`(MH P w K mg base)|`(#[$x])=>`(A0 $x By)|`(#[$x,$xs,*])=>`(A0 $x #[$xs,*])
local macro_rules|`($n:num>>$x)=>`(L7 (i:=$n) nd rfl (Or.inl rfl) $x)
local macro_rules|`(tactic|exists $x)=>`(tactic|refine D.has $x (fun vs H Q E h=> ?_) (fun f CL A outer st H vs Q E hr h=> ?_))
local macro_rules|`(tactic|exists 0,$x)=>`(tactic|refine mkQ D $x rfl fun f CL A outer st H p kl c h as Q E hr hl hC g q=> ?_)
section
structure An(P:Program)(w:World)(K:Ab)(mg:Str->Option Value)(base:Heap)(C:Addr)(k:Nat)(m:Str)(ps:List Str)(sp:Sp):Prop where
 ex:∃f fd,Meth K C m f/\GJ P w K mg base eJ k f fd ps sp/\Binds K fd ps []
structure A1(K:Ab)(C:Addr)(m qual:Str)(st:Stmt)(ps:List Str):Prop where
 ex:∃f fd,Meth K C m f/\uR K m qual st f fd/\Binds K fd ps []
section
variable{C:Addr}
theorem A1.has{m qual:Str}{st:Stmt}{N ps:List Str}{k:Nat}{sp:Sp}(D:A1 K C m qual st ps)(S:HU N ps (BE st))(len:∀vs H Q E,sp vs H Q E->vs.length=ps.length)
  (Q8:∀(f:Addr) (CL:Value) (A:Around) (outer:List Env) (s:Shared) (H:Hp) (vs:List V) (Q:VK) (E:XK),DD k (A.deeper (envOfC qual (BE st) s.heap.objs.size f CL))->sp vs H Q E->
   ∃t,XU (Su eJ P w K mg base N qual (BE st) f CL A outer s H E).wj (FV st) t/\t {nx:=λ_ H'=>Q .Dg H',rt:=Q} (start N vs) H):An P w K mg base C (k+1) m ps sp:=by
 obtain⟨f,fd,me,F,b⟩:=D.ex;exact⟨f,fd,me,F.ok S len λCL A outer s H vs Q E hr h=>Q8 f CL A outer s H vs Q E hr h,b⟩
theorem An.mono{j k:Nat}{m:Str}{ps:List Str}{sp:Sp}(h:An P w K mg base C j m ps sp)(hj:j<=k):An P w K mg base C k m ps sp:=
 let⟨f,fd,me,F,b⟩:=h.ex;⟨f,fd,me,F.mono hj,b⟩
theorem An.imp{k:Nat}{m:Str}{ps:List Str}{sp wu:Sp}(h:An P w K mg base C k m ps sp)(i:∀vs H Q E,wu vs H Q E->sp vs H Q E):An P w K mg base C k m ps wu:=
 let⟨f,fd,me,F,b⟩:=h.ex;⟨f,fd,me,F.imp i,b⟩
end
section
variable{X:Cx}{k j:Nat}{m:Str}{ps:List Str}{sp:Sp}{o e:Expr}{es:List Expr}{ta:TE}{t:TA}{pos apos:Pos}{C:Addr}
theorem BG{pl:Sem Bool}(h:An X.prog X.w X.K X.mg X.base C k m ps sp)(c:XM X.K C)(hr:DD j X.A)(he:PE X o ta)(ha:PA X (e::es) t)(hj:k<=j:=by decide)
  (tf:starEach (e::es) X.env=(false,eval e X.env)::starEach es X.env:=by rfl) (Dn:(backTo pos (starEach es X.env)).any (·.1)=false:=by rfl)
  (ht:eval (.Call (.Attribute o m apos) (e::es) [] pos) X.env=(do
   let ov←eval o X.env
   standAt apos.atName
   let(f,first)←holding [ov] (getMethod ov m pl)
   callWith pos f first (backTo pos (starEach (e::es) X.env)) (backToKw pos (keywordEach [] X.env))):=by rfl):
  PE X (.Call (.Attribute o m apos) (e::es) [] pos) (Xc C m sp [] E0 ta t):=
 let⟨_,_,me,F,b⟩:=h.ex
 t7 he c me F (hr.mono hj) b .nil O_ ha tf Dn ht
theorem EI{pl:Sem Bool}(h:An X.prog X.w X.K X.mg X.base C k m ps sp)(c:XM X.K C)(hr:DD j X.A)(he:PE X o ta)(hj:k<=j:=by decide)
  (ht:eval (.Call (.Attribute o m apos) [] [] pos) X.env=(do
   let ov←eval o X.env
   standAt apos.atName
   let(f,first)←holding [ov] (getMethod ov m pl)
   callWith pos f first (backTo pos (starEach [] X.env)) (backToKw pos (keywordEach [] X.env))):=by rfl):
  PE X (.Call (.Attribute o m apos) [] [] pos) (Xc C m sp [] E0 ta IM):=
 let⟨_,_,me,F,b⟩:=h.ex
 oC he c me F (hr.mono hj) b .nil O_ ht
end
def oF(x y z:V):List (Str×V):= [("days",x),("fine",y),("reckoned",z)]
structure Ud(K:Ab)(mg:Str->Option Value)(C:Addr):Prop where
 cl:XM K C
 mgC:mg "Outlook"=some (.ref C)
 nD:BC K C "days"
 nF:BC K C "fine"
 nR:BC K C "reckoned"
def Ext(d:Addr)(H H':Hp):Prop:=∀a u,H a=some u->a≠d->H' a=some u
theorem Ext.refl(d:Addr)(H:Hp):Ext d H H:=λ_ _ h _=>h
theorem Ext.trans{d:Addr}{H H1 H2:Hp}(a:Ext d H H1)(b:Ext d H1 H2):Ext d H H2:=λx u h n=>b x u (a x u h n) n
theorem Ext.of{d:Addr}{H H':Hp}(s:Ag H H'):Ext d H H':=λx u h _=>s x u h
def nV(n:Nat):V:= .int (n:Int)
def BY(days:List Nat):List V:=days.map nV
structure Memo(K:Ab)(H:Hp)(b:Nat)(days:List Nat)(AZ:List (List Key×V)):Prop where
 nd:(AZ.map (·.1)).Nodup
 at_:∀e∈AZ,∃t m k:Nat,t<days.length/\m<=8/\k<=8/\e.1= [Ck (t:Int),Ck (m:Int),Ck (k:Int)]/\A8 K H e.2 (wR b (days.drop t) m k)
structure CZ(K:Ab)(C:Addr)(H:Hp)(o d:Addr)(b:Nat)(days:List Nat):Prop where
 EX:days.length<=8
 pos:0<b
 sz:∀t m k,Sz 300 (wR b (days.drop t) m k)
 ub:∀u∈days,u<=3
 bb:b<=99
 ob:∃dx l,H o=some (.ins C dx (oF (.ref l) (nV b) (.ref d)))/\A_ K H l (BY days)
 me:∃AZ,H d=some (.dT AZ)/\Memo K H b days AZ
theorem A_.ext{K:Ab}{d:Addr}{H H':Hp}{a:Addr}{xs:List V}{AZ:List (List Key×V)}(h:A_ K H a xs)(e:Ext d H H')(hd:H d=some (.dT AZ)):A_ K H' a xs:=by
 rcases h with h|h
 ·refine .inl ?_;rcases h with h|⟨o,h⟩
  ·exact .inl (e _ _ h (Ao h hd (by intro z;cases z)))
  ·exact .inr ⟨o,e _ _ h (Ao h hd (by intro z;cases z))⟩
 ·exact .inr h
theorem Bi.ext{K:Ab}{d:Addr}{H H':Hp}{a:Addr}{xs:List V}{AZ:List (List Key×V)}(h:Bi K H a xs)(e:Ext d H H')(hd:H d=some (.dT AZ)):Bi K H' a xs:=by
 rcases h with h|h
 ·refine .inl ?_;rcases h with h|⟨o,h⟩
  ·exact .inl (e _ _ h (Ao h hd (by intro z;cases z)))
  ·exact .inr ⟨o,e _ _ h (Ao h hd (by intro z;cases z))⟩
 ·exact .inr h
theorem A8.ext{K:Ab}{d:Addr}{H H':Hp}{v:V}{r:Rat}{AZ:List (List Key×V)}(h:A8 K H v r)(e:Ext d H H')(hd:H d=some (.dT AZ)):A8 K H' v r:=
 let⟨a,ev,q⟩:=h;⟨a,ev,Bi.ext q e hd⟩
theorem Memo.same{K:Ab}{H H':Hp}{b:Nat}{days:List Nat}{AZ:List (List Key×V)}(M:Memo K H b days AZ)(s:∀v r,A8 K H v r->A8 K H' v r):Memo K H' b days AZ:=
 ⟨M.nd,λe he=>let⟨t,m,k,h1,h2,h3,h4,h5⟩:=M.at_ e he;⟨t,m,k,h1,h2,h3,h4,s _ _ h5⟩⟩
section
variable{K:Ab}{C:Addr}{H H':Hp}{o d:Addr}{b:Nat}{days:List Nat}
theorem CZ.same(O:CZ K C H o d b days)(s:Ag H H'):CZ K C H' o d b days:=by
 obtain⟨dx,l,h1,h2⟩:=O.ob;obtain⟨AZ,h3,h4⟩:=O.me;exact⟨O.EX,O.pos,O.sz,O.ub,O.bb,⟨dx,l,s _ _ h1,s.seq h2⟩,⟨AZ,s _ _ h3,h4.same λv r q=>q.same s⟩⟩
theorem A8.out(O:CZ K C H o d b days){v:V}{r:Rat}(h:A8 K H v r)(e:Ext d H H'):A8 K H' v r:=
 let⟨_,h3,_⟩:=O.me;h.ext e h3
end
inductive Pq(K:Ab)(C:Addr)(n:Nat)(pre:List Nat->Nat->Nat->Nat->Prop)(g:Nat->List Nat->Nat->Nat->Nat->Rat):Sp
 |mk (o d:Addr) (b:Nat) (days:List Nat) (t m k:Nat):vs= [.ref o,nV t,nV m,nV k]->CZ K C H o d b days->days.length<=t+n->m<=8->k<=8->pre days t m k->(∀v H',Ext d H H'->CZ K C H' o d b days->A8 K H' v (g b days t m k)->Q v H')->Pq K C n pre g vs H Q DJ
def pW:List Nat->Nat->Nat->Nat->Prop:=λdays t _ _=>t<=days.length
def gW:Nat->List Nat->Nat->Nat->Nat->Rat:=λb days t m k=>wR b (days.drop t) m k
def pN:List Nat->Nat->Nat->Nat->Prop:=λdays t _ _=>t<days.length
def gN:Nat->List Nat->Nat->Nat->Nat->Rat:=λb days t m k=>wR b (days.drop (t+1)) m k
variable{C:Addr}
theorem ip{n k:Nat}(T:Ud K mg C)(D:A1 K C "neither" "Outlook.neither" Cr EH)(W:An P w K mg base C k "worth" EH (Pq K C n pW gW)):
  An P w K mg base C (k+1) "neither" EH (Pq K C (n+1) pN gN):=by
 exists Mm
 ·obtain⟨o,d,b,days,t,m,k,rfl,_⟩:=h;rfl
 obtain⟨o,d,b,days,t,m,k,rfl,O,hn,hm,hk,hp,q⟩:=h;refine⟨_,AK (AO (BG W T.cl hr (pv 0) #[Ay EW (pv 1) AU,pv 2,pv 3] (As _))),?_⟩;obtain⟨dx,l,h1,h2⟩:=O.ob;refine⟨_,AA,o,dx,_,AA,h1,AA,_,AA,_,_,AA,AA,_,AA,_,AA,o,d,b,days,t+1,m,k,AA,O,(),hm,hk,hp,q⟩
end
section
variable{C:Addr}
structure HC(P:Program)(w:World)(K:Ab)(mg:Str->Option Value)(base:Heap):Prop where
 plus:#[] 3 "plus" B6 (M8 K (λ_ _=>True) (λr s=>r+s))
 minus:#[] 3 "minus" B6 (M8 K (λ_ _=>True) (λr s=>r - s))
 times:#[] 3 "times" B6 (M8 K (λ_ _=>True) (λr s=>r*s))
 divided:#[] 3 "divided" B6 (M8 K (λ_ s=>0<s) (λr s=>r / s))
 less:#[] 1 "is_less" B6 (R1 K)
 whole:#[] 1 "from_whole" iO (WN K)
 told:#[] 1 "told_ratios" iQ (WQ K)
 mixed:#[] 4 "mixed" iP (pz K)
 greater:#[] 2 "greater" B6 (YW K λr s=>if r<s then s else r)
 AAR:#[] 2 "lesser" B6 (YW K λr s=>if r<s then r else s)
 ratio:#[] 2 "ratio" RU (Gf K)
 zero:GQ K mg "ZERO" 0
 one:GQ K mg "ONE" 1
abbrev FD:List Str:= EH
theorem WR{k k':Nat}(h:k=k'+1):V.int ((k:Int) - 1)=nV k':=by
 subst h;unfold nV;congr 1;omega
theorem C0{n:Nat}{r:Rat}(h:Sz n r)(e:n<=4000:=by decide):Ok r:=h.mono e
theorem Jd{days:List Nat}{t:Nat}(h:t<days.length):∃u,days[t]? =some u/\days.drop t=u::days.drop (t+1)/\u∈days/\oK (BY days) (t:Int)=some (nV u):=by
 refine⟨days[t],Gk h,j' h,kN h,Mc ?_⟩;unfold BY;rw[J',Gk h];rfl
def jq(days:List Nat)(t:Nat):Nat:=days.getD t 0
theorem Kl{days:List Nat}{t u:Nat}(h:days[t]? =some u):jq days t=u:=by
 unfold jq;rw[Ts,h];rfl
def pU:List Nat->Nat->Nat->Nat->Prop:=λdays t _ k=>t<days.length/\0<k
def gU:Nat->List Nat->Nat->Nat->Nat->Rat:=λb days t m k=>(jq days t:Rat)+wR b (days.drop (t+1)) m (k - 1)
def pWt:List Nat->Nat->Nat->Nat->Prop:=λdays t m _=>t<days.length/\0<m
def R5:Nat->List Nat->Nat->Nat->Nat->Rat:=λb days t m k=>wR b (days.drop (t+1)) (m - 1) k
theorem szU{H:Hp}{o d:Addr}{b:Nat}{days:List Nat}(O:CZ K C H o d b days){t:Nat}(m k:Nat)(h:t<days.length):Sz 304 (gU b days t m k):=by
 obtain⟨u,hu,_,AAS,_⟩:=Jd h;have h3:=O.ub u AAS;unfold gU;rw[Kl hu];exact(Sz.nat (n:=3) (show u<2^3 by omega) (())).add (O.sz (t+1) m (k - 1))
section
variable{n k:Nat}(T:Ud K mg C)(R:HC P w K mg base)
include T R
theorem qE(D:A1 K C "waited" "Outlook.waited" DH FD)(W:An P w K mg base C k "worth" FD (Pq K C n pW gW)):An P w K mg base C (k+1) "waited" FD (Pq K C (n+1) pWt R5):=by
 exists OK
 ·obtain⟨o,d,b,days,t,m,k,rfl,_⟩:=h;rfl
 obtain⟨o,d,b,days,t,m,k,rfl,O,hn,hm,hk,⟨hp,RE⟩,q⟩:=h;refine⟨_,AK (AO (BG W T.cl hr (pv 0) #[Ay EW (pv 1) AU,Ay Er (pv 2) AU,pv 3] (As _))),?_⟩;obtain⟨dx,l,h1,h2⟩:=O.ob;obtain⟨m',rfl⟩:∃m',m=m'+1:=⟨m - 1,()⟩;refine⟨_,AA,o,dx,_,AA,h1,AA,_,AA,_,_,AA,AA,_,AA,_,_,AA,AA,_,AA,o,d,b,days,t+1,m',k,?_,O,(),(),hk,hp,q⟩;rw[←WR (k:=m'+1) rfl];rfl
theorem qF(h3:3<=k)(D:A1 K C "unseen" "Outlook.unseen" DI FD)(W:An P w K mg base C k "worth" FD (Pq K C n pW gW)):An P w K mg base C (k+1) "unseen" FD (Pq K C (n+1) pU gU):=by
 exists OM
 ·obtain⟨o,d,b,days,t,m,k,rfl,_⟩:=h;rfl
 obtain⟨o,d,b,days,t,m,k,rfl,O,hn,hm,hk,⟨hp,RE⟩,q⟩:=h;refine⟨_,AK (AO (AV R.plus hr #[AV R.whole hr #[BM D4 (AY (pv 0) rfl) (pv 1) (λ_ _=>rfl)] (),BG W T.cl hr (pv 0) #[Ay EW (pv 1) AU,pv 2,Ay Er (pv 3) AU] (As _)] ())),?_⟩
 obtain⟨dx,l,h1,h2⟩:=O.ob;obtain⟨u,hu,_,AAS,qG⟩:=Jd hp;obtain⟨k',rfl⟩:∃k',k=k'+1:=⟨k - 1,()⟩;refine⟨_,AA,o,C,dx,_,_,AA,h1,T.cl,T.nD,AA,_,AA,l,_,_,_,AA,AA,h2,qG,(u:Int),AA,λv1 H1 s1 q1=> ?_⟩;refine⟨_,AA,o,dx,_,AA,s1 _ _ h1,AA,_,AA,_,_,AA,AA,_,AA,_,AA,_,_,AA,AA,o,d,b,days,t+1,m,k',?_,O.same s1,(),hm,(),hp,λv2 H2 e2 O2 q2=> ?_⟩
 ·rw[←WR (k:=k'+1) rfl];rfl
 have hu3:=O.ub u AAS;refine⟨v1,v2,_,_,AA,A8.out (O.same s1) q1 e2,q2,C0 (Sz.nat (n:=3) (show u<2^3 by omega) (())),C0 (O.sz _ _ _),trivial,λv H' s q3=> ?_⟩;refine q v H' ((Ext.of s1).trans (e2.trans (Ext.of s))) (O2.same s) ?_;unfold gU;rw[Kl hu];exact q3
end
inductive bp(K:Ab)(C:Addr):Sp
 |mk (o d:Addr) (b:Nat) (days:List Nat):vs= [.ref o]->CZ K C H o d b days->(∀v H',Ag H H'->A8 K H' v (-(b:Rat))->Q v H')->bp K C vs H Q DJ
theorem AAT(T:Ud K mg C)(R:HC P w K mg base)(D:A1 K C "seen" "Outlook.seen" Dr BX):An P w K mg base C 2 "seen" BX (bp K C):=by
 exists Rb
 ·obtain⟨o,d,b,days,rfl,_⟩:=h;rfl
 obtain⟨o,d,b,days,rfl,O,q⟩:=h;refine⟨_,AK (AO (AV R.whole hr #[ACc zT (AY (pv 0) rfl)])),?_⟩;obtain⟨dx,l,h1,h2⟩:=O.ob;refine⟨_,AA,o,C,dx,_,_,AA,h1,T.cl,T.nF,AA,_,AA,-(b:Int),AA,λv H' s q1=>q v H' s ?_⟩;have e:((-(b:Int):Int):Rat)= -(b:Rat):=by push_cast;rfl
 rw[e] at q1;exact q1
end
section
variable{C:Addr}
abbrev tT(b:Nat)(days:List Nat)(t m k:Nat):Prop:=tR b (jq days t) (days.drop (t+1)) m k
inductive M9(K:Ab)(C:Addr)(n:Nat):Sp
 |mk (o d:Addr) (b:Nat) (days:List Nat) (t m k:Nat):vs= [.ref o,nV t,nV m,nV k]->CZ K C H o d b days->days.length<=t+n->m<=8->k<=8->t<days.length->(∀H',Ext d H H'->CZ K C H' o d b days->Q (.bl (decide (tT b days t m k))) H')->M9 K C n vs H Q DJ
structure R6(P:Program)(w:World)(K:Ab)(mg:Str->Option Value)(base:Heap)(C:Addr)(n k:Nat):Prop where
 E9:An P w K mg base C (k+1) "waited" FD (Pq K C (n+1) pWt R5)
 unseen:An P w K mg base C (k+1) "unseen" FD (Pq K C (n+1) pU gU)
 Fl:An P w K mg base C (k+1) "neither" FD (Pq K C (n+1) pN gN)
 seen:An P w K mg base C 2 "seen" BX (bp K C)
section
variable{n k:Nat}(T:Ud K mg C)(R:HC P w K mg base)(h3:3<=k)(G:R6 P w K mg base C n k)
include T R h3 G
theorem R7(D:A1 K C "is_tempting" "Outlook.is_tempting" Bm FD):An P w K mg base C (k+2) "is_tempting" FD (M9 K C (n+1)):=by
 exists J0
 ·obtain⟨o,d,b,days,t,m,k,rfl,_⟩:=h;rfl
 obtain⟨o,d,b,days,t,m,k,rfl,O,hn,hm,hk,hp,q⟩:=h;refine⟨_,AF (Aj (Af B_ (pv 3) AU (Ai _)) (AK (AO ACP)) Aa)
  (AK (AO (AV R.less hr #[BG G.Fl T.cl hr (pv 0) #[pv 1,pv 2,pv 3] (),BG G.unseen T.cl hr (pv 0) #[pv 1,pv 2,pv 3] ()] ()))),?_⟩
 obtain⟨dx,l,h1,h2⟩:=O.ob;refine⟨_,AA,AA,_,AA,?_⟩;refine BF (λc=> ?_) (λc=> ?_)
 ·have c':k=0:=by have:=AM c;injection this with z;omega
  have e:decide (tT b days t m k)=false:=AL λz=>z.1 c';have z:=q H (Ext.refl _ _) O;rw[e] at z;exact z
 ·have c':¬k=0:=λz=>c (by subst z;exact AH rfl);refine⟨_,AA,o,dx,_,AA,h1,AA,_,AA,_,AA,_,AA,o,d,b,days,t,m,k,AA,O,hn,hm,hk,hp,λv1 H1 e1 O1 q1=> ?_⟩;obtain⟨TJ,l1,bq,XO⟩:=O1.ob;refine⟨_,AA,o,TJ,_,AA,bq,AA,_,AA,_,AA,_,AA,o,d,b,days,t,m,k,AA,O1,hn,hm,hk,⟨hp,()⟩,λv2 H2 e2 O2 q2=> ?_⟩;refine⟨v1,v2,_,_,AA,A8.out O1 q1 e2,q2,C0 (O.sz _ _ _),C0 (szU O m k hp),?_⟩;have e:decide (gN b days t m k<gU b days t m k)=decide (tT b days t m k):=by
   congr 1;exact propext ⟨λz=>⟨c',z⟩,λz=>z.2⟩
  rw[e];exact q H2 (e1.trans e2) O2
end
end
section
variable{C:Addr}
def gL:Nat->List Nat->Nat->Nat->Nat->Rat:=λb days t m k=>lR b (days.drop t) m k
def gD:Nat->List Nat->Nat->Nat->Nat->Rat:=λb days t m k=>dR b (days.drop t) m k
theorem qH{b:Nat}{days:List Nat}{t:Nat}(m k:Nat)(h:t<days.length):
  gL b days t m k=if m=0\/¬tT b days t m k then 0 else(gU b days t m k - gN b days t m k) / ((gU b days t m k - gN b days t m k)+(R5 b days t m k - -(b:Rat))):=by
 obtain⟨u,hu,hd,_,_⟩:=Jd h;have e:=Kl hu;unfold gL gU gN R5 tT;rw[hd,e];show(if m=0\/¬tR b u (days.drop (t+1)) m k then(0:Rat) else _)=_;split
 ·rfl
 ·congr 1;grind
theorem ADK{b:Nat}{days:List Nat}{t:Nat}(m k:Nat)(h:t<days.length):
  gD b days t m k=if¬tT b days t m k then 0 else if m=0 then 1 else(R5 b days t m k - gN b days t m k) / ((R5 b days t m k - gN b days t m k)+(gU b days t m k - -(b:Rat))):=by
 obtain⟨u,hu,hd,_,_⟩:=Jd h;have e:=Kl hu;unfold gD gU gN R5 tT;rw[hd,e];show(if¬tR b u (days.drop (t+1)) m k then(0:Rat) else if m=0 then 1 else _)=_;split
 ·rfl
 ·split
  ·rfl
  ·congr 1;grind
section
variable{H:Hp}{o d:Addr}{b:Nat}{days:List Nat}
theorem szB(O:CZ K C H o d b days):Sz 7 (-(b:Rat)):=(Sz.nat (n:=7) (show b<2^7 by have:=O.bb;omega) (())).neg
theorem den_pos(O:CZ K C H o d b days){t m k:Nat}(h:tT b days t m k):0< (gU b days t m k - gN b days t m k)+(R5 b days t m k - -(b:Rat)):=by
 have h1:gN b days t m k<gU b days t m k:=h.2;have h2:0<=R5 b days t m k:=DO O.pos _ _ _;have h4:=BO O.pos;grind
theorem qJ(O:CZ K C H o d b days){t m k:Nat}(h:tT b days t m k):0< (R5 b days t m k - gN b days t m k)+(gU b days t m k - -(b:Rat)):=by
 have h1:gN b days t m k<gU b days t m k:=h.2;have h2:0<=R5 b days t m k:=DO O.pos _ _ _;have h4:=BO O.pos;grind
end
section
variable{n k:Nat}(T:Ud K mg C)(R:HC P w K mg base)(h3:3<=k)(G:R6 P w K mg base C n k)(TT:An P w K mg base C (k+2) "is_tempting" FD (M9 K C (n+1)))
include T R h3 G TT
theorem qK(D:A1 K C "look_chance" "Outlook.look_chance" Bn FD):An P w K mg base C (k+3) "look_chance" FD (Pq K C (n+1) pN gL):=by
 exists FG
 ·obtain⟨o,d,b,days,t,m,k,rfl,_⟩:=h;rfl
 obtain⟨o,d,b,days,t,m,k,rfl,O,hn,hm,hk,hp,q⟩:=h;have nd:=FG.nd;refine⟨_,AF (Aj (Ep (Af B_ (pv 2) AU (Ai _)) (FP (BN (CU (BG TT T.cl hr (pv 0) #[pv 1,pv 2,pv 3] ()))))).pt (AK (AO (Sm R.zero))) Aa)
  (AF (4>>AV R.minus hr #[BG G.unseen T.cl hr (pv 0) #[pv 1,pv 2,pv 3] (),BG G.Fl T.cl hr (pv 0) #[pv 1,pv 2,pv 3] ()] ())
  (AF (5>>AV R.minus hr #[BG G.E9 T.cl hr (pv 0) #[pv 1,pv 2,pv 3] (),EI G.seen T.cl hr (pv 0) ()] ())
  (AK (AO (AV R.divided hr #[pv 4,AV R.plus hr #[pv 4,pv 5] ()] ()))))),?_⟩
 obtain⟨dx,l,h1,h2⟩:=O.ob;have e0:=qH (b:=b) m k hp;have zero:∀H',Ext d H H'->CZ K C H' o d b days->(m=0\/¬tT b days t m k)->∀v,(∀uu,A8 K uu v 0)->Q v H':=λH' e1 O1 c v hv=>q v H' e1 O1 (by rw[e0,AG c];exact hv H');refine⟨_,AA,AA,_,AA,?_⟩;refine BF (λc=> ?_) (λc=> ?_)
 ·have c':m=0:=by have:=AM c;injection this with z;omega
  exact Au (zero H (Ext.refl _ _) O (.inl c'))
 have c':¬m=0:=λz=>c (by subst z;exact AH rfl);refine⟨_,AA,o,dx,_,AA,h1,AA,_,AA,_,AA,_,AA,o,d,b,days,t,m,k,AA,O,hn,hm,hk,hp,λH1 e1 O1=>⟨_,AA,?_⟩⟩;by_cases ht:tT b days t m k
 ·rw[AH ht];refine A' ?_;have a_:=ht.1;obtain⟨TJ,l1,bq,XO⟩:=O1.ob;refine⟨_,AA,o,TJ,_,AA,bq,AA,_,AA,_,AA,_,AA,o,d,b,days,t,m,k,AA,O1,hn,hm,hk,⟨hp,()⟩,λv2 H2 e2 O2 q2=> ?_⟩;obtain⟨uv,l2,uw,h22⟩:=O2.ob;refine⟨_,AA,o,uv,_,AA,uw,AA,_,AA,_,AA,_,AA,o,d,b,days,t,m,k,AA,O2,hn,hm,hk,hp,λv3 H3 e3 O3 q3=> ?_⟩;have zU:=szU O m k hp;have zN:Sz 300 (gN b days t m k):=O.sz _ _ _;have zW:Sz 300 (R5 b days t m k):=O.sz _ _ _;refine⟨v2,v3,_,_,AA,A8.out O2 q2 e3,q3,C0 zU,C0 zN,trivial,λv4 H4 s4 q4=> ?_⟩;have O4:=O3.same s4;obtain⟨dx4,l4,h41,h42⟩:=O4.ob;refine⟨_,AA,o,dx4,_,AA,h41,AA,_,AA,_,AA,_,AA,o,d,b,days,t,m,k,AA,O4,hn,hm,hk,⟨hp,()⟩,λv5 H5 e5 O5 q5=> ?_⟩;obtain⟨dx5,l5,h51,h52⟩:=O5.ob;refine⟨_,AA,o,dx5,_,AA,h51,AA,o,d,b,days,AA,O5,λv6 H6 s6 q6=> ?_⟩;have O6:=O5.same s6;refine⟨v5,v6,_,_,AA,q5.same s6,q6,C0 zW,C0 (szB O),trivial,λv7 H7 s7 q7=> ?_⟩;have q4':=(A8.out O4 q4 e5).same (s6.trans s7);have zg:=zU.sub zN;have zl:=zW.sub (szB O);refine⟨_,AA,_,AA,_,AA,v4,v7,_,_,AA,q4',q7,C0 zg,C0 zl,trivial,λv8 H8 s8 q8=> ?_⟩;refine⟨v4,v8,_,_,AA,q4'.same s8,q8,C0 zg,C0 (zg.add zl),den_pos O ht,λv9 H9 s9 q9=> ?_⟩;refine q v9 H9 (e1.trans (e2.trans (e3.trans ((Ext.of s4).trans (e5.trans (Ext.of (s6.trans (s7.trans (s8.trans s9))))))))) (O6.same (s7.trans (s8.trans s9))) ?_;rw[e0,AB (λz=>z.elim c' λy=>y ht)];exact q9
 ·rw[AL ht];exact Au (zero H1 e1 O1 (.inr ht))
end
end
section
variable{C:Addr}
section
variable{n k:Nat}(T:Ud K mg C)(R:HC P w K mg base)(h3:3<=k)(G:R6 P w K mg base C n k)(TT:An P w K mg base C (k+2) "is_tempting" FD (M9 K C (n+1)))
include T R h3 G TT
theorem AAU(D:A1 K C "dare_chance" "Outlook.dare_chance" Bo FD):An P w K mg base C (k+3) "dare_chance" FD (Pq K C (n+1) pN gD):=by
 exists FH
 ·obtain⟨o,d,b,days,t,m,k,rfl,_⟩:=h;rfl
 obtain⟨o,d,b,days,t,m,k,rfl,O,hn,hm,hk,hp,q⟩:=h;have nd:=FH.nd;refine⟨_,AF (Aj (BN (CU (BG TT T.cl hr (pv 0) #[pv 1,pv 2,pv 3] ()))) (AK (AO (Sm R.zero))) Aa)
  (AF (Aj (Af B_ (pv 2) AU (Ai _)) (AK (AO (Sm R.one))) Aa)
  (AF (4>>AV R.minus hr #[BG G.E9 T.cl hr (pv 0) #[pv 1,pv 2,pv 3] (),BG G.Fl T.cl hr (pv 0) #[pv 1,pv 2,pv 3] ()] ())
  (AF (5>>AV R.minus hr #[BG G.unseen T.cl hr (pv 0) #[pv 1,pv 2,pv 3] (),EI G.seen T.cl hr (pv 0) ()] ())
  (AK (AO (AV R.divided hr #[pv 4,AV R.plus hr #[pv 4,pv 5] ()] ())))))),?_⟩
 obtain⟨dx,l,h1,h2⟩:=O.ob;have e0:=ADK (b:=b) m k hp;refine⟨_,AA,o,dx,_,AA,h1,AA,_,AA,_,AA,_,AA,o,d,b,days,t,m,k,AA,O,hn,hm,hk,hp,λH1 e1 O1=>⟨_,AA,?_⟩⟩;by_cases ht:tT b days t m k
 ·rw[AH ht];refine A' ?_;have a_:=ht.1;refine⟨_,AA,AA,_,AA,?_⟩;refine BF (λc=> ?_) (λc=> ?_)
  ·have c':m=0:=by have:=AM c;injection this with z;omega
   intro v hv;exact q v H1 e1 O1 (by rw[e0,AB (λy=>y ht),AG c'];exact hv H1)
  have c':¬m=0:=λz=>c (by subst z;exact AH rfl);obtain⟨TJ,l1,bq,XO⟩:=O1.ob;refine⟨_,AA,o,TJ,_,AA,bq,AA,_,AA,_,AA,_,AA,o,d,b,days,t,m,k,AA,O1,hn,hm,hk,⟨hp,()⟩,λv2 H2 e2 O2 q2=> ?_⟩;obtain⟨uv,l2,uw,h22⟩:=O2.ob;refine⟨_,AA,o,uv,_,AA,uw,AA,_,AA,_,AA,_,AA,o,d,b,days,t,m,k,AA,O2,hn,hm,hk,hp,λv3 H3 e3 O3 q3=> ?_⟩;have zU:=szU O m k hp;have zN:Sz 300 (gN b days t m k):=O.sz _ _ _;have zW:Sz 300 (R5 b days t m k):=O.sz _ _ _;refine⟨v2,v3,_,_,AA,A8.out O2 q2 e3,q3,C0 zW,C0 zN,trivial,λv4 H4 s4 q4=> ?_⟩;have O4:=O3.same s4;obtain⟨dx4,l4,h41,h42⟩:=O4.ob;refine⟨_,AA,o,dx4,_,AA,h41,AA,_,AA,_,AA,_,AA,o,d,b,days,t,m,k,AA,O4,hn,hm,hk,⟨hp,()⟩,λv5 H5 e5 O5 q5=> ?_⟩;obtain⟨dx5,l5,h51,h52⟩:=O5.ob;refine⟨_,AA,o,dx5,_,AA,h51,AA,o,d,b,days,AA,O5,λv6 H6 s6 q6=> ?_⟩;have O6:=O5.same s6;refine⟨v5,v6,_,_,AA,q5.same s6,q6,C0 zU,C0 (szB O),trivial,λv7 H7 s7 q7=> ?_⟩;have q4':=(A8.out O4 q4 e5).same (s6.trans s7);have zg:=zW.sub zN;have zl:=zU.sub (szB O);refine⟨_,AA,_,AA,_,AA,v4,v7,_,_,AA,q4',q7,C0 zg,C0 zl,trivial,λv8 H8 s8 q8=> ?_⟩;refine⟨v4,v8,_,_,AA,q4'.same s8,q8,C0 zg,C0 (zg.add zl),qJ O ht,λv9 H9 s9 q9=> ?_⟩;refine q v9 H9 (e1.trans (e2.trans (e3.trans ((Ext.of s4).trans (e5.trans (Ext.of (s6.trans (s7.trans (s8.trans s9))))))))) (O6.same (s7.trans (s8.trans s9))) ?_;rw[e0,AB (λy=>y ht),AB c'];exact q9
 ·rw[AL ht];refine Au ?_;intro v hv;exact q v H1 e1 O1 (by rw[e0,AG ht];exact hv H1)
end
theorem ux{b:Nat}{days:List Nat}{t:Nat}(m k:Nat)(h:t<days.length)(hb:0<b):
  wR b (days.drop t) m k=if k=0 then 0 else if tT b days t m k then(if m=0 then gU b days t m k else gL b days t m k*R5 b days t m k+(1 - gL b days t m k)*gN b days t m k) else gN b days t m k:=by
 obtain⟨u,hu,hd,_,_⟩:=Jd h;have e:=Kl hu;have e2:=qH (b:=b) m k h;by_cases hk:k=0
 ·rw[AG hk,hd];simp only[wR];rw[AG hk]
 rw[AB hk];by_cases ht:tT b days t m k
 ·rw[AG ht];have ht2:=ht.2;by_cases hm:m=0
  ·rw[AG hm,hd];simp only[wR];rw[e] at ht2;rw[AB hk,AG ht2,AG hm];unfold gU;rw[e]
  ·rw[AB hm,e2,AB (λz=>z.elim hm λy=>y ht),hd];unfold gU gN R5 at*
   rw[e] at ht2 ⊢;simp only[wR];rw[AB hk,AG ht2,AB hm];grind
 ·rw[AB ht,hd];simp only[wR];rw[AB hk,AB (λz=>ht ⟨hk,by rw[e];exact z⟩)];rfl
end
section
variable{C:Addr}
section
variable{κ:Type} [DecidableEq κ]
theorem R8{k:κ}{v:V}:∀{AZ:List (κ×V)},EG AZ k=some v->(k,v)∈AZ
 | [],h=>by cases h
 |p::r,h=>by
  by_cases e:p.1=k
  ·rw[CW e] at h;obtain rfl:p.2=v:=Bl h;subst e;exact Bw
  ·rw[CY e] at h;exact Bb _ (R8 h)
theorem qL{AZ:List (κ×V)}{k:κ}{v:V}{e:κ×V}(h:e∈putK AZ k v):e=(k,v)\/e∈AZ:=by
 unfold putK at h;split at h
 ·obtain⟨x,hx,rfl⟩:=Fp.mp h;by_cases hk:x.1=k
  ·rw[AG hk,hk];exact .inl rfl
  ·rw[AB hk];exact .inr hx
 ·rcases Eb.mp h with h|h
  ·exact .inr h
  ·exact .inl (Gm.mp h)
theorem bt{AZ:List (κ×V)}{k:κ}{v:V}(h:(AZ.map (·.1)).Nodup):((putK AZ k v).map (·.1)).Nodup:=by
 cases e:EG AZ k with
 |none=>exact uS v h e
 |some x=>
  have h1:(AZ.any λkv=>decide (kv.1=k))=true:=by rw[Gz,e];rfl
  unfold putK;rw[AG h1,Lm];have h2:((λx=>x.1)∘λkv:κ×V=>if kv.1=k then(kv.1,v) else kv)=λkv=>kv.1:=by
   funext kv;show(if kv.1=k then(kv.1,v) else kv).1=kv.1;split <;> rfl
  rw[h2];exact h
theorem OU{α:Type} [DecidableEq α]:∀(l L:List α),l.Nodup->(∀x∈l,x∈L)->l.length<=L.length
 | [],_,_,_=>BR _
 |x::l,L,hn,hs=>by
  have hx:=hs x Bw;have h1:=Bx.mp hn;have h2:=OU l (L.erase x) h1.2 λy hy=>(List.mem_erase_of_ne (λz=>h1.1 (by rw[←z];exact hy))).mpr (hs y (Bb _ hy));rw[List.length_erase_of_mem hx] at h2;have h4:0<L.length:=List.length_pos_of_mem hx;rw[CD];omega
end
def qM:List (List Key):=(Cv 8).flatMap λ(t:Nat)=>(Cv 9).flatMap λ(m:Nat)=>(Cv 9).map λ(k:Nat)=> [Ck (t:Int),Ck (m:Int),Ck (k:Int)]
theorem iq:qM.length=648:=by decide+kernel
theorem ir{t m k:Nat}(h1:t<8)(h2:m<=8)(h3:k<=8):([Ck (t:Int),Ck (m:Int),Ck (k:Int)]:List Key)∈qM:=
 Us.mpr ⟨t,Gn.mpr h1,Us.mpr ⟨m,Gn.mpr (),Fp.mpr ⟨k,Gn.mpr (),rfl⟩⟩⟩
theorem Memo.len{H:Hp}{b:Nat}{days:List Nat}{AZ:List (List Key×V)}(M:Memo K H b days AZ)(h:days.length<=8):AZ.length<sizeLine:=by
 have h1:=OU (AZ.map (·.1)) qM M.nd λx hx=>by
  obtain⟨e,he,rfl⟩:=Fp.mp hx;obtain⟨t,m,k,h1,h2,h3,h4,_⟩:=M.at_ e he;rw[h4];exact ir () h2 h3
 rw[BP,iq] at h1;exact DU h1 (())
def stK(t m k:Nat):List Key:= [Ck (t:Int),Ck (m:Int),Ck (k:Int)]
theorem uy{t m k t' m' k':Nat}(h:stK t m k=stK t' m' k'):t=t'/\m=m'/\k=k':=by
 unfold stK at h;injection h with h1 h2
 injection h2 with h2 h3
 injection h3 with h3 _
 injection h1 with h1
 injection h2 with h2
 injection h3 with h3
 omega
theorem CZ.put{H:Hp}{o d:Addr}{b:Nat}{days:List Nat}{t m k:Nat}{v:V}{AZ:List (List Key×V)}(O:CZ K C H o d b days)(hd:H d=some (.dT AZ))(M:Memo K H b days AZ)(ht:t<days.length)(hm:m<=8)(hk:k<=8)(q:A8 K H v (wR b (days.drop t) m k)):
  CZ K C (upd H d (.dT (putK AZ (stK t m k) v))) o d b days:=by
 have e:Ext d H (upd H d (.dT (putK AZ (stK t m k) v))):=λa u h n=>by rw[AS n];exact h
 obtain⟨dx,l,h1,h2⟩:=O.ob;refine⟨O.EX,O.pos,O.sz,O.ub,O.bb,⟨dx,l,e _ _ h1 (Ao h1 hd (by intro z;cases z)),A_.ext h2 e hd⟩,⟨_,AJ,bt M.nd,λx hx=> ?_⟩⟩;rcases qL hx with rfl|hx
 ·exact⟨t,m,k,ht,hm,hk,AA,q.ext e hd⟩
 ·obtain⟨t',m',k',a1,a2,a3,a4,a5⟩:=M.at_ x hx;exact⟨t',m',k',a1,a2,a3,a4,a5.ext e hd⟩
def pR:List Nat->Nat->Nat->Nat->Prop:=λdays t _ k=>t<days.length/\0<k
section
variable{n k:Nat}(T:Ud K mg C)(R:HC P w K mg base)(h3:3<=k)(G:R6 P w K mg base C n k)(TT:An P w K mg base C (k+2) "is_tempting" FD (M9 K C (n+1)))(L:An P w K mg base C (k+3) "look_chance" FD (Pq K C (n+1) pN gL))
include T R h3 G TT L
theorem qN(D:A1 K C "reckon" "Outlook.reckon" CQ FD):An P w K mg base C (k+4) "reckon" FD (Pq K C (n+1) pR gW):=by
 exists Ia
 ·obtain⟨o,d,b,days,t,m,k,rfl,_⟩:=h;rfl
 obtain⟨o,d,b,days,t,m,k,rfl,O,hn,hm,hk,⟨hp,RE⟩,q⟩:=h;have nd:=Ia.nd;refine⟨_,AF (Aj (BN (CU (BG TT T.cl hr (pv 0) #[pv 1,pv 2,pv 3] ()))) (AK (AO (BG G.Fl T.cl hr (pv 0) #[pv 1,pv 2,pv 3] ()))) Aa)
  (AF (Aj (Af B_ (pv 2) AU (Ai _)) (AK (AO (BG G.unseen T.cl hr (pv 0) #[pv 1,pv 2,pv 3] ()))) Aa)
  (AF (4>>BG L T.cl hr (pv 0) #[pv 1,pv 2,pv 3] ())
  (AK (AO (AV R.mixed hr #[pv 4,BG G.E9 T.cl hr (pv 0) #[pv 1,pv 2,pv 3] (),BG G.Fl T.cl hr (pv 0) #[pv 1,pv 2,pv 3] ()] ()))))),?_⟩
 obtain⟨dx,l,h1,h2⟩:=O.ob;have e0:=ux (b:=b) m k hp O.pos;have a_:¬k=0:=by omega
 rw[AB a_] at e0;refine⟨_,AA,o,dx,_,AA,h1,AA,_,AA,_,AA,_,AA,o,d,b,days,t,m,k,AA,O,hn,hm,hk,hp,λH1 e1 O1=>⟨_,AA,?_⟩⟩;obtain⟨TJ,l1,bq,XO⟩:=O1.ob;by_cases ht:tT b days t m k
 ·rw[AG ht] at e0;rw[AH ht];refine A' ?_;refine⟨_,AA,AA,_,AA,?_⟩;refine BF (λc=> ?_) (λc=> ?_)
  ·have c':m=0:=by have:=AM c;injection this with z;omega
   refine⟨_,AA,o,TJ,_,AA,bq,AA,_,AA,_,AA,_,AA,o,d,b,days,t,m,k,AA,O1,hn,hm,hk,⟨hp,RE⟩,λv2 H2 e2 O2 q2=> ?_⟩;refine q v2 H2 (e1.trans e2) O2 ?_;show A8 K H2 v2 (wR b (days.drop t) m k);rw[e0,AG c'];exact q2
  have c':¬m=0:=λz=>c (by subst z;exact AH rfl);rw[AB c'] at e0;refine⟨_,AA,o,TJ,_,AA,bq,AA,_,AA,_,AA,_,AA,o,d,b,days,t,m,k,AA,O1,hn,hm,hk,hp,λv2 H2 e2 O2 q2=> ?_⟩;obtain⟨uv,l2,uw,h22⟩:=O2.ob;have zU:=szU O m k hp;have zN:Sz 300 (gN b days t m k):=O.sz _ _ _;have zW:Sz 300 (R5 b days t m k):=O.sz _ _ _;have zg:=zU.sub zN;have zl:=zW.sub (szB O);have zL:Sz 1600 (gL b days t m k):=by
   rw[qH m k hp,AB (λz=>z.elim c' λy=>y ht)];exact(zg.div (zg.add zl) (den_pos O ht)).mono (())
  refine⟨_,AA,_,AA,o,uv,_,AA,uw,AA,_,AA,_,AA,_,AA,o,d,b,days,t,m,k,AA,O2,hn,hm,hk,⟨hp,()⟩,λv3 H3 e3 O3 q3=> ?_⟩;obtain⟨iu,l3,h31,h32⟩:=O3.ob;refine⟨_,AA,o,iu,_,AA,h31,AA,_,AA,_,AA,_,AA,o,d,b,days,t,m,k,AA,O3,hn,hm,hk,hp,λv4 H4 e4 O4 q4=> ?_⟩;refine⟨v2,v3,v4,_,_,_,AA,A8.out O3 (A8.out O2 q2 e3) e4,A8.out O3 q3 e4,q4,zL,zW.mono (()),zN.mono (()),λv5 H5 s5 q5=> ?_⟩;refine q v5 H5 (e1.trans (e2.trans (e3.trans (e4.trans (Ext.of s5))))) (O4.same s5) ?_;show A8 K H5 v5 (wR b (days.drop t) m k);rw[e0];exact q5
 ·rw[AB ht] at e0;rw[AL ht];refine Au ?_;refine⟨_,AA,o,TJ,_,AA,bq,AA,_,AA,_,AA,_,AA,o,d,b,days,t,m,k,AA,O1,hn,hm,hk,hp,λv2 H2 e2 O2 q2=> ?_⟩;refine q v2 H2 (e1.trans e2) O2 ?_;show A8 K H2 v2 (wR b (days.drop t) m k);rw[e0];exact q2
end
end
section
variable{C:Addr}
theorem uz(b:Nat)(l:List Nat)(m:Nat):wR b l m 0=0:=by
 cases l with
 |nil=>rfl
 |cons u l=>simp[wR]
theorem BH(days:List Nat):(BY days).length=days.length:=BP _
theorem fm{n k:Nat}(T:Ud K mg C)(R:HC P w K mg base)(ml:mg "len"=none)(RK:An P w K mg base C k "reckon" FD (Pq K C n pR gW))
  (D:A1 K C "worth" "Outlook.worth" DY FD):An P w K mg base C (k+1) "worth" FD (Pq K C n pW gW):=by
 exists Jt
 ·obtain⟨o,d,b,days,t,m,k,rfl,_⟩:=h;rfl
 obtain⟨o,d,b,days,t,m,k,rfl,O,hn,hm,hk,hp,q⟩:=h;have nd:=Jt.nd;have hu:=UD hr;refine⟨_,AF (Aj (Ep (Af B_ (pv 1) (Ax Ak (by rfl) ml Cz #[AY (pv 0) rfl]) (Ai _)) (FP (Af B_ (pv 3) AU (Ai _)))).pt (AK (AO (Sm R.zero))) Aa)
  (AF (4>>Dd #[pv 1,pv 2,pv 3])
  (AF (Aj (zI (hZ hu (pv 4) (AY (pv 0) rfl))) (AK (Vr hu (AY (pv 0) rfl) (pv 4) (BG RK T.cl hr (pv 0) #[pv 1,pv 2,pv 3] ()) rfl)) Aa)
  (AK (AO (Vq hu (AY (pv 0) rfl) (pv 4) (λ_ _=>rfl)))))),?_⟩
 obtain⟨dx,l,h1,h2⟩:=O.ob;have zero:(t=days.length\/k=0)->∀v,(∀uu,A8 K uu v 0)->Q v H:=λc v hv=>q v H (Ext.refl _ _) O (by
  have e:gW b days t m k=0:=by
   unfold gW;rcases c with c|c
   ·rw[c,List.drop_length];rfl
   ·rw[c,uz]
  rw[e];exact hv H)
 refine⟨_,AA,_,AA,o,C,dx,_,_,AA,h1,T.cl,T.nD,AA,l,_,AA,.inl h2,AA,_,AA,?_⟩;rw[BH];refine BF (λc=> ?_) (λc=> ?_)
 ·have c':t=days.length:=by have:=AM c;injection this with z;omega
  exact Au (zero (.inl c'))
 have ct:t<days.length:=by
  have:¬t=days.length:=λz=>c (by rw[z];exact AH rfl);have:=hp;unfold pW at this;omega
 refine⟨_,AA,AA,_,AA,?_⟩;refine BF (λc=> ?_) (λc=> ?_)
 ·have c':k=0:=by have:=AM c;injection this with z;omega
  exact zero (.inr c')
 have ck:0<k:=by
  have:¬k=0:=λz=>c (by subst z;exact AH rfl);omega
 refine⟨_,AA,_,AA,_,AA,(by show 3<=sizeLine;decide),λp tJ=> ?_⟩;have s1:Ag H (upd H p (.tup [nV t,nV m,nV k])):=AX tJ _;have O1:=O.same s1;obtain⟨TJ,l1,bq,XO⟩:=O1.ob;obtain⟨AZ,hd,M⟩:=O1.me;have hP:(upd H p (.tup [nV t,nV m,nV k])) p=some (.tup ((stK t m k).map kV)):=AJ;refine⟨_,AA,_,AA,o,C,TJ,_,_,AA,bq,T.cl,T.nR,AA,d,_,AA,Jz.t (k:=stK t m k) hd hP,_,AA,?_⟩;cases e:EG AZ (stK t m k) with
 |some v=>
  refine A' ?_;refine⟨_,AA,o,C,TJ,_,_,AA,bq,T.cl,T.nR,AA,_,AA,d,v,AA,?_,?_⟩
  ·have:=Jz.t (k:=stK t m k) hd hP;rw[e] at this;exact this
  ·obtain⟨t',m',k',a1,a2,a3,a4,a5⟩:=M.at_ _ (R8 e);obtain⟨rfl,rfl,rfl⟩:=uy (show stK t m k=stK t' m' k' from a4);exact q v _ (Ext.of s1) O1 a5
 |none=>
  refine Au ?_;refine⟨_,AA,o,TJ,_,AA,bq,AA,_,AA,_,AA,_,AA,o,d,b,days,t,m,k,AA,O1,hn,hm,hk,⟨ct,ck⟩,λv2 H2 e2 O2 q2=> ?_⟩;obtain⟨uv,l2,uw,h22⟩:=O2.ob;obtain⟨AE8,hd2,M2⟩:=O2.me;have hP2:H2 p=some (.tup ((stK t m k).map kV)):=e2 _ _ hP (Ao hP hd (by intro z;cases z));have Sl:=M2.len O.EX;have O3:=O2.put hd2 M2 ct hm hk q2;have e3:Ext d H2 (upd H2 d (.dT (putK AE8 (stK t m k) v2))):=λa u h n=>by rw[AS n];exact h
  obtain⟨iu,l3,h31,h32⟩:=O3.ob;refine⟨_,AA,o,C,uv,_,_,AA,uw,T.cl,T.nR,AA,_,AA,d,_,AA,Vp.t (k:=stK t m k) hd2 hP2 Sl,?_⟩;have hP3:=e3 _ _ hP2 (Ao hP2 hd2 (by intro z;cases z));refine⟨_,AA,o,C,iu,_,_,AA,h31,T.cl,T.nR,AA,_,AA,d,v2,AA,?_,?_⟩
  ·have:=Jz.t (k:=stK t m k) (AJ (H:=H2) (a:=d)) hP3;rw[oX,AG rfl] at this;exact this
  ·exact q v2 _ ((Ext.of s1).trans (e2.trans e3)) O3 (q2.ext e3 hd2)
theorem u0{k:Nat}(D:A1 K C "reckon" "Outlook.reckon" CQ FD):An P w K mg base C k "reckon" FD (Pq K C 0 pR gW):=by
 obtain⟨f,fd,me,F,b⟩:=D.ex;have no:∀vs H Q E,¬Pq K C 0 pR gW vs H Q E:=λvs H Q E h=>by
  obtain⟨o,d,b,days,t,m,k,_,_,h1,_,_,⟨h2,_⟩,_⟩:=h;omega
 exact⟨f,fd,me,⟨λvs H Q E h=>absurd h (no vs H Q E),λA outer s H args us vs Q E _ _ _ _ h=>absurd h (no vs H Q E)⟩,b⟩
structure ADL(K:Ab)(C:Addr):Prop where
 worth:A1 K C "worth" "Outlook.worth" DY FD
 reckon:A1 K C "reckon" "Outlook.reckon" CQ FD
 seen:A1 K C "seen" "Outlook.seen" Dr BX
 E9:A1 K C "waited" "Outlook.waited" DH FD
 unseen:A1 K C "unseen" "Outlook.unseen" DI FD
 Fl:A1 K C "neither" "Outlook.neither" Cr FD
 four:A1 K C "four" "Outlook.four" Ds FD
 Yb:A1 K C "is_tempting" "Outlook.is_tempting" Bm FD
 look:A1 K C "look_chance" "Outlook.look_chance" Bn FD
 dare:A1 K C "dare_chance" "Outlook.dare_chance" Bo FD
section
variable(T:Ud K mg C)(R:HC P w K mg base)(ml:mg "len"=none)(D:ADL K C)
include T R ml D
theorem fq{n k:Nat}(h3:3<=k)(W:An P w K mg base C k "worth" FD (Pq K C n pW gW)):R6 P w K mg base C n k:=
 ⟨qE T R D.E9 W,qF T R h3 D.unseen W,ip T D.Fl W,AAT T R D.seen⟩
theorem M_:∀n:Nat,An P w K mg base C (5*n+4) "worth" FD (Pq K C n pW gW)
 |0=>fm T R ml (k:=3) (u0 D.reckon) D.worth
 |n+1=>by
  have W:=M_ n;have G:=fq T R ml D () W;have TT:=R7 T R () G D.Yb;have L:=qK T R () G TT D.look;exact fm T R ml (qN T R () G TT L D.reckon) D.worth
end
structure bu(P:Program)(w:World)(K:Ab)(mg:Str->Option Value)(base:Heap)(C:Addr):Prop where
 worth:An P w K mg base C 24 "worth" FD (Pq K C 4 pW gW)
 AAV:An P w K mg base C 44 "worth" FD (Pq K C 8 pW gW)
 look:An P w K mg base C 22 "look_chance" FD (Pq K C 4 pN gL)
 dare:An P w K mg base C 22 "dare_chance" FD (Pq K C 4 pN gD)
 lev:R6 P w K mg base C 3 19
theorem ADM(T:Ud K mg C)(R:HC P w K mg base)(ml:mg "len"=none)(D:ADL K C):bu P w K mg base C:=by
 have W:=M_ T R ml D 3;have G:=fq T R ml D () W;have TT:=R7 T R () G D.Yb;exact⟨M_ T R ml D 4,M_ T R ml D 8,qK T R () G TT D.look,AAU T R () G TT D.dare,G⟩
inductive WS(K:Ab)(C:Addr):Sp
 |mk (o d:Addr) (b:Nat) (days:List Nat) (t m k:Nat):vs= [.ref o,nV t,nV m,nV k]->CZ K C H o d b days->days.length<=t+4->m<=8->k<=8->t<days.length->0<m->0<k->(∀l H' vs,Ext d H H'->H' l=some (.lst vs)->bX K H' vs [-(b:Rat),R5 b days t m k,gU b days t m k,gN b days t m k]->Q (.ref l) H')->WS K C vs H Q DJ
theorem AAW(T:Ud K mg C)(G:R6 P w K mg base C 3 19)(D:A1 K C "four" "Outlook.four" Ds FD):An P w K mg base C 21 "four" FD (WS K C):=by
 exists Rc
 ·obtain⟨o,d,b,days,t,m,k,rfl,_⟩:=h;rfl
 obtain⟨o,d,b,days,t,m,k,rfl,O,hn,hm,hk,hp,qO,a_,q⟩:=h;refine⟨_,AK (AO (Am #[EI G.seen T.cl hr (pv 0),BG G.E9 T.cl hr (pv 0) #[pv 1,pv 2,pv 3],BG G.unseen T.cl hr (pv 0) #[pv 1,pv 2,pv 3],BG G.Fl T.cl hr (pv 0) #[pv 1,pv 2,pv 3]])),?_⟩
 obtain⟨dx,l,h1,h2⟩:=O.ob;refine⟨_,AA,o,dx,_,AA,h1,AA,o,d,b,days,AA,O,λv1 H1 s1 q1=> ?_⟩;have O1:=O.same s1;obtain⟨TJ,l1,bq,_⟩:=O1.ob;refine⟨_,AA,o,TJ,_,AA,bq,AA,_,AA,_,AA,_,AA,o,d,b,days,t,m,k,AA,O1,hn,hm,hk,⟨hp,qO⟩,λv2 H2 e2 O2 q2=> ?_⟩;obtain⟨uv,l2,uw,_⟩:=O2.ob;refine⟨_,AA,o,uv,_,AA,uw,AA,_,AA,_,AA,_,AA,o,d,b,days,t,m,k,AA,O2,hn,hm,hk,⟨hp,a_⟩,λv3 H3 e3 O3 q3=> ?_⟩;obtain⟨iu,l3,h31,_⟩:=O3.ob;refine⟨_,AA,o,iu,_,AA,h31,AA,_,AA,_,AA,_,AA,o,d,b,days,t,m,k,AA,O3,hn,hm,hk,hp,λv4 H4 e4 O4 q4=> ?_⟩;refine⟨(by show 4<=sizeLine;decide),λp tJ=> ?_⟩;have s5:=AX tJ (.lst [v1,v2,v3,v4]);refine q p _ [v1,v2,v3,v4] ((Ext.of s1).trans (e2.trans (e3.trans (e4.trans (Ext.of s5))))) AJ ?_;exact .cons ((A8.out O3 (A8.out O2 (A8.out O1 q1 e2) e3) e4).same s5) (.cons ((A8.out O3 (A8.out O2 q2 e3) e4).same s5) (.cons ((A8.out O3 q3 e4).same s5) (.cons (q4.same s5) .nil)))
inductive M'(K:Ab)(C:Addr):Sp
 |mk (p dx l:Addr) (b:Nat):vs= [.ref p,.ref l,nV b]->H p=some (.ins C dx [])->(∀H' d,(∀a u,H a=some u->a≠p->H' a=some u)->H d=none->H' d=some (.dT [])->H' p=some (.ins C dx (oF (.ref l) (nV b) (.ref d)))->Q .Dg H')->M' K C vs H Q DJ
theorem AAX(T:Ud K mg C)(D:A1 K C "__init__" "Outlook.__init__" DS IE):An P w K mg base C 1 "__init__" IE (M' K C):=by
 exists MJ
 ·obtain⟨p,dx,l,b,rfl,_⟩:=h;rfl
 obtain⟨p,dx,l,b,rfl,hp,q⟩:=h;refine⟨_,AF (Ap (pv 0) (pv 1) rfl) (AF (Ap (pv 0) (pv 2) rfl) (AK (Ap (pv 0) Xs rfl))),?_⟩;refine⟨_,AA,_,AA,p,C,dx,[],AA,hp,T.cl,T.nD,(by show 0<1000;decide),?_⟩;refine⟨_,AA,_,AA,p,C,dx,_,AA,AJ,T.cl,T.nF,(by show 1<1000;decide),?_⟩;intro d hd;have TK:p≠d:=λz=>by subst z;rw[AJ] at hd;cases hd
 have Pd:H d=Iz:=by rw[AS TK.symm,AS TK.symm] at hd;exact hd
 refine⟨_,AA,p,C,dx,_,AA,(by rw[AS TK];exact AJ),T.cl,T.nR,(by show 2<1000;decide),?_⟩;refine q _ d (λa u h n=> ?_) Pd ?_ ?_
 ·rw[AS n,AS (AQ h Pd),AS n,AS n];exact h
 ·rw[AS TK.symm];exact AJ
 ·rw[AJ];rfl
end
section
structure jr(K:Ab)(mg:Str->Option Value)(x:Str)(C:Addr):Prop where
 cl:XM K C
 mgC:mg x=some (.ref C)
 makes:Up K C=true
 kp:J8 K (.ref C)=true
section
variable{X:Cx}{k j:Nat}{x:Str}{ps:List Str}{sp:Sp}{e:Expr}{es:List Expr}{t:TA}{p pos:Pos}{C:Addr}
theorem Jw(h:An X.prog X.w X.K X.mg X.base C k "__init__" ps sp)(c:jr X.K X.mg x C)(hr:DD j X.A)(ha:PA X (e::es) t)(hj:k+1<=j:=by decide)(hg:Gl X x:=by rfl)(a0:(x==("__debug__":Str))=false:=by decide)
  (he:starEach (e::es) X.env=(false,eval e X.env)::starEach es X.env:=by rfl) (Dn:(backTo pos (starEach es X.env)).any (·.1)=false:=by rfl):
  PE X (.Call (.Name x p) (e::es) [] pos) (dm C sp [] E0 t):=
 let⟨f,_,me,F,b⟩:=h.ex
 t8 (f:=f) ⟨c.makes,me.at_,me.fn,c.kp⟩ F (hr.mono hj) hg c.mgC b .nil O_ ha a0 he Dn
theorem AAY(h:An X.prog X.w X.K X.mg X.base C k "__init__" ps sp)(c:jr X.K X.mg x C)(hr:DD j X.A)(hj:k+1<=j:=by decide)(hg:Gl X x:=by rfl)(a0:(x==("__debug__":Str))=false:=by decide):
  PE X (.Call (.Name x p) [] [] pos) (dm C sp [] E0 IM):=
 let⟨f,_,me,F,b⟩:=h.ex
 oE (f:=f) ⟨c.makes,me.at_,me.fn,c.kp⟩ F (hr.mono hj) hg c.mgC b .nil O_ a0
end
variable{C:Addr}
def sF(d l m f h c:V):List (Str×V):= [("days",d),("looks",l),("misdeeds",m),("fine",f),("has",h),("caught",c)]
structure js(K:Ab)(mg:Str->Option Value)(C:Addr):Prop extends ZI:jr K mg "Season" C where
 nD:BC K C "days"
 nL:BC K C "looks"
 nM:BC K C "misdeeds"
 nF:BC K C "fine"
 nH:BC K C "has"
 nC:BC K C "caught"
def bV(b:Bool):V:= .int (if b then 1 else 0)
structure CP(C:Addr)(H:Hp)(s sd:Addr)(x:Bs)(g:Int)(o:Bool):Prop where
 ob:∃dx,H s=some (.ins C dx (sF (.ref sd) (nV x.looks) (nV x.misdeeds) (nV x.fine) (.int g) (bV o)))
 ds:H sd=some (.lst (BY x.brings))
theorem CP.same{H H':Hp}{s sd:Addr}{x:Bs}{g:Int}{o:Bool}(h:CP C H s sd x g o)(e:Ag H H'):CP C H' s sd x g o:=
 let⟨dx,h1⟩:=h.ob;⟨⟨dx,e _ _ h1⟩,e _ _ h.ds⟩
inductive QI(C:Addr):Sp
 |mk (p dx:Addr) (l m f:Nat):vs= [.ref p,nV l,nV m,nV f]->H p=some (.ins C dx [])->(∀H' d,(∀a u,H a=some u->a≠p->H' a=some u)->H d=none->d≠p->H' d=some (.lst [])->H' p=some (.ins C dx (sF (.ref d) (nV l) (nV m) (nV f) (.int 0) (.int 0)))->Q .Dg H')->QI C vs H Q DJ
theorem AAZ(T:js K mg C)(D:A1 K C "__init__" "Season.__init__" Dj IY):An P w K mg base C 1 "__init__" IY (QI C):=by
 exists M5
 ·obtain⟨p,dx,l,m,f,rfl,_⟩:=h;rfl
 obtain⟨p,dx,l,m,f,rfl,hp,q⟩:=h;refine⟨_,AF (Ap (pv 0) (Am By) rfl) (AF (Ap (pv 0) (pv 1) rfl) (AF (Ap (pv 0) (pv 2) rfl) (AF (Ap (pv 0) (pv 3) rfl) (AF (Ap (pv 0) AU rfl) (AK (Ap (pv 0) AU rfl)))))),?_⟩;refine⟨BR _,λd hd=> ?_⟩;have TK:p≠d:=λz=>by subst z;rw[hp] at hd;cases hd
 refine⟨_,AA,p,C,dx,[],AA,(by rw[AS TK];exact hp),T.cl,T.nD,(by show 0<1000;decide),?_⟩;refine⟨_,AA,_,AA,p,C,dx,_,AA,AJ,T.cl,T.nL,(by show 1<1000;decide),?_⟩;refine⟨_,AA,_,AA,p,C,dx,_,AA,AJ,T.cl,T.nM,(by show 2<1000;decide),?_⟩;refine⟨_,AA,_,AA,p,C,dx,_,AA,AJ,T.cl,T.nF,(by show 3<1000;decide),?_⟩;refine⟨_,AA,p,C,dx,_,AA,AJ,T.cl,T.nH,(by show 4<1000;decide),?_⟩;refine⟨_,AA,p,C,dx,_,AA,AJ,T.cl,T.nC,(by show 5<1000;decide),?_⟩;rw[Az,Az,Az,Az,Az];refine q _ d (λa u h n=> ?_) hd TK.symm ?_ ?_
 ·rw[AS n,AS (AQ h hd)];exact h
 ·rw[AS TK.symm];exact AJ
 ·rw[AJ];rfl
end
section
mutual
theorem Dp.same{K:Ab}{H H':Hp}(s:Ag H H'):∀{v:V} {d:PyData},Dp K H v d->Dp K H' v d
 |_,_,.Dg=> .Dg
 |_,_,.bl b=> .bl b
 |_,_,.int i=> .int i
 |_,_,.str x=> .str x
 |_,_,.lst h a=> .lst (s.seq h) (Ed.same s a)
 |_,_,.tup h a=> .tup (Bi.same h s) (Ed.same s a)
theorem Ed.same{K:Ab}{H H':Hp}(s:Ag H H'):∀{vs:List V} {ds:List PyData},Ed K H vs ds->Ed K H' vs ds
 |_,_,.nil=> .nil
 |_,_,.cons h t=> .cons (Dp.same s h) (Ed.same s t)
end
theorem ft{K:Ab}{H:Hp}:∀(l:List Nat),Ed K H (BY l) (l.map λ(n:Nat)=>KO (n:Int))
 | []=> .nil
 |n::l=> .cons (.int _) (ft l)
def Holds(H H' G:Hp):Prop:=∀a u,H' a=some u->((∀xs,u≠ .lst xs)\/H a=none)->G a=some u
theorem Holds.self(H H':Hp):Holds H H' H':=λ_ _ h _=>h
theorem Holds.tup{H H' G:Hp}(h:Holds H H' G){a:Addr}{xs:List V}(e:H' a=some (.tup xs)):G a=some (.tup xs):=h a _ e (.inl λ_ z=>by cases z)
theorem Holds.new{H H' G:Hp}(h:Holds H H' G){a:Addr}{u:HO}(e:H' a=some u)(n:H a=none):G a=some u:=h a _ e (.inr n)
theorem Holds.sqT{K:Ab}{H H' G:Hp}(h:Holds H H' G){a:Addr}{xs:List V}(e:Bi K H' a xs):Bi K G a xs:=by
 rcases e with e|e
 ·refine .inl ?_;rcases e with e|⟨o,e⟩
  ·exact .inl (h.tup e)
  ·exact .inr ⟨o,h a _ e (.inl λ_ z=>by cases z)⟩
 ·exact .inr e
variable{C:Addr}
def b01(b:Bool):Int:=if b then 1 else 0
def WT(x:Bs)(g:Int)(o:Bool):PyData:= .tuple [.list (x.brings.map λ(n:Nat)=>KO (n:Int)),.int x.looks,.int x.misdeeds,.int x.fine,.int g,.int (b01 o)]
inductive R9(K:Ab)(C:Addr):Sp
 |mk (s sd:Addr) (x:Bs) (g:Int) (o:Bool):vs= [.ref s]->CP C H s sd x g o->(∀v H',Ag H H'->(∀G,Holds H H' G->Dp K G v (WT x g o))->Q v H')->R9 K C vs H Q DJ
theorem u7(T:js K mg C)(ml:mg "list"=none)(D:A1 K C "facts" "Season.facts" E6 BX):An P w K mg base C 1 "facts" BX (R9 K C):=by
 exists Ry
 ·obtain⟨s,sd,x,g,o,rfl,_⟩:=h;rfl
 obtain⟨s,sd,x,g,o,rfl,⟨⟨dx,hs⟩,hd⟩,q⟩:=h;refine⟨_,AK (AO (Dd #[IQ GK (by rfl) ml VN #[AY (pv 0) rfl],AY (pv 0) rfl,AY (pv 0) rfl,AY (pv 0) rfl,AY (pv 0) rfl,AY (pv 0) rfl])),?_⟩;refine⟨_,AA,s,C,dx,_,_,AA,hs,T.cl,T.nD,AA,sd,_,AA,.inl (A_.of hd),λl hl=> ?_⟩;have s1:=AX hl (.lst (BY x.brings));have Hq:=s1 _ _ hs;refine⟨_,AA,s,C,dx,_,_,AA,Hq,T.cl,T.nL,AA,_,AA,s,C,dx,_,_,AA,Hq,T.cl,T.nM,AA,_,AA,s,C,dx,_,_,AA,Hq,T.cl,T.nF,AA,_,AA,s,C,dx,_,_,AA,Hq,T.cl,T.nH,AA,_,AA,s,C,dx,_,_,AA,Hq,T.cl,T.nC,AA,(by show 6<=sizeLine;decide),λp hp=> ?_⟩;have s2:=AX hp (.tup [.ref l,nV x.looks,nV x.misdeeds,nV x.fine,.int g,bV o]);exact q _ _ (s1.trans s2) λG hG=>(.tup (Bi.of (hG.tup AJ)) (.cons (.lst (A_.of (hG.new (s2 _ _ AJ) hl)) (ft _)) (.cons (.int _) (.cons (.int _) (.cons (.int _) (.cons (.int _) (.cons (.int _) .nil)))))))
inductive WU(C:Addr):Sp
 |mk (s sd:Addr) (x:Bs) (g:Int) (o:Bool):vs= [.ref s]->CP C H s sd x g o->(∀s' MQ H',Ag H H'->H s'=none->H MQ=none->CP C H' s' MQ x g o->Q (.ref s') H')->WU C vs H Q DJ
theorem AAa(T:js K mg C)(ml:mg "list"=none)(I:An P w K mg base C 1 "__init__" IY (QI C))(D:A1 K C "copied" "Season.copied" EU BX):An P w K mg base C 3 "copied" BX (WU C):=by
 exists Jv
 ·obtain⟨s,sd,x,g,o,rfl,_⟩:=h;rfl
 obtain⟨s,sd,x,g,o,rfl,⟨⟨dx,hs⟩,hd⟩,q⟩:=h;have nd:=Jv.nd;refine⟨_,AF (1>>Jw I T.ZI hr #[AY (pv 0) rfl,AY (pv 0) rfl,AY (pv 0) rfl])
  (AF (Ap (pv 1) (IQ GK (by rfl) ml VN #[AY (pv 0) rfl]) rfl)
  (AF (Ap (pv 1) (AY (pv 0) rfl) rfl) (AF (Ap (pv 1) (AY (pv 0) rfl) rfl) (AK (AO (pv 1)))))),?_⟩
 refine⟨_,AA,s,C,dx,_,_,AA,hs,T.cl,T.nL,AA,_,AA,s,C,dx,_,_,AA,hs,T.cl,T.nM,AA,_,AA,s,C,dx,_,_,AA,hs,T.cl,T.nF,AA,λp dp np Yc ne=> ?_⟩;refine⟨p,dp,x.looks,x.misdeeds,x.fine,AA,AJ,λH1 d k1 Gg AE9 Sn Ig=>⟨AA,?_⟩⟩;have s1:Ag H H1:=Ag.made np Yc k1;have Hq:=s1 _ _ hs;have hd2:=s1 _ _ hd;refine⟨_,AA,s,C,dx,_,_,AA,Hq,T.cl,T.nD,AA,sd,_,AA,.inl (A_.of hd2),λl hl=> ?_⟩;have Dn:p≠l:=AQ Ig hl;have hsl:s≠l:=AQ Hq hl;have ZH:s≠p:=AQ hs np;refine⟨_,AA,p,C,dp,_,AA,(by rw[AS Dn];exact Ig),T.cl,T.nD,(by show 6<1000;decide),?_⟩;refine⟨_,AA,s,C,dx,_,_,AA,(by rw[AS ZH,AS hsl];exact Hq),T.cl,T.nH,AA,_,AA,p,C,dp,_,AA,AJ,T.cl,T.nH,(by show 6<1000;decide),?_⟩;refine⟨_,AA,s,C,dx,_,_,AA,(by rw[AS ZH,AS ZH,AS hsl];exact Hq),T.cl,T.nC,AA,_,AA,p,C,dp,_,AA,AJ,T.cl,T.nC,(by show 6<1000;decide),?_⟩;rw[Az,Az];refine⟨_,AA,?_⟩;refine q p l _ (λa u h=> ?_) np (s1.free hl) ⟨⟨dp,?_⟩,?_⟩
 ·rw[AS (AQ h np),AS (AQ (s1 _ _ h) hl)];exact s1 _ _ h
 ·rw[AJ];rfl
 ·rw[AS Dn.symm];exact AJ
def aF(d l m f g c:V):List (Str×V):= [("days",d),("looks",l),("misdeeds",m),("fine",f),("gained",g),("caught",c)]
structure tK(K:Ab)(mg:Str->Option Value)(C:Addr):Prop extends ZI:jr K mg "Alike" C where
 nD:BC K C "days"
 nL:BC K C "looks"
 nM:BC K C "misdeeds"
 nF:BC K C "fine"
 nG:BC K C "gained"
 nC:BC K C "caught"
def left(e:Em):Nat:=if e.over then 0 else e.days
structure Du(C:Addr)(H:Hp)(a:Addr)(e:Em):Prop where
 ob:∃dx,H a=some (.ins C dx (aF (nV (left e)) (nV e.looks) (nV e.misdeeds) (nV e.fine) (.int e.gain) (bV e.over)))
theorem Du.same{H H':Hp}{a:Addr}{e:Em}(h:Du C H a e)(s:Ag H H'):Du C H' a e:=let⟨dx,h1⟩:=h.ob;⟨⟨dx,s _ _ h1⟩⟩
inductive QJ(C:Addr):Sp
 |mk (p dx:Addr) (n l m f:Nat):vs= [.ref p,nV n,nV l,nV m,nV f]->H p=some (.ins C dx [])->(∀H',(∀a u,H a=some u->a≠p->H' a=some u)->H' p=some (.ins C dx (aF (nV n) (nV l) (nV m) (nV f) (.int 0) (.int 0)))->Q .Dg H')->QJ C vs H Q DJ
theorem AAb(T:tK K mg C)(D:A1 K C "__init__" "Alike.__init__" EB RZ):An P w K mg base C 1 "__init__" RZ (QJ C):=by
 exists OR
 ·obtain⟨p,dx,n,l,m,f,rfl,_⟩:=h;rfl
 obtain⟨p,dx,n,l,m,f,rfl,hp,q⟩:=h;refine⟨_,AF (Ap (pv 0) (pv 1) rfl) (AF (Ap (pv 0) (pv 2) rfl) (AF (Ap (pv 0) (pv 3) rfl) (AF (Ap (pv 0) (pv 4) rfl) (AF (Ap (pv 0) AU rfl) (AK (Ap (pv 0) AU rfl)))))),?_⟩;refine⟨_,AA,_,AA,p,C,dx,[],AA,hp,T.cl,T.nD,(by show 0<1000;decide),?_⟩;refine⟨_,AA,_,AA,p,C,dx,_,AA,AJ,T.cl,T.nL,(by show 1<1000;decide),?_⟩;refine⟨_,AA,_,AA,p,C,dx,_,AA,AJ,T.cl,T.nM,(by show 2<1000;decide),?_⟩;refine⟨_,AA,_,AA,p,C,dx,_,AA,AJ,T.cl,T.nF,(by show 3<1000;decide),?_⟩;refine⟨_,AA,p,C,dx,_,AA,AJ,T.cl,T.nG,(by show 4<1000;decide),?_⟩;refine⟨_,AA,p,C,dx,_,AA,AJ,T.cl,T.nC,(by show 5<1000;decide),?_⟩;rw[Az,Az,Az,Az,Az];refine q _ (λa u h n=>by rw[AS n];exact h) ?_;rw[AJ];rfl
def WV(e:Em):PyData:= .tuple [.int (left e:Nat),.int e.looks,.int e.misdeeds,.int e.fine,.int e.gain,.int (b01 e.over)]
inductive R_(K:Ab)(C:Addr):Sp
 |mk (a:Addr) (e:Em):vs= [.ref a]->Du C H a e->(∀v H',Ag H H'->(∀G,Holds H H' G->Dp K G v (WV e))->Q v H')->R_ K C vs H Q DJ
theorem u9(T:tK K mg C)(D:A1 K C "facts" "Alike.facts" Ff BX):An P w K mg base C 1 "facts" BX (R_ K C):=by
 exists S9
 ·obtain⟨s,e,rfl,_⟩:=h;rfl
 obtain⟨s,e,rfl,⟨dx,hs⟩,q⟩:=h;refine⟨_,AK (AO (Dd #[AY (pv 0) rfl,AY (pv 0) rfl,AY (pv 0) rfl,AY (pv 0) rfl,AY (pv 0) rfl,AY (pv 0) rfl])),?_⟩;refine⟨_,AA,s,C,dx,_,_,AA,hs,T.cl,T.nD,AA,_,AA,s,C,dx,_,_,AA,hs,T.cl,T.nL,AA,_,AA,s,C,dx,_,_,AA,hs,T.cl,T.nM,AA,_,AA,s,C,dx,_,_,AA,hs,T.cl,T.nF,AA,_,AA,s,C,dx,_,_,AA,hs,T.cl,T.nG,AA,_,AA,s,C,dx,_,_,AA,hs,T.cl,T.nC,AA,(by show 6<=sizeLine;decide),λp hp=> ?_⟩;exact q _ _ (AX hp _) λG hG=>(.tup (Bi.of (hG.tup AJ)) (.cons (.int _) (.cons (.int _) (.cons (.int _) (.cons (.int _) (.cons (.int _) (.cons (.int _) .nil)))))))
inductive WW(C:Addr):Sp
 |mk (a:Addr) (e:Em):vs= [.ref a]->Du C H a e->(∀a' H',Ag H H'->H a'=none->Du C H' a' e->Q (.ref a') H')->WW C vs H Q DJ
theorem AAc(T:tK K mg C)(I:An P w K mg base C 1 "__init__" RZ (QJ C))(D:A1 K C "copied" "Alike.copied" E7 BX):An P w K mg base C 3 "copied" BX (WW C):=by
 exists Kj
 ·obtain⟨s,e,rfl,_⟩:=h;rfl
 obtain⟨s,e,rfl,⟨dx,hs⟩,q⟩:=h;have nd:=Kj.nd;refine⟨_,AF (1>>Jw I T.ZI hr #[AY (pv 0) rfl,AY (pv 0) rfl,AY (pv 0) rfl,AY (pv 0) rfl])
  (AF (Ap (pv 1) (AY (pv 0) rfl) rfl) (AF (Ap (pv 1) (AY (pv 0) rfl) rfl) (AK (AO (pv 1))))),?_⟩
 refine⟨_,AA,s,C,dx,_,_,AA,hs,T.cl,T.nD,AA,_,AA,s,C,dx,_,_,AA,hs,T.cl,T.nL,AA,_,AA,s,C,dx,_,_,AA,hs,T.cl,T.nM,AA,_,AA,s,C,dx,_,_,AA,hs,T.cl,T.nF,AA,λp dp np Yc ne=> ?_⟩;refine⟨p,dp,left e,e.looks,e.misdeeds,e.fine,AA,AJ,λH1 k1 Ig=>⟨AA,?_⟩⟩;have s1:Ag H H1:=Ag.made np Yc k1;have Hq:=s1 _ _ hs;have ZH:s≠p:=AQ hs np;refine⟨_,AA,s,C,dx,_,_,AA,Hq,T.cl,T.nG,AA,_,AA,p,C,dp,_,AA,Ig,T.cl,T.nG,(by show 6<1000;decide),?_⟩;refine⟨_,AA,s,C,dx,_,_,AA,(by rw[AS ZH];exact Hq),T.cl,T.nC,AA,_,AA,p,C,dp,_,AA,AJ,T.cl,T.nC,(by show 6<1000;decide),?_⟩;rw[Az];refine⟨_,AA,?_⟩;refine q p _ (λa u h=> ?_) np ⟨⟨dp,?_⟩⟩
 ·rw[AS (AQ h np)];exact s1 _ _ h
 ·rw[AJ];rfl
def tF(d m f p:V):List (Str×V):= [("days",d),("misdeeds",m),("fine",f),("plans",p)]
structure u_(K:Ab)(mg:Str->Option Value)(C:Addr):Prop extends ZI:jr K mg "Table" C where
 nD:BC K C "days"
 nM:BC K C "misdeeds"
 nF:BC K C "fine"
 nP:BC K C "plans"
def A3(K:Ab)(H:Hp):List V->List Al->Prop:=Paired λv p=>∃a,v= .ref a/\Bi K H a [nV p.set,nV p.weight]
theorem A3.same{H H':Hp}{vs:List V}{ps:List Al}(h:A3 K H vs ps)(s:Ag H H'):A3 K H' vs ps:=
 Paired.Jy h λv p ⟨a,e,q⟩=>⟨a,e,Bi.same q s⟩
theorem A3.holds{H H' G:Hp}{vs:List V}{ps:List Al}(h:A3 K H vs ps)(s:Ag H H')(g:Holds H H' G):A3 K G vs ps:=
 Paired.Jy h λv p ⟨a,e,q⟩=>⟨a,e,g.sqT (Bi.same q s)⟩
structure TabAt(K:Ab)(C:Addr)(H:Hp)(t tp:Addr)(x:DF):Prop where
 ob:∃dx,H t=some (.ins C dx (tF (nV x.days) (nV x.misdeeds) (nV x.fine) (.ref tp)))
 ps:∃vs,H tp=some (.lst vs)/\A3 K H vs x.plans
theorem TabAt.same{H H':Hp}{t tp:Addr}{x:DF}(h:TabAt K C H t tp x)(s:Ag H H'):TabAt K C H' t tp x:=
 let⟨dx,h1⟩:=h.ob;let⟨vs,h2,h3⟩:=h.ps;⟨⟨dx,s _ _ h1⟩,⟨vs,s _ _ h2,h3.same s⟩⟩
inductive QK(C:Addr):Sp
 |mk (p dx:Addr) (n m f:Nat):vs= [.ref p,nV n,nV m,nV f]->H p=some (.ins C dx [])->(∀H' d,(∀a u,H a=some u->a≠p->H' a=some u)->H d=none->d≠p->H' d=some (.lst [])->H' p=some (.ins C dx (tF (nV n) (nV m) (nV f) (.ref d)))->Q .Dg H')->QK C vs H Q DJ
theorem AAd(T:u_ K mg C)(D:A1 K C "__init__" "Table.__init__" EC Ra):An P w K mg base C 1 "__init__" Ra (QK C):=by
 exists OS
 ·obtain⟨p,dx,n,m,f,rfl,_⟩:=h;rfl
 obtain⟨p,dx,n,m,f,rfl,hp,q⟩:=h;refine⟨_,AF (Ap (pv 0) (pv 1) rfl) (AF (Ap (pv 0) (pv 2) rfl) (AF (Ap (pv 0) (pv 3) rfl) (AK (Ap (pv 0) (Am By) rfl)))),?_⟩;refine⟨_,AA,_,AA,p,C,dx,[],AA,hp,T.cl,T.nD,(by show 0<1000;decide),?_⟩;refine⟨_,AA,_,AA,p,C,dx,_,AA,AJ,T.cl,T.nM,(by show 1<1000;decide),?_⟩;refine⟨_,AA,_,AA,p,C,dx,_,AA,AJ,T.cl,T.nF,(by show 2<1000;decide),?_⟩;rw[Az,Az];refine⟨BR _,λd hd=> ?_⟩;have TK:p≠d:=λz=>by subst z;rw[AJ] at hd;cases hd
 have Pd:H d=Iz:=by rw[AS TK.symm] at hd;exact hd
 refine⟨_,AA,p,C,dx,_,AA,(by rw[AS TK];exact AJ),T.cl,T.nP,(by show 3<1000;decide),?_⟩;refine q _ d (λa u h n=> ?_) Pd TK.symm ?_ ?_
 ·rw[AS n,AS (AQ h Pd),AS n];exact h
 ·rw[AS TK.symm];exact AJ
 ·rw[AJ];rfl
def qP(p:Al):PyData:= .tuple [.int (p.set:Int),.int (p.weight:Int)]
def WX(x:DF):PyData:= .tuple [.int x.days,.int x.misdeeds,.int x.fine,.list (x.plans.map qP)]
theorem Yd{H:Hp}:∀{vs:List V} {ps:List Al},A3 K H vs ps->Ed K H vs (ps.map qP)
 |_,_,.nil=> .nil
 |_,_,.cons ⟨a,e,h⟩ t=>by
  subst e;exact .cons (.tup h (.cons (.int _) (.cons (.int _) .nil))) (Yd t)
inductive R'(K:Ab)(C:Addr):Sp
 |mk (t tp:Addr) (x:DF):vs= [.ref t]->TabAt K C H t tp x->(∀v H',Ag H H'->(∀G,Holds H H' G->Dp K G v (WX x))->Q v H')->R' K C vs H Q DJ
theorem vA(T:u_ K mg C)(ml:mg "list"=none)(D:A1 K C "facts" "Table.facts" Fg BX):An P w K mg base C 1 "facts" BX (R' K C):=by
 exists S_
 ·obtain⟨s,tp,x,rfl,_⟩:=h;rfl
 obtain⟨s,tp,x,rfl,⟨⟨dx,hs⟩,⟨vs,hv,Dn⟩⟩,q⟩:=h;refine⟨_,AK (AO (Dd #[AY (pv 0) rfl,AY (pv 0) rfl,AY (pv 0) rfl,IQ GK (by rfl) ml VN #[AY (pv 0) rfl]])),?_⟩;refine⟨_,AA,s,C,dx,_,_,AA,hs,T.cl,T.nD,AA,_,AA,s,C,dx,_,_,AA,hs,T.cl,T.nM,AA,_,AA,s,C,dx,_,_,AA,hs,T.cl,T.nF,AA,_,AA,s,C,dx,_,_,AA,hs,T.cl,T.nP,AA,tp,_,AA,.inl (A_.of hv),λl hl=> ?_⟩;have s1:=AX hl (.lst vs);refine⟨(by show 4<=sizeLine;decide),λp hp=> ?_⟩;have s2:=AX hp (.tup [nV x.days,nV x.misdeeds,nV x.fine,.ref l]);exact q _ _ (s1.trans s2) λG hG=>(.tup (Bi.of (hG.tup AJ)) (.cons (.int _) (.cons (.int _) (.cons (.int _) (.cons (.lst (A_.of (hG.new (s2 _ _ AJ) hl)) (Yd (Dn.holds (s1.trans s2) hG))) .nil)))))
inductive WY(K:Ab)(C:Addr):Sp
 |mk (t tp:Addr) (x:DF):vs= [.ref t]->TabAt K C H t tp x->(∀t' vB H',Ag H H'->H t'=none->H vB=none->TabAt K C H' t' vB x->Q (.ref t') H')->WY K C vs H Q DJ
theorem AAe(T:u_ K mg C)(ml:mg "list"=none)(I:An P w K mg base C 1 "__init__" Ra (QK C))(D:A1 K C "copied" "Table.copied" E8 BX):An P w K mg base C 3 "copied" BX (WY K C):=by
 exists Kk
 ·obtain⟨s,tp,x,rfl,_⟩:=h;rfl
 obtain⟨s,tp,x,rfl,⟨⟨dx,hs⟩,⟨vs,hv,Dn⟩⟩,q⟩:=h;have nd:=Kk.nd;refine⟨_,AF (1>>Jw I T.ZI hr #[AY (pv 0) rfl,AY (pv 0) rfl,AY (pv 0) rfl])
  (AF (Ap (pv 1) (IQ GK (by rfl) ml VN #[AY (pv 0) rfl]) rfl) (AK (AO (pv 1)))),?_⟩
 refine⟨_,AA,s,C,dx,_,_,AA,hs,T.cl,T.nD,AA,_,AA,s,C,dx,_,_,AA,hs,T.cl,T.nM,AA,_,AA,s,C,dx,_,_,AA,hs,T.cl,T.nF,AA,λp dp np Yc ne=> ?_⟩;refine⟨p,dp,x.days,x.misdeeds,x.fine,AA,AJ,λH1 d k1 Gg AE9 Sn Ig=>⟨AA,?_⟩⟩;have s1:Ag H H1:=Ag.made np Yc k1;have Hq:=s1 _ _ hs;refine⟨_,AA,s,C,dx,_,_,AA,Hq,T.cl,T.nP,AA,tp,_,AA,.inl (A_.of (s1 _ _ hv)),λl hl=> ?_⟩;have ADN:p≠l:=AQ Ig hl;refine⟨_,AA,p,C,dp,_,AA,(by rw[AS ADN];exact Ig),T.cl,T.nP,(by show 4<1000;decide),?_⟩;refine⟨_,AA,?_⟩;have sA:Ag H (upd (upd H1 l (.lst vs)) p (.ins C dp (tF (nV x.days) (nV x.misdeeds) (nV x.fine) (.ref l)))):=λa u h=>by
  rw[AS (AQ h np),AS (AQ (s1 _ _ h) hl)];exact s1 _ _ h
 refine q p l _ sA np (s1.free hl) ⟨⟨dp,?_⟩,⟨vs,?_,Dn.same sA⟩⟩
 ·rw[AJ];rfl
 ·rw[AS ADN.symm];exact AJ
end
section
section
variable{X:Cx}{m:Str}{o:Expr}{ta:TE}{pos apos:Pos}
inductive fx(P:Program)(w:World)(K:Ab)(mg:Str->Option Value)(base:Heap)(A:Around)(m:Str)(Q:VK)(x:V)(H1:Hp):Prop
 |mk (a C dx:Addr) (fs:List (Str×V)) (k:Nat) (ps:List Str) (sp:Sp) (x0:x= .ref a) (x1:H1 a=some (.ins C dx fs)) (x2:fs.lookup m=none) (x3:XM K C) (x4:An P w K mg base C k m ps sp) (x5:DD k A) (x6:sp [x] H1 Q E0):fx P w K mg base A m Q x H1
def WZ(P:Program)(w:World)(K:Ab)(mg:Str->Option Value)(base:Heap)(A:Around)(m:Str)(ta:TE):TE:=λσ H Q=>ta σ H (fx P w K mg base A m Q)
theorem fy{pl:Sem Bool}(he:PE X o ta)
  (ht:eval (.Call (.Attribute o m apos) [] [] pos) X.env=(do
   let ov←eval o X.env
   standAt apos.atName
   let(f,first)←holding [ov] (getMethod ov m pl)
   callWith pos f first (backTo pos (starEach [] X.env)) (backToKw pos (keywordEach [] X.env))):=by rfl):
  PE X (.Call (.Attribute o m apos) [] [] pos) (WZ X.prog X.w X.K X.mg X.base X.A m ta):=by
 intro pins s σ H Q I h;refine Um (pl:=pl) (Bt (he pins s σ H _ I h) λu s1 ⟨x,H1,I1,rx,a,C,dx,fs,k,ps,sp,ex,ea,l,c,hm,hr,q⟩=> ?_) ht;subst ex;obtain rfl:u=BI a:=rx;obtain⟨f,fd,me,F,b⟩:=hm.ex;refine JC I1 ea c me l ?_;exact ZO (first:= [.ref a]) I1.XJ me.kp (N6 (us:= [.ref a]) (vs:= [.ref a]) F hr b .nil O_ I1 (.cons rfl .nil) q)
end
structure Cs where
 S:Addr
 A:Addr
 T:Addr
 W:Addr
structure Ad where
 s:Addr
 sd:Addr
 a:Addr
 t:Addr
 tp:Addr
def Ad.l(c:Ad):List Addr:= [c.s,c.sd,c.a,c.t,c.tp]
structure Ct(K:Ab)(cs:Cs)(H:Hp)(c:Ad)(h:Aw):Prop where
 DT:CP cs.S H c.s c.sd h.season h.gain h.over
 OV:Du cs.A H c.a h.even
 tab:TabAt K cs.T H c.t c.tp h.watch
theorem Ct.same{K:Ab}{cs:Cs}{H H':Hp}{c:Ad}{h:Aw}(x:Ct K cs H c h)(s:Ag H H'):Ct K cs H' c h:=⟨x.DT.same s,x.OV.same s,x.tab.same s⟩
def wF(s a t k:V):List (Str×V):= [("season",s),("alike",a),("table",t),("kept",k)]
structure xM(K:Ab)(mg:Str->Option Value)(C:Addr):Prop extends ZI:jr K mg "Whole" C where
 nS:BC K C "season"
 nA:BC K C "alike"
 nT:BC K C "table"
 nK:BC K C "kept"
structure Parts(P:Program)(w:World)(K:Ab)(mg:Str->Option Value)(base:Heap)(cs:Cs):Prop where
 tS:js K mg cs.S
 tA:tK K mg cs.A
 tT:u_ K mg cs.T
 tW:xM K mg cs.W
 sI:An P w K mg base cs.S 1 "__init__" IY (QI cs.S)
 sF:An P w K mg base cs.S 1 "facts" BX (R9 K cs.S)
 sC:An P w K mg base cs.S 3 "copied" BX (WU cs.S)
 aI:An P w K mg base cs.A 1 "__init__" RZ (QJ cs.A)
 aF:An P w K mg base cs.A 1 "facts" BX (R_ K cs.A)
 aC:An P w K mg base cs.A 3 "copied" BX (WW cs.A)
 tI:An P w K mg base cs.T 1 "__init__" Ra (QK cs.T)
 tF:An P w K mg base cs.T 1 "facts" BX (R' K cs.T)
 tC:An P w K mg base cs.T 3 "copied" BX (WY K cs.T)
variable{cs:Cs}
structure EE(K:Ab)(cs:Cs)(H:Hp)(l:Addr)(c:Ad)(h:Aw):Prop where
 lst:H l=some (.lst [.ref c.s,.ref c.a,.ref c.t])
 ho:Ct K cs H c h
structure qQ(H:Hp)(l:List Addr):Prop where
 none:∀a∈l,H a=none
 nd:l.Nodup
inductive QL(K:Ab)(cs:Cs):Sp
 |mk (p dx kl:Addr) (c:Ad) (h:Aw):vs= [.ref p]->H p=some (.ins cs.W dx (wF (.ref c.s) (.ref c.a) (.ref c.t) (.ref kl)))->Ct K cs H c h->(∀l c' H',Ag H H'->qQ H (l::c'.l)->EE K cs H' l c' h->Q (.ref l) H')->QL K cs vs H Q DJ
theorem vC(Z:Parts P w K mg base cs)(D:A1 K cs.W "parts" "Whole.parts" Fi BX):An P w K mg base cs.W 4 "parts" BX (QL K cs):=by
 exists TF
 ·obtain⟨p,dx,kl,c,h,rfl,_⟩:=h;rfl
 obtain⟨p,dx,kl,c,h,rfl,hp,hh,q⟩:=h;have T:=Z.tW;refine⟨_,AK (AO (Am #[EI Z.sC Z.tS.cl hr (AY (pv 0) rfl),EI Z.aC Z.tA.cl hr (AY (pv 0) rfl),EI Z.tC Z.tT.cl hr (AY (pv 0) rfl)])),?_⟩;obtain⟨⟨⟨ds,hs⟩,Gi⟩,⟨da,ha⟩,⟨⟨dt,ht⟩,ht2⟩⟩:=hh;refine⟨_,AA,p,cs.W,dx,_,_,AA,hp,T.cl,T.nS,AA,c.s,ds,_,AA,hs,AA,c.s,c.sd,_,_,_,AA,⟨⟨ds,hs⟩,Gi⟩,λs' MQ H1 s1 n1 n2 S1=> ?_⟩;refine⟨_,AA,p,cs.W,dx,_,_,AA,s1 _ _ hp,T.cl,T.nA,AA,c.a,da,_,AA,s1 _ _ ha,AA,c.a,_,AA,⟨⟨da,s1 _ _ ha⟩⟩,λa' H2 s2 n3 A2=> ?_⟩;have D5:=s1.trans s2;refine⟨_,AA,p,cs.W,dx,_,_,AA,D5 _ _ hp,T.cl,T.nT,AA,c.t,dt,_,AA,D5 _ _ ht,AA,c.t,c.tp,_,AA,TabAt.same ⟨⟨dt,ht⟩,ht2⟩ D5,λt' vB H3 s3 n4 n5 T3=> ?_⟩;refine⟨(by show 3<=sizeLine;decide),λl hl=> ?_⟩;have s4:=AX hl (.lst [.ref s',.ref a',.ref t']);have s34:=s3.trans s4;have s24:=s2.trans s34;obtain⟨fz,Wa⟩:=S1.ob;obtain⟨da',ha'⟩:=A2.ob;obtain⟨dt',xN⟩:=T3.ob;obtain⟨vs',hv',_⟩:=T3.ps;refine q l ⟨s',MQ,a',t',vB⟩ _ (s1.trans s24) ⟨λx hx=> ?_,?_⟩ ⟨AJ,⟨S1.same s24,A2.same s34,T3.same s4⟩⟩
 ·simp only[Ad.l,BQ,HN,or_false] at hx;rcases hx with rfl|rfl|rfl|rfl|rfl|rfl
  ·exact(D5.trans s3).free hl
  ·exact n1
  ·exact n2
  ·exact s1.free n3
  ·exact D5.free n4
  ·exact D5.free n5
 ·have e1:s'≠MQ:=Ao Wa S1.ds (by intro z;cases z);have e2:s'≠a':=AQ Wa n3;have e3:s'≠t':=AQ (s2 _ _ Wa) n4;have e4:s'≠vB:=AQ (s2 _ _ Wa) n5;have e5:MQ≠a':=AQ S1.ds n3;have e6:MQ≠t':=AQ (s2 _ _ S1.ds) n4;have e7:MQ≠vB:=AQ (s2 _ _ S1.ds) n5;have e8:a'≠t':=AQ ha' n4;have e9:a'≠vB:=AQ ha' n5;have e10:t'≠vB:=Ao xN hv' (by intro z;cases z);have f1:l≠s':=(AQ ((s2.trans s3) _ _ Wa) hl).symm;have f2:l≠MQ:=(AQ ((s2.trans s3) _ _ S1.ds) hl).symm;have f3:l≠a':=(AQ (s3 _ _ ha') hl).symm;have f4:l≠t':=(AQ xN hl).symm;have f5:l≠vB:=(AQ hv' hl).symm;simp only[Ad.l,Bx,BQ,HN,or_false,not_or,not_false_eq_true,GD,and_true];exact⟨⟨f1,f2,f3,f4,f5⟩,⟨e1,e2,e3,e4⟩,⟨e5,e6,e7⟩,⟨e8,e9⟩,e10⟩
end
section
variable{cs:Cs}
def Dv(h:Aw):PyData:= .list [WT h.season h.gain h.over,WV h.even,WX h.watch]
theorem Pe:∀l:List Nat,N0 (l.map λ(n:Nat)=>KO (n:Int))=true
 | []=>rfl
 |n::l=>by
  show(VL (.int (n:Int)) && N0 (l.map λ(n:Nat)=>KO (n:Int)))=true;rw[Pe l];rfl
theorem SA:∀l:List Nat,Lz (l.map λ(n:Nat)=>KO (n:Int))<=1
 | []=>by show(0:Nat)<=1;omega
 |n::l=>by
  have:=SA l;show max (L0 (.int (n:Int))) (Lz (l.map λ(n:Nat)=>KO (n:Int)))<=1;have e:L0 (.int (n:Int))<=1:=by first|exact As _|exact BR _
  exact Zx.mpr ⟨e,this⟩
theorem NA:∀l:List Al,N0 (l.map qP)=true
 | []=>rfl
 |n::l=>by
  show(VL (qP n) && N0 (l.map qP))=true;rw[NA l];rfl
theorem Pf:∀l:List Al,Lz (l.map qP)<=2
 | []=>by show(0:Nat)<=2;omega
 |n::l=>by
  have:=Pf l;show max (L0 (qP n)) (Lz (l.map qP))<=2;exact Zx.mpr ⟨by show(L0 (.tuple [.int (n.set:Int),.int (n.weight:Int)]))<=2;simp[L0,Lz],this⟩
theorem NB(h:Aw):KQ (Dv h)=true:=by
 have h1:=Pe h.season.brings;have h2:=NA h.watch.plans;have h3:=SA h.season.brings;have h4:=Pf h.watch.plans;unfold KQ;refine LU.mpr ⟨?_,AH ?_⟩
 ·simp[Dv,WT,WV,WX,VL,N0,h1,h2]
 ·simp only[Dv,WT,WV,WX,L0,Lz,Nat.zero_max,Nat.max_zero];omega
theorem Ye:∀l l':List Nat,Jm (l.map λ(n:Nat)=>KO (n:Int)) (l'.map λ(n:Nat)=>KO (n:Int))=decide (l=l')
 | [],[]=>by simp[Jm]
 | [],_::_=>by simp[Jm]
 |_::_,[]=>by simp[Jm]
 |n::l,m::l'=>by
  simp only[B7,Jm,FO,Ye l l'];rw[Jj];simp;omega
theorem Ue:∀l l':List Al,Jm (l.map qP) (l'.map qP)=decide (l=l')
 | [],[]=>by simp[Jm]
 | [],_::_=>by simp[Jm]
 |_::_,[]=>by simp[Jm]
 |⟨a,b⟩::l,⟨c,d⟩::l'=>by
  simp only[B7,Jm,FO,qP,Ue l l'];rw[Jj];simp;omega
def SD(e e':Em):Prop:=left e=left e'/\e.looks=e'.looks/\e.misdeeds=e'.misdeeds/\e.fine=e'.fine/\e.gain=e'.gain/\e.over=e'.over
theorem vD{a b:Bool}:b01 a=b01 b↔a=b:=by cases a <;> cases b <;> decide
theorem Ug(h h':Aw):FO (Dv h) (Dv h')=true↔h.season=h'.season/\h.gain=h'.gain/\h.over=h'.over/\SD h.even h'.even/\h.watch=h'.watch:=by
 obtain⟨⟨b,l,m,f⟩,g,o,e,⟨d,m2,f2,p⟩⟩:=h;obtain⟨⟨b',l',m',f'⟩,g',o',e',⟨d',m2',f2',p'⟩⟩:=h';simp only[Dv,WT,WV,WX,FO,Jm,Ye,Ue,SD,DV,decide_eq_true_eq,beq_iff_eq,kh,vD,yP,yQ,Int.natCast_inj];grind
end
section
variable{cs:Cs}
def off(D:Addr)(H:Hp):Hp:=λa=>if a=D then none else H a
theorem f6(D:Addr)(H:Hp)(o:HO):off D (upd H D o)=off D H:=by
 funext a;unfold off upd;by_cases h:a=D
 ·rw[AG h,AG h]
 ·rw[AB h,AB h,AB h]
theorem NC(D:Addr)(H:Hp):Ag (off D H) H:=λa u h=>by
 unfold off at h;by_cases e:a=D
 ·rw[AG e] at h;cases h
 ·rw[AB e] at h;exact h
theorem Yf{D:Addr}{H H':Hp}(s:Ag H H'):Ag (off D H) (off D H'):=λa u h=>by
 unfold off at h ⊢;by_cases e:a=D
 ·rw[AG e] at h;cases h
 ·rw[AB e] at h ⊢;exact s _ _ h
theorem iw{D:Addr}{H H':Hp}{xs:List V}(s:Ag H H')(h:H D=some (.lst xs)):Holds H H' (off D H'):=λa u hu hn=>by
 unfold off;rw[AB]
 ·exact hu
 ·intro e;subst e;rw[s _ _ h] at hu;cases hu;rcases hn with hn|hn
  ·exact hn xs rfl
  ·rw[h] at hn;cases hn
def SameBut(D:Addr)(H H':Hp):Prop:=∀a u,H a=some u->a≠D->H' a=some u
theorem Ct.off{D:Addr}{H:Hp}{c:Ad}{h:Aw}(x:Ct K cs (off D H) c h):Ct K cs H c h:=x.same (NC D H)
section
variable{A:Around}{g:TG}{tt:TT}{σ:L2.St}{H1:Hp}{D l:Addr}{c:Ad}{h:Aw}{Q:Hp->Prop}
theorem Yg{k:Nat}(Z:Parts P w K mg base cs)(hr:DD (k+1) A)(hl:EE K cs H1 l c h)(hD:H1 D=none)(hlen:σ.length=3)
  (q:∀H',Ag H1 H'->Dp K H' (.ref D) (Dv h)->Q H'):
  ∃W:Nat->Nat->Hp->Prop,(∃m,W 0 m (upd H1 D (.lst [])))/\∀i m H,W i m H->
   ((XX K l).stop i H/\Q H)\/((XX K l).go i H/\∃Nx:Hp->Prop,(∀H',Nx H'->∃m',m'<m/\W (i+1) m' H')/\∀x H',(XX K l).ah i H x H'->Ow 2 x (wipe σ [2]) H' λσ2 H2=>wipe σ2 [2]=wipe σ [2]/\zq σ2 H2 λb H3=>
    if b=true then WZ P w K mg base A "facts" (Cc 2) σ2 H3 λy H4=>∃acc,H4 D=some (.lst acc)/\acc.length<sizeLine/\Nx (upd H4 D (.lst (acc++ [y]))) else Nx H3):=by
 obtain⟨o0,o1,o2,rfl⟩:∃o0 o1 o2,σ= [o0,o1,o2]:=by
  match σ,hlen with
  | [a,b,c],_=>exact⟨a,b,c,AA⟩
 have hlD:l≠D:=AQ hl.lst hD;have s0:Ag H1 (off D H1):=λa u e=>by unfold off;rw[AB (AQ e hD)];exact e
 have h0:=hl.ho.same s0;refine Vo (K:=K) (a:=l) (xs:= [.ref c.s,.ref c.a,.ref c.t]) (λi H'=>Ag (off D H1) (off D H')/\∃acc,H' D=some (.lst acc)/\acc.length=i/\Ed K (off D H') acc ([WT h.season h.gain h.over,WV h.even,WX h.watch].take i))
  ⟨by rw[f6];exact Ag.refl _,[],AJ,rfl,.nil⟩ (λi H' _ ⟨s,_⟩=>A_.of (NC D H' _ _ (s _ _ (s0 _ _ hl.lst)))) ?_ ?_
 ·rintro i x H' hi ⟨s,acc,F',hal,hdp⟩;have step:∀(d:PyData) y H4,Ag H' H4->(∀G,Holds H' H4 G->Dp K G y d)-> [WT h.season h.gain h.over,WV h.even,WX h.watch].take (i+1)= [WT h.season h.gain h.over,WV h.even,WX h.watch].take i++ [d]->
    ∃acc,H4 D=some (.lst acc)/\acc.length<sizeLine/\(Ag (off D H1) (off D (upd H4 D (.lst (acc++ [y]))))/\∃bw,(upd H4 D (.lst (acc++ [y]))) D=some (.lst bw)/\bw.length=i+1/\Ed K (off D (upd H4 D (.lst (acc++ [y])))) bw ([WT h.season h.gain h.over,WV h.even,WX h.watch].take (i+1))):=by
   intro d y H4 s4 hd e;have hi3:i<3:=(Jg.mp hi).1;refine⟨acc,s4 _ _ F',DU (show acc.length<=1000 by omega) (()),?_⟩;rw[f6];refine⟨s.trans (Yf s4),acc++ [y],AJ,by rw[CH,hal];rfl,?_⟩;rw[e];have a1:∀{vs:List V} {ds:List PyData},Ed K (off D H4) vs ds->Ed K (off D H4) (vs++ [y]) (ds++ [d]):=by
    intro vs ds z;induction vs generalizing ds with
    |nil=>cases z;exact .cons (hd _ (iw s4 F')) .nil
    |cons v vs ih=>cases z with
     |cons z1 z2=>exact .cons z1 (ih z2)
   exact a1 (Ed.same (Yf s4) hdp)
  have hH:Ct K cs H' c h:=(h0.same s).off
  match i,hi with
  |0,hi=>
   obtain rfl:V.ref c.s=x:=Bl hi;obtain⟨dx,hs⟩:=hH.DT.ob;refine⟨AA,?_⟩;exact⟨_,AA,c.s,cs.S,dx,_,1,BX,_,AA,hs,AA,Z.tS.cl,Z.sF,hr.mono (),c.s,c.sd,_,_,_,AA,hH.DT,λv H4 s4 hd=>step _ v H4 s4 hd rfl⟩
  |1,hi=>
   obtain rfl:V.ref c.a=x:=Bl hi;obtain⟨dx,hs⟩:=hH.OV.ob;refine⟨AA,?_⟩;exact⟨_,AA,c.a,cs.A,dx,_,1,BX,_,AA,hs,AA,Z.tA.cl,Z.aF,hr.mono (),c.a,_,AA,hH.OV,λv H4 s4 hd=>step _ v H4 s4 hd rfl⟩
  |2,hi=>
   obtain rfl:V.ref c.t=x:=Bl hi;obtain⟨dx,hs⟩:=hH.tab.ob;refine⟨AA,?_⟩;exact⟨_,AA,c.t,cs.T,dx,_,1,BX,_,AA,hs,AA,Z.tT.cl,Z.tF,hr.mono (),c.t,c.tp,_,AA,hH.tab,λv H4 s4 hd=>step _ v H4 s4 hd rfl⟩
  |i+3,hi=>simp at hi
 ·rintro H' ⟨s,acc,F',hal,hdp⟩;refine q H' (s0.trans (s.trans (NC D H'))) ?_;exact .lst (A_.of F') (Ed.same (NC D H') hdp)
end
end
section
variable{cs:Cs}
def Wb(same:Bool)(ks:List V)(e:V):List V:=if same then ks else(if ks.length=12 then ks.drop 1 else ks)++ [e]
inductive bx(K:Ab)(cs:Cs):Sp
 |mk (p dx kl e0:Addr) (c c0:Ad) (h h0:Aw) (ks:List V):vs= [.ref p,.ref e0]->H p=some (.ins cs.W dx (wF (.ref c.s) (.ref c.a) (.ref c.t) (.ref kl)))->Ct K cs H c h->EE K cs H e0 c0 h0->H kl=some (.lst ks)->ks.length<=12->(∀H',SameBut kl H H'->H' kl=some (.lst (Wb (FO (Dv h0) (Dv h)) ks (.ref e0)))->Q .Dg H')->bx K cs vs H Q DJ
theorem AAf(Z:Parts P w K mg base cs)(PP:An P w K mg base cs.W 4 "parts" BX (QL K cs))(ml:mg "len"=none)(mk:B' mg "MOST_KEPT" 12)(D:A1 K cs.W "keep_if_changed" "Whole.keep_if_changed" B8 UT):
  An P w K mg base cs.W 5 "keep_if_changed" UT (bx K cs):=by
 exists Eg
 ·obtain⟨p,dx,kl,e0,c,c0,h,h0,ks,rfl,_⟩:=h;rfl
 obtain⟨p,dx,kl,e0,c,c0,h,h0,ks,rfl,hp,hh,hp0,hk,hlen,q⟩:=h;have nd:=Eg.nd;have T:=Z.tW;refine⟨_,AF (Aj (Af (zi hr.units)
   (Kd (te:=WZ P w K mg base _ "facts" (Cc 2)) rfl nd (EM (pv 1)) (DX (own:= [("part",2)]) (by rfl)) (λ_ _ _ _ _=>BK (i:=2) nd rfl (BJ rfl)) (λ_ _ _ _ _=>Mf) (λ_ _ _ _ _=>fy (pv 2)))
   (Kd (te:=WZ P w K mg base _ "facts" (Cc 2)) rfl nd (EM (EI PP T.cl hr (pv 0))) (DX (own:= [("part",2)]) (by rfl)) (λ_ _ _ _ _=>BK (i:=2) nd rfl (BJ rfl)) (λ_ _ _ _ _=>Mf) (λ_ _ _ _ _=>fy (pv 2))) (Ai _))
   (AK tZ) Aa)
  (AF (Bu (KY IJ VC VB Kx (AY (pv 0) rfl) #[pv 1]))
  (AK (Aj (Af CK (Ax Ak (by rfl) ml Cz #[AY (pv 0) rfl]) (BD mk) (Ai _))
   (AK (Bu (KY IJ KN Nu Md (AY (pv 0) rfl) #[AU]))) Aa))),?_⟩
 refine⟨_,AA,e0,AA,⟨_,A_.of hp0.lst⟩,λD1 SE=>Yg Z hr hp0 SE rfl λH1 s1 d1=> ?_⟩;have Ig:=s1 _ _ hp;refine⟨_,AA,p,dx,_,AA,Ig,AA,p,dx,kl,c,h,AA,Ig,hh.same s1,λl c' H2 s2 fr RE=> ?_⟩;refine⟨l,AA,⟨_,A_.of RE.lst⟩,λD2 hD2=>Yg Z hr RE hD2 rfl λH3 s3 d2=> ?_⟩;have D5:=s1.trans (s2.trans s3);refine⟨_,_,Dp.same (s2.trans s3) d1,d2,NB _,NB _,_,AA,?_⟩;have ZJ:=D5 _ _ hp;have f7:=D5 _ _ hk;have fin:∀H4,SameBut kl H3 H4->SameBut kl H H4:=λH4 z a u e n=>z a u (D5 _ _ e) n;cases eq:FO (Dv h0) (Dv h) with
 |true=>
  refine Au ?_;refine q H3 (fin _ λa u e _=>e) ?_;rw[eq];exact f7
 |false=>
  refine A' ?_;refine⟨_,AA,p,cs.W,dx,_,_,AA,ZJ,T.cl,T.nK,AA,.inl ⟨AA,_,A_.of f7⟩,_,AA,kl,ks,_,AA,AA,f7,DU hlen (()),?_⟩;have xO:p≠kl:=Ao ZJ f7 (by intro z;cases z);have hp4:(upd H3 kl (.lst (ks++ [.ref e0]))) p=some (.ins cs.W dx (wF (.ref c.s) (.ref c.a) (.ref c.t) (.ref kl))):=by rw[AS xO];exact ZJ
  refine⟨_,AA,p,cs.W,dx,_,_,AA,hp4,T.cl,T.nK,AA,kl,_,AA,.inl (A_.of AJ),_,_,AA,AA,_,AA,?_⟩;rw[CH];by_cases XO:ks.length=12
  ·have e:decide ((12:Int)< ((ks.length+ [V.ref e0].length:Nat):Int))=true:=AH (by rw[XO];show(12:Int)< ((12+1:Nat):Int);decide);rw[e];refine Au ?_;obtain⟨k0,kr,rfl⟩:∃k0 kr,ks=k0::kr:=by cases ks with|nil=>simp at XO|cons a b=>exact⟨a,b,AA⟩
   refine⟨_,AA,p,cs.W,dx,_,_,AA,hp4,T.cl,T.nK,AA,.inl ⟨AA,_,A_.of AJ⟩,kl,_,0,0,k0,AA,AA,AJ,(()),(()),?_,AA,?_⟩
   ·unfold seqIndex?;simp;omega
   ·refine q _ (fin _ λa u e n=>by rw[AS n,AS n];exact e) ?_;rw[AJ,eq];unfold Wb;rw[AB DA,AG XO];rfl
  ·have e:decide ((12:Int)< ((ks.length+ [V.ref e0].length:Nat):Int))=false:=AL (by show¬(12:Int)< ((ks.length+1:Nat):Int);omega);rw[e];refine A' ?_;refine q _ (fin _ λa u e n=>by rw[AS n];exact e) ?_;rw[AJ,eq];unfold Wb;rw[AB DA,AB XO]
inductive Wc(cs:Cs):Sp
 |mk (p dx kl e0 x y z s a t:Addr) (ks:List V):vs= [.ref p]->H p=some (.ins cs.W dx (wF (.ref x) (.ref y) (.ref z) (.ref kl)))->H kl=some (.lst (ks++ [.ref e0]))->H e0=some (.lst [.ref s,.ref a,.ref t])->e0≠kl->(∀H',(∀b o,H b=some o->b≠p->b≠kl->H' b=some o)->H' kl=some (.lst ks)->H' p=some (.ins cs.W dx (wF (.ref s) (.ref a) (.ref t) (.ref kl)))->Q .Dg H')->Wc cs vs H Q DJ
theorem AAg(T:xM K mg cs.W)(D:A1 K cs.W "take_back" "Whole.take_back" Dk BX):An P w K mg base cs.W 1 "take_back" BX (Wc cs):=by
 exists Ho
 ·obtain⟨p,dx,kl,e0,x,y,z,s,a,t,ks,rfl,_⟩:=h;rfl
 obtain⟨p,dx,kl,e0,x,y,z,s,a,t,ks,rfl,hp,hk,he,nek,q⟩:=h;have nd:=Ho.nd;refine⟨_,AF (1>>oN IJ KN Nu oP (AY (pv 0) rfl))
  (AF (Ap (pv 0) (BM D4 (pv 1) AU (λ_ _=>rfl)) rfl) (AF (Ap (pv 0) (BM D4 (pv 1) AU (λ_ _=>rfl)) rfl) (AK (Ap (pv 0) (BM D4 (pv 1) AU (λ_ _=>rfl)) rfl)))),?_⟩
 have xO:p≠kl:=Ao hp hk (by intro z;cases z);have hpe:p≠e0:=Ao hp he (by intro z;cases z);refine⟨_,AA,p,cs.W,dx,_,_,AA,hp,T.cl,T.nK,AA,.inl ⟨AA,_,A_.of hk⟩,kl,_,.ref e0,AA,AA,hk,?_,?_⟩
 ·rw[CH];show(ks++ [V.ref e0])[ks.length+1 - 1]? =_;simp
 rw[List.dropLast_concat];have he1:(upd H kl (.lst ks)) e0=some (.lst [.ref s,.ref a,.ref t]):=by rw[AS nek];exact he
 refine⟨_,AA,e0,_,_,_,AA,AA,A_.of he1,AA,_,AA,p,cs.W,dx,_,AA,(by rw[AS xO];exact hp),T.cl,T.nS,(by show 4<1000;decide),?_⟩;refine⟨_,AA,e0,_,_,_,AA,AA,A_.of (by rw[AS hpe.symm];exact he1),AA,_,AA,p,cs.W,dx,_,AA,AJ,T.cl,T.nA,(by show 4<1000;decide),?_⟩;refine⟨_,AA,e0,_,_,_,AA,AA,A_.of (by rw[AS hpe.symm,AS hpe.symm];exact he1),AA,_,AA,p,cs.W,dx,_,AA,AJ,T.cl,T.nT,(by show 4<1000;decide),?_⟩;rw[Az,Az];refine q _ (λb o h n1 n2=>by rw[AS n1,AS n2];exact h) (by rw[AS xO.symm];exact AJ) ?_;rw[AJ];rfl
inductive QM(cs:Cs):Sp
 |mk (p dx:Addr):vs= [.ref p]->H p=some (.ins cs.W dx [])->(∀H' d,(∀a u,H a=some u->a≠p->H' a=some u)->H d=none->H' d=some (.lst [])->H' p=some (.ins cs.W dx (wF .Dg .Dg .Dg (.ref d)))->Q .Dg H')->QM cs vs H Q DJ
theorem AAh(T:xM K mg cs.W)(D:A1 K cs.W "__init__" "Whole.__init__" ED BX):An P w K mg base cs.W 1 "__init__" BX (QM cs):=by
 exists OT
 ·obtain⟨p,dx,rfl,_⟩:=h;rfl
 obtain⟨p,dx,rfl,hp,q⟩:=h;refine⟨_,AF (Ap (pv 0) Vc rfl) (AF (Ap (pv 0) Vc rfl) (AF (Ap (pv 0) Vc rfl) (AK (Ap (pv 0) (Am By) rfl)))),?_⟩;refine⟨_,AA,p,cs.W,dx,[],AA,hp,T.cl,T.nS,(by show 0<1000;decide),?_⟩;refine⟨_,AA,p,cs.W,dx,_,AA,AJ,T.cl,T.nA,(by show 1<1000;decide),?_⟩;refine⟨_,AA,p,cs.W,dx,_,AA,AJ,T.cl,T.nT,(by show 2<1000;decide),?_⟩;rw[Az,Az];refine⟨BR _,λd hd=> ?_⟩;have TK:p≠d:=λz=>by subst z;rw[AJ] at hd;cases hd
 have Pd:H d=Iz:=by rw[AS TK.symm] at hd;exact hd
 refine⟨_,AA,p,cs.W,dx,_,AA,(by rw[AS TK];exact AJ),T.cl,T.nK,(by show 3<1000;decide),?_⟩;refine q _ d (λa u h n=> ?_) Pd ?_ ?_
 ·rw[AS n,AS (AQ h Pd),AS n];exact h
 ·rw[AS TK.symm];exact AJ
 ·rw[AJ];rfl
theorem F0{H:Hp}{p a:Addr}{o:HO}(h:(upd H p o) a=none):H a=none:=by
 by_cases e:a=p
 ·subst e;rw[AJ] at h;cases h
 ·rw[AS e] at h;exact h
theorem Gj{H:Hp}{x dx a C:Addr}(h:(upd (upd H dx (.own x)) x (.ins C dx [])) a=none):H a=none:=F0 (F0 h)
def Wd(m k b:Nat):Aw:=⟨⟨[],m,k,b⟩,0,false,⟨1,0,0,b,0,false⟩,⟨1,k,b,[]⟩⟩
inductive We(K:Ab)(cs:Cs):Sp
 |mk (p dx:Addr) (x y z u:V) (m k b:Nat):vs= [.ref p,nV m,nV k,nV b]->H p=some (.ins cs.W dx (wF x y z u))->(∀H' kl c,(∀a o,H a=some o->a≠p->H' a=some o)->qQ H (kl::c.l)->H' p=some (.ins cs.W dx (wF (.ref c.s) (.ref c.a) (.ref c.t) (.ref kl)))->H' kl=some (.lst [])->Ct K cs H' c (Wd m k b)->Q .Dg H')->We K cs vs H Q DJ
theorem vE(Z:Parts P w K mg base cs)(D:A1 K cs.W "begin" "Whole.begin" Fh IY):An P w K mg base cs.W 3 "begin" IY (We K cs):=by
 exists S'
 ·obtain⟨p,dx,x,y,z,u,m,k,b,rfl,_⟩:=h;rfl
 obtain⟨p,dx,x,y,z,u,m,k,b,rfl,hp,q⟩:=h;have T:=Z.tW;refine⟨_,AF (Ap (pv 0) (Jw Z.sI Z.tS.ZI hr #[pv 1,pv 2,pv 3]) rfl)
  (AF (Ap (pv 0) (Jw Z.aI Z.tA.ZI hr #[AU,AU,AU,pv 3]) rfl)
  (AF (Ap (pv 0) (Jw Z.tI Z.tT.ZI hr #[AU,pv 2,pv 3]) rfl) (AK (Ap (pv 0) (Am By) rfl)))),?_⟩
 refine⟨_,AA,_,AA,_,AA,λs ds ns nds nes=> ?_⟩;refine⟨s,ds,m,k,b,AA,AJ,λH1 sd k1 Gg nsd Sn Hq=>⟨AA,?_⟩⟩;have s1:Ag H H1:=Ag.made ns nds k1;have ADO:H sd=Iz:=Gj Gg;have Ig:=s1 _ _ hp;refine⟨_,AA,p,cs.W,dx,_,AA,Ig,T.cl,T.nS,(by show 4<1000;decide),?_⟩;have TM:s≠p:=(AQ hp ns).symm;have AAi:sd≠p:=(AQ hp ADO).symm;refine⟨_,AA,λa da na nda nea=> ?_⟩;refine⟨a,da,1,0,0,b,AA,AJ,λH2 k2 xP=>⟨AA,?_⟩⟩;have s2:=Ag.made na nda k2;have na1:=F0 na;have RE:=s2 _ _ AJ;have hpa:a≠p:=(AQ AJ na).symm;have Vf:=s2 s _ (by rw[AS TM];exact Hq);have hd2:=s2 sd _ (by rw[AS AAi];exact Sn);refine⟨_,AA,p,cs.W,dx,_,AA,RE,T.cl,T.nA,(by show 4<1000;decide),?_⟩;refine⟨_,AA,_,AA,λt dt nt ndt net=> ?_⟩;refine⟨t,dt,1,k,b,AA,AJ,λH3 tp k3 nd3 ntp hd3 ht3=>⟨AA,?_⟩⟩;have s3:=Ag.made nt ndt k3;have nt2:=F0 nt;have ADP:(upd H2 p (.ins cs.W dx (DB "alike" (.ref a) (DB "season" (.ref s) (wF x y z u))))) tp=Iz:=Gj nd3;have vF:=F0 ADP;have ZJ:=s3 _ _ AJ;have hpt:t≠p:=(AQ AJ nt).symm;have AFA:tp≠p:=(AQ AJ ADP).symm;have ha3:=s3 a _ (by rw[AS hpa];exact xP);have hs3:=s3 s _ (by rw[AS TM];exact Vf);have ADQ:=s3 sd _ (by rw[AS AAi];exact hd2);refine⟨_,AA,p,cs.W,dx,_,AA,ZJ,T.cl,T.nT,(by show 4<1000;decide),?_⟩;refine⟨BR _,λkl vG=> ?_⟩;have nk3:=F0 vG;have xO:kl≠p:=(AQ AJ vG).symm;refine⟨_,AA,p,cs.W,dx,_,AA,(by rw[AS xO.symm];exact AJ),T.cl,T.nK,(by show 4<1000;decide),?_⟩;have keep:∀b o,H3 b=some o->b≠p->(upd (upd (upd H3 p (.ins cs.W dx (DB "table" (.ref t) (DB "alike" (.ref a) (DB "season" (.ref s) (wF x y z u)))))) kl (.lst [])) p (.ins cs.W dx (wF (.ref s) (.ref a) (.ref t) (.ref kl)))) b=some o:=λb o h n=>by
  rw[AS n,AS (AQ h nk3),AS n];exact h
 have old:∀b o,H b=some o->b≠p->H3 b=some o:=λb o h n=>s3 _ _ (by rw[AS n];exact s2 _ _ (by rw[AS n];exact s1 _ _ h));have fre:∀b,b≠p->H3 b=none->H b=none:=λb n h=>by
  cases e:H b with
  |none=>rfl
  |some o=>rw[old b o e n] at h;cases h
 refine q _ kl ⟨s,sd,a,t,tp⟩ (λb o h n=>keep b o (old b o h n) n) ⟨λb hb=> ?_,?_⟩ AJ (by rw[AS xO];exact AJ) ⟨⟨⟨ds,keep _ _ hs3 TM⟩,keep _ _ ADQ AAi⟩,⟨⟨da,keep _ _ ha3 hpa⟩⟩,⟨⟨dt,keep _ _ ht3 hpt⟩,⟨[],keep _ _ hd3 AFA,.nil⟩⟩⟩
 ·simp only[Ad.l,BQ,HN,or_false] at hb;rcases hb with rfl|rfl|rfl|rfl|rfl|rfl
  ·exact fre _ xO nk3
  ·exact ns
  ·exact ADO
  ·exact s1.free na1
  ·exact s1.free (F0 (s2.free nt2))
  ·exact s1.free (F0 (s2.free vF))
 ·have e1:s≠sd:=Ao Hq Sn (by intro z;cases z);have e2:s≠a:=AQ Hq na1;have e3:s≠t:=AQ Vf nt2;have e4:s≠tp:=AQ Vf vF;have e5:sd≠a:=AQ Sn na1;have e6:sd≠t:=AQ hd2 nt2;have e7:sd≠tp:=AQ hd2 vF;have e8:a≠t:=AQ xP nt2;have e9:a≠tp:=AQ xP vF;have e10:t≠tp:=ntp.symm;have f1:kl≠s:=(AQ hs3 nk3).symm;have f2:kl≠sd:=(AQ ADQ nk3).symm;have f3:kl≠a:=(AQ ha3 nk3).symm;have f4:kl≠t:=(AQ ht3 nk3).symm;have f5:kl≠tp:=(AQ hd3 nk3).symm;simp only[Ad.l,Bx,BQ,HN,or_false,not_or,not_false_eq_true,GD,and_true];exact⟨⟨f1,f2,f3,f4,f5⟩,⟨e1,e2,e3,e4⟩,⟨e5,e6,e7⟩,⟨e8,e9⟩,e10⟩
end
section
abbrev Ch:=List ((Int×Int)×Rat)
def GA:Ch->Int×Int->Rat->Ch
 | [],k,c=> [(k,0+c)]
 |e::cs,k,c=>if e.1=k then(e.1,e.2+c)::cs else e::GA cs k c
def C5:Ch->Int×Int->Rat
 | [],_=>0
 |e::cs,k=>if e.1=k then e.2 else C5 cs k
def sumF(F:Int×Int->Rat):Ch->Rat
 | []=>0
 |e::cs=>e.2*F e.1+sumF F cs
theorem E_(F:Int×Int->Rat):∀(cs:Ch) (k:Int×Int) (c:Rat),sumF F (GA cs k c)=sumF F cs+c*F k
 | [],k,c=>by simp only[GA,sumF];grind
 |e::cs,k,c=>by
  simp only[GA];by_cases h:e.1=k
  ·rw[AG h];simp only[sumF];rw[h];grind
  ·rw[AB h];simp only[sumF];rw[E_ F cs k c];grind
theorem ND:∀(cs:Ch) (k:Int×Int) (c:Rat),(GA cs k c).length<=cs.length+1
 | [],k,c=>As _
 |e::cs,k,c=>by
  simp only[GA];split
  ·simp
  ·have:=ND cs k c;simp only[CD];omega
theorem NF:∀{cs:Ch} {k:Int×Int} {c:Rat} {e:(Int×Int)×Rat},e∈GA cs k c->(e.1=k/\e.2=C5 cs k+c)\/e∈cs
 | [],k,c,e,h=>by
  rw[Gm.mp h];exact .inl ⟨rfl,rfl⟩
 |x::cs,k,c,e,h=>by
  simp only[GA] at h;by_cases hx:x.1=k
  ·rw[AG hx] at h;rcases BQ.mp h with h|h
   ·refine .inl ?_;rw[h];simp only[C5];rw[AG hx];exact⟨hx,AA⟩
   ·exact .inr (Bb _ h)
  ·rw[AB hx] at h;rcases BQ.mp h with h|h
   ·exact .inr (by rw[h];exact Bw)
   ·rcases NF h with h|h
    ·refine .inl ?_;simp only[C5];rw[AB hx];exact h
    ·exact .inr (Bb _ h)
theorem OW:∀(cs:Ch) (k:Int×Int) (c:Rat),(cs.map (·.1)).Nodup->((GA cs k c).map (·.1)).Nodup/\∀x,x∈(GA cs k c).map (·.1)->x=k\/x∈cs.map (·.1)
 | [],k,c,_=>⟨by simp[GA],λx hx=> .inl (by simpa [GA] using hx)⟩
 |e::cs,k,c,h=>by
  simp only[GA];by_cases hx:e.1=k
  ·rw[AG hx];exact⟨h,λx hx=> .inr hx⟩
  ·rw[AB hx];have h1:=Bx.mp h;obtain⟨a1,a2⟩:=OW cs k c h1.2;refine⟨Bx.mpr ⟨λz=> ?_,a1⟩,λx z=> ?_⟩
   ·rcases a2 _ z with y|y
    ·exact hx y
    ·exact h1.1 y
   ·rcases BQ.mp z with z|z
    ·exact .inr (by rw[z];exact Bw)
    ·rcases a2 _ z with y|y
     ·exact .inl y
     ·exact .inr (Bb _ y)
theorem HE{E v:Nat}:∀{cs:Ch} {k:Int×Int},(∀e∈cs,Bd E v e.2)->Bd E v (C5 cs k)
 | [],_,_=>Bd.zero _ _
 |e::cs,k,h=>by
  simp only[C5];split
  ·exact h e Bw
  ·exact HE λx hx=>h x (Bb _ hx)
def sK(k:Int×Int):List Key:= [Ck k.1,Ck k.2]
theorem bz{a b:Int×Int}(h:sK a=sK b):a=b:=by
 unfold sK at h;injection h with h1 h2
 injection h2 with h2 _
 injection h1 with h1
 injection h2 with h2
 exact L6 h1 h2
def F4(K:Ab)(H:Hp):List (List Key×V)->Ch->Prop:=Paired λkv c=>kv.1=sK c.1/\A8 K H kv.2 c.2
theorem F4.imp{K:Ab}{H H':Hp}{AZ:List (List Key×V)}{cs:Ch}(h:F4 K H AZ cs)(s:∀v r,A8 K H v r->A8 K H' v r):F4 K H' AZ cs:=Paired.Jy h λ_ _ z=>⟨z.1,s _ _ z.2⟩
theorem F4.keys{K:Ab}{H:Hp}:∀{AZ:List (List Key×V)} {cs:Ch},F4 K H AZ cs->AZ.map (·.1)=cs.map λc=>sK c.1
 |_,_,.nil=>rfl
 |_,_,.cons h t=>by rw[B7,B7,h.1,F4.keys t]
theorem qR{k:List Key}{v:V}{e:List Key×V}{r:List (List Key×V)}(h:((e::r).map (·.1)).Nodup):putK (e::r) k v=if e.1=k then(e.1,v)::r else e::putK r k v:=by
 have h1:=Bx.mp h;by_cases he:e.1=k
 ·rw[AG he];unfold putK;have a:((e::r).any λkv=>decide (kv.1=k))=true:=by rw[Ll,AH he];rfl
  rw[AG a,B7,AG he];congr 1;have:r.map (λkv=>if kv.1=k then(kv.1,v) else kv)=r.map id:=QY λx hx=>by
   rw[AB]
   ·rfl
   ·intro z;exact h1.1 (by show e.1∈_;rw[he,←z];exact Fp.mpr ⟨x,hx,rfl⟩)
  rw[this,kS]
 ·rw[AB he];unfold putK;have a:((e::r).any λkv=>decide (kv.1=k))=r.any λkv=>decide (kv.1=k):=by rw[Ll,AL he,Z2]
  rw[a];split
  ·rw[B7,AB he]
  ·rfl
theorem F4.put{K:Ab}{H:Hp}{k:Int×Int}{c:Rat}{v:V}:∀{AZ:List (List Key×V)} {cs:Ch},F4 K H AZ cs->(AZ.map (·.1)).Nodup->A8 K H v (C5 cs k+c)->F4 K H (putK AZ (sK k) v) (GA cs k c)
 |_,_,.nil,_,h=>by
  show F4 K H [(sK k,v)] [(k,0+c)];exact .cons ⟨rfl,h⟩ .nil
 |_,_,.cons (a:=e) (b:=x) (l₁:=r) (l₂:=cs) h t,hn,hv=>by
  rw[qR hn];simp only[GA,C5] at hv ⊢;by_cases hx:x.1=k
  ·rw[AG hx] at hv ⊢;rw[AG (by rw[h.1,hx])];exact .cons ⟨h.1,hv⟩ t
  ·rw[AB hx] at hv ⊢;rw[AB (λz=>hx (bz (h.1.symm.trans z)))];exact .cons h (F4.put t (Bx.mp hn).2 hv)
theorem F4.val{K:Ab}{H:Hp}{k:Int×Int}:∀{AZ:List (List Key×V)} {cs:Ch},F4 K H AZ cs->(∃v,EG AZ (sK k)=some v/\A8 K H v (C5 cs k))\/(EG AZ (sK k)=none/\C5 cs k=0)
 |_,_,.nil=> .inr ⟨rfl,rfl⟩
 |_,_,.cons (a:=e) (b:=x) h t=>by
  simp only[C5];by_cases hx:x.1=k
  ·rw[AG hx,CW (by rw[h.1,hx])];exact .inl ⟨_,rfl,h.2⟩
  ·rw[AB hx,CY (λz=>hx (bz (h.1.symm.trans z)))];exact F4.val t
end
section
variable{C:Addr}
structure jt(K:Ab)(H:Hp)(d:Addr)(cs:Ch):Prop where
 ex:∃AZ,H d=some (.dT AZ)/\F4 K H AZ cs
 nd:(cs.map (·.1)).Nodup
theorem Yh:∀{l:List (Int×Int)},l.Nodup->(l.map sK).Nodup
 | [],_=>GD
 |a::l,h=>by
  have h1:=Bx.mp h;rw[B7];refine Bx.mpr ⟨λz=> ?_,Yh h1.2⟩;obtain⟨x,hx,e⟩:=Fp.mp z;exact h1.1 (by rw[←bz e];exact hx)
theorem F4.nodup{H:Hp}{AZ:List (List Key×V)}{cs:Ch}(h:F4 K H AZ cs)(n:(cs.map (·.1)).Nodup):(AZ.map (·.1)).Nodup:=by
 rw[h.keys];have:=Yh n;rw[Lm] at this;exact this
theorem F4.len{H:Hp}{AZ:List (List Key×V)}{cs:Ch}(h:F4 K H AZ cs):AZ.length=cs.length:=Paired.length h
inductive b6(K:Ab):Sp
 |mk (d p:Addr) (x:V) (cs:Ch) (k:Int×Int) (c:Rat):vs= [.ref d,.ref p,x]->jt K H d cs->H p=some (.tup ((sK k).map kV))->A8 K H x c->Ok c->Ok (C5 cs k)->cs.length<=1000->(∀H',Ext d H H'->jt K H' d (GA cs k c)->Q .Dg H')->b6 K vs H Q DJ
theorem ADR(R:HC P w K mg base)(D:Def K mg "add_chance" Es Vx):#[] 4 "add_chance" Vx (b6 K):=by
 exists Mn
 ·obtain⟨d,p,x,cs,k,c,rfl,_⟩:=h;rfl
 obtain⟨d,p,x,cs,k,c,rfl,⟨⟨AZ,hd,hc⟩,hn⟩,hp,hx,oc,ol,hlen,q⟩:=h;have hu:=UD hr;refine⟨_,AK (Vr hu (pv 0) (pv 1) (AV R.plus hr #[RH hu (pv 0) (pv 1) (Sm R.zero) ⟨AA,AA,AA,AA⟩,pv 2]) rfl),?_⟩;have hnk:=hc.nodup hn;refine⟨_,AA,d,AA,.inr ⟨AZ,.inl hd⟩,_,AA,?_⟩;intro v0 YV;refine⟨_,Jz.t (k:=sK k) hd hp,_,AA,_,x,C5 cs k,c,AA,?_,hx,ol,oc,trivial,λv H1 s1 q1=> ?_⟩
 ·rcases hc.val (k:=k) with⟨v,e1,e2⟩|⟨e1,e2⟩
  ·rw[e1];exact e2
  ·rw[e1,e2];exact YV _
 have Sn:=s1 _ _ hd;have Ig:=s1 _ _ hp;refine⟨_,AA,_,AA,d,_,AA,Vp.t (k:=sK k) Sn Ig (by rw[hc.len];exact DU hlen (())),?_⟩;have e1:Ext d H1 (upd H1 d (.dT (putK AZ (sK k) v))):=λa u h n=>by rw[AS n];exact h
 have tr:∀y r,A8 K H1 y r->A8 K (upd H1 d (.dT (putK AZ (sK k) v))) y r:=λy r z=>z.ext e1 Sn;refine q _ ((Ext.of s1).trans e1) ⟨⟨_,AJ,?_⟩,(OW cs k c hn).1⟩;exact((hc.imp λy r z=>z.same s1).put hnk q1).imp tr
end
section
variable{C:Addr}
def Keeps(d:Addr)(H H':Hp):Prop:=∀a w,H a=some w->(a=d\/((∀kv,w≠ .dT kv)/\∀od kv,w≠ .DW od (.dT kv)))->H' a=some w
theorem Keeps.same{d:Addr}{H H':Hp}(s:Ag H H'):Keeps d H H':=λa w h _=>s a w h
theorem Keeps.ext{d x:Addr}{H H':Hp}{kv:List (List Key×V)}(e:Ext x H H')(hx:H x=some (.dT kv))(n:d≠x):Keeps d H H':=λa w h c=>e a w h λz=>by
 subst z;rcases c with c|c
 ·exact n c.symm
 ·rw[hx] at h;exact c.1 kv (Bl h).symm
theorem Keeps.sqL{d a:Addr}{H H':Hp}{xs:List V}(k:Keeps d H H')(h:A_ K H a xs):A_ K H' a xs:=by
 rcases h with h|h
 ·refine .inl ?_;rcases h with h|⟨o,h⟩
  ·exact .inl (k _ _ h (.inr ⟨λ_ z=>(nomatch z),λ_ _ z=>(nomatch z)⟩))
  ·exact .inr ⟨o,k _ _ h (.inr ⟨λ_ z=>(nomatch z),λ_ _ z=>by injection z with _ z;cases z⟩)⟩
 ·exact .inr h
theorem Keeps.sqT{d a:Addr}{H H':Hp}{xs:List V}(k:Keeps d H H')(h:Bi K H a xs):Bi K H' a xs:=by
 rcases h with h|h
 ·refine .inl ?_;rcases h with h|⟨o,h⟩
  ·exact .inl (k _ _ h (.inr ⟨λ_ z=>(nomatch z),λ_ _ z=>(nomatch z)⟩))
  ·exact .inr ⟨o,k _ _ h (.inr ⟨λ_ z=>(nomatch z),λ_ _ z=>by injection z with _ z;cases z⟩)⟩
 ·exact .inr h
theorem Keeps.q{d:Addr}{H H':Hp}{v:V}{r:Rat}(k:Keeps d H H')(h:A8 K H v r):A8 K H' v r:=let⟨a,e,q⟩:=h;⟨a,e,k.sqT q⟩
theorem Keeps.ins{d a C dx:Addr}{H H':Hp}{fs:List (Str×V)}(k:Keeps d H H')(h:H a=some (.ins C dx fs)):H' a=some (.ins C dx fs):=k _ _ h (.inr ⟨λ_ z=>(nomatch z),λ_ _ z=>(nomatch z)⟩)
theorem CZ.kp{H H':Hp}{o d:Addr}{b:Nat}{days:List Nat}(O:CZ K C H o d b days)(e:Keeps d H H'):CZ K C H' o d b days:=by
 obtain⟨dx,l,h1,h2⟩:=O.ob;obtain⟨AZ,h3,h4⟩:=O.me;exact⟨O.EX,O.pos,O.sz,O.ub,O.bb,⟨dx,l,e.ins h1,e.sqL h2⟩,⟨AZ,e _ _ h3 (.inl rfl),h4.same λv r q=>e.q q⟩⟩
theorem jt.imp{H H':Hp}{x:Addr}{cs:Ch}(c:jt K H x cs)(e:∀u,H x=some u->H' x=some u)(s:∀v r,A8 K H v r->A8 K H' v r):jt K H' x cs:=
 let⟨AZ,h1,h2⟩:=c.ex;⟨⟨AZ,e _ h1,h2.imp s⟩,c.nd⟩
def eT:Nat->Nat
 |0=>0
 |1=>400
 |2=>790
 |3=>1150
 |_=>1420
def vT:Nat->Nat
 |0=>1
 |1=>210
 |2=>290
 |3=>345
 |_=>440
theorem f_{t n:Nat}(h:t<n)(hn:n<=4):eT t+2*aD (n - t)*3^t<=eT (t+1):=by
 have h4:aD (n - t)<=aD (4 - t):=P8 ()
 match t,h,h4 with
 |0,_,h4=>have e:aD (4 - 0)=200:=rfl;show 0+2*aD (n - 0)*1<=400;omega
 |1,_,h4=>have e:aD (4 - 1)=65:=rfl;show 400+2*aD (n - 1)*3<=790;omega
 |2,_,h4=>have e:aD (4 - 2)=20:=rfl;show 790+2*aD (n - 2)*9<=1150;omega
 |3,_,h4=>have e:aD (4 - 3)=5:=rfl;show 1150+2*aD (n - 3)*27<=1420;omega
 |t+4,h,_=>omega
theorem gA{t n:Nat}(h:t<n)(hn:n<=4):vT t+aD (n - t)+3+3*3^t<=vT (t+1)/\vT t+aD (n - t)+4+3^t<=vT (t+1):=by
 have h4:aD (n - t)<=aD (4 - t):=P8 ()
 match t,h,h4 with
 |0,_,h4=>have e:aD (4 - 0)=200:=rfl;show 1+aD (n - 0)+3+3*1<=210/\1+aD (n - 0)+4+1<=210;omega
 |1,_,h4=>have e:aD (4 - 1)=65:=rfl;show 210+aD (n - 1)+3+3*3<=290/\210+aD (n - 1)+4+3<=290;omega
 |2,_,h4=>have e:aD (4 - 2)=20:=rfl;show 290+aD (n - 2)+3+3*9<=345/\290+aD (n - 2)+4+9<=345;omega
 |3,_,h4=>have e:aD (4 - 3)=5:=rfl;show 345+aD (n - 3)+3+3*27<=440/\345+aD (n - 3)+4+27<=440;omega
 |t+4,h,_=>omega
theorem ADS(t:Nat):eT t<=1420:=by unfold eT;split <;> decide
theorem ADT(t:Nat):vT t<=440:=by unfold vT;split <;> decide
def inR(k:Int×Int):Prop:=0<=k.1/\k.1<=5/\0<=k.2/\k.2<=5
def cG(x y:Nat->Nat->Nat->Rat):Nat->Nat->Nat->Nat->Rat
 |0,_,_,_=>0
 |f+1,t,m,k=>x t m k*y t m k+x t m k*(1 - y t m k)*cG x y f (t+1) (m - 1) k+((1 - x t m k)*y t m k*cG x y f (t+1) m (k - 1)+(1 - x t m k)*(1 - y t m k)*cG x y f (t+1) m k)
def bG(x y:Nat->Nat->Nat->Rat)(u:Nat->Nat):Nat->Nat->Nat->Nat->Rat
 |0,_,_,_=>0
 |f+1,t,m,k=>x t m k*(1 - y t m k)*bG x y u f (t+1) (m - 1) k+((1 - x t m k)*y t m k*((u t:Rat)+bG x y u f (t+1) m (k - 1))+(1 - x t m k)*(1 - y t m k)*bG x y u f (t+1) m k)
def Fc(x y:Nat->Nat->Nat->Rat)(n t:Nat)(k:Int×Int):Rat:=cG x y (n - t) t k.1.toNat k.2.toNat
def Fb(x y:Nat->Nat->Nat->Rat)(u:Nat->Nat)(n t:Nat)(k:Int×Int):Rat:=bG x y u (n - t) t k.1.toNat k.2.toNat
structure Small(E v:Nat)(cs:Ch):Prop where
 at_:∀e∈cs,Bd E v e.2
theorem Small.up{E v:Nat}{cs:Ch}(h:Small E v cs)(F:Nat){u:Nat}(hu:v<=u):Small (E*F) u cs:=⟨λe he=>(h.at_ e he).up F hu⟩
theorem Small.add{E v:Nat}{cs:Ch}{k:Int×Int}{c:Rat}(h:Small E v cs)(hc:Bd E v c):Small E (v+1) (GA cs k c):=⟨λe he=>by
 rcases NF he with⟨_,e2⟩|he
 ·rw[e2];exact(HE h.at_).add hc
 ·exact(h.at_ e he).mono (Uz _)⟩
def Wf(cs:Ch):Prop:=∀e∈cs,inR e.1\/e.2=0
theorem Wf.look{cs:Ch}{k:Int×Int}:∀(h:Wf cs),inR k\/C5 cs k=0:=by
 induction cs with
 |nil=>intro _;exact .inr rfl
 |cons e cs ih=>
  intro h;simp only[C5];by_cases hk:e.1=k
  ·rw[AG hk];rcases h e Bw with z|z
   ·exact .inl (by rw[←hk];exact z)
   ·exact .inr z
  ·rw[AB hk];exact ih λx hx=>h x (Bb _ hx)
theorem Wf.add{cs:Ch}{k:Int×Int}{c:Rat}(h:Wf cs)(hc:inR k\/c=0):Wf (GA cs k c):=λe he=>by
 rcases NF he with⟨e1,e2⟩|he
 ·rcases hc with hc|hc
  ·exact .inl (by rw[e1];exact hc)
  ·rcases h.look (k:=k) with z|z
   ·exact .inl (by rw[e1];exact z)
   ·exact .inr (by rw[e2,z,hc];grind)
 ·exact h e he
theorem Hr(F:Int×Int->Rat):∀cs:Ch,sumF F (cs.filter λe=>decide (e.2≠0))=sumF F cs
 | []=>rfl
 |e::cs=>by
  by_cases h:e.2=0
  ·rw[NZ (by simp[h]),Hr F cs];simp only[sumF];rw[h];grind
  ·rw[NY (by simp[h])];simp only[sumF];rw[Hr F cs]
theorem Ih(F:Int×Int->Rat):∀{cs:Ch} {i:Nat} {e:(Int×Int)×Rat},cs[i]? =some e->sumF F (cs.take (i+1))=sumF F (cs.take i)+e.2*F e.1
 | [],i,e,h=>by simp at h
 |x::cs,0,e,h=>by
  have:x=e:=Bl h;subst this;simp only[QX,Zd,sumF];grind
 |x::cs,i+1,e,h=>by
  have:=Ih F (cs:=cs) (i:=i) (e:=e) (by simpa using h);simp only[QX,sumF];rw[this];grind
theorem F4.get{H:Hp}:∀{AZ:List (List Key×V)} {cs:Ch} {i:Nat} {k:List Key} {v:V},F4 K H AZ cs->AZ[i]? =some (k,v)->∃e,cs[i]? =some e/\k=sK e.1/\A8 K H v e.2
 |_,_,_,_,_,.nil,h=>by simp at h
 |_,_,0,k,v,.cons (b:=x) r _,h=>by
  have e:=Bl h;subst e;exact⟨x,AA,r⟩
 |_,_,i+1,k,v,.cons _ t,h=>by
  obtain⟨e,h1,h2⟩:=F4.get (i:=i) t (by simpa using h);exact⟨e,by simpa using h1,h2⟩
end
section
variable{K:Ab}
theorem qS{acc:List (List Key×V)}{k:List Key}{v:V}(h:k∉acc.map (·.1)):putK acc k v=acc++ [(k,v)]:=by
 refine Xm v ?_;cases e:EG acc k with
 |none=>rfl
 |some x=>exact absurd (Fp.mpr ⟨_,R8 e,rfl⟩) h
theorem SF:∀(AZ acc:List (List Key×V)),((acc++AZ).map (·.1)).Nodup->Jc acc AZ=acc++AZ
 | [],acc,_=>by rw[Nh];rfl
 |e::AZ,acc,h=>by
  show Jc (putK acc e.1 e.2) AZ=_;have h1:e.1∉acc.map (·.1):=by
   rw[GB,B7] at h;have:=(MT.mp h).2.2;intro z;exact this _ z _ Bw rfl
  rw[qS h1,SF AZ (acc++ [(e.1,e.2)]) (by rw[Lh];exact h),Lh];rfl
theorem gC:∀{AZ:List (List Key×V)} {i:Nat} {k:List Key} {v:V},(AZ.map (·.1)).Nodup->AZ[i]? =some (k,v)->EG AZ k=some v
 | [],i,k,v,_,h=>by simp at h
 |e::AZ,0,k,v,_,h=>by
  have:=Bl h;subst this;exact CW rfl
 |e::AZ,i+1,k,v,hn,h=>by
  have h1:=Bx.mp hn;have h2:AZ[i]? =some (k,v):=by simpa using h
  rw[CY]
  ·exact gC h1.2 h2
  ·intro z;exact h1.1 (Fp.mpr ⟨(k,v),II h2,z.symm⟩)
def dQ(r:Rat):PyData:= .tuple [.int r.num,.int (r.den:Nat)]
theorem A8.dp{H:Hp}{v:V}{r:Rat}(h:A8 K H v r):Dp K H v (dQ r):=by
 obtain⟨a,rfl,h⟩:=h;exact .tup h (.cons (.int _) (.cons (.int _) .nil))
theorem NG(r:Rat):KQ (dQ r)=true:=by
 unfold KQ dQ;simp[VL,N0,L0,Lz]
theorem xQ(r:Rat):FO (dQ r) (dQ 0)=decide (r=0):=by
 rw[Jj];simp only[dQ,FO,Jm,DV,beq_iff_eq,decide_eq_true_eq,kh];constructor
 ·rintro⟨h1,h2⟩;exact Rat.ext h1 (by exact_mod_cast h2)
 ·rintro rfl;exact⟨AA,AA⟩
abbrev xR(K:Ab)(H:Hp):List Addr->List (List Key×V)->Prop:=Paired λp kv=>∃q,Bi K H p [.ref q,kv.2]/\H q=some (.tup (kv.1.map kV))
theorem Eh{α β:Type}{F:α->β->Prop}{a:α}{b:β}(h:F a b):∀{l:List α} {m:List β},Paired F l m->Paired F (l++ [a]) (m++ [b])
 |_,_,.nil=> .cons h .nil
 |_,_,.cons x t=> .cons x (Eh h t)
theorem EZ{α:Type}:∀{l:List α} {i:Nat} {x:α},l[i]? =some x->l.take (i+1)=l.take i++ [x]
 | [],i,x,h=>by simp at h
 |a::l,0,x,h=>by
  have e:a=x:=Bl h;subst e;rfl
 |a::l,i+1,x,h=>by
  have ih:=EZ (l:=l) (i:=i) (x:=x) (by simpa using h);rw[QX,ih];rfl
theorem vH{P:Program}{w:World}{H1:Hp}{dl:Addr}{od:Obj}{AZ:List (List Key×V)}{Fm:Ch}{D:Addr}{σ:L2.St}{Qd:Hp->Prop}(hσ:σ[8]? =some (some (.ref dl)))(hlen:σ.length=19)(hn:(Fm.map (·.1)).Nodup)(hk:(AZ.map (·.1)).Nodup)
  (hd:H1 dl=some (.DW od (.dT AZ))) (hc:F4 K H1 AZ Fm) (hD:H1 D=none) (hl:AZ.length<=1000)
  (q:∀H' ps Wg,Ag H1 H'->H' D=some (.lst (ps.map V.ref))->xR K H' ps Wg->F4 K H' Wg (Fm.filter λe=>decide (e.2≠0))->Qd H'):
  ∃W:Nat->Nat->Hp->Prop,(∃m,W 0 m (upd H1 D (.lst [])))/\∀i m H,W i m H->
   ((Xy dl od AZ).stop i H/\Qd H)\/((Xy dl od AZ).go i H/\∃Nx:Hp->Prop,(∀H',Nx H'->∃m',m'<m/\W (i+1) m' H')/\∀x H',(Xy dl od AZ).ah i H x H'->Ow 9 x (wipe σ [9]) H' λσ2 H2=>wipe σ2 [9]=wipe σ [9]/\
    KW (Pj (uE K) (Xo (Cc 8) (Cc 9)) (tGQ K 0)) σ2 H2 λb H3=>
    if b=true then t5 (Cq (Cc 9) (Cq (Xo (Cc 8) (Cc 9)) IM)) σ2 H3 λy H4=>∃acc,H4 D=some (.lst acc)/\acc.length<sizeLine/\Nx (upd H4 D (.lst (acc++ [y]))) else Nx H3):=by
 refine qD (λi H'=>∃ps Wg,(∀a u,H1 a=some u->H' a=some u)/\H' D=some (.lst (ps.map V.ref))/\xR K H' ps Wg/\F4 K H' Wg ((Fm.take i).filter λe=>decide (e.2≠0))/\ps.length<=i)
  ⟨[],[],AX hD _,AJ,.nil,.nil,As _⟩ (λi H' _ ⟨_,_,s,_⟩=>s _ _ hd) ?_ ?_
 ·rintro i k v p H' S0 ⟨ps,Wg,s,xS,hp,N4,Dn⟩ hq;obtain⟨e,he,rfl,qv⟩:=hc.get S0;have hi:i<AZ.length:=(Jg.mp S0).1;have hs8:((wipe σ [9]).set 9 (some (.ref p)))[8]? =some (some (.ref dl)):=by
   show((σ.set 9 none).set 9 (some (V.ref p)))[8]? =_;rw[QW (()),QW (())];exact hσ
  have hs9:((wipe σ [9]).set 9 (some (.ref p)))[9]? =some (some (.ref p)):=by
   show((σ.set 9 none).set 9 (some (V.ref p)))[9]? =_;rw[QV (by rw[Lk];omega)]
  have ADU:∀uu,Ag H' uu->Jz uu dl (.ref p) (some v):=λuu s2=> .inr ⟨AZ,sK e.1,p,.inr ⟨od,s2 _ _ (s _ _ hd)⟩,rfl,s2 _ _ hq,(gC hk S0).symm⟩;refine⟨?_,?_⟩
  ·show((σ.set 9 none).set 9 (some (V.ref p))).set 9 none=σ.set 9 none;rw[Ni,Ni]
  refine⟨_,hs8,_,hs9,dl,v,AA,ADU _ (Ag.refl _),λw0 hw0=> ?_⟩;refine⟨dQ e.2,dQ 0,(qv.same s).dp,(hw0 _).dp,NG _,NG _,_,AA,?_⟩;rw[xQ];by_cases hz:e.2=0
  ·rw[AH hz];refine A' ?_;refine⟨ps,Wg,s,xS,hp,?_,()⟩;rw[EZ he,Nc,NZ (by simp[hz]),Ng,Nh];exact N4
  ·rw[AL hz];refine Au ?_;refine⟨_,hs9,_,hs8,_,hs9,dl,v,AA,ADU _ (Ag.refl _),(by show 2<=sizeLine;decide),λp2 RE=> ?_⟩;have s2:=AX RE (.tup [.ref p,v]);have n2:D≠p2:=AQ xS RE;refine⟨_,s2 _ _ xS,?_,ps++ [p2],Wg++ [(sK e.1,v)],?_,?_,?_,?_,?_⟩
   ·rw[BP];exact DU (show ps.length<=1000 by omega) (())
   ·intro a u hu;rw[AS (AQ hu hD)];exact s2 _ _ (s _ _ hu)
   ·rw[AJ,GB];rfl
   all_goals
    have e3:∀{a:Addr} {xs:List V},Bi K (upd H' p2 (.tup [.ref p,v])) a xs->Bi K (upd (upd H' p2 (.tup [.ref p,v])) D (.lst (ps.map V.ref++ [.ref p2]))) a xs:=λ{a xs} z=>by
     rcases z with z|z
     ·refine .inl ?_;rcases z with z|⟨o',z⟩
      ·exact .inl (by rw[AS (Ao z (s2 _ _ xS) (by intro y;cases y))];exact z)
      ·exact .inr ⟨o',by rw[AS (Ao z (s2 _ _ xS) (by intro y;cases y))];exact z⟩
     ·exact .inr z
    have e4:∀{a:Addr} {xs:List V},(upd H' p2 (.tup [.ref p,v])) a=some (.tup xs)->(upd (upd H' p2 (.tup [.ref p,v])) D (.lst (ps.map V.ref++ [.ref p2]))) a=some (.tup xs):=λ{a xs} z=>by
     rw[AS (Ao z (s2 _ _ xS) (by intro y;cases y))];exact z
    have e5:∀y r,A8 K H' y r->A8 K (upd (upd H' p2 (.tup [.ref p,v])) D (.lst (ps.map V.ref++ [.ref p2]))) y r:=λy r z=>by
     obtain⟨a,ea,z⟩:=z.same s2;exact⟨a,ea,e3 z⟩
   ·refine Eh ⟨p,e3 (Bi.of AJ),e4 (s2 _ _ hq)⟩ (Paired.Jy hp λx y ⟨q3,z1,z2⟩=>⟨q3,e3 (Bi.same z1 s2),e4 (s2 _ _ z2)⟩)
   ·rw[EZ he,Nc,NY (by simp[hz]),Ng];exact Eh ⟨rfl,e5 _ _ (qv.same s)⟩ (N4.imp e5)
   ·rw[CH];show ps.length+1<=i+1;omega
 ·rintro H' ⟨ps,Wg,s,xS,hp,N4,Dn⟩;have e:Fm.take AZ.length=Fm:=by rw[hc.len,KA]
  rw[e] at N4;exact q H' ps Wg s xS hp N4
end
section
variable{C:Addr}
structure Dl where
 J:Type
 A:Hp->Addr->Addr->J->Prop
 ds:J->List Nat
 x:J->Nat->Nat->Nat->Rat
 y:J->Nat->Nat->Nat->Rat
inductive qU(K:Ab)(G:Dl)(g:G.J->Nat->Nat->Nat->Rat):Sp
 |mk (o d:Addr) (j:G.J) (t m k:Nat):vs= [.ref o,nV t,nV m,nV k]->G.A H o d j->t< (G.ds j).length->m<=5->k<=5->(∀v H',Ext d H H'->G.A H' o d j->A8 K H' v (g j t m k)->Q v H')->qU K G g vs H Q DJ
inductive ObX(K:Ab)(C:Addr)(H:Hp)(o:Addr):List Nat->Prop
 |mk (dx:_) (fs:_) (l:_):H o=some (.ins C dx fs)->fs.lookup ("days":Str)=some (.ref l)->fs.lookup ("look_chance":Str)=none->fs.lookup ("dare_chance":Str)=none->A_ K H l (BY ds)->ObX K C H o ds
structure Giv(P:Program)(w:World)(K:Ab)(mg:Str->Option Value)(base:Heap)(C:Addr)(G:Dl):Prop where
 cl:XM K C
 nD:BC K C "days"
 kp:∀{H H':Hp} {o d:Addr} {j:G.J},G.A H o d j->Keeps d H H'->G.A H' o d j
 ob:∀{H:Hp} {o d:Addr} {j:G.J},G.A H o d j->ObX K C H o (G.ds j)
 me:∀{H:Hp} {o d:Addr} {j:G.J},G.A H o d j->∃AZ,H d=some (.dT AZ)
 look:An P w K mg base C 24 "look_chance" FD (qU K G G.x)
 dare:An P w K mg base C 24 "dare_chance" FD (qU K G G.y)
 EX:∀{H:Hp} {o d:Addr} {j:G.J},G.A H o d j->(G.ds j).length<=4
 ub:∀{H:Hp} {o d:Addr} {j:G.J},G.A H o d j->∀u∈G.ds j,u<=3
 xb:∀{H:Hp} {o d:Addr} {j:G.J},G.A H o d j->∀{t m k:Nat},t< (G.ds j).length->m<=5->k<=5->∃z,0<z/\z<=2^aD ((G.ds j).length - t)/\Bd z 0 (G.x j t m k)
 yb:∀{H:Hp} {o d:Addr} {j:G.J},G.A H o d j->∀{t m k:Nat},t< (G.ds j).length->m<=5->k<=5->∃z,0<z/\z<=2^aD ((G.ds j).length - t)/\Bd z (aD ((G.ds j).length - t)) (G.y j t m k)
 x0:∀(j:G.J) (t k:Nat),G.x j t 0 k=0
 y0:∀(j:G.J) (t m:Nat),G.y j t m 0=0
abbrev Dl.c(G:Dl)(j:G.J)(m k:Nat):Rat:=cG (G.x j) (G.y j) (G.ds j).length 0 m k
abbrev Dl.b(G:Dl)(j:G.J)(m k:Nat):Rat:=bG (G.x j) (G.y j) (jq (G.ds j)) (G.ds j).length 0 m k
abbrev Dl.fc(G:Dl)(j:G.J)(t:Nat):Int×Int->Rat:=Fc (G.x j) (G.y j) (G.ds j).length t
abbrev Dl.fb(G:Dl)(j:G.J)(t:Nat):Int×Int->Rat:=Fb (G.x j) (G.y j) (jq (G.ds j)) (G.ds j).length t
theorem AAj{d:Addr}{H H':Hp}{kv:List (List Key×V)}{v:V}{r:Rat}(h:A8 K H v r)(e:Ext d H H')(hd:H d=some (.dT kv)):A8 K H' v r:=h.ext e hd
structure EK(E e v a i:Nat)(Fm:Ch)(c r ch x y:Rat)(u:Nat)(zl zd:Nat):Prop where
 E0:0<E
 Ee:E<=2^(e+2*a*i)
 ee:e+2*a*(i+1)<=1420
 vv:v+a+4+3*(i+1)<=445
 sl:Small E (v+a+3+3*i) Fm
 sc:Bd E (v+a+4+i) c
 sr:Bd E (v+a+4+i) r
 sh:Bd E v ch
 l0:0<zl
 l1:zl<=2^a
 lb:Bd zl 0 x
 d0:0<zd
 d1:zd<=2^a
 db:Bd zd a y
 u3:u<=3
section
variable{E e v a i:Nat}{Fm:Ch}{c r ch x y:Rat}{u zl zd:Nat}
theorem EK.E20(N:EK E e v a i Fm c r ch x y u zl zd):0<E*zl*zd:=Fq (Fq N.E0 N.l0) N.d0
theorem EK.E2(N:EK E e v a i Fm c r ch x y u zl zd):E*zl*zd<=2^(e+2*a*(i+1)):=by
 have h:e+2*a*(i+1)=(e+2*a*i)+a+a:=by rw[Qi];omega
 rw[h,GF,GF];exact Ji (Ji N.Ee N.l1) N.d1
theorem EK.ok(N:EK E e v a i Fm c r ch x y u zl zd){z:Rat}{k:Nat}(h:Bd (E*zl*zd) k z)(hk:k<=500:=by omega):Ok z:=C0 ((h.sz N.E20 N.E2).mono (show e+2*a*(i+1)+k+1<=4000 by have:=N.ee;omega))
theorem EK.look(N:EK E e v a i Fm c r ch x y u zl zd):Bd (E*zl) v (ch*x):=N.sh.mul N.lb
theorem EK.gF(N:EK E e v a i Fm c r ch x y u zl zd):Bd (E*zl) (v+1) (ch*(1 - x)):=N.sh.mul ((Bd.one zl 0).sub N.lb)
theorem EK.wait(N:EK E e v a i Fm c r ch x y u zl zd):Bd zd (a+1) (1 - y):=(Bd.one zd a).sub N.db
theorem EK.Wh(N:EK E e v a i Fm c r ch x y u zl zd){z:Rat}{k:Nat}(h:Bd (E*zl) k z)(hk:k<=500):Ok z:=N.ok (h.up zd (As _)) hk
theorem EK.okd(N:EK E e v a i Fm c r ch x y u zl zd){z:Rat}{k:Nat}(h:Bd zd k z)(hk:k<=500):Ok z:=N.ok (by have:=h.up (E*zl) (As k);rw[Gs] at this;exact this) hk
theorem EK.okl(N:EK E e v a i Fm c r ch x y u zl zd){z:Rat}{k:Nat}(h:Bd zl k z)(hk:k<=500):Ok z:=N.Wh (by have:=h.up E (As k);rw[Gs] at this;exact this) hk
theorem EK.ok0(N:EK E e v a i Fm c r ch x y u zl zd){z:Rat}{k:Nat}(h:Bd E k z)(hk:k<=500):Ok z:=N.Wh (h.up zl (As _)) hk
end
inductive ADV(K:Ab)(G:Dl)(H:Hp)(dc:Addr)(j:G.J)(m k t:Nat):V->V->Prop
 |mk (cs:Ch) (c r:Rat) (E:Nat):jt K H dc cs->A8 K H vc c->A8 K H vb r->c+sumF (G.fc j t) cs=G.c j m k->r+sumF (G.fb j t) cs=G.b j m k->(∀e∈cs,inR e.1)->0<E->E<=2^eT t->Small E (vT t) cs->Bd E (vT t) c->Bd E (vT t) r->cs.length<=3^t->ADV K G H dc j m k t vc vb
structure AFB(K:Ab)(G:Dl)(H0 H:Hp)(o d dc:Addr)(j:G.J)(m k t:Nat)(vc vb:V):Prop where
 out:G.A H o d j
 ext:Ext d H0 H
 fr:H0 dc=none
 ne:dc≠d
 ex:ADV K G H dc j m k t vc vb
inductive ADW(K:Ab)(G:Dl)(H:Hp)(o d:Addr)(j:G.J)(m k t:Nat):L2.St->Hp->Prop
 |mk (vc vb:V) (dc:Addr) (y6 y7 y8 y9 xT xU xV xW xX xY xZ xa xc:Option V):σ= [some (.ref o),some (nV m),some (nV k),some vc,some vb,some (.ref dc),y6,y7,y8,y9,xT,xU,xV,xW,xX,xY,xZ,xa,xc]->AFB K G H H' o d dc j m k t vc vb->ADW K G H o d j m k t σ H'
inductive StX(K:Ab)(G:Dl)(H:Hp)(dl:Addr)(j:G.J)(t a i:Nat)(cs:Ch)(c r:Rat):V->V->Prop
 |mk (Fm:Ch) (c' r':Rat) (E:Nat):jt K H dl Fm->A8 K H vc c'->A8 K H vb r'->c'+sumF (G.fc j (t+1)) Fm=c+sumF (G.fc j t) (cs.take i)->r'+sumF (G.fb j (t+1)) Fm=r+sumF (G.fb j t) (cs.take i)->Wf Fm->0<E->E<=2^(eT t+2*a*i)->Small E (vT t+a+3+3*i) Fm->Bd E (vT t+a+4+i) c'->Bd E (vT t+a+4+i) r'->Small E (vT t) cs->Fm.length<=3*i->StX K G H dl j t a i cs c r vc vb
structure StI(K:Ab)(G:Dl)(H0 H:Hp)(o d dc dl:Addr)(od:Obj)(AZ:List (List Key×V))(j:G.J)(t a i:Nat)(cs:Ch)(c r:Rat)(vc vb:V):Prop where
 out:G.A H o d j
 ext:Ext d H0 H
 lk:H dc=some (.DW od (.dT AZ))
 ch:F4 K H AZ cs
 fr:H0 dl=none
 ne:dl≠d
 nc:dl≠dc
 ex:StX K G H dl j t a i cs c r vc vb
inductive StS(K:Ab)(G:Dl)(H:Hp)(o d dc dl:Addr)(od:Obj)(AZ:List (List Key×V))(j:G.J)(m k t u i:Nat)(cs:Ch)(c r:Rat):L2.St->Hp->Prop
 |mk (vc vb:V) (y9 xT xU xV xW xX xY xZ xa xc:Option V):σ= [some (.ref o),some (nV m),some (nV k),some vc,some vb,some (.ref dc),some (.int (t:Nat)),some (nV u),some (.ref dl),y9,xT,xU,xV,xW,xX,xY,xZ,xa,xc]->StI K G H H' o d dc dl od AZ j t (aD ((G.ds j).length - t)) i cs c r vc vb->StS K G H o d dc dl od AZ j m k t u i cs c r σ H'
inductive StG(K:Ab)(H:Hp)(cs:Ch)(i:Nat):List Key->V->Prop
 |mk (mm km:Nat) (ch:Rat):cs[i]? =some (((mm:Int),(km:Int)),ch)->kk=sK ((mm:Int),(km:Int))->mm<=5->km<=5->A8 K H v ch->StG K H cs i kk v
theorem qV{z:Int}(h:0<=z):∃n:Nat,z=(n:Int):=⟨z.toNat,()⟩
inductive Wi(K:Ab)(G:Dl):Sp
 |mk (o d:Addr) (j:G.J) (m k:Nat):vs= [.ref o,nV m,nV k]->G.A H o d j->m<=5->k<=5->(∀p v1 v2 H',Ext d H H'->H p=none->H' p=some (.tup [v1,v2])->A8 K H' v1 (G.c j m k)->A8 K H' v2 (G.b j m k)->Q (.ref p) H')->Wi K G vs H Q DJ
set_option maxHeartbeats 4000000 in
theorem xf{G:Dl}(R:HC P w K mg base)(O:Giv P w K mg base C G)(AD:#[] 4 "add_chance" Vx (b6 K))(me:mg "enumerate"=none)(md:mg "dict"=none)
  (D:Def K mg "in_the_end" Et X_):#[] 25 "in_the_end" X_ (Wi K G):=by
 exists Mo
 ·obtain⟨o,d,j,m,k,rfl,_⟩:=h;rfl
 obtain⟨o,d,j,m,k,rfl,O0,hm,hk,q⟩:=h;have nd:=Mo.nd;have hu:=UD hr;have AFC:(A.deeper (envOfC "in_the_end" (BE Et) st.heap.objs.size f CL)).units+16<cLine:=DU (kW (by decide:16<=64) _) hr.units;refine⟨_,(AF (3>>Sm R.zero)
  (AF (4>>Sm R.zero)
  (AF (5>>p9 hu (Dd #[pv 1,pv 2]) (Sm R.one))
  (AF (H_ HS rfl (uQ (by rfl) me #[AY (pv 0) rfl]) (Ve rfl (Fu (BK (i:=6) nd rfl (BJ rfl)) (Fu (BK (i:=7) nd rfl (BJ rfl)) P2))) (AF (L7 (i:=8) nd rfl (Eo rfl) Xs)
  (AF (eC (H_ HS rfl (il (pv 5)) (Ve rfl (Fu (BK (i:=9) nd rfl (BJ rfl)) (Fu (BK (i:=10) nd rfl (BJ rfl)) P2))) (AF (11>>BM BV (pv 9) AU (λ_ _=>rfl))
  (AF (12>>BM BV (pv 9) AU (λ_ _=>rfl))
  (AF (13>>BG O.look O.cl hr (pv 0) #[pv 6,pv 11,pv 12] (As _))
  (AF (14>>BG O.dare O.cl hr (pv 0) #[pv 6,pv 11,pv 12] (As _))
  (AF (15>>AV R.times hr #[pv 10,pv 13])
  (AF (16>>AV R.times hr #[pv 10,AV R.minus hr #[Sm R.one,pv 13]])
  (AF (17>>AV R.minus hr #[Sm R.one,pv 14])
  (AF (18>>AV R.times hr #[pv 16,pv 14])
  (AF (3>>AV R.plus hr #[pv 3,AV R.times hr #[pv 15,pv 14]])
  (AF (4>>AV R.plus hr #[pv 4,AV R.times hr #[pv 18,AV R.whole hr #[pv 7]]])
  (AF (Bu (AV AD hr #[pv 8,Dd #[Ay Er (pv 11) AU,pv 12],AV R.times hr #[pv 15,pv 17]]))
  (AF (Bu (AV AD hr #[pv 8,Dd #[pv 11,Ay Er (pv 12) AU],pv 18]))
  (AK (Bu (AV AD hr #[pv 8,Dd #[pv 11,pv 12],AV R.times hr #[pv 16,pv 17]])))))))))))))))))
  (AK (5>>IQ (bj rfl AFC) (by rfl) md yG #[uM (Kd (tt:=KW (Pj (uE K) (Xo (Cc 8) (Cc 9)) (tGQ K 0))) (te:=t5 (Cq (Cc 9) (Cq (Xo (Cc 8) (Cc 9)) IM))) rfl nd (uP (pv 8)) (DX (own:= [("state",9)]) (by rfl)) (λ_ _ _ _ _=>BK (i:=9) nd rfl (BJ rfl)) (λ_ _ _ _ _=>JD (Af (oT hr.units) (Vq hu (pv 8) (pv 9) (λ_ _=>rfl)) (Sm (x:="ZERO") R.zero) (Ai _))) (λ_ _ _ _ _=>(Dd #[pv 9,Vq hu (pv 8) (pv 9) (λ_ _=>rfl)])))])))))
  (AK (AO (Dd #[pv 3,pv 4]))))))),?_⟩
 obtain⟨dx,fs0,l,ho,hlD,_,_,hl⟩:=O.ob O0;obtain⟨kv0,Pd⟩:=O.me O0;have sam:∀{H H':Hp},G.A H o d j->Ag H H'->G.A H' o d j:=λa s=>O.kp a (Keeps.same s);intro vc0 AFD;intro vb0 AFE;intro dc hdc;refine⟨_,AA,_,AA,(by show 2<=sizeLine;decide),λp hp=> ?_⟩;intro v1 ZK;have npc:p≠dc:=λz=>by subst z;rw[AJ] at hp;cases hp
 refine⟨p,sK ((m:Int),(k:Int)),AA,AJ,(by rw[AS npc.symm];exact AJ),?_⟩;have sA:Ag H (upd (upd (upd H dc (.dT [])) p (.tup [nV m,nV k])) dc (.dT [(sK ((m:Int),(k:Int)),v1)])):=λx u e=>by
  have n1:=AQ e hdc;have n2:=AQ (AX hdc (.dT []) _ _ e) hp;rw[AS n1,AS n2,AS n1];exact e
 have EX:=O.EX O0;have OA:=sam O0 sA;refine⟨_,AA,o,C,dx,_,_,AA,sA _ _ ho,O.cl,O.nD,hlD,l,_,AA,sA.seq hl,qC (K:=K) (a:=l) (xs:=BY (G.ds j)) (ADW K G H o d j m k)
  ⟨vc0,vb0,dc,none,none,none,none,none,none,none,none,none,none,none,none,none,AA,OA,Ext.of sA,hdc,(AQ Pd hdc).symm,
   [(((m:Int),(k:Int)),1)],0,0,1,⟨⟨_,AJ,.cons ⟨AA,ZK _⟩ .nil⟩,by simp⟩,AFD _,AFE _,?_,?_,?_,(()),(()),⟨λe he=> ?_⟩,Bd.zero _ _,Bd.zero _ _,(by show 1<=1;decide)⟩ (λi σ H' _ ⟨_,_,_,_,_,_,_,_,_,_,_,_,_,_,_,_,_,I⟩=>A_.ext hl I.ext Pd) ?_ ?_⟩
 ·simp only[sumF,Fc,Qg,EJ];grind
 ·simp only[sumF,Fb,Qg,EJ];grind
 ·intro e he;rw[Gm.mp he];exact⟨by show(0:Int)<=m;omega,by show(m:Int)<=5;omega,by show(0:Int)<=k;omega,by show(k:Int)<=5;omega⟩
 ·rw[Gm.mp he];exact Bd.one _ _
 ·rintro t x T1 σ H1 hx ⟨vc,vb,dc,y6,y7,y8,y9,xT,xU,xV,xW,xX,xY,xZ,xa,xc,rfl,I⟩ hT1;obtain⟨u,hu1,rfl⟩:∃u,(G.ds j)[t]? =some u/\x=nV u:=by
   unfold BY at hx;rw[J'] at hx;cases e:(G.ds j)[t]? with
   |none=>rw[e] at hx;cases hx
   |some u=>rw[e] at hx;exact⟨u,AA,(Bl hx).symm⟩
  have ht:t< (G.ds j).length:=(Jg.mp hu1).1;have hdu:jq (G.ds j) t=u:=Kl hu1;have hnt:(G.ds j).length - t=(G.ds j).length - (t+1)+1:=by omega
  have hu3:u<=3:=O.ub O0 u (II hu1);obtain⟨cs,c,r,E,hC,qc,qr,e1,e2,hR,hE0,o6,sC,bc,br,hlen⟩:=I.ex;refine⟨T1,_,AA,Bi.of AJ,AA,_,_,AA,_,_,AA,AA,?_⟩;intro dl hdl;have s1:Ag H1 (upd (upd H1 T1 (.tup [.int (t:Nat),nV u])) dl (.dT [])):=(AX hT1 _).trans (AX hdl _);have AAk:H1 dl=none:=(AX hT1 _).free hdl;obtain⟨AZ,vI,N4⟩:=hC.ex;obtain⟨kvm,hdm⟩:=O.me I.out;have ndl:dl≠d:=(AQ hdm AAk).symm;have nlc:dl≠dc:=(AQ vI AAk).symm;have fr0:∀y,H1 y=none->H y=none:=λy hy=>by
   cases e:H y with
   |none=>rfl
   |some z=>
    have TK:y≠d:=λz=>by rw[z,hdm] at hy;cases hy
    rw[I.ext _ _ e TK] at hy;cases hy
  have vG:AZ.length=cs.length:=N4.len;refine⟨dc,.dT AZ,s1 _ _ vI,trivial,λod=> ?_⟩;have lock:∀y r,A8 K H1 y r->A8 K (upd (upd (upd H1 T1 (.tup [.int (t:Nat),nV u])) dl (.dT [])) dc (.DW od (.dT AZ))) y r:=λy r z=>by
   refine(z.same s1).ext (d:=dc) (λa w hw hn=>by rw[AS hn];exact hw) (s1 _ _ vI)
  have OL:G.A (upd (upd (upd H1 T1 (.tup [.int (t:Nat),nV u])) dl (.dT [])) dc (.DW od (.dT AZ))) o d j:=O.kp (sam I.out s1) (Keeps.ext (x:=dc) (λa w hw hn=>by rw[AS hn];exact hw) (s1 _ _ vI) I.ne.symm);refine⟨_,AA,dc,od,AZ,AA,AJ,bo (λi=>StS K G H o d dc dl od AZ j m k t u i cs c r)
   ⟨vc,vb,y9,xT,xU,xV,xW,xX,xY,xZ,xa,xc,AA,OL,?_,AJ,N4.imp lock,fr0 _ AAk,ndl,nlc,[],c,r,E,⟨⟨[],by rw[AS nlc];exact AJ,.nil⟩,GD⟩,lock _ _ qc,lock _ _ qr,?_,?_,(λe he=>nomatch he),hE0,?_,⟨λe he=>(nomatch he)⟩,bc.mono (),br.mono (),sC,BR _⟩
   (λi σ H' _ ⟨_,_,_,_,_,_,_,_,_,_,_,_,_,J⟩=>J.lk) ?_ ?_⟩
  ·intro a w hw hn;have nc:a≠dc:=AQ hw I.fr;rw[AS nc];exact s1 _ _ (I.ext _ _ hw hn)
  ·simp only[sumF,Zd]
  ·simp only[sumF,Zd]
  ·rw[kZ,Zw];exact o6
  ·rintro i kk v T2 q2 σ H2 S0 ⟨vc,vb,y9,xT,xU,xV,xW,xX,xY,xZ,xa,xc,rfl,J⟩ oj hq2;obtain⟨mm,km,ch,he,rfl,hmm,hkm,qv⟩:StG K H2 cs i kk v:=by
    obtain⟨e,he,rfl,qv⟩:=J.ch.get S0;have hin:=hR e (II he);obtain⟨⟨zm,zk⟩,ch⟩:=e;obtain⟨mm,rfl⟩:=qV hin.1;obtain⟨km,rfl⟩:=qV hin.2.2.1;exact⟨mm,km,ch,he,AA,Z_.mp hin.2.1,Z_.mp hin.2.2.2,qv⟩
   obtain⟨Fm,c',r',E',hL,qc',qr',f1,f2,qW,TQ,TU,sL,bc',br',sC',hll⟩:=J.ex;have hi:i<3^t:=Cm (Jg.mp he).1 hlen;have h3t:3^t<=27:=A6 (DM (()) (show t<=3 by omega)) (());obtain⟨zl,zd,N⟩:∃zl zd,EK E' (eT t) (vT t) (aD ((G.ds j).length - t)) i Fm c' r' ch (G.x j t mm km) (G.y j t mm km) u zl zd:=by
    obtain⟨zl,l0,l1,lb⟩:=O.xb O0 ht hmm hkm;obtain⟨zd,d0,d1,db⟩:=O.yb O0 ht hmm hkm;refine⟨zl,zd,TQ,TU,?_,?_,sL,bc',br',sC'.at_ _ (II he),l0,l1,lb,d0,d1,db,hu3⟩
    ·have h1:=f_ ht EX;have h2:=ADS (t+1);have h3:2*aD ((G.ds j).length - t)*(i+1)<=2*aD ((G.ds j).length - t)*3^t:=Uu _ hi;omega
    ·have h1:=(gA ht EX).1;have h2:=ADT (t+1);omega
   have hva:vT t+aD ((G.ds j).length - t)+4+3*(i+1)<=445:=N.vv;refine⟨T2,_,AA,Bi.of AJ,AA,_,_,AA,_,_,AA,AA,?_⟩;have s0:=AX oj (.tup [.ref q2,v]);have hq3:(upd H2 T2 (.tup [.ref q2,v])) q2=some (.tup [.int (mm:Int),.int (km:Int)]):=s0 _ _ hq2;refine⟨_,AA,q2,_,_,_,AA,AA,Bi.of hq3,AA,_,AA,q2,_,_,_,AA,AA,Bi.of hq3,AA,?_⟩;have OG:=sam J.out s0;obtain⟨dx0,fs0,l0',ho0,_,vJ,hdr,_⟩:=O.ob OG;obtain⟨kvg,hdg⟩:=O.me OG;refine⟨_,AA,o,dx0,_,AA,ho0,vJ,_,AA,_,AA,_,AA,o,d,j,t,mm,km,AA,OG,ht,hmm,hkm,λv13 G1 g1 O1 q13=> ?_⟩;obtain⟨TJ,fs1,l1',ho1,_,_,AFF,_⟩:=O.ob O1;obtain⟨AFy,ADX⟩:=O.me O1;refine⟨_,AA,o,TJ,_,AA,ho1,AFF,_,AA,_,AA,_,AA,o,d,j,t,mm,km,AA,O1,ht,hmm,hkm,λv14 G2 g2 O2 q14=> ?_⟩;have up2:∀y r,A8 K H2 y r->A8 K G2 y r:=λy r z=>AAj (AAj (z.same s0) g1 hdg) g2 ADX;have qvG:=up2 _ _ qv;have qcG:=up2 _ _ qc';have qrG:=up2 _ _ qr';have ADY:A8 K G2 v13 (G.x j t mm km):=AAj q13 g2 ADX;have AAl:A8 K G2 v14 (G.y j t mm km):=q14;have ADZ:Ext d H2 G2:=(Ext.of s0).trans (g1.trans g2);have hLG:jt K G2 dl Fm:=hL.imp (λw hw=>ADZ _ _ hw J.ne) up2;generalize hx:G.x j t mm km=x at*
   generalize hy:G.y j t mm km=y at*
   refine⟨_,AA,_,AA,v,v13,ch,x,AA,qvG,ADY,N.ok0 N.sh (),N.okl N.lb (),trivial,λv15 G3 s3 q15=> ?_⟩;refine⟨_,AA,λw1 hw1=>⟨_,AA,w1,v13,1,x,AA,hw1 _,ADY.same s3,C0 (Sz.one (n:=1) (())),N.okl N.lb (),trivial,λAFG G4 s4 AFH=> ?_⟩⟩;refine⟨v,AFG,ch,1 - x,AA,qvG.same (s3.trans s4),AFH,N.ok0 N.sh (),N.okl ((Bd.one zl 0).sub N.lb) (),trivial,λv16 G5 s5 q16=> ?_⟩;intro w2 hw2;have s25:=s3.trans (s4.trans s5);refine⟨_,AA,w2,v14,1,y,AA,hw2 _,AAl.same s25,C0 (Sz.one (n:=1) (())),N.okd N.db (),trivial,λv17 G6 s6 q17=> ?_⟩;have s26:=s25.trans s6;have bU:Bd (E'*zl*zd) (vT t+1+aD ((G.ds j).length - t)) (ch*(1 - x)*y):=N.gF.mul N.db;have bD:Bd (E'*zl*zd) (vT t+aD ((G.ds j).length - t)) (ch*x*y):=N.look.mul N.db;have bW:Bd (E'*zl*zd) (vT t+(aD ((G.ds j).length - t)+1)) (ch*x*(1 - y)):=N.look.mul N.wait;have bN:Bd (E'*zl*zd) (vT t+1+(aD ((G.ds j).length - t)+1)) (ch*(1 - x)*(1 - y)):=N.gF.mul N.wait;have bB:Bd (E'*zl*zd) (vT t+1+aD ((G.ds j).length - t)+2) (ch*(1 - x)*y*((u:Int):Rat)):=by
    have:=bU.mul (Bd.nat (E:=1) (v:=2) (show u<=2^2 by omega));rw[Uy] at this;exact this
   refine⟨_,AA,_,AA,v16,v14,ch*(1 - x),y,AA,q16.same s6,AAl.same s26,N.Wh N.gF (),N.okd N.db (),trivial,λv18 G7 s7 q18=> ?_⟩;have s27:=s26.trans s7;refine⟨_,AA,_,AA,_,AA,v15,v14,ch*x,y,AA,q15.same (s4.trans (s5.trans (s6.trans s7))),AAl.same s27,N.Wh N.look (),N.okd N.db (),trivial,λv3a G8 s8 q3a=> ?_⟩;have s28:=s27.trans s8;have bcU:Bd (E'*zl*zd) (vT t+aD ((G.ds j).length - t)+4+i) c':=(N.sc.up zl (As _)).up zd (As _);have brU:Bd (E'*zl*zd) (vT t+aD ((G.ds j).length - t)+4+i) r':=(N.sr.up zl (As _)).up zd (As _);refine⟨vc,v3a,c',ch*x*y,AA,qcG.same s28,q3a,N.ok bcU (),N.ok bD (),trivial,λvc' G9 s9 q3=> ?_⟩;have s29:=s28.trans s9;refine⟨_,AA,_,AA,_,AA,(u:Int),AA,λv4a G10 s10 q4a=> ?_⟩;have s7a:=s8.trans (s9.trans s10);refine⟨v18,v4a,ch*(1 - x)*y,((u:Int):Rat),AA,q18.same s7a,q4a,N.ok bU (),C0 (Sz.int (n:=3) (i:=(u:Int)) (by rw[Jl];show u<8;omega) (())),trivial,λv4b G11 s11 q4b=> ?_⟩;have s2b:=s29.trans (s10.trans s11);refine⟨vb,v4b,r',_,AA,qrG.same s2b,q4b,N.ok brU (),N.ok bB (),trivial,λvb' G12 D5 q4=> ?_⟩;have s2c:=s2b.trans D5;have s7c:=s7a.trans (s11.trans D5);have AFI:jt K G12 dl Fm:=hLG.imp (λw hw=>s2c _ _ hw) λy r z=>z.same s2c;have O12:=sam O2 s2c;have AFJ:=q15.same (s4.trans (s5.trans (s6.trans (s7.trans s7c))));have AFK:=q16.same (s6.trans (s7.trans s7c));have ADa:=q17.same (s7.trans s7c);have AFL:=q18.same s7c;have sLU:Small (E'*zl*zd) (vT t+aD ((G.ds j).length - t)+3+3*i) Fm:=(N.sl.up zl (As _)).up zd (As _);have AFM:Fm.length<=1000:=by omega
   refine⟨_,AA,_,AA,_,_,AA,AA,_,AA,(by show 2<=sizeLine;decide),λp1 Ig=> ?_⟩;have t1:=AX Ig (.tup [.int ((mm:Int) - 1),.int (km:Int)]);refine⟨_,AA,_,AA,v15,v17,ch*x,1 - y,AA,AFJ.same t1,ADa.same t1,N.Wh N.look (),N.okd N.wait (),trivial,λv5 G14 s14 q5=> ?_⟩;have t14:=t1.trans s14;have ADb:jt K G14 dl Fm:=AFI.imp (λw hw=>t14 _ _ hw) λy r z=>z.same t14;refine⟨dl,p1,v5,Fm,((mm:Int) - 1,(km:Int)),ch*x*(1 - y),AA,ADb,s14 _ _ AJ,q5,N.ok bW (),N.ok (HE sLU.at_) (),AFM,λG15 e15 C15=> ?_⟩;obtain⟨AFz,xg,_⟩:=ADb.ex;have O15:=O.kp (sam O12 t14) (Keeps.ext e15 xg J.ne.symm);have ADc:∀y r,A8 K G12 y r->A8 K G15 y r:=λy r z=>(z.same t14).ext e15 xg;generalize Yi:GA Fm ((mm:Int) - 1,(km:Int)) (ch*x*(1 - y))=OX at*
   have sL1:Small (E'*zl*zd) (vT t+aD ((G.ds j).length - t)+3+3*i+1) OX:=by rw[←Yi];exact sLU.add (bW.mono ())
   have ll1:OX.length<=Fm.length+1:=by rw[←Yi];exact ND _ _ _
   refine⟨_,AA,_,AA,_,AA,_,_,AA,AA,(by show 2<=sizeLine;decide),λp2 RE=> ?_⟩;have t2:=AX RE (.tup [.int (mm:Int),.int ((km:Int) - 1)]);have ADd:jt K (upd G15 p2 (.tup [.int (mm:Int),.int ((km:Int) - 1)])) dl OX:=C15.imp (λw hw=>t2 _ _ hw) λy r z=>z.same t2;refine⟨_,AA,dl,p2,v18,OX,((mm:Int),(km:Int) - 1),ch*(1 - x)*y,AA,ADd,AJ,(ADc _ _ AFL).same t2,N.ok bU (),N.ok (HE sL1.at_) (),(),λG17 e17 C17=> ?_⟩;obtain⟨AF0,xh,_⟩:=ADd.ex;have O17:=O.kp (sam O15 t2) (Keeps.ext e17 xh J.ne.symm);have AAm:∀y r,A8 K G12 y r->A8 K G17 y r:=λy r z=>((ADc _ _ z).same t2).ext e17 xh;generalize Yj:GA OX ((mm:Int),(km:Int) - 1) (ch*(1 - x)*y)=iy at*
   have sL2:Small (E'*zl*zd) (vT t+aD ((G.ds j).length - t)+3+3*i+1+1) iy:=by rw[←Yj];exact sL1.add (bU.mono ())
   have ll2:iy.length<=OX.length+1:=by rw[←Yj];exact ND _ _ _
   refine⟨_,AA,_,AA,_,AA,(by show 2<=sizeLine;decide),λp3 ZJ=> ?_⟩;have t3:=AX ZJ (.tup [.int (mm:Int),.int (km:Int)]);refine⟨_,AA,_,AA,v16,v17,ch*(1 - x),1 - y,AA,(AAm _ _ AFK).same t3,(AAm _ _ ADa).same t3,N.Wh N.gF (),N.okd N.wait (),trivial,λv6 G18 s18 q6=> ?_⟩;have t18:=t3.trans s18;have ADe:jt K G18 dl iy:=C17.imp (λw hw=>t18 _ _ hw) λy r z=>z.same t18;refine⟨dl,p3,v6,iy,((mm:Int),(km:Int)),ch*(1 - x)*(1 - y),AA,ADe,s18 _ _ AJ,q6,N.ok bN (),N.ok (HE sL2.at_) (),(),λG19 e19 C19=> ?_⟩;obtain⟨AF1,xi,_⟩:=ADe.ex;have O19:=O.kp (sam O17 t18) (Keeps.ext e19 xi J.ne.symm);have AAn:∀y r,A8 K G12 y r->A8 K G19 y r:=λy r z=>((AAm _ _ z).same t18).ext e19 xi;have keep:∀a w,H2 a=some w->a≠d->a≠dl->G19 a=some w:=λa w hw n1 n2=>e19 _ _ (t18 _ _ (e17 _ _ (t2 _ _ (e15 _ _ (t14 _ _ (s2c _ _ (ADZ _ _ hw n1))) n2)) n2)) n2;refine⟨vc',vb',_,_,_,_,_,_,_,_,_,_,AA,O19,λa w hw hn=>keep _ _ (J.ext _ _ hw hn) hn (AQ hw J.fr),keep _ _ J.lk I.ne J.nc.symm,J.ch.imp λy r z=>AAn _ _ ((up2 _ _ z).same s2c),J.fr,J.ne,J.nc,
    GA iy ((mm:Int),(km:Int)) (ch*(1 - x)*(1 - y)),c'+ch*x*y,r'+ch*(1 - x)*y*((u:Int):Rat),E'*zl*zd,C19,AAn _ _ (q3.same (s10.trans (s11.trans D5))),AAn _ _ q4,?_,?_,?_,N.E20,N.E2,?_,?_,?_,?_,?_⟩
   ·rw[E_,←Yj,E_,←Yi,E_,Ih _ he];have key:G.fc j t ((mm:Int),(km:Int))=x*y+x*(1 - y)*G.fc j (t+1) ((mm:Int) - 1,(km:Int))+((1 - x)*y*G.fc j (t+1) ((mm:Int),(km:Int) - 1)+(1 - x)*(1 - y)*G.fc j (t+1) ((mm:Int),(km:Int))):=by
     unfold Dl.fc Fc;rw[hnt];simp only[EJ];rw[show((mm:Int) - 1).toNat=mm - 1 by omega,show((km:Int) - 1).toNat=km - 1 by omega];simp only[cG];rw[hx,hy]
    show _=c+(_+ch*G.fc j t ((mm:Int),(km:Int)));rw[key];generalize sumF (G.fc j (t+1)) Fm=S1 at*
    generalize sumF (G.fc j t) (cs.take i)=S2 at*
    grind
   ·rw[E_,←Yj,E_,←Yi,E_,Ih _ he];have key:G.fb j t ((mm:Int),(km:Int))=x*(1 - y)*G.fb j (t+1) ((mm:Int) - 1,(km:Int))+((1 - x)*y*((u:Rat)+G.fb j (t+1) ((mm:Int),(km:Int) - 1))+(1 - x)*(1 - y)*G.fb j (t+1) ((mm:Int),(km:Int))):=by
     unfold Dl.fb Fb;rw[hnt];simp only[EJ];rw[show((mm:Int) - 1).toNat=mm - 1 by omega,show((km:Int) - 1).toNat=km - 1 by omega];simp only[bG];rw[hx,hy,hdu]
    have z5:((u:Int):Rat)=(u:Rat):=rfl;rw[z5];show _=r+(_+ch*G.fb j t ((mm:Int),(km:Int)));rw[key];generalize sumF (G.fb j (t+1)) Fm=S1 at*
    generalize sumF (G.fb j t) (cs.take i)=S2 at*
    grind
   ·refine Wf.add ?_ (.inl ⟨by show(0:Int)<=mm;omega,by show(mm:Int)<=5;omega,by show(0:Int)<=km;omega,by show(km:Int)<=5;omega⟩);rw[←Yj];refine Wf.add ?_ ?_
    ·rw[←Yi];refine Wf.add qW ?_;by_cases h0:mm=0
     ·refine .inr ?_;have:x=0:=by rw[←hx,h0];exact O.x0 _ _ _
      rw[this];grind
     ·exact .inl ⟨by show(0:Int)<=(mm:Int) - 1;omega,by show(mm:Int) - 1<=5;omega,by show(0:Int)<=km;omega,by show(km:Int)<=5;omega⟩
    ·by_cases h0:km=0
     ·refine .inr ?_;have:y=0:=by rw[←hy,h0];exact O.y0 _ _ _
      rw[this];grind
     ·exact .inl ⟨by show(0:Int)<=(mm:Int);omega,by show(mm:Int)<=5;omega,by show(0:Int)<=(km:Int) - 1;omega,by show(km:Int) - 1<=5;omega⟩
   ·have:=sL2.add (k:=((mm:Int),(km:Int))) (bN.mono (show vT t+1+(aD ((G.ds j).length - t)+1)<=vT t+aD ((G.ds j).length - t)+3+3*i+1+1 by omega));exact this
   ·exact bcU.add (bD.mono ())
   ·exact brU.add (bB.mono ())
   ·exact(sC'.up zl (As _)).up zd (As _)
   ·have:=ND iy ((mm:Int),(km:Int)) (ch*(1 - x)*(1 - y));omega
  ·rintro σ H2 ⟨vc,vb,y9,xT,xU,xV,xW,xX,xY,xZ,xa,xc,rfl,J⟩;refine⟨J.lk,?_⟩;obtain⟨Fm,c',r',E',hL,qc',qr',f1,f2,qW,TQ,TU,sL,bc',br',sC',hll⟩:=J.ex;have h3t:3^t<=27:=A6 (DM (()) (show t<=3 by omega)) (());have un:∀y r,A8 K H2 y r->A8 K (upd H2 dc (.dT AZ)) y r:=λy r z=>by
    obtain⟨a,ea,z⟩:=z;refine⟨a,ea,?_⟩;rcases z with z|z
    ·refine .inl ?_;rcases z with z|⟨o',z⟩
     ·exact .inl (by rw[AS (Ao z J.lk (by intro y;cases y))];exact z)
     ·exact .inr ⟨o',by rw[AS (Ao z J.lk (by intro y;injection y with y1 y2;cases y2))];exact z⟩
    ·exact .inr z
   obtain⟨ju,vK,AAo⟩:=hL.ex;have ADf:(upd H2 dc (.dT AZ)) dl=some (.dT ju):=by rw[AS J.nc];exact vK
   have hnl:=AAo.nodup hL.nd;refine⟨dl,.dT ju,ADf,trivial,λod2=> ?_⟩;have lk2:∀y r,A8 K H2 y r->A8 K (upd (upd H2 dc (.dT AZ)) dl (.DW od2 (.dT ju))) y r:=λy r z=>(un _ _ z).ext (d:=dl) (λa w hw hn=>by rw[AS hn];exact hw) ADf;refine⟨_,AA,dl,od2,AA,.inr ⟨ju,AJ,λD1 SE=>vH (P:=P) (w:=w) rfl rfl hL.nd hnl AJ (AAo.imp lk2) SE (by rw[AAo.len];omega) λH4 ps Wg s4 hD4 hp4 hc4=> ?_⟩⟩;have hl4:H4 dl=some (.DW od2 (.dT ju)):=s4 _ _ AJ;refine⟨hl4,?_⟩;have nD:D1≠dl:=Ao hD4 hl4 (by intro y;cases y);have un4:∀{a:Addr} {xs:List V},Bi K H4 a xs->Bi K (upd H4 dl (.dT ju)) a xs:=λ{a xs} z=>by
    rcases z with z|z
    ·refine .inl ?_;rcases z with z|⟨o',z⟩
     ·exact .inl (by rw[AS (Ao z hl4 (by intro y;cases y))];exact z)
     ·exact .inr ⟨o',by rw[AS (Ao z hl4 (by intro y;injection y with y1 y2;cases y2))];exact z⟩
    ·exact .inr z
   have qn4:∀y r,A8 K H4 y r->A8 K (upd H4 dl (.dT ju)) y r:=λy r ⟨a,ea,z⟩=>⟨a,ea,un4 z⟩;refine⟨D1,ps,Wg,AA,A_.of (by rw[AS nD];exact hD4),Paired.Jy hp4 λp3 x ⟨q3,z1,z2⟩=>⟨q3,un4 z1,by rw[AS (Ao z2 hl4 (by intro y;cases y))];exact z2⟩,λdn hdn=> ?_⟩;have hn4:(Wg.map (·.1)).Nodup:=by
    refine hc4.nodup ?_;exact aV (lx _ ZX) hL.nd
   rw[SF Wg [] hn4,kO];have s5:=AX hdn (.dT Wg);have keep:∀a w,H2 a=some w->a≠dc->a≠dl->(upd (upd H4 dl (.dT ju)) dn (.dT Wg)) a=some w:=λa w hw n1 n2=>s5 _ _ (by rw[AS n2];exact s4 _ _ (by rw[AS n2,AS n1];exact hw));have ADg:∀y r,A8 K H2 y r->A8 K (upd (upd H4 dl (.dT ju)) dn (.dT Wg)) y r:=λy r z=>(qn4 _ _ ((lk2 _ _ z).same s4)).same s5;have fr2:H dn=none:=by
    have h1:=s5.free (H':=_) (l:=dn);cases e:H dn with
    |none=>rfl
    |some z=>
     exfalso;obtain⟨AFN,AAp⟩:=O.me J.out;have n3:dn≠dl:=λy=>by rw[y,J.fr] at e;cases e
     have n4:dn≠dc:=λy=>by rw[y,I.fr] at e;cases e
     by_cases n5:dn=d
     ·rw[n5,AS J.ne.symm,s4 _ _ (by rw[AS J.ne.symm,AS I.ne.symm];exact AAp)] at hdn;cases hdn
     ·have h6:=J.ext _ _ e n5;rw[AS n3,s4 _ _ (by rw[AS n3,AS n4];exact h6)] at hdn;cases hdn
   have nnd:dn≠d:=λy=>by
    obtain⟨AFN,AAp⟩:=O.me J.out;rw[y,AS J.ne.symm,s4 _ _ (by rw[AS J.ne.symm,AS I.ne.symm];exact AAp)] at hdn;cases hdn
   have OF:G.A (upd (upd H4 dl (.dT ju)) dn (.dT Wg)) o d j:=O.kp J.out λa w hw hc=>keep a w hw
    (λz=>by
     subst z;rcases hc with hc|hc
     ·exact I.ne hc
     ·rw[J.lk] at hw;exact hc.2 od AZ (Bl hw).symm)
    (λz=>by
     subst z;rcases hc with hc|hc
     ·exact J.ne hc
     ·rw[vK] at hw;exact hc.1 ju (Bl hw).symm)
   have e6:cs.take AZ.length=cs:=by rw[vG,KA]
   rw[e6] at f1 f2;have vs:=gA ht EX;have es:=f_ ht EX;have AFO:AZ.length<=3^t:=by rw[vG];exact hlen
   have sF:Small E' (vT (t+1)) (Fm.filter λe=>decide (e.2≠0)):=⟨λe he=>(sL.at_ e (Lj.mp he).1).mono ()⟩;refine⟨vc,vb,dn,_,_,_,_,_,_,_,_,_,_,_,_,_,AA,OF,λa w hw hn=>keep _ _ (J.ext _ _ hw hn) (AQ hw I.fr) (AQ hw J.fr),fr2,nnd,
    Fm.filter λe=>decide (e.2≠0),c',r',E',⟨⟨Wg,AJ,(hc4.imp λy r z=>(qn4 _ _ z).same s5)⟩,aV (lx _ ZX) hL.nd⟩,ADg _ _ qc',ADg _ _ qr',?_,?_,?_,TQ,?_,sF,bc'.mono (),br'.mono (),?_⟩
   ·rw[Hr,f1];exact e1
   ·rw[Hr,f2];exact e2
   ·intro e he;obtain⟨h7,h8⟩:=Lj.mp he;rcases qW e h7 with z|z
    ·exact z
    ·exact absurd z (by simpa using h8)
   ·refine A6 TU (DM (()) ?_);have:2*aD ((G.ds j).length - t)*AZ.length<=2*aD ((G.ds j).length - t)*3^t:=Uu _ AFO;omega
   ·have h9:=QU (λe=>decide (e.2≠0)) Fm;rw[Gr];omega
 ·rintro σ H1 ⟨vc,vb,dc,y6,y7,y8,y9,xT,xU,xV,xW,xX,xY,xZ,xa,xc,rfl,I⟩;obtain⟨cs,c,r,E,hC,qc,qr,e1,e2,_⟩:=I.ex;refine⟨_,AA,_,AA,(by show 2<=sizeLine;decide),λp2 RE=> ?_⟩;have s2:=AX RE (.tup [vc,vb]);rw[BH] at e1 e2;have z:∀(F:Int×Int->Rat),(∀k,F k=0)->∀cs:Ch,sumF F cs=0:=by
   intro F hF cs;induction cs with
   |nil=>rfl
   |cons e cs ih=>simp only[sumF];rw[hF,ih];grind
  have zc:sumF (G.fc j (G.ds j).length) cs=0:=z _ (λk=>by unfold Dl.fc Fc;rw[Qh];rfl) cs;have zb:sumF (G.fb j (G.ds j).length) cs=0:=z _ (λk=>by unfold Dl.fb Fb;rw[Qh];rfl) cs;rw[zc] at e1;rw[zb] at e2;have f1:c=G.c j m k:=by grind
  have f2:r=G.b j m k:=by grind
  subst f1 f2;refine q p2 vc vb _ (I.ext.trans (Ext.of s2)) ?_ AJ (qc.same s2) (qr.same s2);cases e:H p2 with
  |none=>rfl
  |some u=>
   have TK:p2≠d:=λz=>by
    obtain⟨kv,h3⟩:=O.me I.out;rw[z,h3] at RE;cases RE
   rw[I.ext _ _ e TK] at RE;cases RE
end
section
variable{C:Addr}
theorem MH.imp{k:Nat}{x:Str}{ps:List Str}{sp wu:Sp}(h:#[] k x ps sp)(i:∀vs H Q E,wu vs H Q E->sp vs H Q E):#[] k x ps wu:=
 let⟨f,fd,m,F,b,kp⟩:=h.ex;⟨f,fd,m,F.imp i,b,kp⟩
def gO(K:Ab)(C:Addr):Dl:=⟨Nat×List Nat,λH o d j=>CZ K C H o d j.1 j.2/\j.2.length<=4/\j.1<=3,λj=>j.2,λj=>gL j.1 j.2,λj=>gD j.1 j.2⟩
theorem gG(b:Nat)(days:List Nat):∀(n t m k:Nat),days.length - t=n->cR b (days.drop t) m k=cG (gL b days) (gD b days) n t m k
 |0,t,m,k,h=>by rw[ZU ()];rfl
 |n+1,t,m,k,h=>by
  obtain⟨u,hu,hd,_,_⟩:=Jd (days:=days) (t:=t) ();have e:=uW b u (days.drop (t+1)) m k;rw[←hd] at e;rw[e,gG b days n (t+1) _ _ (),gG b days n (t+1) _ _ (),gG b days n (t+1) _ _ ()];rfl
theorem gH(b:Nat)(days:List Nat):∀(n t m k:Nat),days.length - t=n->bR b (days.drop t) m k=bG (gL b days) (gD b days) (jq days) n t m k
 |0,t,m,k,h=>by rw[ZU ()];rfl
 |n+1,t,m,k,h=>by
  obtain⟨u,hu,hd,_,_⟩:=Jd (days:=days) (t:=t) ();have e:=uX b u (days.drop (t+1)) m k;rw[←hd] at e;rw[e,gH b days n (t+1) _ _ (),gH b days n (t+1) _ _ (),gH b days n (t+1) _ _ ()];simp only[bG,Kl hu];rfl
theorem ADh(T:Ud K mg C)(O:bu P w K mg base C):Giv P w K mg base C (gO K C) where
 cl:=T.cl
 nD:=T.nD
 kp:=λ{_ _ _ _ _} a k=>⟨a.1.kp k,a.2⟩
 ob:=λ{_ _ _ _} a=>let⟨dx,l,h1,h2⟩:=a.1.ob;⟨dx,_,l,h1,rfl,rfl,rfl,h2⟩
 me:=λ{_ _ _ _} a=>let⟨AZ,h,_⟩:=a.1.me;⟨AZ,h⟩
 look:=(O.look.mono (())).imp λvs H Q E h=>by
  obtain⟨o,d,j,t,m,k,e,a,ht,hm,hk,q⟩:=h;exact⟨o,d,j.1,j.2,t,m,k,e,a.1,(by have:=a.2.1;omega),(),(),ht,λv H' e' O' q'=>q v H' e' ⟨O',a.2⟩ q'⟩
 dare:=(O.dare.mono (())).imp λvs H Q E h=>by
  obtain⟨o,d,j,t,m,k,e,a,ht,hm,hk,q⟩:=h;exact⟨o,d,j.1,j.2,t,m,k,e,a.1,(by have:=a.2.1;omega),(),(),ht,λv H' e' O' q'=>q v H' e' ⟨O',a.2⟩ q'⟩
 EX:=λ{_ _ _ _} a=>a.2.1
 ub:=λ{_ _ _ _} a=>a.1.ub
 xb:=λ{_ _ _ j} a {t m k} ht _ _=>by
  obtain⟨z,h0,h1,h2⟩:=uY a.1.pos a.2.2 (l:=j.2.drop t) (by rw[Jh];have:=a.2.1;omega) (λx hx=>a.1.ub x (MS hx)) m k;rw[Jh] at h1;exact⟨z,h0,h1,h2⟩
 yb:=λ{_ _ _ j} a {t m k} ht _ _=>by
  obtain⟨z,h0,h1,h2⟩:=Vv a.1.pos a.2.2 (l:=j.2.drop t) (by rw[Jh];have:=a.2.1;omega) (λx hx=>a.1.ub x (MS hx)) m k;rw[Jh] at h1 h2;exact⟨z,h0,h1,h2⟩
 x0:=λj t k=>o7 _ _ _
 y0:=λj t m=>X5 _ _ _
inductive qX(K:Ab)(C:Addr):Sp
 |mk (o d:Addr) (b:Nat) (days:List Nat) (m k:Nat):vs= [.ref o,nV m,nV k]->CZ K C H o d b days->days.length<=4->b<=3->m<=5->k<=5->(∀p v1 v2 H',Ext d H H'->H p=none->H' p=some (.tup [v1,v2])->A8 K H' v1 (cR b days m k)->A8 K H' v2 (bR b days m k)->Q (.ref p) H')->qX K C vs H Q DJ
theorem AAq(h:#[] 25 "in_the_end" X_ (Wi K (gO K C))):#[] 25 "in_the_end" X_ (qX K C):=h.imp λvs H Q E h=>by
 obtain⟨o,d,b,days,m,k,e,O,hl,hb,hm,hk,q⟩:=h;refine⟨o,d,(b,days),m,k,e,⟨O,hl,hb⟩,hm,hk,λp v1 v2 H' e' hp tJ q1 q2=>q p v1 v2 H' e' hp tJ ?_ ?_⟩
 ·have:=gG b days days.length 0 m k ();rw[Zf] at this;rw[this];exact q1
 ·have:=gH b days days.length 0 m k ();rw[Zf] at this;rw[this];exact q2
end
section
variable{CO CS:Addr}
structure C_(x:Bs):Prop where
 EX:x.brings.length<=4
 ub:∀u∈x.brings,u<=3
 lo:x.looks<=5
 mi:x.misdeeds<=5
 f1:0<x.fine
 f3:x.fine<=3
theorem C_.lo8{x:Bs}(h:C_ x):x.looks<=8:=A6 h.lo (())
theorem C_.mi8{x:Bs}(h:C_ x):x.misdeeds<=8:=A6 h.mi (())
inductive SG(K:Ab)(CO CS:Addr):Sp
 |mk (s sd:Addr) (x:Bs) (g:Int) (o:Bool):vs= [.ref s]->CP CS H s sd x g o->C_ x->(∀ou d H',Ag H H'->H d=none->CZ K CO H' ou d x.fine x.brings->Q (.ref ou) H')->SG K CO CS vs H Q DJ
theorem iz(T:Ud K mg CO)(TC:jr K mg "Outlook" CO)(TS:js K mg CS)(I:An P w K mg base CO 1 "__init__" IE (M' K CO))(D:Def K mg "season_outlook" D6 Cg):
  #[] 3 "season_outlook" Cg (SG K CO CS):=by
 exists ON
 ·obtain⟨s,sd,x,g,o,rfl,_⟩:=h;rfl
 obtain⟨s,sd,x,g,o,rfl,⟨⟨dx,hs⟩,hd⟩,hg,q⟩:=h;refine⟨_,AK (AO (Jw I TC hr #[AY (pv 0) rfl,AY (pv 0) rfl])),?_⟩;refine⟨_,AA,s,CS,dx,_,_,AA,hs,TS.cl,TS.nD,AA,_,AA,s,CS,dx,_,_,AA,hs,TS.cl,TS.nF,AA,λp dp np Yc ne=> ?_⟩;refine⟨p,dp,sd,x.fine,AA,AJ,λH1 d k1 Gg Sn Ig=>⟨AA,?_⟩⟩;have s1:Ag H H1:=Ag.made np Yc k1;refine q p d H1 s1 (Gj Gg) ⟨A6 hg.EX (()),hg.f1,λt m k=>(xB hg.f1 hg.f3 ?_ ?_ m k).mono (()),hg.ub,A6 hg.f3 (()),⟨dp,sd,Ig,A_.of (s1 _ _ hd)⟩,⟨[],Sn,GD,λe he=>nomatch he⟩⟩
 ·rw[Jh];have:=hg.EX;omega
 ·exact λu hu=>hg.ub u (MS hu)
theorem Ext.fresh{d:Addr}{H H1 H2:Hp}(s:Ag H H1)(n:H d=none)(e:Ext d H1 H2):Ag H H2:=λa u h=>e a u (s _ _ h) (AQ h n)
inductive AAr(K:Ab)(CS:Addr):Sp
 |mk (s sd:Addr) (x:Bs) (g:Int) (o:Bool):vs= [.ref s]->CP CS H s sd x g o->C_ x->(∀v H',Ag H H'->A8 K H' v (wR x.fine x.brings x.looks x.misdeeds)->Q v H')->AAr K CS vs H Q DJ
theorem qY(T:Ud K mg CO)(TS:js K mg CS)(O:bu P w K mg base CO)(SO:#[] 3 "season_outlook" Cg (SG K CO CS))(D:Def K mg "season_worth" Ew Cg):
  #[] 25 "season_worth" Cg (AAr K CS):=by
 exists Rg
 ·obtain⟨s,sd,x,g,o,rfl,_⟩:=h;rfl
 obtain⟨s,sd,x,g,o,rfl,hS,hg,q⟩:=h;refine⟨_,AK (AO (BG O.worth T.cl hr (AV SO hr #[pv 0]) #[AU,AY (pv 0) rfl,AY (pv 0) rfl])),?_⟩;refine⟨_,AA,s,sd,x,g,o,AA,hS,hg,λou d H1 s1 Gg O1=> ?_⟩;obtain⟨TV,lo,ho,_⟩:=O1.ob;obtain⟨dx,hs⟩:=(hS.same s1).ob;refine⟨ou,TV,_,AA,ho,AA,_,AA,s,CS,dx,_,_,AA,hs,TS.cl,TS.nL,AA,_,AA,s,CS,dx,_,_,AA,hs,TS.cl,TS.nM,AA,ou,d,x.fine,x.brings,0,x.looks,x.misdeeds,AA,O1,?_,hg.lo8,hg.mi8,BR _,λv H2 e2 O2 q2=> ?_⟩
 ·have:=hg.EX;omega
 exact q v H2 (Ext.fresh s1 Gg e2) q2
end
section
variable{cs:Cs}{CO:Addr}
structure Av(K:Ab)(cs:Cs)(H:Hp)(p kl:Addr)(c:Ad)(h:Aw):Prop where
 ob:∃dx,H p=some (.ins cs.W dx (wF (.ref c.s) (.ref c.a) (.ref c.t) (.ref kl)))
 ho:Ct K cs H c h
 nd:c.l.Nodup
theorem Av.same{H H':Hp}{p kl:Addr}{c:Ad}{h:Aw}(x:Av K cs H p kl c h)(s:Ag H H'):Av K cs H' p kl c h:=let⟨dx,h1⟩:=x.ob;⟨⟨dx,s _ _ h1⟩,x.ho.same s,x.nd⟩
structure gI(P:Program)(w:World)(K:Ab)(mg:Str->Option Value)(base:Heap)(cs:Cs)(CO:Addr):Prop where
 R:HC P w K mg base
 Z:Parts P w K mg base cs
 T:Ud K mg CO
 O:bu P w K mg base CO
 four:An P w K mg base CO 21 "four" FD (WS K CO)
 TX:#[] 3 "season_outlook" Cg (SG K CO cs.S)
 sw:#[] 25 "season_worth" Cg (AAr K cs.S)
 fin:#[] 25 "in_the_end" X_ (qX K CO)
 len:mg "len"=none
 n2:B' mg "NO_SUCH" (-2)
 n6:B' mg "NOTHING_THERE" (-6)
 n11:B' mg "NOT_BEGUN" (-11)
 NH:B' mg "OUT_OF_BOUNDS" (-22)
 n28:B' mg "FULL" (-28)
 vL:B' mg "NOT_POSSIBLE" (-33)
 mD:B' mg "MOST_DAYS_dayscalls" 4
 mB:B' mg "MOST_BROUGHT" 3
 mL:B' mg "MOST_LEFT" 5
 mF:B' mg "MOST_FINE_dayscalls" 3
def Bc(x:Bs)(c:Iv):List Int:=(Ek (some x) c).2.num::(Ek (some x) c).2.nums
inductive Km(K:Ab)(cs:Cs)(n:Nat)(pc:List Nat->Iv):Sp
 |mk (p kl:Addr) (c:Ad) (h:Aw) (as:List Nat):vs= .ref p::as.map nV->as.length=n->Av K cs H p kl c h->C_ h.season->(∀l H',Ag H H'->H' l=some (.lst ((Bc h.season (pc as)).map V.int))->Q (.ref l) H')->Km K cs n pc vs H Q DJ
theorem MK(r:Rat):(Ce (q r)).num::(Ce (q r)).nums=0::nums [r]:=rfl
theorem ADi{H:Hp}{l:Addr}(h:H l=none)(o:HO):Ag H (upd H l o):=AX h o
section
variable(B:gI P w K mg base cs CO)
include B
theorem vM(D:Def K mg "worth" QC Ae):#[] 26 "worth" Ae (Km K cs 0 λ_=> .worth):=by
 exists uf
 ·obtain⟨p,kl,c,h,as,rfl,hl,_⟩:=h;rw[DK.mp hl];rfl
 obtain⟨p,kl,c,h,as,rfl,hl,hC,hg,q⟩:=h;obtain rfl:=DK.mp hl;refine⟨_,AK (AO (AV B.R.told hr #[Am #[AV B.sw hr #[AY (pv 0) rfl]]])),?_⟩;obtain⟨dx,hp⟩:=hC.ob;have TW:=B.Z.tW;refine⟨_,AA,p,cs.W,dx,_,_,AA,hp,TW.cl,TW.nS,AA,c.s,c.sd,_,_,_,AA,hC.ho.DT,hg,λv H1 s1 q1=> ?_⟩;refine⟨(by show 1<=sizeLine;decide),λl hl=> ?_⟩;have s2:=AX hl (.lst [v]);refine⟨l,[v],[_],AA,A_.of AJ,.cons (q1.same s2) .nil,(by show 1<=1000;decide),λl2 H3 s3 n3 h3=> ?_⟩;refine q l2 H3 (s1.trans (s2.trans s3)) ?_;rw[h3];have e:Bc h.season .worth=0::nums [wR h.season.fine h.season.brings h.season.looks h.season.misdeeds]:=by
  show(Ce (Gv h.season)).num::(Ce (Gv h.season)).nums=_;unfold Gv;rw[Ca hg.f1,MK]
 rw[e]
theorem AAs(D:Def K mg "look" V2 Ae):#[] 26 "look" Ae (Km K cs 0 λ_=> .look):=by
 exists pP
 ·obtain⟨p,kl,c,h,as,rfl,hl,_⟩:=h;rw[DK.mp hl];rfl
 obtain⟨p,kl,c,h,as,rfl,hl,hC,hg,q⟩:=h;obtain rfl:=DK.mp hl;have nd:=pP.nd;refine⟨_,AF (1>>AY (pv 0) rfl)
  (AF (Aj (BN (Ar (AY (pv 1) rfl) (λ_=>rfl))) (AK (AO (Am #[BD B.n6]))) Aa)
  (AK (AO (AV B.R.told hr #[Am #[BG B.O.look B.T.cl hr (AV B.TX hr #[pv 1]) #[AU,AY (pv 1) rfl,AY (pv 1) rfl]]])))),?_⟩
 obtain⟨dx,hp⟩:=hC.ob;have TW:=B.Z.tW;have TS:=B.Z.tS;obtain⟨ds,hs⟩:=hC.ho.DT.ob;have Gi:=hC.ho.DT.ds;refine⟨_,AA,p,cs.W,dx,_,_,AA,hp,TW.cl,TW.nS,AA,?_⟩;refine⟨_,AA,c.s,cs.S,ds,_,_,AA,hs,TS.cl,TS.nD,AA,_,.inl ⟨_,A_.of Gi,AA⟩,?_⟩;cases hb:h.season.brings with
 |nil=>
  rw[show(!(!(BY ([]:List Nat)).isEmpty))=true from rfl];refine Au ?_;refine⟨(by show 1<=sizeLine;decide),λl hl=> ?_⟩;refine q l _ (AX hl _) ?_;rw[AJ];have e:Bc h.season .look= [-6]:=by
   show(if h.season.brings.isEmpty=true then Aq (-6) else Ce (KJ h.season.fine h.season.brings h.season.looks h.season.misdeeds)).num::(if h.season.brings.isEmpty=true then Aq (-6) else Ce (KJ h.season.fine h.season.brings h.season.looks h.season.misdeeds)).nums=_;rw[hb];rfl
  rw[e];rfl
 |cons u r=>
  rw[show(!(!(BY (u::r)).isEmpty))=false from rfl];refine A' ?_;refine⟨_,AA,c.s,c.sd,_,_,_,AA,hC.ho.DT,hg,λou d H1 s1 Gg O1=> ?_⟩;obtain⟨TV,lo,ho,_⟩:=O1.ob;have Hq:=s1 _ _ hs;refine⟨ou,TV,_,AA,ho,AA,_,AA,c.s,cs.S,ds,_,_,AA,Hq,TS.cl,TS.nL,AA,_,AA,c.s,cs.S,ds,_,_,AA,Hq,TS.cl,TS.nM,AA,ou,d,_,_,0,h.season.looks,h.season.misdeeds,AA,O1,(by have:=hg.EX;omega),hg.lo8,hg.mi8,(by show 0<h.season.brings.length;rw[hb];exact Qe _),λv H2 e2 O2 q2=> ?_⟩;have D5:=Ext.fresh s1 Gg e2;refine⟨(by show 1<=sizeLine;decide),λl hl=> ?_⟩;have s3:=AX hl (.lst [v]);refine⟨l,[v],[_],AA,A_.of AJ,.cons (q2.same s3) .nil,(by show 1<=1000;decide),λl2 H3 s4 n3 h3=> ?_⟩;refine q l2 H3 (D5.trans (s3.trans s4)) ?_;rw[h3];have e:Bc h.season .look=0::nums [gL h.season.fine h.season.brings 0 h.season.looks h.season.misdeeds]:=by
   show(if h.season.brings.isEmpty=true then Aq (-6) else Ce (KJ h.season.fine h.season.brings h.season.looks h.season.misdeeds)).num::(if h.season.brings.isEmpty=true then Aq (-6) else Ce (KJ h.season.fine h.season.brings h.season.looks h.season.misdeeds)).nums=_;rw[RO hg.f1,AB (by rw[hb];exact DA)];rfl
  rw[e]
end
end
section
variable{cs:Cs}{CO:Addr}
def Ii(x:Bs)(t m k:Nat):Int:=if x.brings.length<=t then -2 else if 5<m\/5<k then -22 else 0
inductive SH(CS:Addr):Sp
 |mk (s sd:Addr) (x:Bs) (g:Int) (o:Bool) (t m k:Nat):vs= [.ref s,nV t,nV m,nV k]->CP CS H s sd x g o->Q (.int (Ii x t m k)) H->SH CS vs H Q DJ
theorem AAt(B:gI P w K mg base cs CO)(D:Def K mg "refused_from" Ex PK):#[] 1 "refused_from" PK (SH cs.S):=by
 exists Ri
 ·obtain⟨s,sd,x,g,o,t,m,k,rfl,_⟩:=h;rfl
 obtain⟨s,sd,x,g,o,t,m,k,rfl,hS,q⟩:=h;refine⟨_,AF (Aj (Af Oy (pv 1) (Ax Ak (by rfl) B.len Cz #[AY (pv 0) rfl]) (Ai _)) (AK (AO (BD B.n2))) Aa)
  (AF (Aj (Ep (Af CK (pv 2) (BD B.mL) (Ai _)) (FP (Af CK (pv 3) (BD B.mL) (Ai _)))).pt (AK (AO (BD B.NH))) Aa)
  (AK (AO AU))),?_⟩
 obtain⟨ds,hs⟩:=hS.ob;have TS:=B.Z.tS;unfold Ii at q;refine⟨_,AA,_,AA,s,cs.S,ds,_,_,AA,hs,TS.cl,TS.nD,AA,sd,_,AA,.inl (A_.of hS.ds),_,_,AA,AA,_,AA,?_⟩;rw[BH];by_cases h1:x.brings.length<=t
 ·rw[AG h1] at q;rw[AH (show((x.brings.length:Nat):Int)<=(t:Int) by omega)];refine Au ?_;exact q
 rw[AB h1] at q;rw[AL (show¬((x.brings.length:Nat):Int)<=(t:Int) by omega)];refine A' ?_;refine⟨_,AA,_,_,AA,AA,_,AA,?_⟩;by_cases h2:5<m
 ·rw[AG (BJ h2)] at q;rw[AH (show(5:Int)< (m:Int) by omega)];refine Au ?_;refine Au ?_;exact q
 rw[AL (show¬(5:Int)< (m:Int) by omega)];refine A' ?_;refine⟨_,AA,_,_,AA,AA,_,AA,?_⟩;by_cases h3:5<k
 ·rw[AG (Eo h3)] at q;rw[AH (show(5:Int)< (k:Int) by omega)];refine Au ?_;exact q
 rw[AB ()] at q;rw[AL (show¬(5:Int)< (k:Int) by omega)];refine A' ?_;exact q
section
variable(B:gI P w K mg base cs CO)
include B
theorem AAu(D:Def K mg "dare" V3 Ae):#[] 26 "dare" Ae (Km K cs 0 λ_=> .dare):=by
 exists pQ
 ·obtain⟨p,kl,c,h,as,rfl,hl,_⟩:=h;rw[DK.mp hl];rfl
 obtain⟨p,kl,c,h,as,rfl,hl,hC,hg,q⟩:=h;obtain rfl:=DK.mp hl;have nd:=pQ.nd;refine⟨_,AF (1>>AY (pv 0) rfl)
  (AF (Aj (BN (Ar (AY (pv 1) rfl) (λ_=>rfl))) (AK (AO (Am #[BD B.n6]))) Aa)
  (AK (AO (AV B.R.told hr #[Am #[BG B.O.dare B.T.cl hr (AV B.TX hr #[pv 1]) #[AU,AY (pv 1) rfl,AY (pv 1) rfl]]])))),?_⟩
 obtain⟨dx,hp⟩:=hC.ob;have TW:=B.Z.tW;have TS:=B.Z.tS;obtain⟨ds,hs⟩:=hC.ho.DT.ob;have Gi:=hC.ho.DT.ds;refine⟨_,AA,p,cs.W,dx,_,_,AA,hp,TW.cl,TW.nS,AA,?_⟩;refine⟨_,AA,c.s,cs.S,ds,_,_,AA,hs,TS.cl,TS.nD,AA,_,.inl ⟨_,A_.of Gi,AA⟩,?_⟩;cases hb:h.season.brings with
 |nil=>
  rw[show(!(!(BY ([]:List Nat)).isEmpty))=true from rfl];refine Au ?_;refine⟨(by show 1<=sizeLine;decide),λl hl=> ?_⟩;refine q l _ (AX hl _) ?_;rw[AJ];have e:Bc h.season .dare= [-6]:=by
   show(if h.season.brings.isEmpty=true then Aq (-6) else Ce (FJ h.season.fine h.season.brings h.season.looks h.season.misdeeds)).num::(if h.season.brings.isEmpty=true then Aq (-6) else Ce (FJ h.season.fine h.season.brings h.season.looks h.season.misdeeds)).nums=_;rw[hb];rfl
  rw[e];rfl
 |cons u r=>
  rw[show(!(!(BY (u::r)).isEmpty))=false from rfl];refine A' ?_;refine⟨_,AA,c.s,c.sd,_,_,_,AA,hC.ho.DT,hg,λou d H1 s1 Gg O1=> ?_⟩;obtain⟨TV,lo,ho,_⟩:=O1.ob;have Hq:=s1 _ _ hs;refine⟨ou,TV,_,AA,ho,AA,_,AA,c.s,cs.S,ds,_,_,AA,Hq,TS.cl,TS.nL,AA,_,AA,c.s,cs.S,ds,_,_,AA,Hq,TS.cl,TS.nM,AA,ou,d,_,_,0,h.season.looks,h.season.misdeeds,AA,O1,(by have:=hg.EX;omega),hg.lo8,hg.mi8,(by show 0<h.season.brings.length;rw[hb];exact Qe _),λv H2 e2 O2 q2=> ?_⟩;have D5:=Ext.fresh s1 Gg e2;refine⟨(by show 1<=sizeLine;decide),λl hl=> ?_⟩;have s3:=AX hl (.lst [v]);refine⟨l,[v],[_],AA,A_.of AJ,.cons (q2.same s3) .nil,(by show 1<=1000;decide),λl2 H3 s4 n3 h3=> ?_⟩;refine q l2 H3 (D5.trans (s3.trans s4)) ?_;rw[h3];have e:Bc h.season .dare=0::nums [gD h.season.fine h.season.brings 0 h.season.looks h.season.misdeeds]:=by
   show(if h.season.brings.isEmpty=true then Aq (-6) else Ce (FJ h.season.fine h.season.brings h.season.looks h.season.misdeeds)).num::(if h.season.brings.isEmpty=true then Aq (-6) else Ce (FJ h.season.fine h.season.brings h.season.looks h.season.misdeeds)).nums=_;rw[OE hg.f1,AB (by rw[hb];exact DA)];rfl
  rw[e]
theorem b7(RF:#[] 1 "refused_from" PK (SH cs.S))(D:Def K mg "from_day" JK Jq):#[] 26 "from_day" Jq (Km K cs 3 λas=> .from_ (as.getD 0 0) (as.getD 1 0) (as.getD 2 0)):=by
 exists Rj
 ·obtain⟨p,kl,c,h,as,rfl,hl,_⟩:=h;rw[CD,BP,hl];rfl
 obtain⟨p,kl,c,h,as,rfl,hl,hC,hg,q⟩:=h;obtain⟨t,m,k,rfl⟩:∃t m k,as= [t,m,k]:=by
  match as,hl with
  | [a,b,c],_=>exact⟨a,b,c,AA⟩
 have nd:=Rj.nd;refine⟨_,AF (4>>AV RF hr #[AY (pv 0) rfl,pv 1,pv 2,pv 3])
  (AF (Aj (Ar (pv 4) (λ_=>rfl)) (AK (AO (Am #[pv 4]))) Aa)
  (AK (AO (AV B.R.told hr #[Am #[BG B.O.worth B.T.cl hr (AV B.TX hr #[AY (pv 0) rfl]) #[pv 1,pv 2,pv 3]]])))),?_⟩
 obtain⟨dx,hp⟩:=hC.ob;have TW:=B.Z.tW;refine⟨_,AA,p,cs.W,dx,_,_,AA,hp,TW.cl,TW.nS,AA,_,AA,_,AA,_,AA,c.s,c.sd,_,_,_,t,m,k,AA,hC.ho.DT,?_⟩;refine⟨_,AA,_,AA,?_⟩;have e0:Bc h.season (.from_ t m k)=(if Cf h.season t=false then Aq (-2) else if A5 m=false\/A5 k=false then Aq (-22) else Ce (Nq h.season.fine (h.season.brings.drop t) m k)).num::(if Cf h.season t=false then Aq (-2) else if A5 m=false\/A5 k=false then Aq (-22) else Ce (Nq h.season.fine (h.season.brings.drop t) m k)).nums:=rfl;by_cases ht:h.season.brings.length<=t
 ·have e1:Ii h.season t m k= -2:=by unfold Ii;rw[AG ht]
  rw[e1];refine Au ?_;refine⟨_,AA,(by show 1<=sizeLine;decide),λl hl=> ?_⟩;refine q l _ (AX hl _) ?_;rw[AJ];show _=some (HO.lst ((Bc h.season (.from_ t m k)).map V.int));rw[e0,AG (show Cf h.season t=false from AL ())];rfl
 have hi:¬Cf h.season t=false:=by unfold Cf;rw[AH (show t<h.season.brings.length by omega)];exact Cd
 by_cases hm:5<m\/5<k
 ·have e1:Ii h.season t m k= -22:=by unfold Ii;rw[AB ht,AG hm]
  rw[e1];refine Au ?_;refine⟨_,AA,(by show 1<=sizeLine;decide),λl hl=> ?_⟩;refine q l _ (AX hl _) ?_;rw[AJ];show _=some (HO.lst ((Bc h.season (.from_ t m k)).map V.int));rw[e0,AB hi,AG (show A5 m=false\/A5 k=false from hm.elim (λz=> .inl (AL ())) (λz=> .inr (AL ())))];rfl
 have e1:Ii h.season t m k=0:=by unfold Ii;rw[AB ht,AB hm]
 have ho:¬(A5 m=false\/A5 k=false):=by
  unfold A5;rw[AH (show m<=5 by omega),AH (show k<=5 by omega)];rintro(z|z) <;> cases z
 have ht:t<h.season.brings.length:=by omega
 rw[e1];refine A' ?_;refine⟨_,AA,p,cs.W,dx,_,_,AA,hp,TW.cl,TW.nS,AA,c.s,c.sd,_,_,_,AA,hC.ho.DT,hg,λou d H1 s1 Gg O1=> ?_⟩;obtain⟨TV,lo,hou,_⟩:=O1.ob;refine⟨ou,TV,_,AA,hou,AA,_,AA,_,AA,_,AA,ou,d,_,_,t,m,k,AA,O1,(by have:=hg.EX;omega),(),(),KG ht,λv H2 e2 O2 q2=> ?_⟩;have D5:=Ext.fresh s1 Gg e2;refine⟨(by show 1<=sizeLine;decide),λl hl=> ?_⟩;have s3:=AX hl (.lst [v]);refine⟨l,[v],[_],AA,A_.of AJ,.cons (q2.same s3) .nil,(by show 1<=1000;decide),λl2 H3 s4 n3 h3=> ?_⟩;refine q l2 H3 (D5.trans (s3.trans s4)) ?_;rw[h3];show _=some (HO.lst ((Bc h.season (.from_ t m k)).map V.int));rw[e0,AB hi,AB ho,Ca hg.f1];rfl
theorem b9(RF:#[] 1 "refused_from" PK (SH cs.S))(D:Def K mg "lookfrom" JL Jq):#[] 26 "lookfrom" Jq (Km K cs 3 λas=> .lookFrom (as.getD 0 0) (as.getD 1 0) (as.getD 2 0)):=by
 exists Rk
 ·obtain⟨p,kl,c,h,as,rfl,hl,_⟩:=h;rw[CD,BP,hl];rfl
 obtain⟨p,kl,c,h,as,rfl,hl,hC,hg,q⟩:=h;obtain⟨t,m,k,rfl⟩:∃t m k,as= [t,m,k]:=by
  match as,hl with
  | [a,b,c],_=>exact⟨a,b,c,AA⟩
 have nd:=Rk.nd;refine⟨_,AF (4>>AV RF hr #[AY (pv 0) rfl,pv 1,pv 2,pv 3])
  (AF (Aj (Ar (pv 4) (λ_=>rfl)) (AK (AO (Am #[pv 4]))) Aa)
  (AK (AO (AV B.R.told hr #[Am #[BG B.O.look B.T.cl hr (AV B.TX hr #[AY (pv 0) rfl]) #[pv 1,pv 2,pv 3]]])))),?_⟩
 obtain⟨dx,hp⟩:=hC.ob;have TW:=B.Z.tW;refine⟨_,AA,p,cs.W,dx,_,_,AA,hp,TW.cl,TW.nS,AA,_,AA,_,AA,_,AA,c.s,c.sd,_,_,_,t,m,k,AA,hC.ho.DT,?_⟩;refine⟨_,AA,_,AA,?_⟩;have e0:Bc h.season (.lookFrom t m k)=(if Cf h.season t=false then Aq (-2) else if A5 m=false\/A5 k=false then Aq (-22) else Ce (KJ h.season.fine (h.season.brings.drop t) m k)).num::(if Cf h.season t=false then Aq (-2) else if A5 m=false\/A5 k=false then Aq (-22) else Ce (KJ h.season.fine (h.season.brings.drop t) m k)).nums:=rfl;by_cases ht:h.season.brings.length<=t
 ·have e1:Ii h.season t m k= -2:=by unfold Ii;rw[AG ht]
  rw[e1];refine Au ?_;refine⟨_,AA,(by show 1<=sizeLine;decide),λl hl=> ?_⟩;refine q l _ (AX hl _) ?_;rw[AJ];show _=some (HO.lst ((Bc h.season (.lookFrom t m k)).map V.int));rw[e0,AG (show Cf h.season t=false from AL ())];rfl
 have hi:¬Cf h.season t=false:=by unfold Cf;rw[AH (show t<h.season.brings.length by omega)];exact Cd
 by_cases hm:5<m\/5<k
 ·have e1:Ii h.season t m k= -22:=by unfold Ii;rw[AB ht,AG hm]
  rw[e1];refine Au ?_;refine⟨_,AA,(by show 1<=sizeLine;decide),λl hl=> ?_⟩;refine q l _ (AX hl _) ?_;rw[AJ];show _=some (HO.lst ((Bc h.season (.lookFrom t m k)).map V.int));rw[e0,AB hi,AG (show A5 m=false\/A5 k=false from hm.elim (λz=> .inl (AL ())) (λz=> .inr (AL ())))];rfl
 have e1:Ii h.season t m k=0:=by unfold Ii;rw[AB ht,AB hm]
 have ho:¬(A5 m=false\/A5 k=false):=by
  unfold A5;rw[AH (show m<=5 by omega),AH (show k<=5 by omega)];rintro(z|z) <;> cases z
 have ht:t<h.season.brings.length:=by omega
 rw[e1];refine A' ?_;refine⟨_,AA,p,cs.W,dx,_,_,AA,hp,TW.cl,TW.nS,AA,c.s,c.sd,_,_,_,AA,hC.ho.DT,hg,λou d H1 s1 Gg O1=> ?_⟩;obtain⟨TV,lo,hou,_⟩:=O1.ob;refine⟨ou,TV,_,AA,hou,AA,_,AA,_,AA,_,AA,ou,d,_,_,t,m,k,AA,O1,(by have:=hg.EX;omega),(),(),ht,λv H2 e2 O2 q2=> ?_⟩;have D5:=Ext.fresh s1 Gg e2;refine⟨(by show 1<=sizeLine;decide),λl hl=> ?_⟩;have s3:=AX hl (.lst [v]);refine⟨l,[v],[_],AA,A_.of AJ,.cons (q2.same s3) .nil,(by show 1<=1000;decide),λl2 H3 s4 n3 h3=> ?_⟩;refine q l2 H3 (D5.trans (s3.trans s4)) ?_;rw[h3];show _=some (HO.lst ((Bc h.season (.lookFrom t m k)).map V.int));rw[e0,AB hi,AB ho,RO hg.f1];rfl
theorem b_(RF:#[] 1 "refused_from" PK (SH cs.S))(D:Def K mg "darefrom" JM Jq):#[] 26 "darefrom" Jq (Km K cs 3 λas=> .dareFrom (as.getD 0 0) (as.getD 1 0) (as.getD 2 0)):=by
 exists Rl
 ·obtain⟨p,kl,c,h,as,rfl,hl,_⟩:=h;rw[CD,BP,hl];rfl
 obtain⟨p,kl,c,h,as,rfl,hl,hC,hg,q⟩:=h;obtain⟨t,m,k,rfl⟩:∃t m k,as= [t,m,k]:=by
  match as,hl with
  | [a,b,c],_=>exact⟨a,b,c,AA⟩
 have nd:=Rl.nd;refine⟨_,AF (4>>AV RF hr #[AY (pv 0) rfl,pv 1,pv 2,pv 3])
  (AF (Aj (Ar (pv 4) (λ_=>rfl)) (AK (AO (Am #[pv 4]))) Aa)
  (AK (AO (AV B.R.told hr #[Am #[BG B.O.dare B.T.cl hr (AV B.TX hr #[AY (pv 0) rfl]) #[pv 1,pv 2,pv 3]]])))),?_⟩
 obtain⟨dx,hp⟩:=hC.ob;have TW:=B.Z.tW;refine⟨_,AA,p,cs.W,dx,_,_,AA,hp,TW.cl,TW.nS,AA,_,AA,_,AA,_,AA,c.s,c.sd,_,_,_,t,m,k,AA,hC.ho.DT,?_⟩;refine⟨_,AA,_,AA,?_⟩;have e0:Bc h.season (.dareFrom t m k)=(if Cf h.season t=false then Aq (-2) else if A5 m=false\/A5 k=false then Aq (-22) else Ce (FJ h.season.fine (h.season.brings.drop t) m k)).num::(if Cf h.season t=false then Aq (-2) else if A5 m=false\/A5 k=false then Aq (-22) else Ce (FJ h.season.fine (h.season.brings.drop t) m k)).nums:=rfl;by_cases ht:h.season.brings.length<=t
 ·have e1:Ii h.season t m k= -2:=by unfold Ii;rw[AG ht]
  rw[e1];refine Au ?_;refine⟨_,AA,(by show 1<=sizeLine;decide),λl hl=> ?_⟩;refine q l _ (AX hl _) ?_;rw[AJ];show _=some (HO.lst ((Bc h.season (.dareFrom t m k)).map V.int));rw[e0,AG (show Cf h.season t=false from AL ())];rfl
 have hi:¬Cf h.season t=false:=by unfold Cf;rw[AH (show t<h.season.brings.length by omega)];exact Cd
 by_cases hm:5<m\/5<k
 ·have e1:Ii h.season t m k= -22:=by unfold Ii;rw[AB ht,AG hm]
  rw[e1];refine Au ?_;refine⟨_,AA,(by show 1<=sizeLine;decide),λl hl=> ?_⟩;refine q l _ (AX hl _) ?_;rw[AJ];show _=some (HO.lst ((Bc h.season (.dareFrom t m k)).map V.int));rw[e0,AB hi,AG (show A5 m=false\/A5 k=false from hm.elim (λz=> .inl (AL ())) (λz=> .inr (AL ())))];rfl
 have e1:Ii h.season t m k=0:=by unfold Ii;rw[AB ht,AB hm]
 have ho:¬(A5 m=false\/A5 k=false):=by
  unfold A5;rw[AH (show m<=5 by omega),AH (show k<=5 by omega)];rintro(z|z) <;> cases z
 have ht:t<h.season.brings.length:=by omega
 rw[e1];refine A' ?_;refine⟨_,AA,p,cs.W,dx,_,_,AA,hp,TW.cl,TW.nS,AA,c.s,c.sd,_,_,_,AA,hC.ho.DT,hg,λou d H1 s1 Gg O1=> ?_⟩;obtain⟨TV,lo,hou,_⟩:=O1.ob;refine⟨ou,TV,_,AA,hou,AA,_,AA,_,AA,_,AA,ou,d,_,_,t,m,k,AA,O1,(by have:=hg.EX;omega),(),(),ht,λv H2 e2 O2 q2=> ?_⟩;have D5:=Ext.fresh s1 Gg e2;refine⟨(by show 1<=sizeLine;decide),λl hl=> ?_⟩;have s3:=AX hl (.lst [v]);refine⟨l,[v],[_],AA,A_.of AJ,.cons (q2.same s3) .nil,(by show 1<=1000;decide),λl2 H3 s4 n3 h3=> ?_⟩;refine q l2 H3 (D5.trans (s3.trans s4)) ?_;rw[h3];show _=some (HO.lst ((Bc h.season (.dareFrom t m k)).map V.int));rw[e0,AB hi,AB ho,OE hg.f1];rfl
theorem qZ(D:Def K mg "caught" Mq Ae):#[] 27 "caught" Ae (Km K cs 0 λ_=> .caught):=by
 exists YF
 ·obtain⟨p,kl,c,h,as,rfl,hl,_⟩:=h;rw[DK.mp hl];rfl
 obtain⟨p,kl,c,h,as,rfl,hl,hC,hg,q⟩:=h;obtain rfl:=DK.mp hl;have nd:=YF.nd;refine⟨_,AF (1>>AY (pv 0) rfl)
  (AK (AO (AV B.R.told hr #[Am #[BM BV (AV B.fin hr #[AV B.TX hr #[pv 1],AY (pv 1) rfl,AY (pv 1) rfl]) AU (λ_ _=>rfl)]]))),?_⟩
 obtain⟨dx,hp⟩:=hC.ob;have TW:=B.Z.tW;have TS:=B.Z.tS;obtain⟨ds,hs⟩:=hC.ho.DT.ob;refine⟨_,AA,p,cs.W,dx,_,_,AA,hp,TW.cl,TW.nS,AA,?_⟩;refine⟨_,AA,c.s,c.sd,_,_,_,AA,hC.ho.DT,hg,λou d H1 s1 Gg O1=> ?_⟩;have Hq:=s1 _ _ hs;refine⟨_,AA,c.s,cs.S,ds,_,_,AA,Hq,TS.cl,TS.nL,AA,_,AA,c.s,cs.S,ds,_,_,AA,Hq,TS.cl,TS.nM,AA,ou,d,_,_,h.season.looks,h.season.misdeeds,AA,O1,hg.EX,hg.f3,hg.lo,hg.mi,λpr v1 v2 H2 e2 np hpr qa qb=> ?_⟩;have D5:=Ext.fresh s1 Gg e2;refine⟨pr,_,_,_,AA,AA,Bi.of hpr,AA,?_⟩;refine⟨(by show 1<=sizeLine;decide),λl hl=> ?_⟩;have s3:=AX hl (.lst [v1]);refine⟨l,[v1],[_],AA,A_.of AJ,.cons (qa.same s3) .nil,(by show 1<=1000;decide),λl2 H3 s4 n3 h3=> ?_⟩;refine q l2 H3 (D5.trans (s3.trans s4)) ?_;rw[h3];have e:Bc h.season .caught=0::nums [cR h.season.fine h.season.brings h.season.looks h.season.misdeeds]:=by
  show(Ce (U8 h.season.fine h.season.brings h.season.looks h.season.misdeeds)).num::(Ce (U8 h.season.fine h.season.brings h.season.looks h.season.misdeeds)).nums=_;rw[Mj hg.f1,MK]
 rw[e]
theorem i5(D:Def K mg "brought" K5 Ae):#[] 27 "brought" Ae (Km K cs 0 λ_=> .brought):=by
 exists UW
 ·obtain⟨p,kl,c,h,as,rfl,hl,_⟩:=h;rw[DK.mp hl];rfl
 obtain⟨p,kl,c,h,as,rfl,hl,hC,hg,q⟩:=h;obtain rfl:=DK.mp hl;have nd:=UW.nd;refine⟨_,AF (1>>AY (pv 0) rfl)
  (AK (AO (AV B.R.told hr #[Am #[BM BV (AV B.fin hr #[AV B.TX hr #[pv 1],AY (pv 1) rfl,AY (pv 1) rfl]) AU (λ_ _=>rfl)]]))),?_⟩
 obtain⟨dx,hp⟩:=hC.ob;have TW:=B.Z.tW;have TS:=B.Z.tS;obtain⟨ds,hs⟩:=hC.ho.DT.ob;refine⟨_,AA,p,cs.W,dx,_,_,AA,hp,TW.cl,TW.nS,AA,?_⟩;refine⟨_,AA,c.s,c.sd,_,_,_,AA,hC.ho.DT,hg,λou d H1 s1 Gg O1=> ?_⟩;have Hq:=s1 _ _ hs;refine⟨_,AA,c.s,cs.S,ds,_,_,AA,Hq,TS.cl,TS.nL,AA,_,AA,c.s,cs.S,ds,_,_,AA,Hq,TS.cl,TS.nM,AA,ou,d,_,_,h.season.looks,h.season.misdeeds,AA,O1,hg.EX,hg.f3,hg.lo,hg.mi,λpr v1 v2 H2 e2 np hpr qa qb=> ?_⟩;have D5:=Ext.fresh s1 Gg e2;refine⟨pr,_,_,_,AA,AA,Bi.of hpr,AA,?_⟩;refine⟨(by show 1<=sizeLine;decide),λl hl=> ?_⟩;have s3:=AX hl (.lst [v2]);refine⟨l,[v2],[_],AA,A_.of AJ,.cons (qb.same s3) .nil,(by show 1<=1000;decide),λl2 H3 s4 n3 h3=> ?_⟩;refine q l2 H3 (D5.trans (s3.trans s4)) ?_;rw[h3];have e:Bc h.season .brought=0::nums [bR h.season.fine h.season.brings h.season.looks h.season.misdeeds]:=by
  show(Ce (U7 h.season.fine h.season.brings h.season.looks h.season.misdeeds)).num::(Ce (U7 h.season.fine h.season.brings h.season.looks h.season.misdeeds)).nums=_;rw[K0 hg.f1,MK]
 rw[e]
end
end
section
variable{cs:Cs}{CO:Addr}
def NI(x:Bs)(t u:Nat):Int:=if x.brings.length<=t then -2 else if 3<u then -22 else 0
inductive Wj(CS:Addr):Sp
 |mk (s sd:Addr) (x:Bs) (g:Int) (o:Bool) (t u:Nat):vs= [.ref s,nV t,nV u]->CP CS H s sd x g o->Q (.int (NI x t u)) H->Wj CS vs H Q DJ
theorem AAv(B:gI P w K mg base cs CO)(D:Def K mg "refused_brings" D7 RW):#[] 1 "refused_brings" RW (Wj cs.S):=by
 exists OO
 ·obtain⟨s,sd,x,g,o,t,u,rfl,_⟩:=h;rfl
 obtain⟨s,sd,x,g,o,t,u,rfl,hS,q⟩:=h;refine⟨_,AF (Aj (Af Oy (pv 1) (Ax Ak (by rfl) B.len Cz #[AY (pv 0) rfl]) (Ai _)) (AK (AO (BD B.n2))) Aa)
  (AF (Aj (Af CK (pv 2) (BD B.mB) (Ai _)) (AK (AO (BD B.NH))) Aa)
  (AK (AO AU))),?_⟩
 obtain⟨ds,hs⟩:=hS.ob;have TS:=B.Z.tS;unfold NI at q;refine⟨_,AA,_,AA,s,cs.S,ds,_,_,AA,hs,TS.cl,TS.nD,AA,sd,_,AA,.inl (A_.of hS.ds),_,_,AA,AA,_,AA,?_⟩;rw[BH];by_cases h1:x.brings.length<=t
 ·rw[AG h1] at q;rw[AH (show((x.brings.length:Nat):Int)<=(t:Int) by omega)];refine Au ?_;exact q
 rw[AB h1] at q;rw[AL (show¬((x.brings.length:Nat):Int)<=(t:Int) by omega)];refine A' ?_;refine⟨_,AA,_,_,AA,AA,_,AA,?_⟩;by_cases h2:3<u
 ·rw[AG h2] at q;rw[AH (show(3:Int)< (u:Int) by omega)];refine Au ?_;exact q
 rw[AB h2] at q;rw[AL (show¬(3:Int)< (u:Int) by omega)];refine A' ?_;exact q
inductive SI:Sp
 |mk (b:Nat):vs= [nV b]->Q (.bl (FF b)) H->SI vs H Q DJ
theorem qf(B:gI P w K mg base cs CO)(D:Def K mg "is_fine" K4 HB):#[] 1 "is_fine" HB SI:=by
 exists iW
 ·obtain⟨b,rfl,_⟩:=h;rfl
 obtain⟨b,rfl,q⟩:=h;refine⟨_,AK (AO (Xa Q4 Q4 AU (pv 0) (BD B.mF))),?_⟩;unfold FF at q;refine⟨_,AA,_,_,AA,AA,_,AA,?_⟩;by_cases h1:1<=b
 ·rw[AH (show(1:Int)<=(b:Int) by omega)];refine Au ?_;refine⟨_,_,AA,AA,?_⟩;rw[AH h1,U2] at q;have e:decide ((b:Int)<=3)=decide (b<=3):=by
   by_cases h2:b<=3
   ·rw[AH h2,AH (show(b:Int)<=3 by omega)]
   ·rw[AL h2,AL (show¬(b:Int)<=3 by omega)]
  show Q (V.bl (decide ((b:Int)<=3))) H;rw[e];exact q
 ·rw[AL (show¬(1:Int)<=(b:Int) by omega)];refine A' ?_;rw[AL h1,Ql] at q;exact q
section
variable(B:gI P w K mg base cs CO)
include B
theorem i6(D:Def K mg "iflooks" K6 CM):#[] 26 "iflooks" CM (Km K cs 1 λas=> .ifLooks (as.getD 0 0)):=by
 exists UX
 ·obtain⟨p,kl,c,h,as,rfl,hl,_⟩:=h;rw[CD,BP,hl];rfl
 obtain⟨p,kl,c,h,as,rfl,hl,hC,hg,q⟩:=h;obtain⟨t,rfl⟩:∃t,as= [t]:=by
  match as,hl with
  | [a],_=>exact⟨a,AA⟩
 have nd:=UX.nd;refine⟨_,AF (Aj (Af CK (pv 1) (BD B.mL) (Ai _)) (AK (AO (Am #[BD B.NH]))) Aa)
  (AF (2>>EI B.Z.sC B.Z.tS.cl hr (AY (pv 0) rfl))
  (AF (Ap (pv 2) (pv 1) rfl)
  (AK (AO (AV B.R.told hr #[Am #[AV B.sw hr #[pv 2]]]))))),?_⟩
 obtain⟨dx,hp⟩:=hC.ob;have TW:=B.Z.tW;have TS:=B.Z.tS;obtain⟨ds,hs⟩:=hC.ho.DT.ob;have Gi:=hC.ho.DT.ds;have e0:Bc h.season (.ifLooks t)=(if A5 t=false then Aq (-22) else Ce (Gv {h.season with looks:=t})).num::(if A5 t=false then Aq (-22) else Ce (Gv {h.season with looks:=t})).nums:=rfl;refine⟨_,AA,_,_,AA,AA,_,AA,?_⟩;by_cases ht:5<t
 ·rw[AH (show(5:Int)< (t:Int) by omega)];refine Au ?_;refine⟨(by show 1<=sizeLine;decide),λl hl=> ?_⟩;refine q l _ (AX hl _) ?_;rw[AJ];show _=some (HO.lst ((Bc h.season (.ifLooks t)).map V.int));rw[e0,AG (show A5 t=false from AL ())];rfl
 rw[AL (show¬(5:Int)< (t:Int) by omega)];refine A' ?_;have BS:¬A5 t=false:=by unfold A5;rw[AH (show t<=5 by omega)];exact Cd
 refine⟨_,AA,p,cs.W,dx,_,_,AA,hp,TW.cl,TW.nS,AA,c.s,ds,_,AA,hs,AA,c.s,c.sd,_,_,_,AA,hC.ho.DT,λs' MQ H1 s1 n1 n2 S1=> ?_⟩;obtain⟨fz,Wa⟩:=S1.ob;have Fv:MQ≠s':=Ao S1.ds Wa (by intro z;cases z);refine⟨_,AA,_,AA,s',cs.S,fz,_,AA,Wa,TS.cl,TS.nL,(by show 6<1000;decide),?_⟩;have s2:Ag H (upd H1 s' (.ins cs.S fz (DB "looks" (nV t) (sF (.ref MQ) (nV h.season.looks) (nV h.season.misdeeds) (nV h.season.fine) (.int h.gain) (bV h.over))))):=λa o e=>by
  rw[AS (AQ e n1)];exact s1 _ _ e
 refine⟨_,rfl,s',MQ,{h.season with looks:=t},h.gain,h.over,rfl,⟨⟨fz,AJ⟩,(by rw[AS Fv];exact S1.ds)⟩,⟨hg.EX,hg.ub,(by show t<=5;omega),hg.mi,hg.f1,hg.f3⟩,λv H4 s4 q4=> ?_⟩;refine⟨(by show 1<=sizeLine;decide),λl hl=> ?_⟩;have s5:=AX hl (.lst [v]);refine⟨l,[v],[_],AA,A_.of AJ,.cons (q4.same s5) .nil,(by show 1<=1000;decide),λl2 H6 s6 n6 h6=> ?_⟩;refine q l2 H6 (s2.trans (s4.trans (s5.trans s6))) ?_;rw[h6];show _=some (HO.lst ((Bc h.season (.ifLooks t)).map V.int));rw[e0,AB BS];unfold Gv;rw[Ca (show 0<h.season.fine from hg.f1),MK]
theorem qg(FI:#[] 1 "is_fine" HB SI)(D:Def K mg "iffine" Mr CM):#[] 26 "iffine" CM (Km K cs 1 λas=> .ifFine (as.getD 0 0)):=by
 exists YG
 ·obtain⟨p,kl,c,h,as,rfl,hl,_⟩:=h;rw[CD,BP,hl];rfl
 obtain⟨p,kl,c,h,as,rfl,hl,hC,hg,q⟩:=h;obtain⟨t,rfl⟩:∃t,as= [t]:=by
  match as,hl with
  | [a],_=>exact⟨a,AA⟩
 have nd:=YG.nd;refine⟨_,AF (Aj (BN (CU (AV FI hr #[pv 1]))) (AK (AO (Am #[BD B.NH]))) Aa)
  (AF (2>>EI B.Z.sC B.Z.tS.cl hr (AY (pv 0) rfl))
  (AF (Ap (pv 2) (pv 1) rfl)
  (AK (AO (AV B.R.told hr #[Am #[AV B.sw hr #[pv 2]]]))))),?_⟩
 obtain⟨dx,hp⟩:=hC.ob;have TW:=B.Z.tW;have TS:=B.Z.tS;obtain⟨ds,hs⟩:=hC.ho.DT.ob;have Gi:=hC.ho.DT.ds;have e0:Bc h.season (.ifFine t)=(if FF t=false then Aq (-22) else Ce (Gv {h.season with fine:=t})).num::(if FF t=false then Aq (-22) else Ce (Gv {h.season with fine:=t})).nums:=rfl;refine⟨_,AA,t,AA,_,AA,?_⟩;cases Pn:FF t with
 |false=>
  refine Au ?_;refine⟨(by show 1<=sizeLine;decide),λl hl=> ?_⟩;refine q l _ (AX hl _) ?_;rw[AJ];show _=some (HO.lst ((Bc h.season (.ifFine t)).map V.int));rw[e0,AG Pn];rfl
 |true=>
 refine A' ?_;have BS:¬FF t=false:=by rw[Pn];exact Cd
 have hb:1<=t/\t<=3:=by
  unfold FF at Pn;rw[DV] at Pn;exact⟨AM Pn.1,AM Pn.2⟩
 refine⟨_,AA,p,cs.W,dx,_,_,AA,hp,TW.cl,TW.nS,AA,c.s,ds,_,AA,hs,AA,c.s,c.sd,_,_,_,AA,hC.ho.DT,λs' MQ H1 s1 n1 n2 S1=> ?_⟩;obtain⟨fz,Wa⟩:=S1.ob;have Fv:MQ≠s':=Ao S1.ds Wa (by intro z;cases z);refine⟨_,AA,_,AA,s',cs.S,fz,_,AA,Wa,TS.cl,TS.nF,(by show 6<1000;decide),?_⟩;have s2:Ag H (upd H1 s' (.ins cs.S fz (DB "fine" (nV t) (sF (.ref MQ) (nV h.season.looks) (nV h.season.misdeeds) (nV h.season.fine) (.int h.gain) (bV h.over))))):=λa o e=>by
  rw[AS (AQ e n1)];exact s1 _ _ e
 refine⟨_,rfl,s',MQ,{h.season with fine:=t},h.gain,h.over,rfl,⟨⟨fz,AJ⟩,(by rw[AS Fv];exact S1.ds)⟩,⟨hg.EX,hg.ub,hg.lo,hg.mi,(by show 0<t;omega),(by show t<=3;omega)⟩,λv H4 s4 q4=> ?_⟩;refine⟨(by show 1<=sizeLine;decide),λl hl=> ?_⟩;have s5:=AX hl (.lst [v]);refine⟨l,[v],[_],AA,A_.of AJ,.cons (q4.same s5) .nil,(by show 1<=1000;decide),λl2 H6 s6 n6 h6=> ?_⟩;refine q l2 H6 (s2.trans (s4.trans (s5.trans s6))) ?_;rw[h6];show _=some (HO.lst ((Bc h.season (.ifFine t)).map V.int));rw[e0,AB BS];unfold Gv;rw[Ca (show 0<t by omega),MK]
end
end
section
variable{cs:Cs}{CO:Addr}
theorem Wk{n t:Nat}(h:t<n):t_ n (t:Int)=some t:=by
 unfold t_;rw[AG (),AG (),EJ]
theorem Yk(l:List Nat)(t u:Nat):(BY l).set t (nV u)=BY (l.set t u):=by
 unfold BY;rw[List.map_set]
theorem cA(l:List Nat)(t:Nat):(BY l).eraseIdx t=BY (l.take t++l.drop (t+1)):=by
 unfold BY;rw[j8,GB,kR,Zg]
theorem Yl{l:List Nat}{t u x:Nat}(h:x∈l.set t u):x∈l\/x=u:=j_ h
section
variable(B:gI P w K mg base cs CO)
include B
theorem cC(RB:#[] 1 "refused_brings" RW (Wj cs.S))(D:Def K mg "ifbrings" JN PJ):#[] 26 "ifbrings" PJ (Km K cs 2 λas=> .ifBrings (as.getD 0 0) (as.getD 1 0)):=by
 exists Rm
 ·obtain⟨p,kl,c,h,as,rfl,hl,_⟩:=h;rw[CD,BP,hl];rfl
 obtain⟨p,kl,c,h,as,rfl,hl,hC,hg,q⟩:=h;obtain⟨t,u,rfl⟩:∃t u,as= [t,u]:=by
  match as,hl with
  | [a,b],_=>exact⟨a,b,AA⟩
 have nd:=Rm.nd;refine⟨_,AF (3>>AV RB hr #[AY (pv 0) rfl,pv 1,pv 2])
  (AF (Aj (Ar (pv 3) (λ_=>rfl)) (AK (AO (Am #[pv 3]))) Aa)
  (AF (4>>EI B.Z.sC B.Z.tS.cl hr (AY (pv 0) rfl))
  (AF (aa (pv 2) (aZ (AY (pv 4) rfl) (pv 1) set_list))
  (AK (AO (AV B.R.told hr #[Am #[AV B.sw hr #[pv 4]]])))))),?_⟩
 obtain⟨dx,hp⟩:=hC.ob;have TW:=B.Z.tW;have TS:=B.Z.tS;obtain⟨ds,hs⟩:=hC.ho.DT.ob;have e0:Bc h.season (.ifBrings t u)=(if Cf h.season t=false then Aq (-2) else if 3<u then Aq (-22) else Ce (Gv (KI h.season t u))).num::(if Cf h.season t=false then Aq (-2) else if 3<u then Aq (-22) else Ce (Gv (KI h.season t u))).nums:=rfl;refine⟨_,AA,p,cs.W,dx,_,_,AA,hp,TW.cl,TW.nS,AA,_,AA,_,AA,c.s,c.sd,_,_,_,t,u,AA,hC.ho.DT,?_⟩;refine⟨_,AA,_,AA,?_⟩;by_cases ht:h.season.brings.length<=t
 ·have e1:NI h.season t u= -2:=by unfold NI;rw[AG ht]
  rw[e1];refine Au ?_;refine⟨_,AA,(by show 1<=sizeLine;decide),λl hl=> ?_⟩;refine q l _ (AX hl _) ?_;rw[AJ];show _=some (HO.lst ((Bc h.season (.ifBrings t u)).map V.int));rw[e0,AG (show Cf h.season t=false from AL ())];rfl
 have hi:¬Cf h.season t=false:=by unfold Cf;rw[AH (show t<h.season.brings.length by omega)];exact Cd
 by_cases hu:3<u
 ·have e1:NI h.season t u= -22:=by unfold NI;rw[AB ht,AG hu]
  rw[e1];refine Au ?_;refine⟨_,AA,(by show 1<=sizeLine;decide),λl hl=> ?_⟩;refine q l _ (AX hl _) ?_;rw[AJ];show _=some (HO.lst ((Bc h.season (.ifBrings t u)).map V.int));rw[e0,AB hi,AG hu];rfl
 have e1:NI h.season t u=0:=by unfold NI;rw[AB ht,AB hu]
 rw[e1];refine A' ?_;refine⟨_,AA,p,cs.W,dx,_,_,AA,hp,TW.cl,TW.nS,AA,c.s,ds,_,AA,hs,AA,c.s,c.sd,_,_,_,AA,hC.ho.DT,λs' MQ H1 s1 n1 n2 S1=> ?_⟩;obtain⟨fz,Wa⟩:=S1.ob;have Fv:s'≠MQ:=Ao Wa S1.ds (by intro z;cases z);refine⟨_,AA,_,AA,s',cs.S,fz,_,_,AA,Wa,TS.cl,TS.nD,AA,_,AA,MQ,_,_,t,AA,AA,S1.ds,Wk (by rw[BH];omega),?_⟩;have s2:Ag H (upd H1 MQ (.lst ((BY h.season.brings).set t (nV u)))):=λa o e=>by
  rw[AS (AQ e n2)];exact s1 _ _ e
 refine⟨_,AA,s',MQ,KI h.season t u,h.gain,h.over,AA,⟨⟨fz,(by rw[AS Fv];exact Wa)⟩,(by rw[AJ,Yk];rfl)⟩,⟨(by show(h.season.brings.set t u).length<=4;rw[Lk];exact hg.EX),(λx hx=>(Yl hx).elim (λz=>hg.ub x z) (λz=>by omega)),hg.lo,hg.mi,hg.f1,hg.f3⟩,λv H4 s4 q4=> ?_⟩;refine⟨(by show 1<=sizeLine;decide),λl hl=> ?_⟩;have s5:=AX hl (.lst [v]);refine⟨l,[v],[_],AA,A_.of AJ,.cons (q4.same s5) .nil,(by show 1<=1000;decide),λl2 H6 s6 n6 h6=> ?_⟩;refine q l2 H6 (s2.trans (s4.trans (s5.trans s6))) ?_;rw[h6];show _=some (HO.lst ((Bc h.season (.ifBrings t u)).map V.int));rw[e0,AB hi,AB hu];unfold Gv;rw[Ca (show 0< (KI h.season t u).fine from hg.f1),MK]
theorem i7(D:Def K mg "without" K7 Jr):#[] 26 "without" Jr (Km K cs 1 λas=> .without (as.getD 0 0)):=by
 exists UY
 ·obtain⟨p,kl,c,h,as,rfl,hl,_⟩:=h;rw[CD,BP,hl];rfl
 obtain⟨p,kl,c,h,as,rfl,hl,hC,hg,q⟩:=h;obtain⟨t,rfl⟩:∃t,as= [t]:=by
  match as,hl with
  | [a],_=>exact⟨a,AA⟩
 have nd:=UY.nd;refine⟨_,AF (Aj (Af Oy (pv 1) (Ax Ak (by rfl) B.len Cz #[AY (AY (pv 0) rfl) rfl]) (Ai _)) (AK (AO (Am #[BD B.n2]))) Aa)
  (AF (2>>EI B.Z.sC B.Z.tS.cl hr (AY (pv 0) rfl))
  (AF (Bu (KY IJ KN Nu Md (AY (pv 2) rfl) #[pv 1]))
  (AK (AO (AV B.R.told hr #[Am #[AV B.sw hr #[pv 2]]]))))),?_⟩
 obtain⟨dx,hp⟩:=hC.ob;have TW:=B.Z.tW;have TS:=B.Z.tS;obtain⟨ds,hs⟩:=hC.ho.DT.ob;have e0:Bc h.season (.without t)=(if Cf h.season t=false then Aq (-2) else Ce (Gv (U6 h.season t))).num::(if Cf h.season t=false then Aq (-2) else Ce (Gv (U6 h.season t))).nums:=rfl;refine⟨_,AA,_,AA,p,cs.W,dx,_,_,AA,hp,TW.cl,TW.nS,AA,c.s,cs.S,ds,_,_,AA,hs,TS.cl,TS.nD,AA,c.sd,_,AA,.inl (A_.of hC.ho.DT.ds),_,_,AA,AA,_,AA,?_⟩;rw[BH];by_cases ht:h.season.brings.length<=t
 ·rw[AH (show((h.season.brings.length:Nat):Int)<=(t:Int) by omega)];refine Au ?_;refine⟨(by show 1<=sizeLine;decide),λl hl=> ?_⟩;refine q l _ (AX hl _) ?_;rw[AJ];show _=some (HO.lst ((Bc h.season (.without t)).map V.int));rw[e0,AG (show Cf h.season t=false from AL ())];rfl
 have hi:¬Cf h.season t=false:=by unfold Cf;rw[AH (show t<h.season.brings.length by omega)];exact Cd
 rw[AL (show¬((h.season.brings.length:Nat):Int)<=(t:Int) by omega)];refine A' ?_;refine⟨_,AA,p,cs.W,dx,_,_,AA,hp,TW.cl,TW.nS,AA,c.s,ds,_,AA,hs,AA,c.s,c.sd,_,_,_,AA,hC.ho.DT,λs' MQ H1 s1 n1 n2 S1=> ?_⟩;obtain⟨fz,Wa⟩:=S1.ob;have Fv:s'≠MQ:=Ao Wa S1.ds (by intro z;cases z);have qG:(BY h.season.brings)[t]? =some (nV (h.season.brings[t]'())):=by
  unfold BY;rw[J',Gk ()];rfl
 have EX:=hg.EX;refine⟨_,AA,s',cs.S,fz,_,_,AA,Wa,TS.cl,TS.nD,AA,.inl ⟨AA,_,A_.of S1.ds⟩,_,AA,MQ,_,_,t,_,AA,AA,S1.ds,(),(),?_,qG,?_⟩
 ·unfold seqIndex?;rw[BH];simp;omega
 have s2:Ag H (upd H1 MQ (.lst ((BY h.season.brings).eraseIdx t))):=λa o e=>by
  rw[AS (AQ e n2)];exact s1 _ _ e
 refine⟨_,rfl,s',MQ,U6 h.season t,h.gain,h.over,rfl,⟨⟨fz,(by rw[AS Fv];exact Wa)⟩,(by rw[AJ,cA];rfl)⟩,⟨?_,?_,hg.lo,hg.mi,hg.f1,hg.f3⟩,λv H4 s4 q4=> ?_⟩
 ·show(h.season.brings.take t++h.season.brings.drop (t+1)).length<=4;rw[CH,LR,Jh];omega
 ·intro x hx;rcases Eb.mp hx with hx|hx
  ·exact hg.ub x (Ur hx)
  ·exact hg.ub x (MS hx)
 refine⟨(by show 1<=sizeLine;decide),λl hl=> ?_⟩;have s5:=AX hl (.lst [v]);refine⟨l,[v],[_],AA,A_.of AJ,.cons (q4.same s5) .nil,(by show 1<=1000;decide),λl2 H6 s6 n6 h6=> ?_⟩;refine q l2 H6 (s2.trans (s4.trans (s5.trans s6))) ?_;rw[h6];show _=some (HO.lst ((Bc h.season (.without t)).map V.int));rw[e0,AB hi];unfold Gv;rw[Ca (show 0< (U6 h.season t).fine from hg.f1),MK]
theorem AAw(D:Def K mg "told" V5 Ae):#[] 26 "told" Ae (Km K cs 0 λ_=> .told):=by
 refine(D.has (k:=25) pT (λvs H Q E h=> ?_) (λf CL A outer st H vs Q E hr h=> ?_))
 ·obtain⟨p,kl,c,h,as,rfl,hl,_⟩:=h;rw[CD,BP,hl];rfl
 obtain⟨p,kl,c,h,as,rfl,hl,hC,hg,q⟩:=h;obtain rfl:=DK.mp hl;have nd:=pT.nd;refine⟨_,AF (1>>AY (pv 0) rfl)
  (AK (AO (Ay zf (Am #[Ax Ak (by rfl) B.len Cz #[AY (pv 1) rfl],AY (pv 1) rfl,AY (pv 1) rfl,AY (pv 1) rfl]) (AY (pv 1) rfl)))),?_⟩
 obtain⟨dx,hp⟩:=hC.ob;have TW:=B.Z.tW;have TS:=B.Z.tS;obtain⟨ds,hs⟩:=hC.ho.DT.ob;have Gi:=hC.ho.DT.ds;refine⟨_,AA,p,cs.W,dx,_,_,AA,hp,TW.cl,TW.nS,AA,?_⟩;refine⟨_,AA,c.s,cs.S,ds,_,_,AA,hs,TS.cl,TS.nD,AA,c.sd,_,AA,.inl (A_.of Gi),_,AA,c.s,cs.S,ds,_,_,AA,hs,TS.cl,TS.nL,AA,_,AA,c.s,cs.S,ds,_,_,AA,hs,TS.cl,TS.nM,AA,_,AA,c.s,cs.S,ds,_,_,AA,hs,TS.cl,TS.nF,AA,(by show 4<=sizeLine;decide),λl hl=> ?_⟩;have s1:=AX hl (.lst [.int ((BY h.season.brings).length:Nat),nV h.season.looks,nV h.season.misdeeds,nV h.season.fine]);have EX:=hg.EX;refine⟨_,AA,c.s,cs.S,ds,_,_,AA,s1 _ _ hs,TS.cl,TS.nD,AA,l,c.sd,_,_,AA,AA,AJ,s1 _ _ Gi,(by rw[BH];exact A6 (show 4+h.season.brings.length<=1000 by omega) (())),λl2 Sl=> ?_⟩;refine q l2 _ (s1.trans (AX Sl _)) ?_;rw[AJ,BH];show _=some (HO.lst (((h.season.brings.length:Int)::((h.season.looks:Int)::(h.season.misdeeds:Int)::(h.season.fine:Int)::h.season.brings.map λ(x:Nat)=>(x:Int))).map V.int));simp only[B7,Lm];rfl
end
end
section
variable{cs:Cs}{CO:Addr}
structure Bp(H H':Hp)(p:Addr)(c c':Ad):Prop where
 fr:∀a u,H a=some u->a≠p->a∉c.l->H' a=some u
 nw:∀a∈c'.l,a∈c.l\/H a=none
theorem Bp.same{H H':Hp}{p:Addr}{c:Ad}(s:Ag H H'):Bp H H' p c c:=⟨λa u h _ _=>s a u h,λa h=> .inl h⟩
structure Ij(H H':Hp)(c:Ad):Prop where
 fr:∀a u,H a=some u->a≠c.s->a≠c.sd->H' a=some u
theorem Ag.ch{H H':Hp}(s:Ag H H')(c:Ad):Ij H H' c:=⟨λa u h _ _=>s a u h⟩
theorem Ij.trans{H H1 H2:Hp}{c:Ad}(a:Ij H H1 c)(b:Ij H1 H2 c):Ij H H2 c:=⟨λx u h n1 n2=>b.fr x u (a.fr x u h n1 n2) n1 n2⟩
theorem Ij.moves{H H':Hp}{c:Ad}(s:Ij H H' c)(p:Addr):Bp H H' p c c:=⟨λa u h _ n=>s.fr a u h (λz=>n (by rw[z];simp[Ad.l])) (λz=>n (by rw[z];simp[Ad.l])),λa h=> .inl h⟩
theorem Ad.ns{c:Ad}(h:c.l.Nodup):c.a≠c.s/\c.t≠c.s/\c.tp≠c.sd/\c.s≠c.sd:=by
 simp only[Ad.l,Bx,BQ,HN,or_false,not_or,not_false_eq_true,GD,and_true] at h;exact⟨λz=>h.1.2.1 z.symm,λz=>h.1.2.2.1 z.symm,λz=>h.2.1.2.2 z.symm,h.1.1⟩
theorem Av.DT{H H':Hp}{p kl:Addr}{c:Ad}{h:Aw}{x:Bs}{g:Int}{o:Bool}(hC:Av K cs H p kl c h)(s:Ij H H' c)(n:CP cs.S H' c.s c.sd x g o)(np:p≠c.s):Av K cs H' p kl c {h with season:=x,gain:=g,over:=o}:=by
 obtain⟨dx,hp⟩:=hC.ob;obtain⟨ds,hs⟩:=hC.ho.DT.ob;have Gi:=hC.ho.DT.ds;obtain⟨da,ha⟩:=hC.ho.OV.ob;obtain⟨dt,ht⟩:=hC.ho.tab.ob;obtain⟨vs,hv,Dn⟩:=hC.ho.tab.ps;obtain⟨n1,n2,n3,n4⟩:=Ad.ns hC.nd;have tr:∀{a:Addr} {xs:List V},Bi K H a xs->Bi K H' a xs:=λ{a xs} z=>by
  rcases z with z|z
  ·refine .inl ?_;rcases z with z|⟨o',z⟩
   ·exact .inl (s.fr _ _ z (Ao z hs (by intro y;cases y)) (Ao z Gi (by intro y;cases y)))
   ·exact .inr ⟨o',s.fr _ _ z (Ao z hs (by intro y;cases y)) (Ao z Gi (by intro y;cases y))⟩
  ·exact .inr z
 exact⟨⟨dx,s.fr _ _ hp np (Ao hp Gi (by intro y;cases y))⟩,⟨n,⟨⟨da,s.fr _ _ ha n1 (Ao ha Gi (by intro y;cases y))⟩⟩,⟨⟨dt,s.fr _ _ ht n2 (Ao ht Gi (by intro y;cases y))⟩,⟨vs,s.fr _ _ hv (Ao hv hs (by intro y;cases y)) n3,Paired.Jy Dn λv q ⟨a,e,z⟩=>⟨a,e,tr z⟩⟩⟩⟩,hC.nd⟩
def De(h:Aw)(c:Iv):Aw:=match(Ek (some h.season) c).1 with
 |some s=>{h with season:=s}
 |none=>h
inductive Ym(K:Ab)(cs:Cs)(n:Nat)(pc:List Nat->Iv):Sp
 |mk (p kl:Addr) (c:Ad) (h:Aw) (as:List Nat):vs= .ref p::as.map nV->as.length=n->Av K cs H p kl c h->p≠c.s->C_ h.season->(∀l H',Bp H H' p c c->H' l=some (.lst ((Bc h.season (pc as)).map V.int))->Av K cs H' p kl c (De h (pc as))->Q (.ref l) H')->Ym K cs n pc vs H Q DJ
section
variable(B:gI P w K mg base cs CO)
include B
theorem vN(D:Def K mg "looks" QB CM):#[] 26 "looks" CM (Ym K cs 1 λas=> .looks (as.getD 0 0)):=by
 refine D.has (k:=25) fg (λvs H Q E h=> ?_) (λf CL A outer st H vs Q E hr h=> ?_)
 ·obtain⟨p,kl,c,h,as,rfl,hl,_⟩:=h;rw[CD,BP,hl];rfl
 obtain⟨p,kl,c,h,as,rfl,hl,hC,TM,hg,q⟩:=h;obtain⟨t,rfl⟩:∃t,as= [t]:=by
  match as,hl with
  | [a],_=>exact⟨a,AA⟩
 have nd:=fg.nd;refine⟨_,AF (Aj (Af CK (pv 1) (BD B.mL) (Ai _)) (AK (AO (Am #[BD B.NH]))) Aa)
  (AF (2>>AY (pv 0) rfl)
  (AF (3>>AY (pv 2) rfl)
  (AF (Ap (pv 2) (pv 1) rfl)
  (AK (AO (Am #[pv 3])))))),?_⟩
 obtain⟨dx,hp⟩:=hC.ob;have TW:=B.Z.tW;have TS:=B.Z.tS;obtain⟨ds,hs⟩:=hC.ho.DT.ob;have Gi:=hC.ho.DT.ds;obtain⟨_,_,_,Fv⟩:=Ad.ns hC.nd;refine⟨_,AA,_,_,AA,AA,_,AA,?_⟩;by_cases ht:5<t
 ·rw[AH (show(5:Int)< (t:Int) by omega)];refine Au ?_;have BS:A5 t=false:=AL ();refine⟨(by show 1<=sizeLine;decide),λl hl=> ?_⟩;have s1:=AX hl (.lst [.int (-22)]);have e:Ek (some h.season) (.looks t)=(some h.season,Aq (-22)):=by
   show(if A5 t=false then(some h.season,Aq (-22)) else _)=_;rw[AG BS]
  refine q l _ (Bp.same s1) ?_ ?_
  ·rw[AJ];show _=some (HO.lst ((Bc h.season (.looks t)).map V.int));unfold Bc;rw[e];rfl
  ·show Av K cs _ p kl c (De h (.looks t));unfold De;rw[e];exact hC.same s1
 rw[AL (show¬(5:Int)< (t:Int) by omega)];refine A' ?_;have BS:¬A5 t=false:=by unfold A5;rw[AH (show t<=5 by omega)];exact Cd
 refine⟨_,AA,p,cs.W,dx,_,_,AA,hp,TW.cl,TW.nS,AA,_,AA,c.s,cs.S,ds,_,_,AA,hs,TS.cl,TS.nL,AA,_,AA,_,AA,c.s,cs.S,ds,_,AA,hs,TS.cl,TS.nL,(by show 6<1000;decide),?_⟩;have s1:Ij H (upd H c.s (.ins cs.S ds (DB "looks" (nV t) (sF (.ref c.sd) (nV h.season.looks) (nV h.season.misdeeds) (nV h.season.fine) (.int h.gain) (bV h.over))))) c:=⟨λa u e n1 n2=>by rw[AS n1];exact e⟩;have S1:CP cs.S (upd H c.s (.ins cs.S ds (DB "looks" (nV t) (sF (.ref c.sd) (nV h.season.looks) (nV h.season.misdeeds) (nV h.season.fine) (.int h.gain) (bV h.over))))) c.s c.sd {h.season with looks:=t} h.gain h.over:=⟨⟨ds,AJ⟩,(by rw[AS Fv.symm];exact Gi)⟩;refine⟨_,AA,(by show 1<=sizeLine;decide),λl hl=> ?_⟩;have s2:=AX hl (.lst [nV h.season.looks]);have e:Ek (some h.season) (.looks t)=(some {h.season with looks:=t},Aq (h.season.looks:Nat)):=by
  show(if A5 t=false then _ else(some {h.season with looks:=t},Aq (h.season.looks:Nat)))=_;rw[AB BS]
 refine q l _ ((s1.trans (Ag.ch s2 c)).moves p) ?_ ?_
 ·rw[AJ];show _=some (HO.lst ((Bc h.season (.looks t)).map V.int));unfold Bc;rw[e];rfl
 ·show Av K cs _ p kl c (De h (.looks t));unfold De;rw[e];exact(hC.DT s1 S1 TM).same s2
theorem cD(D:Def K mg "misdeeds" JJ CM):#[] 26 "misdeeds" CM (Ym K cs 1 λas=> .misdeeds (as.getD 0 0)):=by
 refine D.has (k:=25) Rh (λvs H Q E h=> ?_) (λf CL A outer st H vs Q E hr h=> ?_)
 ·obtain⟨p,kl,c,h,as,rfl,hl,_⟩:=h;rw[CD,BP,hl];rfl
 obtain⟨p,kl,c,h,as,rfl,hl,hC,TM,hg,q⟩:=h;obtain⟨t,rfl⟩:∃t,as= [t]:=by
  match as,hl with
  | [a],_=>exact⟨a,AA⟩
 have nd:=Rh.nd;refine⟨_,AF (Aj (Af CK (pv 1) (BD B.mL) (Ai _)) (AK (AO (Am #[BD B.NH]))) Aa)
  (AF (2>>AY (pv 0) rfl)
  (AF (3>>AY (pv 2) rfl)
  (AF (Ap (pv 2) (pv 1) rfl)
  (AK (AO (Am #[pv 3])))))),?_⟩
 obtain⟨dx,hp⟩:=hC.ob;have TW:=B.Z.tW;have TS:=B.Z.tS;obtain⟨ds,hs⟩:=hC.ho.DT.ob;have Gi:=hC.ho.DT.ds;obtain⟨_,_,_,Fv⟩:=Ad.ns hC.nd;refine⟨_,AA,_,_,AA,AA,_,AA,?_⟩;by_cases ht:5<t
 ·rw[AH (show(5:Int)< (t:Int) by omega)];refine Au ?_;have BS:A5 t=false:=AL ();refine⟨(by show 1<=sizeLine;decide),λl hl=> ?_⟩;have s1:=AX hl (.lst [.int (-22)]);have e:Ek (some h.season) (.misdeeds t)=(some h.season,Aq (-22)):=by
   show(if A5 t=false then(some h.season,Aq (-22)) else _)=_;rw[AG BS]
  refine q l _ (Bp.same s1) ?_ ?_
  ·rw[AJ];show _=some (HO.lst ((Bc h.season (.misdeeds t)).map V.int));unfold Bc;rw[e];rfl
  ·show Av K cs _ p kl c (De h (.misdeeds t));unfold De;rw[e];exact hC.same s1
 rw[AL (show¬(5:Int)< (t:Int) by omega)];refine A' ?_;have BS:¬A5 t=false:=by unfold A5;rw[AH (show t<=5 by omega)];exact Cd
 refine⟨_,AA,p,cs.W,dx,_,_,AA,hp,TW.cl,TW.nS,AA,_,AA,c.s,cs.S,ds,_,_,AA,hs,TS.cl,TS.nM,AA,_,AA,_,AA,c.s,cs.S,ds,_,AA,hs,TS.cl,TS.nM,(by show 6<1000;decide),?_⟩;have s1:Ij H (upd H c.s (.ins cs.S ds (DB "misdeeds" (nV t) (sF (.ref c.sd) (nV h.season.looks) (nV h.season.misdeeds) (nV h.season.fine) (.int h.gain) (bV h.over))))) c:=⟨λa u e n1 n2=>by rw[AS n1];exact e⟩;have S1:CP cs.S (upd H c.s (.ins cs.S ds (DB "misdeeds" (nV t) (sF (.ref c.sd) (nV h.season.looks) (nV h.season.misdeeds) (nV h.season.fine) (.int h.gain) (bV h.over))))) c.s c.sd {h.season with misdeeds:=t} h.gain h.over:=⟨⟨ds,AJ⟩,(by rw[AS Fv.symm];exact Gi)⟩;refine⟨_,AA,(by show 1<=sizeLine;decide),λl hl=> ?_⟩;have s2:=AX hl (.lst [nV h.season.misdeeds]);have e:Ek (some h.season) (.misdeeds t)=(some {h.season with misdeeds:=t},Aq (h.season.misdeeds:Nat)):=by
  show(if A5 t=false then _ else(some {h.season with misdeeds:=t},Aq (h.season.misdeeds:Nat)))=_;rw[AB BS]
 refine q l _ ((s1.trans (Ag.ch s2 c)).moves p) ?_ ?_
 ·rw[AJ];show _=some (HO.lst ((Bc h.season (.misdeeds t)).map V.int));unfold Bc;rw[e];rfl
 ·show Av K cs _ p kl c (De h (.misdeeds t));unfold De;rw[e];exact(hC.DT s1 S1 TM).same s2
theorem AAx(FI:#[] 1 "is_fine" HB SI)(D:Def K mg "fine" V1 CM):#[] 26 "fine" CM (Ym K cs 1 λas=> .fine (as.getD 0 0)):=by
 refine D.has (k:=25) pO (λvs H Q E h=> ?_) (λf CL A outer st H vs Q E hr h=> ?_)
 ·obtain⟨p,kl,c,h,as,rfl,hl,_⟩:=h;rw[CD,BP,hl];rfl
 obtain⟨p,kl,c,h,as,rfl,hl,hC,TM,hg,q⟩:=h;obtain⟨t,rfl⟩:∃t,as= [t]:=by
  match as,hl with
  | [a],_=>exact⟨a,AA⟩
 have nd:=pO.nd;refine⟨_,AF (Aj (BN (CU (AV FI hr #[pv 1]))) (AK (AO (Am #[BD B.NH]))) Aa)
  (AF (2>>AY (pv 0) rfl)
  (AF (3>>AY (pv 2) rfl)
  (AF (Ap (pv 2) (pv 1) rfl)
  (AK (AO (Am #[pv 3])))))),?_⟩
 obtain⟨dx,hp⟩:=hC.ob;have TW:=B.Z.tW;have TS:=B.Z.tS;obtain⟨ds,hs⟩:=hC.ho.DT.ob;have Gi:=hC.ho.DT.ds;obtain⟨_,_,_,Fv⟩:=Ad.ns hC.nd;refine⟨_,AA,t,AA,_,AA,?_⟩;cases Pn:FF t with
 |false=>
  refine Au ?_;have BS:FF t=false:=Pn;refine⟨(by show 1<=sizeLine;decide),λl hl=> ?_⟩;have s1:=AX hl (.lst [.int (-22)]);have e:Ek (some h.season) (.fine t)=(some h.season,Aq (-22)):=by
   show(if FF t=false then(some h.season,Aq (-22)) else _)=_;rw[AG BS]
  refine q l _ (Bp.same s1) ?_ ?_
  ·rw[AJ];show _=some (HO.lst ((Bc h.season (.fine t)).map V.int));unfold Bc;rw[e];rfl
  ·show Av K cs _ p kl c (De h (.fine t));unfold De;rw[e];exact hC.same s1
 |true=>
 refine A' ?_;have BS:¬FF t=false:=by rw[Pn];exact Cd
 refine⟨_,AA,p,cs.W,dx,_,_,AA,hp,TW.cl,TW.nS,AA,_,AA,c.s,cs.S,ds,_,_,AA,hs,TS.cl,TS.nF,AA,_,AA,_,AA,c.s,cs.S,ds,_,AA,hs,TS.cl,TS.nF,(by show 6<1000;decide),?_⟩;have s1:Ij H (upd H c.s (.ins cs.S ds (DB "fine" (nV t) (sF (.ref c.sd) (nV h.season.looks) (nV h.season.misdeeds) (nV h.season.fine) (.int h.gain) (bV h.over))))) c:=⟨λa u e n1 n2=>by rw[AS n1];exact e⟩;have S1:CP cs.S (upd H c.s (.ins cs.S ds (DB "fine" (nV t) (sF (.ref c.sd) (nV h.season.looks) (nV h.season.misdeeds) (nV h.season.fine) (.int h.gain) (bV h.over))))) c.s c.sd {h.season with fine:=t} h.gain h.over:=⟨⟨ds,AJ⟩,(by rw[AS Fv.symm];exact Gi)⟩;refine⟨_,AA,(by show 1<=sizeLine;decide),λl hl=> ?_⟩;have s2:=AX hl (.lst [nV h.season.fine]);have e:Ek (some h.season) (.fine t)=(some {h.season with fine:=t},Aq (h.season.fine:Nat)):=by
  show(if FF t=false then _ else(some {h.season with fine:=t},Aq (h.season.fine:Nat)))=_;rw[AB BS]
 refine q l _ ((s1.trans (Ag.ch s2 c)).moves p) ?_ ?_
 ·rw[AJ];show _=some (HO.lst ((Bc h.season (.fine t)).map V.int));unfold Bc;rw[e];rfl
 ·show Av K cs _ p kl c (De h (.fine t));unfold De;rw[e];exact(hC.DT s1 S1 TM).same s2
end
end
section
variable{cs:Cs}{CO:Addr}
theorem i9(l:List Nat)(u:Nat):BY l++ [nV u]=BY (l++ [u]):=by
 unfold BY;rw[GB];rfl
theorem TY(l:List Nat):(BY l).dropLast=BY l.dropLast:=by
 unfold BY;rw[List.map_dropLast]
section
variable{H:Hp}{p kl:Addr}{c:Ad}{h:Aw}{Q:VK}
theorem NJ{n:Int}{l:Addr}{cc:Iv}(hC:Av K cs H p kl c h)(hl:H l=none)(e:Ek (some h.season) cc=(some h.season,Aq n))
  (q:∀l H',Bp H H' p c c->H' l=some (.lst ((Bc h.season cc).map V.int))->Av K cs H' p kl c (De h cc)->Q (.ref l) H'):Q (.ref l) (upd H l (.lst [.int n])):=by
 have s1:=AX hl (.lst [.int n]);refine q l _ (Bp.same s1) ?_ ?_
 ·rw[AJ];unfold Bc;rw[e];rfl
 ·unfold De;rw[e];exact hC.same s1
theorem qh{l:Addr}{cc:Iv}{n:Int}{x:Bs}{ds:Addr}(hC:Av K cs H p kl c h)(TM:p≠c.s)(hs:H c.s=some (.ins cs.S ds (sF (.ref c.sd) (nV h.season.looks) (nV h.season.misdeeds) (nV h.season.fine) (.int h.gain) (bV h.over))))
  (ex:x.looks=h.season.looks/\x.misdeeds=h.season.misdeeds/\x.fine=h.season.fine) (hl:(upd H c.sd (.lst (BY x.brings))) l=none) (e:Ek (some h.season) cc=(some x,Aq n))
  (q:∀l H',Bp H H' p c c->H' l=some (.lst ((Bc h.season cc).map V.int))->Av K cs H' p kl c (De h cc)->Q (.ref l) H'):Q (.ref l) (upd (upd H c.sd (.lst (BY x.brings))) l (.lst [.int n])):=by
 obtain⟨_,_,_,Fv⟩:=Ad.ns hC.nd;have s1:Ij H (upd H c.sd (.lst (BY x.brings))) c:=⟨λa u e n1 n2=>by rw[AS n2];exact e⟩;have S1:CP cs.S (upd H c.sd (.lst (BY x.brings))) c.s c.sd x h.gain h.over:=by
  refine⟨⟨ds,?_⟩,AJ⟩;rw[AS Fv,ex.1,ex.2.1,ex.2.2];exact hs
 have s2:=AX hl (.lst [.int n]);refine q l _ ((s1.trans (Ag.ch s2 c)).moves p) ?_ ?_
 ·rw[AJ];unfold Bc;rw[e];rfl
 ·unfold De;rw[e];exact(hC.DT s1 S1 TM).same s2
end
section
variable(B:gI P w K mg base cs CO)
include B
theorem ADj(D:Def K mg "day" ff CM):#[] 26 "day" CM (Ym K cs 1 λas=> .day (as.getD 0 0)):=by
 refine D.has (k:=25) xJ (λvs H Q E h=> ?_) (λf CL A outer st H vs Q E hr h=> ?_)
 ·obtain⟨p,kl,c,h,as,rfl,hl,_⟩:=h;rw[CD,BP,hl];rfl
 obtain⟨p,kl,c,h,as,rfl,hl,hC,TM,hg,q⟩:=h;obtain⟨t,rfl⟩:∃t,as= [t]:=by
  match as,hl with
  | [a],_=>exact⟨a,AA⟩
 have nd:=xJ.nd;refine⟨_,AF (2>>AY (AY (pv 0) rfl) rfl)
  (AF (Aj (Af CK (pv 1) (BD B.mB) (Ai _)) (AK (AO (Am #[BD B.NH]))) Aa)
  (AF (Aj (Af B_ (Ax Ak (by rfl) B.len Cz #[pv 2]) (BD B.mD) (Ai _)) (AK (AO (Am #[BD B.n28]))) Aa)
  (AF (Bu (KY IJ VC VB Kx (pv 2) #[pv 1]))
  (AK (AO (Am #[Ay Er (Ax Ak (by rfl) B.len Cz #[pv 2]) AU])))))),?_⟩
 obtain⟨dx,hp⟩:=hC.ob;have TW:=B.Z.tW;have TS:=B.Z.tS;obtain⟨ds,hs⟩:=hC.ho.DT.ob;have Gi:=hC.ho.DT.ds;have EX:=hg.EX;have e0:Ek (some h.season) (.day t)=if 3<t then(some h.season,Aq (-22)) else if Lu<=h.season.brings.length then(some h.season,Aq (-28)) else(some {h.season with brings:=h.season.brings++ [t]},Aq (h.season.brings.length:Nat)):=rfl
 refine⟨_,AA,p,cs.W,dx,_,_,AA,hp,TW.cl,TW.nS,AA,c.s,cs.S,ds,_,_,AA,hs,TS.cl,TS.nD,AA,?_⟩;refine⟨_,AA,_,_,AA,AA,_,AA,?_⟩;by_cases ht:3<t
 ·rw[AH (show(3:Int)< (t:Int) by omega)];refine Au ?_;refine⟨(by show 1<=sizeLine;decide),λl hl=> ?_⟩;exact NJ (cc:= .day t) hC hl (by rw[e0,AG ht]) q
 rw[AL (show¬(3:Int)< (t:Int) by omega)];refine A' ?_;refine⟨_,AA,c.sd,_,AA,.inl (A_.of Gi),AA,_,AA,?_⟩;rw[BH];by_cases h4:h.season.brings.length=4
 ·rw[AH (show V.int ((h.season.brings.length:Nat):Int)=V.int 4 by rw[h4];rfl)];refine Au ?_;refine⟨(by show 1<=sizeLine;decide),λl hl=> ?_⟩;exact NJ (cc:= .day t) hC hl (by rw[e0,AB ht,AG (show Lu<=h.season.brings.length by unfold Lu;omega)]) q
 rw[AL (show¬V.int ((h.season.brings.length:Nat):Int)=V.int 4 from λz=>h4 (by injection z with z;omega))];refine A' ?_;refine⟨_,AA,.inl ⟨AA,_,A_.of Gi⟩,_,AA,c.sd,_,_,AA,AA,Gi,(by rw[BH];exact DU EX (())),?_⟩;have es:BY h.season.brings++ [nV t]=BY ({h.season with brings:=h.season.brings++ [t]}:Bs).brings:=i9 _ _;rw[es];refine⟨_,AA,c.sd,_,AA,.inl (A_.of AJ),_,_,AA,AA,(by show 1<=sizeLine;decide),λl hl=> ?_⟩;have en:(((BY ({h.season with brings:=h.season.brings++ [t]}:Bs).brings).length:Nat):Int) - 1=((h.season.brings.length:Nat):Int):=by
  rw[BH];show(((h.season.brings++ [t]).length:Nat):Int) - 1=_;rw[CH];show((h.season.brings.length+1:Nat):Int) - 1=_;omega
 show Q (V.ref l) (upd _ l (.lst [V.int ((((BY ({h.season with brings:=h.season.brings++ [t]}:Bs).brings).length:Nat):Int) - 1)]));rw[en];exact qh (cc:= .day t) (x:={h.season with brings:=h.season.brings++ [t]}) hC TM hs ⟨rfl,rfl,rfl⟩ hl (by rw[e0,AB ht,AB (show¬Lu<=h.season.brings.length by unfold Lu;omega)]) q
theorem k_drop(D:Def K mg "drop" V0 Ae):#[] 26 "drop" Ae (Ym K cs 0 λ_=> .drop):=by
 refine D.has (k:=25) pM (λvs H Q E h=> ?_) (λf CL A outer st H vs Q E hr h=> ?_)
 ·obtain⟨p,kl,c,h,as,rfl,hl,_⟩:=h;rw[CD,BP,hl];rfl
 obtain⟨p,kl,c,h,as,rfl,hl,hC,TM,hg,q⟩:=h;obtain rfl:=DK.mp hl;have nd:=pM.nd;refine⟨_,AF (1>>AY (AY (pv 0) rfl) rfl)
  (AF (Aj (BN (Ar (pv 1) (λ_=>rfl))) (AK (AO (Am #[BD B.n6]))) Aa)
  (AF (Bu (oN IJ KN Nu oP (pv 1)))
  (AK (AO (Am #[Ax Ak (by rfl) B.len Cz #[pv 1]]))))),?_⟩
 obtain⟨dx,hp⟩:=hC.ob;have TW:=B.Z.tW;have TS:=B.Z.tS;obtain⟨ds,hs⟩:=hC.ho.DT.ob;have Gi:=hC.ho.DT.ds;have e0:Ek (some h.season) .drop=if h.season.brings.isEmpty then(some h.season,Aq (-6)) else(some {h.season with brings:=h.season.brings.dropLast},Aq (h.season.brings.length - 1:Nat)):=rfl
 refine⟨_,AA,p,cs.W,dx,_,_,AA,hp,TW.cl,TW.nS,AA,c.s,cs.S,ds,_,_,AA,hs,TS.cl,TS.nD,AA,?_⟩;refine⟨_,AA,_,.inl ⟨_,A_.of Gi,AA⟩,?_⟩;cases hb:h.season.brings with
 |nil=>
  rw[show(!(!(BY ([]:List Nat)).isEmpty))=true from rfl];refine Au ?_;refine⟨(by show 1<=sizeLine;decide),λl hl=> ?_⟩;exact NJ (cc:= .drop) hC hl (by rw[e0,hb];rfl) q
 |cons u r=>
  rw[show(!(!(BY (u::r)).isEmpty))=false from rfl];refine A' ?_;have ADk:(BY h.season.brings)[(BY h.season.brings).length - 1]? =some (nV (h.season.brings[h.season.brings.length - 1]'(by rw[hb];simp))):=by
   rw[BH];unfold BY;rw[J',Gk (by rw[hb];simp)];rfl
  refine⟨_,AA,.inl ⟨AA,_,A_.of Gi⟩,c.sd,_,_,AA,AA,Gi,ADk,?_⟩;have es:(BY h.season.brings).dropLast=BY ({h.season with brings:=h.season.brings.dropLast}:Bs).brings:=TY _;rw[es];refine⟨_,AA,c.sd,_,AA,.inl (A_.of AJ),(by show 1<=sizeLine;decide),λl hl=> ?_⟩;have en:(BY ({h.season with brings:=h.season.brings.dropLast}:Bs).brings).length=h.season.brings.length - 1:=by
   rw[BH];exact ZW
  rw[en];exact qh (cc:= .drop) (x:={h.season with brings:=h.season.brings.dropLast}) hC TM hs ⟨rfl,rfl,rfl⟩ hl (by rw[e0,AB (by rw[hb];exact DA)]) q
theorem qi(RB:#[] 1 "refused_brings" RW (Wj cs.S))(D:Def K mg "brings" Mp PJ):#[] 26 "brings" PJ (Ym K cs 2 λas=> .brings (as.getD 0 0) (as.getD 1 0)):=by
 refine D.has (k:=25) YE (λvs H Q E h=> ?_) (λf CL A outer st H vs Q E hr h=> ?_)
 ·obtain⟨p,kl,c,h,as,rfl,hl,_⟩:=h;rw[CD,BP,hl];rfl
 obtain⟨p,kl,c,h,as,rfl,hl,hC,TM,hg,q⟩:=h;obtain⟨t,u,rfl⟩:∃t u,as= [t,u]:=by
  match as,hl with
  | [a,b],_=>exact⟨a,b,AA⟩
 have nd:=YE.nd;refine⟨_,AF (3>>AY (pv 0) rfl)
  (AF (4>>AV RB hr #[pv 3,pv 1,pv 2])
  (AF (Aj (Ar (pv 4) (λ_=>rfl)) (AK (AO (Am #[pv 4]))) Aa)
  (AF (5>>BM D4 (AY (pv 3) rfl) (pv 1) (λ_ _=>rfl))
  (AF (aa (pv 2) (aZ (AY (pv 3) rfl) (pv 1) set_list))
  (AK (AO (Am #[pv 5]))))))),?_⟩
 obtain⟨dx,hp⟩:=hC.ob;have TW:=B.Z.tW;have TS:=B.Z.tS;obtain⟨ds,hs⟩:=hC.ho.DT.ob;have Gi:=hC.ho.DT.ds;have e0:Ek (some h.season) (.brings t u)=if Cf h.season t=false then(some h.season,Aq (-2)) else if 3<u then(some h.season,Aq (-22)) else(some (KI h.season t u),Aq (h.season.brings.getD t 0:Nat)):=rfl
 refine⟨_,AA,p,cs.W,dx,_,_,AA,hp,TW.cl,TW.nS,AA,_,AA,_,AA,_,AA,c.s,c.sd,_,_,_,t,u,AA,hC.ho.DT,?_⟩;refine⟨_,AA,_,AA,?_⟩;by_cases ht:h.season.brings.length<=t
 ·have e1:NI h.season t u= -2:=by unfold NI;rw[AG ht]
  rw[e1];refine Au ?_;refine⟨_,AA,(by show 1<=sizeLine;decide),λl hl=> ?_⟩;exact NJ (cc:= .brings t u) hC hl (by rw[e0,AG (show Cf h.season t=false from AL ())]) q
 have hi:¬Cf h.season t=false:=by unfold Cf;rw[AH (show t<h.season.brings.length by omega)];exact Cd
 by_cases hu:3<u
 ·have e1:NI h.season t u= -22:=by unfold NI;rw[AB ht,AG hu]
  rw[e1];refine Au ?_;refine⟨_,AA,(by show 1<=sizeLine;decide),λl hl=> ?_⟩;exact NJ (cc:= .brings t u) hC hl (by rw[e0,AB hi,AG hu]) q
 have e1:NI h.season t u=0:=by unfold NI;rw[AB ht,AB hu]
 rw[e1];refine A' ?_;obtain⟨x,hx,_,_,qG⟩:=Jd (show t<h.season.brings.length by omega);refine⟨_,AA,c.s,cs.S,ds,_,_,AA,hs,TS.cl,TS.nD,AA,_,AA,c.sd,_,_,_,AA,AA,A_.of Gi,qG,?_⟩;refine⟨_,AA,_,AA,c.s,cs.S,ds,_,_,AA,hs,TS.cl,TS.nD,AA,_,AA,c.sd,_,_,t,AA,AA,Gi,Wk (by rw[BH];omega),?_⟩;have es:(BY h.season.brings).set t (nV u)=BY (KI h.season t u).brings:=Yk _ _ _;rw[es];refine⟨_,AA,(by show 1<=sizeLine;decide),λl hl=> ?_⟩;exact qh (cc:= .brings t u) (x:=KI h.season t u) (n:=(x:Int)) hC TM hs ⟨rfl,rfl,rfl⟩ hl (by rw[e0,AB hi,AB hu,Ts,hx];rfl) q
end
end
section
variable{cs:Cs}{CO:Addr}
theorem qj{x:Bs}(hb:0<x.fine){u:Nat}{r:List Nat}(hx:x.brings=u::r)(hl:¬x.looks=0)(hm:¬x.misdeeds=0):
  Bc x .four=0::nums [-(x.fine:Rat),R5 x.fine x.brings 0 x.looks x.misdeeds,gU x.fine x.brings 0 x.looks x.misdeeds,gN x.fine x.brings 0 x.looks x.misdeeds]:=by
 have e1:jq x.brings 0=u:=by rw[hx];rfl
 have e:Ek (some x) .four=(some x,if x.brings.isEmpty\/x.looks=0\/x.misdeeds=0 then Aq (-6) else let y:=Nt x.fine (x.brings.headD 0) (x.brings.drop 1) x.looks x.misdeeds
    ⟨0,[y.seen.1,(y.seen.2:Int),y.idle.1,(y.idle.2:Int),y.unseen.1,(y.unseen.2:Int),y.quiet.1,(y.quiet.2:Int)]⟩):=rfl
 unfold Bc;rw[e,AB (by rw[hx];exact λz=>z.elim (λz=>by cases z) λz=>z.elim hl hm)];rw[bJ hb];unfold R5 gU gN;rw[e1];have e2:x.brings.headD 0=u:=by rw[hx];rfl
 rw[e2];rfl
section
variable(B:gI P w K mg base cs CO)
include B
theorem AAy(D:Def K mg "four" V4 Ae):#[] 26 "four" Ae (Km K cs 0 λ_=> .four):=by
 refine D.has (k:=25) pS (λvs H Q E h=> ?_) (λf CL A outer st H vs Q E hr h=> ?_)
 ·obtain⟨p,kl,c,h,as,rfl,hl,_⟩:=h;rw[CD,BP,hl];rfl
 obtain⟨p,kl,c,h,as,rfl,hl,hC,hg,q⟩:=h;obtain rfl:=DK.mp hl;have nd:=pS.nd;refine⟨_,AF (1>>AY (pv 0) rfl)
  (AF (Aj (Ep (BN (Ar (AY (pv 1) rfl) (λ_=>rfl))) (Ep (Af B_ (AY (pv 1) rfl) AU (Ai _)) (FP (Af B_ (AY (pv 1) rfl) AU (Ai _))))).pt (AK (AO (Am #[BD B.n6]))) Aa)
  (AK (AO (AV B.R.told hr #[BG B.four B.T.cl hr (AV B.TX hr #[pv 1]) #[AU,AY (pv 1) rfl,AY (pv 1) rfl]])))),?_⟩
 obtain⟨dx,hp⟩:=hC.ob;have TW:=B.Z.tW;have TS:=B.Z.tS;obtain⟨ds,hs⟩:=hC.ho.DT.ob;have Gi:=hC.ho.DT.ds;have no:(h.season.brings.isEmpty\/h.season.looks=0\/h.season.misdeeds=0)->∀l,H l=none->Q (.ref l) (upd H l (.lst [.int (-6)])):=λhc l hl=>by
  refine q l _ (AX hl _) ?_;rw[AJ];show _=some (HO.lst ((Bc h.season .four).map V.int));have e:Ek (some h.season) .four=(some h.season,if h.season.brings.isEmpty\/h.season.looks=0\/h.season.misdeeds=0 then Aq (-6) else let y:=Nt h.season.fine (h.season.brings.headD 0) (h.season.brings.drop 1) h.season.looks h.season.misdeeds
    ⟨0,[y.seen.1,(y.seen.2:Int),y.idle.1,(y.idle.2:Int),y.unseen.1,(y.unseen.2:Int),y.quiet.1,(y.quiet.2:Int)]⟩):=rfl
  unfold Bc;rw[e,AG hc];rfl
 refine⟨_,AA,p,cs.W,dx,_,_,AA,hp,TW.cl,TW.nS,AA,?_⟩;refine⟨_,AA,c.s,cs.S,ds,_,_,AA,hs,TS.cl,TS.nD,AA,_,.inl ⟨_,A_.of Gi,AA⟩,?_⟩;cases hb:h.season.brings with
 |nil=>
  rw[show(!(!(BY ([]:List Nat)).isEmpty))=true from rfl];refine Au ?_;refine Au ?_;refine⟨(by show 1<=sizeLine;decide),λl hl=> ?_⟩;exact no (.inl (by rw[hb];rfl)) l hl
 |cons u r=>
  rw[show(!(!(BY (u::r)).isEmpty))=false from rfl];refine A' ?_;refine⟨_,AA,c.s,cs.S,ds,_,_,AA,hs,TS.cl,TS.nL,AA,AA,_,AA,?_⟩;by_cases h1:h.season.looks=0
  ·rw[AH (show nV h.season.looks=V.int 0 by rw[h1];rfl)];refine Au ?_;refine Au ?_;refine⟨(by show 1<=sizeLine;decide),λl hl=> ?_⟩;exact no (.inr (.inl h1)) l hl
  rw[AL (show¬nV h.season.looks=V.int 0 from λz=>h1 (by unfold nV at z;injection z with z;omega))];refine A' ?_;refine⟨_,AA,c.s,cs.S,ds,_,_,AA,hs,TS.cl,TS.nM,AA,AA,_,AA,?_⟩;by_cases h2:h.season.misdeeds=0
  ·rw[AH (show nV h.season.misdeeds=V.int 0 by rw[h2];rfl)];refine Au ?_;refine⟨(by show 1<=sizeLine;decide),λl hl=> ?_⟩;exact no (.inr (.inr h2)) l hl
  rw[AL (show¬nV h.season.misdeeds=V.int 0 from λz=>h2 (by unfold nV at z;injection z with z;omega))];refine A' ?_;refine⟨_,AA,c.s,c.sd,_,_,_,AA,hC.ho.DT,hg,λou d H1 s1 Gg O1=> ?_⟩;obtain⟨TV,lo,ho,_⟩:=O1.ob;have Hq:=s1 _ _ hs;refine⟨ou,TV,_,AA,ho,AA,_,AA,c.s,cs.S,ds,_,_,AA,Hq,TS.cl,TS.nL,AA,_,AA,c.s,cs.S,ds,_,_,AA,Hq,TS.cl,TS.nM,AA,ou,d,_,_,0,h.season.looks,h.season.misdeeds,AA,O1,(by have:=hg.EX;omega),hg.lo8,hg.mi8,(by show 0<h.season.brings.length;rw[hb];exact Qe _),(),(),λl H2 vs e2 Sl qs=> ?_⟩;have D5:=Ext.fresh s1 Gg e2;refine⟨l,vs,_,AA,A_.of Sl,qs,(by show 4<=1000;decide),λl2 H3 s3 n3 h3=> ?_⟩;refine q l2 H3 (D5.trans s3) ?_;rw[h3];show _=some (HO.lst ((Bc h.season .four).map V.int));rw[qj hg.f1 hb h1 h2]
theorem cF(mr:mg "range"=none)(D:Def K mg "firstday" JO Ae):#[] 26 "firstday" Ae (Km K cs 0 λ_=> .firstDay):=by
 refine D.has (k:=25) Rn (λvs H Q E h=> ?_) (λf CL A outer st H vs Q E hr h=> ?_)
 ·obtain⟨p,kl,c,h,as,rfl,hl,_⟩:=h;rw[CD,BP,hl];rfl
 obtain⟨p,kl,c,h,as,rfl,hl,hC,hg,q⟩:=h;obtain rfl:=DK.mp hl;have nd:=Rn.nd;refine⟨_,AF (1>>AY (pv 0) rfl)
  (AF (2>>AV B.TX hr #[pv 1])
  (AF (H_ HS rfl (Kv rfl mr #[Ax Ak (by rfl) B.len Cz #[AY (pv 1) rfl]]) (BK (i:=3) nd rfl (BJ rfl))
   (AK (Aj (CU (AV B.R.less hr #[Sm B.R.zero,BG B.O.dare B.T.cl hr (pv 2) #[pv 3,AY (pv 1) rfl,AY (pv 1) rfl]])) (AK (AO (Am #[pv 3]))) Aa)))
  (AK (AO (Am #[BD B.vL]))))),?_⟩
 obtain⟨dx,hp⟩:=hC.ob;have TW:=B.Z.tW;have TS:=B.Z.tS;obtain⟨ds,hs⟩:=hC.ho.DT.ob;have Gi:=hC.ho.DT.ds;have EX:=hg.EX;have e0:Bc h.season .firstDay=(match(Cv h.season.brings.length).find? λt=>decide (0< (FJ h.season.fine (h.season.brings.drop t) h.season.looks h.season.misdeeds).1) with
    |some t=>Aq (t:Nat)
    |none=>Aq (-33)).num::(match(Cv h.season.brings.length).find? λt=>decide (0< (FJ h.season.fine (h.season.brings.drop t) h.season.looks h.season.misdeeds).1) with
    |some t=>Aq (t:Nat)
    |none=>Aq (-33)).nums:=rfl
 have pos:∀t,decide (0< (FJ h.season.fine (h.season.brings.drop t) h.season.looks h.season.misdeeds).1)=decide (0<gD h.season.fine h.season.brings t h.season.looks h.season.misdeeds):=λt=>by
  rw[OE hg.f1];show decide (0< (gD h.season.fine h.season.brings t h.season.looks h.season.misdeeds).num)=_;congr 1;refine propext ⟨λz=> ?_,λz=>Kz z⟩;rw[VG];have a1:(0:Rat).num=0:=rfl;have a2:(0:Rat).den=1:=rfl;rw[a1,a2];omega
 refine⟨_,AA,p,cs.W,dx,_,_,AA,hp,TW.cl,TW.nS,AA,?_⟩;refine⟨_,AA,c.s,c.sd,_,_,_,AA,hC.ho.DT,hg,λou d H1 s1 Gg O1=> ?_⟩;refine⟨_,AA,c.s,cs.S,ds,_,_,AA,s1 _ _ hs,TS.cl,TS.nD,AA,c.sd,_,AA,.inl (A_.of (s1 _ _ Gi)),_,AA,(by rw[BH];omega),(by rw[BH];omega),?_⟩;rw[BH,EJ];refine Kw (λt σ H'=>∃y3:Option V,σ= [some (.ref p),some (.ref c.s),some (.ref ou),y3]/\Ag H H'/\CZ K CO H' ou d h.season.fine h.season.brings/\∀j,j<t->¬0<gD h.season.fine h.season.brings j h.season.looks h.season.misdeeds)
  ⟨none,rfl,s1,O1,λj hj=>absurd hj (Zq _)⟩ ?_ ?_
 ·rintro t σ H2 ht ⟨y3,rfl,s2,O2,jv⟩;rw[Int.zero_add];intro v0 YV;obtain⟨TV,lo,ho,_⟩:=O2.ob;have Vf:=s2 _ _ hs;refine⟨_,AA,ou,TV,_,AA,ho,AA,_,AA,_,AA,c.s,cs.S,ds,_,_,AA,Vf,TS.cl,TS.nL,AA,_,AA,c.s,cs.S,ds,_,_,AA,Vf,TS.cl,TS.nM,AA,ou,d,_,_,t,h.season.looks,h.season.misdeeds,AA,O2,(),hg.lo8,hg.mi8,ht,λv H3 e3 O3 q3=> ?_⟩;have s3:Ag H H3:=λa u e=>e3 _ _ (s2 _ _ e) (AQ e Gg);have okD:Ok (gD h.season.fine h.season.brings t h.season.looks h.season.misdeeds):=by
   obtain⟨z,z0,z1,zb⟩:=Vv hg.f1 hg.f3 (l:=h.season.brings.drop t) (by rw[Jh];omega) (λx hx=>hg.ub x (MS hx)) h.season.looks h.season.misdeeds;have h4:aD (h.season.brings.drop t).length<=200:=P8 (b:=4) (by rw[Jh];omega);exact C0 ((zb.sz z0 z1).mono (show _<=401 by omega))
  refine⟨v0,v,0,_,AA,YV _,q3,C0 (Sz.zero (n:=1) (())),okD,_,AA,?_⟩;by_cases hd:0<gD h.season.fine h.season.brings t h.season.looks h.season.misdeeds
  ·rw[AH hd];refine Au ?_;refine⟨_,AA,(by show 1<=sizeLine;decide),λl hl=> ?_⟩;refine q l _ (s3.trans (AX hl _)) ?_;rw[AJ];show _=some (HO.lst ((Bc h.season .firstDay).map V.int));have e1:((Cv h.season.brings.length).find? λt=>decide (0< (FJ h.season.fine (h.season.brings.drop t) h.season.looks h.season.misdeeds).1))=some t:=by
    rw[List.find?_range_eq_some];refine⟨by rw[pos t];exact AH hd,Gn.mpr ht,λj hj=> ?_⟩;rw[pos j];simpa using jv j hj
   rw[e0,e1];rfl
  ·rw[AL hd];refine A' ?_;refine⟨_,AA,s3,O3,λj hj=> ?_⟩;by_cases e:j=t
   ·rw[e];exact hd
   ·exact jv j ()
 ·rintro σ H2 ⟨y3,rfl,s2,O2,jv⟩;refine⟨(by show 1<=sizeLine;decide),λl hl=> ?_⟩;refine q l _ (s2.trans (AX hl _)) ?_;rw[AJ];show _=some (HO.lst ((Bc h.season .firstDay).map V.int));have e1:((Cv h.season.brings.length).find? λt=>decide (0< (FJ h.season.fine (h.season.brings.drop t) h.season.looks h.season.misdeeds).1))=none:=by
   rw[kK];intro t ht;rw[pos t];have:=jv t (Gn.mp ht);simpa using this
  rw[e0,e1];rfl
end
end
section
theorem vO{X:Cx}{a:Expr}{ta:TE}{pos:Pos}(ha:PE X a ta):PE X (.UnaryOp .Not a pos) (λσ H Q=>ta σ H λx H1=>∃k,tq X.K x H1 k/\Q (.bl (!k)) H1):=by
 intro pins s σ H Q I h;refine UnaryOp_ (Bt (ha pins s σ H _ I h) λv s1 ⟨x,H1,I1,r1,q1⟩=> ?_);exact not_of (Bt (nv pins s1 σ H1 x v (λk H'=>Q (.bl (!k)) H') I1 r1 q1) λb s2 ⟨H2,I2,q2⟩=>⟨.bl (!b),H2,I2,rfl,q2⟩)
variable{cs:Cs}{CO:Addr}
def CG(x:Bs)(o:Bool):Bool:=x.brings.isEmpty || o
inductive OY(CS:Addr):Sp
 |mk (s sd:Addr) (x:Bs) (g:Int) (o:Bool):vs= [.ref s]->CP CS H s sd x g o->Q (.bl (CG x o)) H->OY CS vs H Q DJ
section
variable(B:gI P w K mg base cs CO)
include B
theorem AAz(D:Def K mg "is_over" LB Cg):#[] 1 "is_over" Cg (OY cs.S):=by
 exists iZ
 ·obtain⟨s,sd,x,g,o,rfl,_⟩:=h;rfl
 obtain⟨s,sd,x,g,o,rfl,hS,q⟩:=h;obtain⟨ds,hs⟩:=hS.ob;have TS:=B.Z.tS;refine⟨_,AK (AO (ACS (vO (AY (pv 0) rfl)) (zJ (Ma B_ (AY (pv 0) rfl) AU (Ai _))))),?_⟩;refine⟨_,AA,s,cs.S,ds,_,_,AA,hs,TS.cl,TS.nD,AA,_,.inl ⟨_,A_.of hS.ds,AA⟩,_,AA,?_⟩;unfold CG at q;cases hb:x.brings with
 |nil=>
  rw[hb] at q;rw[show(!(!(BY ([]:List Nat)).isEmpty))=true from rfl];refine Au ?_;exact q
 |cons u r=>
  rw[hb] at q;rw[show(!(!(BY (u::r)).isEmpty))=false from rfl];refine A' ?_;refine⟨_,AA,s,cs.S,ds,_,_,AA,hs,TS.cl,TS.nC,AA,AA,?_⟩;have e:decide (bV o=V.int 1)=((u::r).isEmpty || o):=by cases o <;> rfl
  rw[e];exact q
def mR(x:Bs)(g:Int)(o:Bool):Rat:=(g:Rat)+(if o then 0 else wR x.fine x.brings x.looks x.misdeeds)
inductive Wl(K:Ab)(CS:Addr):Sp
 |mk (s sd:Addr) (x:Bs) (g:Int) (o:Bool):vs= [.ref s]->CP CS H s sd x g o->C_ x->g.natAbs<2^20->(∀v H',Ag H H'->A8 K H' v (mR x g o)->Q v H')->Wl K CS vs H Q DJ
theorem vP(D:Def K mg "season_mean" Fj Cg):#[] 26 "season_mean" Cg (Wl K cs.S):=by
 exists TH
 ·obtain⟨s,sd,x,g,o,rfl,_⟩:=h;rfl
 obtain⟨s,sd,x,g,o,rfl,hS,hg,hgn,q⟩:=h;obtain⟨ds,hs⟩:=hS.ob;have TS:=B.Z.tS;refine⟨_,AF (Aj (Ar (AY (pv 0) rfl) (λ_=>rfl)) (AK (AO (AV B.R.whole hr #[AY (pv 0) rfl]))) Aa)
  (AK (AO (AV B.R.plus hr #[AV B.R.whole hr #[AY (pv 0) rfl],AV B.sw hr #[pv 0]]))),?_⟩
 refine⟨_,AA,s,cs.S,ds,_,_,AA,hs,TS.cl,TS.nC,AA,_,AA,?_⟩;cases o with
 |true=>
  refine Au ?_;refine⟨_,AA,s,cs.S,ds,_,_,AA,hs,TS.cl,TS.nH,AA,g,AA,λv H1 s1 q1=> ?_⟩;refine q v H1 s1 ?_;have e:mR x g true=(g:Rat):=by unfold mR;rw[AG rfl];grind
  rw[e];exact q1
 |false=>
  refine A' ?_;refine⟨_,AA,s,cs.S,ds,_,_,AA,hs,TS.cl,TS.nH,AA,g,AA,λv H1 s1 q1=> ?_⟩;refine⟨_,AA,s,sd,x,g,false,AA,CP.same ⟨⟨ds,hs⟩,hS.ds⟩ s1,hg,λv2 H2 s2 q2=> ?_⟩;refine⟨v,v2,(g:Rat),_,AA,q1.same s2,q2,C0 (Sz.int (n:=20) hgn (())),C0 (xB hg.f1 hg.f3 hg.EX hg.ub _ _),trivial,λv3 H3 s3 q3=> ?_⟩;refine q v3 H3 (s1.trans (s2.trans s3)) ?_;have e:mR x g false=(g:Rat)+wR x.fine x.brings x.looks x.misdeeds:=by unfold mR;rw[AB DA]
  rw[e];exact q3
def FT(h:Aw)(c:Fs):List Int:=(Be (some ⟨h,[]⟩) c).2.num::(Be (some ⟨h,[]⟩) c).2.nums
inductive vQ(K:Ab)(cs:Cs)(n:Nat)(pc:List Nat->Fs):Sp
 |mk (p kl:Addr) (c:Ad) (h:Aw) (as:List Nat):vs= .ref p::as.map nV->as.length=n->Av K cs H p kl c h->C_ h.season->h.gain.natAbs<2^19->(∀l H',Ag H H'->H' l=some (.lst ((FT h (pc as)).map V.int))->Q (.ref l) H')->vQ K cs n pc vs H Q DJ
omit B in
theorem qk{h:Aw}(hg:C_ h.season):Lp h=q (mR h.season h.gain h.over):=by
 unfold Lp Kp320.worth BB mR;cases h.over with
 |true=>
  rw[AG rfl,AG rfl,Ca hg.f1,JF,DN];rfl
 |false=>
  rw[AB DA,AB DA,Ca hg.f1,JF,DN]
theorem AA0(SM:#[] 26 "season_mean" Cg (Wl K cs.S))(D:Def K mg "mean" WH Ae):#[] 27 "mean" Ae (vQ K cs 0 λ_=> .mean):=by
 exists AAI
 ·obtain⟨p,kl,c,h,as,rfl,hl,_⟩:=h;rw[CD,BP,hl];rfl
 obtain⟨p,kl,c,h,as,rfl,hl,hC,hg,hgn,q⟩:=h;obtain rfl:=DK.mp hl;refine⟨_,AK (AO (AV B.R.told hr #[Am #[AV SM hr #[AY (pv 0) rfl]]])),?_⟩;obtain⟨dx,hp⟩:=hC.ob;have TW:=B.Z.tW;refine⟨_,AA,p,cs.W,dx,_,_,AA,hp,TW.cl,TW.nS,AA,c.s,c.sd,_,_,_,AA,hC.ho.DT,hg,Cm hgn (()),λv H1 s1 q1=> ?_⟩;refine⟨(by show 1<=sizeLine;decide),λl hl=> ?_⟩;have s2:=AX hl (.lst [v]);refine⟨l,[v],[_],AA,A_.of AJ,.cons (q1.same s2) .nil,(by show 1<=1000;decide),λl2 H3 s3 n3 h3=> ?_⟩;refine q l2 H3 (s1.trans (s2.trans s3)) ?_;rw[h3];have e:FT h .mean=0::nums [mR h.season h.gain h.over]:=by
  show(Nj (Lp h)).num::(Nj (Lp h)).nums=_;rw[qk hg];rfl
 rw[e]
theorem AA1(D:Def K mg "gain" WK Ae):#[] 27 "gain" Ae (vQ K cs 0 λ_=> .gain):=by
 refine D.has (k:=26) AAJ (λvs H Q E h=> ?_) (λf CL A outer st H vs Q E hr h=> ?_)
 ·obtain⟨p,kl,c,h,as,rfl,hl,_⟩:=h;rw[CD,BP,hl];rfl
 obtain⟨p,kl,c,h,as,rfl,hl,hC,hg,hgn,q⟩:=h;obtain rfl:=DK.mp hl;refine⟨_,AK (AO (Am #[AY (AY (pv 0) rfl) rfl,AY (AY (pv 0) rfl) rfl])),?_⟩;obtain⟨dx,hp⟩:=hC.ob;have TW:=B.Z.tW;have TS:=B.Z.tS;obtain⟨ds,hs⟩:=hC.ho.DT.ob;refine⟨_,AA,p,cs.W,dx,_,_,AA,hp,TW.cl,TW.nS,AA,c.s,cs.S,ds,_,_,AA,hs,TS.cl,TS.nC,AA,_,AA,p,cs.W,dx,_,_,AA,hp,TW.cl,TW.nS,AA,c.s,cs.S,ds,_,_,AA,hs,TS.cl,TS.nH,AA,(by show 2<=sizeLine;decide),λl hl=> ?_⟩;refine q l _ (AX hl _) ?_;rw[AJ];rfl
end
end
section
variable{cs:Cs}{CO:Addr}
def TZ(over:Bool)(m k l d:Nat):Int:=if over then -6 else if 1<l\/1<d then -22 else if m<l\/k<d then -33 else 0
inductive Wm:Sp
 |mk (o:Bool) (m k l d:Nat):vs= [.bl o,nV m,nV k,nV l,nV d]->Q (.int (TZ o m k l d)) H->Wm vs H Q DJ
section
variable(B:gI P w K mg base cs CO)
include B
theorem AA2(D:Def K mg "refused_play" Eu RV):#[] 1 "refused_play" RV Wm:=by
 exists Rf
 ·obtain⟨o,m,k,l,d,rfl,_⟩:=h;rfl
 obtain⟨o,m,k,l,d,rfl,q⟩:=h;refine⟨_,AF (Aj (Ar (pv 0) (λ_=>rfl)) (AK (AO (BD B.n6))) Aa)
  (AF (Aj (Ep (Af CK (pv 3) AU (Ai _)) (FP (Af CK (pv 4) AU (Ai _)))).pt (AK (AO (BD B.NH))) Aa)
  (AF (Aj (Ep (Af CK (pv 3) (pv 1) (Ai _)) (FP (Af CK (pv 4) (pv 2) (Ai _)))).pt (AK (AO (BD B.vL))) Aa)
  (AK (AO AU)))),?_⟩
 unfold TZ at q;refine⟨_,AA,_,AA,?_⟩;cases o with
 |true=>
  rw[AG rfl] at q;refine Au ?_;exact q
 |false=>
 rw[AB DA] at q;refine A' ?_;refine⟨_,AA,_,_,AA,AA,_,AA,?_⟩;by_cases h1:1<l
 ·rw[AG (BJ h1)] at q;rw[AH (show(1:Int)< (l:Int) by omega)];refine Au ?_;refine Au ?_;exact q
 rw[AL (show¬(1:Int)< (l:Int) by omega)];refine A' ?_;refine⟨_,AA,_,_,AA,AA,_,AA,?_⟩;by_cases h2:1<d
 ·rw[AG (Eo h2)] at q;rw[AH (show(1:Int)< (d:Int) by omega)];refine Au ?_;exact q
 rw[AB ()] at q;rw[AL (show¬(1:Int)< (d:Int) by omega)];refine A' ?_;refine⟨_,AA,_,AA,_,_,AA,AA,_,AA,?_⟩;by_cases h3:m<l
 ·rw[AG (BJ h3)] at q;rw[AH (show(m:Int)< (l:Int) by omega)];refine Au ?_;refine Au ?_;exact q
 rw[AL (show¬(m:Int)< (l:Int) by omega)];refine A' ?_;refine⟨_,AA,_,AA,_,_,AA,AA,_,AA,?_⟩;by_cases h4:k<d
 ·rw[AG (Eo h4)] at q;rw[AH (show(k:Int)< (d:Int) by omega)];refine Au ?_;exact q
 rw[AB ()] at q;rw[AL (show¬(k:Int)< (d:Int) by omega)];refine A' ?_;exact q
def Dx(e:Em)(c:Lx):List Int:=(Iy (some e) c).2.num::(Iy (some e) c).2.nums
inductive vR(K:Ab)(cs:Cs)(n:Nat)(pc:List Nat->Lx):Sp
 |mk (p kl:Addr) (c:Ad) (h:Aw) (as:List Nat):vs= .ref p::as.map nV->as.length=n->Av K cs H p kl c h->(∀l H',Ag H H'->H' l=some (.lst ((Dx h.even (pc as)).map V.int))->Q (.ref l) H')->vR K cs n pc vs H Q DJ
theorem AA3(D:Def K mg "left" V8 Ae):#[] 27 "left" Ae (vR K cs 0 λ_=> .left):=by
 refine D.has (k:=26) pX (λvs H Q E h=> ?_) (λf CL A outer st H vs Q E hr h=> ?_)
 ·obtain⟨p,kl,c,h,as,rfl,hl,_⟩:=h;rw[CD,BP,hl];rfl
 obtain⟨p,kl,c,h,as,rfl,hl,hC,q⟩:=h;obtain rfl:=DK.mp hl;have nd:=pX.nd;refine⟨_,AF (1>>AY (pv 0) rfl) (AK (AO (Am #[AY (pv 1) rfl,AY (pv 1) rfl,AY (pv 1) rfl,AY (pv 1) rfl]))),?_⟩;obtain⟨dx,hp⟩:=hC.ob;have TW:=B.Z.tW;have TA:=B.Z.tA;obtain⟨da,ha⟩:=hC.ho.OV.ob;refine⟨_,AA,p,cs.W,dx,_,_,AA,hp,TW.cl,TW.nA,AA,?_⟩;refine⟨_,AA,c.a,cs.A,da,_,_,AA,ha,TA.cl,TA.nD,AA,_,AA,c.a,cs.A,da,_,_,AA,ha,TA.cl,TA.nL,AA,_,AA,c.a,cs.A,da,_,_,AA,ha,TA.cl,TA.nM,AA,_,AA,c.a,cs.A,da,_,_,AA,ha,TA.cl,TA.nF,AA,(by show 4<=sizeLine;decide),λl hl=> ?_⟩;refine q l _ (AX hl _) ?_;rw[AJ];rfl
theorem cH(D:Def K mg "evengain" JR Ae):#[] 27 "evengain" Ae (vR K cs 0 λ_=> .gain):=by
 refine D.has (k:=26) bS (λvs H Q E h=> ?_) (λf CL A outer st H vs Q E hr h=> ?_)
 ·obtain⟨p,kl,c,h,as,rfl,hl,_⟩:=h;rw[CD,BP,hl];rfl
 obtain⟨p,kl,c,h,as,rfl,hl,hC,q⟩:=h;obtain rfl:=DK.mp hl;refine⟨_,AK (AO (Am #[AY (AY (pv 0) rfl) rfl,AY (AY (pv 0) rfl) rfl])),?_⟩;obtain⟨dx,hp⟩:=hC.ob;have TW:=B.Z.tW;have TA:=B.Z.tA;obtain⟨da,ha⟩:=hC.ho.OV.ob;refine⟨_,AA,p,cs.W,dx,_,_,AA,hp,TW.cl,TW.nA,AA,c.a,cs.A,da,_,_,AA,ha,TA.cl,TA.nC,AA,_,AA,p,cs.W,dx,_,_,AA,hp,TW.cl,TW.nA,AA,c.a,cs.A,da,_,_,AA,ha,TA.cl,TA.nG,AA,(by show 2<=sizeLine;decide),λl hl=> ?_⟩;refine q l _ (AX hl _) ?_;rw[AJ];show _=some (HO.lst ((Dx h.even .gain).map V.int));have e:Dx h.even .gain= [(if h.even.over then 1 else 0),h.even.gain]:=rfl;rw[e];rfl
end
end
section
theorem gJ(s t:Nat):(s:Int) / 2^((t:Int).toNat)=((s / 2^t:Nat):Int):=by
 rw[EJ,k8];congr 1
inductive SJ:Sp
 |mk (s t:Nat):vs= [nV s,nV t]->Q (.bl (F7 s t)) H->SJ vs H Q DJ
theorem ADl(D:Def K mg "has_day" K8 PM):#[] 1 "has_day" PM SJ:=by
 exists iX
 ·obtain⟨s,t,rfl,_⟩:=h;rfl
 obtain⟨s,t,rfl,q⟩:=h;refine⟨_,AK (AO (Ma B_ (Ay ni (Ay ao (pv 0) (pv 1)) AU) AU (Ai _))),?_⟩;refine⟨_,AA,_,AA,_,_,AA,AA,(by show(0:Int)<=t;omega),_,_,AA,AA,AA,?_⟩;show Q (V.bl (decide (V.int (VU ((s:Int) / 2^((t:Int).toNat)) 1)=V.int 1))) H;rw[gJ,bitAnd_m1];have e:decide (V.int (((s / 2^t:Nat):Int)%2)=V.int 1)=F7 s t:=by
  unfold F7;rw[Jj];simp only[decide_eq_true_eq,V.int.injEq,beq_iff_eq];omega
 rw[e];exact q
inductive SK:Sp
 |mk (s t:Nat):vs= [nV s,nV t]->Q (.bl (decide (2^t<=s))) H->SK vs H Q DJ
theorem ql(D:Def K mg "is_beyond" Hc UL):#[] 1 "is_beyond" UL SK:=by
 exists YH
 ·obtain⟨s,t,rfl,_⟩:=h;rfl
 obtain⟨s,t,rfl,q⟩:=h;refine⟨_,AK (AO (Ma wo (Ay ao (pv 0) (pv 1)) AU (Ai _))),?_⟩;refine⟨_,AA,_,AA,_,_,AA,AA,(by show(0:Int)<=t;omega),AA,?_⟩;show Q (V.bl (!decide (V.int ((s:Int) / 2^((t:Int).toNat))=V.int 0))) H;rw[gJ];have e:(!decide (V.int ((s / 2^t:Nat):Int)=V.int 0))=decide (2^t<=s):=by
  rw[Jj];simp only[Lq,decide_eq_false_iff_not,decide_eq_true_eq,V.int.injEq];have:=Nat.div_eq_zero_iff (a:=s) (b:=2^t);have:=Zp t;omega
 rw[e];exact q
theorem i_:∀s<16,0<s->A7 4 s=s%2+A7 4 (s / 2):=by decide+kernel
theorem OZ:∀n<5,∀s<2^n,A7 n s=A7 4 s:=by decide+kernel
inductive Kn:Sp
 |mk (s:Nat):vs= [nV s]->s<16->Q (nV (A7 4 s)) H->Kn vs H Q DJ
theorem AA4(D:Def K mg "size" V6 UM):#[] 1 "size" UM Kn:=by
 exists pV
 ·obtain⟨s,rfl,_⟩:=h;rfl
 obtain⟨s0,rfl,hs,q⟩:=h;have nd:=pV.nd;refine⟨_,AF (1>>AU) (AF (MX HS (Af CK (pv 0) AU (Ai _))
  (AF (af (i:=1) nd rfl (BJ rfl) (Ay ni (pv 0) AU) nJ) (AK (0>>Ay ao (pv 0) AU))))
  (AK (AO (pv 1)))),?_⟩
 refine MZ (λσ H'=>∃s c:Nat,σ= [some (nV s),some (nV c)]/\H'=H/\s<16/\c+A7 4 s=A7 4 s0)
  (λσ _=>match σ with| [some (.int y),_]=>y.toNat|_=>0) ⟨s0,0,rfl,rfl,hs,KD _⟩ ?_ ?_
 ·rintro σ H' ⟨s,c,rfl,rfl,h16,e⟩;refine⟨_,AA,_,_,AA,AA,_,AA,?_⟩;by_cases h0:0<s
  ·rw[AH (show(0:Int)< (s:Int) by omega)];refine Au ?_;have es:=i_ s h16 h0;refine⟨_,AA,_,AA,_,_,AA,AA,_,_,AA,AA,_,AA,_,_,AA,AA,(by show(0:Int)<=1;decide),⟨s / 2,c+s%2,?_,AA,(),()⟩,?_⟩
   ·have e1:VU (s:Int) 1=((s%2:Nat):Int):=by rw[bitAnd_m1];omega
    have e2:(s:Int) / 2^(1:Int).toNat=((s / 2:Nat):Int):=by rw[show(1:Int).toNat=1 from rfl];omega
    show [some (V.int ((s:Int) / 2^(1:Int).toNat)),some (V.int ((c:Int)+VU (s:Int) 1))]=_;rw[e1,e2];unfold nV;congr 3
   ·show((s:Int) / 2^(1:Int).toNat).toNat< (s:Int).toNat;rw[show(1:Int).toNat=1 from rfl];omega
  ·rw[AL (show¬(0:Int)< (s:Int) by omega)];refine A' ?_;obtain rfl:s=0:=by omega
   refine⟨_,AA,?_⟩;have e0:A7 4 0=0:=by decide
   rw[e0,Zw] at e;rw[←e] at q;exact q
 ·intro σ H Q Q' h q;obtain⟨v,hv,i,j,h1,h2,c,hc,q⟩:=q;exact⟨v,hv,i,j,h1,h2,c,hc,h _ _ q⟩
theorem AA5{X:Cx}:PIp X .Mult (rI gz λi j=> .int (i*j)):=λpins s σ H x y v u Q I rx ry q=>AEk tm I rx ry q
inductive Yn:Sp
 |mk (b n:Nat):vs= [nV b,nV n]->b<=9->n<=9->Q (nV (b^n)) H->Yn vs H Q DJ
theorem ADm(mr:mg "range"=none)(D:Def K mg "multiplied" GS UN):#[] 1 "multiplied" UN Yn:=by
 exists Ms
 ·obtain⟨b,n,rfl,_⟩:=h;rfl
 obtain⟨b,n,rfl,hb,hn,q⟩:=h;have nd:=Ms.nd;refine⟨_,AF (2>>AU) (AF (H_ HS rfl (Kv rfl mr #[pv 1]) (BK (i:=3) nd rfl (BJ rfl))
  (AK (af (i:=2) nd rfl (BJ rfl) (pv 0) AA5))) (AK (AO (pv 2)))),?_⟩
 refine⟨_,AA,(n:Int),AA,(),(),?_⟩;rw[EJ];refine Kw (n:=n) (λi σ H'=>∃v:Option V,σ= [some (nV b),some (nV n),some (nV (b^i)),v]/\H'=H) ⟨none,rfl,rfl⟩ ?_ ?_
 ·rintro i σ H' hi ⟨v,rfl,rfl⟩;refine⟨_,AA,_,AA,_,_,AA,AA,.inr ⟨by show _< (b:Int);omega,by show(b:Int)<_;omega⟩,some (.int (0+(i:Int))),?_,AA⟩;show [some (nV b),some (nV n),some (V.int (((b^i:Nat):Int)*(b:Int))),some (.int (0+(i:Int)))]=_;rw[←Qm,←Gr];rfl
 ·rintro σ H' ⟨v,rfl,rfl⟩;exact⟨_,AA,q⟩
end
section
theorem Bi.Pr{H:Hp}{D a:Addr}{acc bw xs:List V}(h:Bi K H a xs)(hD:H D=some (.lst acc)):Bi K (upd H D (.lst bw)) a xs:=by
 rcases h with h|h
 ·refine .inl ?_;rcases h with h|⟨o,h⟩
  ·exact .inl (by rw[AS (Ao h hD (by intro z;cases z))];exact h)
  ·exact .inr ⟨o,by rw[AS (Ao h hD (by intro z;cases z))];exact h⟩
 ·exact .inr h
theorem A3.Pr{H:Hp}{D:Addr}{acc bw vs:List V}{ps:List Al}(h:A3 K H vs ps)(hD:H D=some (.lst acc)):A3 K (upd H D (.lst bw)) vs ps:=
 Paired.Jy h λv p ⟨a,e,q⟩=>⟨a,e,Bi.Pr q hD⟩
theorem A3.get{H:Hp}:∀{vs:List V} {ps:List Al} {i:Nat} {v:V},A3 K H vs ps->vs[i]? =some v->∃p a,ps[i]? =some p/\v= .ref a/\Bi K H a [nV p.set,nV p.weight]
 |_,_,_,_,.nil,e=>by simp at e
 |_,_,0,_,.cons r _,e=>by simp at e;subst e;obtain⟨a,h1,h2⟩:=r;exact⟨_,a,AA,h1,h2⟩
 |_,_,i+1,v,.cons _ t,e=>by
  obtain⟨p,a,h1,h2⟩:=A3.get (i:=i) (v:=v) t (by simpa using e);exact⟨p,a,by simpa using h1,h2⟩
theorem A3.len{H:Hp}{vs:List V}{ps:List Al}(h:A3 K H vs ps):vs.length=ps.length:=Paired.length h
theorem A3.snoc{H:Hp}{vs:List V}{ps:List Al}{p:Al}{a:Addr}(h:A3 K H vs ps)(q:Bi K H a [nV p.set,nV p.weight]):A3 K H (vs++ [.ref a]) (ps++ [p]):=Eh ⟨a,rfl,q⟩ h
structure ZL(K:Ab)(H:Hp)(l:Addr)(ps:List Al):Prop where
 ex:∃vs,A_ K H l vs/\A3 K H vs ps
theorem ZL.same{H H':Hp}{l:Addr}{ps:List Al}(h:ZL K H l ps)(s:Ag H H'):ZL K H' l ps:=let⟨vs,h1,h2⟩:=h.ex;⟨vs,s.seq h1,h2.same s⟩
theorem TabAt.tL{C:Addr}{H:Hp}{t tp:Addr}{x:DF}(h:TabAt K C H t tp x):ZL K H tp x.plans:=let⟨vs,h1,h2⟩:=h.ps;⟨vs,A_.of h1,h2⟩
theorem Ko{n:Nat}(h:n<=1000):n<sizeLine:=DU h (())
theorem Pt{α:Type}{f:α->Bool}{l:List α}{i:Nat}{x:α}(h:l[i]? =some x)(hf:f x=true):(l.take (i+1)).filter f=(l.take i).filter f++ [x]:=by
 rw[EZ h,Nc,NY hf,Ng]
theorem Pu{α:Type}{f:α->Bool}{l:List α}{i:Nat}{x:α}(h:l[i]? =some x)(hf:¬f x=true):(l.take (i+1)).filter f=(l.take i).filter f:=by
 rw[EZ h,Nc,NZ hf,Ng,Nh]
theorem Ik{tt:TT}{j:Nat}{σ:L2.St}{H1:Hp}{D a:Addr}{vs:List V}{ps:List Al}{Qd:Hp->Prop}(f:Al->Bool)(hσ:j<σ.length)(hl:A_ K H1 a vs)(hp:A3 K H1 vs ps)(hD:H1 D=none)(hn:ps.length<=1000)
  (ht:∀(p:Al) (b:Addr) (H:Hp) (Q:Bool->Hp->Prop),Bi K H b [nV p.set,nV p.weight]->Q (f p) H->tt ((wipe σ [j]).set j (some (.ref b))) H Q)
  (q:∀H' xs,Ag H1 H'->H' D=some (.lst xs)->A3 K H' xs (ps.filter f)->Qd H'):
  ∃W:Nat->Nat->Hp->Prop,(∃m,W 0 m (upd H1 D (.lst [])))/\∀i m H,W i m H->
   ((XX K a).stop i H/\Qd H)\/((XX K a).go i H/\∃Nx:Hp->Prop,(∀H',Nx H'->∃m',m'<m/\W (i+1) m' H')/\∀x H',(XX K a).ah i H x H'->Ow j x (wipe σ [j]) H' λσ2 H2=>wipe σ2 [j]=wipe σ [j]/\tt σ2 H2 λb H3=>
    if b=true then Cc j σ2 H3 λy H4=>∃acc,H4 D=some (.lst acc)/\acc.length<sizeLine/\Nx (upd H4 D (.lst (acc++ [y]))) else Nx H3):=by
 have hlen:=hp.len;refine Vo (K:=K) (a:=a) (xs:=vs) (λi H'=>Ag H1 H'/\∃acc,H' D=some (.lst acc)/\A3 K H' acc ((ps.take i).filter f))
  ⟨AX hD _,[],AJ,.nil⟩ (λi H' _ ⟨s,_⟩=>s.seq hl) ?_ ?_
 ·rintro i x H' hi ⟨s,acc,F',Dn⟩;obtain⟨p,b,qm,rfl,hb⟩:=hp.get hi;have hil:i<ps.length:=(Jg.mp qm).1;refine⟨?_,ht p b H' _ (Bi.same hb s) ?_⟩
  ·show((σ.set j none).set j (some (V.ref b))).set j none=σ.set j none;rw[Ni,Ni]
  cases hf:f p with
  |true=>
   refine Au ?_;refine⟨.ref b,?_,acc,F',?_,?_,_,AJ,?_⟩
   ·show((σ.set j none).set j (some (V.ref b)))[j]? =_;rw[QV (by rw[Lk];exact hσ)]
   ·rw[Dn.len];exact Ko (A6 (QU _ _) (by rw[LR];omega))
   ·intro c u e;rw[AS (AQ e hD)];exact s c u e
   ·rw[Pt qm hf];exact(Dn.Pr F').snoc (Bi.Pr (Bi.same hb s) F')
  |false=>
   refine A' ?_;refine⟨s,acc,F',?_⟩;rw[Pu qm (by rw[hf];exact DA)];exact Dn
 ·rintro H' ⟨s,acc,F',Dn⟩;rw[hlen,KA] at Dn;exact q H' acc s F' Dn
inductive SN(K:Ab)(g:List Al->Nat->List Al):Sp
 |mk (l:Addr) (t:Nat) (ps:List Al):vs= [.ref l,nV t]->ZL K H l ps->ps.length<=1000->(∀l' H',Ag H H'->ZL K H' l' (g ps t)->Q (.ref l') H')->SN K g vs H Q DJ
theorem i'(HD:#[] 1 "has_day" PM SJ)(D:Def K mg "looking_on" GU LX):#[] 2 "looking_on" LX (SN K Z4):=by
 exists Mt
 ·obtain⟨l,t,ps,rfl,_⟩:=h;rfl
 obtain⟨l,t,ps,rfl,⟨vs,hl,hp⟩,hn,q⟩:=h;have nd:=Mt.nd;refine⟨_,AK (AO (Kd (tt:=KW (Jn SJ [] E0 (Cq (Pj (Q9 K) (Cc 2) (tC (.int 0))) (Cq (Cc 1) IM)))) rfl nd (EM (pv 0)) (DX (own:= [("each",2)]) (by rfl)) (λ_ _ _ _ _=>BK (i:=2) nd rfl (BJ rfl)) (λ_ _ _ _ _=>JD (CU (AV HD hr #[BM BV (pv 2) AU (λ_ _=>rfl),pv 1]))) (λ_ _ _ _ _=>pv 2))),?_⟩;refine⟨_,AA,l,AA,⟨_,hl⟩,λD1 SE=>Ik (λp=>F7 p.set t) (by show 2<3;decide) hl hp SE hn (λp b H' Q' hb q'=> ?_) λH' xs s hD hx=> ?_⟩
 ·refine⟨_,AA,_,_,_,_,AA,AA,hb,AA,_,AA,p.set,t,AA,_,AA,q'⟩
 ·exact q D1 H' s ⟨xs,A_.of hD,hx⟩
theorem Wn(HD:#[] 1 "has_day" PM SJ)(D:Def K mg "not_looking_on" D8 LX):#[] 2 "not_looking_on" LX (SN K ki):=by
 exists Ib
 ·obtain⟨l,t,ps,rfl,_⟩:=h;rfl
 obtain⟨l,t,ps,rfl,⟨vs,hl,hp⟩,hn,q⟩:=h;have nd:=Ib.nd;refine⟨_,AK (AO (Kd (tt:=ACR (KW (Jn SJ [] E0 (Cq (Pj (Q9 K) (Cc 2) (tC (.int 0))) (Cq (Cc 1) IM))))) rfl nd (EM (pv 0)) (DX (own:= [("each",2)]) (by rfl)) (λ_ _ _ _ _=>BK (i:=2) nd rfl (BJ rfl)) (λ_ _ _ _ _=>JD (BN (CU (AV HD hr #[BM BV (pv 2) AU (λ_ _=>rfl),pv 1])))) (λ_ _ _ _ _=>pv 2))),?_⟩;refine⟨_,AA,l,AA,⟨_,hl⟩,λD1 SE=>Ik (λp=> !F7 p.set t) (by show 2<3;decide) hl hp SE hn (λp b H' Q' hb q'=> ?_) λH' xs s hD hx=> ?_⟩
 ·refine⟨_,AA,_,_,_,_,AA,AA,hb,AA,_,AA,p.set,t,AA,_,AA,q'⟩
 ·exact q D1 H' s ⟨xs,A_.of hD,hx⟩
theorem Ea(p:Al)(l:List Al):Ir (p::l)=p.weight+Ir l:=by
 unfold Ir;rw[LS];have:∀(l:List Al) (a:Nat),l.foldl (λ(a:Nat) (p:Al)=>a+p.weight) a=a+l.foldl (λ(a:Nat) (p:Al)=>a+p.weight) 0:=by
  intro l;induction l with
  |nil=>intro a;rfl
  |cons x l ih=>intro a;rw[LS,LS,ih,ih (0+x.weight)];omega
 rw[this];omega
theorem Uh:∀l:List Al,(l.map λp=>(p.weight:Int)).sum=((Ir l:Nat):Int)
 | []=>rfl
 |p::l=>by rw[B7,kQ,Uh l,Ea];push_cast;rfl
theorem Wo{te:TE}{j:Nat}{σ:L2.St}{H1:Hp}{D a:Addr}{vs:List V}{ps:List Al}{Qd:Hp->Prop}(f:Al->Int)(hl:A_ K H1 a vs)(hp:A3 K H1 vs ps)(hD:H1 D=none)(hn:ps.length<=1000)
  (ht:∀(p:Al) (b:Addr) (H:Hp) (Q:VK),p∈ps->Bi K H b [nV p.set,nV p.weight]->Q (.int (f p)) H->te ((wipe σ [j]).set j (some (.ref b))) H Q)
  (q:∀H',Ag H1 H'->H' D=some (.lst ((ps.map f).map V.int))->Qd H'):
  ∃W:Nat->Nat->Hp->Prop,(∃m,W 0 m (upd H1 D (.lst [])))/\∀i m H,W i m H->
   ((XX K a).stop i H/\Qd H)\/((XX K a).go i H/\∃Nx:Hp->Prop,(∀H',Nx H'->∃m',m'<m/\W (i+1) m' H')/\∀x H',(XX K a).ah i H x H'->Ow j x (wipe σ [j]) H' λσ2 H2=>wipe σ2 [j]=wipe σ [j]/\zq σ2 H2 λb H3=>
    if b=true then te σ2 H3 λy H4=>∃acc,H4 D=some (.lst acc)/\acc.length<sizeLine/\Nx (upd H4 D (.lst (acc++ [y]))) else Nx H3):=by
 have hlen:=hp.len;refine Vo (K:=K) (a:=a) (xs:=vs) (λi H'=>Ag H1 H'/\H' D=some (.lst (((ps.take i).map f).map V.int)))
  ⟨AX hD _,AJ⟩ (λi H' _ ⟨s,_⟩=>s.seq hl) ?_ ?_
 ·rintro i x H' hi ⟨s,F'⟩;obtain⟨p,b,qm,rfl,hb⟩:=hp.get hi;have hil:i<ps.length:=(Jg.mp qm).1;refine⟨?_,ht p b H' _ (II qm) (Bi.same hb s) ⟨_,F',?_,?_,?_⟩⟩
  ·show((σ.set j none).set j (some (V.ref b))).set j none=σ.set j none;rw[Ni,Ni]
  ·rw[BP,BP,LR];exact Ko ()
  ·intro c u e;rw[AS (AQ e hD)];exact s c u e
  ·rw[AJ,EZ qm,GB,GB];rfl
 ·rintro H' ⟨s,F'⟩;rw[hlen,KA] at F';exact q H' s F'
inductive QN(K:Ab):Sp
 |mk (l:Addr) (ps:List Al):vs= [.ref l]->ZL K H l ps->ps.length<=1000->(∀H',Ag H H'->Q (nV (Ir ps)) H')->QN K vs H Q DJ
theorem vS(ms:mg "sum"=none)(D:Def K mg "all_weights" FX UO):#[] 2 "all_weights" UO (QN K):=by
 refine D.has (k:=1) Ld (λvs H Q E h=> ?_) (λf CL A outer st H vs Q E hr h=> ?_)
 ·obtain⟨l,ps,rfl,_⟩:=h;rfl
 obtain⟨l,ps,rfl,⟨vs,hl,hp⟩,hn,q⟩:=h;have nd:=Ld.nd;refine⟨_,AK (AO (Ax (oS rfl) (by rfl) ms mK #[Kd (te:=Pj (Q9 K) (Cc 1) (tC (.int 1))) rfl nd (EM (pv 0)) (DX (own:= [("each",1)]) (by rfl)) (λ_ _ _ _ _=>BK (i:=1) nd rfl (BJ rfl)) (λ_ _ _ _ _=>Mf) (λ_ _ _ _ _=>BM BV (pv 1) AU (λ_ _=>rfl))])),?_⟩;refine⟨_,AA,l,AA,⟨_,hl⟩,λD1 SE=>Wo (λp=>(p.weight:Int)) hl hp SE hn (λp b H' Q' _ hb q'=> ?_) λH' s hD=> ?_⟩
 ·exact⟨_,AA,_,_,_,_,AA,AA,hb,AA,q'⟩
 ·refine⟨D1,_,AA,A_.of hD,?_⟩;rw[Uh];exact q H' s
inductive Wq(K:Ab):Sp
 |mk (l l':Addr) (ps xj:List Al):vs= [.ref l,.ref l']->ZL K H l ps->ZL K H l' xj->ps.length<=1000->xj.length<=1000->0<Ir xj->Ir xj<2^9000->(∀v H',Ag H H'->A8 K H' v (((Ir ps:Nat):Rat) / ((Ir xj:Nat):Rat))->Q v H')->Wq K vs H Q DJ
theorem vU(R:#[] 2 "ratio" RU (Gf K))(TT:#[] 2 "all_weights" UO (QN K))(D:Def K mg "share" QD UP):#[] 3 "share" UP (Wq K):=by
 exists ug
 ·obtain⟨l,l',ps,xj,rfl,_⟩:=h;rfl
 obtain⟨l,l',ps,xj,rfl,hl,ZG,hn,hn',h0,h9,q⟩:=h;refine⟨_,AK (AO (AV R hr #[AV TT hr #[pv 0],AV TT hr #[pv 1]])),?_⟩;refine⟨_,AA,l,ps,AA,hl,hn,λH1 s1=>⟨_,AA,l',xj,AA,ZG.same s1,hn',λH2 s2=> ?_⟩⟩;exact⟨_,_,AA,h0,h9,λv H3 s3 q3=>q v H3 (s1.trans (s2.trans s3)) q3⟩
theorem Wr(n:Nat):(1:Int)*2^((n:Int).toNat)=((2^n:Nat):Int):=by
 rw[EJ,Int.one_mul];exact(Int.natCast_pow 2 n).symm
def plB(m b:Nat)(s:Nat):Al:=⟨s,b^(m - A7 4 s)⟩
theorem gK{n:Nat}(hn:n<=4)(m b:Nat):Ej n m b=((Cv (2^n)).filter λs=>decide (A7 4 s<=m)).map (plB m b):=by
 have hf:∀s∈Cv (2^n),A7 n s=A7 4 s:=λs hs=>OZ n () s (Gn.mp hs);unfold Ej;rw[kM (q:=λs=>decide (A7 4 s<=m)) (λs hs=>by rw[hf s hs])];refine QY λs hs=> ?_;rw[hf s (Lj.mp hs).1];rfl
theorem ACK{N i:Nat}(h:i<N):(Cv N)[i]? =some i:=by rw[List.getElem?_range h]
inductive cI(K:Ab):Sp
 |mk (n m b:Nat):vs= [nV n,nV m,nV b]->n<=4->m<=5->b<=9->(∀l xs H',Ag H H'->H l=none->H' l=some (.lst xs)->A3 K H' xs (Ej n m b)->Q (.ref l) H')->cI K vs H Q DJ
theorem AA6(mr:mg "range"=none)(SZ:#[] 1 "size" UM Kn)(MU:#[] 1 "multiplied" UN Yn)(D:Def K mg "best_plan" Hd Js):#[] 2 "best_plan" Js (cI K):=by
 exists PX
 ·obtain⟨n,m,b,rfl,_⟩:=h;rfl
 obtain⟨n,m,b,rfl,hn,hm,hb,q⟩:=h;have nd:=PX.nd;have h16:2^n<=16:=A6 (DM (()) hn) (());have hI1:(0:Int)<=((2^n:Nat):Int):=k6 _;have hI2:((2^n:Nat):Int)<=16:=Z_.mpr h16;refine⟨_,AK (AO (Kd (tt:=KW (Pj (gy λi j=> .bl (decide (i<=j))) (Jn Kn [] E0 (Cq (Cc 3) IM)) (Cc 1)))
  (te:=t5 (Cq (Cc 3) (Cq (Jn Yn [] E0 (Cq (Cc 2) (Cq (Pj (gy λi j=> .int (i - j)) (Cc 1) (Jn Kn [] E0 (Cq (Cc 3) IM))) IM))) IM)))
  rfl nd (Kv rfl mr #[Ay nh AU (pv 0)]) (DX (own:= [("chosen",3)]) (by rfl)) (λ_ _ _ _ _=>BK (i:=3) nd rfl (BJ rfl))
  (λ_ _ _ _ _=>JD (Af Q4 (AV SZ hr #[pv 3]) (pv 1) (Ai _))) (λ_ _ _ _ _=>Dd #[pv 3,AV MU hr #[pv 2,Ay Er (pv 1) (AV SZ hr #[pv 3])]]))),?_⟩
 refine⟨_,AA,_,_,AA,AA,⟨by show(0:Int)<=n;omega,by show(n:Int)<=1000000;omega,(())⟩,((2^n:Nat):Int),?_,(),(),λD1 SE=> ?_⟩
 ·show [V.int ((1:Int)*2^((n:Int).toNat))]=_;rw[Wr]
 rw[EJ];refine oW (n:=2^n) (λi H'=>Ag H H'/\∃acc,H' D1=some (.lst acc)/\acc.length<=i/\A3 K H' acc (((Cv i).filter λs=>decide (A7 4 s<=m)).map (plB m b)))
  ⟨AX SE _,[],AJ,As _,.nil⟩ ?_ ?_
 ·rintro i H' hi ⟨s,acc,F',hal,Dn⟩;have ei:(0:Int)+(i:Int)=((i:Nat):Int):=by omega
  rw[ei];refine⟨AA,_,AA,i,AA,(),_,AA,_,_,AA,AA,_,AA,?_⟩;by_cases hz:A7 4 i<=m
  ·rw[AH (show((A7 4 i:Nat):Int)<=(m:Int) by omega)];refine Au ?_;refine⟨_,AA,_,AA,_,AA,_,AA,i,AA,(),_,_,AA,AA,b,m - A7 4 i,?_,hb,(),(by show 2<=sizeLine;decide),λp hp=> ?_⟩
   ·show [nV b,V.int ((m:Int) - ((A7 4 i:Nat):Int))]=_;unfold nV;congr 3;omega
   have s2:=AX hp (.tup [nV i,nV (b^(m - A7 4 i))]);have qo:=s2 _ _ F';refine⟨acc,qo,Ko (),?_,_,AJ,?_,?_⟩
   ·intro c u e;rw[AS (AQ e SE)];exact s2 _ _ (s c u e)
   ·rw[CH];show acc.length+1<=i+1;omega
   ·rw[Zb,Nc,NY (by simpa using hz),Ng,GB];exact((Dn.same s2).Pr qo).snoc (p:=plB m b i) (Bi.Pr (Bi.of AJ) qo)
  ·rw[AL (show¬((A7 4 i:Nat):Int)<=(m:Int) by omega)];refine A' ?_;refine⟨s,acc,F',(),?_⟩;rw[Zb,Nc,NZ (by simpa using hz),Ng,Nh];exact Dn
 ·rintro H' ⟨s,acc,F',_,Dn⟩;rw[←gK hn] at Dn;exact q D1 acc H' s SE F' Dn
end
section
inductive So(K:Ab)(H:Hp)(x:V)(f:Str)(v:V):Prop
 |mk (p C dx fs:_):x= .ref p->H p=some (.ins C dx fs)->XM K C->BC K C f->fs.lookup f=some v->So K H x f v
inductive Of(C:Addr)(H:Hp)(p:Addr)(m:Str):Prop
 |mk (dx fs:_):H p=some (.ins C dx fs)->fs.lookup m=none->Of C H p m
section
variable{X:Cx}{k j:Nat}{m f:Str}{ps:List Str}{sp:Sp}{o e:Expr}{es:List Expr}{ta:TE}{t:TA}{pos apos:Pos}{C:Addr}
inductive ADn(K:Ab)(f:Str)(Q:VK)(x:V)(H1:Hp):Prop
 |mk (v:_) (x0:So K H1 x f v) (x1:Q v H1):ADn K f Q x H1
def tFl(K:Ab)(ta:TE)(f:Str):TE:=λσ H Q=>ta σ H (ADn K f Q)
theorem TE.mono{X:Cx}{e:Expr}{t t':TE}(h:PE X e t)(i:∀σ H Q,t' σ H Q->t σ H Q):PE X e t':=λpins s σ H Q I q=>h pins s σ H Q I (i σ H Q q)
theorem pf(he:PE X o ta)(hb:attributeBase o f X.env (eval o X.env)=eval o X.env:=by rfl):PE X (.Attribute o f pos) (tFl X.K ta f):=by
 intro pins s σ H Q I h;refine dj hb (Bt (he pins s σ H _ I h) λu s1 ⟨x,H1,I1,rx,v,⟨a,C,dx,fs,ex,ea,c,n,l⟩,q⟩=> ?_);subst ex;obtain rfl:u=BI a:=rx;exact L9 I1 ea c n l λu' s2 I2 ru=>⟨v,H1,I2,ru,q⟩
inductive ADo(C:Addr)(m:Str)(sp:Sp)(t:TA)(σ:L2.St)(Q:VK)(x:V)(H1:Hp):Prop
 |mk (p:_) (x0:x= .ref p) (x1:Of C H1 p m) (x2:t σ H1 λvs H2=>sp (x::(vs++ [])) H2 Q E0):ADo C m sp t σ Q x H1
def tMe(C:Addr)(m:Str)(sp:Sp)(ta:TE)(t:TA):TE:=λσ H Q=>ta σ H (ADo C m sp t σ Q)
theorem Ws{pl:Sem Bool}(hm:An X.prog X.w X.K X.mg X.base C k m ps sp)(c:XM X.K C)(hr:DD j X.A)(he:PE X o ta)(ha:PA X (e::es) t)(hj:k<=j:=by decide)
  (tf:starEach (e::es) X.env=(false,eval e X.env)::starEach es X.env:=by rfl) (Dn:(backTo pos (starEach es X.env)).any (·.1)=false:=by rfl)
  (ht:eval (.Call (.Attribute o m apos) (e::es) [] pos) X.env=(do
   let ov←eval o X.env
   standAt apos.atName
   let(f,first)←holding [ov] (getMethod ov m pl)
   callWith pos f first (backTo pos (starEach (e::es) X.env)) (backToKw pos (keywordEach [] X.env))):=by rfl):
  PE X (.Call (.Attribute o m apos) (e::es) [] pos) (tMe C m sp ta t):=by
 obtain⟨_,_,me,F,b⟩:=hm.ex;intro pins s σ H Q I h;refine Um (pl:=pl) (Bt (he pins s σ H _ I h) λu s1 ⟨x,H1,I1,rx,a,ex,⟨dx,fs,ea,l⟩,q⟩=> ?_) ht;subst ex;obtain rfl:u=BI a:=rx;refine JC I1 ea c me l ?_;refine QQ (first:= [.ref a]) (h₀:=X.base) I.ok.mod.zC me.kp (Bt (ha pos pins s1 σ H1 _ I1 q) λus s2 ⟨vs,H2,I2,r,q2⟩=>⟨I2.XJ,?_⟩) tf Dn;exact N6 (us:= .ref a::us) (vs:= .ref a::vs) F (hr.mono hj) b .nil O_ I2 (.cons rfl r) q2
end
end
section
open Kp318 (total with_ without replyUp)
variable{C:Addr}
structure vV(K:Ab)(mg:Str->Option Value)(C:Addr):Prop extends ZI:jr K mg "Answerer" C where
 nD:BC K C "days"
 nF:BC K C "fine"
structure Hs(C:Addr)(H:Hp)(o:Addr)(n b:Nat):Prop where
 ob:∃dx,H o=some (.ins C dx [("days",nV n),("fine",nV b)])
theorem Hs.same{H H':Hp}{o:Addr}{n b:Nat}(a:Hs C H o n b)(s:Ag H H'):Hs C H' o n b:=let⟨dx,h⟩:=a.ob;⟨dx,s _ _ h⟩
theorem Hs.days{H:Hp}{o:Addr}{n b:Nat}(T:vV K mg C)(a:Hs C H o n b):So K H (.ref o) "days" (nV n):=let⟨dx,h⟩:=a.ob;⟨o,C,dx,_,rfl,h,T.cl,T.nD,rfl⟩
theorem Hs.fine{H:Hp}{o:Addr}{n b:Nat}(T:vV K mg C)(a:Hs C H o n b):So K H (.ref o) "fine" (nV b):=let⟨dx,h⟩:=a.ob;⟨o,C,dx,_,rfl,h,T.cl,T.nF,rfl⟩
theorem Hs.of{H:Hp}{o:Addr}{n b:Nat}(a:Hs C H o n b)(m:Str)(h1:(m==("days":Str))=false:=by decide)(h2:(m==("fine":Str))=false:=by decide):Of C H o m:=let⟨dx,h⟩:=a.ob;⟨dx,_,h,by simp[Gp,h1,h2]⟩
inductive Wt(C:Addr):Sp
 |mk (p dx:Addr) (n b:Nat):vs= [.ref p,nV n,nV b]->H p=some (.ins C dx [])->(∀H',(∀a u,H a=some u->a≠p->H' a=some u)->Hs C H' p n b->Q .Dg H')->Wt C vs H Q DJ
theorem AA7(T:vV K mg C)(D:A1 K C "__init__" "Answerer.__init__" CB IE):An P w K mg base C 1 "__init__" IE (Wt C):=by
 exists LJ
 ·obtain⟨p,dx,n,b,rfl,_⟩:=h;rfl
 obtain⟨p,dx,n,b,rfl,hp,q⟩:=h;refine⟨_,AF (Ap (pv 0) (pv 1) rfl) (AK (Ap (pv 0) (pv 2) rfl)),?_⟩;refine⟨_,AA,_,AA,p,C,dx,[],AA,hp,T.cl,T.nD,(by show 0<1000;decide),?_⟩;refine⟨_,AA,_,AA,p,C,dx,_,AA,AJ,T.cl,T.nF,(by show 1<1000;decide),?_⟩;rw[Az];exact q _ (λa u h n=>by rw[AS n];exact h) ⟨dx,by rw[AJ];rfl⟩
inductive cJ(K:Ab)(H:Hp)(v:V)(x:Int×Int):Prop
 |mk (p:_):v= .ref p->Bi K H p [.int x.1,.int x.2]->cJ K H v x
theorem cJ.same{H H':Hp}{v:V}{x:Int×Int}(h:cJ K H v x)(s:Ag H H'):cJ K H' v x:=let⟨p,e,q⟩:=h;⟨p,e,Bi.same q s⟩
inductive gM(K:Ab)(C:Addr):Sp
 |mk (o:Addr) (v:V) (n b:Nat) (x:Int×Int):vs= [.ref o,v]->Hs C H o n b->cJ K H v x->b<=9->Q (.int (JH b x)) H->gM K C vs H Q DJ
theorem ADp(T:vV K mg C)(D:A1 K C "got" "Answerer.got" Dt PN):An P w K mg base C 1 "got" PN (gM K C):=by
 exists Ro
 ·obtain⟨o,v,n,b,x,rfl,_⟩:=h;rfl
 obtain⟨o,v,n,b,x,rfl,ha,⟨p,rfl,hp⟩,hb,q⟩:=h;refine⟨_,AK (AO (Ay Er (BM BV (pv 1) AU (λ_ _=>rfl)) (Ay nZ (pf (pv 0)) (BM BV (pv 1) AU (λ_ _=>rfl))))),?_⟩;exact⟨_,AA,p,_,_,_,AA,AA,hp,AA,_,AA,_,ha.fine T,_,AA,p,_,_,_,AA,AA,hp,AA,_,_,AA,AA,.inl ⟨by show _< (b:Int);omega,by show(b:Int)<_;omega⟩,_,_,AA,AA,q⟩
inductive LM(K:Ab)(C:Addr)(f:Nat)(pre:Nat->Nat->Nat->Prop)(g:Nat->Nat->Nat->List Al->Nat->Int×Int):Sp
 |mk (o l:Addr) (n b t k:Nat) (ps:List Al):vs= [.ref o,.ref l,nV t,nV k]->Hs C H o n b->ZL K H l ps->n<=t+f->pre n t k->b<=9->ps.length<=1000->(∀v H',Ag H H'->cJ K H' v (g n b t ps k)->Q v H')->LM K C f pre g vs H Q DJ
abbrev SQ:List Str:= LY
def pB:Nat->Nat->Nat->Prop:=λn t _=>t<=n
def pD:Nat->Nat->Nat->Prop:=λn t k=>t<n/\0<k
def pWa:Nat->Nat->Nat->Prop:=λn t _=>t<n
def gB:Nat->Nat->Nat->List Al->Nat->Int×Int:=λn b t ps k=>IX b (n - t) t ps k
def xk:Nat->Nat->Nat->List Al->Nat->Int×Int:=λn b t ps k=>PF b (n - (t+1)) t ps k
def xl:Nat->Nat->Nat->List Al->Nat->Int×Int:=λn b t ps k=>PH b (n - (t+1)) t ps k
theorem Kp(ps:List Al)(t:Nat):(with_ ps t).length<=ps.length:=QU _ _
theorem Pg(ps:List Al)(t:Nat):(without ps t).length<=ps.length:=QU _ _
structure Yo(P:Program)(w:World)(K:Ab)(mg:Str->Option Value)(base:Heap):Prop where
 has:#[] 1 "has_day" PM SJ
 bey:#[] 1 "is_beyond" UL SK
 size:#[] 1 "size" UM Kn
 mul:#[] 1 "multiplied" UN Yn
 best:#[] 2 "best_plan" Js (cI K)
 Wu:#[] 2 "all_weights" UO (QN K)
 share:#[] 3 "share" UP (Wq K)
 on:#[] 2 "looking_on" LX (SN K with_)
 off:#[] 2 "not_looking_on" LX (SN K without)
section
variable(T:vV K mg C)(L:Yo P w K mg base)
include T L
theorem gP{f k:Nat}(h2:2<=k)(B:An P w K mg base C k "best" SQ (LM K C f pB gB))(D:A1 K C "if_dared" "Answerer.if_dared" CC SQ):An P w K mg base C (k+1) "if_dared" SQ (LM K C (f+1) pD xk):=by
 exists GH
 ·obtain⟨o,l,n,b,t,k,ps,rfl,_⟩:=h;rfl
 obtain⟨o,l,n,b,t,k,ps,rfl,ha,hl,hf,⟨ht,hk⟩,hb,hn,q⟩:=h;have nd:=GH.nd;refine⟨_,AF (4>>AV L.off hr #[pv 1,pv 2] ())
  (AF (5>>Ws B T.cl hr (pv 0) #[pv 4,Ay EW (pv 2) AU,Ay Er (pv 3) AU] (As _))
  (AK (AO (Dd #[Ay EW (AV L.Wu hr #[pv 4] ()) (BM BV (pv 5) AU (λ_ _=>rfl)),Ay EW (AV L.Wu hr #[AV L.on hr #[pv 1,pv 2] ()] ()) (BM BV (pv 5) AU (λ_ _=>rfl))])))),?_⟩
 obtain⟨k',rfl⟩:∃k',k=k'+1:=⟨k - 1,()⟩;refine⟨_,AA,_,AA,l,t,ps,AA,hl,hn,λl1 H1 s1 L1=> ?_⟩;have w1:=Pg ps t;have w2:=Kp ps t;refine⟨_,rfl,o,rfl,(ha.same s1).of "best",_,rfl,_,rfl,_,_,rfl,rfl,_,rfl,_,_,rfl,rfl,o,l1,n,b,t+1,k',without ps t,?_,ha.same s1,L1,(),ht,hb,(),λv H2 s2 ⟨p,e,hp⟩=> ?_⟩
 ·rw[←WR (k:=k'+1) rfl];rfl
 subst e;refine⟨_,AA,l1,_,AA,L1.same s2,(),λH3 s3=>⟨_,AA,p,_,_,_,AA,AA,Bi.same hp s3,AA,_,_,AA,AA,_,AA,_,AA,l,t,ps,AA,hl.same (s1.trans (s2.trans s3)),hn,λl4 H4 s4 L4=> ?_⟩⟩;refine⟨l4,_,AA,L4,(),λH5 s5=>⟨_,AA,p,_,_,_,AA,AA,Bi.same hp (s3.trans (s4.trans s5)),AA,_,_,AA,AA,(by show 2<=sizeLine;decide),λp6 hp6=> ?_⟩⟩;exact q _ _ (s1.trans (s2.trans (s3.trans (s4.trans (s5.trans (AX hp6 _)))))) ⟨p6,rfl,Bi.of AJ⟩
theorem Yp{f k:Nat}(h2:2<=k)(B:An P w K mg base C k "best" SQ (LM K C f pB gB))(D:A1 K C "if_waited" "Answerer.if_waited" Bz SQ):An P w K mg base C (k+1) "if_waited" SQ (LM K C (f+1) pWa xl):=by
 exists Fy
 ·obtain⟨o,l,n,b,t,k,ps,rfl,_⟩:=h;rfl
 obtain⟨o,l,n,b,t,k,ps,rfl,ha,hl,hf,ht,hb,hn,q⟩:=h;have nd:=Fy.nd;refine⟨_,AF (4>>Ws B T.cl hr (pv 0) #[AV L.on hr #[pv 1,pv 2] (),Ay EW (pv 2) AU,pv 3] (As _))
  (AF (5>>Ws B T.cl hr (pv 0) #[AV L.off hr #[pv 1,pv 2] (),Ay EW (pv 2) AU,pv 3] (As _))
  (AK (AO (Dd #[Ay EW (BM BV (pv 4) AU (λ_ _=>rfl)) (BM BV (pv 5) AU (λ_ _=>rfl)),Ay EW (BM BV (pv 4) AU (λ_ _=>rfl)) (BM BV (pv 5) AU (λ_ _=>rfl))])))),?_⟩
 have w1:=Pg ps t;have w2:=Kp ps t;refine⟨_,AA,o,AA,ha.of "best",_,AA,_,AA,l,t,ps,AA,hl,hn,λl1 H1 s1 L1=> ?_⟩;refine⟨_,rfl,_,_,rfl,rfl,_,rfl,o,l1,n,b,t+1,k,with_ ps t,rfl,ha.same s1,L1,(),ht,hb,(),λv H2 s2 ⟨p,e,hp⟩=> ?_⟩;subst e;have D5:=s1.trans s2;refine⟨_,AA,o,AA,(ha.same D5).of "best",_,AA,_,AA,l,t,ps,AA,hl.same D5,hn,λl3 H3 s3 L3=> ?_⟩;refine⟨_,rfl,_,_,rfl,rfl,_,rfl,o,l3,n,b,t+1,k,without ps t,rfl,ha.same (D5.trans s3),L3,(),ht,hb,(),λv4 H4 s4 ⟨p4,e,hp4⟩=> ?_⟩;subst e;have tJ:=Bi.same hp (s3.trans s4);refine⟨_,AA,p,_,_,_,AA,AA,tJ,AA,_,AA,p4,_,_,_,AA,AA,hp4,AA,_,_,AA,AA,_,AA,p,_,_,_,AA,AA,tJ,AA,_,AA,p4,_,_,_,AA,AA,hp4,AA,_,_,AA,AA,(by show 2<=sizeLine;decide),λp6 hp6=> ?_⟩;exact q _ _ (D5.trans (s3.trans (s4.trans (AX hp6 _)))) ⟨p6,rfl,Bi.of AJ⟩
end
end
section
open Kp318 (total with_ without replyUp)
variable{C:Addr}
theorem Wv{a b:Nat}:decide (nV a=nV b)=decide (a=b):=by
 unfold nV;rw[Jj];simp only[decide_eq_true_eq,V.int.injEq];omega
theorem Bg{a:Nat}:decide (nV a=V.int 0)=decide (a=0):=Wv (b:=0)
section
variable(T:vV K mg C)
include T
theorem qt{f k:Nat}(h1:1<=k)(GO:An P w K mg base C 1 "got" PN (gM K C))(ID:An P w K mg base C k "if_dared" SQ (LM K C f pD xk))(IW:An P w K mg base C k "if_waited" SQ (LM K C f pWa xl))
  (D:A1 K C "best" "Answerer.best" DZ SQ):An P w K mg base C (k+1) "best" SQ (LM K C f pB gB):=by
 exists Ju
 ·obtain⟨o,l,n,b,t,k,ps,rfl,_⟩:=h;rfl
 obtain⟨o,l,n,b,t,k,ps,rfl,ha,hl,hf,ht,hb,hn,q⟩:=h;have nd:=Ju.nd;refine⟨_,AF (Aj (Ep (Af B_ (pv 2) (pf (pv 0)) (Ai _)) (Ep (Af B_ (pv 3) AU (Ai _)) (FP (BN (Ar (pv 1) (λ_=>rfl)))))).pt (AK (AO (Dd #[AU,AU]))) Aa)
  (AF (4>>Ws ID T.cl hr (pv 0) #[pv 1,pv 2,pv 3] (As _))
  (AF (5>>Ws IW T.cl hr (pv 0) #[pv 1,pv 2,pv 3] (As _))
  (AK (AO (MW (Af nq (Ws GO T.cl hr (pv 0) #[pv 4] ()) (Ws GO T.cl hr (pv 0) #[pv 5] ()) (Ai _)) (pv 5) (pv 4)))))),?_⟩
 have zero:(t=n\/k=0\/ps= [])->(∀p,H p=none->Q (.ref p) (upd H p (.tup [.int 0,.int 0]))):=λc p hp=>by
  refine q _ _ (AX hp _) ⟨p,rfl,Bi.of ?_⟩;rw[AJ];have e:gB n b t ps k=(0,0):=by
   unfold gB;by_cases h0:n - t=0
   ·rw[h0];rfl
   ·rw[show n - t=(n - t - 1)+1 by omega,JI,AG];rcases c with c|c
    ·omega
    ·exact c
  rw[e]
 obtain⟨vs,hvs,TM⟩:=hl.ex;refine⟨_,AA,_,AA,_,ha.days T,AA,_,AA,?_⟩;rw[Wv];by_cases c1:t=n
 ·rw[AH c1];exact Au (Au ⟨(by show 2<=sizeLine;decide),zero (.inl c1)⟩)
 rw[AL c1];refine A' ?_;refine⟨_,AA,AA,_,AA,?_⟩;rw[Bg];by_cases c2:k=0
 ·rw[AH c2];exact Au (Au ⟨(by show 2<=sizeLine;decide),zero (.inr (.inl c2))⟩)
 rw[AL c2];refine A' ?_;have ev:vs.isEmpty=ps.isEmpty:=by
  have:=TM.len;cases vs <;> cases ps <;> simp_all
 by_cases c3:ps= []
 ·exact⟨_,AA,false,.inl ⟨_,hvs,by rw[ev,c3];rfl⟩,Au ⟨(by show 2<=sizeLine;decide),zero (.inr (.inr c3))⟩⟩
 refine⟨_,rfl,true,.inl ⟨_,hvs,by rw[ev];cases ps with|nil=>exact absurd rfl c3|cons=>rfl⟩,A' ?_⟩;have xN:t<n:=by unfold pB at ht;omega
 refine⟨_,AA,o,AA,ha.of "if_dared",_,AA,_,AA,_,AA,o,l,n,b,t,k,ps,AA,ha,hl,hf,⟨xN,()⟩,hb,hn,λv1 H1 s1 q1=> ?_⟩;refine⟨_,AA,o,AA,(ha.same s1).of "if_waited",_,AA,_,AA,_,AA,o,l,n,b,t,k,ps,AA,ha.same s1,hl.same s1,hf,xN,hb,hn,λv2 H2 s2 q2=> ?_⟩;have D5:=s1.trans s2;have xP:=ha.same D5;refine⟨_,AA,o,AA,xP.of "got",_,AA,o,v1,n,b,_,AA,xP,q1.same s2,hb,_,AA,o,AA,xP.of "got",_,AA,o,v2,n,b,_,AA,xP,q2,hb,_,_,AA,AA,_,AA,?_⟩;have e:gB n b t ps k=if JH b (xk n b t ps k)<JH b (xl n b t ps k) then xl n b t ps k else xk n b t ps k:=by
  unfold gB xk xl;rw[show n - t=(n - (t+1))+1 by omega,JI,AB (λz=>z.elim c2 c3)]
 by_cases hc:JH b (xk n b t ps k)<JH b (xl n b t ps k)
 ·rw[AH hc];refine Au ⟨_,rfl,q _ _ D5 ?_⟩;rw[e,AG hc];exact q2
 ·rw[AL hc];refine A' ⟨_,rfl,q _ _ D5 ?_⟩;rw[e,AB hc];exact q1.same s2
omit T in
theorem gQ{k:Nat}{m qual:Str}{st:Stmt}{pre:Nat->Nat->Nat->Prop}{g:Nat->Nat->Nat->List Al->Nat->Int×Int}(hp:∀n t k,pre n t k->t<n)(D:A1 K C m qual st SQ):An P w K mg base C k m SQ (LM K C 0 pre g):=by
 obtain⟨f,fd,me,F,b⟩:=D.ex;have no:∀vs H Q E,¬LM K C 0 pre g vs H Q E:=λvs H Q E h=>by
  obtain⟨o,l,n,b,t,k,ps,_,_,_,h1,h2,_⟩:=h;have:=hp _ _ _ h2;omega
 exact⟨f,fd,me,⟨λvs H Q E h=>absurd h (no vs H Q E),λA outer s H args us vs Q E _ _ _ _ h=>absurd h (no vs H Q E)⟩,b⟩
end
structure AFP(K:Ab)(C:Addr):Prop where
 init:A1 K C "__init__" "Answerer.__init__" CB IE
 got:A1 K C "got" "Answerer.got" Dt PN
 best:A1 K C "best" "Answerer.best" DZ SQ
 Yq:A1 K C "if_dared" "Answerer.if_dared" CC SQ
 E9:A1 K C "if_waited" "Answerer.if_waited" Bz SQ
 bg:A1 K C "best_got" "Answerer.best_got" DE SQ
inductive ADq(K:Ab)(C:Addr):Sp
 |mk (o l:Addr) (n b t k:Nat) (ps:List Al):vs= [.ref o,.ref l,nV t,nV k]->Hs C H o n b->ZL K H l ps->n<=4->t<=n->b<=9->ps.length<=1000->0<total ps->total ps<2^9000->(∀v H',Ag H H'->A8 K H' v (((replyUp b (n - t) t ps k:Int):Rat) / ((total ps:Nat):Rat))->Q v H')->ADq K C vs H Q DJ
structure qu(P:Program)(w:World)(K:Ab)(mg:Str->Option Value)(base:Heap)(C:Addr):Prop where
 T:vV K mg C
 init:An P w K mg base C 1 "__init__" IE (Wt C)
 got:An P w K mg base C 1 "got" PN (gM K C)
 best:An P w K mg base C 12 "best" SQ (LM K C 4 pB gB)
 Yq:An P w K mg base C 11 "if_dared" SQ (LM K C 4 pD xk)
 E9:An P w K mg base C 11 "if_waited" SQ (LM K C 4 pWa xl)
 bg:An P w K mg base C 13 "best_got" SQ (ADq K C)
theorem ADr(T:vV K mg C)(L:Yo P w K mg base)(R:#[] 2 "ratio" RU (Gf K))(D:AFP K C):qu P w K mg base C:=by
 have G:=ADp (P:=P) (w:=w) (base:=base) T D.got;have B0:An P w K mg base C 4 "best" SQ (LM K C 0 pB gB):=qt T (k:=3) () G (gQ (λn t k h=>h.1) D.Yq) (gQ (λn t k h=>h) D.E9) D.best;have step:∀{f k:Nat},2<=k->An P w K mg base C k "best" SQ (LM K C f pB gB)->An P w K mg base C (k+2) "best" SQ (LM K C (f+1) pB gB):=λh B=>qt T () G (gP T L h B D.Yq) (Yp T L h B D.E9) D.best;have B1:=step (()) B0;have B2:=step (()) B1;have B3:=step (()) B2;have B4:=step (()) B3;refine⟨T,AA7 T D.init,G,B4,gP T L (()) B3 D.Yq,Yp T L (()) B3 D.E9,?_⟩;refine D.bg.has LK (λvs H Q E h=> ?_) (λf CL A outer st H vs Q E hr h=> ?_)
 ·obtain⟨o,l,n,b,t,k,ps,rfl,_⟩:=h;rfl
 obtain⟨o,l,n,b,t,k,ps,rfl,ha,hl,hn4,ht,hb,hn,h0,h9,q⟩:=h;refine⟨_,AK (AO (AV R hr #[Ws G T.cl hr (pv 0) #[Ws B4 T.cl hr (pv 0) #[pv 1,pv 2,pv 3]],AV L.Wu hr #[pv 1]])),?_⟩;refine⟨_,AA,o,AA,ha.of "got",_,AA,o,AA,ha.of "best",_,AA,_,AA,_,AA,o,l,n,b,t,k,ps,AA,ha,hl,(),ht,hb,hn,λv1 H1 s1 q1=> ?_⟩;refine⟨o,v1,n,b,_,AA,ha.same s1,q1,hb,_,AA,l,ps,AA,hl.same s1,hn,λH2 s2=>⟨_,_,AA,h0,h9,λv3 H3 s3 q3=>q v3 H3 (s1.trans (s2.trans s3)) ?_⟩⟩;unfold gB at q3;rw[HA] at q3;exact q3
end
section
open Kp318 (total with_ without replyUp)
inductive mo(te:TE):TE
 |mk (Q0:VK):te σ H Q0->(∀v H1,Q0 v H1->Q v H1)->mo te σ H Q
section
variable{X:Cx}{e:Expr}{te:TE}{pos p p' p'':Pos}{j:Nat}{x:Str}{n:Int}
theorem pmo(he:PE X e te):PE X e (mo te):=λpins s σ H Q I ⟨Q0,h,k⟩=>Bt (he pins s σ H Q0 I h) λu s1 ⟨v,H1,I1,r,q⟩=>⟨v,H1,I1,r,k v H1 q⟩
inductive qx(K:Ab)(Q:VK)(v:V)(H1:Hp):Prop
 |mk (r:_) (x0:A8 K H1 v r) (x1:∀l H',Ag H1 H'->H' l=some (.lst ((0::nums [r]).map V.int))->Q (.ref l) H'):qx K Q v H1
def ADs(K:Ab)(te:TE):TE:=λσ H Q=>te σ H (qx K Q)
theorem Dy(T:MH X.prog X.w X.K X.mg X.base 1 "told_ratios" iQ (WQ X.K))(hr:DD j X.A)(he:PE X e te)(hj:1<=j:=by decide)(hg:Gl X "told_ratios":=by rfl)
  (w_:starEach [.List [e] p] X.env=(false,eval (.List [e] p) X.env)::starEach [] X.env:=by rfl) (h2:starEach [e] X.env=(false,eval e X.env)::starEach [] X.env:=by rfl):PE X (.Call (.Name "told_ratios" p') [.List [e] p] [] pos) (ADs X.K te):=λpins s σ H Q I h=>
 AV T hr (A0 (Am (A0 (pmo he) By h2)) By w_) hj hg (()) w_ rfl pins s σ H Q I ⟨_,h,λv H1 ⟨r,hq,k⟩=>⟨(by show 1<=sizeLine;decide),λl hl=>
  ⟨l,[v],[r],rfl,A_.of AJ,.cons (hq.same (AX hl _)) .nil,(by show 1<=1000;decide),λl2 H3 s3 _ h3=>k l2 H3 ((AX hl _).trans s3) h3⟩⟩⟩
def AFQ(n:Int):TE:=λ_ H Q=>∀l H',Ag H H'->H' l=some (.lst [.int n])->Q (.ref l) H'
theorem DL(h:B' X.mg x n)(hg:Gl X x:=by rfl)(hd:(x==("__debug__":Str))=false:=by decide)(h2:starEach [.Name x p] X.env=(false,eval (.Name x p) X.env)::starEach [] X.env:=by rfl):PE X (.List [.Name x p] pos) (AFQ n):=λpins s σ H Q I k=>
 Am (A0 (BD h hg hd) By h2) pins s σ H Q I ⟨(by show 1<=sizeLine;decide),λl hl=>k l _ (AX hl _) AJ⟩
inductive xm(Q:VK)(v:V)(H1:Hp):Prop
 |mk (i:Int) (x0:v= .int i) (x1:∀l H',Ag H1 H'->H' l=some (.lst [.int i])->Q (.ref l) H'):xm Q v H1
def AFR(te:TE):TE:=λσ H Q=>te σ H (xm Q)
theorem HI(he:PE X e te)(h2:starEach [e] X.env=(false,eval e X.env)::starEach [] X.env:=by rfl):PE X (.List [e] pos) (AFR te):=λpins s σ H Q I h=>
 Am (A0 (pmo he) By h2) pins s σ H Q I ⟨_,h,λv H1 ⟨i,ei,k⟩=>⟨(by show 1<=sizeLine;decide),λl hl=>k l _ (AX hl _) (by rw[AJ,ei])⟩⟩
end
variable{cs:Cs}{CO CN:Addr}
inductive spQ(K:Ab)(cs:Cs)(n:Nat)(G:Aw->Prop)(Yr:Aw->List Nat->List Int):Sp
 |mk (p kl:Addr) (c:Ad) (h:Aw) (as:List Nat):vs= .ref p::as.map nV->as.length=n->Av K cs H p kl c h->G h->(∀l H',Ag H H'->H' l=some (.lst ((Yr h as).map V.int))->Q (.ref l) H')->spQ K cs n G Yr vs H Q DJ
theorem mkQ{k n:Nat}{x:Str}{st:Stmt}{N ps:List Str}{G:Aw->Prop}{Yr:Aw->List Nat->List Int}(D:Def K mg x st ps)(S:HU N ps (BE st))(hn:n+1=ps.length)
  (body:∀(f:Addr) (CL:Value) (A:Around) (outer:List Env) (s:Shared) (H:Hp) (p kl:Addr) (c:Ad) (h:Aw) (as:List Nat) (Q:VK) (E:XK),DD k (A.deeper (envOfC x (BE st) s.heap.objs.size f CL))->as.length=n->Av K cs H p kl c h->G h->
   (∀l H',Ag H H'->H' l=some (.lst ((Yr h as).map V.int))->Q (.ref l) H')->
   ∃t,XU (Su eJ P w K mg base N x (BE st) f CL A outer s H E).wj (FV st) t/\t {nx:=λ_ H'=>Q .Dg H',rt:=Q} (start N (.ref p::as.map nV)) H):#[] (k+1) x ps (spQ K cs n G Yr):=
 D.has S (λvs H Q E h=>by
  obtain⟨p,kl,c,h,as,rfl,hl,_⟩:=h;rw[CD,BP,hl,hn]) λf CL A outer s H vs Q E hr h=>by
  obtain⟨p,kl,c,h,as,rfl,hl,hC,hg,q⟩:=h;exact body f CL A outer s H p kl c h as Q E hr hl hC hg q
section
variable{H:Hp}{p kl:Addr}{c:Ad}{h:Aw}
theorem Av.fS(T:xM K mg cs.W)(a:Av K cs H p kl c h):So K H (.ref p) "season" (.ref c.s):=let⟨dx,e⟩:=a.ob;⟨p,cs.W,dx,_,rfl,e,T.cl,T.nS,rfl⟩
theorem Av.fA(T:xM K mg cs.W)(a:Av K cs H p kl c h):So K H (.ref p) "alike" (.ref c.a):=let⟨dx,e⟩:=a.ob;⟨p,cs.W,dx,_,rfl,e,T.cl,T.nA,rfl⟩
theorem Av.fT(T:xM K mg cs.W)(a:Av K cs H p kl c h):So K H (.ref p) "table" (.ref c.t):=let⟨dx,e⟩:=a.ob;⟨p,cs.W,dx,_,rfl,e,T.cl,T.nT,rfl⟩
theorem Av.fK(T:xM K mg cs.W)(a:Av K cs H p kl c h):So K H (.ref p) "kept" (.ref kl):=let⟨dx,e⟩:=a.ob;⟨p,cs.W,dx,_,rfl,e,T.cl,T.nK,rfl⟩
end
section
variable{C:Addr}{H:Hp}{t tp:Addr}{x:DF}
theorem TabAt.fD(T:u_ K mg C)(a:TabAt K C H t tp x):So K H (.ref t) "days" (nV x.days):=let⟨dx,e⟩:=a.ob;⟨t,C,dx,_,rfl,e,T.cl,T.nD,rfl⟩
theorem TabAt.fM(T:u_ K mg C)(a:TabAt K C H t tp x):So K H (.ref t) "misdeeds" (nV x.misdeeds):=let⟨dx,e⟩:=a.ob;⟨t,C,dx,_,rfl,e,T.cl,T.nM,rfl⟩
theorem TabAt.fF(T:u_ K mg C)(a:TabAt K C H t tp x):So K H (.ref t) "fine" (nV x.fine):=let⟨dx,e⟩:=a.ob;⟨t,C,dx,_,rfl,e,T.cl,T.nF,rfl⟩
theorem TabAt.fP(T:u_ K mg C)(a:TabAt K C H t tp x):So K H (.ref t) "plans" (.ref tp):=let⟨dx,e⟩:=a.ob;⟨t,C,dx,_,rfl,e,T.cl,T.nP,rfl⟩
end
structure DP(x:DF):Prop where
 d1:0<x.days
 d4:x.days<=4
 mi:x.misdeeds<=6
 f1:0<x.fine
 f9:x.fine<=9
 EX:x.plans.length<=10
 pl:∀p∈x.plans,p.set<2^x.days/\0<p.weight/\p.weight<=7000
theorem jA{ps:List Al}(h:∀p∈ps,0<p.weight)(hn:ps≠ []):0<total ps:=by
 cases ps with
 |nil=>exact absurd rfl hn
 |cons p l=>rw[Ea];have:=h p Bw;omega
theorem SR{c:Nat}:∀{ps:List Al},(∀p∈ps,p.weight<=c)->total ps<=c*ps.length
 | [],_=>BR _
 |p::l,h=>by
  rw[Ea,CD,Nat.mul_succ];have:=h p Bw;have:=SR λq hq=>h q (Bb _ hq);omega
theorem AA8{n:Nat}(h:n<=70000):n<2^9000:=DU (A6 h (show 70000<=2^17 by decide)) (Nat.pow_lt_pow_right (()) (()))
theorem DP.Wu{x:DF}(g:DP x){ps:List Al}(hs:ps.Sublist x.plans)(hn:ps≠ []):0<total ps/\total ps<2^9000/\ps.length<=1000:=by
 have hl:=hs.length_le;have h10:=g.EX;refine⟨jA (λp hp=>(g.pl p (hs.subset hp)).2.1) hn,AA8 ?_,()⟩;have:=SR (c:=7000) (ps:=ps) λp hp=>(g.pl p (hs.subset hp)).2.2;omega
theorem NK{n m b:Nat}(hn:n<=4)(hm:m<=5)(hb:0<b)(S6:b<=9):0<total (Ej n m b)/\total (Ej n m b)<2^9000/\(Ej n m b).length<=1000:=by
 have e:=(G' n () m () b ()).1;refine⟨by rw[e];exact DG hb n m,?_,?_⟩
 ·rw[e];have h3:=Kh hb n m;have h4:2^n<=2^4:=DM (()) hn;have h5:b^m<=9^5:=A6 (Zk S6 m) (DM (()) hm);exact DU (A6 h3 (Ji h4 h5)) (Cm (show 2^4*9^5<2^20 by decide) (DM (()) (())))
 ·rw[gK hn,BP];refine A6 (QU _ _) ?_;rw[Za];exact A6 (DM (()) hn) (())
structure Ww(P:Program)(w:World)(K:Ab)(mg:Str->Option Value)(base:Heap)(cs:Cs)(CO CN:Addr):Prop where
 B:gI P w K mg base cs CO
 L:Yo P w K mg base
 N:qu P w K mg base CN
 max:mg "max"=none
 sum:mg "sum"=none
 mP:B' mg "MOST_PLANS" 10
 mW:B' mg "MOST_WEIGHT" 1000
 mM:B' mg "MOST_MISDEEDS" 6
 mF:B' mg "MOST_FINE_plancalls" 9
section
variable(B:Ww P w K mg base cs CO CN)
include B
inductive cK(K:Ab)(CT CN:Addr):Sp
 |mk (t tp:Addr) (x:DF):vs= [.ref t]->TabAt K CT H t tp x->(∀o H',Ag H H'->Hs CN H' o x.days x.fine->Q (.ref o) H')->cK K CT CN vs H Q DJ
theorem cM(D:Def K mg "table_answerer" EA Ci):#[] 3 "table_answerer" Ci (cK K cs.T CN):=by
 exists OQ
 ·obtain⟨t,tp,x,rfl,_⟩:=h;rfl
 obtain⟨t,tp,x,rfl,ht,q⟩:=h;have TT:=B.B.Z.tT;refine⟨_,AK (AO (Jw B.N.init B.N.T.ZI hr #[pf (pv 0),pf (pv 0)])),?_⟩;refine⟨_,AA,_,ht.fD TT,_,AA,_,ht.fF TT,λo dp np Yc ne=>⟨o,dp,x.days,x.fine,AA,AJ,λH1 k1 a1=>⟨AA,q o H1 (Ag.made np Yc k1) a1⟩⟩⟩
inductive vW(K:Ab)(CT:Addr):Sp
 |mk (t tp:Addr) (x:DF):vs= [.ref t]->TabAt K CT H t tp x->DP x->x.plans≠ []->(∀v H',Ag H H'->A8 K H' v (((U5 x:Int):Rat) / ((total x.plans:Nat):Rat))->Q v H')->vW K CT vs H Q DJ
theorem qy(TA:#[] 3 "table_answerer" Ci (cK K cs.T CN))(D:Def K mg "table_reply" FZ Ci):#[] 14 "table_reply" Ci (vW K cs.T):=by
 exists S8
 ·obtain⟨t,tp,x,rfl,_⟩:=h;rfl
 obtain⟨t,tp,x,rfl,ht,g,hn,q⟩:=h;have TT:=B.B.Z.tT;refine⟨_,AK (AO (Ws B.N.bg B.N.T.cl hr (AV TA hr #[pv 0]) #[pf (pv 0),AU,pf (pv 0)])),?_⟩;obtain⟨h0,h9,B9⟩:=g.Wu (IK _) hn;refine⟨_,AA,t,tp,x,AA,ht,λo H1 s1 a1=>⟨o,AA,a1.of "best_got",_,AA,_,(ht.same s1).fP TT,_,AA,_,(ht.same s1).fM TT,?_⟩⟩;exact⟨o,tp,x.days,x.fine,0,x.misdeeds,x.plans,AA,a1,(ht.same s1).tL,g.d4,BR _,g.f9,B9,h0,h9,λv H2 s2 q2=>q v H2 (s1.trans s2) q2⟩
inductive vX(K:Ab)(CT:Addr):Sp
 |mk (t tp:Addr) (x:DF):vs= [.ref t]->TabAt K CT H t tp x->DP x->(∀v H',Ag H H'->cJ K H' v (((U3 x).2:Int),((U3 x).1:Int))->Q v H')->vX K CT vs H Q DJ
theorem AA9(TA:#[] 3 "table_answerer" Ci (cK K cs.T CN))(D:Def K mg "table_end" Hk Ci):#[] 13 "table_end" Ci (vX K cs.T):=by
 exists YO
 ·obtain⟨t,tp,x,rfl,_⟩:=h;rfl
 obtain⟨t,tp,x,rfl,ht,g,q⟩:=h;have TT:=B.B.Z.tT;refine⟨_,AK (AO (Ws B.N.best B.N.T.cl hr (AV TA hr #[pv 0]) #[pf (pv 0),AU,pf (pv 0)])),?_⟩;have h10:=g.EX;refine⟨_,AA,t,tp,x,AA,ht,λo H1 s1 a1=>⟨o,AA,a1.of "best",_,AA,_,(ht.same s1).fP TT,_,AA,_,(ht.same s1).fM TT,?_⟩⟩;refine⟨o,tp,x.days,x.fine,0,x.misdeeds,x.plans,AA,a1,(ht.same s1).tL,by have:=g.d4;omega,BR _,g.f9,(),λv H2 s2 q2=>q v H2 (s1.trans s2) ?_⟩;have e:=GP x.fine x.days x.days 0 x.plans x.misdeeds ();unfold gB at q2;rw[Qg,e] at q2;exact q2
inductive vY(K:Ab)(CT:Addr):Sp
 |mk (t tp:Addr) (x:DF) (m:Nat):vs= [.ref t,nV m]->TabAt K CT H t tp x->DP x->m<=x.days->(∀v H',Ag H H'->A8 K H' v (wE x.fine x.days m x.misdeeds)->Q v H')->vY K CT vs H Q DJ
theorem qz(TA:#[] 3 "table_answerer" Ci (cK K cs.T CN))(D:Def K mg "looks_worth" Fd US):#[] 14 "looks_worth" US (vY K cs.T):=by
 exists Le
 ·obtain⟨t,tp,x,m,rfl,_⟩:=h;rfl
 obtain⟨t,tp,x,m,rfl,ht,g,hm,q⟩:=h;have TT:=B.B.Z.tT;have nd:=Le.nd;refine⟨_,AF (2>>AV B.L.best hr #[pf (pv 0),pv 1,pf (pv 0)])
  (AK (AO (Ws B.N.bg B.N.T.cl hr (AV TA hr #[pv 0]) #[pv 2,AU,pf (pv 0)]))),?_⟩
 have d4:=g.d4;obtain⟨h0,h9,B9⟩:=NK (m:=m) g.d4 () g.f1 g.f9;refine⟨_,AA,_,ht.fD TT,_,AA,_,AA,_,ht.fF TT,x.days,m,x.fine,AA,g.d4,(),g.f9,λl xs H1 s1 n1 h1 p1=> ?_⟩;refine⟨_,AA,t,tp,x,AA,ht.same s1,λo H2 s2 a2=>⟨o,AA,a2.of "best_got",_,AA,_,AA,_,(ht.same (s1.trans s2)).fM TT,?_⟩⟩;refine⟨o,l,x.days,x.fine,0,x.misdeeds,_,AA,a2,ZL.same ⟨xs,A_.of h1,p1⟩ s2,g.d4,BR _,g.f9,B9,h0,h9,λv H3 s3 q3=>q v H3 (s1.trans (s2.trans s3)) ?_⟩;rw[Qg,bP g.d4 hm g.mi g.f1 g.f9] at q3;exact q3
end
end
section
open Kp318 (total with_ without replyUp)
variable{cs:Cs}{CO CN:Addr}
def B5(x:DF)(c:Lr):List Int:=(Co (some x) c).2.num::(Co (some x) c).2.nums
abbrev jB(a:kj):List Int:=a.num::a.nums
section
variable(x:DF)
theorem vZ:B5 x .reply=if x.plans.isEmpty=true then [-6] else jB (KH x (U5 x)):=by unfold B5;simp only[Co];split <;> rfl
theorem va:B5 x .dares=if x.plans.isEmpty=true then [-6] else [if x.misdeeds=0 then 0 else(if Iq x.fine x.days 0 x.plans x.misdeeds<Iu x.fine x.days 0 x.plans x.misdeeds then 1 else if Iu x.fine x.days 0 x.plans x.misdeeds<Iq x.fine x.days 0 x.plans x.misdeeds then 0 else 2)]:=by
 unfold B5;simp only[Co];split
 ·rfl
 ·split <;> rfl
theorem ABA(t s k:Nat):B5 x (.seen t s k)=if x.plans.isEmpty=true then [-6] else if x.days<=t\/2^t<=s\/6<k then [-22] else if(U4 x t s).isEmpty=true then [-33] else jB (Nl (FN (replyUp x.fine (x.days - t) t (U4 x t s) k) (total (U4 x t s)))):=by
 unfold B5;simp only[Co];split
 ·rfl
 ·split
  ·rfl
  ·split <;> rfl
theorem q_(t:Nat):B5 x (.looked t)=if x.plans.isEmpty=true then [-6] else if x.days<=t then [-22] else jB (KH x (total (with_ x.plans t))):=by
 unfold B5;simp only[Co];split
 ·rfl
 ·split <;> rfl
theorem ABB:B5 x .mean=if x.plans.isEmpty=true then [-6] else jB (KH x ((x.plans.foldl (λ(a:Nat) (p:Al)=>a+p.weight*A7 x.days p.set) 0:Nat):Int)):=by unfold B5;simp only[Co];split <;> rfl
theorem ABC:B5 x .most=if x.plans.isEmpty=true then [-6] else [((Nn x:Nat):Int)]:=by unfold B5;simp only[Co];split <;> rfl
theorem ABD:B5 x .over=if x.plans.isEmpty=true then [-6] else jB (Nl (Z5 x)):=by unfold B5;simp only[Co];split <;> rfl
theorem rA:B5 x .caught=if x.plans.isEmpty=true then [-6] else jB (KH x ((U3 x).1:Nat)):=by unfold B5;simp only[Co];split <;> rfl
theorem ABE:B5 x .done=if x.plans.isEmpty=true then [-6] else jB (KH x ((U3 x).2:Nat)):=by unfold B5;simp only[Co];split <;> rfl
theorem cN:B5 x .unlooked=if x.plans.isEmpty=true then [-6] else jB (KH x (total (x.plans.filter λp=>p.set==0))):=by unfold B5;simp only[Co];split <;> rfl
theorem vd(m:Nat):B5 x (.worth m)=if x.days<m then [-22] else jB (Nl (HR x.days m x.misdeeds x.fine)):=by unfold B5;simp only[Co];split <;> rfl
theorem rC(m s:Nat):B5 x (.bestChance m s)=if x.days<m\/2^x.days<=s then [-22] else jB (Nl (FN (if A7 x.days s<=m then((x.fine^(m - A7 x.days s):Nat):Int) else 0) (lz x.days m x.fine))):=by
 unfold B5;simp only[Co];by_cases h:x.days<m\/2^x.days<=s
 ·rw[AG h,AG h];rfl
 ·rw[AB h,AB h]
theorem jC(m:Nat):B5 x (.bestLooked m)=if x.days<m then [-22] else jB (Nl (En x.days m x.fine)):=by unfold B5;simp only[Co];split <;> rfl
theorem ABF:B5 x .told=(x.days:Int)::(x.misdeeds:Int)::(x.fine:Int)::(x.plans.length:Int)::x.plans.flatMap λ(p:Al)=> [(p.set:Int),(p.weight:Int)]:=rfl
end
theorem Oa(r:Rat):jB (Nl (q r))=0::nums [r]:=rfl
theorem Ob{x:DF}(g:DP x)(hn:x.plans≠ [])(a:Int):jB (KH x a)=0::nums [(a:Rat) / ((total x.plans:Nat):Rat)]:=by
 unfold KH;rw[G0 _ (by have:=(g.Wu (IK _) hn).1;omega),Oa]
theorem TabAt.tM{C:Addr}{H:Hp}{t tp:Addr}{x:DF}(a:TabAt K C H t tp x):tq K (.ref tp) H (!x.plans.isEmpty):=by
 obtain⟨vs,h1,h2⟩:=a.ps;refine .inl ⟨vs,A_.of h1,?_⟩;have:=h2.len;cases vs <;> cases hx:x.plans <;> simp_all
abbrev spT(K:Ab)(cs:Cs)(n:Nat)(pc:List Nat->Lr):Sp:=spQ K cs n (λh=>DP h.watch) λh as=>B5 h.watch (pc as)
theorem ne_nil{α:Type}{l:List α}(h:¬(!(!l.isEmpty))=true):l≠ []:=λz=>h (by rw[z];rfl)
theorem HF{α:Type}{l:List α}(h:(!(!l.isEmpty))=true):l.isEmpty=true:=by simpa using h
theorem FA{α:Type}{l:List α}(h:l≠ []):¬l.isEmpty=true:=λz=>h (Qa.mp z)
section
variable(B:Ww P w K mg base cs CO CN)
include B
theorem ve(TR:#[] 14 "table_reply" Ci (vW K cs.T))(D:Def K mg "reply" QF Ae):#[] 26 "reply" Ae (spT K cs 0 λ_=> .reply):=by
 exists 0,uh;obtain rfl:=DK.mp hl;replace q:∀l H',Ag H H'->H' l=some (.lst ((B5 h.watch .reply).map V.int))->Q (.ref l) H':=q;rw[vZ] at q;have TW:=B.B.Z.tW;have TT:=B.B.Z.tT;have ht:=hC.ho.tab;refine⟨_,AF (Aj (BN (Ar (pf (pf (pv 0))) (λ_=>rfl))) (AK (AO (DL B.B.n6))) Aa) (AK (AO (Dy B.B.R.told hr (AV TR hr #[pf (pv 0)])))),?_⟩;refine⟨_,AA,_,hC.fT TW,_,ht.fP TT,_,ht.tM,BF (λcc=> ?_) λcc=> ?_⟩
 ·rw[AG (HF cc)] at q;exact q
 have hn:=ne_nil cc;rw[AB (FA hn),Ob g hn] at q;exact⟨_,AA,_,hC.fT TW,c.t,c.tp,_,AA,ht,g,hn,λv H1 s1 q1=>⟨_,q1,λl H2 s2=>q l H2 (s1.trans s2)⟩⟩
theorem rD(D:Def K mg "planlooked" Ga Jr):#[] 26 "planlooked" Jr (spT K cs 1 λas=> .looked (as.getD 0 0)):=by
 exists 0,M0;obtain⟨t,rfl⟩:∃t,as= [t]:=match as,hl with| [a],_=>⟨a,rfl⟩
 replace q:∀l H',Ag H H'->H' l=some (.lst ((B5 h.watch (.looked t)).map V.int))->Q (.ref l) H':=q;rw[q_] at q;have TW:=B.B.Z.tW;have TT:=B.B.Z.tT;have ht:=hC.ho.tab;have nd:=M0.nd;refine⟨_,AF (2>>pf (pv 0)) (AF (Aj (BN (Ar (pf (pv 2)) (λ_=>rfl))) (AK (AO (DL B.B.n6))) Aa)
  (AF (Aj (Af Oy (pv 1) (pf (pv 2)) (Ai _)) (AK (AO (DL B.B.NH))) Aa)
  (AK (AO (Dy B.B.R.told hr (AV B.L.share hr #[AV B.L.on hr #[pf (pv 2),pv 1],pf (pv 2)])))))),?_⟩
 refine⟨_,AA,_,hC.fT TW,_,AA,_,ht.fP TT,_,ht.tM,BF (λcc=> ?_) λcc=> ?_⟩
 ·rw[AG (HF cc)] at q;exact q
 have hn:=ne_nil cc;rw[AB (FA hn)] at q;refine⟨_,AA,_,AA,_,ht.fD TT,_,_,AA,AA,_,AA,BF (λcc=> ?_) λcc=> ?_⟩
 ·rw[AG (show h.watch.days<=t by have:=AM cc;omega)] at q;exact q
 have hd:¬h.watch.days<=t:=λz=>cc (AH ());rw[AB hd,Ob g hn] at q;obtain⟨h0,h9,B9⟩:=g.Wu (IK _) hn;refine⟨_,AA,_,ht.fP TT,_,AA,c.tp,t,_,AA,ht.tL,B9,λl1 H1 s1 L1=>⟨_,AA,_,(ht.same s1).fP TT,?_⟩⟩;exact⟨l1,c.tp,_,_,rfl,L1,(ht.same s1).tL,by have:=Kp h.watch.plans t;omega,B9,h0,h9,λv H2 s2 q2=>⟨_,q2,λl H3 s3=>q l H3 (s1.trans (s2.trans s3))⟩⟩
end
end
section
open Kp318 (total with_ without replyUp)
variable{cs:Cs}{CO CN:Addr}
theorem vf{x:DF}(g:DP x){m:Int}(h1:m∈x.plans.map λp=>((A7 4 p.set:Nat):Int))(h2:∀y∈x.plans.map λp=>((A7 4 p.set:Nat):Int),y<=m):((Nn x:Nat):Int)=m:=by
 have key:∀(l:List Al) (a:Nat),(∀p∈l,A7 x.days p.set=A7 4 p.set)->a<=l.foldl (λ(m:Nat) (p:Al)=>max m (A7 x.days p.set)) a/\(∀p∈l,A7 4 p.set<=l.foldl (λ(m:Nat) (p:Al)=>max m (A7 x.days p.set)) a)/\
   (l.foldl (λ(m:Nat) (p:Al)=>max m (A7 x.days p.set)) a=a\/∃p∈l,l.foldl (λ(m:Nat) (p:Al)=>max m (A7 x.days p.set)) a=A7 4 p.set):=by
  intro l;induction l with
  |nil=>intro a _;exact⟨As _,(λp hp=>nomatch hp),.inl rfl⟩
  |cons y l ih=>
   intro a hs;obtain⟨i1,i2,i3⟩:=ih (max a (A7 x.days y.set)) λp hp=>hs p (Bb _ hp);have hy:=hs y Bw;rw[LS];rw[hy] at i1 i2 i3 ⊢;refine⟨A6 (Nat.le_max_left _ _) i1,λp hp=> ?_,?_⟩
   ·rcases BQ.mp hp with rfl|hp
    ·exact A6 (Nat.le_max_right _ _) i1
    ·exact i2 p hp
   ·rcases i3 with e|⟨p,hp,e⟩
    ·by_cases hm:a<=A7 4 y.set
     ·exact .inr ⟨y,Bw,by rw[e];omega⟩
     ·exact .inl (by rw[e];omega)
    ·exact .inr ⟨p,Bb _ hp,e⟩
 obtain⟨_,i2,i3⟩:=key x.plans 0 λp hp=>OZ x.days (by have:=g.d4;omega) p.set (g.pl p hp).1;obtain⟨p,hp,rfl⟩:=Fp.mp h1;have a1:=i2 p hp;unfold Nn;rcases i3 with e|⟨p',tJ,e⟩
 ·omega
 ·have a2:=h2 _ (Fp.mpr ⟨p',tJ,rfl⟩);omega
theorem rE:∀s<16,A7 4 s<=4:=by decide+kernel
theorem DP.s16{x:DF}(g:DP x){p:Al}(hp:p∈x.plans):p.set<16:=Cm (g.pl p hp).1 (A6 (DM (()) g.d4) (()))
theorem vg:∀n<5,∀s<2^n,A7 n s<=n:=by decide+kernel
theorem vh{x:DF}(g:DP x):Nn x<=x.days:=by
 have key:∀(l:List Al) (a:Nat),a<=x.days->(∀p∈l,A7 x.days p.set<=x.days)->l.foldl (λ(m:Nat) (p:Al)=>max m (A7 x.days p.set)) a<=x.days:=by
  intro l;induction l with
  |nil=>intro a h _;exact h
  |cons y l ih=>intro a h hs;exact ih _ (Zx.mpr ⟨h,hs y Bw⟩) λp hp=>hs p (Bb _ hp)
 exact key _ 0 (BR _) λp hp=>vg x.days (by have:=g.d4;omega) p.set (g.pl p hp).1
theorem rF:∀t<4,∀s<2^t,∀a<16,decide (a%2^t=s)=(Cv t).all λi=>F7 a i==F7 s i:=by decide+kernel
section
variable(B:Ww P w K mg base cs CO CN)
include B
inductive vi(K:Ab)(CT:Addr):Sp
 |mk (t tp:Addr) (x:DF):vs= [.ref t]->TabAt K CT H t tp x->DP x->x.plans≠ []->(∀H',Ag H H'->Q (nV (Nn x)) H')->vi K CT vs H Q DJ
theorem rG(D:Def K mg "most_looks" GZ Ci):#[] 2 "most_looks" Ci (vi K cs.T):=by
 refine D.has (k:=1) My (λvs H Q E h=> ?_) (λf CL A outer st H vs Q E hr h=> ?_)
 ·obtain⟨t,tp,x,rfl,_⟩:=h;rfl
 obtain⟨t,tp,x,rfl,ht,g,hn,q⟩:=h;have nd:=My.nd;refine⟨_,AK (AO (Ax (zh rfl) (by rfl) B.max yF #[Kd (te:=Jn Kn [] E0 (Cq (Pj (Q9 K) (Cc 1) (tC (.int 0))) IM)) rfl nd (EM (pf (pv 0))) (DX (own:= [("each",1)]) (by rfl)) (λ_ _ _ _ _=>BK (i:=1) nd rfl (BJ rfl)) (λ_ _ _ _ _=>Mf) (λ_ _ _ _ _=>AV B.L.size hr #[BM BV (pv 1) AU (λ_ _=>rfl)])])),?_⟩;obtain⟨vs,hv,hp⟩:=ht.ps;have h10:=g.EX;refine⟨_,AA,_,ht.fP B.B.Z.tT,tp,AA,⟨_,A_.of hv⟩,λD1 SE=>Wo (λp=>((A7 4 p.set:Nat):Int)) (A_.of hv) hp SE () (λp b H' Q' hpm hb q'=> ?_) λH' s hD=> ?_⟩
 ·exact⟨_,AA,_,_,_,_,AA,AA,hb,AA,p.set,AA,g.s16 hpm,q'⟩
 ·refine⟨D1,_,AA,A_.of hD,?_,λm h1 h2=> ?_⟩
  ·rw[BP];exact List.length_pos_iff.mpr hn
  ·rw[←vf g h1 h2];exact q H' s
theorem ABG(ML:#[] 2 "most_looks" Ci (vi K cs.T))(D:Def K mg "mostlooks" Hm Ae):#[] 26 "mostlooks" Ae (spT K cs 0 λ_=> .most):=by
 exists 0,YR;obtain rfl:=DK.mp hl;replace q:∀l H',Ag H H'->H' l=some (.lst ((B5 h.watch .most).map V.int))->Q (.ref l) H':=q;rw[ABC] at q;have TW:=B.B.Z.tW;have TT:=B.B.Z.tT;have ht:=hC.ho.tab;refine⟨_,AF (Aj (BN (Ar (pf (pf (pv 0))) (λ_=>rfl))) (AK (AO (DL B.B.n6))) Aa) (AK (AO (HI (AV ML hr #[pf (pv 0)])))),?_⟩;refine⟨_,AA,_,hC.fT TW,_,ht.fP TT,_,ht.tM,BF (λcc=> ?_) λcc=> ?_⟩
 ·rw[AG (HF cc)] at q;exact q
 have hn:=ne_nil cc;rw[AB (FA hn)] at q;exact⟨_,AA,_,hC.fT TW,c.t,c.tp,_,AA,ht,g,hn,λH1 s1=>⟨_,AA,λl H2 s2=>q l H2 (s1.trans s2)⟩⟩
theorem rH(LW:#[] 14 "looks_worth" US (vY K cs.T))(D:Def K mg "worthlooks" Gb GG):#[] 26 "worthlooks" GG (spT K cs 1 λas=> .worth (as.getD 0 0)):=by
 exists 0,M1;obtain⟨m,rfl⟩:∃t,as= [t]:=match as,hl with| [a],_=>⟨a,rfl⟩
 replace q:∀l H',Ag H H'->H' l=some (.lst ((B5 h.watch (.worth m)).map V.int))->Q (.ref l) H':=q;rw[vd,BZ g.f1,Oa] at q;have TW:=B.B.Z.tW;have TT:=B.B.Z.tT;have ht:=hC.ho.tab;have nd:=M1.nd;refine⟨_,AF (2>>pf (pv 0)) (AF (Aj (Af CK (pv 1) (pf (pv 2)) (Ai _)) (AK (AO (DL B.B.NH))) Aa)
  (AK (AO (Dy B.B.R.told hr (AV LW hr #[pv 2,pv 1]))))),?_⟩
 refine⟨_,AA,_,hC.fT TW,_,AA,_,AA,_,ht.fD TT,_,_,AA,AA,_,AA,BF (λcc=> ?_) λcc=> ?_⟩
 ·rw[AG (show h.watch.days<m by have:=AM cc;omega)] at q;exact q
 have hd:¬h.watch.days<m:=λz=>cc (AH ());rw[AB hd] at q;exact⟨_,AA,_,AA,c.t,c.tp,_,m,AA,ht,g,(),λv H1 s1 q1=>⟨_,q1,λl H2 s2=>q l H2 (s1.trans s2)⟩⟩
theorem jD(D:Def K mg "bestlooked" Ge GG):#[] 26 "bestlooked" GG (spT K cs 1 λas=> .bestLooked (as.getD 0 0)):=by
 exists 0,M4;obtain⟨m,rfl⟩:∃t,as= [t]:=match as,hl with| [a],_=>⟨a,rfl⟩
 replace q:∀l H',Ag H H'->H' l=some (.lst ((B5 h.watch (.bestLooked m)).map V.int))->Q (.ref l) H':=q;rw[jC,DR g.f1,Oa] at q;have TW:=B.B.Z.tW;have TT:=B.B.Z.tT;have ht:=hC.ho.tab;have nd:=M4.nd;have d4:=g.d4;refine⟨_,AF (2>>pf (pv 0)) (AF (Aj (Af CK (pv 1) (pf (pv 2)) (Ai _)) (AK (AO (DL B.B.NH))) Aa)
  (AF (3>>AV B.L.best hr #[pf (pv 2),pv 1,pf (pv 2)])
  (AK (AO (Dy B.B.R.told hr (AV B.L.share hr #[AV B.L.on hr #[pv 3,AU],pv 3])))))),?_⟩
 refine⟨_,AA,_,hC.fT TW,_,AA,_,AA,_,ht.fD TT,_,_,AA,AA,_,AA,BF (λcc=> ?_) λcc=> ?_⟩
 ·rw[AG (show h.watch.days<m by have:=AM cc;omega)] at q;exact q
 have hd:¬h.watch.days<m:=λz=>cc (AH ());rw[AB hd] at q;obtain⟨h0,h9,B9⟩:=NK (m:=m) g.d4 () g.f1 g.f9;refine⟨_,AA,_,ht.fD TT,_,AA,_,AA,_,ht.fF TT,_,m,_,AA,g.d4,(),g.f9,λl1 xs H1 s1 n1 e1 p1=> ?_⟩;refine⟨_,AA,l1,0,_,AA,⟨xs,A_.of e1,p1⟩,B9,λl2 H2 s2 L2=>⟨_,AA,l2,l1,_,_,AA,L2,ZL.same ⟨xs,A_.of e1,p1⟩ s2,?_,B9,h0,h9,λv H3 s3 q3=>⟨_,?_,λl H4 s4=>q l H4 (s1.trans (s2.trans (s3.trans s4)))⟩⟩⟩
 ·exact A6 (Kp _ _) B9
 ·obtain⟨e3,e4⟩:=G' h.watch.days () m () h.watch.fine (by have:=g.f9;omega);rw[e3,e4] at q3;unfold lE;split at q3
  ·rename_i hz;rw[AG hz];have:((0:Nat):Rat) / ((lz h.watch.days m h.watch.fine:Nat):Rat)=0:=by rw[FK];exact Lw _
   rw[this] at q3;exact q3
  ·rename_i hz;rw[AB hz];exact q3
theorem rJ(TE:#[] 13 "table_end" Ci (vX K cs.T))(D:Def K mg "planscaught" Fe Ae):#[] 26 "planscaught" Ae (spT K cs 0 λ_=> .caught):=by
 exists 0,Lf;obtain rfl:=DK.mp hl;replace q:∀l H',Ag H H'->H' l=some (.lst ((B5 h.watch .caught).map V.int))->Q (.ref l) H':=q;rw[rA] at q;have TW:=B.B.Z.tW;have TT:=B.B.Z.tT;have ht:=hC.ho.tab;have nd:=Lf.nd;refine⟨_,AF (1>>pf (pv 0)) (AF (Aj (BN (Ar (pf (pv 1)) (λ_=>rfl))) (AK (AO (DL B.B.n6))) Aa)
  (AK (AO (Dy B.B.R.told hr (AV B.B.R.ratio hr #[BM BV (AV TE hr #[pv 1]) AU (λ_ _=>rfl),AV B.L.Wu hr #[pf (pv 1)]]))))),?_⟩
 refine⟨_,AA,_,hC.fT TW,_,AA,_,ht.fP TT,_,ht.tM,BF (λcc=> ?_) λcc=> ?_⟩
 ·rw[AG (HF cc)] at q;exact q
 have hn:=ne_nil cc;rw[AB (FA hn),Ob g hn] at q;obtain⟨h0,h9,B9⟩:=g.Wu (IK _) hn;refine⟨_,AA,c.t,c.tp,_,AA,ht,g,λv H1 s1 ⟨pr,e,hp⟩=> ?_⟩;subst e;refine⟨pr,_,_,_,AA,AA,hp,AA,_,AA,_,(ht.same s1).fP TT,c.tp,_,AA,(ht.same s1).tL,B9,λH2 s2=>⟨_,_,AA,h0,h9,λv H3 s3 q3=>⟨_,q3,λl H4 s4=>q l H4 (s1.trans (s2.trans (s3.trans s4)))⟩⟩⟩
theorem ABH(TE:#[] 13 "table_end" Ci (vX K cs.T))(D:Def K mg "plansdone" Hn Ae):#[] 26 "plansdone" Ae (spT K cs 0 λ_=> .done):=by
 exists 0,Pb;obtain rfl:=DK.mp hl;replace q:∀l H',Ag H H'->H' l=some (.lst ((B5 h.watch .done).map V.int))->Q (.ref l) H':=q;rw[ABE] at q;have TW:=B.B.Z.tW;have TT:=B.B.Z.tT;have ht:=hC.ho.tab;have nd:=Pb.nd;refine⟨_,AF (1>>pf (pv 0)) (AF (Aj (BN (Ar (pf (pv 1)) (λ_=>rfl))) (AK (AO (DL B.B.n6))) Aa)
  (AK (AO (Dy B.B.R.told hr (AV B.B.R.ratio hr #[BM BV (AV TE hr #[pv 1]) AU (λ_ _=>rfl),AV B.L.Wu hr #[pf (pv 1)]]))))),?_⟩
 refine⟨_,AA,_,hC.fT TW,_,AA,_,ht.fP TT,_,ht.tM,BF (λcc=> ?_) λcc=> ?_⟩
 ·rw[AG (HF cc)] at q;exact q
 have hn:=ne_nil cc;rw[AB (FA hn),Ob g hn] at q;obtain⟨h0,h9,B9⟩:=g.Wu (IK _) hn;refine⟨_,AA,c.t,c.tp,_,AA,ht,g,λv H1 s1 ⟨pr,e,hp⟩=> ?_⟩;subst e;refine⟨pr,_,_,_,AA,AA,hp,AA,_,AA,_,(ht.same s1).fP TT,c.tp,_,AA,(ht.same s1).tL,B9,λH2 s2=>⟨_,_,AA,h0,h9,λv H3 s3 q3=>⟨_,q3,λl H4 s4=>q l H4 (s1.trans (s2.trans (s3.trans s4)))⟩⟩⟩
end
end
section
open Kp318 (total with_ without replyUp)
variable{cs:Cs}{CO CN:Addr}
theorem rK{x:DF}(g:DP x):(x.plans.map λp=>((A7 4 p.set:Nat):Int)*(p.weight:Int)).sum=((x.plans.foldl (λ(a:Nat) (p:Al)=>a+p.weight*A7 x.days p.set) 0:Nat):Int):=by
 have key:∀(l:List Al) (a:Nat),(∀p∈l,A7 x.days p.set=A7 4 p.set)->(a:Int)+(l.map λp=>((A7 4 p.set:Nat):Int)*(p.weight:Int)).sum=((l.foldl (λ(a:Nat) (p:Al)=>a+p.weight*A7 x.days p.set) a:Nat):Int):=by
  intro l;induction l with
  |nil=>intro a _;simp
  |cons y l ih=>
   intro a hs;rw[LS,←ih _ λp hp=>hs p (Bb _ hp),B7,kQ,hs y Bw];push_cast;rw[Int.mul_comm (y.weight:Int)];omega
 have:=key x.plans 0 λp hp=>OZ x.days (by have:=g.d4;omega) p.set (g.pl p hp).1;rw[←this];simp
theorem ABI{x:DF}(g:DP x)(hn:x.plans≠ []):Z5 x=q (((U5 x:Int):Rat) / ((total x.plans:Nat):Rat) - wE x.fine x.days (Nn x) x.misdeeds):=by
 unfold Z5;rw[G0 _ (by have:=(g.Wu (IK _) hn).1;omega),BZ g.f1,HZ]
theorem nab{x:Int}{n:Nat}:x.natAbs<=n↔-(n:Int)<=x/\x<=n:=by omega
theorem rL(b:Nat)(hb:b<=9):∀(f t:Nat) (l:List Al) (k:Nat),(replyUp b f t l k).natAbs<=10^(f+1)*total l:=by
 intro f;induction f with
 |zero=>intro t l k;show(0:Int).natAbs<=_;simp
 |succ f ih=>
  intro t l k;have e:total l=total (with_ l t)+total (without l t):=by
   induction l with
   |nil=>rfl
   |cons p l ih2=>
    unfold Z4 ki at ih2 ⊢;by_cases hp:F7 p.set t=true
    ·rw[NY (p:=λ(p:Al)=>F7 p.set t) hp,NZ (p:=λ(p:Al)=> !F7 p.set t) (by simp[hp]),Ea,Ea,ih2];omega
    ·rw[NZ (p:=λ(p:Al)=>F7 p.set t) hp,NY (p:=λ(p:Al)=> !F7 p.set t) (by simp[hp]),Ea,Ea,ih2];omega
  have i1:=ih (t+1) (with_ l t) k;have i2:=ih (t+1) (without l t) k;have i3:=ih (t+1) (without l t) (k - 1);show(if l.isEmpty=true then(0:Int) else if k=0 then replyUp b f (t+1) (with_ l t) k+replyUp b f (t+1) (without l t) k else max (replyUp b f (t+1) (with_ l t) k+replyUp b f (t+1) (without l t) k) ((total (without l t):Int) - b*total (with_ l t)+replyUp b f (t+1) (without l t) (k - 1))).natAbs<=_;rw[e,Gr,Gs _ 10,Zs,Qi];have h1:1<=10^(f+1):=Zl (by simp);have h2:total (with_ l t)<=10^(f+1)*total (with_ l t):=Zj _ h1;have h3:total (without l t)<=10^(f+1)*total (without l t):=Zj _ h1;have h4:b*total (with_ l t)<=9*total (with_ l t):=Nat.mul_le_mul_right _ hb;have h5:((b:Int)*(total (with_ l t):Int))=((b*total (with_ l t):Nat):Int):=by push_cast;rfl
  rw[h5];generalize 10^(f+1)*total (with_ l t)=A at*
  generalize 10^(f+1)*total (without l t)=B at*
  rw[nab] at i1 i2 i3 ⊢;split
  ·omega
  ·split
   ·omega
   ·omega
theorem rM{x:DF}(g:DP x)(hn:x.plans≠ []):Sz 60 (((U5 x:Int):Rat) / ((total x.plans:Nat):Rat)):=by
 have h1:=rL x.fine g.f9 x.days 0 x.plans x.misdeeds;obtain⟨h0,_,_⟩:=g.Wu (IK _) hn;have h2:total x.plans<=70000:=by
  have:=SR (c:=7000) (ps:=x.plans) λp hp=>(g.pl p hp).2.2;have:=g.EX;omega
 have h3:10^(x.days+1)<=10^5:=DM (()) (by have:=g.d4;omega);refine Sz.JG _ h0 (DU (A6 h1 (Ji h3 h2)) (())) (DU h2 (()))
section
variable(B:Ww P w K mg base cs CO CN)
include B
theorem ABJ(TR:#[] 14 "table_reply" Ci (vW K cs.T))(LW:#[] 14 "looks_worth" US (vY K cs.T))(ML:#[] 2 "most_looks" Ci (vi K cs.T))(D:Def K mg "over" WE Ae):#[] 26 "over" Ae (spT K cs 0 λ_=> .over):=by
 exists 0,pd;obtain rfl:=DK.mp hl;replace q:∀l H',Ag H H'->H' l=some (.lst ((B5 h.watch .over).map V.int))->Q (.ref l) H':=q;rw[ABD] at q;have TW:=B.B.Z.tW;have TT:=B.B.Z.tT;have ht:=hC.ho.tab;have nd:=pd.nd;refine⟨_,AF (1>>pf (pv 0)) (AF (Aj (BN (Ar (pf (pv 1)) (λ_=>rfl))) (AK (AO (DL B.B.n6))) Aa)
  (AK (AO (Dy B.B.R.told hr (AV B.B.R.minus hr #[AV TR hr #[pv 1],AV LW hr #[pv 1,AV ML hr #[pv 1]]]))))),?_⟩
 refine⟨_,AA,_,hC.fT TW,_,AA,_,ht.fP TT,_,ht.tM,BF (λcc=> ?_) λcc=> ?_⟩
 ·rw[AG (HF cc)] at q;exact q
 have hn:=ne_nil cc;rw[AB (FA hn),ABI g hn,Oa] at q;refine⟨_,AA,c.t,c.tp,_,AA,ht,g,hn,λv1 H1 s1 q1=>⟨_,AA,_,AA,c.t,c.tp,_,AA,ht.same s1,g,hn,λH2 s2=> ?_⟩⟩;refine⟨c.t,c.tp,_,_,AA,ht.same (s1.trans s2),g,vh g,λv3 H3 s3 q3=>⟨v1,v3,_,_,AA,q1.same (s2.trans s3),q3,IF (rM g hn),IF (fI g.f1 (by have:=g.f9;omega) (by have:=g.d4;omega) _ _),trivial,λv H4 s4 q4=>⟨_,q4,λl H5 s5=>q l H5 (s1.trans (s2.trans (s3.trans (s4.trans s5))))⟩⟩⟩
theorem ABK(D:Def K mg "meanlooks" Hl Ae):#[] 26 "meanlooks" Ae (spT K cs 0 λ_=> .mean):=by
 exists 0,Pa;obtain rfl:=DK.mp hl;replace q:∀l H',Ag H H'->H' l=some (.lst ((B5 h.watch .mean).map V.int))->Q (.ref l) H':=q;rw[ABB] at q;have TW:=B.B.Z.tW;have TT:=B.B.Z.tT;have ht:=hC.ho.tab;have nd:=Pa.nd;refine⟨_,AF (1>>pf (pv 0)) (AF (Aj (BN (Ar (pf (pv 1)) (λ_=>rfl))) (AK (AO (DL B.B.n6))) Aa)
  (AF (2>>Ax (oS rfl) (by rfl) B.sum mK #[Kd (te:=Pj (rI gz λi j=> .int (i*j)) (Jn Kn [] E0 (Cq (Pj (Q9 K) (Cc 3) (tC (.int 0))) IM)) (Pj (Q9 K) (Cc 3) (tC (.int 1)))) rfl nd (EM (pf (pv 1))) (DX (own:= [("each",3)]) (by rfl)) (λ_ _ _ _ _=>BK (i:=3) nd rfl (BJ rfl)) (λ_ _ _ _ _=>Mf) (λ_ _ _ _ _=>Ay nZ (AV B.L.size hr #[BM BV (pv 3) AU (λ_ _=>rfl)]) (BM BV (pv 3) AU (λ_ _=>rfl)))])
  (AK (AO (Dy B.B.R.told hr (AV B.B.R.ratio hr #[pv 2,AV B.L.Wu hr #[pf (pv 1)]])))))),?_⟩
 refine⟨_,AA,_,hC.fT TW,_,AA,_,ht.fP TT,_,ht.tM,BF (λcc=> ?_) λcc=> ?_⟩
 ·rw[AG (HF cc)] at q;exact q
 have hn:=ne_nil cc;rw[AB (FA hn),Ob g hn] at q;obtain⟨h0,h9,B9⟩:=g.Wu (IK _) hn;obtain⟨vs,hv,hp⟩:=ht.ps;refine⟨_,AA,_,ht.fP TT,c.tp,AA,⟨_,A_.of hv⟩,λD1 SE=>Wo (λp=>((A7 4 p.set:Nat):Int)*(p.weight:Int)) (A_.of hv) hp SE B9 (λp b H' Q' hpm hb q'=> ?_) λH1 s1 hD=> ?_⟩
 ·have h4:=rE p.set (g.s16 hpm);exact⟨_,AA,_,_,_,_,AA,AA,hb,AA,p.set,AA,g.s16 hpm,_,AA,_,_,_,_,AA,AA,hb,AA,_,_,AA,AA,.inl ⟨by show _< ((A7 4 p.set:Nat):Int);omega,by show((A7 4 p.set:Nat):Int)<_;omega⟩,q'⟩
 ·refine⟨D1,_,AA,A_.of hD,_,AA,_,AA,_,(ht.same s1).fP TT,c.tp,_,AA,(ht.same s1).tL,B9,λH2 s2=>⟨_,_,AA,h0,h9,λv H3 s3 q3=>⟨_,?_,λl H4 s4=>q l H4 (s1.trans (s2.trans (s3.trans s4)))⟩⟩⟩;rw[rK g] at q3;exact q3
theorem cP(D:Def K mg "unlooked" JY Ae):#[] 26 "unlooked" Ae (spT K cs 0 λ_=> .unlooked):=by
 exists 0,Rx;obtain rfl:=DK.mp hl;replace q:∀l H',Ag H H'->H' l=some (.lst ((B5 h.watch .unlooked).map V.int))->Q (.ref l) H':=q;rw[cN] at q;have TW:=B.B.Z.tW;have TT:=B.B.Z.tT;have ht:=hC.ho.tab;have nd:=Rx.nd;refine⟨_,AF (1>>pf (pv 0)) (AF (Aj (BN (Ar (pf (pv 1)) (λ_=>rfl))) (AK (AO (DL B.B.n6))) Aa)
  (AK (AO (Dy B.B.R.told hr (AV B.L.share hr #[Kd (tt:=KW (Pj rEq (Pj (Q9 K) (Cc 2) (tC (.int 0))) (tC (.int 0)))) rfl nd (EM (pf (pv 1))) (DX (own:= [("each",2)]) (by rfl)) (λ_ _ _ _ _=>BK (i:=2) nd rfl (BJ rfl)) (λ_ _ _ _ _=>JD (Af B_ (BM BV (pv 2) AU (λ_ _=>rfl)) AU (Ai _))) (λ_ _ _ _ _=>pv 2),pf (pv 1)]))))),?_⟩
 refine⟨_,AA,_,hC.fT TW,_,AA,_,ht.fP TT,_,ht.tM,BF (λcc=> ?_) λcc=> ?_⟩
 ·rw[AG (HF cc)] at q;exact q
 have hn:=ne_nil cc;rw[AB (FA hn),Ob g hn] at q;obtain⟨h0,h9,B9⟩:=g.Wu (IK _) hn;obtain⟨vs,hv,hp⟩:=ht.ps;refine⟨_,AA,_,ht.fP TT,c.tp,AA,⟨_,A_.of hv⟩,λD1 SE=>Ik (λp=>p.set==0) (by show 2<3;decide) (A_.of hv) hp SE B9 (λp b H' Q' hb q'=> ?_) λH1 xs s1 hD hx=> ?_⟩
 ·refine⟨_,AA,_,_,_,_,AA,AA,hb,AA,AA,_,AA,?_⟩;rw[Bg];exact q'
 ·exact⟨_,AA,_,(ht.same s1).fP TT,D1,c.tp,_,_,AA,⟨xs,A_.of hD,hx⟩,(ht.same s1).tL,A6 (QU _ _) B9,B9,h0,h9,λv H2 s2 q2=>⟨_,q2,λl H3 s3=>q l H3 (s1.trans (s2.trans s3))⟩⟩
end
end
section
open Kp318 (total with_ without replyUp)
variable{cs:Cs}{CO CN:Addr}
section
variable(B:Ww P w K mg base cs CO CN)
include B
theorem vj(TA:#[] 3 "table_answerer" Ci (cK K cs.T CN))(D:Def K mg "daresnow" JX Ae):#[] 26 "daresnow" Ae (spT K cs 0 λ_=> .dares):=by
 exists 0,Rw;obtain rfl:=DK.mp hl;replace q:∀l H',Ag H H'->H' l=some (.lst ((B5 h.watch .dares).map V.int))->Q (.ref l) H':=q;rw[va] at q;have TW:=B.B.Z.tW;have TT:=B.B.Z.tT;have TN:=B.N.T;have ht:=hC.ho.tab;have nd:=Rw.nd;refine⟨_,AF (1>>pf (pv 0)) (AF (Aj (BN (Ar (pf (pv 1)) (λ_=>rfl))) (AK (AO (DL B.B.n6))) Aa)
  (AF (Aj (Af B_ (pf (pv 1)) AU (Ai _)) (AK (AO (HI AU))) Aa)
  (AF (2>>AV TA hr #[pv 1])
  (AF (3>>Ws B.N.got TN.cl hr (pv 2) #[Ws B.N.Yq TN.cl hr (pv 2) #[pf (pv 1),AU,pf (pv 1)]])
  (AF (4>>Ws B.N.got TN.cl hr (pv 2) #[Ws B.N.E9 TN.cl hr (pv 2) #[pf (pv 1),AU,pf (pv 1)]])
  (AF (Aj (Af B_ (pv 3) (pv 4) (Ai _)) (AK (AO (HI AU))) Aa)
  (AK (AO (HI (MW (Af CK (pv 3) (pv 4) (Ai _)) AU AU)))))))))),?_⟩
 refine⟨_,AA,_,hC.fT TW,_,AA,_,ht.fP TT,_,ht.tM,BF (λcc=> ?_) λcc=> ?_⟩
 ·rw[AG (HF cc)] at q;exact q
 have hn:=ne_nil cc;rw[AB (FA hn)] at q;refine⟨_,AA,_,ht.fM TT,AA,_,AA,BF (λcc=> ?_) λcc=> ?_⟩
 ·rw[Bg] at cc;rw[AG (AM cc)] at q;exact⟨_,AA,q⟩
 rw[Bg] at cc;have hk:¬h.watch.misdeeds=0:=λz=>cc (AH z);rw[AB hk] at q;obtain⟨h0,h9,B9⟩:=g.Wu (IK _) hn;have d1:=g.d1;have d4:=g.d4;refine⟨_,AA,c.t,c.tp,_,AA,ht,λo H1 s1 a1=> ?_⟩;have t1:=ht.same s1;refine⟨_,AA,o,AA,a1.of "got",_,AA,o,AA,a1.of "if_dared",_,AA,_,t1.fP TT,_,AA,_,t1.fM TT,o,c.tp,_,_,0,_,_,AA,a1,t1.tL,(),⟨d1,()⟩,g.f9,B9,λv2 H2 s2 q2=> ?_⟩;have a2:=a1.same s2;have t2:=t1.same s2;refine⟨o,v2,_,_,_,AA,a2,q2,g.f9,?_⟩;refine⟨_,AA,o,AA,a2.of "got",_,AA,o,AA,a2.of "if_waited",_,AA,_,t2.fP TT,_,AA,_,t2.fM TT,o,c.tp,_,_,0,_,_,AA,a2,t2.tL,(),d1,g.f9,B9,λv3 H3 s3 q3=> ?_⟩;refine⟨o,v3,_,_,_,AA,a2.same s3,q3,g.f9,?_⟩;have eD:JH h.watch.fine (xk h.watch.days h.watch.fine 0 h.watch.plans h.watch.misdeeds)=Iu h.watch.fine h.watch.days 0 h.watch.plans h.watch.misdeeds:=X8 _ _;have eW:JH h.watch.fine (xl h.watch.days h.watch.fine 0 h.watch.plans h.watch.misdeeds)=Iq h.watch.fine h.watch.days 0 h.watch.plans h.watch.misdeeds:=X9 _ _;rw[eD,eW];generalize Iu h.watch.fine h.watch.days 0 h.watch.plans h.watch.misdeeds=x at*
 generalize Iq h.watch.fine h.watch.days 0 h.watch.plans h.watch.misdeeds=y at*
 have ABL:=s1.trans (s2.trans s3);refine⟨_,AA,_,AA,AA,_,AA,BF (λcc=> ?_) λcc=> ?_⟩
 ·have e:x=y:=by have:=AM cc;injection this
  rw[AB (),AB ()] at q;exact⟨_,AA,λl H4 s4=>q l H4 (ABL.trans s4)⟩
 have e:¬x=y:=λz=>cc (AH (by rw[z]));refine⟨_,AA,_,AA,_,_,AA,AA,_,AA,BF (λcc=> ?_) λcc=> ?_⟩
 ·have:=AM cc;rw[AG ()] at q;exact⟨_,AA,λl H4 s4=>q l H4 (ABL.trans s4)⟩
 ·have:¬y<x:=λz=>cc (AH z);rw[AB (),AG ()] at q;exact⟨_,AA,λl H4 s4=>q l H4 (ABL.trans s4)⟩
theorem rN(D:Def K mg "bestchance" Gd fW):#[] 26 "bestchance" fW (spT K cs 2 λas=> .bestChance (as.getD 0 0) (as.getD 1 0)):=by
 exists 0,M3;obtain⟨m,s,rfl⟩:∃a b,as= [a,b]:=match as,hl with| [a,b],_=>⟨a,b,rfl⟩
 replace q:∀l H',Ag H H'->H' l=some (.lst ((B5 h.watch (.bestChance m s)).map V.int))->Q (.ref l) H':=q;rw[rC,G0 _ (by have:=DG g.f1 h.watch.days m;omega),Oa] at q;have TW:=B.B.Z.tW;have TT:=B.B.Z.tT;have ht:=hC.ho.tab;have nd:=M3.nd;have d4:=g.d4;refine⟨_,AF (3>>pf (pv 0)) (AF (Aj (Ep (Af CK (pv 1) (pf (pv 3)) (Ai _)) (FP (CU (AV B.L.bey hr #[pv 2,pf (pv 3)])))).pt (AK (AO (DL B.B.NH))) Aa)
  (AF (4>>AV B.L.best hr #[pf (pv 3),pv 1,pf (pv 3)])
  (AK (AO (Dy B.B.R.told hr (AV B.L.share hr #[Kd (tt:=KW (Pj rEq (Pj (Q9 K) (Cc 5) (tC (.int 0))) (Cc 2))) rfl nd (EM (pv 4)) (DX (own:= [("each",5)]) (by rfl)) (λ_ _ _ _ _=>BK (i:=5) nd rfl (BJ rfl)) (λ_ _ _ _ _=>JD (Af B_ (BM BV (pv 5) AU (λ_ _=>rfl)) (pv 2) (Ai _))) (λ_ _ _ _ _=>pv 5),pv 4])))))),?_⟩
 refine⟨_,AA,_,hC.fT TW,_,AA,_,AA,_,ht.fD TT,_,_,AA,AA,_,AA,BF (λcc=> ?_) λcc=> ?_⟩
 ·rw[AG (.inl (show h.watch.days<m by have:=AM cc;omega))] at q;exact Au q
 have hd:¬h.watch.days<m:=λz=>cc (AH ());refine⟨_,AA,_,AA,_,ht.fD TT,s,_,AA,_,AA,BF (λcc=> ?_) λcc=> ?_⟩
 ·rw[AG (.inr (AM cc))] at q;exact q
 have hs:¬2^h.watch.days<=s:=λz=>cc (AH z);rw[AB (λz=>z.elim hd hs)] at q;obtain⟨h0,h9,B9⟩:=NK (m:=m) g.d4 () g.f1 g.f9;refine⟨_,AA,_,ht.fD TT,_,AA,_,AA,_,ht.fF TT,_,m,_,AA,g.d4,(),g.f9,λl1 xs H1 s1 n1 e1 p1=> ?_⟩;refine⟨_,AA,l1,AA,⟨_,A_.of e1⟩,λD1 SE=>Ik (λp=>p.set==s) (by show 5<6;decide) (A_.of e1) p1 SE B9 (λp b H' Q' hb q'=> ?_) λH2 ys s2 hD hx=> ?_⟩
 ·refine⟨_,AA,_,_,_,_,AA,AA,hb,AA,_,AA,AA,_,AA,?_⟩;rw[Wv];exact q'
 ·refine⟨_,AA,D1,l1,_,_,AA,⟨ys,A_.of hD,hx⟩,ZL.same ⟨xs,A_.of e1,p1⟩ s2,A6 (QU _ _) B9,B9,h0,h9,λv H3 s3 q3=>⟨_,?_,λl H4 s4=>q l H4 (s1.trans (s2.trans (s3.trans s4)))⟩⟩;have e3:=(G' h.watch.days () m () h.watch.fine (by have:=g.f9;omega)).1;have e4:=pG h.watch.days () m () s () h.watch.fine (by have:=g.f9;omega);rw[e3,e4] at q3;have e5:(((if A7 h.watch.days s<=m then((h.watch.fine^(m - A7 h.watch.days s):Nat):Int) else 0:Int)):Rat)=(((if A7 h.watch.days s<=m then h.watch.fine^(m - A7 h.watch.days s) else 0:Nat)):Rat):=by split <;> rfl
  rw[e5];exact q3
theorem ABM(TA:#[] 3 "table_answerer" Ci (cK K cs.T CN))(D:Def K mg "seen" WD fV):#[] 26 "seen" fV (spT K cs 3 λas=> .seen (as.getD 0 0) (as.getD 1 0) (as.getD 2 0)):=by
 exists 0,pb;obtain⟨t,s,k,rfl⟩:∃a b c,as= [a,b,c]:=match as,hl with| [a,b,c],_=>⟨a,b,c,rfl⟩
 replace q:∀l H',Ag H H'->H' l=some (.lst ((B5 h.watch (.seen t s k)).map V.int))->Q (.ref l) H':=q;rw[ABA] at q;have TW:=B.B.Z.tW;have TT:=B.B.Z.tT;have ht:=hC.ho.tab;have nd:=pb.nd;have d4:=g.d4;refine⟨_,AF (4>>pf (pv 0)) (AF (Aj (BN (Ar (pf (pv 4)) (λ_=>rfl))) (AK (AO (DL B.B.n6))) Aa)
  (AF (Aj (Ep (Af Oy (pv 1) (pf (pv 4)) (Ai _)) (Ep (CU (AV B.L.bey hr #[pv 2,pv 1])) (FP (Af CK (pv 3) (BD B.mM) (Ai _))))).pt (AK (AO (DL B.B.NH))) Aa)
  (AF (oV (i:=5) (own:= [("each",6)]) (tt:=KW (Pj rEq (Pj (rI (λ_ j=>0<j) λi j=> .int (i%j)) (Pj (Q9 K) (Cc 6) (tC (.int 0))) (Pj (rI ACd λi j=> .int (i*2^j.toNat)) (tC (.int 1)) (Cc 1))) (Cc 2))) rfl nd rfl rfl (uF rfl rfl rfl rfl) (EM (pf (pv 4))) (DX (own:= [("each",6)]) (by rfl)) (λ_ _ _ _ _=>BK (i:=6) nd rfl (BJ rfl)) (λ_ _ _ _ _=>JD (Af B_ (Ay ng (BM BV (pv 6) AU (λ_ _=>rfl)) (Ay nh AU (pv 1))) (pv 2) (Ai _))) (λ_ _ _ _ _=>pv 6))
  (AF (Aj (BN (Ar (pv 5) (λ_=>rfl))) (AK (AO (DL B.B.vL))) Aa)
  (AK (AO (Dy B.B.R.told hr (Ws B.N.bg B.N.T.cl hr (AV TA hr #[pv 4]) #[pv 5,pv 1,pv 3])))))))),?_⟩
 refine⟨_,AA,_,hC.fT TW,_,AA,_,ht.fP TT,_,ht.tM,BF (λcc=> ?_) λcc=> ?_⟩
 ·rw[AG (HF cc)] at q;exact q
 have hn:=ne_nil cc;rw[AB (FA hn)] at q;refine⟨_,AA,_,AA,_,ht.fD TT,_,_,AA,AA,_,AA,BF (λcc=> ?_) λcc=> ?_⟩
 ·rw[AG (.inl (show h.watch.days<=t by have:=AM cc;omega))] at q;exact Au q
 have hd:¬h.watch.days<=t:=λz=>cc (AH ());refine⟨_,AA,_,AA,s,t,AA,_,AA,BF (λcc=> ?_) λcc=> ?_⟩
 ·rw[AG (.inr (.inl (AM cc)))] at q;exact Au q
 have hs:¬2^t<=s:=λz=>cc (AH z);refine⟨_,AA,_,_,AA,AA,_,AA,BF (λcc=> ?_) λcc=> ?_⟩
 ·rw[AG (.inr (.inr (by have:=AM cc;omega)))] at q;exact q
 have hk:¬6<k:=λz=>cc (AH (by show(6:Int)< (k:Int);omega));rw[AB (λz=>z.elim hd λz=>z.elim hs hk)] at q;obtain⟨h0,h9,B9⟩:=g.Wu (IK _) hn;obtain⟨vs,hv,hp⟩:=ht.ps;have es:U4 h.watch t s=h.watch.plans.filter λp=>decide (p.set%2^t=s):=kM λp hp=>(rF t () s () p.set (g.s16 hp)).symm;rw[es] at q;refine⟨_,AA,_,ht.fP TT,c.tp,AA,⟨_,A_.of hv⟩,λD1 SE=>Ik (λp=>decide (p.set%2^t=s)) (by show 6<7;decide) (A_.of hv) hp SE B9 (λp b H' Q' hb q'=> ?_) λH1 ys s1 hD hx=> ?_⟩
 ·refine⟨_,AA,_,_,_,_,AA,AA,hb,AA,_,AA,_,_,AA,AA,⟨by show(0:Int)<=t;omega,by show(t:Int)<=1000000;omega,(())⟩,_,_,AA,AA,?_,_,AA,AA,_,AA,?_⟩
  ·show(0:Int)<1*2^((t:Int).toNat);rw[Wr];exact_mod_cast Zp t
  ·have e:decide (V.int ((p.set:Int)%(1*2^((t:Int).toNat)))=nV s)=decide (p.set%2^t=s):=by
    rw[Wr,←k7];exact Wv
   show Q' (decide (V.int ((p.set:Int)%(1*2^((t:Int).toNat)))=nV s)) H';rw[e];exact q'
 generalize TM:h.watch.plans.filter (λp=>decide (p.set%2^t=s))=ps at*
 have AFS:ps.Sublist h.watch.plans:=by rw[←TM];exact ZX
 have ev:ys.isEmpty=ps.isEmpty:=by
  have:=hx.len;cases ys <;> cases ps <;> simp_all
 refine⟨_,AA,!ps.isEmpty,.inl ⟨_,A_.of hD,by rw[ev]⟩,BF (λcc=> ?_) λcc=> ?_⟩
 ·rw[AG (HF cc)] at q;exact λl H2 s2=>q l H2 (s1.trans s2)
 have hn2:=ne_nil cc;obtain⟨g0,g9,ADt⟩:=g.Wu AFS hn2;rw[AB (FA hn2),G0 _ (),Oa] at q;refine⟨_,AA,c.t,c.tp,_,AA,ht.same s1,λo H2 s2 a2=>⟨o,AA,a2.of "best_got",_,AA,_,AA,_,AA,o,D1,_,_,t,k,ps,AA,a2,ZL.same ⟨ys,A_.of hD,hx⟩ s2,d4,(),g.f9,ADt,g0,g9,λv H3 s3 q3=>⟨_,q3,λl H4 s4=>q l H4 (s1.trans (s2.trans (s3.trans s4)))⟩⟩⟩
def prs(l:List Al):List Int:=l.flatMap λ(p:Al)=> [(p.set:Int),(p.weight:Int)]
omit B in
theorem vk(l:List Al):(prs l).length=2*l.length:=by
 induction l with
 |nil=>rfl
 |cons p l ih=>show(prs l).length+1+1=2*(l.length+1);omega
theorem ABN(D:Def K mg "plans" QG Ae):#[] 26 "plans" Ae (spT K cs 0 λ_=> .told):=by
 exists 0,fi;obtain rfl:=DK.mp hl;replace q:∀l H',Ag H H'->H' l=some (.lst ((B5 h.watch .told).map V.int))->Q (.ref l) H':=q;rw[ABF] at q;have TW:=B.B.Z.tW;have TT:=B.B.Z.tT;have ht:=hC.ho.tab;have nd:=fi.nd;refine⟨_,AF (1>>pf (pv 0)) (AF (2>>Am #[pf (pv 1),pf (pv 1),pf (pv 1),Ax Ak (by rfl) B.B.len Cz #[pf (pv 1)]])
  (AF (H_ HS rfl (EM (pf (pv 1))) (BK (i:=3) nd rfl (BJ rfl))
   (AK (Bu (KY IJ Qo aA fj (pv 2) #[pv 3]))))
  (AK (AO (pv 2))))),?_⟩
 obtain⟨vs,hv,hp⟩:=ht.ps;have h10:=g.EX;have hlen:=hp.len;refine⟨_,AA,_,hC.fT TW,_,AA,_,ht.fD TT,_,AA,_,ht.fM TT,_,AA,_,ht.fF TT,_,AA,_,ht.fP TT,c.tp,_,AA,.inl (A_.of hv),(by show 4<=sizeLine;decide),λl hl=> ?_⟩;rw[hlen];have s1:Ag H (upd H l (.lst [nV h.watch.days,nV h.watch.misdeeds,nV h.watch.fine,.int (h.watch.plans.length:Nat)])):=AX hl _;refine⟨_,AA,_,(ht.same s1).fP TT,c.tp,AA,⟨_,A_.of (s1 _ _ hv)⟩,XZ (K:=K) (a:=c.tp) (xs:=vs) (λi σ H'=>∃v:Option V,σ= [some (.ref p),some (.ref c.t),some (.ref l),v]/\Ag H H'/\H' l=some (.lst (((h.watch.days:Int)::(h.watch.misdeeds:Int)::(h.watch.fine:Int)::(h.watch.plans.length:Int)::prs (h.watch.plans.take i)).map V.int)))
  ⟨none,AA,s1,AJ⟩ (λi σ H' _ ⟨_,_,s2,_⟩=>A_.of (s2 _ _ hv)) ?_ ?_⟩
 ·rintro i v σ H' hi ⟨_,rfl,s2,h2⟩;obtain⟨pl,b,qm,rfl,hb⟩:=hp.get hi;refine⟨_,AA,.inl ⟨AA,_,A_.of h2⟩,_,AA,l,b,_,_,AA,AA,h2,Bi.same hb s2,?_,?_⟩
  ·rw[BP];simp only[CD,vk,LR,Nd];exact KG (Ko ())
  ·refine⟨_,AA,λb o e=>by rw[AS (AQ e hl)];exact s2 b o e,?_⟩;rw[AJ,EZ qm];simp[prs,nV]
 ·rintro σ H' ⟨v,rfl,s2,h2⟩;refine⟨_,AA,?_⟩;rw[hlen,KA] at h2;exact q l H' s2 h2
end
end
section
open Kp318 (total)
section
variable{X:Cx}{e:Expr}{te:TE}{pos p p':Pos}{j n:Nat}{x:Str}
inductive ADu(n:Nat)(Q:VK)(v:V)(H1:Hp):Prop
 |mk (b:Nat) (x0:v=nV b) (x1:Q (.bl (decide (1<=b) && decide (b<=n))) H1):ADu n Q v H1
def tIn(te:TE)(n:Nat):TE:=λσ H Q=>te σ H (ADu n Q)
theorem rO{b n:Nat}{H:Hp}{Q:VK}(q:Q (.bl (decide (1<=b) && decide (b<=n))) H):∃k:Bool,(V.bl (decide ((1:Int)<=(b:Int))))= .bl k/\(if k=true then gy (λi j=> .bl (decide (i<=j))) (nV b) (.int (n:Int)) H Q else Q (.bl false) H):=by
 refine⟨_,AA,?_⟩;by_cases h1:1<=b
 ·rw[AH (show(1:Int)<=(b:Int) by omega)];rw[AH h1,U2] at q;refine Au ⟨_,_,rfl,rfl,?_⟩;have e:decide ((b:Int)<=(n:Int))=decide (b<=n):=by rw[Jj];simp only[decide_eq_true_eq];omega
  rw[e];exact q
 ·rw[AL (show¬(1:Int)<=(b:Int) by omega)];rw[AL h1,Ql] at q;exact A' q
theorem pin(he:PE X e te)(h:B' X.mg x (n:Int))(hg:Gl X x:=by rfl)(hd:(x==("__debug__":Str))=false:=by decide)(hm:lastMarks [.LtE,.LtE] [e,.Name x p']=false:=by with_unfolding_all rfl):PE X (.Compare (.Constant (.int 1) j p) [.LtE,.LtE] [e,.Name x p'] pos) (tIn te n):=λpins s σ H Q I k=>
 Xa Q4 Q4 AU (pmo he) (BD h hg hd) hm pins s σ H Q I ⟨_,k,λv H1 ⟨b,ev,q⟩=>by subst ev;exact⟨_,_,AA,AA,rO q⟩⟩
theorem ABO(he:PE X e te)(h:B' X.mg x (n:Int))(hg:Gl X x:=by rfl)(hd:(x==("__debug__":Str))=false:=by decide)(hm:lastMarks [.LtE,.LtE] [e,.Name x p']=false:=by with_unfolding_all rfl):PT X (.Compare (.Constant (.int 1) j p) [.LtE,.LtE] [e,.Name x p'] pos) (KW (tIn te n)):=λpins s σ H Q I k=>
 nu Q4 Q4 AU (pmo he) (BD h hg hd) hm pins s σ H Q I ⟨_,k,λv H1 ⟨b,ev,q⟩=>by subst ev;exact⟨_,_,AA,AA,rO (Q:=tBK Q) q⟩⟩
end
variable{cs:Cs}{CO CN:Addr}
structure F5(H H':Hp)(c:Ad):Prop where
 fr:∀a u,H a=some u->a≠c.t->a≠c.tp->H' a=some u
theorem F5.same{H H':Hp}(s:Ag H H')(c:Ad):F5 H H' c:=⟨λa u h _ _=>s a u h⟩
theorem F5.trans{H H1 H2:Hp}{c:Ad}(a:F5 H H1 c)(b:F5 H1 H2 c):F5 H H2 c:=⟨λx u h n1 n2=>b.fr x u (a.fr x u h n1 n2) n1 n2⟩
theorem Ad.nt{c:Ad}(h:c.l.Nodup):c.s≠c.t/\c.a≠c.t/\c.sd≠c.tp/\c.t≠c.tp:=by
 simp only[Ad.l,Bx,BQ,HN,or_false,not_or,not_false_eq_true,GD,and_true] at h;exact⟨h.1.2.2.1,h.2.2.1.1,h.2.1.2.2,h.2.2.2⟩
theorem Av.AFT{H H':Hp}{p kl tp:Addr}{c:Ad}{h:Aw}{x:DF}(hC:Av K cs H p kl c h)(s:F5 H H' c)(n:TabAt K cs.T H' c.t tp x)(np:p≠c.t)(nn:tp=c.tp\/H tp=none):Av K cs H' p kl {c with tp:=tp} {h with watch:=x}:=by
 obtain⟨dx,hp⟩:=hC.ob;obtain⟨ds,hs⟩:=hC.ho.DT.ob;have Gi:=hC.ho.DT.ds;obtain⟨da,ha⟩:=hC.ho.OV.ob;obtain⟨dt,ht⟩:=hC.ho.tab.ob;obtain⟨vs,hv,Dn⟩:=hC.ho.tab.ps;obtain⟨n1,n2,n3,n4⟩:=Ad.nt hC.nd;refine⟨⟨dx,s.fr _ _ hp np (Ao hp hv (by intro y;cases y))⟩,⟨⟨⟨ds,s.fr _ _ hs n1 (Ao hs hv (by intro y;cases y))⟩,s.fr _ _ Gi (Ao Gi ht (by intro y;cases y)) n3⟩,⟨⟨da,s.fr _ _ ha n2 (Ao ha hv (by intro y;cases y))⟩⟩,n⟩,?_⟩;rcases nn with rfl|nn
 ·exact hC.nd
 ·have h0:=hC.nd;simp only[Ad.l,Bx,BQ,HN,or_false,not_or,not_false_eq_true,GD,and_true] at h0 ⊢;exact⟨⟨h0.1.1,h0.1.2.1,h0.1.2.2.1,AQ hs nn⟩,⟨h0.2.1.1,h0.2.1.2.1,AQ Gi nn⟩,⟨h0.2.2.1.1,AQ ha nn⟩,AQ ht nn⟩
theorem F5.moves{H H':Hp}{c:Ad}(s:F5 H H' c)(p tp:Addr)(nn:tp=c.tp\/H tp=none):Bp H H' p c {c with tp:=tp}:=
 ⟨λa u h _ n=>s.fr a u h (λz=>n (by rw[z];simp[Ad.l])) (λz=>n (by rw[z];simp[Ad.l])),λa h=>by
  simp only[Ad.l,BQ,HN,or_false] at h ⊢;rcases h with h|h|h|h|h
  ·exact .inl (.inl h)
  ·exact .inl (.inr (.inl h))
  ·exact .inl (.inr (.inr (.inl h)))
  ·exact .inl (.inr (.inr (.inr (.inl h))))
  ·rcases nn with z|z
   ·exact .inl (.inr (.inr (.inr (.inr (h.trans z)))))
   ·exact .inr (by rw[h];exact z)⟩
def FU(h:Aw)(c:Lr):Aw:=match(Co (some h.watch) c).1 with
 |some s=>{h with watch:=s}
 |none=>h
inductive spM(K:Ab)(cs:Cs)(n:Nat)(G:Aw->Prop)(hs:Aw->List Nat->Aw)(Yr:Aw->List Nat->List Int):Sp
 |mk (p kl:Addr) (c:Ad) (h:Aw) (as:List Nat):vs= .ref p::as.map nV->as.length=n->Av K cs H p kl c h->p∉c.l->G h->(∀l H' c',Bp H H' p c c'->Av K cs H' p kl c' (hs h as)->H' l=some (.lst ((Yr h as).map V.int))->Q (.ref l) H')->spM K cs n G hs Yr vs H Q DJ
theorem tP{k n:Nat}{x:Str}{st:Stmt}{N ps:List Str}{G:Aw->Prop}{hs:Aw->List Nat->Aw}{Yr:Aw->List Nat->List Int}(D:Def K mg x st ps)(S:HU N ps (BE st))(hn:n+1=ps.length)
  (body:∀(f:Addr) (CL:Value) (A:Around) (outer:List Env) (s:Shared) (H:Hp) (p kl:Addr) (c:Ad) (h:Aw) (as:List Nat) (Q:VK) (E:XK),DD k (A.deeper (envOfC x (BE st) s.heap.objs.size f CL))->as.length=n->Av K cs H p kl c h->p∉c.l->G h->
   (∀l H' c',Bp H H' p c c'->Av K cs H' p kl c' (hs h as)->H' l=some (.lst ((Yr h as).map V.int))->Q (.ref l) H')->
   ∃t,XU (Su eJ P w K mg base N x (BE st) f CL A outer s H E).wj (FV st) t/\t {nx:=λ_ H'=>Q .Dg H',rt:=Q} (start N (.ref p::as.map nV)) H):#[] (k+1) x ps (spM K cs n G hs Yr):=
 D.has S (λvs H Q E h=>by
  obtain⟨p,kl,c,h,as,rfl,hl,_⟩:=h;rw[CD,BP,hl,hn]) λf CL A outer s H vs Q E hr h=>by
  obtain⟨p,kl,c,h,as,rfl,hl,hC,np,hg,q⟩:=h;exact body f CL A outer s H p kl c h as Q E hr hl hC np hg q
abbrev jE(K:Ab)(cs:Cs)(n:Nat)(pc:List Nat->Lr):Sp:=spM K cs n (λh=>DP h.watch) (λh as=>FU h (pc as)) λh as=>B5 h.watch (pc as)
section
variable{H:Hp}{p kl:Addr}{c:Ad}{h:Aw}{Q:VK}{cc:Lr}
theorem Fn{n:Int}(hC:Av K cs H p kl c h)(e:Co (some h.watch) cc=(some h.watch,CI n))
  (q:∀l H' c',Bp H H' p c c'->Av K cs H' p kl c' (FU h cc)->H' l=some (.lst ((B5 h.watch cc).map V.int))->Q (.ref l) H'):∀l H',Ag H H'->H' l=some (.lst [.int n])->Q (.ref l) H':=λl H' s1 e1=>by
 refine q l H' c (Bp.same s1) ?_ ?_
 ·unfold FU;rw[e];exact hC.same s1
 ·unfold B5;rw[e1,e];rfl
theorem LF{n:Int}{H1:Hp}{tp:Addr}{x:DF}(hC:Av K cs H p kl c h)(np:p∉c.l)(s:F5 H H1 c)(t:TabAt K cs.T H1 c.t tp x)(nn:tp=c.tp\/H tp=none)(e:Co (some h.watch) cc=(some x,CI n))
  (q:∀l H' c',Bp H H' p c c'->Av K cs H' p kl c' (FU h cc)->H' l=some (.lst ((B5 h.watch cc).map V.int))->Q (.ref l) H'):∀l H',Ag H1 H'->H' l=some (.lst [.int n])->Q (.ref l) H':=λl H' s1 e1=>by
 refine q l H' {c with tp:=tp} ((s.trans (F5.same s1 c)).moves p tp nn) ?_ ?_
 ·unfold FU;rw[e];exact(hC.AFT s t (λz=>np (by rw[z];simp[Ad.l])) nn).same s1
 ·unfold B5;rw[e1,e];rfl
end
section
variable(B:Ww P w K mg base cs CO CN)
include B
inductive gR:Sp
 |mk (b:Nat):vs= [nV b]->Q (.bl (Ls b)) H->gR vs H Q DJ
theorem ADv(D:Def K mg "is_weight" Hj HB):#[] 1 "is_weight" HB gR:=by
 exists YN
 ·obtain⟨b,rfl,_⟩:=h;rfl
 obtain⟨b,rfl,q⟩:=h;exact⟨_,AK (AO (pin (n:=1000) (pv 0) B.mW)),⟨_,AA,b,AA,q⟩⟩
theorem ABP(IW:#[] 1 "is_weight" HB gR)(D:Def K mg "plan" WA fQ):#[] 26 "plan" fQ (jE K cs 2 λas=> .plan (as.getD 0 0) (as.getD 1 0)):=by
 refine tP D pY rfl λf CL A outer st H p kl c h as Q E hr hl hC np g q=> ?_;obtain⟨s,x,rfl⟩:∃a b,as= [a,b]:=match as,hl with| [a,b],_=>⟨a,b,rfl⟩
 replace q:∀l H' c',Bp H H' p c c'->Av K cs H' p kl c' (FU h (.plan s x))->H' l=some (.lst ((B5 h.watch (.plan s x)).map V.int))->Q (.ref l) H':=q;have TW:=B.B.Z.tW;have TT:=B.B.Z.tT;have ht:=hC.ho.tab;have nd:=pY.nd;have e0:Co (some h.watch) (.plan s x)=if 2^h.watch.days<=s\/Ls x=false then(some h.watch,CI (-22)) else if 10<=h.watch.plans.length then(some h.watch,CI (-28)) else(some {h.watch with plans:=h.watch.plans++ [⟨s,x⟩]},CI (h.watch.plans.length:Nat)):=rfl
 refine⟨_,AF (3>>pf (pv 0)) (AF (Aj (Ep (CU (AV B.L.bey hr #[pv 1,pf (pv 3)])) (FP (BN (CU (AV IW hr #[pv 2]))))).pt (AK (AO (DL B.B.NH))) Aa)
  (AF (Aj (Af B_ (Ax Ak (by rfl) B.B.len Cz #[pf (pv 3)]) (BD B.mP) (Ai _)) (AK (AO (DL B.B.n28))) Aa)
  (AF (Bu (KY IJ VC VB Kx (pf (pv 3)) #[Dd #[pv 1,pv 2]]))
  (AK (AO (HI (Ay Er (Ax Ak (by rfl) B.B.len Cz #[pf (pv 3)]) AU))))))),?_⟩
 obtain⟨vs,hv,Dn⟩:=ht.ps;have h10:=g.EX;have hlen:=Dn.len;refine⟨_,AA,_,hC.fT TW,_,AA,_,AA,_,ht.fD TT,s,_,AA,_,AA,BF (λcc=> ?_) λcc=> ?_⟩
 ·exact Au (Fn hC (by rw[e0,AG (.inl (AM cc))]) q)
 have hs:¬2^h.watch.days<=s:=λz=>cc (AH z);refine⟨_,AA,x,AA,_,AA,BF (λcc=> ?_) λcc=> ?_⟩
 ·exact Fn hC (by rw[e0,AG (.inr (by simpa using cc))]) q
 have hx:¬Ls x=false:=λz=>cc (by rw[z];rfl);rw[AB (λz=>z.elim hs hx)] at e0;refine⟨_,AA,_,ht.fP TT,c.tp,_,AA,.inl (A_.of hv),AA,_,AA,BF (λcc=> ?_) λcc=> ?_⟩
 ·have:vs.length=10:=by have:=AM cc;injection this;omega
  exact Fn hC (by rw[e0,AG ()]) q
 have h9:¬10<=h.watch.plans.length:=λz=>cc (AH (by rw[show vs.length=10 by omega];rfl));rw[AB h9] at e0;refine⟨_,AA,_,ht.fP TT,.inl ⟨AA,_,A_.of hv⟩,_,AA,_,AA,(by show 2<=sizeLine;decide),λp1 Ig=> ?_⟩;have s1:=AX Ig (.tup [nV s,nV x]);have ZK:=s1 _ _ hv;refine⟨c.tp,vs,.ref p1,AA,AA,ZK,Ko (),?_⟩;obtain⟨dt,Ta⟩:=(ht.same s1).ob;have t2:TabAt K cs.T (upd (upd H p1 (.tup [nV s,nV x])) c.tp (.lst (vs++ [.ref p1]))) c.t c.tp {h.watch with plans:=h.watch.plans++ [⟨s,x⟩]}:=
  ⟨⟨dt,by rw[AS (Ao Ta ZK (by intro z;cases z))];exact Ta⟩,⟨_,AJ,((Dn.same s1).Pr ZK).snoc (p:=⟨s,x⟩) (Bi.Pr (Bi.of AJ) ZK)⟩⟩
 refine⟨_,AA,_,t2.fP TT,c.tp,_,AA,.inl (A_.of AJ),_,_,AA,AA,_,AA,?_⟩;have en:((vs++ [V.ref p1]).length:Int) - 1=((h.watch.plans.length:Nat):Int):=by rw[CH,hlen];show((h.watch.plans.length+1:Nat):Int) - 1=_;omega
 rw[en];exact LF hC np ((F5.same s1 c).trans ⟨λa u h n1 n2=>by rw[AS n2];exact h⟩) t2 (.inl rfl) e0 q
theorem ABQ(D:Def K mg "dropplan" JV fR):#[] 26 "dropplan" fR (jE K cs 1 λas=> .drop (as.getD 0 0)):=by
 refine tP D Ru rfl λf CL A outer st H p kl c h as Q E hr hl hC np g q=> ?_;obtain⟨i,rfl⟩:∃a,as= [a]:=match as,hl with| [a],_=>⟨a,rfl⟩
 replace q:∀l H' c',Bp H H' p c c'->Av K cs H' p kl c' (FU h (.drop i))->H' l=some (.lst ((B5 h.watch (.drop i)).map V.int))->Q (.ref l) H':=q;have TW:=B.B.Z.tW;have TT:=B.B.Z.tT;have ht:=hC.ho.tab;have nd:=Ru.nd;have e0:Co (some h.watch) (.drop i)=if Gu h.watch i=false then(some h.watch,CI (-2)) else(some {h.watch with plans:=h.watch.plans.take i++h.watch.plans.drop (i+1)},CI (h.watch.plans.length - 1:Nat)):=rfl
 refine⟨_,AF (2>>pf (pv 0)) (AF (Aj (Af Oy (pv 1) (Ax Ak (by rfl) B.B.len Cz #[pf (pv 2)]) (Ai _)) (AK (AO (DL B.B.n2))) Aa)
  (AF (Bu (KY IJ KN Nu Md (pf (pv 2)) #[pv 1]))
  (AK (AO (HI (Ax Ak (by rfl) B.B.len Cz #[pf (pv 2)])))))),?_⟩
 obtain⟨vs,hv,Dn⟩:=ht.ps;have h10:=g.EX;have hlen:=Dn.len;refine⟨_,AA,_,hC.fT TW,_,AA,_,AA,_,ht.fP TT,c.tp,_,AA,.inl (A_.of hv),_,_,AA,AA,_,AA,BF (λcc=> ?_) λcc=> ?_⟩
 ·have:=AM cc;exact Fn hC (by rw[e0,AG (show Gu h.watch i=false from AL ())]) q
 have hi:i<vs.length:=Zo λz=>cc (AH ());rw[AB (show¬Gu h.watch i=false by unfold Gu;rw[AH ()];exact Cd)] at e0;refine⟨_,AA,_,ht.fP TT,.inl ⟨AA,_,A_.of hv⟩,_,AA,c.tp,vs,(i:Int),i,vs[i],AA,AA,hv,(),(),?_,Gk hi,?_⟩
 ·unfold seqIndex?;simp;omega
 obtain⟨dt,Ta⟩:=ht.ob;have he:A3 K (upd H c.tp (.lst (vs.eraseIdx i))) (vs.eraseIdx i) (h.watch.plans.take i++h.watch.plans.drop (i+1)):=by
  rw[←j8];have er:∀{vs:List V} {ps:List Al} (i:Nat),A3 K (upd H c.tp (.lst (vs.eraseIdx i))) vs ps->A3 K (upd H c.tp (.lst (vs.eraseIdx i))) (vs.eraseIdx i) (ps.eraseIdx i):=by
   intro vs ps i hh;generalize upd H c.tp (.lst (vs.eraseIdx i))=G at hh ⊢;induction hh generalizing i with
   |nil=>exact .nil
   |cons r t ih=>cases i with
    |zero=>exact t
    |succ i=>exact .cons r (ih i)
  exact er i (Dn.Pr hv)
 have t2:TabAt K cs.T (upd H c.tp (.lst (vs.eraseIdx i))) c.t c.tp {h.watch with plans:=h.watch.plans.take i++h.watch.plans.drop (i+1)}:=⟨⟨dt,by rw[AS (Ao Ta hv (by intro z;cases z))];exact Ta⟩,⟨_,AJ,he⟩⟩;refine⟨_,AA,_,t2.fP TT,c.tp,_,AA,.inl (A_.of AJ),_,AA,?_⟩;have en:((vs.eraseIdx i).length:Int)=((h.watch.plans.length - 1:Nat):Int):=by rw[List.length_eraseIdx_of_lt hi,hlen]
 rw[en];exact LF hC np ⟨λa u h n1 n2=>by rw[AS n2];exact h⟩ t2 (.inl rfl) e0 q
end
end
section
open Kp318 (total)
variable{cs:Cs}{CO CN:Addr}
theorem A3.set{H:Hp}{q:Al}{b:Addr}:∀{vs:List V} {ps:List Al} (i:Nat),A3 K H vs ps->Bi K H b [nV q.set,nV q.weight]->A3 K H (vs.set i (.ref b)) (ps.set i q)
 |_,_,_,.nil,_=> .nil
 |_,_,0,.cons _ t,h=> .cons ⟨b,rfl,h⟩ t
 |_,_,i+1,.cons r t,h=> .cons r (A3.set i t h)
section
variable(B:Ww P w K mg base cs CO CN)
include B
theorem rQ(IW:#[] 1 "is_weight" HB gR)(D:Def K mg "weight" Mz fU):#[] 26 "weight" fU (jE K cs 2 λas=> .weight (as.getD 0 0) (as.getD 1 0)):=by
 refine tP D YQ rfl λf CL A outer st H p kl c h as Q E hr hl hC np g q=> ?_;obtain⟨i,x,rfl⟩:∃a b,as= [a,b]:=match as,hl with| [a,b],_=>⟨a,b,rfl⟩
 replace q:∀l H' c',Bp H H' p c c'->Av K cs H' p kl c' (FU h (.weight i x))->H' l=some (.lst ((B5 h.watch (.weight i x)).map V.int))->Q (.ref l) H':=q;have TW:=B.B.Z.tW;have TT:=B.B.Z.tT;have ht:=hC.ho.tab;have nd:=YQ.nd;have e0:Co (some h.watch) (.weight i x)=if Gu h.watch i=false then(some h.watch,CI (-2)) else if Ls x=false then(some h.watch,CI (-22)) else(some {h.watch with plans:=h.watch.plans.set i {h.watch.plans.getD i ⟨0,0⟩ with weight:=x}},CI ((h.watch.plans.getD i ⟨0,0⟩).weight:Nat)):=rfl
 refine⟨_,AF (3>>pf (pv 0)) (AF (Aj (Af Oy (pv 1) (Ax Ak (by rfl) B.B.len Cz #[pf (pv 3)]) (Ai _)) (AK (AO (DL B.B.n2))) Aa)
  (AF (Aj (BN (CU (AV IW hr #[pv 2]))) (AK (AO (DL B.B.NH))) Aa)
  (AF (4>>BM D4 (pf (pv 3)) (pv 1) (λ_ _=>rfl))
  (AF (aa (Dd #[BM BV (pv 4) AU (λ_ _=>rfl),pv 2]) (aZ (pf (pv 3)) (pv 1) set_list))
  (AK (AO (HI (BM BV (pv 4) AU (λ_ _=>rfl))))))))),?_⟩
 obtain⟨vs,hv,Dn⟩:=ht.ps;have hlen:=Dn.len;refine⟨_,AA,_,hC.fT TW,_,AA,_,AA,_,ht.fP TT,c.tp,_,AA,.inl (A_.of hv),_,_,AA,AA,_,AA,BF (λcc=> ?_) λcc=> ?_⟩
 ·have:=AM cc;exact Fn hC (by rw[e0,AG (show Gu h.watch i=false from AL ())]) q
 have hi:i<vs.length:=Zo λz=>cc (AH ());rw[AB (show¬Gu h.watch i=false by unfold Gu;rw[AH ()];exact Cd)] at e0;refine⟨_,AA,x,AA,_,AA,BF (λcc=> ?_) λcc=> ?_⟩
 ·exact Fn hC (by rw[e0,AG (by simpa using cc)]) q
 have hx:¬Ls x=false:=λz=>cc (by rw[z];rfl);rw[AB hx] at e0;obtain⟨pl,b,qm,hvb,hb⟩:=Dn.get (Gk hi);have eg:h.watch.plans.getD i ⟨0,0⟩=pl:=by rw[Ts,qm];rfl
 rw[eg] at e0;have qG:oK vs (i:Int)=some (.ref b):=Mc (by rw[Gk hi,hvb]);refine⟨_,AA,_,ht.fP TT,_,AA,c.tp,_,_,_,AA,AA,A_.of hv,qG,?_⟩;refine⟨_,AA,b,_,_,_,AA,AA,hb,AA,_,AA,(by show 2<=sizeLine;decide),λp1 Ig=> ?_⟩;have s1:=AX Ig (.tup [nV pl.set,nV x]);have ZK:=s1 _ _ hv;refine⟨_,AA,_,(ht.same s1).fP TT,_,AA,c.tp,_,_,i,AA,AA,ZK,Wk hi,?_⟩;obtain⟨dt,Ta⟩:=(ht.same s1).ob;have t2:TabAt K cs.T (upd (upd H p1 (.tup [nV pl.set,nV x])) c.tp (.lst (vs.set i (.ref p1)))) c.t c.tp {h.watch with plans:=h.watch.plans.set i {pl with weight:=x}}:=
  ⟨⟨dt,by rw[AS (Ao Ta ZK (by intro z;cases z))];exact Ta⟩,⟨_,AJ,A3.set i ((Dn.same s1).Pr ZK) (Bi.Pr (Bi.of AJ) ZK)⟩⟩
 refine⟨_,AA,b,_,_,_,AA,AA,Bi.Pr (Bi.same hb s1) ZK,AA,_,AA,?_⟩;exact LF hC np ((F5.same s1 c).trans ⟨λa u h n1 n2=>by rw[AS n2];exact h⟩) t2 (.inl rfl) e0 q
theorem cQ(D:Def K mg "planmisdeeds" Ez CM):#[] 26 "planmisdeeds" CM (jE K cs 1 λas=> .misdeeds (as.getD 0 0)):=by
 refine tP (k:=25) D Ki rfl λf CL A outer st H p kl c h as Q E hr hl hC np g q=> ?_;obtain⟨k,rfl⟩:∃a,as= [a]:=match as,hl with| [a],_=>⟨a,rfl⟩
 replace q:∀l H' c',Bp H H' p c c'->Av K cs H' p kl c' (FU h (.misdeeds k))->H' l=some (.lst ((B5 h.watch (.misdeeds k)).map V.int))->Q (.ref l) H':=q;have TW:=B.B.Z.tW;have TT:=B.B.Z.tT;have ht:=hC.ho.tab;have nd:=Ki.nd;have e0:Co (some h.watch) (.misdeeds k)=if 6<k then(some h.watch,CI (-22)) else(some {h.watch with misdeeds:=k},CI (h.watch.misdeeds:Nat)):=rfl
 refine⟨_,AF (Aj (Af CK (pv 1) (BD B.mM) (Ai _)) (AK (AO (DL B.B.NH))) Aa) (AF (2>>pf (pv 0))
  (AF (3>>pf (pv 2)) (AF (Ap (pv 2) (pv 1) rfl) (AK (AO (HI (pv 3))))))),?_⟩
 obtain⟨vs,hv,Dn⟩:=ht.ps;obtain⟨dt,Ta⟩:=ht.ob;refine⟨_,AA,_,_,AA,AA,_,AA,BF (λcc=> ?_) λcc=> ?_⟩
 ·exact Fn hC (by rw[e0,AG (by have:=AM cc;omega)]) q
 rw[AB (λz=>cc (AH (by show(6:Int)< (k:Int);omega)))] at e0;refine⟨_,AA,_,hC.fT TW,_,AA,_,ht.fM TT,_,AA,_,AA,c.t,cs.T,dt,_,AA,Ta,TT.cl,TT.nM,(by show 4<1000;decide),?_⟩;have s2:F5 H (upd H c.t (.ins cs.T dt (DB "misdeeds" (nV k) (tF (nV h.watch.days) (nV h.watch.misdeeds) (nV h.watch.fine) (.ref c.tp))))) c:=⟨λa u h n1 n2=>by rw[AS n1];exact h⟩;have Fv:=(Ad.nt hC.nd).2.2.2;refine⟨_,rfl,_,rfl,LF hC np s2 (x:={h.watch with misdeeds:=k}) ⟨⟨dt,by rw[AJ];rfl⟩,⟨vs,by rw[AS Fv.symm];exact hv,?_⟩⟩ (.inl rfl) e0 q⟩;refine Paired.Jy Dn λv q ⟨a,e,z⟩=>⟨a,e,?_⟩;rcases z with z|z
 ·refine .inl ?_;rcases z with z|⟨o',z⟩
  ·exact .inl (s2.fr _ _ z (Ao z Ta (by intro y;cases y)) (Ao z hv (by intro y;cases y)))
  ·exact .inr ⟨o',s2.fr _ _ z (Ao z Ta (by intro y;cases y)) (Ao z hv (by intro y;cases y))⟩
 ·exact .inr z
theorem ABR(D:Def K mg "planfine" JW CM):#[] 26 "planfine" CM (jE K cs 1 λas=> .fine (as.getD 0 0)):=by
 refine tP (k:=25) D Rv rfl λf CL A outer st H p kl c h as Q E hr hl hC np g q=> ?_;obtain⟨k,rfl⟩:∃a,as= [a]:=match as,hl with| [a],_=>⟨a,rfl⟩
 replace q:∀l H' c',Bp H H' p c c'->Av K cs H' p kl c' (FU h (.fine k))->H' l=some (.lst ((B5 h.watch (.fine k)).map V.int))->Q (.ref l) H':=q;have TW:=B.B.Z.tW;have TT:=B.B.Z.tT;have ht:=hC.ho.tab;have nd:=Rv.nd;have e0:Co (some h.watch) (.fine k)=if Np k=false then(some h.watch,CI (-22)) else(some {h.watch with fine:=k},CI (h.watch.fine:Nat)):=rfl
 refine⟨_,AF (Aj (BN (ABO (n:=9) (pv 1) B.mF)) (AK (AO (DL B.B.NH))) Aa) (AF (2>>pf (pv 0))
  (AF (3>>pf (pv 2)) (AF (Ap (pv 2) (pv 1) rfl) (AK (AO (HI (pv 3))))))),?_⟩
 obtain⟨vs,hv,Dn⟩:=ht.ps;obtain⟨dt,Ta⟩:=ht.ob;refine⟨_,AA,k,AA,_,AA,BF (λcc=> ?_) λcc=> ?_⟩
 ·exact Fn hC (by rw[e0,AG (show Np k=false by unfold Np;rw[←Lq];exact cc)]) q
 rw[AB (λ(z:Np k=false)=>cc (by unfold Np at z;rw[z];rfl))] at e0;refine⟨_,AA,_,hC.fT TW,_,AA,_,ht.fF TT,_,AA,_,AA,c.t,cs.T,dt,_,AA,Ta,TT.cl,TT.nF,(by show 4<1000;decide),?_⟩;have s2:F5 H (upd H c.t (.ins cs.T dt (DB "fine" (nV k) (tF (nV h.watch.days) (nV h.watch.misdeeds) (nV h.watch.fine) (.ref c.tp))))) c:=⟨λa u h n1 n2=>by rw[AS n1];exact h⟩;have Fv:=(Ad.nt hC.nd).2.2.2;refine⟨_,rfl,_,rfl,LF hC np s2 (x:={h.watch with fine:=k}) ⟨⟨dt,by rw[AJ];rfl⟩,⟨vs,by rw[AS Fv.symm];exact hv,?_⟩⟩ (.inl rfl) e0 q⟩;refine Paired.Jy Dn λv q ⟨a,e,z⟩=>⟨a,e,?_⟩;rcases z with z|z
 ·refine .inl ?_;rcases z with z|⟨o',z⟩
  ·exact .inl (s2.fr _ _ z (Ao z Ta (by intro y;cases y)) (Ao z hv (by intro y;cases y)))
  ·exact .inr ⟨o',s2.fr _ _ z (Ao z Ta (by intro y;cases y)) (Ao z hv (by intro y;cases y))⟩
 ·exact .inr z
theorem ABS(D:Def K mg "fair" WC GG):#[] 26 "fair" GG (jE K cs 1 λas=> .fair (as.getD 0 0)):=by
 refine tP (k:=25) D pZ rfl λf CL A outer st H p kl c h as Q E hr hl hC np g q=> ?_;obtain⟨m,rfl⟩:∃a,as= [a]:=match as,hl with| [a],_=>⟨a,rfl⟩
 replace q:∀l H' c',Bp H H' p c c'->Av K cs H' p kl c' (FU h (.fair m))->H' l=some (.lst ((B5 h.watch (.fair m)).map V.int))->Q (.ref l) H':=q;have TW:=B.B.Z.tW;have TT:=B.B.Z.tT;have ht:=hC.ho.tab;have nd:=pZ.nd;have d4:=g.d4;have e0:Co (some h.watch) (.fair m)=if h.watch.days<m then(some h.watch,CI (-22)) else if 10< (Ej h.watch.days m h.watch.fine).length then(some h.watch,CI (-28)) else(some {h.watch with plans:=Ej h.watch.days m h.watch.fine},CI ((Ej h.watch.days m h.watch.fine).length:Nat)):=rfl
 refine⟨_,AF (2>>pf (pv 0)) (AF (Aj (Af CK (pv 1) (pf (pv 2)) (Ai _)) (AK (AO (DL B.B.NH))) Aa)
  (AF (3>>AV B.L.best hr #[pf (pv 2),pv 1,pf (pv 2)])
  (AF (Aj (Af CK (Ax Ak (by rfl) B.B.len Cz #[pv 3]) (BD B.mP) (Ai _)) (AK (AO (DL B.B.n28))) Aa)
  (AF (Ap (pv 2) (pv 3) rfl) (AK (AO (HI (Ax Ak (by rfl) B.B.len Cz #[pv 3])))))))),?_⟩
 refine⟨_,AA,_,hC.fT TW,_,AA,_,AA,_,ht.fD TT,_,_,AA,AA,_,AA,BF (λcc=> ?_) λcc=> ?_⟩
 ·exact Fn hC (by rw[e0,AG (by have:=AM cc;omega)]) q
 have hd:¬h.watch.days<m:=λz=>cc (AH ());rw[AB hd] at e0;refine⟨_,AA,_,ht.fD TT,_,AA,_,AA,_,ht.fF TT,_,m,_,AA,g.d4,(),g.f9,λl1 xs H1 s1 n1 e1 p1=> ?_⟩;have hlen:=p1.len;refine⟨_,AA,l1,_,AA,.inl (A_.of e1),_,_,AA,AA,_,AA,BF (λcc=> ?_) λcc=> ?_⟩
 ·exact λl H2 s2=>Fn hC (by rw[e0,AG (by have:=AM cc;omega)]) q l H2 (s1.trans s2)
 rw[AB (λz=>cc (AH (by rw[hlen];show(10:Int)<_;omega)))] at e0;obtain⟨dt,Ta⟩:=(ht.same s1).ob;refine⟨_,AA,_,AA,c.t,cs.T,dt,_,AA,Ta,TT.cl,TT.nP,(by show 4<1000;decide),?_⟩;have Fv:c.t≠l1:=Ao Ta e1 (by intro z;cases z);have s2:F5 H1 (upd H1 c.t (.ins cs.T dt (DB "plans" (.ref l1) (tF (nV h.watch.days) (nV h.watch.misdeeds) (nV h.watch.fine) (.ref c.tp))))) c:=⟨λa u h n1 n2=>by rw[AS n1];exact h⟩;have t2:TabAt K cs.T (upd H1 c.t (.ins cs.T dt (DB "plans" (.ref l1) (tF (nV h.watch.days) (nV h.watch.misdeeds) (nV h.watch.fine) (.ref c.tp))))) c.t l1 {h.watch with plans:=Ej h.watch.days m h.watch.fine}:=by
  refine⟨⟨dt,by rw[AJ];rfl⟩,⟨xs,by rw[AS Fv.symm];exact e1,?_⟩⟩;refine Paired.Jy p1 λv q ⟨a,e,z⟩=>⟨a,e,?_⟩;rcases z with z|z
  ·refine .inl ?_;rcases z with z|⟨o',z⟩
   ·exact .inl (by rw[AS (Ao z Ta (by intro y;cases y))];exact z)
   ·exact .inr ⟨o',by rw[AS (Ao z Ta (by intro y;cases y))];exact z⟩
  ·exact .inr z
 refine⟨_,AA,l1,xs,AA,.inl (A_.of (by rw[AS Fv.symm];exact e1)),_,AA,?_⟩;have en:((xs.length:Nat):Int)=(((Ej h.watch.days m h.watch.fine).length:Nat):Int):=by rw[hlen]
 rw[en];exact LF hC np ((F5.same s1 c).trans s2) t2 (.inr n1) e0 q
end
end
section
open Kp318 (total)
variable{cs:Cs}{CO CN CV:Addr}
theorem Ys(n:Nat):(GC n [V.int 1]).flatten=BY (ones n):=by
 induction n with
 |zero=>rfl
 |succ n ih=>rw[Na,QZ,ih];rfl
theorem Ba(n:Nat):(ones n).length=n:=kF
theorem Il(n t:Nat):(ones n).drop t=ones (n - t):=List.drop_replicate
theorem NL{n u:Nat}(h:u∈ones n):u=1:=List.eq_of_mem_replicate h
inductive jF(K:Ab)(CO:Addr):Sp
 |mk (n b:Nat):vs= [nV n,nV b]->n<=8->0<b->b<=99->(∀ou d H',Ag H H'->H d=none->H ou=none->CZ K CO H' ou d b (ones n)->Q (.ref ou) H')->jF K CO vs H Q DJ
theorem jG(T:Ud K mg CO)(TC:jr K mg "Outlook" CO)(I:An P w K mg base CO 1 "__init__" IE (M' K CO))(D:Def K mg "even_outlook" Ey LZ):#[] 3 "even_outlook" LZ (jF K CO):=by
 exists Rp
 ·obtain⟨n,b,rfl,_⟩:=h;rfl
 obtain⟨n,b,rfl,hn,hb,S6,q⟩:=h;refine⟨_,AK (AO (Jw I TC hr #[Ay oR (Am #[AU]) (pv 0),pv 1])),?_⟩;refine⟨(by show 1<=sizeLine;decide),λl hl=>⟨_,AA,l,(n:Int),_,AA,AA,AJ,(),(),?_,λl2 Sl=> ?_⟩⟩
 ·rw[EJ];show 1*n<=sizeLine;exact KG (Ko ())
 rw[EJ,Ys];have s1:=(AX hl (.lst [.int 1])).trans (AX Sl (.lst (BY (ones n))));refine⟨_,AA,λp dp np Yc ne=>⟨p,dp,l2,b,AA,AJ,λH1 d k1 Gg Sn Ig=>⟨AA,?_⟩⟩⟩;have s2:=Ag.made np Yc k1;refine q p d H1 (s1.trans s2) (s1.free (Gj Gg)) (s1.free np) ⟨by rw[Ba];exact hn,hb,λt m k=> ?_,λu hu=>by rw[NL hu];decide,S6,⟨dp,l2,Ig,A_.of (s2 _ _ AJ)⟩,⟨[],Sn,GD,λe he=>nomatch he⟩⟩;rw[Il,Dh hb];exact(fI hb S6 () m k).mono (())
inductive ABT(K:Ab):Sp
 |mk (n m k b:Nat):vs= [nV n,nV m,nV k,nV b]->n<=8->m<=8->k<=8->0<b->b<=99->(∀v H',Ag H H'->A8 K H' v (wE b n m k)->Q v H')->ABT K vs H Q DJ
theorem vm(T:Ud K mg CO)(O:bu P w K mg base CO)(EO:#[] 3 "even_outlook" LZ (jF K CO))(D:Def K mg "even_worth" GV UQ):#[] 45 "even_worth" UQ (ABT K):=by
 exists V7
 ·obtain⟨n,m,k,b,rfl,_⟩:=h;rfl
 obtain⟨n,m,k,b,rfl,hn,hm,hk,hb,S6,q⟩:=h;refine⟨_,AK (AO (BG O.AAV T.cl hr (AV EO hr #[pv 0,pv 3]) #[AU,pv 1,pv 2])),?_⟩;refine⟨_,AA,_,AA,n,b,AA,hn,hb,S6,λou d H1 s1 Gg _ O1=> ?_⟩;obtain⟨TV,lo,ho,_⟩:=O1.ob;refine⟨ou,TV,_,AA,ho,AA,_,AA,_,AA,ou,d,b,ones n,0,m,k,AA,O1,by rw[Ba];omega,hm,hk,BR _,λv H2 e2 O2 q2=>q v H2 (Ext.fresh s1 Gg e2) ?_⟩;unfold gW at q2;rw[Zf,Dh hb] at q2;exact q2
inductive rR(K:Ab):Sp
 |mk (n m b:Nat):vs= [nV n,nV m,nV b]->n<=4->m<=5->0<b->b<=9->(∀v H',Ag H H'->A8 K H' v (lE b n m)->Q v H')->rR K vs H Q DJ
theorem rS{n m b:Nat}(hn:n<=4)(hm:m<=5)(hb:b<=9):((total (Z4 (Ej n m b) 0):Nat):Rat) / ((total (Ej n m b):Nat):Rat)=lE b n m:=by
 obtain⟨e3,e4⟩:=G' n () m () b ();rw[e3,e4];unfold lE;split
 ·rw[FK];exact Lw _
 ·rfl
theorem ABU(L:Yo P w K mg base)(D:Def K mg "best_look" He Js):#[] 4 "best_look" Js (rR K):=by
 exists PY
 ·obtain⟨n,m,b,rfl,_⟩:=h;rfl
 obtain⟨n,m,b,rfl,hn,hm,hb,S6,q⟩:=h;have nd:=PY.nd;refine⟨_,AF (3>>AV L.best hr #[pv 0,pv 1,pv 2])
  (AK (AO (AV L.share hr #[AV L.on hr #[pv 3,AU],pv 3]))),?_⟩
 obtain⟨h0,h9,B9⟩:=NK (m:=m) hn hm hb S6;refine⟨_,AA,_,AA,_,AA,n,m,b,AA,hn,hm,S6,λl1 xs H1 s1 n1 e1 p1=> ?_⟩;refine⟨_,rfl,l1,0,_,rfl,⟨xs,A_.of e1,p1⟩,B9,λl2 H2 s2 L2=>⟨_,rfl,l2,l1,_,_,rfl,L2,ZL.same ⟨xs,A_.of e1,p1⟩ s2,A6 (Kp _ _) B9,B9,h0,h9,λv H3 s3 q3=>q v H3 (s1.trans (s2.trans s3)) ?_⟩⟩;rw[rS hn hm S6] at q3;exact q3
theorem CZ.AFU{C C':Addr}{H:Hp}{o d p dx:Addr}{fs wd:List (Str×V)}{b:Nat}{days:List Nat}(O:CZ K C H o d b days)(hp:H p=some (.ins C' dx fs))(n:o≠p):CZ K C (upd H p (.ins C' dx wd)) o d b days:=by
 obtain⟨dx0,l,h1,h2⟩:=O.ob;obtain⟨AZ,h3,h4⟩:=O.me;refine⟨O.EX,O.pos,O.sz,O.ub,O.bb,⟨dx0,l,by rw[AS n];exact h1,?_⟩,⟨AZ,by rw[AS (Ao h3 hp (by intro z;cases z))];exact h3,h4.same λv r ⟨a,e,z⟩=>⟨a,e,?_⟩⟩⟩
 ·rcases h2 with h2|h2
  ·refine .inl ?_;rcases h2 with h2|⟨o',h2⟩
   ·exact .inl (by rw[AS (Ao h2 hp (by intro z;cases z))];exact h2)
   ·exact .inr ⟨o',by rw[AS (Ao h2 hp (by intro z;cases z))];exact h2⟩
  ·exact .inr h2
 ·rcases z with z|z
  ·refine .inl ?_;rcases z with z|⟨o',z⟩
   ·exact .inl (by rw[AS (Ao z hp (by intro z;cases z))];exact z)
   ·exact .inr ⟨o',by rw[AS (Ao z hp (by intro z;cases z))];exact z⟩
  ·exact .inr z
structure TxV(K:Ab)(mg:Str->Option Value)(C:Addr):Prop extends ZI:jr K mg "EvenChances" C where
 nD:BC K C "days"
 nF:BC K C "fine"
 nO:BC K C "outlook"
structure cS(K:Ab)(CV CO:Addr)(H:Hp)(o d n b:Nat):Prop where
 ex:∃dx l ou,H o=some (.ins CV dx [("days",.ref l),("fine",nV b),("outlook",.ref ou)])/\A_ K H l (BY (ones n))/\CZ K CO H ou d b (ones n)
theorem cS.kp{H H':Hp}{o d n b:Nat}(a:cS K CV CO H o d n b)(e:Keeps d H H'):cS K CV CO H' o d n b:=let⟨dx,l,ou,h1,h2,h3⟩:=a.ex;⟨dx,l,ou,e.ins h1,e.sqL h2,h3.kp e⟩
inductive Wx(K:Ab)(CV CO:Addr):Sp
 |mk (p dx:Addr) (n b:Nat):vs= [.ref p,nV n,nV b]->H p=some (.ins CV dx [])->n<=8->0<b->b<=99->(∀H' d,(∀a u,H a=some u->a≠p->H' a=some u)->H d=none->cS K CV CO H' p d n b->Q .Dg H')->Wx K CV CO vs H Q DJ
theorem ABV(T:TxV K mg CV)(EO:#[] 3 "even_outlook" LZ (jF K CO))(D:A1 K CV "__init__" "EvenChances.__init__" CF IE):An P w K mg base CV 4 "__init__" IE (Wx K CV CO):=by
 exists JP
 ·obtain⟨p,dx,n,b,rfl,_⟩:=h;rfl
 obtain⟨p,dx,n,b,rfl,hp,hn,hb,S6,q⟩:=h;refine⟨_,AF (Ap (pv 0) (Ay oR (Am #[AU]) (pv 1)) rfl) (AF (Ap (pv 0) (pv 2) rfl) (AK (Ap (pv 0) (AV EO hr #[pv 1,pv 2]) rfl))),?_⟩;refine⟨(by show 1<=sizeLine;decide),λl hl=>⟨_,AA,l,(n:Int),_,AA,AA,AJ,(),(),?_,λl2 Sl=> ?_⟩⟩
 ·rw[EJ];show 1*n<=sizeLine;exact KG (Ko ())
 rw[EJ,Ys];have s1:=(AX hl (.lst [.int 1])).trans (AX Sl (.lst (BY (ones n))));have Ig:=s1 _ _ hp;refine⟨_,AA,p,CV,dx,[],AA,Ig,T.cl,T.nD,(by show 0<1000;decide),?_⟩;refine⟨_,AA,_,AA,p,CV,dx,_,AA,AJ,T.cl,T.nF,(by show 1<1000;decide),?_⟩;rw[Az];generalize hG:upd (upd (upd H l (.lst [.int 1])) l2 (.lst (BY (ones n)))) p (.ins CV dx (DB "fine" (nV b) (DB "days" (.ref l2) [])))=G at*
 have k2:∀a u,H a=some u->a≠p->G a=some u:=λa u e n'=>by rw[←hG,AS n'];exact s1 _ _ e
 have ADw:l2≠p:=λz=>by rw[z,(AX hl (.lst [.int 1])) _ _ hp] at Sl;cases Sl
 have hG2:G l2=some (.lst (BY (ones n))):=by rw[←hG,AS ADw,AJ]
 have hGp:G p=some (.ins CV dx (DB "fine" (nV b) (DB "days" (.ref l2) []))):=by rw[←hG,AJ]
 refine⟨_,AA,_,AA,n,b,AA,hn,hb,S6,λou d H3 s3 nd3 no3 O3=> ?_⟩;have ZJ:=s3 _ _ hGp;refine⟨_,AA,p,CV,dx,_,AA,ZJ,T.cl,T.nO,(by show 2<1000;decide),?_⟩;have nd0:H d=none:=by
  cases e:H d with
  |none=>rfl
  |some u=>
   by_cases hd:d=p
   ·rw[hd,hGp] at nd3;cases nd3
   ·rw[k2 _ _ e hd] at nd3;cases nd3
 refine q _ d (λa u e n'=>by rw[AS n'];exact s3 _ _ (k2 a u e n')) nd0 ⟨dx,l2,ou,by rw[AJ];rfl,A_.of (by rw[AS ADw];exact s3 _ _ hG2),O3.AFU ZJ (λz=>by rw[z,hGp] at no3;cases no3)⟩
def gE(K:Ab)(CV CO:Addr):Dl:=⟨Nat×Nat,λH o d j=>cS K CV CO H o d j.1 j.2/\j.1<=4/\0<j.2/\j.2<=3,λj=>ones j.1,λj t m _=>lE j.2 (j.1 - t) m,λj t m k=>dE j.2 (j.1 - t) m k⟩
theorem vn(T:TxV K mg CV)(ml:mg "len"=none)(BL:#[] 4 "best_look" Js (rR K))(D:A1 K CV "look_chance" "EvenChances.look_chance" Bj FD):An P w K mg base CV 24 "look_chance" FD (qU K (gE K CV CO) (gE K CV CO).x):=by
 refine D.has (k:=23) HG (λvs H Q E h=> ?_) (λf CL A outer st H vs Q E hr h=> ?_)
 ·obtain⟨o,d,j,t,m,k,rfl,_⟩:=h;rfl
 obtain⟨o,d,j,t,m,k,rfl,⟨a,h4,hb,MP⟩,ht,hm,hk,q⟩:=h;have xN:t<j.1:=by have:=ht;rw[show((gE K CV CO).ds j)=ones j.1 from rfl,Ba] at this;exact this
 refine⟨_,AK (AO (AV BL hr #[Ay Er (Ax Ak (by rfl) ml Cz #[AY (pv 0) rfl]) (pv 1),pv 2,AY (pv 0) rfl])),?_⟩;obtain⟨dx,l,ou,h1,h2,h3⟩:=a.ex;refine⟨_,AA,o,CV,dx,_,_,AA,h1,T.cl,T.nD,AA,l,_,AA,.inl h2,_,AA,_,_,AA,AA,_,AA,_,AA,o,CV,dx,_,_,AA,h1,T.cl,T.nF,AA,j.1 - t,m,j.2,?_,(),hm,hb,(),λv H1 s1 q1=>q v H1 (Ext.of s1) ⟨a.kp (Keeps.same s1),h4,hb,MP⟩ q1⟩;rw[BH,Ba];show [V.int ((j.1:Int) - (t:Int)),nV m,nV j.2]=_;unfold nV;congr 2;omega
theorem vo(T:TxV K mg CV)(TO:Ud K mg CO)(O:bu P w K mg base CO)(one:GQ K mg "ONE" 1)(D:A1 K CV "dare_chance" "EvenChances.dare_chance" Bk FD):An P w K mg base CV 24 "dare_chance" FD (qU K (gE K CV CO) (gE K CV CO).y):=by
 refine D.has (k:=23) HH (λvs H Q E h=> ?_) (λf CL A outer st H vs Q E hr h=> ?_)
 ·obtain⟨o,d,j,t,m,k,rfl,_⟩:=h;rfl
 obtain⟨o,d,j,t,m,k,rfl,⟨a,h4,hb,MP⟩,ht,hm,hk,q⟩:=h;have xN:t<j.1:=by have:=ht;rw[show((gE K CV CO).ds j)=ones j.1 from rfl,Ba] at this;exact this
 have q':∀v H',Ext d H H'->cS K CV CO H' o d j.1 j.2->A8 K H' v (dE j.2 (j.1 - t) m k)->Q v H':=λv H' e b z=>q v H' e ⟨b,h4,hb,MP⟩ z;refine⟨_,AF (Aj (Vd (Af B_ (pv 2) AU (Ai _)) (P1 (Af CK (pv 3) AU (Ai _)))).pt (AK (AO (Sm one))) Aa)
  (AK (AO (BG O.dare TO.cl hr (AY (pv 0) rfl) #[pv 1,pv 2,pv 3]))),?_⟩
 obtain⟨dx,l,ou,h1,h2,h3⟩:=a.ex;obtain⟨TV,lo,ho,_⟩:=h3.ob;have rest:(m≠0\/k=0)->Xc CO "dare_chance" (Pq K CO 4 pN gD) [] E0 (ACg K (Cc 0) "outlook") (Cq (Cc 1) (Cq (Cc 2) (Cq (Cc 3) IM))) (L2.start FD [.ref o,nV t,nV m,nV k]) H Q:=λhc=>by
  refine⟨_,AA,o,CV,dx,_,_,AA,h1,T.cl,T.nO,AA,ou,TV,_,AA,ho,AA,_,AA,_,AA,_,AA,ou,d,j.2,ones j.1,t,m,k,AA,h3,by rw[Ba];omega,(),(),by show t< (ones j.1).length;rw[Ba];exact xN,λv H1 e1 O1 q1=>q' v H1 e1 ⟨dx,l,ou,e1 _ _ h1 ?_,?_,O1⟩ ?_⟩
  ·obtain⟨kv,hd,_⟩:=h3.me;exact Ao h1 hd (by intro z;cases z)
  ·obtain⟨kv,hd,_⟩:=h3.me;exact A_.ext h2 e1 hd
  ·unfold gD at q1;rw[Il] at q1;rcases hc with hc|hc
   ·rw[fJ hb _ _ _ hc] at q1;exact q1
   ·rw[hc,X5] at q1;rw[hc,fN];exact q1
 refine⟨_,AA,AA,_,AA,BF (λcc=> ?_) λcc=> ?_⟩
 ·rw[Bg] at cc;have qO:=AM cc;refine⟨_,AA,_,_,AA,AA,_,AA,BF (λck=> ?_) λck=> ?_⟩
  ·have a_:0<k:=by have:=AM ck;omega
   intro v hv;refine q' v H (Ext.refl _ _) a ?_;unfold dE;rw[AB (),AG qO];exact hv H
  ·exact rest (.inr (by have:¬(0:Int)< (k:Int):=λz=>ck (AH z);omega))
 ·rw[Bg] at cc;exact A' (rest (.inl λz=>cc (AH z)))
theorem ADx(T:TxV K mg CV)(LC:An P w K mg base CV 24 "look_chance" FD (qU K (gE K CV CO) (gE K CV CO).x))(DC:An P w K mg base CV 24 "dare_chance" FD (qU K (gE K CV CO) (gE K CV CO).y)):Giv P w K mg base CV (gE K CV CO) where
 cl:=T.cl
 nD:=T.nD
 kp:=λ{_ _ _ _ _} a k=>⟨a.1.kp k,a.2⟩
 ob:=λ{_ _ _ _} a=>let⟨dx,l,ou,h1,h2,_⟩:=a.1.ex;⟨dx,_,l,h1,rfl,rfl,rfl,h2⟩
 me:=λ{_ _ _ _} a=>let⟨_,_,_,_,_,h3⟩:=a.1.ex;let⟨AZ,h,_⟩:=h3.me;⟨AZ,h⟩
 look:=LC
 dare:=DC
 EX:=λ{_ _ _ j} a=>by show(ones j.1).length<=4;rw[Ba];exact a.2.1
 ub:=λ{_ _ _ j} a u hu=>by rw[NL hu];decide
 xb:=λ{_ _ _ j} a {t m k} ht hm _=>by
  show∃z,0<z/\z<=2^aD ((ones j.1).length - t)/\Bd z 0 (lE j.2 (j.1 - t) m);rw[Ba];exact xF a.2.2.1 a.2.2.2 (by have:=a.2.1;omega) hm
 yb:=λ{_ _ _ j} a {t m k} ht hm hk=>by
  show∃z,0<z/\z<=2^aD ((ones j.1).length - t)/\Bd z (aD ((ones j.1).length - t)) (dE j.2 (j.1 - t) m k);have h4:=a.2.1;by_cases qO:m=0
  ·unfold dE;split
   ·exact⟨1,(()),Gq,Bd.zero _ _⟩
   ·exact⟨1,(()),Gq,Bd.one _ _⟩
  ·obtain⟨z,z0,z1,z2⟩:=Vv a.2.2.1 a.2.2.2 (l:=ones (j.1 - t)) (by rw[Ba];omega) (λu hu=>by rw[NL hu];decide) m k;rw[fJ a.2.2.1 _ _ _ qO] at z2;rw[Ba] at z1 z2 ⊢;exact⟨z,z0,z1,z2⟩
 x0:=λj t k=>UJ _ _
 y0:=λj t m=>fN _ _ _
end
section
def xE(b n:Nat):Nat->Nat->Nat->Rat:=λt m _=>lE b (n - t) m
def yE(b n:Nat):Nat->Nat->Nat->Rat:=λt m k=>dE b (n - t) m k
theorem rT(b n:Nat):∀f t m,cG (xE b n) (yE b n) f t m 0=0
 |0,_,_=>rfl
 |f+1,t,m=>by
  simp only[cG];rw[rT b n f,rT b n f];have:yE b n t m 0=0:=fN _ _ _;rw[this];grind
theorem rV(b n:Nat)(u:Nat->Nat):∀f t m,bG (xE b n) (yE b n) u f t m 0=0
 |0,_,_=>rfl
 |f+1,t,m=>by
  simp only[bG];rw[rV b n u f,rV b n u f];have:yE b n t m 0=0:=fN _ _ _;rw[this];grind
theorem Je{b:Nat}(hb:0<b)(n:Nat):∀f t m k,n - t=f->aG b f m k=q (cG (xE b n) (yE b n) f t m k)
 |0,_,_,_,_=>rfl
 |f+1,t,m,k,h=>by
  by_cases hk:k=0
  ·subst hk;rw[rT];show(if 0=0 then _ else _)=_;rw[AG rfl];rfl
  have ex:xE b n t m k=lE b (f+1) m:=by unfold xE;rw[h]
  have ey:yE b n t m k=dE b (f+1) m k:=by unfold yE;rw[h]
  simp only[aG,cG];rw[AB hk,ex,ey,DR hb,MF hb,Je hb n f (t+1) m (k - 1) (),Je hb n f (t+1) m k (),Je hb n f (t+1) (m - 1) k (),one_sub,one_sub];by_cases hm:m=0
  ·subst hm;rw[AG rfl,UJ,OC];simp only[Ha,DN];congr 1;grind
  ·rw[AB hm];simp only[Ha,DN]
theorem NM{b:Nat}(hb:0<b)(n:Nat){u:Nat->Nat}(hu:∀t<n,u t=1):∀f t m k,n - t=f->aK b f m k=q (bG (xE b n) (yE b n) u f t m k)
 |0,_,_,_,_=>rfl
 |f+1,t,m,k,h=>by
  by_cases hk:k=0
  ·subst hk;rw[rV];show(if 0=0 then _ else _)=_;rw[AG rfl];rfl
  have ex:xE b n t m k=lE b (f+1) m:=by unfold xE;rw[h]
  have ey:yE b n t m k=dE b (f+1) m k:=by unfold yE;rw[h]
  have eu:(u t:Rat)=1:=by rw[hu t ()];rfl
  have e1:Hw 1=q 1:=rfl;simp only[aK,bG];rw[AB hk,ex,ey,eu,DR hb,MF hb,NM hb n hu f (t+1) m (k - 1) (),NM hb n hu f (t+1) m k (),NM hb n hu f (t+1) (m - 1) k (),one_sub,one_sub,e1];by_cases hm:m=0
  ·subst hm;rw[AG rfl,UJ,OC];simp only[Ha,DN];congr 1;grind
  ·rw[AB hm];simp only[Ha,DN]
def mI(b n m k:Nat)(x:Rat):Rat:=if k=0 then 0 else
 if x*(-(b:Rat))+(1 - x)*(1+wE b (n - 1) m (k - 1))<x*wE b (n - 1) (m - 1) k+(1 - x)*wE b (n - 1) m k then x*wE b (n - 1) (m - 1) k+(1 - x)*wE b (n - 1) m k
 else x*(-(b:Rat))+(1 - x)*(1+wE b (n - 1) m (k - 1))
def mD(b n m k:Nat)(y:Rat):Rat:=if m=0 then y*(1+wE b (n - 1) m (k - 1))+(1 - y)*wE b (n - 1) m k else
 if y*(-(b:Rat))+(1 - y)*wE b (n - 1) (m - 1) k<y*(1+wE b (n - 1) m (k - 1))+(1 - y)*wE b (n - 1) m k then y*(-(b:Rat))+(1 - y)*wE b (n - 1) (m - 1) k
 else y*(1+wE b (n - 1) m (k - 1))+(1 - y)*wE b (n - 1) m k
theorem rW(b:Nat):Kp317.seen b=q (-(b:Rat)):=OD b
theorem Yt{b:Nat}(hb:0<b)(n m k:Nat):aH n m k b=q (1+wE b (n - 1) m (k - 1)):=by
 unfold aH;rw[BZ hb];have e1:Hw 1=q 1:=rfl;rw[e1,DN]
theorem rX{b:Nat}(hb:0<b)(n m k:Nat)(x:Rat):aJ n m k b (q x)=q (mI b n m k x):=by
 unfold aJ mI;by_cases hk:k=0
 ·rw[AG hk,AG hk];rfl
 ·rw[AB hk,AB hk,AB hk,rW,Yt hb];unfold aN aM;rw[BZ hb,BZ hb,ed,ed,UI]
theorem rY{b:Nat}(hb:0<b)(n m k:Nat)(y:Rat):VI n m k b (q y)=q (mD b n m k y):=by
 unfold VI mD;simp only[rW,Yt hb,aN,aM,BZ hb,ed,MD];by_cases hm:m=0
 ·rw[AG hm,AG hm]
 ·rw[AB hm,AB hm];split
  ·rename_i h;rw[AG (AM h)]
  ·rename_i h;rw[AB (λz=>h (AH z))]
end
section
variable{cs:Cs}{CO CN CV:Addr}
structure NN(e:Em):Prop where
 d4:left e<=4
 lo:e.looks<=4
 mi:e.misdeeds<=4
 f1:0<e.fine
 f3:e.fine<=3
section
variable{C:Addr}{H:Hp}{a:Addr}{e:Em}
theorem Du.fD(T:tK K mg C)(x:Du C H a e):So K H (.ref a) "days" (nV (left e)):=let⟨dx,h⟩:=x.ob;⟨a,C,dx,_,rfl,h,T.cl,T.nD,rfl⟩
theorem Du.fL(T:tK K mg C)(x:Du C H a e):So K H (.ref a) "looks" (nV e.looks):=let⟨dx,h⟩:=x.ob;⟨a,C,dx,_,rfl,h,T.cl,T.nL,rfl⟩
theorem Du.fM(T:tK K mg C)(x:Du C H a e):So K H (.ref a) "misdeeds" (nV e.misdeeds):=let⟨dx,h⟩:=x.ob;⟨a,C,dx,_,rfl,h,T.cl,T.nM,rfl⟩
theorem Du.fF(T:tK K mg C)(x:Du C H a e):So K H (.ref a) "fine" (nV e.fine):=let⟨dx,h⟩:=x.ob;⟨a,C,dx,_,rfl,h,T.cl,T.nF,rfl⟩
theorem Du.fG(T:tK K mg C)(x:Du C H a e):So K H (.ref a) "gained" (.int e.gain):=let⟨dx,h⟩:=x.ob;⟨a,C,dx,_,rfl,h,T.cl,T.nG,rfl⟩
end
structure SS(P:Program)(w:World)(K:Ab)(mg:Str->Option Value)(base:Heap)(cs:Cs)(CO CN CV:Addr):Prop where
 T:Ww P w K mg base cs CO CN
 V:TxV K mg CV
 eo:#[] 3 "even_outlook" LZ (jF K CO)
 ew:#[] 45 "even_worth" UQ (ABT K)
 bl:#[] 4 "best_look" Js (rR K)
 init:An P w K mg base CV 4 "__init__" IE (Wx K CV CO)
 lc:An P w K mg base CV 24 "look_chance" FD (qU K (gE K CV CO) (gE K CV CO).x)
 dc:An P w K mg base CV 24 "dare_chance" FD (qU K (gE K CV CO) (gE K CV CO).y)
 fin:#[] 25 "in_the_end" X_ (Wi K (gE K CV CO))
 range:mg "range"=none
 mD:B' mg "MOST_DAYS_evencalls" 8
 mF:B' mg "MOST_FINE_evencalls" 9
 mS:B' mg "MOST_FINE_SOUGHT" 99
 mP:B' mg "MOST_PARTS" 1000
 mC:B' mg "MOST_CHANCES" 100
section
variable(B:SS P w K mg base cs CO CN CV)
include B
inductive rZ(K:Ab)(CA:Addr):Sp
 |mk (a:Addr) (e:Em) (b:Nat):vs= [.ref a,nV b]->Du CA H a e->NN e->0<b->b<=99->(∀v H',Ag H H'->A8 K H' v (wE b (left e) e.looks e.misdeeds)->Q v H')->rZ K CA vs H Q DJ
theorem ra(D:Def K mg "alike_worth" FY PQ):#[] 46 "alike_worth" PQ (rZ K cs.A):=by
 exists S7
 ·obtain⟨a,e,b,rfl,_⟩:=h;rfl
 obtain⟨a,e,b,rfl,ha,g,hb,S6,q⟩:=h;have TA:=B.T.B.Z.tA;refine⟨_,AK (AO (AV B.ew hr #[pf (pv 0),pf (pv 0),pf (pv 0),pv 1])),?_⟩;have h1:=g.d4;have h2:=g.lo;have h3:=g.mi;exact⟨_,AA,_,ha.fD TA,_,AA,_,ha.fL TA,_,AA,_,ha.fM TA,_,AA,_,_,_,b,AA,(),(),(),hb,S6,q⟩
inductive cT(K:Ab)(CA CV CO:Addr):Sp
 |mk (a:Addr) (e:Em):vs= [.ref a]->Du CA H a e->NN e->(∀o d H',Ag H H'->H d=none->cS K CV CO H' o d (left e) e.fine->Q (.ref o) H')->cT K CA CV CO vs H Q DJ
theorem cU(D:Def K mg "alike_chances" ET Fw):#[] 6 "alike_chances" Fw (cT K cs.A CV CO):=by
 exists Po
 ·obtain⟨a,e,rfl,_⟩:=h;rfl
 obtain⟨a,e,rfl,ha,g,q⟩:=h;have TA:=B.T.B.Z.tA;refine⟨_,AK (AO (Jw B.init B.V.ZI hr #[pf (pv 0),pf (pv 0)])),?_⟩;have h1:=g.d4;have h3:=g.f3;refine⟨_,AA,_,ha.fD TA,_,AA,_,ha.fF TA,λp dp np Yc ne=>⟨p,dp,_,_,AA,AJ,(),g.f1,(),λH1 d k1 Gg a1=>⟨AA,q p d H1 (Ag.made np Yc k1) (Gj Gg) a1⟩⟩⟩
inductive vp(K:Ab)(CA:Addr):Sp
 |mk (a:Addr) (e:Em):vs= [.ref a]->Du CA H a e->NN e->(∀p v1 v2 H',Ag H H'->Bi K H' p [v1,v2]->A8 K H' v1 (cG (xE e.fine (left e)) (yE e.fine (left e)) (left e) 0 e.looks e.misdeeds)->A8 K H' v2 (bG (xE e.fine (left e)) (yE e.fine (left e)) (jq (ones (left e))) (left e) 0 e.looks e.misdeeds)->Q (.ref p) H')->vp K CA vs H Q DJ
theorem ABW(AC:#[] 6 "alike_chances" Fw (cT K cs.A CV CO))(D:Def K mg "alike_end" Hg Fw):#[] 26 "alike_end" Fw (vp K cs.A):=by
 exists YI
 ·obtain⟨a,e,rfl,_⟩:=h;rfl
 obtain⟨a,e,rfl,ha,g,q⟩:=h;have TA:=B.T.B.Z.tA;refine⟨_,AK (AO (AV B.fin hr #[AV AC hr #[pv 0],pf (pv 0),pf (pv 0)])),?_⟩;have h2:=g.lo;have h3:=g.mi;refine⟨_,AA,a,e,AA,ha,g,λo d H1 s1 Gg a1=>⟨_,AA,_,(ha.same s1).fL TA,_,AA,_,(ha.same s1).fM TA,o,d,(left e,e.fine),_,_,AA,⟨a1,g.d4,g.f1,g.f3⟩,(),(),λp v1 v2 H2 e2 np hp q1 q2=>q p v1 v2 H2 (Ext.fresh s1 Gg e2) (Bi.of hp) ?_ ?_⟩⟩
 ·have e5:(gE K CV CO).c (left e,e.fine) e.looks e.misdeeds=cG (xE e.fine (left e)) (yE e.fine (left e)) (ones (left e)).length 0 e.looks e.misdeeds:=rfl;rw[e5,Ba] at q1;exact q1
 ·have e5:(gE K CV CO).b (left e,e.fine) e.looks e.misdeeds=bG (xE e.fine (left e)) (yE e.fine (left e)) (jq (ones (left e))) (ones (left e)).length 0 e.looks e.misdeeds:=rfl;rw[e5,Ba] at q2;exact q2
inductive rb(K:Ab)(CO:Addr)(pre:Nat->Nat->Rat->Prop)(g:Nat->Nat->Nat->Nat->Rat->Rat):Sp
 |mk (o d:Addr) (b n m k:Nat) (v:V) (x:Rat):vs= [.ref o,nV m,nV k,v]->CZ K CO H o d b (ones n)->0<n->n<=4->m<=8->k<=8->A8 K H v x->Sz 20 x->pre m k x->(∀v H',Ext d H H'->A8 K H' v (g b n m k x)->Q v H')->rb K CO pre g vs H Q DJ
omit B in
theorem xn{b n m k:Nat}(hb:0<b)(hn:0<n):gU b (ones n) 0 m k=1+wE b (n - 1) m (k - 1):=by
 unfold gU;rw[Il,Dh hb];congr 1;obtain⟨n,rfl⟩:∃i,n=i+1:=⟨n - 1,()⟩;rfl
omit B in
theorem xo{b n m k:Nat}(hb:0<b):gN b (ones n) 0 m k=wE b (n - 1) m k:=by unfold gN;rw[Il,Dh hb]
omit B in
theorem xp{b n m k:Nat}(hb:0<b):R5 b (ones n) 0 m k=wE b (n - 1) (m - 1) k:=by unfold R5;rw[Il,Dh hb]
theorem ABX(D:Def K mg "most_if_looked" D9 La):#[] 25 "most_if_looked" La (rb K CO (λm k x=>m=0->x=0) mI):=by
 refine D.has (k:=24) Ic (λvs H Q E h=> ?_) (λf CL A outer st H vs Q E hr h=> ?_)
 ·obtain⟨o,d,b,n,m,k,v,x,rfl,_⟩:=h;rfl
 obtain⟨o,d,b,n,m,k,v,x,rfl,O,hn,hn4,hm,hk,hv,zx,hp,q⟩:=h;have nd:=Ic.nd;have T:=B.T.B.T;have G:=B.T.B.O.lev;have R:=B.T.B.R;have hlen:(ones n).length<=0+(3+1):=by rw[Ba];omega
 have h0:0< (ones n).length:=by rw[Ba];exact hn
 refine⟨_,AF (Aj (Af B_ (pv 2) AU (Ai _)) (AK (AO (Sm R.zero))) Aa)
  (AF (4>>AV R.mixed hr #[pv 3,EI G.seen T.cl hr (pv 0),BG G.unseen T.cl hr (pv 0) #[AU,pv 1,pv 2]])
  (AF (5>>BG G.Fl T.cl hr (pv 0) #[AU,pv 1,pv 2])
  (AF (Aj (Af CK (pv 1) AU (Ai _)) (AK (5>>AV R.mixed hr #[pv 3,BG G.E9 T.cl hr (pv 0) #[AU,pv 1,pv 2],pv 5])) Aa)
  (AK (AO (AV R.greater hr #[pv 4,pv 5])))))),?_⟩
 refine⟨_,AA,AA,_,AA,BF (λcc=> ?_) λcc=> ?_⟩
 ·rw[Bg] at cc;intro v0 YV;refine q v0 H (Ext.refl _ _) ?_;unfold mI;rw[AG (AM cc)];exact YV H
 rw[Bg] at cc;have a_:¬k=0:=λz=>cc (AH z);have eU:=xn (m:=m) (k:=k) O.pos hn;have eN:=xo (n:=n) (m:=m) (k:=k) O.pos;have eW:=xp (n:=n) (m:=m) (k:=k) O.pos;have zU:=szU O m k h0;have zN:Sz 300 (gN b (ones n) 0 m k):=O.sz _ _ _;have zW:Sz 300 (R5 b (ones n) 0 m k):=O.sz _ _ _;rw[eU] at zU;rw[eN] at zN;rw[eW] at zW;have zs:=szB O;obtain⟨dx,l,ho,_⟩:=O.ob;refine⟨_,AA,_,AA,o,dx,_,AA,ho,AA,o,d,b,ones n,AA,O,λv1 H1 s1 q1=> ?_⟩;have O1:=O.same s1;obtain⟨TJ,l1,ho1,_⟩:=O1.ob;refine⟨_,AA,o,TJ,_,AA,ho1,AA,_,AA,_,AA,o,d,b,ones n,0,m,k,AA,O1,hlen,hm,hk,⟨h0,()⟩,λv2 H2 e2 O2 q2=> ?_⟩;rw[eU] at q2;refine⟨v,v1,v2,x,_,_,AA,A8.out O1 (hv.same s1) e2,A8.out O1 q1 e2,q2,zx.mono (()),zs.mono (()),zU.mono (()),λv3 H3 s3 q3=> ?_⟩;have O3:=O2.same s3;obtain⟨iu,l3,ho3,_⟩:=O3.ob;refine⟨_,AA,o,iu,_,AA,ho3,AA,_,AA,_,AA,o,d,b,ones n,0,m,k,AA,O3,hlen,hm,hk,h0,λv4 H4 e4 O4 q4=> ?_⟩;rw[eN] at q4;have q3':=A8.out O3 q3 e4;have e14:Ext d H H4:=(Ext.of s1).trans (e2.trans ((Ext.of s3).trans e4));have z1:=(Sz.one (n:=1) (())).sub zx;have zD:=(zx.mul zs).add (z1.mul zU);refine⟨_,AA,_,_,AA,AA,_,AA,BF (λck=> ?_) λck=> ?_⟩
 ·have qO:0<m:=by have:=AM ck;omega
  obtain⟨dx4,l4,ho4,_⟩:=O4.ob;refine⟨_,AA,_,AA,o,dx4,_,AA,ho4,AA,_,AA,_,AA,o,d,b,ones n,0,m,k,AA,O4,hlen,hm,hk,⟨h0,qO⟩,λv5 H5 e5 O5 q5=>⟨_,AA,v,v5,v4,x,_,_,AA,?_,q5,A8.out O4 q4 e5,zx.mono (()),?_,zN.mono (()),λv6 H6 s6 q6=> ?_⟩⟩
  ·exact A8.out O4 (A8.out O3 ((A8.out O1 (hv.same s1) e2).same s3) e4) e5
  ·rw[eW];exact zW.mono (())
  rw[eW] at q6;have zL:=(zx.mul zW).add (z1.mul zN);refine⟨_,AA,_,AA,v3,v6,_,_,AA,(A8.out O4 q3' e5).same s6,q6,IF zD,IF zL,λv7 q7=>q v7 H6 (e14.trans (e5.trans (Ext.of s6))) ?_⟩;unfold mI;rw[AB a_];exact q7
 ·have qO:m=0:=by have:¬(0:Int)< (m:Int):=λz=>ck (AH z);omega
  refine⟨_,AA,_,AA,v3,v4,_,_,AA,q3',q4,IF zD,IF zN,λv7 q7=>q v7 H4 e14 ?_⟩;unfold mI;rw[AB a_];have ex:=hp qO;subst ex;have e9:(0:Rat)*wE b (n - 1) (m - 1) k+(1 - 0)*wE b (n - 1) m k=wE b (n - 1) m k:=by grind
  rw[e9];exact q7
theorem vq(D:Def K mg "least_if_dared" D_ La):#[] 25 "least_if_dared" La (rb K CO (λm k x=>True) λb n m k y=>if k=0 then 0 else mD b n m k y):=by
 refine D.has (k:=24) Ie (λvs H Q E h=> ?_) (λf CL A outer st H vs Q E hr h=> ?_)
 ·obtain⟨o,d,b,n,m,k,v,x,rfl,_⟩:=h;rfl
 obtain⟨o,d,b,n,m,k,v,x,rfl,O,hn,hn4,hm,hk,hv,zx,hp,q⟩:=h;have nd:=Ie.nd;have T:=B.T.B.T;have G:=B.T.B.O.lev;have R:=B.T.B.R;have hlen:(ones n).length<=0+(3+1):=by rw[Ba];omega
 have h0:0< (ones n).length:=by rw[Ba];exact hn
 refine⟨_,AF (Aj (Af B_ (pv 2) AU (Ai _)) (AK (AO (Sm R.zero))) Aa)
  (AF (4>>AV R.mixed hr #[pv 3,BG G.unseen T.cl hr (pv 0) #[AU,pv 1,pv 2],BG G.Fl T.cl hr (pv 0) #[AU,pv 1,pv 2]])
  (AF (Aj (Af B_ (pv 1) AU (Ai _)) (AK (AO (pv 4))) Aa)
  (AK (AO (AV R.AAR hr #[AV R.mixed hr #[pv 3,EI G.seen T.cl hr (pv 0),BG G.E9 T.cl hr (pv 0) #[AU,pv 1,pv 2]],pv 4]))))),?_⟩
 refine⟨_,AA,AA,_,AA,BF (λcc=> ?_) λcc=> ?_⟩
 ·rw[Bg] at cc;intro v0 YV;refine q v0 H (Ext.refl _ _) ?_;show A8 K H v0 (if k=0 then 0 else mD b n m k x);rw[AG (AM cc)];exact YV H
 rw[Bg] at cc;have a_:¬k=0:=λz=>cc (AH z);have eU:=xn (m:=m) (k:=k) O.pos hn;have eN:=xo (n:=n) (m:=m) (k:=k) O.pos;have eW:=xp (n:=n) (m:=m) (k:=k) O.pos;have zU:=szU O m k h0;have zN:Sz 300 (gN b (ones n) 0 m k):=O.sz _ _ _;have zW:Sz 300 (R5 b (ones n) 0 m k):=O.sz _ _ _;rw[eU] at zU;rw[eN] at zN;rw[eW] at zW;have zs:=szB O;obtain⟨dx,l,ho,_⟩:=O.ob;refine⟨_,AA,_,AA,o,dx,_,AA,ho,AA,_,AA,_,AA,o,d,b,ones n,0,m,k,AA,O,hlen,hm,hk,⟨h0,()⟩,λv1 H1 e1 O1 q1=> ?_⟩;rw[eU] at q1;obtain⟨TJ,l1,ho1,_⟩:=O1.ob;refine⟨_,AA,o,TJ,_,AA,ho1,AA,_,AA,_,AA,o,d,b,ones n,0,m,k,AA,O1,hlen,hm,hk,h0,λv2 H2 e2 O2 q2=> ?_⟩;rw[eN] at q2;have hv2:=A8.out O1 (A8.out O hv e1) e2;refine⟨v,v1,v2,x,_,_,AA,hv2,A8.out O1 q1 e2,q2,zx.mono (()),zU.mono (()),zN.mono (()),λv3 H3 s3 q3=> ?_⟩;have O3:=O2.same s3;obtain⟨iu,l3,ho3,_⟩:=O3.ob;have e13:Ext d H H3:=e1.trans (e2.trans (Ext.of s3));have z1:=(Sz.one (n:=1) (())).sub zx;have zu:=(zx.mul zU).add (z1.mul zN);refine⟨_,AA,AA,_,AA,BF (λck=> ?_) λck=> ?_⟩
 ·rw[Bg] at ck;refine⟨_,AA,q v3 H3 e13 ?_⟩;show A8 K H3 v3 (if k=0 then 0 else mD b n m k x);unfold mD;rw[AB a_,AG (AM ck)];exact q3
 ·rw[Bg] at ck;have qO:¬m=0:=λz=>ck (AH z);refine⟨_,AA,_,AA,o,iu,_,AA,ho3,AA,o,d,b,ones n,AA,O3,λv4 H4 s4 q4=> ?_⟩;have O4:=O3.same s4;obtain⟨dx4,l4,ho4,_⟩:=O4.ob;refine⟨_,AA,o,dx4,_,AA,ho4,AA,_,AA,_,AA,o,d,b,ones n,0,m,k,AA,O4,hlen,hm,hk,⟨h0,()⟩,λv5 H5 e5 O5 q5=> ?_⟩;rw[eW] at q5;refine⟨v,v4,v5,x,_,_,AA,A8.out O4 (hv2.same (s3.trans s4)) e5,A8.out O4 q4 e5,q5,zx.mono (()),zs.mono (()),zW.mono (()),λv6 H6 s6 q6=> ?_⟩;have zl:=(zx.mul zs).add (z1.mul zW);refine⟨_,AA,v6,v3,_,_,AA,q6,(A8.out O4 (q3.same s4) e5).same s6,IF zl,IF zu,λv7 q7=>q v7 H6 (e13.trans ((Ext.of s4).trans (e5.trans (Ext.of s6)))) ?_⟩;show A8 K H6 v7 (if k=0 then 0 else mD b n m k x);unfold mD;rw[AB a_,AB qO];exact q7
end
end
section
variable{cs:Cs}{CO CN CV:Addr}
abbrev Sq(a:Kp317.Ans):List Int:=a.num::a.nums
theorem Kq(r:Rat):Sq (FL (q r))=0::nums [r]:=rfl
section
variable(e:Em)
theorem vt:Dx e .worth=Sq (FL (HR (left e) e.looks e.misdeeds e.fine)):=rfl
theorem ABY:Dx e .look=if left e=0 then [-6] else Sq (FL (En (left e) e.looks e.fine)):=by
 show Sq (if left e=0 then Ec (-6) else _)=_;split <;> rfl
theorem ABZ:Dx e .dare=if left e=0 then [-6] else Sq (FL (aO (left e) e.looks e.misdeeds e.fine)):=by
 show Sq (if left e=0 then Ec (-6) else _)=_;split <;> rfl
theorem jH(a m k:Nat):Dx e (.worthOf a m k)=if VJ a m k=false then [-22] else Sq (FL (HR a m k e.fine)):=by
 show Sq (if VJ a m k=false then Ec (-22) else _)=_;split <;> rfl
theorem rf(b:Nat):Dx e (.ifFine b)=if Qq b=false then [-22] else Sq (FL (HR (left e) e.looks e.misdeeds b)):=by
 show Sq (if Qq b=false then Ec (-22) else _)=_;split <;> rfl
theorem rh(x:Nat):Dx e (.ifLook x)=if left e=0 then [-6] else if 100<x then [-22] else if 0<x/\e.looks=0 then [-33] else Sq (FL (aJ (left e) e.looks e.misdeeds e.fine (FN x 100))):=by
 show Sq (if left e=0 then Ec (-6) else if 100<x then Ec (-22) else if 0<x/\e.looks=0 then Ec (-33) else _)=_;split
 ·rfl
 ·split
  ·rfl
  ·split <;> rfl
theorem rj(y:Nat):Dx e (.ifDare y)=if left e=0 then [-6] else if 100<y then [-22] else if 0<y/\e.misdeeds=0 then [-33] else Sq (FL (if e.misdeeds=0 then(0,1) else VI (left e) e.looks e.misdeeds e.fine (FN y 100))):=by
 show Sq (if left e=0 then Ec (-6) else if 100<y then Ec (-22) else if 0<y/\e.misdeeds=0 then Ec (-33) else if e.misdeeds=0 then FL (0,1) else _)=_;split
 ·rfl
 ·split
  ·rfl
  ·split
   ·rfl
   ·split <;> rfl
theorem rl:Dx e .caught=Sq (FL (aG e.fine (left e) e.looks e.misdeeds)):=rfl
theorem ABa:Dx e .done=Sq (FL (aK e.fine (left e) e.looks e.misdeeds)):=rfl
theorem rm(t:Nat):Dx e (.looked t)=if left e<=t then [-22] else Sq (FL (Qp e.fine (left e) e.looks t)):=by
 show Sq (if left e<=t then Ec (-22) else _)=_;split <;> rfl
theorem vw(j:Nat):Dx e (.spare j)=if e.looks<j then [-22] else Sq (FL (VH e.fine (left e) e.looks j)):=by
 show Sq (if e.looks<j then Ec (-22) else _)=_;split <;> rfl
theorem cV(p:Nat):Dx e (.looksFor p)=if p=0\/1000<p then [-22] else [((((Cv (left e+1)).find? λm=>F8 (HR (left e) m e.misdeeds e.fine) (1,p)).getD (left e):Nat):Int)]:=by
 show Sq (if p=0\/1000<p then Ec (-22) else _)=_;split <;> rfl
theorem jI(p:Nat):Dx e (.fineFor p)=if p=0\/1000<p then [-22] else match((Cv 100).drop 1).find? λb=>F8 (HR (left e) e.looks e.misdeeds b) (1,p) with
  |some b=> [(b:Int)]
  |none=> [-33]:=by
 show Sq (if p=0\/1000<p then Ec (-22) else match((Cv 100).drop 1).find? (λb=>F8 (HR (left e) e.looks e.misdeeds b) (1,p)) with|some b=>Ec (b:Nat)|none=>Ec (-33))=_;split
 ·rfl
 ·cases ((Cv 100).drop 1).find? (λb=>F8 (HR (left e) e.looks e.misdeeds b) (1,p)) <;> rfl
end
abbrev jJ(K:Ab)(cs:Cs)(n:Nat)(pc:List Nat->Lx):Sp:=spQ K cs n (λh=>NN h.even) λh as=>Dx h.even (pc as)
theorem rn(x:Nat):FN x 100=q ((x:Rat) / (100:Nat)):=G0 (x:Int) (())
section
variable(B:SS P w K mg base cs CO CN CV)
include B
theorem rp(AW:#[] 46 "alike_worth" PQ (rZ K cs.A))(D:Def K mg "evenworth" Hi Ae):#[] 47 "evenworth" Ae (jJ K cs 0 λ_=> .worth):=by
 exists 0,YJ;obtain rfl:=DK.mp hl;replace q:∀l H',Ag H H'->H' l=some (.lst ((Dx h.even .worth).map V.int))->Q (.ref l) H':=q;rw[vt,BZ g.f1,Kq] at q;have TW:=B.T.B.Z.tW;have TA:=B.T.B.Z.tA;have ha:=hC.ho.OV;refine⟨_,AK (AO (Dy B.T.B.R.told hr (AV AW hr #[pf (pv 0),pf (pf (pv 0))]))),?_⟩;exact⟨_,AA,_,hC.fA TW,_,AA,_,hC.fA TW,_,ha.fF TA,c.a,_,_,AA,ha,g,g.f1,by have:=g.f3;omega,λv H1 s1 q1=>⟨_,q1,λl H2 s2=>q l H2 (s1.trans s2)⟩⟩
theorem vx(AC:#[] 6 "alike_chances" Fw (cT K cs.A CV CO))(D:Def K mg "evenlook" JS Ae):#[] 47 "evenlook" Ae (jJ K cs 0 λ_=> .look):=by
 exists 0,Rq;obtain rfl:=DK.mp hl;replace q:∀l H',Ag H H'->H' l=some (.lst ((Dx h.even .look).map V.int))->Q (.ref l) H':=q;rw[ABY,DR g.f1,Kq] at q;have TW:=B.T.B.Z.tW;have TA:=B.T.B.Z.tA;have ha:=hC.ho.OV;have nd:=Rq.nd;refine⟨_,AF (1>>pf (pv 0)) (AF (Aj (Af B_ (pf (pv 1)) AU (Ai _)) (AK (AO (DL B.T.B.n6))) Aa)
  (AK (AO (Dy B.T.B.R.told hr (Ws B.lc B.V.cl hr (AV AC hr #[pv 1]) #[AU,pf (pv 1),pf (pv 1)]))))),?_⟩
 refine⟨_,AA,_,hC.fA TW,_,AA,_,ha.fD TA,AA,_,AA,BF (λcc=> ?_) λcc=> ?_⟩
 ·rw[Bg] at cc;rw[AG (AM cc)] at q;exact q
 rw[Bg] at cc;have h0:¬left h.even=0:=λz=>cc (AH z);rw[AB h0] at q;have h2:=g.lo;have h3:=g.mi;refine⟨_,AA,c.a,_,AA,ha,g,λo d H1 s1 Gg a1=> ?_⟩;obtain⟨dx,l1,ou,e1,_,_⟩:=a1.ex;refine⟨o,AA,⟨dx,_,e1,AA⟩,_,AA,_,(ha.same s1).fL TA,_,AA,_,(ha.same s1).fM TA,o,d,(left h.even,h.even.fine),0,_,_,AA,⟨a1,g.d4,g.f1,g.f3⟩,?_,(),(),λv H2 e2 _ q2=>⟨_,q2,λl H3 s3=>q l H3 ((Ext.fresh s1 Gg e2).trans s3)⟩⟩;show 0< (ones (left h.even)).length;rw[Ba];omega
theorem vy(AC:#[] 6 "alike_chances" Fw (cT K cs.A CV CO))(D:Def K mg "evendare" JT Ae):#[] 47 "evendare" Ae (jJ K cs 0 λ_=> .dare):=by
 exists 0,Rr;obtain rfl:=DK.mp hl;replace q:∀l H',Ag H H'->H' l=some (.lst ((Dx h.even .dare).map V.int))->Q (.ref l) H':=q;rw[ABZ,MF g.f1,Kq] at q;have TW:=B.T.B.Z.tW;have TA:=B.T.B.Z.tA;have ha:=hC.ho.OV;have nd:=Rr.nd;refine⟨_,AF (1>>pf (pv 0)) (AF (Aj (Af B_ (pf (pv 1)) AU (Ai _)) (AK (AO (DL B.T.B.n6))) Aa)
  (AK (AO (Dy B.T.B.R.told hr (Ws B.dc B.V.cl hr (AV AC hr #[pv 1]) #[AU,pf (pv 1),pf (pv 1)]))))),?_⟩
 refine⟨_,AA,_,hC.fA TW,_,AA,_,ha.fD TA,AA,_,AA,BF (λcc=> ?_) λcc=> ?_⟩
 ·rw[Bg] at cc;rw[AG (AM cc)] at q;exact q
 rw[Bg] at cc;have h0:¬left h.even=0:=λz=>cc (AH z);rw[AB h0] at q;have h2:=g.lo;have h3:=g.mi;refine⟨_,AA,c.a,_,AA,ha,g,λo d H1 s1 Gg a1=> ?_⟩;obtain⟨dx,l1,ou,e1,_,_⟩:=a1.ex;refine⟨o,AA,⟨dx,_,e1,AA⟩,_,AA,_,(ha.same s1).fL TA,_,AA,_,(ha.same s1).fM TA,o,d,(left h.even,h.even.fine),0,_,_,AA,⟨a1,g.d4,g.f1,g.f3⟩,?_,(),(),λv H2 e2 _ q2=>⟨_,q2,λl H3 s3=>q l H3 ((Ext.fresh s1 Gg e2).trans s3)⟩⟩;show 0< (ones (left h.even)).length;rw[Ba];omega
theorem cW(D:Def K mg "worthof" K_ YA):#[] 47 "worthof" YA (jJ K cs 3 λas=> .worthOf (as.getD 0 0) (as.getD 1 0) (as.getD 2 0)):=by
 exists 0,iY;obtain⟨n,m,k,rfl⟩:∃a b c,as= [a,b,c]:=match as,hl with| [a,b,c],_=>⟨a,b,c,rfl⟩
 replace q:∀l H',Ag H H'->H' l=some (.lst ((Dx h.even (.worthOf n m k)).map V.int))->Q (.ref l) H':=q;rw[jH,BZ g.f1,Kq] at q;have TW:=B.T.B.Z.tW;have TA:=B.T.B.Z.tA;have ha:=hC.ho.OV;refine⟨_,AF (Aj (Ep (BN (ABO (n:=8) (pv 1) B.mD)) (Ep (Af CK (pv 2) (pv 1) (Ai _)) (FP (Af CK (pv 3) (pv 1) (Ai _))))).pt (AK (AO (DL B.T.B.NH))) Aa)
  (AK (AO (Dy B.T.B.R.told hr (AV B.ew hr #[pv 1,pv 2,pv 3,pf (pf (pv 0))])))),?_⟩
 have ok:VJ n m k=((decide (1<=n) && decide (n<=8)) && (decide (m<=n) && decide (k<=n))):=by unfold VJ;rw[Bool.and_assoc]
 rw[ok] at q;refine⟨_,AA,n,AA,_,AA,BF (λcc=> ?_) λcc=> ?_⟩
 ·rw[AG (show _=false by rw[(Lq _).mp cc,Ql])] at q;exact Au q
 have c1:(decide (1<=n) && decide (n<=8))=true:=by
  cases hc:(decide (1<=n) && decide (n<=8)) with
  |true=>rfl
  |false=>rw[hc] at cc;exact absurd rfl cc
 rw[c1,U2] at q;refine⟨_,AA,_,AA,_,_,AA,AA,_,AA,BF (λcc=> ?_) λcc=> ?_⟩
 ·have:=AM cc;rw[AL (show¬m<=n by omega),Ql,AG rfl] at q;exact Au q
 have c2:m<=n:=by
  have:¬(n:Int)< (m:Int):=λz=>cc (AH z);omega
 rw[AH c2,U2] at q;refine⟨_,AA,_,AA,_,_,AA,AA,_,AA,BF (λcc=> ?_) λcc=> ?_⟩
 ·have:=AM cc;rw[AL (show¬k<=n by omega),AG rfl] at q;exact q
 have c3:k<=n:=by
  have:¬(n:Int)< (k:Int):=λz=>cc (AH z);omega
 rw[AH c3,AB Cd] at q;have c4:n<=8:=AM (LU.mp c1).2;exact⟨_,AA,_,AA,_,AA,_,AA,_,hC.fA TW,_,ha.fF TA,n,m,k,_,AA,c4,(),(),g.f1,by have:=g.f3;omega,λv H1 s1 q1=>⟨_,q1,λl H2 s2=>q l H2 (s1.trans s2)⟩⟩
theorem jK(AW:#[] 46 "alike_worth" PQ (rZ K cs.A))(D:Def K mg "eveniffine" GX YB):#[] 47 "eveniffine" YB (jJ K cs 1 λas=> .ifFine (as.getD 0 0)):=by
 exists 0,V9;obtain⟨b,rfl⟩:∃a,as= [a]:=match as,hl with| [a],_=>⟨a,rfl⟩
 replace q:∀l H',Ag H H'->H' l=some (.lst ((Dx h.even (.ifFine b)).map V.int))->Q (.ref l) H':=q;rw[rf] at q;have TW:=B.T.B.Z.tW;have ha:=hC.ho.OV;refine⟨_,AF (Aj (BN (ABO (n:=9) (pv 1) B.mF)) (AK (AO (DL B.T.B.NH))) Aa)
  (AK (AO (Dy B.T.B.R.told hr (AV AW hr #[pf (pv 0),pv 1])))),?_⟩
 refine⟨_,AA,b,AA,_,AA,BF (λcc=> ?_) λcc=> ?_⟩
 ·rw[AG (show Qq b=false by unfold Qq;rw[←Lq];exact cc)] at q;exact q
 have c1:(decide (1<=b) && decide (b<=9))=true:=by
  cases hc:(decide (1<=b) && decide (b<=9)) with
  |true=>rfl
  |false=>rw[hc] at cc;exact absurd rfl cc
 have c2:=AM (LU.mp c1).1;have c3:=AM (LU.mp c1).2;rw[AB (by unfold Qq;rw[c1];exact Cd),BZ c2,Kq] at q;exact⟨_,AA,_,hC.fA TW,_,AA,c.a,_,b,AA,ha,g,c2,(),λv H1 s1 q1=>⟨_,q1,λl H2 s2=>q l H2 (s1.trans s2)⟩⟩
theorem jL(AE:#[] 26 "alike_end" Fw (vp K cs.A))(D:Def K mg "evencaught" GY Ae):#[] 47 "evencaught" Ae (jJ K cs 0 λ_=> .caught):=by
 exists 0,V_;obtain rfl:=DK.mp hl;replace q:∀l H',Ag H H'->H' l=some (.lst ((Dx h.even .caught).map V.int))->Q (.ref l) H':=q;rw[rl,Je g.f1 (left h.even) _ 0 _ _ (),Kq] at q;have TW:=B.T.B.Z.tW;refine⟨_,AK (AO (Dy B.T.B.R.told hr (BM BV (AV AE hr #[pf (pv 0)]) AU (λ_ _=>rfl)))),?_⟩;exact⟨_,AA,_,hC.fA TW,c.a,_,AA,hC.ho.OV,g,λpr v1 v2 H1 s1 hp q1 q2=>⟨pr,_,_,_,AA,AA,hp,AA,_,q1,λl H2 s2=>q l H2 (s1.trans s2)⟩⟩
theorem vz(AE:#[] 26 "alike_end" Fw (vp K cs.A))(D:Def K mg "done" V' Ae):#[] 47 "done" Ae (jJ K cs 0 λ_=> .done):=by
 exists 0,AAH;obtain rfl:=DK.mp hl;replace q:∀l H',Ag H H'->H' l=some (.lst ((Dx h.even .done).map V.int))->Q (.ref l) H':=q;have hu:∀t<left h.even,jq (ones (left h.even)) t=1:=λt ht=>by
  obtain⟨u,hu,_,hm,_⟩:=Jd (days:=ones (left h.even)) (t:=t) (by rw[Ba];exact ht);rw[Kl hu,NL hm]
 rw[ABa,NM g.f1 (left h.even) hu _ 0 _ _ (),Kq] at q;have TW:=B.T.B.Z.tW;refine⟨_,AK (AO (Dy B.T.B.R.told hr (BM BV (AV AE hr #[pf (pv 0)]) AU (λ_ _=>rfl)))),?_⟩;exact⟨_,AA,_,hC.fA TW,c.a,_,AA,hC.ho.OV,g,λpr v1 v2 H1 s1 hp q1 q2=>⟨pr,_,_,_,AA,AA,hp,AA,_,q2,λl H2 s2=>q l H2 (s1.trans s2)⟩⟩
def J2(n x left:Nat):Int:=if n=0 then -6 else if 100<x then -22 else if 0<x/\left=0 then -33 else 0
inductive Wy(CA:Addr):Sp
 |mk (a:Addr) (e:Em) (x m:Nat):vs= [.ref a,nV x,nV m]->Du CA H a e->Q (.int (J2 (left e) x m)) H->Wy CA vs H Q DJ
theorem v_(D:Def K mg "refused_chance" D' RY):#[] 1 "refused_chance" RY (Wy cs.A):=by
 exists OP
 ·obtain⟨a,e,x,m,rfl,_⟩:=h;rfl
 obtain⟨a,e,x,m,rfl,ha,q⟩:=h;refine⟨_,AF (Aj (Af B_ (pf (pv 0)) AU (Ai _)) (AK (AO (BD B.T.B.n6))) Aa)
  (AF (Aj (Af CK (pv 1) (BD B.mC) (Ai _)) (AK (AO (BD B.T.B.NH))) Aa)
  (AF (Aj (Vd (Af CK (pv 1) AU (Ai _)) (P1 (Af B_ (pv 2) AU (Ai _)))).pt (AK (AO (BD B.T.B.vL))) Aa)
  (AK (AO AU)))),?_⟩
 unfold J2 at q;refine⟨_,AA,_,ha.fD B.T.B.Z.tA,AA,_,AA,BF (λcc=> ?_) λcc=> ?_⟩
 ·rw[Bg] at cc;rw[AG (AM cc)] at q;exact q
 rw[Bg] at cc;rw[AB (λz=>cc (AH z))] at q;refine⟨_,AA,_,_,AA,AA,_,AA,BF (λcc=> ?_) λcc=> ?_⟩
 ·rw[AG (by have:=AM cc;omega)] at q;exact q
 rw[AB (λz=>cc (AH (by show(100:Int)< (x:Int);omega)))] at q;refine⟨_,AA,_,_,AA,AA,_,AA,BF (λcc=> ?_) λcc=> ?_⟩
 ·have h1:=AM cc;refine⟨_,AA,AA,_,AA,BF (λck=> ?_) λck=> ?_⟩
  ·rw[Bg] at ck;rw[AG ⟨(),AM ck⟩] at q;exact q
  ·rw[Bg] at ck;rw[AB (λz=>ck (AH z.2))] at q;exact q
 ·rw[AB (λz=>cc (AH (by show(0:Int)< (x:Int);omega)))] at q;exact A' q
end
end
section
inductive xq(Q:VK)(x:V)(H1:Hp):Prop
 |mk (d u:_) (x0:x= .ref d) (x1:H1 d=some u) (x2:s_ (some u)) (x3:∀od,Q x (upd H1 d (.DW od u))):xq Q x H1
def AFV(te:TE):TE:=λσ H Q=>te σ H (xq Q)
theorem rq{X:Cx}{e:Expr}{te:TE}(he:PE X e te):PE X e (AFV te):=λpins s σ H Q I h=>Bt (he pins s σ H _ I h) λv s1 ⟨x,H1,I1,r,d,u,ex,hd,mu,q⟩=>by
 obtain⟨od,I2⟩:=I1.lock hd mu;exact⟨x,_,I2,r,q od⟩
theorem SU{d:Addr}{o:Obj}{AZ:List (Key×V)}{g:TG}{tb:TS}{D:Ends}{σ:L2.St}{H:Hp}(Pv:Nat->L2.St->Hp->Prop)(h0:Pv 0 σ H)(hl:∀i σ H,i<=AZ.length->Pv i σ H->H d=some (.DW o (.dK AZ)))
  (hs:∀i k v T σ H,AZ[i]? =some (k,v)->Pv i σ H->H T=none->g (.ref T) σ (upd H T (.tup [kV k,v])) λσ2 H2=>tb {D with nx:=Pv (i+1),ct:=Pv (i+1),bk:=D.nx} σ2 H2) (hd:∀σ H,Pv AZ.length σ H->D.nx σ H):
  ∃W:Nat->Nat->L2.St->Hp->Prop,(∃m,W 0 m σ H)/\∀i m σ H,W i m σ H->
   ((Iti d o AZ).stop i H/\D.nx σ H)\/((Iti d o AZ).go i H/\∃N:L2.St->Hp->Prop,(∀σ' H',N σ' H'->∃m',m'<m/\W (i+1) m' σ' H')/\∀x H',(Iti d o AZ).ah i H x H'->g x σ H' λσ2 H2=>tb {D with nx:=N,ct:=N,bk:=D.nx} σ2 H2):=by
 refine⟨λi m σ H=>m=AZ.length - i/\i<=AZ.length/\Pv i σ H,⟨AZ.length,by simp,BR _,h0⟩,?_⟩;rintro i m σ H ⟨rfl,hi,p⟩;have q:=hl i σ H hi p;by_cases IA:i<AZ.length
 ·refine .inr ⟨⟨q,IA⟩,Pv (i+1),λσ' H' p'=>⟨AZ.length - (i+1),(),rfl,IA,p'⟩,λx H' y=> ?_⟩;obtain⟨T,k,v,e0,e1,e2,e3⟩:=y;subst e1 e3;exact hs i k v T σ _ e0 p e2
 ·have e:i=AZ.length:=by omega
  subst e;exact .inl ⟨⟨q,As _⟩,hd σ H p⟩
variable{cs:Cs}{CO CN CV:Addr}
def iK(n:Nat):Int×Int:=((n:Int),0)
def eK(k:Int×Int):Key:=Ck k.1
theorem A8.but{H H':Hp}{d:Addr}{u:HO}{v:V}{r:Rat}(h:A8 K H v r)(e:Ext d H H')(hd:H d=some u)(n1:∀xs,u≠ .tup xs)(n2:∀o xs,u≠ .DW o (.tup xs)):A8 K H' v r:=by
 obtain⟨a,ea,z⟩:=h;refine⟨a,ea,?_⟩;rcases z with z|z
 ·refine .inl ?_;rcases z with z|⟨o',z⟩
  ·exact .inl (e _ _ z λy=>by rw[y,hd] at z;exact n1 _ (Bl z))
  ·exact .inr ⟨o',e _ _ z λy=>by rw[y,hd] at z;exact n2 _ _ (Bl z)⟩
 ·exact .inr z
theorem A8.r6{H H':Hp}{d:Addr}{AZ:List (Key×V)}{v:V}{r:Rat}(h:A8 K H v r)(e:Ext d H H')(hd:H d=some (.dK AZ)):A8 K H' v r:=h.but e hd (λ_ z=>nomatch z) (λ_ _ z=>nomatch z)
def HJ(K:Ab)(H:Hp):List (Key×V)->Ch->Prop:=Paired λkv c=>kv.1=eK c.1/\c.1.2=0/\A8 K H kv.2 c.2
theorem HJ.imp{H H':Hp}{AZ:List (Key×V)}{cs:Ch}(h:HJ K H AZ cs)(s:∀v r,A8 K H v r->A8 K H' v r):HJ K H' AZ cs:=Paired.Jy h λ_ _ z=>⟨z.1,z.2.1,s _ _ z.2.2⟩
theorem cX{a b:Int×Int}(h:eK a=eK b)(ha:a.2=0)(hb:b.2=0):a=b:=by
 unfold eK at h;injection h with h
 exact L6 h (ha.trans hb.symm)
theorem HJ.len{H:Hp}{AZ:List (Key×V)}{cs:Ch}(h:HJ K H AZ cs):AZ.length=cs.length:=Paired.length h
theorem HJ.get{H:Hp}:∀{AZ:List (Key×V)} {cs:Ch} {i:Nat} {k:Key} {v:V},HJ K H AZ cs->AZ[i]? =some (k,v)->∃e,cs[i]? =some e/\k=eK e.1/\e.1.2=0/\A8 K H v e.2
 |_,_,_,_,_,.nil,h=>by simp at h
 |_,_,0,k,v,.cons (b:=x) r _,h=>by
  have e:=Bl h;subst e;exact⟨x,AA,r⟩
 |_,_,i+1,k,v,.cons _ t,h=>by
  obtain⟨e,h1,h2⟩:=HJ.get (i:=i) t (by simpa using h);exact⟨e,by simpa using h1,h2⟩
theorem HJ.val{H:Hp}{k:Int×Int}(hk:k.2=0):∀{AZ:List (Key×V)} {cs:Ch},HJ K H AZ cs->(∃v,EG AZ (eK k)=some v/\A8 K H v (C5 cs k))\/(EG AZ (eK k)=none/\C5 cs k=0)
 |_,_,.nil=> .inr ⟨rfl,rfl⟩
 |_,_,.cons (a:=e) (b:=x) h t=>by
  simp only[C5];by_cases hx:x.1=k
  ·rw[AG hx,CW (by rw[h.1,hx])];exact .inl ⟨_,rfl,h.2.2⟩
  ·rw[AB hx,CY (λz=>hx (cX (h.1.symm.trans z) h.2.1 hk))];exact HJ.val hk t
theorem jM{k:Key}{v:V}{e:Key×V}{r:List (Key×V)}(h:e.1∉r.map (·.1)):putK (e::r) k v=if e.1=k then(e.1,v)::r else e::putK r k v:=by
 by_cases he:e.1=k
 ·rw[AG he];unfold putK;have a:((e::r).any λkv=>decide (kv.1=k))=true:=by rw[Ll,AH he];rfl
  rw[AG a,B7,AG he];congr 1;have:r.map (λkv=>if kv.1=k then(kv.1,v) else kv)=r.map id:=QY λx hx=>by
   rw[AB]
   ·rfl
   ·intro z;exact h (by rw[he,←z];exact Fp.mpr ⟨x,hx,rfl⟩)
  rw[this,kS]
 ·rw[AB he];unfold putK;have a:((e::r).any λkv=>decide (kv.1=k))=r.any λkv=>decide (kv.1=k):=by rw[Ll,AL he,Z2]
  rw[a];split
  ·rw[B7,AB he]
  ·rfl
theorem HJ.mem{H:Hp}{k:Int×Int}(hk:k.2=0):∀{AZ:List (Key×V)} {cs:Ch},HJ K H AZ cs->eK k∈AZ.map (·.1)->k∈cs.map (·.1)
 |_,_,.nil,h=>nomatch h
 |_,_,.cons (a:=e) (b:=x) h t,hm=>by
  rw[B7] at hm ⊢;rcases BQ.mp hm with hm|hm
  ·exact BQ.mpr (.inl (cX (hm.trans h.1) hk h.2.1))
  ·exact Bb _ (HJ.mem hk t hm)
theorem HJ.put{H:Hp}{k:Int×Int}{c:Rat}{v:V}(hk:k.2=0):∀{AZ:List (Key×V)} {cs:Ch},HJ K H AZ cs->(cs.map (·.1)).Nodup->A8 K H v (C5 cs k+c)->HJ K H (putK AZ (eK k) v) (GA cs k c)
 |_,_,.nil,_,h=> .cons ⟨rfl,hk,h⟩ .nil
 |_,_,.cons (a:=e) (b:=x) (l₁:=r) (l₂:=cs) h t,hn,hv=>by
  have hn1:=Bx.mp hn;rw[jM (λz=>hn1.1 (HJ.mem h.2.1 t (by rw[←h.1];exact z)))];simp only[GA,C5] at hv ⊢;by_cases hx:x.1=k
  ·rw[AG hx] at hv ⊢;rw[AG (by rw[h.1,hx])];exact .cons ⟨h.1,h.2.1,hv⟩ t
  ·rw[AB hx] at hv ⊢;rw[AB (λz=>hx (cX (h.1.symm.trans z) h.2.1 hk))];exact .cons h (HJ.put hk t hn1.2 hv)
structure jw(K:Ab)(H:Hp)(d:Addr)(cs:Ch):Prop where
 ex:∃AZ,H d=some (.dK AZ)/\HJ K H AZ cs
 nd:(cs.map (·.1)).Nodup
theorem jw.imp{H H':Hp}{x:Addr}{cs:Ch}(c:jw K H x cs)(e:∀u,H x=some u->H' x=some u)(s:∀v r,A8 K H v r->A8 K H' v r):jw K H' x cs:=
 let⟨AZ,h1,h2⟩:=c.ex;⟨⟨AZ,e _ h1,h2.imp s⟩,c.nd⟩
theorem jw.same{H H':Hp}{x:Addr}{cs:Ch}(c:jw K H x cs)(s:Ag H H'):jw K H' x cs:=c.imp (λu h=>s _ _ h) λv r z=>z.same s
inductive Wz(K:Ab):Sp
 |mk (d:Addr) (n:Nat) (x:V) (cs:Ch) (c:Rat):vs= [.ref d,nV n,x]->jw K H d cs->A8 K H x c->Ok c->Ok (C5 cs (iK n))->cs.length<=1000->(∀H',Ext d H H'->jw K H' d (GA cs (iK n) c)->Q .Dg H')->Wz K vs H Q DJ
theorem v_add(R:HC P w K mg base)(D:Def K mg "add_chance" Es Vx):#[] 4 "add_chance" Vx (Wz K):=by
 exists Mn
 ·obtain⟨d,n,x,cs,c,rfl,_⟩:=h;rfl
 obtain⟨d,n,x,cs,c,rfl,⟨⟨AZ,hd,hc⟩,hn⟩,hx,oc,ol,hlen,q⟩:=h;have hu:=UD hr;refine⟨_,AK (Vr hu (pv 0) (pv 1) (AV R.plus hr #[RH hu (pv 0) (pv 1) (Sm R.zero) ⟨AA,AA,AA,AA⟩,pv 2]) rfl),?_⟩;refine⟨_,AA,d,AA,.inl ⟨AZ,.inl hd⟩,_,AA,?_⟩;intro v0 YV;refine⟨_,Jz.k (k:=eK (iK n)) hd,_,AA,_,x,C5 cs (iK n),c,AA,?_,hx,ol,oc,trivial,λv H1 s1 q1=> ?_⟩
 ·rcases hc.val (k:=iK n) rfl with⟨v,e1,e2⟩|⟨e1,e2⟩
  ·rw[e1];exact e2
  ·rw[e1,e2];exact YV _
 have Sn:=s1 _ _ hd;refine⟨_,AA,_,AA,d,_,AA,Vp.k (k:=eK (iK n)) Sn (by rw[hc.len];exact Ko hlen),?_⟩;have e1:Ext d H1 (upd H1 d (.dK (putK AZ (eK (iK n)) v))):=λa u h n=>by rw[AS n];exact h
 refine q _ ((Ext.of s1).trans e1) ⟨⟨_,AJ,?_⟩,(OW cs (iK n) c hn).1⟩;exact((hc.imp λy r z=>z.same s1).put rfl hn q1).imp λy r z=>z.r6 e1 Sn
end
section
variable{cs:Cs}{CO CN CV:Addr}
theorem W0:∀n<5,∀m<5,∀b<4,0<b->(En n m b).2<=2^10:=by decide+kernel
theorem gS{b n m:Nat}(hb:0<b)(MP:b<=3)(hn:n<=4)(hm:m<=4):(lE b n m).den<=2^10/\Bd (lE b n m).den 0 (lE b n m):=by
 have h1:=W0 n () m () b () hb;rw[DR hb] at h1;obtain⟨z,_,_,hz⟩:=xF hb MP hn (show m<=5 by omega);exact⟨h1,⟨(lE b n m).num,(BW _).symm⟩,hz.lo,hz.hi⟩
def StF(b n T:Nat)(F:Nat->Int×Int->Rat):Prop:=∀t<T,∀m≤4,F t (iK m)=lE b (n - t) m*F (t+1) (iK (m - 1))+(1 - lE b (n - t) m)*F (t+1) (iK m)
theorem W2{cs:Ch}{m:Nat}(hm:m<=4)(hn:(cs.map (·.1)).Nodup)(hk:∀e∈cs,∃j,j<=m/\e.1=iK j):cs.length<=5:=by
 have:=OU (cs.map (·.1)) ((Cv 5).map iK) hn λx hx=>by
  obtain⟨e,he,rfl⟩:=Fp.mp hx;obtain⟨j,hj,e2⟩:=hk e he;exact Fp.mpr ⟨j,Gn.mpr (),e2.symm⟩
 rw[BP,BP,Za] at this;exact this
theorem Yu{cs:Ch}{m k:Nat}{c:Rat}(hk:∀e∈cs,∃j,j<=m/\e.1=iK j)(h:k<=m):∀e∈GA cs (iK k) c,∃j,j<=m/\e.1=iK j:=λe he=>by
 rcases NF he with⟨e1,_⟩|he
 ·exact⟨k,h,e1⟩
 ·exact hk e he
inductive wA(K:Ab):Sp
 |mk (n m b T:Nat):vs= [nV n,nV m,nV b,nV T]->n<=4->m<=4->0<b->b<=3->T<=n->(∀d H' cs,Ag H H'->H d=none->jw K H' d cs->(∀e∈cs,∃j,j<=m/\e.1=iK j)->(∃E,0<E/\E<=2^250/\Small E 60 cs)->(∀F,StF b n T F->sumF (F T) cs=F 0 (iK m))->Q (.ref d) H')->wA K vs H Q DJ
theorem xr{E e v:Nat}{r:Rat}(h:Bd E v r)(h0:0<E)(hE:E<=2^e)(hv:e+v+1<=4000):Ok r:=(h.sz h0 hE).mono hv
inductive LlD(K:Ab)(H:Hp)(n m b T t:Nat):L2.St->Hp->Prop
 |mk (dc:Addr) (y5 y6 y7 y8 y9:Option V) (cs:Ch) (E:Nat):σ= [some (nV n),some (nV m),some (nV b),some (nV T),some (.ref dc),y5,y6,y7,y8,y9]->Ag H H'->H dc=none->jw K H' dc cs->(∀e∈cs,∃j,j<=m/\e.1=iK j)->0<E->E<=2^(50*t)->Small E (12*t+1) cs->(∀F,StF b n T F->sumF (F t) cs=F 0 (iK m))->LlD K H n m b T t σ H'
inductive LlI(K:Ab)(H:Hp)(n m b T:Nat)(dc dl:Addr)(od:Obj)(AZ:List (Key×V))(cs:Ch)(t i:Nat):L2.St->Hp->Prop
 |mk (y7 y8 y9:Option V) (Fm:Ch) (E':Nat):σ= [some (nV n),some (nV m),some (nV b),some (nV T),some (.ref dc),some (nV t),some (.ref dl),y7,y8,y9]->Ag H H2->H2 dc=some (.DW od (.dK AZ))->HJ K H2 AZ cs->jw K H2 dl Fm->(∀e∈Fm,∃j,j<=m/\e.1=iK j)->0<E'->E'<=2^(50*t+10*i)->Small E' (12*t+2+2*i) Fm->Small E' (12*t+1) cs->(∀F,StF b n T F->sumF (F (t+1)) Fm=sumF (F t) (cs.take i))->LlI K H n m b T dc dl od AZ cs t i σ H2
theorem ABb(R:HC P w K mg base)(mr:mg "range"=none)(BL:#[] 4 "best_look" Js (rR K))(AD:#[] 4 "add_chance" Vx (Wz K))(D:Def K mg "looks_left" GW UR):
  #[] 5 "looks_left" UR (wA K):=by
 exists Mu
 ·obtain⟨n,m,b,T,rfl,_⟩:=h;rfl
 obtain⟨n,m,b,T,rfl,hn,hm,hb,MP,hT,q⟩:=h;have nd:=Mu.nd;have hu:=UD hr;refine⟨_,AF (4>>uL (Xt (pv 1) (Sm R.one) d8) rfl rfl (by intro z;cases z) (()))
  (AF (H_ HS rfl (Kv rfl mr #[pv 3]) (BK (i:=5) nd rfl (BJ rfl))
   (AF (6>>oe)
   (AF (H_ HS rfl (Xz (rq (pv 4))) (Ve rfl (Fu (BK (i:=7) nd rfl (BJ rfl)) (Fu (BK (i:=8) nd rfl (BJ rfl)) P2)))
    (AF (9>>AV BL hr #[Ay Er (pv 0) (pv 5),pv 7,pv 2])
    (AF (Aj (Af (oT hr.units) (pv 9) (Sm R.zero) (Ai _)) (AK (Bu (AV AD hr #[pv 6,Ay Er (pv 7) AU,AV R.times hr #[pv 8,pv 9]]))) Aa)
    (AK (Bu (AV AD hr #[pv 6,pv 7,AV R.times hr #[pv 8,AV R.minus hr #[Sm R.one,pv 9]]]))))))
   (AK (4>>pv 6)))))
  (AK (AO (pv 4)))),?_⟩
 intro d0 Pd;refine⟨_,AA,λv1 ZK=>⟨AJ,[(eK (iK m),v1)],AA,by show 1<=15;decide,?_⟩⟩;rw[Az];have s0:Ag H (upd H d0 (.dK (N' [] [(eK (iK m),v1)]))):=AX Pd _;refine⟨_,AA,(T:Int),AA,(),(),?_⟩;rw[EJ];refine Kw (n:=T) (LlD K H n m b T)
  ⟨d0,none,none,none,none,none,[(iK m,1)],1,rfl,s0,Pd,⟨⟨_,AJ,.cons ⟨rfl,rfl,ZK _⟩ .nil⟩,by simp⟩,λe he=> ?_,(()),(()),⟨λe he=> ?_⟩,λF hF=> ?_⟩ ?_ ?_
 ·rw[Gm.mp he];exact⟨m,As _,AA⟩
 ·rw[Gm.mp he];exact Bd.one _ _
 ·simp only[sumF];grind
 ·rintro t σ H1 ht ⟨dc,y5,y6,y7,y8,y9,cs,E,rfl,s1,ABc,C1,hk,hE0,o6,sC,hS⟩;have et:(0:Int)+(t:Int)=((t:Nat):Int):=by omega
  rw[et];intro dl hdl;have s2:=AX hdl (.dK []);obtain⟨AZ,hdc,N4⟩:=(C1.same s2).ex;have Fv:dl≠dc:=(AQ (C1.ex.choose_spec.1) hdl).symm;have vG:=N4.len;have hl5:=W2 hm C1.nd hk;have ADy:H dl=none:=s1.free hdl;refine⟨_,AA,dc,_,AA,hdc,trivial,λod=>⟨dc,od,AZ,AA,AJ,?_⟩⟩;have eF:Ext dc (upd H1 dl (.dK [])) (upd (upd H1 dl (.dK [])) dc (.DW od (.dK AZ))):=λa u h n=>by rw[AS n];exact h
  refine SU (LlI K H n m b T dc dl od AZ cs t)
   ⟨y7,y8,y9,[],E,rfl,λa u h=>eF a u (s2 _ _ (s1 _ _ h)) (AQ h ABc),AJ,N4.imp λv r z=>z.r6 eF hdc,⟨⟨[],by rw[AS Fv];exact AJ,.nil⟩,GD⟩,(λe he=>nomatch he),hE0,by rw[kZ,Zw];exact o6,⟨λe he=>(nomatch he)⟩,sC,λF hF=>rfl⟩
   (by rintro _ _ _ _ ⟨⟩;assumption) ?_ ?_
  ·rintro i k v T2 σ H2 S0 ⟨y7,y8,y9,Fm,E',rfl,s3,vJ,cY,C3,f7,TQ,TU,sL,sC3,hS3⟩ oj;obtain⟨e,he,rfl,he0,qv⟩:=cY.get S0;obtain⟨j,hj,ej⟩:=hk e (II he);obtain⟨ek,ch⟩:=e;subst ej;have hi:i<5:=by have:=(Jg.mp he).1;omega
   have ZM:=W2 hm C3.nd f7;have hnt:n - t<=4:=by omega
   have hjm:j<=4:=by omega
   obtain⟨z1,zb⟩:=gS (m:=j) hb MP hnt hjm;refine⟨T2,_,AA,Bi.of AJ,AA,_,_,AA,_,_,AA,AA,?_⟩;have s4:=AX oj (.tup [kV (eK (iK j)),v]);refine⟨_,AA,_,AA,_,_,AA,AA,_,AA,_,AA,n - t,j,b,?_,hnt,(),hb,(),λv9 H5 s5 q9=> ?_⟩
   ·show [V.int ((n:Int) - (t:Int)),nV j,nV b]=_;unfold nV;congr 2;omega
   have r8:=s4.trans s5;have AFW:=r8 _ _ vJ;have hE2:E'*(lE b (n - t) j).den<=2^(50*t+10*(i+1)):=by
    rw[show 50*t+10*(i+1)=(50*t+10*i)+10 by omega,GF];exact Ji TU z1
   have r9:0<E'*(lE b (n - t) j).den:=Fq TQ (lr _);have bch:Bd E' (12*t+1) ch:=sC3.at_ _ (II he);have qv5:=qv.same r8;generalize hx:lE b (n - t) j=x at*
   have hex:50*t+10*(i+1)<=250:=by omega
   have Wh:∀{k:Nat} {r:Rat},Bd (E'*x.den) k r->k<=500->Ok r:=λ{k r} h hk=>xr h r9 hE2 ();have okx:Ok x:=Wh (by have:=zb.up E' (As 0);rw[Gs] at this;exact this) ();have okc:Ok ch:=Wh (bch.up _ (As _)) ();have b1:Bd x.den 1 (1 - x):=(Bd.one x.den 0).sub zb;have AFX:Ok (1 - x):=Wh (by have:=b1.up E' (As 1);rw[Gs] at this;exact this) ();have bcx:Bd (E'*x.den) (12*t+1) (ch*x):=bch.mul zb;have bcn:Bd (E'*x.den) (12*t+2) (ch*(1 - x)):=bch.mul b1;have sLU:Small (E'*x.den) (12*t+2+2*i) Fm:=sL.up _ (As _);have fin:∀(H6:Hp) (OX:Ch),Ext dl H5 H6->jw K H6 dl OX->(∀e∈OX,∃j,j<=m/\e.1=iK j)->Small (E'*x.den) (12*t+2+2*i+1) OX->(∀F,StF b n T F->sumF (F (t+1)) OX=sumF (F (t+1)) Fm+ch*x*F (t+1) (iK (j - 1)))->
     Jn (Wz K) [] E0 (Cq (Cc 6) (Cq (Cc 7) (Cq (Jn (M8 K (λ_ _=>True) λr s=>r*s) [] E0 (Cq (Cc 8) (Cq (Jn (M8 K (λ_ _=>True) λr s=>r - s) [] E0 (Cq (tGQ K 1) (Cq (Cc 9) IM))) IM))) IM)))
      [some (nV n),some (nV m),some (nV b),some (nV T),some (.ref dc),some (nV t),some (.ref dl),some (nV j),some v,some v9] H6 λ_=>LlI K H n m b T dc dl od AZ cs t (i+1) [some (nV n),some (nV m),some (nV b),some (nV T),some (.ref dc),some (nV t),some (.ref dl),some (nV j),some v,some v9]:=by
    intro H6 OX e6 C6 hk6 sm6 hS6;obtain⟨ju,vK,_⟩:=(C3.same r8).ex;have up:∀v r,A8 K H5 v r->A8 K H6 v r:=λv r z=>z.r6 e6 vK;have hl6:=W2 hm C6.nd hk6;refine⟨_,AA,_,AA,_,AA,λw1 hw1=>⟨_,AA,w1,v9,1,x,AA,hw1 _,up _ _ q9,IF (Sz.one (n:=1) (())),okx,trivial,λv10 H7 s7 q10=>⟨v,v10,ch,1 - x,AA,(up _ _ qv5).same s7,q10,okc,AFX,trivial,λv11 H8 s8 q11=> ?_⟩⟩⟩;have C8:=C6.same (s7.trans s8);refine⟨dl,j,v11,OX,ch*(1 - x),AA,C8,q11,Wh bcn (),Wh (HE sm6.at_) (),(),λH9 e9 C9=> ?_⟩;obtain⟨kv8,AFY,_⟩:=C8.ex;have up9:∀v r,A8 K H2 v r->A8 K H9 v r:=λv r z=>((up _ _ (z.same r8)).same (s7.trans s8)).r6 e9 AFY;have keep:∀a u,H5 a=some u->a≠dl->H9 a=some u:=λa u h n1=>e9 _ _ ((s7.trans s8) _ _ (e6 _ _ h n1)) n1;refine⟨_,_,_,_,E'*x.den,AA,λa u h=>keep _ _ (r8 _ _ (s3 _ _ h)) (AQ h ADy),keep _ _ AFW Fv.symm,cY.imp up9,C9,Yu hk6 hj,r9,hE2,?_,sC3.up _ (As _),λF hF=> ?_⟩
    ·have:=sm6.add (k:=iK j) (bcn.mono (show 12*t+2<=12*t+2+2*i+1 by omega));exact this
    ·rw[E_,hS6 F hF,Ih _ he,hS3 F hF,hF t ht j hjm,hx];generalize sumF (F t) (cs.take i)=S at*
     grind
   refine⟨_,AA,λw0 hw0=>⟨dQ x,dQ 0,q9.dp,(hw0 _).dp,NG _,NG _,_,AA,?_⟩⟩;rw[xQ];by_cases hx0:x=0
   ·rw[AH hx0];refine A' ?_;refine fin H5 Fm (Ext.refl _ _) (C3.same r8) f7 ⟨λe he=>(sLU.at_ e he).mono ()⟩ λF hF=> ?_;rw[hx0];grind
   ·rw[AL hx0];refine Au ?_;have hj0:0<j:=Zl λz=>hx0 (by rw[←hx,z];exact UJ _ _);refine⟨_,AA,_,AA,_,_,AA,AA,_,AA,_,AA,v,v9,ch,x,AA,qv5,q9,okc,okx,trivial,λv10 H6 s6 q10=> ?_⟩;have C6:=(C3.same r8).same s6;refine⟨dl,j - 1,v10,Fm,ch*x,?_,C6,q10,Wh bcx (),Wh (HE sLU.at_) (),(),λH7 e7 C7=> ?_⟩
    ·show [V.ref dl,V.int ((j:Int) - 1),v10]=_;unfold nV;congr 3;omega
    obtain⟨kv6,AF2,_⟩:=C6.ex;exact fin H7 _ ((Ext.of s6).trans e7) C7 (Yu f7 ()) (sLU.add (bcx.mono ())) λF hF=>E_ _ _ _ _
  ·rintro σ H2 ⟨y7,y8,y9,Fm,E',rfl,s3,vJ,cY,C3,f7,TQ,TU,sL,sC3,hS3⟩;have e6:cs.take AZ.length=cs:=by rw[vG,KA]
   rw[e6] at hS3;refine⟨_,AA,dl,_,_,_,_,_,Fm,E',AA,s3,ADy,C3,f7,TQ,A6 TU (DM (()) ()),⟨λe he=>(sL.at_ e he).mono ()⟩,λF hF=> ?_⟩;rw[hS3 F hF];exact hS F hF
 ·rintro σ H1 ⟨dc,y5,y6,y7,y8,y9,cs,E,rfl,s1,ABc,C1,hk,hE0,o6,sC,hS⟩;refine⟨_,AA,q dc H1 cs s1 ABc C1 hk ⟨E,hE0,A6 o6 (DM (()) ()),⟨λe he=>(sC.at_ e he).mono ()⟩⟩ hS⟩
end
section
variable{cs:Cs}{CO CN CV:Addr}
theorem IG(j:Nat):(iK j).1.toNat=j:=EJ j
theorem jN(b n T:Nat)(hT:T<=n):StF b n T λt k=>kE b (n - t) k.1.toNat (T - t):=λt ht m hm=>by
 show kE b (n - t) (iK m).1.toNat (T - t)=lE b (n - t) m*kE b (n - (t+1)) (iK (m - 1)).1.toNat (T - (t+1))+(1 - lE b (n - t) m)*kE b (n - (t+1)) (iK m).1.toNat (T - (t+1));rw[IG,IG,show n - t=(n - (t+1))+1 by omega,show T - t=(T - (t+1))+1 by omega];rfl
theorem wB(b n j:Nat):StF b n n λt k=>fE b (n - t) k.1.toNat j:=λt ht m hm=>by
 show fE b (n - t) (iK m).1.toNat j=lE b (n - t) m*fE b (n - (t+1)) (iK (m - 1)).1.toNat j+(1 - lE b (n - t) m)*fE b (n - (t+1)) (iK m).1.toNat j;rw[IG,IG,show n - t=(n - (t+1))+1 by omega];rfl
theorem gX{m j:Nat}:∀{cs:Ch},(cs.map (·.1)).Nodup->(∀e∈cs,∃i,i<=m/\e.1=iK i)->sumF (λk=>if k.1.toNat=j then(1:Rat) else 0) cs=C5 cs (iK j)
 | [],_,_=>rfl
 |e::cs,hn,hk=>by
  have h1:=Bx.mp hn;obtain⟨i,hi,ei⟩:=hk e Bw;have ih:=gX (j:=j) h1.2 λx hx=>hk x (Bb _ hx);simp only[sumF,C5];rw[ih];by_cases hj:i=j
  ·subst hj;have hz:C5 cs (iK i)=0:=by
    have:∀{cs:Ch},iK i∉cs.map (·.1)->C5 cs (iK i)=0:=by
     intro cs;induction cs with
     |nil=>intro _;rfl
     |cons x cs ih=>
      intro h;simp only[C5];rw[AB (λz=>h (by rw[B7,z];exact Bw))];exact ih λz=>h (by rw[B7];exact Bb _ z)
    exact this (by rw[←ei];exact h1.1)
   rw[AG ei,ei,IG,AG rfl,hz];grind
  ·have n1:¬e.1=iK j:=λz=>hj (by have:=congrArg (λk:Int×Int=>k.1.toNat) (ei.symm.trans z);simpa [IG] using this);rw[AB n1,ei,IG,AB hj];grind
section
variable(B:SS P w K mg base cs CO CN CV)
include B
inductive LaI(K:Ab)(H:Hp)(n m b T:Nat)(d:Addr)(od:Obj)(AZ:List (Key×V))(cs:Ch)(i:Nat):L2.St->Hp->Prop
 |mk (v:V) (y5 y6:Option V) (r:Rat) (E':Nat):σ= [some (nV n),some (nV m),some (nV b),some (nV T),some v,y5,y6]->Ag H H2->H2 d=some (.DW od (.dK AZ))->HJ K H2 AZ cs->A8 K H2 v r->0<E'->E'<=2^(250+10*i)->Bd E' (62+i) r->Small E' 60 cs->(r=sumF (λk=>lE b (n - T) k.1.toNat) (cs.take i))->LaI K H n m b T d od AZ cs i σ H2
inductive ABd(K:Ab):Sp
 |mk (n m b T:Nat):vs= [nV n,nV m,nV b,nV T]->n<=4->m<=4->0<b->b<=3->T<=n->(∀v H',Ag H H'->A8 K H' v (kE b n m T)->Q v H')->ABd K vs H Q DJ
theorem cZ(LL:#[] 5 "looks_left" UR (wA K))(D:Def K mg "looked_at" Hf X'):#[] 6 "looked_at" X' (ABd K):=by
 exists PZ
 ·obtain⟨n,m,b,T,rfl,_⟩:=h;rfl
 obtain⟨n,m,b,T,rfl,hn,hm,hb,MP,hT,q⟩:=h;have nd:=PZ.nd;have R:=B.T.B.R;refine⟨_,AF (4>>Sm R.zero)
  (AF (H_ HS rfl (Xz (rq (AV LL hr #[pv 0,pv 1,pv 2,pv 3]))) (Ve rfl (Fu (BK (i:=5) nd rfl (BJ rfl)) (Fu (BK (i:=6) nd rfl (BJ rfl)) P2)))
   (AK (4>>AV R.plus hr #[pv 4,AV R.times hr #[pv 6,AV B.bl hr #[Ay Er (pv 0) (pv 3),pv 5,pv 2]]])))
  (AK (AO (pv 4)))),?_⟩
 intro v0 YV;refine⟨_,AA,_,AA,_,AA,_,AA,n,m,b,T,AA,hn,hm,hb,MP,hT,λd H1 cs s1 Gg C1 hk ⟨E,hE0,o6,sC⟩ hS=> ?_⟩;obtain⟨AZ,hd,N4⟩:=C1.ex;have hl5:=W2 hm C1.nd hk;have vG:=N4.len;refine⟨d,_,AA,hd,trivial,λod=>⟨d,od,AZ,AA,AJ,?_⟩⟩;have eF:Ext d H1 (upd H1 d (.DW od (.dK AZ))):=λa u h n=>by rw[AS n];exact h
 have sF:Ag H (upd H1 d (.DW od (.dK AZ))):=λa u h=>eF a u (s1 _ _ h) (AQ h Gg);refine SU (LaI K H n m b T d od AZ cs)
  ⟨v0,none,none,0,E,rfl,sF,AJ,N4.imp λv r z=>z.r6 eF hd,YV _,hE0,o6,Bd.zero _ _,sC,rfl⟩ (by rintro _ _ _ _ ⟨⟩;assumption) ?_ ?_
 ·rintro i k v T2 σ H2 S0 ⟨vr,y5,y6,r,E',rfl,s3,vJ,cY,qr,TQ,TU,br,sC3,er⟩ oj;obtain⟨e,he,rfl,he0,qv⟩:=cY.get S0;obtain⟨j,hj,ej⟩:=hk e (II he);obtain⟨ek,ch⟩:=e;subst ej;have hi:i<5:=by have:=(Jg.mp he).1;omega
  obtain⟨z1,zb⟩:=gS (n:=n - T) (m:=j) hb MP () ();refine⟨T2,_,AA,Bi.of AJ,AA,_,_,AA,_,_,AA,AA,?_⟩;have s4:=AX oj (.tup [kV (eK (iK j)),v]);refine⟨_,AA,_,AA,_,AA,_,AA,_,_,AA,AA,_,AA,_,AA,n - T,j,b,?_,(),(),hb,(),λv9 H5 s5 q9=> ?_⟩
  ·show [V.int ((n:Int) - (T:Int)),nV j,nV b]=_;unfold nV;congr 2;omega
  have r8:=s4.trans s5;have hE2:E'*(lE b (n - T) j).den<=2^(250+10*(i+1)):=by
   rw[show 250+10*(i+1)=(250+10*i)+10 by omega,GF];exact Ji TU z1
  have r9:0<E'*(lE b (n - T) j).den:=Fq TQ (lr _);have bch:Bd E' 60 ch:=sC3.at_ _ (II he);generalize hx:lE b (n - T) j=x at*
  have Wh:∀{k:Nat} {r:Rat},Bd (E'*x.den) k r->k<=500->Ok r:=λ{k r} h hk=>xr h r9 hE2 ();have bcx:Bd (E'*x.den) 60 (ch*x):=bch.mul zb;have brU:Bd (E'*x.den) (62+i) r:=br.up _ (As _);refine⟨v,v9,ch,x,AA,qv.same r8,q9,Wh (bch.up _ (As _)) (),Wh (by have:=zb.up E' (As 0);rw[Gs] at this;exact this) (),trivial,λv10 H6 s6 q10=> ?_⟩;refine⟨vr,v10,r,ch*x,AA,qr.same (r8.trans s6),q10,Wh brU (),Wh bcx (),trivial,λv11 H7 s7 q11=> ?_⟩;have s47:=r8.trans (s6.trans s7);refine⟨v11,_,_,_,_,AA,s3.trans s47,s47 _ _ vJ,cY.imp λv r z=>z.same s47,q11,r9,hE2,brU.add (bcx.mono ()),sC3.up _ (As _),?_⟩;rw[er,Ih _ he];show _=_+ch*lE b (n - T) (iK j).1.toNat;rw[IG,hx]
 ·rintro σ H2 ⟨vr,y5,y6,r,E',rfl,s3,vJ,cY,qr,TQ,TU,br,sC3,er⟩;refine⟨_,AA,q vr H2 s3 ?_⟩;have e6:cs.take AZ.length=cs:=by rw[vG,KA]
  rw[e6] at er;have:=hS _ (jN b n T hT);have e7:(λk:Int×Int=>kE b (n - T) k.1.toNat (T - T))=λk=>lE b (n - T) k.1.toNat:=by
   funext k;rw[Qh];cases n - T <;> rfl
  have e8:sumF ((λt (k:Int×Int)=>kE b (n - t) k.1.toNat (T - t)) T) cs=sumF (λk:Int×Int=>lE b (n - T) k.1.toNat) cs:=congrArg (λF=>sumF F cs) e7;rw[e8] at this;rw[er,this] at qr;rw[IG] at qr;exact qr
theorem jO(LA:#[] 6 "looked_at" X' (ABd K))(D:Def K mg "looked" Mx Jr):#[] 47 "looked" Jr (jJ K cs 1 λas=> .looked (as.getD 0 0)):=by
 exists 0,YM;obtain⟨t,rfl⟩:∃a,as= [a]:=match as,hl with| [a],_=>⟨a,rfl⟩
 replace q:∀l H',Ag H H'->H' l=some (.lst ((Dx h.even (.looked t)).map V.int))->Q (.ref l) H':=q;rw[rm,MG g.f1,Kq] at q;have TW:=B.T.B.Z.tW;have TA:=B.T.B.Z.tA;have ha:=hC.ho.OV;have nd:=YM.nd;refine⟨_,AF (2>>pf (pv 0)) (AF (Aj (Af Oy (pv 1) (pf (pv 2)) (Ai _)) (AK (AO (DL B.T.B.NH))) Aa)
  (AK (AO (Dy B.T.B.R.told hr (AV LA hr #[pf (pv 2),pf (pv 2),pf (pv 2),pv 1]))))),?_⟩
 refine⟨_,AA,_,hC.fA TW,_,AA,_,AA,_,ha.fD TA,_,_,AA,AA,_,AA,BF (λcc=> ?_) λcc=> ?_⟩
 ·rw[AG (by have:=AM cc;omega)] at q;exact q
 have hd:¬left h.even<=t:=λz=>cc (AH ());rw[AB hd] at q;exact⟨_,AA,_,ha.fD TA,_,AA,_,ha.fL TA,_,AA,_,ha.fF TA,_,AA,_,_,_,t,AA,g.d4,g.lo,g.f1,g.f3,(),λv H1 s1 q1=>⟨_,q1,λl H2 s2=>q l H2 (s1.trans s2)⟩⟩
theorem r_(LL:#[] 5 "looks_left" UR (wA K))(D:Def K mg "spare" QE GG):#[] 47 "spare" GG (jJ K cs 1 λas=> .spare (as.getD 0 0)):=by
 exists 0,fh;obtain⟨j,rfl⟩:∃a,as= [a]:=match as,hl with| [a],_=>⟨a,rfl⟩
 replace q:∀l H',Ag H H'->H' l=some (.lst ((Dx h.even (.spare j)).map V.int))->Q (.ref l) H':=q;rw[vw,RQ g.f1,Kq] at q;have TW:=B.T.B.Z.tW;have TA:=B.T.B.Z.tA;have ha:=hC.ho.OV;have nd:=fh.nd;have hu:=UD hr;refine⟨_,AF (2>>pf (pv 0)) (AF (Aj (Af CK (pv 1) (pf (pv 2)) (Ai _)) (AK (AO (DL B.T.B.NH))) Aa)
  (AF (3>>AV LL hr #[pf (pv 2),pf (pv 2),pf (pv 2),pf (pv 2)])
  (AK (AO (Dy B.T.B.R.told hr (RH hu (pv 3) (pv 1) (Sm B.T.B.R.zero) ⟨AA,AA,AA,AA⟩)))))),?_⟩
 refine⟨_,AA,_,hC.fA TW,_,AA,_,AA,_,ha.fL TA,_,_,AA,AA,_,AA,BF (λcc=> ?_) λcc=> ?_⟩
 ·rw[AG (by have:=AM cc;omega)] at q;exact q
 have hd:¬h.even.looks<j:=λz=>cc (AH ());rw[AB hd] at q;refine⟨_,AA,_,ha.fD TA,_,AA,_,ha.fL TA,_,AA,_,ha.fF TA,_,AA,_,ha.fD TA,_,_,_,_,AA,g.d4,g.lo,g.f1,g.f3,As _,λd H1 cs s1 Gg C1 hk _ hS=> ?_⟩;obtain⟨AZ,Xw,N4⟩:=C1.ex;refine⟨_,AA,d,AA,.inl ⟨AZ,.inl Xw⟩,_,AA,λv0 YV=>⟨_,Jz.k (k:=eK (iK j)) Xw,?_⟩⟩;have e1:C5 cs (iK j)=fE h.even.fine (left h.even) h.even.looks j:=by
  have h1:=hS _ (wB h.even.fine (left h.even) j);have e7:(λk:Int×Int=>fE h.even.fine (left h.even - left h.even) k.1.toNat j)=λk=>if k.1.toNat=j then(1:Rat) else 0:=by
   funext k;rw[Qh];rfl
  have e8:sumF ((λt (k:Int×Int)=>fE h.even.fine (left h.even - t) k.1.toNat j) (left h.even)) cs=sumF (λk:Int×Int=>if k.1.toNat=j then(1:Rat) else 0) cs:=congrArg (λF=>sumF F cs) e7;rw[e8,gX C1.nd hk] at h1;rw[h1];show fE h.even.fine (left h.even - 0) (iK h.even.looks).1.toNat j=_;rw[IG];rfl
 rw[←e1] at q;refine⟨_,?_,λl H2 s2=>q l H2 (s1.trans s2)⟩;rcases N4.val (k:=iK j) rfl with⟨v,e1,e2⟩|⟨e1,e2⟩
 ·rw[e1];exact e2
 ·rw[e1,e2];exact YV _
theorem jP(AC:#[] 6 "alike_chances" Fw (cT K cs.A CV CO))(RC:#[] 1 "refused_chance" RY (Wy cs.A))(MI:#[] 25 "most_if_looked" La (rb K CO (λm k x=>m=0->x=0) mI))(D:Def K mg "iflook" Mv PR):
  #[] 47 "iflook" PR (jJ K cs 1 λas=> .ifLook (as.getD 0 0)):=by
 exists 0,YK;obtain⟨x,rfl⟩:∃a,as= [a]:=match as,hl with| [a],_=>⟨a,rfl⟩
 replace q:∀l H',Ag H H'->H' l=some (.lst ((Dx h.even (.ifLook x)).map V.int))->Q (.ref l) H':=q;rw[rh,rn,rX g.f1,Kq] at q;have TW:=B.T.B.Z.tW;have TA:=B.T.B.Z.tA;have ha:=hC.ho.OV;have nd:=YK.nd;refine⟨_,AF (2>>pf (pv 0)) (AF (3>>AV RC hr #[pv 2,pv 1,pf (pv 2)])
  (AF (Aj (Ar (pv 3) (λ_=>rfl)) (AK (AO (HI (pv 3)))) Aa)
  (AF (4>>pf (AV AC hr #[pv 2]))
  (AK (AO (Dy B.T.B.R.told hr (AV MI hr #[pv 4,pf (pv 2),pf (pv 2),AV B.T.B.R.ratio hr #[pv 1,BD B.mC]]))))))),?_⟩
 refine⟨_,AA,_,hC.fA TW,_,AA,_,AA,_,AA,_,ha.fL TA,c.a,_,x,_,AA,ha,?_⟩;refine⟨_,AA,_,AA,?_⟩;by_cases h1:left h.even=0
 ·rw[show J2 (left h.even) x h.even.looks= -6 by unfold J2;rw[AG h1]];rw[AG h1] at q;exact Au ⟨_,rfl,_,rfl,q⟩
 rw[AB h1] at q;by_cases h2:100<x
 ·rw[show J2 (left h.even) x h.even.looks= -22 by unfold J2;rw[AB h1,AG h2]];rw[AG h2] at q;exact Au ⟨_,rfl,_,rfl,q⟩
 rw[AB h2] at q;by_cases h3:0<x/\h.even.looks=0
 ·rw[show J2 (left h.even) x h.even.looks= -33 by unfold J2;rw[AB h1,AB h2,AG h3]];rw[AG h3] at q;exact Au ⟨_,rfl,_,rfl,q⟩
 rw[AB h3] at q;rw[show J2 (left h.even) x h.even.looks=0 by unfold J2;rw[AB h1,AB h2,AB h3]];refine A' ?_;have d4:=g.d4;have lo:=g.lo;have mi:=g.mi;refine⟨_,AA,c.a,_,AA,ha,g,λo d H1 s1 Gg a1=> ?_⟩;obtain⟨dx,l1,ou,e1,_,O1⟩:=a1.ex;refine⟨_,⟨o,CV,dx,_,AA,e1,B.V.cl,B.V.nO,AA⟩,?_⟩;have jQ:=ha.same s1;refine⟨_,AA,_,AA,_,jQ.fL TA,_,AA,_,jQ.fM TA,_,AA,(x:Int),100,AA,(()),Cm (show 100<2^7 by decide) (DM (()) (())),λv2 H2 s2 q2=> ?_⟩;refine⟨ou,d,_,_,_,_,v2,_,AA,O1.same s2,(),d4,(),(),q2,?_,λz=> ?_,λv3 H3 e3 q3=>⟨_,q3,λl H4 s4=>q l H4 ((Ext.fresh (s1.trans s2) Gg e3).trans s4)⟩⟩
 ·exact(Sz.JG (n:=8) (x:Int) (b:=100) (()) (by rw[Jl];omega) (())).mono (())
 ·have:x=0:=Nat.eq_zero_of_not_pos λy=>h3 ⟨y,z⟩;rw[this,FK];exact Lw _
theorem jR(AC:#[] 6 "alike_chances" Fw (cT K cs.A CV CO))(RC:#[] 1 "refused_chance" RY (Wy cs.A))(MI:#[] 25 "least_if_dared" La (rb K CO (λm k x=>True) λb n m k y=>if k=0 then 0 else mD b n m k y))(D:Def K mg "ifdare" Mw PR):
  #[] 47 "ifdare" PR (jJ K cs 1 λas=> .ifDare (as.getD 0 0)):=by
 exists 0,YL;obtain⟨x,rfl⟩:∃a,as= [a]:=match as,hl with| [a],_=>⟨a,rfl⟩
 replace q:∀l H',Ag H H'->H' l=some (.lst ((Dx h.even (.ifDare x)).map V.int))->Q (.ref l) H':=q;have e0:(if h.even.misdeeds=0 then((0,1):Nz) else VI (left h.even) h.even.looks h.even.misdeeds h.even.fine (FN x 100))=In.q (if h.even.misdeeds=0 then 0 else mD h.even.fine (left h.even) h.even.looks h.even.misdeeds ((x:Rat) / (100:Nat))):=by
  rw[rn,rY g.f1];split <;> rfl
 rw[rj,e0,Kq] at q;have TW:=B.T.B.Z.tW;have TA:=B.T.B.Z.tA;have ha:=hC.ho.OV;have nd:=YL.nd;refine⟨_,AF (2>>pf (pv 0)) (AF (3>>AV RC hr #[pv 2,pv 1,pf (pv 2)])
  (AF (Aj (Ar (pv 3) (λ_=>rfl)) (AK (AO (HI (pv 3)))) Aa)
  (AF (4>>pf (AV AC hr #[pv 2]))
  (AK (AO (Dy B.T.B.R.told hr (AV MI hr #[pv 4,pf (pv 2),pf (pv 2),AV B.T.B.R.ratio hr #[pv 1,BD B.mC]]))))))),?_⟩
 refine⟨_,AA,_,hC.fA TW,_,AA,_,AA,_,AA,_,ha.fM TA,c.a,_,x,_,AA,ha,?_⟩;refine⟨_,AA,_,AA,?_⟩;by_cases h1:left h.even=0
 ·rw[show J2 (left h.even) x h.even.misdeeds= -6 by unfold J2;rw[AG h1]];rw[AG h1] at q;exact Au ⟨_,rfl,_,rfl,q⟩
 rw[AB h1] at q;by_cases h2:100<x
 ·rw[show J2 (left h.even) x h.even.misdeeds= -22 by unfold J2;rw[AB h1,AG h2]];rw[AG h2] at q;exact Au ⟨_,rfl,_,rfl,q⟩
 rw[AB h2] at q;by_cases h3:0<x/\h.even.misdeeds=0
 ·rw[show J2 (left h.even) x h.even.misdeeds= -33 by unfold J2;rw[AB h1,AB h2,AG h3]];rw[AG h3] at q;exact Au ⟨_,rfl,_,rfl,q⟩
 rw[AB h3] at q;rw[show J2 (left h.even) x h.even.misdeeds=0 by unfold J2;rw[AB h1,AB h2,AB h3]];refine A' ?_;have d4:=g.d4;have lo:=g.lo;have mi:=g.mi;refine⟨_,AA,c.a,_,AA,ha,g,λo d H1 s1 Gg a1=> ?_⟩;obtain⟨dx,l1,ou,e1,_,O1⟩:=a1.ex;refine⟨_,⟨o,CV,dx,_,AA,e1,B.V.cl,B.V.nO,AA⟩,?_⟩;have jQ:=ha.same s1;refine⟨_,AA,_,AA,_,jQ.fL TA,_,AA,_,jQ.fM TA,_,AA,(x:Int),100,AA,(()),Cm (show 100<2^7 by decide) (DM (()) (())),λv2 H2 s2 q2=> ?_⟩;refine⟨ou,d,_,_,_,_,v2,_,AA,O1.same s2,(),d4,(),(),q2,?_,trivial,λv3 H3 e3 q3=>⟨_,q3,λl H4 s4=>q l H4 ((Ext.fresh (s1.trans s2) Gg e3).trans s4)⟩⟩;exact(Sz.JG (n:=8) (x:Int) (b:=100) (()) (by rw[Jl];omega) (())).mono (())
end
end
section
variable{cs:Cs}{CO CN CV:Addr}
theorem SV{N a:Nat}{p:Nat->Bool}(h1:a<N)(h2:p a=true)(h3:∀m<a,¬p m=true):(Cv N).find? p=some a:=by
 rw[List.find?_eq_some_iff_getElem];refine⟨h2,a,by rw[Za];exact h1,kJ _,λj hj=> ?_⟩;rw[kJ];have:=h3 j hj;cases hp:p j with
 |true=>exact absurd hp this
 |false=>rfl
theorem ABe(p:Nat)(hp:0<p):((1,p):Nz)=q ((1:Int) / (p:Rat)):=by
 have h:=G0 1 (b:=p) ();have e:FN 1 p=(1,p):=by
  unfold FN;have:F6 (1:Int).natAbs p=1:=Nat.gcd_one_left p;rw[this];simp
 rw[←e,h]
theorem Yv{b n m k p:Nat}(hb:0<b)(hp:0<p):F8 (HR n m k b) (1,p)=decide (wE b n m k< (1:Int) / (p:Rat)):=by rw[BZ hb,ABe p hp,MD]
theorem sD{p:Nat}(hp:0<p)(h:p<=1000):Sz 20 ((1:Int) / (p:Rat)):=Sz.JG 1 hp (()) (DU h (()))
theorem ABf{b n m k:Nat}(h:n<=m):wE b n m k=0:=by
 unfold wE;rw[FQ n (m+1) (),FQ (n - k) (m+1) (),VE,FK,Lw]
section
variable(B:SS P w K mg base cs CO CN CV)
include B
inductive NO:Sp
 |mk (b:Nat):vs= [nV b]->Q (.bl (decide (1<=b) && decide (b<=1000))) H->NO vs H Q DJ
theorem sE(D:Def K mg "is_parts" JQ RX):#[] 1 "is_parts" RX NO:=by
 exists bQ
 ·obtain⟨b,rfl,_⟩:=h;rfl
 obtain⟨b,rfl,q⟩:=h;exact⟨_,AK (AO (pin (n:=1000) (pv 0) B.mP)),⟨_,AA,b,AA,q⟩⟩
theorem Yw(IP:#[] 1 "is_parts" RX NO)(D:Def K mg "looksfor" JU PU):#[] 47 "looksfor" PU (jJ K cs 1 λas=> .looksFor (as.getD 0 0)):=by
 exists 0,Rt;obtain⟨x,rfl⟩:∃a,as= [a]:=match as,hl with| [a],_=>⟨a,rfl⟩
 replace q:∀l H',Ag H H'->H' l=some (.lst ((Dx h.even (.looksFor x)).map V.int))->Q (.ref l) H':=q;rw[cV] at q;have TW:=B.T.B.Z.tW;have TA:=B.T.B.Z.tA;have ha:=hC.ho.OV;have nd:=Rt.nd;have R:=B.T.B.R;refine⟨_,AF (2>>pf (pv 0)) (AF (Aj (BN (CU (AV IP hr #[pv 1]))) (AK (AO (DL B.T.B.NH))) Aa)
  (AF (3>>AU)
  (AF (MX HS (BN (CU (AV R.less hr #[AV B.ew hr #[pf (pv 2),pv 3,pf (pv 2),pf (pv 2)],AV R.ratio hr #[AU,pv 1]])))
   (AK (af (i:=3) nd rfl (BJ rfl) AU nJ)))
  (AK (AO (HI (pv 3))))))),?_⟩
 refine⟨_,AA,_,hC.fA TW,_,AA,x,AA,_,AA,BF (λcc=> ?_) λcc=> ?_⟩
 ·have cf:=(Lq _).mp cc;have c2:x=0\/1000<x:=by
   rcases ke.mp cf with z|z
   ·have:=of_decide_eq_false z;omega
   ·have:=of_decide_eq_false z;omega
  rw[AG c2] at q;exact q
 have c1:(decide (1<=x) && decide (x<=1000))=true:=by
  cases hc:(decide (1<=x) && decide (x<=1000)) with
  |true=>rfl
  |false=>rw[hc] at cc;exact absurd rfl cc
 have x1:=AM (LU.mp c1).1;have x2:=AM (LU.mp c1).2;rw[AB ()] at q;have d4:=g.d4;have mi:=g.mi;have f3:=g.f3;refine MZ (λσ H'=>∃m:Nat,σ= [some (.ref p),some (nV x),some (.ref c.a),some (nV m)]/\Ag H H'/\m<=left h.even/\∀j<m,¬F8 (HR (left h.even) j h.even.misdeeds h.even.fine) (1,x)=true)
  (λσ _=>match σ with| [_,_,_,some (.int y)]=>left h.even - y.toNat|_=>0) ⟨0,rfl,Ag.refl _,BR _,λj hj=>absurd hj (Zq j)⟩ ?_ ?_
 ·rintro σ H1 ⟨m,rfl,s1,hm,jv⟩;have jQ:=ha.same s1;refine⟨_,AA,_,jQ.fD TA,_,AA,_,AA,_,jQ.fM TA,_,AA,_,jQ.fF TA,_,m,_,_,AA,(),(),(),g.f1,(),λv2 H2 s2 q2=>⟨_,AA,1,x,AA,(),DU x2 (Cm (show 1000<2^10 by decide) (DM (()) (()))),λv3 H3 s3 q3=> ?_⟩⟩;refine⟨v2,v3,_,_,AA,q2.same s3,q3,IF (fI g.f1 () () _ _),IF (sD x1 x2),_,AA,?_⟩;have tQ:=s1.trans (s2.trans s3);have el:=Yv (n:=left h.even) (m:=m) (k:=h.even.misdeeds) g.f1 x1;rw[←el];cases Sl:F8 (HR (left h.even) m h.even.misdeeds h.even.fine) (1,x) with
  |true=>
   refine A' ⟨_,rfl,_,rfl,?_⟩;rw[SV () Sl jv] at q;exact λl H4 s4=>q l H4 (tQ.trans s4)
  |false=>
   have IA:m<left h.even:=by
    rcases Zv m (left h.even) with z|z
    ·exact z
    ·rw[Sl,ABf z] at el;have h9:=of_decide_eq_false el.symm;have:(0:Rat)< (1:Int) / (x:Rat):=by rw[FK];exact VF (()) (Nv.mpr (BO x1))
     exact absurd this h9
   refine Au ⟨_,rfl,_,_,rfl,rfl,⟨m+1,?_,tQ,IA,λj hj=> ?_⟩,?_⟩
   ·show [some (V.ref p),some (nV x),some (V.ref c.a),some (V.int ((m:Int)+1))]=_;rfl
   ·rcases kT.mp hj with z|z
    ·exact jv j z
    ·rw[z,Sl];exact Cd
   ·show left h.even - ((m:Int)+1).toNat<left h.even - (m:Int).toNat;omega
 ·intro σ H Q Q' hq q;obtain⟨v1,ZK,f1,F1,v2,hv2,v3,hv3,f2,F2,v4,hv4,f3,F3,n,m,k,b,e1,h1,h2,h3,h4,h5,k1⟩:=q;refine⟨v1,ZK,f1,F1,v2,hv2,v3,hv3,f2,F2,v4,hv4,f3,F3,n,m,k,b,e1,h1,h2,h3,h4,h5,λv H' s z=> ?_⟩;obtain⟨w1,hw1,a,b',e2,g1,g2,k2⟩:=k1 v H' s z;refine⟨w1,hw1,a,b',e2,g1,g2,λv' uu s' z'=> ?_⟩;obtain⟨y1,y2,r1,r2,e3,i1,i2,i3,i4,bb,eb,k3⟩:=k2 v' uu s' z';exact⟨y1,y2,r1,r2,e3,i1,i2,i3,i4,bb,eb,hq _ _ k3⟩
end
end
section
variable{cs:Cs}{CO CN CV:Addr}
theorem ADz:(Cv 100).drop 1=(Cv 99).map (· +1):=by decide+kernel
structure NP(H H':Hp)(c:Ad):Prop where
 fr:∀a u,H a=some u->a≠c.a->H' a=some u
theorem NP.trans{H H1 H2:Hp}{c:Ad}(a:NP H H1 c)(b:NP H1 H2 c):NP H H2 c:=⟨λx u h n1=>b.fr x u (a.fr x u h n1) n1⟩
theorem Ad.na{c:Ad}(h:c.l.Nodup):c.s≠c.a/\c.t≠c.a:=by
 simp only[Ad.l,Bx,BQ,HN,or_false,not_or,not_false_eq_true,GD,and_true] at h;exact⟨h.1.2.1,λz=>h.2.2.1.1 z.symm⟩
theorem Av.AFZ{H H':Hp}{p kl:Addr}{c:Ad}{h:Aw}{x:Em}(hC:Av K cs H p kl c h)(s:NP H H' c)(n:Du cs.A H' c.a x)(np:p≠c.a):Av K cs H' p kl c {h with even:=x}:=by
 obtain⟨dx,hp⟩:=hC.ob;obtain⟨ds,hs⟩:=hC.ho.DT.ob;have Gi:=hC.ho.DT.ds;obtain⟨da,ha⟩:=hC.ho.OV.ob;obtain⟨dt,ht⟩:=hC.ho.tab.ob;obtain⟨vs,hv,Dn⟩:=hC.ho.tab.ps;obtain⟨n1,n2⟩:=Ad.na hC.nd;refine⟨⟨dx,s.fr _ _ hp np⟩,⟨⟨⟨ds,s.fr _ _ hs n1⟩,s.fr _ _ Gi (Ao Gi ha (by intro y;cases y))⟩,n,⟨⟨dt,s.fr _ _ ht n2⟩,⟨vs,s.fr _ _ hv (Ao hv ha (by intro y;cases y)),Paired.Jy Dn λv q ⟨a,e,z⟩=>⟨a,e,?_⟩⟩⟩⟩,hC.nd⟩;rcases z with z|z
 ·refine .inl ?_;rcases z with z|⟨o',z⟩
  ·exact .inl (s.fr _ _ z (Ao z ha (by intro y;cases y)))
  ·exact .inr ⟨o',s.fr _ _ z (Ao z ha (by intro y;cases y))⟩
 ·exact .inr z
theorem NP.moves{H H':Hp}{c:Ad}(s:NP H H' c)(p:Addr):Bp H H' p c c:=⟨λa u h _ n=>s.fr a u h λz=>n (by rw[z];simp[Ad.l]),λa h=> .inl h⟩
def W3(h:Aw)(c:Lx):Aw:=match(Iy (some h.even) c).1 with
 |some s=>{h with even:=s}
 |none=>h
abbrev AFa(K:Ab)(cs:Cs)(n:Nat)(pc:List Nat->Lx):Sp:=spM K cs n (λh=>NN h.even) (λh as=>W3 h (pc as)) λh as=>Dx h.even (pc as)
theorem xt(e:Em)(l d:Nat):Iy (some e) (.day l d)=if left e=0 then(some e,Ec (-6)) else if 1<l\/1<d then(some e,Ec (-22)) else if(l=1/\e.looks=0)\/(d=1/\e.misdeeds=0) then(some e,Ec (-33)) else
  (some {e with days:=left e - 1,looks:=e.looks - l,misdeeds:=e.misdeeds - d,gain:=e.gain+(if d=0 then 0 else if l=1 then -(e.fine:Int) else 1),over:=decide (l=1/\d=1)},⟨0,[e.gain+(if d=0 then 0 else if l=1 then -(e.fine:Int) else 1)]⟩):=rfl
theorem sG{n m k l d:Nat}:TZ (decide (n=0)) m k l d=if n=0 then -6 else if 1<l\/1<d then -22 else if(l=1/\m=0)\/(d=1/\k=0) then -33 else 0:=by
 unfold TZ;by_cases h1:n=0
 ·rw[AH h1,AG rfl,AG h1]
 ·rw[AL h1,AB DA,AB h1];by_cases h2:1<l\/1<d
  ·rw[AG h2,AG h2]
  ·rw[AB h2,AB h2];by_cases h3:m<l\/k<d
   ·rw[AG h3,AG ()]
   ·rw[AB h3,AB ()]
section
variable(B:SS P w K mg base cs CO CN CV)
include B
theorem cg(IP:#[] 1 "is_parts" RX NO)(AW:#[] 46 "alike_worth" PQ (rZ K cs.A))(D:Def K mg "finefor" K' PU):#[] 47 "finefor" PU (jJ K cs 1 λas=> .fineFor (as.getD 0 0)):=by
 exists 0,Ua;obtain⟨x,rfl⟩:∃a,as= [a]:=match as,hl with| [a],_=>⟨a,rfl⟩
 replace q:∀l H',Ag H H'->H' l=some (.lst ((Dx h.even (.fineFor x)).map V.int))->Q (.ref l) H':=q;rw[jI,ADz,List.find?_map] at q;have TW:=B.T.B.Z.tW;have TA:=B.T.B.Z.tA;have ha:=hC.ho.OV;have nd:=Ua.nd;have R:=B.T.B.R;refine⟨_,AF (Aj (BN (CU (AV IP hr #[pv 1]))) (AK (AO (DL B.T.B.NH))) Aa)
  (AF (H_ HS rfl (gw rfl B.range #[AU,Ay EW (BD B.mS) AU]) (BK (i:=2) nd rfl (BJ rfl))
   (AK (Aj (CU (AV R.less hr #[AV AW hr #[pf (pv 0),pv 2],AV R.ratio hr #[AU,pv 1]])) (AK (AO (HI (pv 2)))) Aa)))
  (AK (AO (DL B.T.B.vL)))),?_⟩
 refine⟨_,AA,x,AA,_,AA,BF (λcc=> ?_) λcc=> ?_⟩
 ·have cf:=(Lq _).mp cc;have c2:x=0\/1000<x:=by
   rcases ke.mp cf with z|z
   ·have:=of_decide_eq_false z;omega
   ·have:=of_decide_eq_false z;omega
  rw[AG c2] at q;exact q
 have c1:(decide (1<=x) && decide (x<=1000))=true:=by
  cases hc:(decide (1<=x) && decide (x<=1000)) with
  |true=>rfl
  |false=>rw[hc] at cc;exact absurd rfl cc
 have x1:=AM (LU.mp c1).1;have x2:=AM (LU.mp c1).2;rw[AB ()] at q;generalize hp:((λb=>F8 (HR (left h.even) h.even.looks h.even.misdeeds b) (1,x))∘λx=>x+1)=pp at q;have hpp:∀i,pp i=decide (wE (i+1) (left h.even) h.even.looks h.even.misdeeds< (1:Int) / (x:Rat)):=λi=>by rw[←hp];exact Yv (Qe i) x1
 have d4:=g.d4;refine⟨_,_,AA,AA,(1:Int),100,AA,⟨(()),(()),(()),(())⟩,?_⟩;refine Kw (lo:=1) (n:=99) (λi σ H'=>∃y:Option V,σ= [some (.ref p),some (nV x),y]/\Ag H H'/\∀j<i,¬pp j=true) ⟨none,rfl,Ag.refl _,λj hj=>absurd hj (Zq j)⟩ ?_ ?_
 ·rintro i σ H1 hi ⟨y,rfl,s1,jv⟩;have ei:(1:Int)+(i:Int)=((i+1:Nat):Int):=by omega
  rw[ei];have hC1:=hC.same s1;refine⟨_,AA,_,hC1.fA TW,_,AA,c.a,_,i+1,AA,ha.same s1,g,(),(),λv2 H2 s2 q2=>⟨_,AA,1,x,AA,(),DU x2 (Cm (show 1000<2^10 by decide) (DM (()) (()))),λv3 H3 s3 q3=> ?_⟩⟩;refine⟨v2,v3,_,_,AA,q2.same s3,q3,IF (fI () () () _ _),IF (sD x1 x2),_,AA,?_⟩;have tQ:=s1.trans (s2.trans s3);rw[←hpp];cases Sl:pp i with
  |true=>
   refine Au ⟨_,rfl,_,rfl,?_⟩;rw[SV hi Sl jv] at q;exact λl H4 s4=>q l H4 (tQ.trans s4)
  |false=>
   refine A' ⟨_,rfl,tQ,λj hj=> ?_⟩;rcases kT.mp hj with z|z
   ·exact jv j z
   ·rw[z,Sl];exact Cd
 ·rintro σ H1 ⟨y,rfl,s1,jv⟩;have e1:(Cv 99).find? pp=none:=kK.mpr λj hj=>jv j (Gn.mp hj);rw[e1] at q;exact λl H4 s4=>q l H4 (s1.trans s4)
theorem ABg(RP:#[] 1 "refused_play" RV Wm)(D:Def K mg "evenday" K9 fO):#[] 47 "evenday" fO (AFa K cs 2 λas=> .day (as.getD 0 0) (as.getD 1 0)):=by
 refine tP (k:=46) D UZ rfl λf CL A outer st H p kl c h as Q E hr hl hC np g q=> ?_;obtain⟨l,d,rfl⟩:∃a b,as= [a,b]:=match as,hl with| [a,b],_=>⟨a,b,rfl⟩
 replace q:∀l1 H' c',Bp H H' p c c'->Av K cs H' p kl c' (W3 h (.day l d))->H' l1=some (.lst ((Dx h.even (.day l d)).map V.int))->Q (.ref l1) H':=q;have TW:=B.T.B.Z.tW;have TA:=B.T.B.Z.tA;have ha:=hC.ho.OV;have nd:=UZ.nd;have npa:p≠c.a:=λz=>np (by rw[z];simp[Ad.l]);refine⟨_,AF (3>>pf (pv 0)) (AF (4>>AV RP hr #[Ma B_ (pf (pv 3)) AU (Ai _),pf (pv 3),pf (pv 3),pv 1,pv 2])
  (AF (Aj (Ar (pv 4) (λ_=>rfl)) (AK (AO (HI (pv 4)))) Aa)
  (AF (D0 (pv 3) AU L_) (AF (D0 (pv 3) (pv 1) L_) (AF (D0 (pv 3) (pv 2) L_)
  (AF (Aj (Vd (Ar (pv 1) (λ_=>rfl)) (P1 (Ar (pv 2) (λ_=>rfl)))).pt
   (AF (D0 (pv 3) (pf (pv 3)) L_) (AF (Ap (pv 3) AU rfl) (AK (Ap (pv 3) AU rfl))))
   (AK (Aj (Ar (pv 2) (λ_=>rfl)) (AK (D0 (pv 3) AU oA)) Aa)))
  (AK (AO (Am #[AU,pf (pv 3)]))))))))),?_⟩
 have e0:=xt h.even l d;have e1:=sG (n:=left h.even) (m:=h.even.looks) (k:=h.even.misdeeds) (l:=l) (d:=d);have refuse:∀n:Int,Iy (some h.even) (.day l d)=(some h.even,Ec n)->∀l1 H',Ag H H'->H' l1=some (.lst [.int n])->Q (.ref l1) H':=λn e l1 H' s1 h1=>by
  refine q l1 H' c (Bp.same s1) ?_ ?_
  ·unfold W3;rw[e];exact hC.same s1
  ·unfold Dx;rw[h1,e];rfl
 refine⟨_,AA,_,hC.fA TW,_,AA,_,ha.fD TA,AA,_,AA,_,ha.fL TA,_,AA,_,ha.fM TA,_,AA,_,AA,decide (left h.even=0),h.even.looks,h.even.misdeeds,l,d,?_,?_⟩
 ·rw[Bg];rfl
 refine⟨_,AA,_,AA,?_⟩;by_cases h1:left h.even=0
 ·rw[AG h1] at e0 e1;rw[e1];exact Au ⟨_,rfl,_,rfl,refuse _ e0⟩
 rw[AB h1] at e0 e1;by_cases h2:1<l\/1<d
 ·rw[AG h2] at e0 e1;rw[e1];exact Au ⟨_,rfl,_,rfl,refuse _ e0⟩
 rw[AB h2] at e0 e1;by_cases h3:(l=1/\h.even.looks=0)\/(d=1/\h.even.misdeeds=0)
 ·rw[AG h3] at e0 e1;rw[e1];exact Au ⟨_,rfl,_,rfl,refuse _ e0⟩
 rw[AB h3] at e0 e1;rw[e1];refine A' ?_;obtain⟨da,hao⟩:=ha.ob;have ZG:l<=h.even.looks:=by omega
 have tD:d<=h.even.misdeeds:=by omega
 refine⟨_,AA,c.a,cs.A,da,_,_,AA,hao,TA.cl,TA.nD,AA,_,_,AA,AA,da,_,hao,(by show 6<1000;decide),?_⟩;refine⟨_,AA,c.a,cs.A,da,_,_,AA,AJ,TA.cl,TA.nL,AA,_,AA,_,_,AA,AA,da,_,AJ,(by show 6<1000;decide),?_⟩;rw[Az];refine⟨_,AA,c.a,cs.A,da,_,_,AA,AJ,TA.cl,TA.nM,AA,_,AA,_,_,AA,AA,da,_,AJ,(by show 6<1000;decide),?_⟩;rw[Az];have eD:(left h.even:Int) - 1=((left h.even - 1:Nat):Int):=by omega
 have eL:(h.even.looks:Int) - (l:Int)=((h.even.looks - l:Nat):Int):=by omega
 have eM:(h.even.misdeeds:Int) - (d:Int)=((h.even.misdeeds - d:Nat):Int):=by omega
 have fin:∀(H1:Hp) (e':Em) (v:Int),Iy (some h.even) (.day l d)=(some e',⟨0,[v]⟩)->e'.gain=v->NP H H1 c->Du cs.A H1 c.a e'->ACj (Cq (tC (.int 0)) (Cq (tFl K (Cc 3) "gained") IM)) [some (.ref p),some (nV l),some (nV d),some (.ref c.a),some (.int 0)] H1 Q:=λH1 e' v ee ev sA a1=>by
  refine⟨_,AA,_,a1.fG TA,(by show 2<=sizeLine;decide),λl1 qA=> ?_⟩;have s2:=AX qA (.lst [.int 0,.int e'.gain]);refine q l1 _ c ((sA.trans ⟨λa u h _=>s2 a u h⟩).moves p) ?_ ?_
  ·unfold W3;rw[ee];exact(hC.AFZ sA a1 npa).same s2
  ·unfold Dx;rw[AJ,ee,ev];rfl
 have ov:h.even.over=false:=by
  cases fk:h.even.over with
  |false=>rfl
  |true=>exact absurd (show left h.even=0 by unfold left;rw[fk,AG rfl]) h1
 have sA:∀o,NP H (upd H c.a o) c:=λo=>⟨λa u h n=>by rw[AS n];exact h⟩;rcases(show l=0\/l=1 by omega) with hl0|qA
 ·subst hl0;refine⟨_,AA,false,AA,A' ?_⟩;rcases(show d=0\/d=1 by omega) with Pd|Sn
  ·subst Pd;refine⟨_,AA,false,AA,A' ?_⟩;refine fin _ _ _ e0 rfl (sA _) ⟨da,?_⟩;rw[AJ];show some (HO.ins cs.A da (aF (.int ((left h.even:Int) - 1)) (.int ((h.even.looks:Int) - ((0:Nat):Int))) (.int ((h.even.misdeeds:Int) - ((0:Nat):Int))) (nV h.even.fine) (.int h.even.gain) (bV h.even.over)))=_;rw[eD,eL,eM,ov];show _=some (HO.ins cs.A da (aF _ _ _ _ (.int (h.even.gain+0)) _));rw[U_];rfl
  ·subst Sn;refine⟨_,AA,true,AA,Au ?_⟩;refine⟨_,AA,c.a,cs.A,da,_,_,AA,AJ,TA.cl,TA.nG,AA,_,_,AA,AA,da,_,AJ,(by show 6<1000;decide),?_⟩;rw[Az];refine fin _ _ _ e0 rfl (sA _) ⟨da,?_⟩;rw[AJ];show some (HO.ins cs.A da (aF (.int ((left h.even:Int) - 1)) (.int ((h.even.looks:Int) - ((0:Nat):Int))) (.int ((h.even.misdeeds:Int) - ((1:Nat):Int))) (nV h.even.fine) (.int (h.even.gain+1)) (bV h.even.over)))=_;rw[eD,eL,eM,ov];rfl
 ·subst qA;rcases(show d=0\/d=1 by omega) with Pd|Sn
  ·subst Pd;refine⟨_,AA,true,AA,Au ⟨_,AA,false,AA,A' ?_⟩⟩;refine⟨_,AA,false,AA,A' ?_⟩;refine fin _ _ _ e0 rfl (sA _) ⟨da,?_⟩;rw[AJ];show some (HO.ins cs.A da (aF (.int ((left h.even:Int) - 1)) (.int ((h.even.looks:Int) - ((1:Nat):Int))) (.int ((h.even.misdeeds:Int) - ((0:Nat):Int))) (nV h.even.fine) (.int h.even.gain) (bV h.even.over)))=_;rw[eD,eL,eM,ov];show _=some (HO.ins cs.A da (aF _ _ _ _ (.int (h.even.gain+0)) _));rw[U_];rfl
  ·subst Sn;refine⟨_,AA,true,AA,Au ⟨_,AA,true,AA,Au ?_⟩⟩;refine⟨_,AA,c.a,cs.A,da,_,_,AA,AJ,TA.cl,TA.nG,AA,_,AA,_,⟨c.a,cs.A,da,_,AA,AJ,TA.cl,TA.nF,AA⟩,_,_,AA,AA,da,_,AJ,(by show 6<1000;decide),?_⟩;rw[Az];refine⟨_,AA,c.a,cs.A,da,_,AA,AJ,TA.cl,TA.nC,(by show 6<1000;decide),?_⟩;rw[Az];refine⟨_,AA,c.a,cs.A,da,_,AA,AJ,TA.cl,TA.nD,(by show 6<1000;decide),?_⟩;rw[Az];refine fin _ _ _ e0 rfl (sA _) ⟨da,?_⟩;rw[AJ];show some (HO.ins cs.A da (aF (.int 0) (.int ((h.even.looks:Int) - ((1:Nat):Int))) (.int ((h.even.misdeeds:Int) - ((1:Nat):Int))) (nV h.even.fine) (.int (h.even.gain - (h.even.fine:Int))) (.int 1)))=_;rw[eL,eM,k5];rfl
end
end
section
variable{cs:Cs}{CO CN CV:Addr}
section
variable{C:Addr}{H:Hp}{s sd:Addr}{x:Bs}{g:Int}{o:Bool}
theorem CP.fD(T:js K mg C)(a:CP C H s sd x g o):So K H (.ref s) "days" (.ref sd):=let⟨dx,e⟩:=a.ob;⟨s,C,dx,_,rfl,e,T.cl,T.nD,rfl⟩
theorem CP.fL(T:js K mg C)(a:CP C H s sd x g o):So K H (.ref s) "looks" (nV x.looks):=let⟨dx,e⟩:=a.ob;⟨s,C,dx,_,rfl,e,T.cl,T.nL,rfl⟩
theorem CP.fM(T:js K mg C)(a:CP C H s sd x g o):So K H (.ref s) "misdeeds" (nV x.misdeeds):=let⟨dx,e⟩:=a.ob;⟨s,C,dx,_,rfl,e,T.cl,T.nM,rfl⟩
theorem CP.fF(T:js K mg C)(a:CP C H s sd x g o):So K H (.ref s) "fine" (nV x.fine):=let⟨dx,e⟩:=a.ob;⟨s,C,dx,_,rfl,e,T.cl,T.nF,rfl⟩
theorem CP.fH(T:js K mg C)(a:CP C H s sd x g o):So K H (.ref s) "has" (.int g):=let⟨dx,e⟩:=a.ob;⟨s,C,dx,_,rfl,e,T.cl,T.nH,rfl⟩
end
def Dz(h:Aw)(c:Fs):Aw:=match(Be (some ⟨h,[]⟩) c).1 with
 |some d=>d.now
 |none=>h
theorem Ah(d:Qk)(h:Aw):(Cn d h).now=h:=by
 unfold Cn;split
 ·rename_i e;exact e.symm
 ·rfl
theorem Kr(h:Aw):(BB h).isEmpty=CG h.season h.over:=by
 unfold BB CG;cases h.over <;> simp
def rP(h:Aw)(l d:Nat):Int:=TZ (CG h.season h.over) h.season.looks h.season.misdeeds l d
theorem AD0(h:Aw)(l d:Nat):rP h l d=if(BB h).isEmpty=true then -6 else if 1<l\/1<d then -22 else if Ip h l d=false then -33 else 0:=by
 unfold rP TZ;rw[Kr];by_cases h1:CG h.season h.over=true
 ·rw[AG h1,AG h1]
 ·rw[AB h1,AB h1];by_cases h2:1<l\/1<d
  ·rw[AG h2,AG h2]
  ·rw[AB h2,AB h2];have e:(Ip h l d=false)↔(h.season.looks<l\/h.season.misdeeds<d):=by
    unfold Ip;simp only[Bool.not_eq_false',U1,DV,beq_iff_eq];omega
   by_cases h3:h.season.looks<l\/h.season.misdeeds<d
   ·rw[AG h3,AG (e.mpr h3)]
   ·rw[AB h3,AB (λz=>h3 (e.mp z))]
theorem gY(h:Aw)(l d:Nat):(rP h l d≠0->FT h (.play l d)= [rP h l d]/\Dz h (.play l d)=h/\FT h (.ifPlayed l d)= [rP h l d])/\
  (rP h l d=0->FT h (.play l d)= [0,(HP h l d).gain]/\Dz h (.play l d)=HP h l d/\FT h (.ifPlayed l d)=(Nj (Lp (HP h l d))).num::(Nj (Lp (HP h l d))).nums):=by
 rw[AD0];have e1:Be (some ⟨h,[]⟩) (.play l d)=if(BB h).isEmpty=true then(some ⟨h,[]⟩,Cw (-6)) else if 1<l\/1<d then(some ⟨h,[]⟩,Cw (-22)) else if Ip h l d=false then(some ⟨h,[]⟩,Cw (-33)) else(some (Cn ⟨h,[]⟩ (HP h l d)),⟨0,[(HP h l d).gain]⟩):=rfl
 have e2:Be (some ⟨h,[]⟩) (.ifPlayed l d)=(some ⟨h,[]⟩,if(BB h).isEmpty=true then Cw (-6) else if 1<l\/1<d then Cw (-22) else if Ip h l d=false then Cw (-33) else Nj (Lp (HP h l d))):=rfl;unfold FT Dz;rw[e1,e2];by_cases h1:(BB h).isEmpty=true
 ·repeat rw[AG h1]
  exact⟨λ_=>⟨AA,AA,AA⟩,λz=>absurd z (())⟩
 repeat rw[AB h1]
 by_cases h2:1<l\/1<d
 ·repeat rw[AG h2]
  exact⟨λ_=>⟨AA,AA,AA⟩,λz=>absurd z (())⟩
 repeat rw[AB h2]
 by_cases h3:Ip h l d=false
 ·repeat rw[AG h3]
  exact⟨λ_=>⟨AA,AA,AA⟩,λz=>absurd z (())⟩
 repeat rw[AB h3]
 exact⟨λz=>absurd rfl z,λ_=>⟨AA,Ah _ _,AA⟩⟩
theorem gZ{h:Aw}{l d:Nat}(e:rP h l d=0):h.over=false/\h.season.brings≠ []/\l<=1/\d<=1/\l<=h.season.looks/\d<=h.season.misdeeds:=by
 unfold rP TZ CG at e;split at e
 ·exact absurd e (())
 ·rename_i h1;split at e
  ·exact absurd e (())
  ·rename_i h2;split at e
   ·exact absurd e (())
   ·rename_i h3;refine⟨?_,λz=>h1 (by rw[z];rfl),(),(),(),()⟩;cases fk:h.over with
    |false=>rfl
    |true=>exact absurd (by rw[fk,Z3]) h1
section
variable(B:SS P w K mg base cs CO CN CV)
include B
inductive gb(CS:Addr):Sp
 |mk (s sd:Addr) (x:Bs) (g:Int) (o:Bool) (l d:Nat):vs= [.ref s,nV l,nV d]->CP CS H s sd x g o->Q (.int (TZ (CG x o) x.looks x.misdeeds l d)) H->gb CS vs H Q DJ
theorem AD1(IO:#[] 1 "is_over" Cg (OY cs.S))(RP:#[] 1 "refused_play" RV Wm)(D:Def K mg "refused_season_play" Cb IZ):
  #[] 2 "refused_season_play" IZ (gb cs.S):=by
 exists J1
 ·obtain⟨s,sd,x,g,o,l,d,rfl,_⟩:=h;rfl
 obtain⟨s,sd,x,g,o,l,d,rfl,hS,q⟩:=h;have TS:=B.T.B.Z.tS;refine⟨_,AK (AO (AV RP hr #[AV IO hr #[pv 0],pf (pv 0),pf (pv 0),pv 1,pv 2])),?_⟩;exact⟨_,AA,s,sd,x,g,o,AA,hS,_,AA,_,hS.fL TS,_,AA,_,hS.fM TS,_,AA,_,AA,_,_,_,l,d,AA,q⟩
def plS(x:Bs)(l d:Nat):Bs:={x with brings:=x.brings.drop 1,looks:=x.looks - l,misdeeds:=x.misdeeds - d}
def jx(x:Bs)(g:Int)(l d:Nat):Int:=g+(if d=0 then 0 else if l=1 then -(x.fine:Int) else(x.brings.headD 0:Nat))
inductive wC(CS:Addr):Sp
 |mk (s sd:Addr) (x:Bs) (g:Int) (l d:Nat):vs= [.ref s,nV l,nV d]->CP CS H s sd x g false->x.brings≠ []->l<=1->d<=1->l<=x.looks->d<=x.misdeeds->(∀H',(∀a u,H a=some u->a≠s->a≠sd->H' a=some u)->CP CS H' s sd (plS x l d) (jx x g l d) (decide (l=1/\d=1))->Q .Dg H')->wC CS vs H Q DJ
theorem AFb(D:Def K mg "play_day" JZ IZ):#[] 1 "play_day" IZ (wC cs.S):=by
 exists Rz
 ·obtain⟨s,sd,x,g,l,d,rfl,_⟩:=h;rfl
 obtain⟨s,sd,x,g,l,d,rfl,hS,Fv,qA,Sn,Sl,hd2,q⟩:=h;have TS:=B.T.B.Z.tS;have nd:=Rz.nd;refine⟨_,AF (3>>KY IJ KN Nu Md (pf (pv 0)) #[AU])
  (AF (D0 (pv 0) (pv 1) L_) (AF (D0 (pv 0) (pv 2) L_)
  (AK (Aj (Vd (Ar (pv 1) (λ_=>rfl)) (P1 (Ar (pv 2) (λ_=>rfl)))).pt
   (AF (D0 (pv 0) (pf (pv 0)) L_) (AK (Ap (pv 0) AU rfl)))
   (AK (Aj (Ar (pv 2) (λ_=>rfl)) (AK (D0 (pv 0) (pv 3) oA)) Aa)))))),?_⟩
 obtain⟨u,r,hb⟩:∃u r,x.brings=u::r:=by cases hx:x.brings with|nil=>exact absurd hx Fv|cons u r=>exact⟨u,r,AA⟩
 have Gi:=hS.ds;obtain⟨ds,hs⟩:=hS.ob;have nsd:s≠sd:=Ao hs Gi (by intro z;cases z);refine⟨_,AA,_,hS.fD TS,.inl ⟨AA,_,A_.of Gi⟩,sd,_,0,0,nV u,AA,AA,Gi,(()),(()),?_,by rw[hb];rfl,?_⟩
 ·unfold seqIndex?;rw[BH,hb];simp
 have e1:(BY x.brings).eraseIdx 0=BY (x.brings.drop 1):=by rw[hb];rfl
 rw[e1];have Hq:(upd H sd (.lst (BY (x.brings.drop 1)))) s=some (.ins cs.S ds (sF (.ref sd) (nV x.looks) (nV x.misdeeds) (nV x.fine) (.int g) (bV false))):=by rw[AS nsd];exact hs
 refine⟨_,AA,s,cs.S,ds,_,_,AA,Hq,TS.cl,TS.nL,AA,_,AA,_,_,AA,AA,ds,_,Hq,(by show 6<1000;decide),?_⟩;refine⟨_,AA,s,cs.S,ds,_,_,AA,AJ,TS.cl,TS.nM,AA,_,AA,_,_,AA,AA,ds,_,AJ,(by show 6<1000;decide),?_⟩;rw[Az];have eL:(x.looks:Int) - (l:Int)=((x.looks - l:Nat):Int):=by omega
 have eM:(x.misdeeds:Int) - (d:Int)=((x.misdeeds - d:Nat):Int):=by omega
 have fin:∀(o:HO),o= .ins cs.S ds (sF (.ref sd) (nV (x.looks - l)) (nV (x.misdeeds - d)) (nV x.fine) (.int (jx x g l d)) (bV (decide (l=1/\d=1))))->Q .Dg (upd (upd H sd (.lst (BY (x.brings.drop 1)))) s o):=λo eo=>by
  refine q _ (λa u' h n1 n2=>by rw[AS n1,AS n2];exact h) ⟨⟨ds,?_⟩,by rw[AS nsd.symm];exact AJ⟩;rw[AJ,eo];rfl
 have eG:∀{v:Int},d=1->jx x g l d=g+(if l=1 then -(x.fine:Int) else(u:Int)):=λ{v} hd=>by unfold jx;rw[AB (),hb];rfl
 rcases(show l=0\/l=1 by omega) with hl0|hl0
 ·subst hl0;refine⟨_,AA,false,AA,A' ?_⟩;rcases(show d=0\/d=1 by omega) with Pd|Pd
  ·subst Pd;refine⟨_,AA,false,AA,A' (fin _ ?_)⟩;show HO.ins cs.S ds (sF (.ref sd) (.int ((x.looks:Int) - ((0:Nat):Int))) (.int ((x.misdeeds:Int) - ((0:Nat):Int))) (nV x.fine) (.int g) (bV false))=_;rw[eL,eM,show jx x g 0 0=g by unfold jx;rw[AG rfl,U_]];rfl
  ·subst Pd;refine⟨_,AA,true,AA,Au ?_⟩;refine⟨_,AA,s,cs.S,ds,_,_,AA,AJ,TS.cl,TS.nH,AA,_,AA,_,_,AA,AA,ds,_,AJ,(by show 6<1000;decide),?_⟩;rw[Az];refine fin _ ?_;show HO.ins cs.S ds (sF (.ref sd) (.int ((x.looks:Int) - ((0:Nat):Int))) (.int ((x.misdeeds:Int) - ((1:Nat):Int))) (nV x.fine) (.int (g+(u:Int))) (bV false))=_;rw[eL,eM,eG (v:=0) rfl,AB (())];rfl
 ·subst hl0;rcases(show d=0\/d=1 by omega) with Pd|Pd
  ·subst Pd;refine⟨_,AA,true,AA,Au ⟨_,AA,false,AA,A' ⟨_,AA,false,AA,A' (fin _ ?_)⟩⟩⟩;show HO.ins cs.S ds (sF (.ref sd) (.int ((x.looks:Int) - ((1:Nat):Int))) (.int ((x.misdeeds:Int) - ((0:Nat):Int))) (nV x.fine) (.int g) (bV false))=_;rw[eL,eM,show jx x g 1 0=g by unfold jx;rw[AG rfl,U_]];rfl
  ·subst Pd;refine⟨_,AA,true,AA,Au ⟨_,AA,true,AA,Au ?_⟩⟩;refine⟨_,AA,s,cs.S,ds,_,_,AA,AJ,TS.cl,TS.nH,AA,_,AA,_,⟨s,cs.S,ds,_,AA,AJ,TS.cl,TS.nF,AA⟩,_,_,AA,AA,ds,_,AJ,(by show 6<1000;decide),?_⟩;rw[Az];refine⟨_,AA,s,cs.S,ds,_,AA,AJ,TS.cl,TS.nC,(by show 6<1000;decide),?_⟩;rw[Az];refine fin _ ?_;show HO.ins cs.S ds (sF (.ref sd) (.int ((x.looks:Int) - ((1:Nat):Int))) (.int ((x.misdeeds:Int) - ((1:Nat):Int))) (nV x.fine) (.int (g - (x.fine:Int))) (.int 1))=_;rw[eL,eM,eG (v:=0) rfl,AG rfl,k5];rfl
end
end
section
variable{cs:Cs}{CO CN CV:Addr}
abbrev lsH(a:Z0):List Int:=a.num::a.nums
theorem AFq(r:Rat):lsH (Nj (q r))=0::nums [r]:=rfl
abbrev spH(K:Ab)(cs:Cs)(n:Nat)(pc:List Nat->Fs):Sp:=spQ K cs n (λh=>C_ h.season/\h.gain.natAbs<2^19) λh as=>FT h (pc as)
abbrev ABh(K:Ab)(cs:Cs)(n:Nat)(pc:List Nat->Fs):Sp:=spM K cs n (λh=>C_ h.season/\h.gain.natAbs<2^19) (λh as=>Dz h (pc as)) λh as=>FT h (pc as)
theorem ACL(h:Aw)(l d:Nat):HP h l d={h with season:=plS h.season l d,gain:=jx h.season h.gain l d,over:=decide (l=1/\d=1)}:=rfl
theorem Yx{x:Bs}(g:C_ x)(l d:Nat):C_ (plS x l d):=
 ⟨by show(x.brings.drop 1).length<=4;rw[Jh];have:=g.EX;omega,λu hu=>g.ub u (MS hu),by show x.looks - l<=5;have:=g.lo;omega,by show x.misdeeds - d<=5;have:=g.mi;omega,g.f1,g.f3⟩
theorem sJ{x:Bs}(g:C_ x)(y:Int)(l d:Nat):(jx x y l d).natAbs<=y.natAbs+3:=by
 unfold jx;have f3:=g.f3;have hu:x.brings.headD 0<=3:=by
  cases hb:x.brings with
  |nil=>exact BR _
  |cons u r=>exact g.ub u (by rw[hb];exact Bw)
 split
 ·omega
 ·split <;> omega
section
variable(B:SS P w K mg base cs CO CN CV)
include B
theorem ABi(RS:#[] 2 "refused_season_play" IZ (gb cs.S))(PD:#[] 1 "play_day" IZ (wC cs.S))(D:Def K mg "play" WG PV):#[] 47 "play" PV (ABh K cs 2 λas=> .play (as.getD 0 0) (as.getD 1 0)):=by
 refine tP (k:=46) D ph rfl λf CL A outer st H p kl c h as Q E hr hl hC np g q=> ?_;obtain⟨l,d,rfl⟩:∃a b,as= [a,b]:=match as,hl with| [a,b],_=>⟨a,b,rfl⟩
 replace q:∀l1 H' c',Bp H H' p c c'->Av K cs H' p kl c' (Dz h (.play l d))->H' l1=some (.lst ((FT h (.play l d)).map V.int))->Q (.ref l1) H':=q;have TW:=B.T.B.Z.tW;have TS:=B.T.B.Z.tS;have hS:=hC.ho.DT;have nd:=ph.nd;refine⟨_,AF (3>>pf (pv 0)) (AF (4>>AV RS hr #[pv 3,pv 1,pv 2])
  (AF (Aj (Ar (pv 4) (λ_=>rfl)) (AK (AO (HI (pv 4)))) Aa)
  (AF (Bu (AV PD hr #[pv 3,pv 1,pv 2])) (AK (AO (Am #[AU,pf (pv 3)])))))),?_⟩
 refine⟨_,AA,_,hC.fS TW,_,AA,_,AA,_,AA,c.s,c.sd,_,_,_,l,d,AA,hS,?_⟩;obtain⟨s1,s2⟩:=gY h l d;refine⟨_,AA,_,AA,?_⟩;show if _ then _ else _
 have er:TZ (CG h.season h.over) h.season.looks h.season.misdeeds l d=rP h l d:=rfl;rw[er];by_cases h0:rP h l d=0
 ·obtain⟨a1,a2,_⟩:=s2 h0;obtain⟨z1,z2,z3,z4,z5,z6⟩:=gZ h0;rw[a1,a2] at q;rw[h0];refine A' ?_;rw[z1] at hS;refine⟨_,AA,_,AA,_,AA,c.s,c.sd,_,_,l,d,AA,hS,z2,z3,z4,z5,z6,λH1 fr S1=> ?_⟩;have sc:Ij H H1 c:=⟨fr⟩;refine⟨_,AA,_,S1.fH TS,(by show 2<=sizeLine;decide),λl1 qA=> ?_⟩;have s3:=AX qA (.lst [.int 0,.int (jx h.season h.gain l d)]);refine q l1 _ c ((sc.trans (Ag.ch s3 c)).moves p) ?_ (by rw[AJ];rfl);exact(hC.DT sc S1 (λz=>np (by rw[z];simp[Ad.l]))).same s3
 ·obtain⟨a1,a2,_⟩:=s1 h0;rw[a1,a2] at q;have:decide (rP h l d≠0)=true:=AH h0;refine BF (λ_=>⟨_,rfl,_,rfl,λl1 H1 s1 e1=>q l1 H1 c (Bp.same s1) (hC.same s1) e1⟩) λz=>absurd ?_ z;simp[h0]
theorem cj(RS:#[] 2 "refused_season_play" IZ (gb cs.S))(PD:#[] 1 "play_day" IZ (wC cs.S))(SM:#[] 26 "season_mean" Cg (Wl K cs.S))(D:Def K mg "ifplayed" Ja PV):
  #[] 47 "ifplayed" PV (spH K cs 2 λas=> .ifPlayed (as.getD 0 0) (as.getD 1 0)):=by
 refine mkQ (k:=46) D R0 rfl λf CL A outer st H p kl c h as Q E hr hl hC g q=> ?_;obtain⟨l,d,rfl⟩:∃a b,as= [a,b]:=match as,hl with| [a,b],_=>⟨a,b,rfl⟩
 replace q:∀l1 H',Ag H H'->H' l1=some (.lst ((FT h (.ifPlayed l d)).map V.int))->Q (.ref l1) H':=q;have TW:=B.T.B.Z.tW;have TS:=B.T.B.Z.tS;have Z:=B.T.B.Z;have hS:=hC.ho.DT;have nd:=R0.nd;refine⟨_,AF (3>>AV RS hr #[pf (pv 0),pv 1,pv 2])
  (AF (Aj (Ar (pv 3) (λ_=>rfl)) (AK (AO (HI (pv 3)))) Aa)
  (AF (4>>EI Z.sC TS.cl hr (pf (pv 0)))
  (AF (Bu (AV PD hr #[pv 4,pv 1,pv 2])) (AK (AO (Dy B.T.B.R.told hr (AV SM hr #[pv 4]))))))),?_⟩
 refine⟨_,AA,_,hC.fS TW,_,AA,_,AA,c.s,c.sd,_,_,_,l,d,AA,hS,?_⟩;obtain⟨s1,s2⟩:=gY h l d;refine⟨_,AA,_,AA,?_⟩;show if _ then _ else _
 have er:TZ (CG h.season h.over) h.season.looks h.season.misdeeds l d=rP h l d:=rfl;rw[er];by_cases h0:rP h l d=0
 ·obtain⟨_,_,a3⟩:=s2 h0;obtain⟨z1,z2,z3,z4,z5,z6⟩:=gZ h0;have gp:C_ (HP h l d).season:=Yx g.1 l d;rw[a3,qk gp] at q;rw[h0];refine A' ?_;obtain⟨ds,hs⟩:=hS.ob;refine⟨_,AA,_,hC.fS TW,c.s,ds,_,AA,hs,AA,c.s,c.sd,_,_,_,AA,hS,λs' MQ H1 e1 n1 n2 S1=> ?_⟩;rw[z1] at S1;refine⟨_,AA,_,AA,_,AA,s',MQ,_,_,l,d,AA,S1,z2,z3,z4,z5,z6,λH2 fr S2=> ?_⟩;have e2:Ag H H2:=λa u hh=>fr a u (e1 _ _ hh) (AQ hh n1) (AQ hh n2);refine⟨_,AA,s',MQ,_,_,_,AA,S2,gp,?_,λv H3 e3 q3=>⟨_,q3,λl1 H4 e4=>q l1 H4 (e2.trans (e3.trans e4))⟩⟩;have:=sJ g.1 h.gain l d;have:=g.2;omega
 ·obtain⟨_,_,a3⟩:=s1 h0;rw[a3] at q;refine BF (λ_=>⟨_,rfl,_,rfl,q⟩) λz=>absurd ?_ z;simp[h0]
theorem ABj(IO:#[] 1 "is_over" Cg (OY cs.S))(D:Def K mg "best" WJ Ae):#[] 47 "best" Ae (spH K cs 0 λ_=> .best):=by
 refine mkQ (k:=46) D pj rfl λf CL A outer st H p kl c h as Q E hr hl hC g q=> ?_;obtain rfl:=DK.mp hl;replace q:∀l1 H',Ag H H'->H' l1=some (.lst ((FT h .best).map V.int))->Q (.ref l1) H':=q;have TW:=B.T.B.Z.tW;have TS:=B.T.B.Z.tS;have T:=B.T.B.T;have O:=B.T.B.O;have R:=B.T.B.R;have hS:=hC.ho.DT;have nd:=pj.nd;have e0:FT h .best=if CG h.season h.over=true then [-6] else 0::nums [lR h.season.fine h.season.brings h.season.looks h.season.misdeeds,dR h.season.fine h.season.brings h.season.looks h.season.misdeeds]:=by
  have e1:Be (some ⟨h,[]⟩) .best=(some ⟨h,[]⟩,if(BB h).isEmpty=true then Cw (-6) else let x:=KJ h.season.fine (BB h) h.season.looks h.season.misdeeds
    let y:=FJ h.season.fine (BB h) h.season.looks h.season.misdeeds
    ⟨0,[x.1,(x.2:Int),y.1,(y.2:Int)]⟩):=rfl
  unfold FT;rw[e1,Kr];by_cases h1:CG h.season h.over=true
  ·rw[AG h1,AG h1];rfl
  ·rw[AB h1,AB h1];have ea:BB h=h.season.brings:=by
    unfold BB;cases fk:h.over with
    |false=>rw[AB DA]
    |true=>exact absurd (by unfold CG;rw[fk,Z3]) h1
   rw[ea,RO g.1.f1,OE g.1.f1];rfl
 rw[e0] at q;refine⟨_,AF (1>>pf (pv 0)) (AF (Aj (CU (AV IO hr #[pv 1])) (AK (AO (DL B.T.B.n6))) Aa)
  (AF (2>>AV B.T.B.TX hr #[pv 1])
  (AF (3>>BG O.look T.cl hr (pv 2) #[AU,pf (pv 1),pf (pv 1)])
  (AF (4>>BG O.dare T.cl hr (pv 2) #[AU,pf (pv 1),pf (pv 1)])
  (AK (AO (AV R.told hr #[Am #[pv 3,pv 4]]))))))),?_⟩
 refine⟨_,AA,_,hC.fS TW,_,AA,c.s,c.sd,_,_,_,AA,hS,_,AA,BF (λcc=> ?_) λcc=> ?_⟩
 ·rw[AG cc] at q;exact q
 rw[AB cc] at q;have EX:=g.1.EX;have Fv:0<h.season.brings.length:=by
  cases hb:h.season.brings with
  |nil=>exact absurd (by unfold CG;rw[hb];rfl) cc
  |cons u r=>exact Qe _
 refine⟨_,AA,c.s,c.sd,_,_,_,AA,hS,g.1,λou d H1 s1 Gg O1=> ?_⟩;obtain⟨TV,lo,ho,_⟩:=O1.ob;have S1:=hS.same s1;refine⟨_,AA,ou,TV,_,AA,ho,AA,_,AA,_,S1.fL TS,_,AA,_,S1.fM TS,ou,d,_,_,0,_,_,AA,O1,(),g.1.lo8,g.1.mi8,Fv,λv2 H2 e2 O2 q2=> ?_⟩;obtain⟨AFc,lo2,ho2,_⟩:=O2.ob;have D5:=Ext.fresh s1 Gg e2;have S2:=hS.same D5;refine⟨_,AA,ou,AFc,_,AA,ho2,AA,_,AA,_,S2.fL TS,_,AA,_,S2.fM TS,ou,d,_,_,0,_,_,AA,O2,(),g.1.lo8,g.1.mi8,Fv,λv3 H3 e3 O3 q3=> ?_⟩;have tQ:=Ext.fresh s1 Gg (e2.trans e3);refine⟨_,AA,_,AA,(by show 2<=sizeLine;decide),λl hl=> ?_⟩;have s4:=AX hl (.lst [v2,v3]);exact⟨l,[v2,v3],[_,_],AA,A_.of AJ,.cons ((A8.out O2 q2 e3).same s4) (.cons (q3.same s4) .nil),(by show 2<=1000;decide),λl2 H5 s5 _ h5=>q l2 H5 (tQ.trans (s4.trans s5)) h5⟩
end
end
section
variable{cs:Cs}{CO CN CV:Addr}
theorem Yy{h:Aw}(e:CG h.season h.over=false):BB h=h.season.brings:=by
 unfold BB;cases fk:h.over with
 |false=>rw[AB DA]
 |true=>unfold CG at e;rw[fk,Z3] at e;cases e
theorem Ui{h:Aw}(e:CG h.season h.over=true):(BB h).length=0:=by
 rw[←Kr,Qa] at e;rw[e];rfl
def sM(h:Aw):Aw:={h with even:=⟨h.season.brings.length,h.season.looks,h.season.misdeeds,h.season.fine,0,false⟩}
def gc(h:Aw):Aw:={h with watch:=⟨h.season.brings.length,h.season.misdeeds,h.season.fine,[]⟩}
theorem wD(h:Aw):(FT h .toEven,Dz h .toEven)=if CG h.season h.over=true\/h.season.brings.length<h.season.looks\/h.season.brings.length<h.season.misdeeds then([-33],h) else([(h.season.brings.length:Int)],sM h):=by
 have e1:Be (some ⟨h,[]⟩) .toEven=if(BB h).length=0\/(BB h).length<h.season.looks\/(BB h).length<h.season.misdeeds then(some ⟨h,[]⟩,Cw (-33)) else(some (Cn ⟨h,[]⟩ {h with even:=⟨(BB h).length,h.season.looks,h.season.misdeeds,h.season.fine,0,false⟩}),Cw ((BB h).length:Nat)):=rfl
 unfold FT Dz;rw[e1];cases ho:CG h.season h.over with
 |true=>rw[AG (.inl (Ui ho)),AG (.inl rfl)];rfl
 |false=>
  have Fv:h.season.brings.length≠0:=λz=>by
   unfold CG at ho;rw[DK.mp z] at ho;cases ho
  rw[Yy ho];by_cases hc:h.season.brings.length<h.season.looks\/h.season.brings.length<h.season.misdeeds
  ·rw[AG (.inr hc),AG (.inr hc)];rfl
  ·rw[AB (λz=>z.elim Fv hc),AB (λz=>z.elim DA hc)];refine L6 rfl ?_;exact Ah _ _
theorem sN(h:Aw):(FT h .toPlans,Dz h .toPlans)=if CG h.season h.over=true then([-33],h) else([(h.season.brings.length:Int)],gc h):=by
 have e1:Be (some ⟨h,[]⟩) .toPlans=if(BB h).length=0 then(some ⟨h,[]⟩,Cw (-33)) else(some (Cn ⟨h,[]⟩ {h with watch:=⟨(BB h).length,h.season.misdeeds,h.season.fine,[]⟩}),Cw ((BB h).length:Nat)):=rfl
 unfold FT Dz;rw[e1];cases ho:CG h.season h.over with
 |true=>rw[AG (Ui ho),AG rfl];rfl
 |false=>
  have Fv:h.season.brings.length≠0:=λz=>by
   unfold CG at ho;rw[DK.mp z] at ho;cases ho
  rw[Yy ho,AB Fv,AB DA];refine L6 rfl ?_;exact Ah _ _
section
variable(B:SS P w K mg base cs CO CN CV)
include B
theorem sO(IO:#[] 1 "is_over" Cg (OY cs.S))(D:Def K mg "toeven" M6 Ae):#[] 47 "toeven" Ae (ABh K cs 0 λ_=> .toEven):=by
 refine tP (k:=46) D YS rfl λf CL A outer st H p kl c h as Q E hr hl hC np g q=> ?_;obtain rfl:=DK.mp hl;replace q:∀l1 H' c',Bp H H' p c c'->Av K cs H' p kl c' (Dz h .toEven)->H' l1=some (.lst ((FT h .toEven).map V.int))->Q (.ref l1) H':=q;have Z:=B.T.B.Z;have TW:=Z.tW;have TS:=Z.tS;have hS:=hC.ho.DT;have nd:=YS.nd;have e0:=wD h;refine⟨_,AF (1>>pf (pv 0)) (AF (2>>Ax Ak (by rfl) B.T.B.len Cz #[pf (pv 1)])
  (AF (Aj (Ep (CU (AV IO hr #[pv 1])) (Ep (Af CK (pf (pv 1)) (pv 2) (Ai _)) (FP (Af CK (pf (pv 1)) (pv 2) (Ai _))))).pt (AK (AO (DL B.T.B.vL))) Aa)
  (AF (Ap (pv 0) (Jw Z.aI Z.tA.ZI hr #[pv 2,pf (pv 1),pf (pv 1),pf (pv 1)]) rfl) (AK (AO (HI (pv 2))))))),?_⟩
 have no:(CG h.season h.over=true\/h.season.brings.length<h.season.looks\/h.season.brings.length<h.season.misdeeds)->∀l1 H',Ag H H'->H' l1=some (.lst [.int (-33)])->Q (.ref l1) H':=λhc l1 H1 s1 h1=>by
  rw[AG hc] at e0;have ea:=congrArg KR e0;have eb:=congrArg JA e0;dsimp only at ea eb;rw[ea,eb] at q;exact q l1 H1 c (Bp.same s1) (hC.same s1) h1
 refine⟨_,AA,_,hC.fS TW,_,AA,_,hS.fD TS,c.sd,_,AA,.inl (A_.of hS.ds),?_⟩;rw[BH];refine⟨_,AA,c.s,c.sd,_,_,_,AA,hS,_,AA,BF (λcc=>Au (no (.inl cc))) λcc=> ?_⟩;refine⟨_,AA,_,hS.fL TS,_,AA,_,_,AA,AA,_,AA,BF (λck=>Au (no (.inr (.inl ?_)))) λck=> ?_⟩
 ·have:=AM ck;omega
 refine⟨_,AA,_,hS.fM TS,_,AA,_,_,AA,AA,_,AA,BF (λcm=>no (.inr (.inr ?_))) λcm=> ?_⟩
 ·have:=AM cm;omega
 have c1:¬h.season.brings.length<h.season.looks:=λz=>ck (AH ());have c2:¬h.season.brings.length<h.season.misdeeds:=λz=>cm (AH ());rw[AB (λz=>z.elim cc λz=>z.elim c1 c2)] at e0;have ea:=congrArg KR e0;have eb:=congrArg JA e0;dsimp only at ea eb;rw[ea,eb] at q;refine⟨_,AA,_,AA,_,hS.fL TS,_,AA,_,hS.fM TS,_,AA,_,hS.fF TS,λa da na nda nea=>⟨a,da,_,_,_,_,AA,AJ,λH1 k1 jQ=>⟨AA,?_⟩⟩⟩;have s1:Ag H H1:=Ag.made na nda k1;obtain⟨dx,hp⟩:=hC.ob;have Ig:=s1 _ _ hp;refine⟨_,AA,p,cs.W,dx,_,AA,Ig,TW.cl,TW.nA,(by show 4<1000;decide),?_⟩;have keep:∀b u,H1 b=some u->b≠p->(upd H1 p (.ins cs.W dx (DB "alike" (.ref a) (wF (.ref c.s) (.ref c.a) (.ref c.t) (.ref kl))))) b=some u:=λb u e n=>by rw[AS n];exact e
 have tU:∀x∈c.l,x≠p:=λx hx z=>np (by rw[←z];exact hx);have ns:=tU c.s (by simp[Ad.l]);have nsd:=tU c.sd (by simp[Ad.l]);have nt:=tU c.t (by simp[Ad.l]);have ntp:=tU c.tp (by simp[Ad.l]);have nap:a≠p:=(AQ hp na).symm;have C2:Av K cs (upd H1 p (.ins cs.W dx (DB "alike" (.ref a) (wF (.ref c.s) (.ref c.a) (.ref c.t) (.ref kl))))) p kl {c with a:=a} (sM h):=by
  obtain⟨ds,hs⟩:=(hS.same s1).ob;have hds:=(hS.same s1).ds;obtain⟨dt,ht⟩:=(hC.ho.tab.same s1).ob;obtain⟨vs,hv,Dn⟩:=(hC.ho.tab.same s1).ps;refine⟨⟨dx,by rw[AJ];rfl⟩,⟨⟨⟨ds,keep _ _ hs ns⟩,keep _ _ hds nsd⟩,⟨da,by rw[keep _ _ jQ nap];rfl⟩,⟨⟨dt,keep _ _ ht nt⟩,⟨vs,keep _ _ hv ntp,Paired.Jy Dn λv q ⟨b,e,z⟩=>⟨b,e,?_⟩⟩⟩⟩,?_⟩
  ·rcases z with z|z
   ·refine .inl ?_;rcases z with z|⟨o',z⟩
    ·exact .inl (keep _ _ z (Ao z Ig (by intro y;cases y)))
    ·exact .inr ⟨o',keep _ _ z (Ao z Ig (by intro y;cases y))⟩
   ·exact .inr z
  ·have h0:=hC.nd;obtain⟨ds0,hs0⟩:=hS.ob;obtain⟨dt0,ht0⟩:=hC.ho.tab.ob;obtain⟨vs0,YV,_⟩:=hC.ho.tab.ps;simp only[Ad.l,Bx,BQ,HN,or_false,not_or,not_false_eq_true,GD,and_true] at h0 ⊢;exact⟨⟨h0.1.1,AQ hs0 na,h0.1.2.2⟩,⟨AQ hS.ds na,h0.2.1.2⟩,⟨(AQ ht0 na).symm,(AQ YV na).symm⟩,h0.2.2.2⟩
 refine⟨_,rfl,_,rfl,λl1 H3 s3 h3=>q l1 H3 {c with a:=a} ⟨λb u e n1 n2=>s3 _ _ (keep _ _ (s1 _ _ e) n1),λb hb=> ?_⟩ (C2.same s3) h3⟩;simp only[Ad.l,BQ,HN,or_false] at hb ⊢;rcases hb with hb|hb|hb|hb|hb
 ·exact .inl (.inl hb)
 ·exact .inl (.inr (.inl hb))
 ·exact .inr (by rw[hb];exact na)
 ·exact .inl (.inr (.inr (.inr (.inl hb))))
 ·exact .inl (.inr (.inr (.inr (.inr hb))))
theorem jS(IO:#[] 1 "is_over" Cg (OY cs.S))(D:Def K mg "toplans" LD Ae):#[] 47 "toplans" Ae (ABh K cs 0 λ_=> .toPlans):=by
 refine tP (k:=46) D Ub rfl λf CL A outer st H p kl c h as Q E hr hl hC np g q=> ?_;obtain rfl:=DK.mp hl;replace q:∀l1 H' c',Bp H H' p c c'->Av K cs H' p kl c' (Dz h .toPlans)->H' l1=some (.lst ((FT h .toPlans).map V.int))->Q (.ref l1) H':=q;have Z:=B.T.B.Z;have TW:=Z.tW;have TS:=Z.tS;have hS:=hC.ho.DT;have nd:=Ub.nd;have e0:=sN h;refine⟨_,AF (1>>pf (pv 0)) (AF (2>>Ax Ak (by rfl) B.T.B.len Cz #[pf (pv 1)])
  (AF (Aj (CU (AV IO hr #[pv 1])) (AK (AO (DL B.T.B.vL))) Aa)
  (AF (Ap (pv 0) (Jw Z.tI Z.tT.ZI hr #[pv 2,pf (pv 1),pf (pv 1)]) rfl) (AK (AO (HI (pv 2))))))),?_⟩
 refine⟨_,AA,_,hC.fS TW,_,AA,_,hS.fD TS,c.sd,_,AA,.inl (A_.of hS.ds),?_⟩;rw[BH];refine⟨_,AA,c.s,c.sd,_,_,_,AA,hS,_,AA,BF (λcc l1 H1 s1 h1=> ?_) λcc=> ?_⟩
 ·rw[AG cc] at e0;have ea:=congrArg KR e0;have eb:=congrArg JA e0;dsimp only at ea eb;rw[ea,eb] at q;exact q l1 H1 c (Bp.same s1) (hC.same s1) h1
 rw[AB cc] at e0;have ea:=congrArg KR e0;have eb:=congrArg JA e0;dsimp only at ea eb;rw[ea,eb] at q;refine⟨_,AA,_,AA,_,hS.fM TS,_,AA,_,hS.fF TS,λa da na nda nea=>⟨a,da,_,_,_,AA,AJ,λH1 tp k1 Gg Yc Sn jQ=>⟨AA,?_⟩⟩⟩;have s1:Ag H H1:=Ag.made na nda k1;have sP:H tp=none:=Gj Gg;obtain⟨dx,hp⟩:=hC.ob;have Ig:=s1 _ _ hp;refine⟨_,AA,p,cs.W,dx,_,AA,Ig,TW.cl,TW.nT,(by show 4<1000;decide),?_⟩;have keep:∀b u,H1 b=some u->b≠p->(upd H1 p (.ins cs.W dx (DB "table" (.ref a) (wF (.ref c.s) (.ref c.a) (.ref c.t) (.ref kl))))) b=some u:=λb u e n=>by rw[AS n];exact e
 have tU:∀x∈c.l,x≠p:=λx hx z=>np (by rw[←z];exact hx);have ns:=tU c.s (by simp[Ad.l]);have nsd:=tU c.sd (by simp[Ad.l]);have na2:=tU c.a (by simp[Ad.l]);have nap:a≠p:=(AQ hp na).symm;have AFd:tp≠p:=(AQ hp sP).symm;have C2:Av K cs (upd H1 p (.ins cs.W dx (DB "table" (.ref a) (wF (.ref c.s) (.ref c.a) (.ref c.t) (.ref kl))))) p kl {c with t:=a,tp:=tp} (gc h):=by
  obtain⟨ds,hs⟩:=(hS.same s1).ob;have hds:=(hS.same s1).ds;obtain⟨dt,ht⟩:=(hC.ho.OV.same s1).ob;refine⟨⟨dx,by rw[AJ];rfl⟩,⟨⟨⟨ds,keep _ _ hs ns⟩,keep _ _ hds nsd⟩,⟨dt,keep _ _ ht na2⟩,⟨⟨da,by rw[keep _ _ jQ nap];rfl⟩,⟨[],keep _ _ Sn AFd,.nil⟩⟩⟩,?_⟩;have h0:=hC.nd;obtain⟨ds0,hs0⟩:=hS.ob;obtain⟨dt0,ht0⟩:=hC.ho.OV.ob;simp only[Ad.l,Bx,BQ,HN,or_false,not_or,not_false_eq_true,GD,and_true] at h0 ⊢;exact⟨⟨h0.1.1,h0.1.2.1,AQ hs0 na,AQ hs0 sP⟩,⟨h0.2.1.1,AQ hS.ds na,AQ hS.ds sP⟩,⟨AQ ht0 na,AQ ht0 sP⟩,Yc.symm⟩
 refine⟨_,rfl,_,rfl,λl1 H3 s3 h3=>q l1 H3 {c with t:=a,tp:=tp} ⟨λb u e n1 n2=>s3 _ _ (keep _ _ (s1 _ _ e) n1),λb hb=> ?_⟩ (C2.same s3) h3⟩;simp only[Ad.l,BQ,HN,or_false] at hb ⊢;rcases hb with hb|hb|hb|hb|hb
 ·exact .inl (.inl hb)
 ·exact .inl (.inr (.inl hb))
 ·exact .inl (.inr (.inr (.inl hb)))
 ·exact .inr (by rw[hb];exact na)
 ·exact .inr (by rw[hb];exact sP)
inductive cn(K:Ab)(cs:Cs):Sp
 |mk (p kl:Addr) (c:Ad) (h:Aw) (ks:List V):vs= [.ref p]->Av K cs H p kl c h->H kl=some (.lst ks)->(∀l H',Ag H H'->H' l=some (.lst [.int (ks.length:Nat)])->Q (.ref l) H')->cn K cs vs H Q DJ
theorem ABk(D:Def K mg "past" WM Ae):#[] 47 "past" Ae (cn K cs):=by
 refine D.has (k:=46) AAL (λvs H Q E h=> ?_) (λf CL A outer st H vs Q E hr h=> ?_)
 ·obtain⟨p,kl,c,h,ks,rfl,_⟩:=h;rfl
 obtain⟨p,kl,c,h,ks,rfl,hC,hk,q⟩:=h;refine⟨_,AK (AO (HI (Ax Ak (by rfl) B.T.B.len Cz #[pf (pv 0)]))),?_⟩;exact⟨_,AA,_,hC.fK B.T.B.Z.tW,kl,_,AA,.inl (A_.of hk),_,AA,q⟩
inductive W4(K:Ab)(cs:Cs):Sp
 |mk (p kl:Addr) (c:Ad) (h:Aw) (ks:List V):vs= [.ref p]->Av K cs H p kl c h->H kl=some (.lst ks)->(((ks= []/\∀l H',Ag H H'->H' l=some (.lst [.int (-6)])->Q (.ref l) H')\/∃(e0:Addr) (c0:Ad) (h0:Aw) (ks':List V),ks=ks'++ [.ref e0]/\e0≠kl/\p∉c0.l/\kl∉c0.l/\c0.l.Nodup/\EE K cs H e0 c0 h0/\∀l H',(∀b o,H b=some o->b≠p->b≠kl->H' b=some o)->H' kl=some (.lst ks')->Av K cs H' p kl c0 h0->H' l=some (.lst [.int (ks'.length:Nat)])->Q (.ref l) H'))->W4 K cs vs H Q DJ
theorem ABl(TB:An P w K mg base cs.W 1 "take_back" BX (Wc cs))(D:Def K mg "undo" WL Ae):#[] 47 "undo" Ae (W4 K cs):=by
 refine D.has (k:=46) AAK (λvs H Q E h=> ?_) (λf CL A outer st H vs Q E hr h=> ?_)
 ·obtain⟨p,kl,c,h,ks,rfl,_⟩:=h;rfl
 obtain⟨p,kl,c,h,ks,rfl,hC,hk,q⟩:=h;have TW:=B.T.B.Z.tW;refine⟨_,AF (Aj (BN (Ar (pf (pv 0)) (λ_=>rfl))) (AK (AO (DL B.T.B.n6))) Aa)
  (AF (Bu (EI TB TW.cl hr (pv 0))) (AK (AO (HI (Ax Ak (by rfl) B.T.B.len Cz #[pf (pv 0)]))))),?_⟩
 obtain⟨dx,hp⟩:=hC.ob;rcases q with⟨rfl,q⟩|⟨e0,c0,h0,ks',rfl,ne0,np0,nk0,nd0,hP,q⟩
 ·exact⟨_,AA,_,hC.fK TW,false,.inl ⟨_,A_.of hk,AA⟩,Au q⟩
 ·refine⟨_,AA,_,hC.fK TW,true,.inl ⟨_,A_.of hk,by cases ks' <;> rfl⟩,A' ?_⟩;refine⟨_,AA,p,dx,_,AA,hp,AA,p,dx,kl,e0,c.s,c.a,c.t,c0.s,c0.a,c0.t,ks',AA,hp,hk,hP.lst,ne0,λH1 fr bh Ig=> ?_⟩;have tU:∀x∈c0.l,x≠p:=λx hx z=>np0 (by rw[←z];exact hx);have nkl:∀x∈c0.l,x≠kl:=λx hx z=>nk0 (by rw[←z];exact hx);have mv:∀x∈c0.l,∀u,H x=some u->H1 x=some u:=λx hx u e=>fr x u e (tU x hx) (nkl x hx);have C1:Av K cs H1 p kl c0 h0:=by
   obtain⟨ds,hs⟩:=hP.ho.DT.ob;obtain⟨da,ha⟩:=hP.ho.OV.ob;obtain⟨dt,ht⟩:=hP.ho.tab.ob;obtain⟨vs,hv,Dn⟩:=hP.ho.tab.ps;refine⟨⟨dx,Ig⟩,⟨⟨⟨ds,mv _ (by simp[Ad.l]) _ hs⟩,mv _ (by simp[Ad.l]) _ hP.ho.DT.ds⟩,⟨da,mv _ (by simp[Ad.l]) _ ha⟩,⟨⟨dt,mv _ (by simp[Ad.l]) _ ht⟩,⟨vs,mv _ (by simp[Ad.l]) _ hv,Paired.Jy Dn λv q ⟨b,e,z⟩=>⟨b,e,?_⟩⟩⟩⟩,nd0⟩;rcases z with z|z
   ·refine .inl ?_;rcases z with z|⟨o',z⟩
    ·exact .inl (fr _ _ z (Ao z hp (by intro y;cases y)) (Ao z hk (by intro y;cases y)))
    ·exact .inr ⟨o',fr _ _ z (Ao z hp (by intro y;cases y)) (Ao z hk (by intro y;cases y))⟩
   ·exact .inr z
  refine⟨_,AA,_,C1.fK TW,kl,_,AA,.inl (A_.of bh),_,AA,λl H2 s2 h2=>q l H2 (λb o e n1 n2=>s2 _ _ (fr b o e n1 n2)) (s2 _ _ bh) (C1.same s2) h2⟩
inductive gf(K:Ab)(cs:Cs):Sp
 |mk (p dx:Addr) (x y z u:V) (m k b:Nat):vs= [.ref p,nV m,nV k,nV b]->H p=some (.ins cs.W dx (wF x y z u))->(((A5 m=false\/A5 k=false\/FF b=false)->∀l H',Ag H H'->H' l=some (.lst [.int (-22)])->Q (.ref l) H'))->((¬(A5 m=false\/A5 k=false\/FF b=false)->∀l H' kl c,(∀a o,H a=some o->a≠p->H' a=some o)->qQ H (kl::c.l)->Av K cs H' p kl c (Wd m k b)->H' kl=some (.lst [])->H' l=some (.lst [.int 0])->Q (.ref l) H'))->gf K cs vs H Q DJ
theorem wG(FI:#[] 1 "is_fine" HB SI)(WB:An P w K mg base cs.W 3 "begin" IY (We K cs))(D:Def K mg "begin" QH YC):#[] 47 "begin" YC (gf K cs):=by
 refine D.has (k:=46) ui (λvs H Q E h=> ?_) (λf CL A outer st H vs Q E hr h=> ?_)
 ·obtain⟨p,dx,x,y,z,u,m,k,b,rfl,_⟩:=h;rfl
 obtain⟨p,dx,x,y,z,u,m,k,b,rfl,hp,q1,q2⟩:=h;have TW:=B.T.B.Z.tW;refine⟨_,AF (Aj (Ep (Af CK (pv 1) (BD B.T.B.mL) (Ai _)) (Ep (Af CK (pv 2) (BD B.T.B.mL) (Ai _)) (FP (BN (CU (AV FI hr #[pv 3])))))).pt (AK (AO (DL B.T.B.NH))) Aa)
  (AF (Bu (BG WB TW.cl hr (pv 0) #[pv 1,pv 2,pv 3])) (AK (AO (HI AU)))),?_⟩
 refine⟨_,AA,_,_,AA,AA,_,AA,BF (λcc=>Au (q1 (.inl ?_))) λcc=> ?_⟩
 ·have:=AM cc;exact AL ()
 have c1:¬A5 m=false:=λz=>cc (AH (by have:=of_decide_eq_false z;omega));refine⟨_,AA,_,_,AA,AA,_,AA,BF (λck=>Au (q1 (.inr (.inl ?_)))) λck=> ?_⟩
 ·have:=AM ck;exact AL ()
 have c2:¬A5 k=false:=λz=>ck (AH (by have:=of_decide_eq_false z;omega));refine⟨_,AA,b,AA,_,AA,BF (λcb=>q1 (.inr (.inr ((Lq _).mp cb)))) λcb=> ?_⟩;have c3:¬FF b=false:=λz=>cb (by rw[z];rfl);refine⟨_,AA,p,dx,_,AA,hp,AA,_,AA,_,AA,_,AA,p,dx,x,y,z,u,m,k,b,AA,hp,λH1 kl c fr fs Ig bh hh=> ?_⟩;refine⟨_,AA,λl H2 s2 h2=>q2 (λz=>z.elim c1 λz=>z.elim c2 c3) l H2 kl c (λa o e n=>s2 _ _ (fr a o e n)) fs (Av.same ⟨⟨dx,Ig⟩,hh,(Bx.mp fs.nd).2⟩ s2) (s2 _ _ bh) h2⟩
end
end
section
variable{cs:Cs}{CO CN CV:Addr}
structure GoodC(h:Aw):Prop where
 s:C_ h.season
 gn:h.gain.natAbs<2^19
 e:NN h.even
 t:DP h.watch
def MM(d:Qk)(c:Fs):List Int:=(Be (some d) c).2.num::(Be (some d) c).2.nums
def A9(d:Qk)(c:Fs):Aw:=match(Be (some d) c).1 with
 |some d=>d.now
 |none=>d.now
inductive Ks(K:Ab)(cs:Cs)(n:Nat)(pc:List Nat->Fs):Sp
 |mk (p kl:Addr) (c:Ad) (h:Aw) (old:List Aw) (ks:List V) (as:List Nat):vs= .ref p::as.map nV->as.length=n->Av K cs H p kl c h->p∉c.l->H kl=some (.lst ks)->ks.length=old.length->GoodC h->(∀l H' c',Bp H H' p c c'->Av K cs H' p kl c' (A9 ⟨h,old⟩ (pc as))->H' l=some (.lst ((MM ⟨h,old⟩ (pc as)).map V.int))->Q (.ref l) H')->Ks K cs n pc vs H Q DJ
section
variable{k n:Nat}{x:Str}{ps:List Str}{pc:List Nat->Fs}
theorem FC{G:Aw->Prop}{Yr:Aw->List Nat->List Int}(Hh:#[] k x ps (spQ K cs n G Yr))(hG:∀h,GoodC h->G h)(he:∀h old as,MM ⟨h,old⟩ (pc as)=Yr h as)(hh:∀h old as,A9 ⟨h,old⟩ (pc as)=h):#[] k x ps (Ks K cs n pc):=
 Hh.imp λvs H Q E ⟨p,kl,c,h,old,ks,as,e,hl,hC,np,hk,hlen,g,q⟩=>⟨p,kl,c,h,as,e,hl,hC,hG h g,λl H' s e1=>q l H' c (Bp.same s) (by rw[hh];exact hC.same s) (by rw[he];exact e1)⟩
theorem anyM{G:Aw->Prop}{hs:Aw->List Nat->Aw}{Yr:Aw->List Nat->List Int}(Hh:#[] k x ps (spM K cs n G hs Yr))(hG:∀h,GoodC h->G h)(he:∀h old as,MM ⟨h,old⟩ (pc as)=Yr h as)(hh:∀h old as,A9 ⟨h,old⟩ (pc as)=hs h as):#[] k x ps (Ks K cs n pc):=
 Hh.imp λvs H Q E ⟨p,kl,c,h,old,ks,as,e,hl,hC,np,hk,hlen,g,q⟩=>⟨p,kl,c,h,as,e,hl,hC,np,hG h g,λl H' c' m C e1=>q l H' c' m (by rw[hh];exact C) (by rw[he];exact e1)⟩
theorem anyS{jy:List Nat->Iv}(Hh:#[] k x ps (Km K cs n jy))(he:∀h old as,MM ⟨h,old⟩ (pc as)=Bc h.season (jy as))(hh:∀h old as,A9 ⟨h,old⟩ (pc as)=h):#[] k x ps (Ks K cs n pc):=
 Hh.imp λvs H Q E ⟨p,kl,c,h,old,ks,as,e,hl,hC,np,hk,hlen,g,q⟩=>⟨p,kl,c,h,as,e,hl,hC,g.s,λl H' s e1=>q l H' c (Bp.same s) (by rw[hh];exact hC.same s) (by rw[he];exact e1)⟩
theorem Uj{jy:List Nat->Iv}(Hh:#[] k x ps (Ym K cs n jy))(he:∀h old as,MM ⟨h,old⟩ (pc as)=Bc h.season (jy as))(hh:∀h old as,A9 ⟨h,old⟩ (pc as)=De h (jy as)):#[] k x ps (Ks K cs n pc):=
 Hh.imp λvs H Q E ⟨p,kl,c,h,old,ks,as,e,hl,hC,np,hk,hlen,g,q⟩=>⟨p,kl,c,h,as,e,hl,hC,(λz=>np (by rw[z];simp[Ad.l])),g.s,λl H' m e1 C=>q l H' c m (by rw[hh];exact C) (by rw[he];exact e1)⟩
theorem AD2{jy:List Nat->Fs}(Hh:#[] k x ps (vQ K cs n jy))(he:∀h old as,MM ⟨h,old⟩ (pc as)=FT h (jy as))(hh:∀h old as,A9 ⟨h,old⟩ (pc as)=h):#[] k x ps (Ks K cs n pc):=
 Hh.imp λvs H Q E ⟨p,kl,c,h,old,ks,as,e,hl,hC,np,hk,hlen,g,q⟩=>⟨p,kl,c,h,as,e,hl,hC,g.s,g.gn,λl H' s e1=>q l H' c (Bp.same s) (by rw[hh];exact hC.same s) (by rw[he];exact e1)⟩
theorem AD3{jy:List Nat->Lx}(Hh:#[] k x ps (vR K cs n jy))(he:∀h old as,MM ⟨h,old⟩ (pc as)=Dx h.even (jy as))(hh:∀h old as,A9 ⟨h,old⟩ (pc as)=h):#[] k x ps (Ks K cs n pc):=
 Hh.imp λvs H Q E ⟨p,kl,c,h,old,ks,as,e,hl,hC,np,hk,hlen,g,q⟩=>⟨p,kl,c,h,as,e,hl,hC,λl H' s e1=>q l H' c (Bp.same s) (by rw[hh];exact hC.same s) (by rw[he];exact e1)⟩
theorem wH(Hh:#[] k x ps (cn K cs)):#[] k x ps (Ks K cs 0 λ_=> .past):=
 Hh.imp λvs H Q E ⟨p,kl,c,h,old,ks,as,e,hl,hC,np,hk,hlen,g,q⟩=>by
  obtain rfl:=DK.mp hl;refine⟨p,kl,c,h,ks,e,hC,hk,λl H' s e1=>q l H' c (Bp.same s) (hC.same s) ?_⟩;rw[e1,hlen];rfl
end
theorem xu(h:Aw)(old:List Aw)(l d:Nat):MM ⟨h,old⟩ (.play l d)=FT h (.play l d)/\A9 ⟨h,old⟩ (.play l d)=Dz h (.play l d):=by
 have e1:∀o,Be (some ⟨h,o⟩) (.play l d)=if(BB h).isEmpty=true then(some ⟨h,o⟩,Cw (-6)) else if 1<l\/1<d then(some ⟨h,o⟩,Cw (-22)) else if Ip h l d=false then(some ⟨h,o⟩,Cw (-33)) else(some (Cn ⟨h,o⟩ (HP h l d)),⟨0,[(HP h l d).gain]⟩):=λ_=>rfl
 unfold MM FT A9 Dz;rw[e1,e1];split
 ·exact⟨AA,AA⟩
 ·split
  ·exact⟨AA,AA⟩
  ·split
   ·exact⟨AA,AA⟩
   ·exact⟨AA,(Ah _ _).trans (Ah _ _).symm⟩
theorem xw(h:Aw)(old:List Aw):MM ⟨h,old⟩ .toEven=FT h .toEven/\A9 ⟨h,old⟩ .toEven=Dz h .toEven:=by
 have e1:∀o,Be (some ⟨h,o⟩) .toEven=if(BB h).length=0\/(BB h).length<h.season.looks\/(BB h).length<h.season.misdeeds then(some ⟨h,o⟩,Cw (-33)) else(some (Cn ⟨h,o⟩ {h with even:=⟨(BB h).length,h.season.looks,h.season.misdeeds,h.season.fine,0,false⟩}),Cw ((BB h).length:Nat)):=λ_=>rfl
 unfold MM FT A9 Dz;rw[e1,e1];split
 ·exact⟨AA,AA⟩
 ·exact⟨AA,(Ah _ _).trans (Ah _ _).symm⟩
theorem sQ(h:Aw)(old:List Aw):MM ⟨h,old⟩ .toPlans=FT h .toPlans/\A9 ⟨h,old⟩ .toPlans=Dz h .toPlans:=by
 have e1:∀o,Be (some ⟨h,o⟩) .toPlans=if(BB h).length=0 then(some ⟨h,o⟩,Cw (-33)) else(some (Cn ⟨h,o⟩ {h with watch:=⟨(BB h).length,h.season.misdeeds,h.season.fine,[]⟩}),Cw ((BB h).length:Nat)):=λ_=>rfl
 unfold MM FT A9 Dz;rw[e1,e1];split
 ·exact⟨AA,AA⟩
 ·exact⟨AA,(Ah _ _).trans (Ah _ _).symm⟩
def xx(a b c:Nat):List Fs:= [.begin_ a b c,.play a b,.mean,.ifPlayed a b,.best,.gain,.toEven,.toPlans,.undo,.past,.season (.day a),.season .drop,.season (.brings a b),.season (.looks a),.season (.misdeeds a),.season (.fine a),.season .worth,.season .look,.season .dare,.season (.from_ a b c),.season (.lookFrom a b c),.season (.dareFrom a b c),.season .four,.season .caught,.season .brought,.season (.ifBrings a b),.season (.ifLooks a),.season (.ifFine a),.season (.without a),.season .firstDay,.season .told,.even (.day a b),.even .gain,.even .left,.even .worth,.even .look,.even .dare,.even (.worthOf a b c),.even (.ifFine a),.even (.ifLook a)]++ [.even (.ifDare a),.even .caught,.even .done,.even (.looked a),.even (.spare a),.even (.looksFor a),.even (.fineFor a),.plans (.plan a b),.plans (.drop a),.plans (.weight a b),.plans (.misdeeds a),.plans (.fine a),.plans (.fair a),.plans .reply,.plans .dares,.plans (.seen a b c),.plans (.looked a),.plans .mean,.plans .most,.plans (.worth a),.plans .over,.plans (.bestChance a b),.plans (.bestLooked a),.plans .caught,.plans .done,.plans .unlooked,.plans .told]
def Cj(i:Nat)(as:List Nat):Fs:=(xx (as.getD 0 0) (as.getD 1 0) (as.getD 2 0)).getD i (.plans .told)
def args:List Nat:= [3,2,0,2,0,0,0,0,0,0,1,0,2,1,1,1,0,0,0,3,3,3,0,0,0,2,1,1,1,0,0,2,0,0,0,0,0,3,1,1,1,0,0,1,1,1,1,2,1,2,1,1,1,0,0,3,1,0,0,1,0,2,1,0,0,0,0]
def Dc(K:Ab)(cs:Cs)(i:Nat):Sp:=if i=0 then gf K cs else if i=8 then W4 K cs else Ks K cs (args.getD i 0) (Cj i)
end
section
structure wI(P:Program)(w:World)(K:Ab)(mg:Str->Option Value)(base:Heap)(k:Nat)(f:Addr)(sp:Sp):Prop where
 ex:∃ps fd,GJ P w K mg base eJ k f fd ps sp/\Binds K fd ps []/\J8 K (.ref f)=true
theorem MH.toF{P:Program}{w:World}{K:Ab}{mg:Str->Option Value}{base:Heap}{k:Nat}{x:Str}{ps:List Str}{sp:Sp}{f:Addr}(h:#[] k x ps sp)(m:mg x=some (.ref f)):wI P w K mg base k f sp:=by
 obtain⟨f',fd,m',F,b,kp⟩:=h.ex;rw[m] at m';cases m';exact⟨ps,fd,F,b,kp⟩
section
variable{X:Cx}{i k:Nat}{x:Str}{e:Expr}{es:List Expr}{t:TA}{p pos:Pos}
inductive sR(P:Program)(w:World)(K:Ab)(mg:Str->Option Value)(base:Heap)(A:Around)(i:Nat)(t:TA):TE
 |mk (f k sp:_):σ[i]? =some (some (.ref f))->wI P w K mg base k f sp->DD k A->(t σ H λvs H1=>sp (vs++ []) H1 Q E0)->sR P w K mg base A i t σ H Q
theorem W5(hN:X.N[i]? =some x)(ha:PA X (e::es) t)(hv:zF X.env.scope x:=by first|exact BJ rfl|exact Eo (BJ rfl)|exact Eo (Eo rfl))(hd:(x==("__debug__":Str))=false:=by decide)(jn:(x==("__classdict__":Str))=false:=by decide)
  (he:starEach (e::es) X.env=(false,eval e X.env)::starEach es X.env:=by rfl) (Dn:(backTo pos (starEach es X.env)).any (·.1)=false:=by rfl):
  PE X (.Call (.Name x p) (e::es) [] pos) (sR X.prog X.w X.K X.mg X.base X.A i t):=by
 intro pins s σ H Q I h;obtain⟨f,k,sp,eσ,hf,hr,h⟩:=h;obtain⟨ps,fd,F,b,kp⟩:=hf.ex;refine wpAny_Call_Name_kw (Bt (m_ (pos:=p) hN hv hd jn pins s σ H (λv H'=>v= .ref f/\H'=H) I ⟨_,eσ,rfl,rfl⟩) λu s1 ⟨v,H1,I1,r,ev,eH⟩=> ?_);subst ev eH;obtain rfl:u=BI f:=r;refine QQ (h₀:=X.base) I.ok.mod.zC kp (Bt (ha pos pins s1 σ H1 _ I1 h) λus s2 ⟨vs,H2,I2,r2,q⟩=>⟨I2.XJ,?_⟩) he Dn;exact N6 F hr b .nil O_ I2 r2 q
end
variable{cs:Cs}{CO CN CV:Addr}
structure Tb(K:Ab)(mg:Str->Option Value)(x:Str)(fs:List Addr):Prop where
 ex:∃a,mg x=some (.ref a)/\∀H,Bi K H a (fs.map V.ref)
structure Calls(P:Program)(w:World)(K:Ab)(mg:Str->Option Value)(base:Heap)(cs:Cs)(fw fd fe fp:List Addr):Prop where
 tw:Tb K mg "WHOLE_CALLS" fw
 td:Tb K mg "DAYS_CALLS" fd
 te:Tb K mg "EVEN_CALLS" fe
 tp:Tb K mg "PLAN_CALLS" fp
 lw:fw.length=10
 ld:fd.length=21
 le:fe.length=16
 lp:fp.length=20
 ok:∀i f,(fw++fd++fe++fp)[i]? =some f->wI P w K mg base 47 f (Dc K cs i)
inductive ABm(K:Ab)(cs:Cs):Sp
 |mk (p l:Addr) (i:Nat) (as:List Nat):vs= [.ref p,nV i,.ref l]->A_ K H l (as.map nV)->i<67->as.length=args.getD i 0->(∀H1,Ag H H1->Dc K cs i (.ref p::as.map nV) H1 Q E0)->ABm K cs vs H Q E
theorem wJ:∀i<67,args.getD i 0<=3:=by decide+kernel
theorem ABn{fw fd fe fp:List Addr}(ml:mg "len"=none)(C:Calls P w K mg base cs fw fd fe fp)(D:Def K mg "made_call" Fz Lb):#[] 48 "made_call" Lb (ABm K cs):=by
 exists Pc
 ·obtain⟨p,l,i,as,rfl,_⟩:=h;rfl
 obtain⟨p,l,i,as,rfl,hl,hi,ha,q⟩:=h;have nd:=Pc.nd;obtain⟨aw,mw,qw⟩:=C.tw.ex;obtain⟨ad,md,qd⟩:=C.td.ex;obtain⟨ae,me,qe⟩:=C.te.ex;obtain⟨ap,mp,qp⟩:=C.tp.ex;refine⟨_,AF (3>>BM BV (Ay Vj (Ay Vj (Ay Vj (JB (v:= .ref aw) rfl mw rfl) (JB (v:= .ref ad) rfl md rfl)) (JB (v:= .ref ae) rfl me rfl)) (JB (v:= .ref ap) rfl mp rfl)) (pv 1) (λ_ _=>rfl))
  (AF (Aj (Af B_ (Ax Ak (by rfl) ml Cz #[pv 2]) AU (Ai _)) (AK (AO (W5 (i:=3) rfl #[pv 0]))) Aa)
  (AF (Aj (Af B_ (Ax Ak (by rfl) ml Cz #[pv 2]) AU (Ai _)) (AK (AO (W5 (i:=3) rfl #[pv 0,BM D4 (pv 2) AU (λ_ _=>rfl)]))) Aa)
  (AF (Aj (Af B_ (Ax Ak (by rfl) ml Cz #[pv 2]) AU (Ai _)) (AK (AO (W5 (i:=3) rfl #[pv 0,BM D4 (pv 2) AU (λ_ _=>rfl),BM D4 (pv 2) AU (λ_ _=>rfl)]))) Aa)
  (AK (AO (W5 (i:=3) rfl #[pv 0,BM D4 (pv 2) AU (λ_ _=>rfl),BM D4 (pv 2) AU (λ_ _=>rfl),BM D4 (pv 2) AU (λ_ _=>rfl)])))))),?_⟩
 have lw:=C.lw;have ld:=C.ld;have le:=C.le;have lp:=C.lp;have ne:∀{l:List Addr} {n:Nat},l.length=n+1->l.map V.ref≠ []:=λ{l n} h z=>by
  have:=congrArg Zh z;rw[BP,h] at this;cases this
 have ne2:∀{a b:List V},a≠ []->a++b≠ []:=λ{a b} h z=>h (List.append_eq_nil_iff.mp z).1;refine⟨aw,ad,_,_,AA,AA,qw H,qd H,ne lw,?_,λz=>absurd z (ne ld),λ_ p1 Ig=> ?_⟩
 ·rw[BP,BP,lw,ld];decide
 have s1:=AX Ig (.tup (fw.map V.ref++fd.map V.ref));refine⟨p1,ae,_,_,AA,AA,Bi.of AJ,qe _,ne2 (ne lw),?_,λz=>absurd z (ne le),λ_ p2 RE=> ?_⟩
 ·rw[CH,BP,BP,BP,lw,ld,le];decide
 have s2:=AX RE (.tup (fw.map V.ref++fd.map V.ref++fe.map V.ref));refine⟨p2,ap,_,_,AA,AA,Bi.of AJ,qp _,ne2 (ne2 (ne lw)),?_,λz=>absurd z (ne lp),λ_ p3 ZJ=> ?_⟩
 ·rw[CH,CH,BP,BP,BP,BP,lw,ld,le,lp];decide
 have s3:=AX ZJ (.tup (fw.map V.ref++fd.map V.ref++fe.map V.ref++fp.map V.ref));have tQ:=s1.trans (s2.trans s3);have hlen:(fw++fd++fe++fp).length=67:=by rw[CH,CH,CH,lw,ld,le,lp]
 obtain⟨g,hg⟩:∃g,(fw++fd++fe++fp)[i]? =some g:=⟨_,Gk (by rw[hlen];exact hi)⟩;have hF:=C.ok i g hg;have qG:oK (fw.map V.ref++fd.map V.ref++fe.map V.ref++fp.map V.ref) (i:Int)=some (.ref g):=Mc (by rw[←GB,←GB,←GB,J',hg];rfl);refine⟨_,AA,p3,_,_,_,AA,AA,Bi.of AJ,qG,?_⟩;have ZM:=tQ.seq hl;have wK:DD 47 (A.deeper (envOfC "made_call" (BE Fz) st.heap.objs.size f CL)):=hr;have ha3:=wJ i hi;have q3:=q _ tQ;have el:∀n:Int,decide (V.int ((as.map nV).length:Nat)=V.int n)=decide ((as.length:Int)=n):=λn=>by
  rw[BP];rw[Jj];simp
 match as,ha with
 | [],ha=>
  refine⟨_,AA,l,_,AA,.inl ZM,AA,_,AA,?_⟩;exact Au ⟨g,47,_,rfl,hF,wK,_,rfl,q3⟩
 | [a],ha=>
  refine⟨_,AA,l,_,AA,.inl ZM,AA,_,AA,A' ?_⟩;refine⟨_,AA,l,_,AA,.inl ZM,AA,_,AA,Au ?_⟩;exact⟨g,47,_,AA,hF,wK,_,AA,_,AA,l,_,_,_,AA,AA,ZM,AA,q3⟩
 | [a,b],ha=>
  refine⟨_,AA,l,_,AA,.inl ZM,AA,_,AA,A' ?_⟩;refine⟨_,AA,l,_,AA,.inl ZM,AA,_,AA,A' ?_⟩;refine⟨_,AA,l,_,AA,.inl ZM,AA,_,AA,Au ?_⟩;exact⟨g,47,_,AA,hF,wK,_,AA,_,AA,l,_,_,_,AA,AA,ZM,AA,_,AA,l,_,_,_,AA,AA,ZM,AA,q3⟩
 | [a,b,c],ha=>
  refine⟨_,AA,l,_,AA,.inl ZM,AA,_,AA,A' ?_⟩;refine⟨_,AA,l,_,AA,.inl ZM,AA,_,AA,A' ?_⟩;refine⟨_,AA,l,_,AA,.inl ZM,AA,_,AA,A' ?_⟩;exact⟨g,47,_,AA,hF,wK,_,AA,_,AA,l,_,_,_,AA,AA,ZM,AA,_,AA,l,_,_,_,AA,AA,ZM,AA,_,AA,l,_,_,_,AA,AA,ZM,AA,q3⟩
 |_::_::_::_::_,ha=>
  rw[CD,CD,CD,CD] at ha;omega
end
section
structure GI(n:Nat)(h:Aw):Prop where
 s:C_ h.season
 gn:h.gain.natAbs<=3*n
 e:NN h.even
 t:DP h.watch
theorem GI.up{n m:Nat}{h:Aw}(g:GI n h)(l:n<=m):GI m h:=⟨g.s,by have:=g.gn;omega,g.e,g.t⟩
theorem GI.c{n:Nat}{h:Aw}(g:GI n h)(l:n<=100):GoodC h:=⟨g.s,by have:=g.gn;omega,g.e,g.t⟩
theorem W6{m:Nat}(h:¬A5 m=false):m<=5:=by
 unfold A5 at h;rcases Zv 5 m with z|z
 ·exact absurd (AL ()) h
 ·exact z
theorem and_of{a b:Bool}(h:¬(a && b)=false):a=true/\b=true:=by cases a <;> cases b <;> simp_all
theorem cq{x:Bs}(g:C_ x)(c:Iv)(hc:∀m k b,c≠ .begin_ m k b):∃s,(Ek (some x) c).1=some s/\C_ s:=by
 cases c with
 |begin_ m k b=>exact absurd rfl (hc m k b)
 |day u=>
  show∃s,(if 3<u then((some x:Nr),Aq (-22)) else if Lu<=x.brings.length then(some x,Aq (-28)) else(some {x with brings:=x.brings++ [u]},Aq (x.brings.length:Nat))).1=some s/\C_ s;split
  ·exact⟨x,AA,g⟩
  ·split
   ·exact⟨x,AA,g⟩
   ·rename_i h1 h2;refine⟨_,AA,⟨?_,λv hv=> ?_,g.lo,g.mi,g.f1,g.f3⟩⟩
    ·show(x.brings++ [u]).length<=4;rw[CH];unfold Lu at h2;show _+1<=4;omega
    ·rcases Eb.mp hv with z|z
     ·exact g.ub v z
     ·rw[Gm.mp z];omega
 |drop=>
  show∃s,(if x.brings.isEmpty=true then((some x:Nr),Aq (-6)) else(some {x with brings:=x.brings.dropLast},Aq (x.brings.length - 1:Nat))).1=some s/\C_ s;split
  ·exact⟨x,AA,g⟩
  ·exact⟨_,AA,⟨by show x.brings.dropLast.length<=4;rw[ZW];have:=g.EX;omega,λv hv=>g.ub v ((List.dropLast_sublist x.brings).subset hv),g.lo,g.mi,g.f1,g.f3⟩⟩
 |brings t u=>
  show∃s,(if Cf x t=false then((some x:Nr),Aq (-2)) else if 3<u then(some x,Aq (-22)) else(some (KI x t u),Aq (x.brings.getD t 0:Nat))).1=some s/\C_ s;split
  ·exact⟨x,AA,g⟩
  ·split
   ·exact⟨x,AA,g⟩
   ·refine⟨_,AA,⟨by show(x.brings.set t u).length<=4;rw[Lk];exact g.EX,λv hv=> ?_,g.lo,g.mi,g.f1,g.f3⟩⟩;rcases Yl hv with z|z
    ·exact g.ub v z
    ·omega
 |looks m=>
  show∃s,(if A5 m=false then((some x:Nr),Aq (-22)) else(some {x with looks:=m},Aq (x.looks:Nat))).1=some s/\C_ s;split
  ·exact⟨x,AA,g⟩
  ·rename_i h;exact⟨_,AA,⟨g.EX,g.ub,W6 h,g.mi,g.f1,g.f3⟩⟩
 |misdeeds m=>
  show∃s,(if A5 m=false then((some x:Nr),Aq (-22)) else(some {x with misdeeds:=m},Aq (x.misdeeds:Nat))).1=some s/\C_ s;split
  ·exact⟨x,AA,g⟩
  ·rename_i h;exact⟨_,AA,⟨g.EX,g.ub,g.lo,W6 h,g.f1,g.f3⟩⟩
 |fine b=>
  show∃s,(if FF b=false then((some x:Nr),Aq (-22)) else(some {x with fine:=b},Aq (x.fine:Nat))).1=some s/\C_ s;split
  ·exact⟨x,AA,g⟩
  ·rename_i h;obtain⟨h1,h2⟩:=and_of h;exact⟨_,AA,⟨g.EX,g.ub,g.lo,g.mi,AM h1,AM h2⟩⟩
 |_=>exact⟨x,AA,g⟩
theorem cu{x:Em}(g:NN x)(c:Lx)(hc:∀n m k b,c≠ .begin_ n m k b):∃s,(Iy (some x) c).1=some s/\NN s/\(SD x s->x=s):=by
 cases c with
 |begin_ n m k b=>exact absurd rfl (hc n m k b)
 |day l d=>
  rw[xt];split
  ·exact⟨x,AA,g,λ_=>rfl⟩
  ·rename_i h1;split
   ·exact⟨x,AA,g,λ_=>rfl⟩
   ·split
    ·exact⟨x,AA,g,λ_=>rfl⟩
    ·have d4:=g.d4;have lo:=g.lo;have mi:=g.mi;have lf:∀o,left {x with days:=left x - 1,looks:=x.looks - l,misdeeds:=x.misdeeds - d,gain:=x.gain+(if d=0 then 0 else if l=1 then -(x.fine:Int) else 1),over:=o}<=left x - 1:=λo=>by
      show(if o=true then 0 else left x - 1)<=_;split <;> omega
     refine⟨_,AA,⟨A6 (lf _) (),by show x.looks - l<=4;omega,by show x.misdeeds - d<=4;omega,g.f1,g.f3⟩,λz=> ?_⟩;have h2:=z.1;have h3:=lf (decide (l=1/\d=1));omega
 |_=>exact⟨x,AA,g,λ_=>rfl⟩
theorem sS{n m b:Nat}(hn:n<=4)(hm:m<=4)(hb:0<b)(S6:b<=9){p:Al}(h:p∈Ej n m b):p.set<2^n/\0<p.weight/\p.weight<=7000:=by
 unfold Ej at h;obtain⟨s,hs,rfl⟩:=Fp.mp h;refine⟨Gn.mp (Lj.mp hs).1,Nat.pow_pos hb,?_⟩;show b^(m - A7 n s)<=7000;exact A6 (A6 (Zk S6 _) (DM (()) (show m - A7 n s<=4 by omega))) (())
theorem cv{x:DF}(g:DP x)(c:Lr)(hc:∀n k b,c≠ .begin_ n k b):∃s,(Co (some x) c).1=some s/\DP s:=by
 cases c with
 |begin_ n k b=>exact absurd rfl (hc n k b)
 |plan s w=>
  show∃y,(if 2^x.days<=s\/Ls w=false then((some x:Nk),CI (-22)) else if 10<=x.plans.length then(some x,CI (-28)) else(some {x with plans:=x.plans++ [⟨s,w⟩]},CI (x.plans.length:Nat))).1=some y/\DP y;split
  ·exact⟨x,AA,g⟩
  ·rename_i h1;split
   ·exact⟨x,AA,g⟩
   ·rename_i h2;obtain⟨w1,w2⟩:=and_of (λz=>h1 (.inr z));refine⟨_,AA,⟨g.d1,g.d4,g.mi,g.f1,g.f9,by show(x.plans++ [_]).length<=10;rw[CH];show _+1<=10;omega,λp hp=> ?_⟩⟩;rcases Eb.mp hp with z|z
    ·exact g.pl p z
    ·rw[Gm.mp z];have:=AM w1;have:=AM w2;exact⟨Zo λy=>h1 (.inl y),by show 0<w;omega,by show w<=7000;omega⟩
 |drop i=>
  show∃y,(if Gu x i=false then((some x:Nk),CI (-2)) else(some {x with plans:=x.plans.take i++x.plans.drop (i+1)},CI (x.plans.length - 1:Nat))).1=some y/\DP y;split
  ·exact⟨x,AA,g⟩
  ·refine⟨_,AA,⟨g.d1,g.d4,g.mi,g.f1,g.f9,?_,λp hp=> ?_⟩⟩
   ·show(x.plans.take i++x.plans.drop (i+1)).length<=10;rw[CH,LR,Jh];have:=g.EX;omega
   ·rcases Eb.mp hp with z|z
    ·exact g.pl p (Ur z)
    ·exact g.pl p (MS z)
 |weight i w=>
  show∃y,(if Gu x i=false then((some x:Nk),CI (-2)) else if Ls w=false then(some x,CI (-22)) else(some {x with plans:=x.plans.set i {x.plans.getD i ⟨0,0⟩ with weight:=w}},CI ((x.plans.getD i ⟨0,0⟩).weight:Nat))).1=some y/\DP y;split
  ·exact⟨x,AA,g⟩
  ·rename_i h1;split
   ·exact⟨x,AA,g⟩
   ·rename_i h2;obtain⟨w1,w2⟩:=and_of h2;have hi:i<x.plans.length:=by
     unfold Gu at h1;rcases Zv i x.plans.length with z|z
     ·exact z
     ·exact absurd (AL ()) h1
    refine⟨_,AA,⟨g.d1,g.d4,g.mi,g.f1,g.f9,by show(x.plans.set i _).length<=10;rw[Lk];exact g.EX,λp hp=> ?_⟩⟩;rcases j_ hp with z|z
    ·exact g.pl p z
    ·have:=AM w1;have:=AM w2;rw[z,Ts,Gk hi];exact⟨(g.pl _ (kN hi)).1,by show 0<w;omega,by show w<=7000;omega⟩
 |misdeeds k=>
  show∃y,(if 6<k then((some x:Nk),CI (-22)) else(some {x with misdeeds:=k},CI (x.misdeeds:Nat))).1=some y/\DP y;split
  ·exact⟨x,AA,g⟩
  ·exact⟨_,AA,⟨g.d1,g.d4,by show k<=6;omega,g.f1,g.f9,g.EX,g.pl⟩⟩
 |fine b=>
  show∃y,(if Np b=false then((some x:Nk),CI (-22)) else(some {x with fine:=b},CI (x.fine:Nat))).1=some y/\DP y;split
  ·exact⟨x,AA,g⟩
  ·rename_i h;obtain⟨h1,h2⟩:=and_of h;exact⟨_,AA,⟨g.d1,g.d4,g.mi,AM h1,AM h2,g.EX,g.pl⟩⟩
 |fair m=>
  show∃y,(if x.days<m then((some x:Nk),CI (-22)) else if 10< (Ej x.days m x.fine).length then(some x,CI (-28)) else(some {x with plans:=Ej x.days m x.fine},CI ((Ej x.days m x.fine).length:Nat))).1=some y/\DP y;split
  ·exact⟨x,AA,g⟩
  ·split
   ·exact⟨x,AA,g⟩
   ·exact⟨_,AA,⟨g.d1,g.d4,g.mi,g.f1,g.f9,by show(Ej x.days m x.fine).length<=10;omega,λp hp=>sS g.d4 (by have:=g.d4;omega) g.f1 g.f9 hp⟩⟩
 |told=>exact⟨x,AA,g⟩
 |worth m=>exact⟨x,AA,g⟩
 |bestChance m s=>exact⟨x,AA,g⟩
 |bestLooked m=>exact⟨x,AA,g⟩
 |_=>
  refine⟨x,?_,g⟩;simp only[Co];split <;> rfl
def plain:Fs->Prop
 | .begin_ _ _ _=>False
 | .undo=>False
 | .season (.begin_ _ _ _)=>False
 | .even (.begin_ _ _ _ _)=>False
 | .plans (.begin_ _ _ _)=>False
 |_=>True
def sT:Fs->Bool
 | .begin_ _ _ _=>false
 | .undo=>false
 | .season (.begin_ _ _ _)=>false
 | .even (.begin_ _ _ _ _)=>false
 | .plans (.begin_ _ _ _)=>false
 |_=>true
theorem sU:∀{c:Fs},sT c=true->plain c
 | .begin_ _ _ _,h=>nomatch h
 | .undo,h=>nomatch h
 | .season c,h=>by cases c <;> first|exact trivial|exact nomatch h
 | .even c,h=>by cases c <;> first|exact trivial|exact nomatch h
 | .plans c,h=>by cases c <;> first|exact trivial|exact nomatch h
 | .play _ _,_| .mean,_| .ifPlayed _ _,_| .best,_| .gain,_| .toEven,_| .toPlans,_| .past,_=>trivial
theorem plain_all(a b c:Nat):((Cv 67).all λi=>Qj i 0 || Qj i 8 || sT ((xx a b c).getD i (.plans .told)))=true:=by kernel_rfl
theorem gg(i:Nat)(as:List Nat)(h0:i≠0)(h8:i≠8):plain (Cj i as):=by
 by_cases h:i<67
 ·have q:=Li.mp (plain_all (as.getD 0 0) (as.getD 1 0) (as.getD 2 0)) i (Gn.mpr h);rw[U1,U1] at q;rcases q with(q|q)|q
  ·exact absurd (Ut q) h0
  ·exact absurd (Ut q) h8
  ·exact sU q
 ·unfold Cj;rw[Ts,ZV (by show 67<=i;omega)];exact trivial
theorem AD4(d:Qk){n:Nat}(g:GI n d.now)(c:Fs)(hc:plain c):GI (n+1) (A9 d c)/\(SD d.now.even (A9 d c).even->d.now.even=(A9 d c).even)/\(Be (some d) c).1=some (Cn d (A9 d c)):=by
 obtain⟨h,old⟩:=d;have same:∀{x:Z0},Be (some ⟨h,old⟩) c=(some ⟨h,old⟩,x)->GI (n+1) (A9 ⟨h,old⟩ c)/\(SD h.even (A9 ⟨h,old⟩ c).even->h.even=(A9 ⟨h,old⟩ c).even)/\(Be (some ⟨h,old⟩) c).1=some (Cn ⟨h,old⟩ (A9 ⟨h,old⟩ c)):=λ{x} e=>by
  have e2:A9 ⟨h,old⟩ c=h:=by unfold A9;rw[e]
  rw[e2,e];refine⟨g.up (),λ_=>rfl,?_⟩;unfold Cn;rw[AG rfl]
 have sets:∀{h':Aw} {x:Z0},Be (some ⟨h,old⟩) c=(some (Cn ⟨h,old⟩ h'),x)->GI (n+1) h'->(SD h.even h'.even->h.even=h'.even)->GI (n+1) (A9 ⟨h,old⟩ c)/\(SD h.even (A9 ⟨h,old⟩ c).even->h.even=(A9 ⟨h,old⟩ c).even)/\(Be (some ⟨h,old⟩) c).1=some (Cn ⟨h,old⟩ (A9 ⟨h,old⟩ c)):=λ{h' x} e g' l'=>by
  have e2:A9 ⟨h,old⟩ c=h':=by unfold A9;rw[e];exact Ah _ _
  rw[e2,e];exact⟨g',l',AA⟩
 have gs:C_ h.season:=g.s;have gn:h.gain.natAbs<=3*n:=g.gn;cases c with
 |begin_=>exact absurd hc id
 |undo=>exact absurd hc id
 |mean=>exact same rfl
 |ifPlayed l e=>exact same rfl
 |best=>exact same rfl
 |gain=>exact same rfl
 |past=>exact same rfl
 |play l e=>
  have e1:Be (some ⟨h,old⟩) (.play l e)=if(BB h).isEmpty=true then(some ⟨h,old⟩,Cw (-6)) else if 1<l\/1<e then(some ⟨h,old⟩,Cw (-22)) else if Ip h l e=false then(some ⟨h,old⟩,Cw (-33)) else(some (Cn ⟨h,old⟩ (HP h l e)),⟨0,[(HP h l e).gain]⟩):=rfl
  by_cases h1:(BB h).isEmpty=true
  ·rw[AG h1] at e1;exact same e1
  rw[AB h1] at e1;by_cases h2:1<l\/1<e
  ·rw[AG h2] at e1;exact same e1
  rw[AB h2] at e1;by_cases h3:Ip h l e=false
  ·rw[AG h3] at e1;exact same e1
  rw[AB h3] at e1;refine sets e1 ⟨Yx gs l e,?_,g.e,g.t⟩ λ_=>rfl;have h5:(HP h l e).gain.natAbs<=h.gain.natAbs+3:=sJ gs h.gain l e;omega
 |toEven=>
  have e1:Be (some ⟨h,old⟩) .toEven=if(BB h).length=0\/(BB h).length<h.season.looks\/(BB h).length<h.season.misdeeds then(some ⟨h,old⟩,Cw (-33)) else(some (Cn ⟨h,old⟩ {h with even:=⟨(BB h).length,h.season.looks,h.season.misdeeds,h.season.fine,0,false⟩}),Cw ((BB h).length:Nat)):=rfl
  by_cases h1:(BB h).length=0\/(BB h).length<h.season.looks\/(BB h).length<h.season.misdeeds
  ·rw[AG h1] at e1;exact same e1
  rw[AB h1] at e1;have h4:(BB h).length<=4:=by
   unfold BB;split
   ·exact BR _
   ·exact gs.EX
  refine sets e1 ⟨gs,by show h.gain.natAbs<=_;omega,⟨h4,by show h.season.looks<=4;omega,by show h.season.misdeeds<=4;omega,gs.f1,gs.f3⟩,g.t⟩ λz=> ?_;obtain⟨z1,z2,z3,z4,z5,z6⟩:=z;have fk:h.even.over=false:=z6;have hl:left h.even=h.even.days:=by unfold left;rw[fk,AB DA]
  have hd:h.even.days=(BB h).length:=by rw[←hl];exact z1
  show h.even=_;cases hx:h.even with
  |mk a b c' d e f=>
   rw[hx] at hd z2 z3 z4 z5 fk;simp only at hd z2 z3 z4 z5 fk ⊢;rw[hd,z2,z3,z4,z5,fk]
 |toPlans=>
  have e1:Be (some ⟨h,old⟩) .toPlans=if(BB h).length=0 then(some ⟨h,old⟩,Cw (-33)) else(some (Cn ⟨h,old⟩ {h with watch:=⟨(BB h).length,h.season.misdeeds,h.season.fine,[]⟩}),Cw ((BB h).length:Nat)):=rfl
  by_cases h1:(BB h).length=0
  ·rw[AG h1] at e1;exact same e1
  rw[AB h1] at e1;have h4:(BB h).length<=4:=by
   unfold BB;split
   ·exact BR _
   ·exact gs.EX
  have mi:=gs.mi;have f3:=gs.f3;exact sets e1 ⟨gs,by show h.gain.natAbs<=_;omega,g.e,⟨Zl h1,h4,by show h.season.misdeeds<=6;omega,gs.f1,by show h.season.fine<=9;omega,BR _,(λp hp=>nomatch hp)⟩⟩ λ_=>rfl
 |season c=>
  obtain⟨s,e2,g2⟩:=cq gs c (λm k b z=>by subst z;exact hc);have e1:Be (some ⟨h,old⟩) (.season c)=(some (Cn ⟨h,old⟩ {h with season:=s}),⟨(Ek (some h.season) c).2.num,(Ek (some h.season) c).2.nums⟩):=by
   cases c with
   |begin_ m k b=>exact absurd hc id
   |_=>simp only[Be,Zy,Zz,e2];rfl
  exact sets e1 ⟨g2,by show h.gain.natAbs<=_;omega,g.e,g.t⟩ λ_=>rfl
 |even c=>
  obtain⟨s,e2,g2,l2⟩:=cu g.e c (λn m k b z=>by subst z;exact hc);have e1:Be (some ⟨h,old⟩) (.even c)=(some (Cn ⟨h,old⟩ {h with even:=s}),⟨(Iy (some h.even) c).2.num,(Iy (some h.even) c).2.nums⟩):=by
   cases c with
   |begin_ n m k b=>exact absurd hc id
   |_=>simp only[Be,Zy,Zz,e2];rfl
  exact sets e1 ⟨gs,by show h.gain.natAbs<=_;omega,g2,g.t⟩ l2
 |plans c=>
  obtain⟨s,e2,g2⟩:=cv g.t c (λn k b z=>by subst z;exact hc);have e1:Be (some ⟨h,old⟩) (.plans c)=(some (Cn ⟨h,old⟩ {h with watch:=s}),⟨(Co (some h.watch) c).2.num,(Co (some h.watch) c).2.nums⟩):=by
   cases c with
   |begin_ n k b=>exact absurd hc id
   |_=>simp only[Be,Zy,Zz,e2];rfl
  exact sets e1 ⟨gs,by show h.gain.natAbs<=_;omega,g.e,g2⟩ λ_=>rfl
end
section
variable{cs:Cs}{CO CN CV:Addr}
def Uk(es:List (Addr×Ad)):List Addr:=es.flatMap λx=>x.1::x.2.l
def Tc(p kl:Addr)(c:Ad)(es:List (Addr×Ad)):List Addr:=c.l++(p::kl::Uk es)
abbrev Gh(K:Ab)(cs:Cs)(H:Hp):List (Addr×Ad)->List Aw->Prop:=Paired λx h=>EE K cs H x.1 x.2 h
theorem Ct.fr{H H':Hp}{c:Ad}{h:Aw}(x:Ct K cs H c h)(f:∀a∈c.l,∀u,H a=some u->H' a=some u)(g:∀a xs,Bi K H a xs->Bi K H' a xs):Ct K cs H' c h:=by
 obtain⟨ds,hs⟩:=x.DT.ob;obtain⟨da,ha⟩:=x.OV.ob;obtain⟨dt,ht⟩:=x.tab.ob;obtain⟨vs,hv,Dn⟩:=x.tab.ps;exact⟨⟨⟨ds,f _ (by simp[Ad.l]) _ hs⟩,f _ (by simp[Ad.l]) _ x.DT.ds⟩,⟨da,f _ (by simp[Ad.l]) _ ha⟩,⟨⟨dt,f _ (by simp[Ad.l]) _ ht⟩,⟨vs,f _ (by simp[Ad.l]) _ hv,Paired.Jy Dn λv q ⟨b,e,z⟩=>⟨b,e,g _ _ z⟩⟩⟩⟩
theorem Ct.some{H:Hp}{c:Ad}{h:Aw}(x:Ct K cs H c h):∀a∈c.l,∃u,H a=some u/\(∀xs,u≠ .tup xs)/\∀o xs,u≠ .DW o (.tup xs):=by
 obtain⟨ds,hs⟩:=x.DT.ob;obtain⟨da,ha⟩:=x.OV.ob;obtain⟨dt,ht⟩:=x.tab.ob;obtain⟨vs,hv,_⟩:=x.tab.ps;intro a h;simp only[Ad.l,BQ,HN,or_false] at h;rcases h with rfl|rfl|rfl|rfl|rfl
 ·exact⟨_,hs,(λ_ z=>nomatch z),λ_ _ z=>nomatch z⟩
 ·exact⟨_,x.DT.ds,(λ_ z=>nomatch z),λ_ _ z=>nomatch z⟩
 ·exact⟨_,ha,(λ_ z=>nomatch z),λ_ _ z=>nomatch z⟩
 ·exact⟨_,ht,(λ_ z=>nomatch z),λ_ _ z=>nomatch z⟩
 ·exact⟨_,hv,(λ_ z=>nomatch z),λ_ _ z=>nomatch z⟩
theorem EE.fr{H H':Hp}{e:Addr}{c:Ad}{h:Aw}(x:EE K cs H e c h)(f:∀a∈e::c.l,∀u,H a=Gy u->H' a=Gy u)(g:∀a xs,Bi K H a xs->Bi K H' a xs):EE K cs H' e c h:=
 ⟨f _ Bw _ x.lst,x.ho.fr (λa ha=>f a (Bb _ ha)) g⟩
theorem Gh.fr{H H':Hp}(g:∀a xs,Bi K H a xs->Bi K H' a xs):∀{es:List (Addr×Ad)} {hs:List Aw},Gh K cs H es hs->(∀a∈Uk es,∀u,H a=Gy u->H' a=Gy u)->Gh K cs H' es hs
 |_,_,.nil,_=> .nil
 |_,_,.cons (a:=x) h t,f=> .cons (h.fr (λa ha=>f a (Lg _ ha)) g) (Gh.fr g t λa ha=>f a (EF _ ha))
theorem Gh.some{H:Hp}:∀{es:List (Addr×Ad)} {hs:List Aw},Gh K cs H es hs->∀a∈Uk es,∃u,H a=Gy u
 |_,_,.nil,a,h=>nomatch h
 |_,_,.cons (a:=x) h t,a,ha=>by
  rcases Eb.mp ha with z|z
  ·rcases BQ.mp z with z|z
   ·exact⟨_,by rw[z];exact h.lst⟩
   ·obtain⟨u,e,_⟩:=h.ho.some a z;exact⟨u,e⟩
  ·exact Gh.some t a z
theorem QO{H H':Hp}{L:List Addr}(hL:∀a∈L,∃u,H a=Gy u/\(∀xs,u≠ .tup xs)/\∀o xs,u≠ .DW o (.tup xs))(fr:∀a u,H a=Gy u->a∉L->H' a=Gy u){a:Addr}{xs:List V}(h:Bi K H a xs):Bi K H' a xs:=by
 rcases h with h|h
 ·refine .inl ?_;rcases h with h|⟨o,h⟩
  ·refine .inl (fr _ _ h λz=> ?_);obtain⟨u,e,n1,_⟩:=hL a z;rw[h] at e;exact n1 xs (Bl e).symm
  ·refine .inr ⟨o,fr _ _ h λz=> ?_⟩;obtain⟨u,e,_,n2⟩:=hL a z;rw[h] at e;exact n2 o xs (Bl e).symm
 ·exact .inr h
inductive J3(K:Ab)(cs:Cs)(H:Hp)(p:Addr)(n:Nat):List Addr->Lo->Prop
 |no {dx kl:Addr}:H p=some (.ins cs.W dx (wF .Dg .Dg .Dg (.ref kl)))->J3 K cs H p n [p] none
 |yes {kl:Addr} {c:Ad} {es:List (Addr×Ad)} {d:Qk}:Av K cs H p kl c d.now->H kl=some (.lst (es.map λx=>V.ref x.1))->Gh K cs H es d.old.reverse->(Tc p kl c es).Nodup->GI n d.now->(∀h∈d.old,GI n h)->d.old.length<=12->J3 K cs H p n (Tc p kl c es) (some d)
theorem Gh.same{H H':Hp}{es:List (Addr×Ad)}{hs:List Aw}(x:Gh K cs H es hs)(s:Ag H H'):Gh K cs H' es hs:=x.fr (λa xs z=>Bi.same z s) λa _ u e=>s a u e
theorem J3.same{H H':Hp}{p:Addr}{n:Nat}{own:List Addr}{s:Lo}(x:J3 K cs H p n own s)(e:Ag H H'):J3 K cs H' p n own s:=by
 cases x with
 |no h=>exact .no (e _ _ h)
 |yes h1 h2 h3 h4 h5 h6 h7=>exact .yes (h1.same e) (e _ _ h2) (Gh.same h3 e) h4 h5 h6 h7
theorem J3.up{H:Hp}{p:Addr}{n:Nat}{own:List Addr}{s:Lo}(x:J3 K cs H p n own s):J3 K cs H p (n+1) own s:=by
 cases x with
 |no h=>exact .no h
 |yes h1 h2 h3 h4 h5 h6 h7=>exact .yes h1 h2 h3 h4 (h5.up ()) (λh hh=>(h6 h hh).up ()) h7
theorem J3.upd{H:Hp}{p an:Addr}{n:Nat}{own:List Addr}{s:Lo}{u u':HO}(x:J3 K cs H p n own s)(ha:H an=Gy u)(n1:∀xs,u≠ .tup xs)(n2:∀o xs,u≠ .DW o (.tup xs))(nn:an∉own):J3 K cs (upd H an u') p n own s:=by
 have f:∀a∈own,∀v,H a=Gy v->(L2.upd H an u') a=Gy v:=λa h v e=>by rw[AS (λz=>nn (by rw[←z];exact h))];exact e
 have g:∀a xs,Bi K H a xs->Bi K (L2.upd H an u') a xs:=λa xs z=>QO (L:= [an]) (λb hb=>⟨u,by rw[Gm.mp hb];exact ha,n1,n2⟩) (λb v e hb=>by rw[AS (λz=>hb (by rw[z];exact Bw))];exact e) z;cases x with
 |no h=>exact .no (f _ Bw _ h)
 | @yes kl c es d h1 h2 h3 h4 h5 h6 h7=>
  obtain⟨dx,hp⟩:=h1.ob;have fo:∀a∈c.l,∀v,H a=Gy v->(L2.upd H an u') a=Gy v:=λa ha=>f a (Lg _ ha);have fe:∀a∈Uk es,∀v,H a=Gy v->(L2.upd H an u') a=Gy v:=λa ha=>f a (EF _ (Bb _ (Bb _ ha)));exact .yes ⟨⟨dx,f _ (EF _ Bw) _ hp⟩,h1.ho.fr fo g,h1.nd⟩ (f _ (EF _ (Bb _ Bw)) _ h2) (Gh.fr g h3 fe) h4 h5 h6 h7
inductive sV(K:Ab)(cs:Cs):Sp
 |mk (p l:Addr) (i:Nat) (as:List Nat) (n:Nat) (s:Lo) (own:List Addr):vs= [.ref p,nV i,.ref l]->A_ K H l (as.map nV)->i<67->as.length=args.getD i 0->J3 K cs H p n own s->n<=90->(∀l' H' cx,(∀a u,H a=some u->a∉own->H' a=some u)->(∀a∈cx,a∈own\/H a=none)->J3 K cs H' p (n+1) cx (Be s (Cj i as)).1->H' l'=some (.lst ((lsH (Be s (Cj i as)).2).map V.int))->Q (.ref l') H')->sV K cs vs H Q DJ
theorem jT{c:Fs}(h:∀m k b,c≠ .begin_ m k b):Be none c=(none,Cw (-11)):=by
 cases c with
 |begin_ m k b=>exact absurd rfl (h m k b)
 |_=>rfl
theorem ABo(i:Nat)(as:List Nat)(h0:i≠0)(m k b:Nat):Cj i as≠ .begin_ m k b:=λz=>by
 by_cases h:i=8
 ·subst h;cases z
 ·have:=gg i as h0 h;rw[z] at this;exact this
theorem Yz{n m k b:Nat}(h:¬(A5 m=false\/A5 k=false\/FF b=false)):GI n (Wd m k b):=by
 have h1:=W6 (λz=>h (.inl z));have h2:=W6 (λz=>h (.inr (.inl z)));obtain⟨h3,h4⟩:=and_of (λz=>h (.inr (.inr z)));have h3:=AM h3;have h4:=AM h4;exact⟨⟨BR _,(λu hu=>nomatch hu),h1,h2,h3,h4⟩,BR _,⟨by show 1<=4;decide,by show 0<=4;decide,by show 0<=4;decide,h3,h4⟩,⟨by show 0<1;decide,by show 1<=4;decide,by show k<=6;omega,h3,by show b<=9;omega,BR _,(λp hp=>nomatch hp)⟩⟩
end
section
variable{cs:Cs}{CO CN CV:Addr}
theorem kI{H:Hp}{a C dx:Addr}{fs:List (Str×V)}(e:H a=some (.ins C dx fs)):∃u,H a=some u/\(∀xs,u≠ .tup xs)/\∀o xs,u≠ .DW o (.tup xs):=⟨_,e,(λ_ z=>nomatch z),λ_ _ z=>nomatch z⟩
theorem kL{H:Hp}{a:Addr}{ys:List V}(e:H a=some (.lst ys)):∃u,H a=some u/\(∀xs,u≠ .tup xs)/\∀o xs,u≠ .DW o (.tup xs):=⟨_,e,(λ_ z=>nomatch z),λ_ _ z=>nomatch z⟩
theorem NQ(es:List (Addr×Ad))(x:Addr×Ad):Uk (es++ [x])=Uk es++(x.1::x.2.l):=by
 unfold Uk;rw[kH];simp
theorem NR{α β:Type}{F:α->β->Prop}{b:β}:∀{l:List α} {m:List β},Paired F l (m++ [b])->∃l' a,l=l'++ [a]/\Paired F l' m/\F a b
 |_,[],.cons h .nil=>⟨[],_,rfl,.nil,h⟩
 |_,_::m,.cons h t=>by
  obtain⟨l',a,e,h1,h2⟩:=NR (m:=m) t;exact⟨_::l',a,by rw[e];rfl,.cons h h1,h2⟩
theorem Y0{α β:Type}{F:α->β->Prop}:∀{l:List α} {m:List β},Paired F l m->Paired F (l.drop 1) (m.drop 1)
 |_,_,.nil=> .nil
 |_,_,.cons _ t=>t
theorem sW{h h':Aw}{old:List Aw}(hl:old.length<=12)(Fv:h'≠h):(Cn ⟨h,old⟩ h').now=h'/\(Cn ⟨h,old⟩ h').old.reverse=(if old.length=12 then old.reverse.drop 1 else old.reverse)++ [h]/\(Cn ⟨h,old⟩ h').old.length<=12/\∀x∈(Cn ⟨h,old⟩ h').old,x=h\/x∈old:=by
 have e:Cn ⟨h,old⟩ h'=⟨h',(h::old).take 12⟩:=by
  unfold Cn;rw[AB Fv];rfl
 rw[e];refine⟨AA,?_,?_,λx hx=>BQ.mp (Ur hx)⟩
 ·by_cases XO:old.length=12
  ·rw[AG XO,QX,ZZ];congr 1;rw[List.reverse_take,XO]
  ·rw[AB XO,kD (by rw[CD];omega),ZZ]
 ·show((h::old).take 12).length<=12;rw[LR];omega
section
variable(B:SS P w K mg base cs CO CN CV)
include B
theorem sX(b0:B' mg "BEGIN" 0)(b8:B' mg "UNDO" 8)(MC:#[] 48 "made_call" Lb (ABm K cs))(PP:An P w K mg base cs.W 4 "parts" BX (QL K cs))(KC:An P w K mg base cs.W 5 "keep_if_changed" UT (bx K cs))
  (D:Def K mg "answer" M7 Lb):#[] 49 "answer" Lb (sV K cs):=by
 exists YT
 ·obtain⟨p,l,i,as,n,s,own,rfl,_⟩:=h;rfl
 obtain⟨p,l,i,as,n,s,own,rfl,hl,hi,ha,hS,hn,q⟩:=h;have nd:=YT.nd;have TW:=B.T.B.Z.tW;refine⟨_,AF (Aj (Af B_ (pv 1) (BD b0) (Ai _)) (AK (AO (AV MC hr #[pv 0,pv 1,pv 2]))) Aa)
  (AF (Aj (Af zV (pf (pv 0)) Vc (Ai _)) (AK (AO (DL B.T.B.n11))) Aa)
  (AF (Aj (Af B_ (pv 1) (BD b8) (Ai _)) (AK (AO (AV MC hr #[pv 0,pv 1,pv 2]))) Aa)
  (AF (3>>EI PP TW.cl hr (pv 0))
  (AF (4>>AV MC hr #[pv 0,pv 1,pv 2])
  (AF (Bu (BG KC TW.cl hr (pv 0) #[pv 3])) (AK (AO (pv 4)))))))),?_⟩
 refine⟨_,AA,AA,_,AA,BF (λcc=> ?_) λcc=> ?_⟩
 ·
  rw[Bg] at cc;have i0:=AM cc;subst i0;obtain⟨m,k,b,rfl⟩:∃a b c,as= [a,b,c]:=match as,ha with| [a,b,c],_=>⟨a,b,c,rfl⟩
  refine⟨_,AA,_,AA,_,AA,p,l,0,[m,k,b],AA,hl,hi,ha,λH1 s1=> ?_⟩;have e1:Be s (Cj 0 [m,k,b])=if A5 m=false\/A5 k=false\/FF b=false then(s,Cw (-22)) else(some ⟨Wd m k b,[]⟩,Cw 0):=rfl
  obtain⟨dx,x,y,z,u,hp⟩:∃dx x y z u,H p=some (.ins cs.W dx (wF x y z u)):=by
   cases hS with
   |no h=>exact⟨_,_,_,_,_,h⟩
   |yes h1=>obtain⟨dx,h⟩:=h1.ob;exact⟨_,_,_,_,_,h⟩
  have pin:p∈own:=by
   cases hS with
   |no h=>exact Bw
   |yes h1=>exact EF _ Bw
  show gf K cs [.ref p,nV m,nV k,nV b] H1 Q E0;refine⟨p,dx,x,y,z,u,m,k,b,AA,s1 _ _ hp,λhc l' H2 s2 h2=> ?_,λhc l' H2 kl c fr fs C2 hk h2=> ?_⟩
  ·rw[AG hc] at e1;rw[e1] at q;have D5:=s1.trans s2;exact q l' H2 own (λa u h _=>D5 a u h) (λa h=> .inl h) (hS.same D5).up h2
  ·rw[AB hc] at e1;rw[e1] at q;refine q l' H2 (Tc p kl c []) (λa u h hn=>fr a u (s1 _ _ h) λz=>hn (by rw[z];exact pin)) (λa h=> ?_) (.yes C2 hk .nil ?_ (Yz hc) (λh hh=>nomatch hh) (BR _)) h2
   ·rcases Eb.mp h with z|z
    ·exact .inr (s1.free (fs.none a (Bb _ z)))
    ·rcases BQ.mp z with z|z
     ·exact .inl (by rw[z];exact pin)
     ·rcases BQ.mp z with z|z
      ·exact .inr (s1.free (fs.none a (by rw[z];exact Bw)))
      ·exact nomatch z
   ·have f2:=Bx.mp fs.nd;have np:∀a∈kl::c.l,a≠p:=λa h z=>by have:=fs.none a h;rw[z,s1 _ _ hp] at this;cases this
    refine MT.mpr ⟨f2.2,Bx.mpr ⟨λz=> ?_,Bx.mpr ⟨(λz=>nomatch z),GD⟩⟩,λa h b hb z=> ?_⟩
    ·rcases BQ.mp z with z|z
     ·exact np kl Bw z.symm
     ·exact nomatch z
    ·subst z;rcases BQ.mp hb with z|z
     ·exact np a (Bb _ h) z
     ·rcases BQ.mp z with z|z
      ·exact f2.1 (by rw[←z];exact h)
      ·exact nomatch z
 rw[Bg] at cc;have i0:i≠0:=λz=>cc (AH z);cases hS with
 | @no dx kl hp=>
  rw[jT (ABo i as i0)] at q;refine⟨_,AA,_,⟨p,cs.W,dx,_,AA,hp,TW.cl,TW.nS,AA⟩,AA,_,AA,Au λl' H2 s2 h2=> ?_⟩;exact q l' H2 [p] (λa u h _=>s2 a u h) (λa h=> .inl h) (.no (s2 _ _ hp)) h2
 | @yes kl c es d hC hk hE hN hG hO XO=>
 obtain⟨dx,hp⟩:=hC.ob;refine⟨_,AA,_,hC.fS TW,AA,_,AA,A' ?_⟩;refine⟨_,AA,AA,_,AA,BF (λc8=> ?_) λc8=> ?_⟩
 ·
  have i8:i=8:=by have:=AM c8;injection this;omega
  subst i8;obtain rfl:=DK.mp ha;refine⟨_,AA,_,AA,_,AA,p,l,8,[],AA,hl,hi,ha,λH1 s1=> ?_⟩;show W4 K cs [.ref p] H1 Q E0;obtain⟨h,old⟩:=d;have hC1:=hC.same s1;have bh:=s1 _ _ hk;refine⟨p,kl,c,h,_,AA,hC1,bh,?_⟩;cases old with
  |nil=>
   have ee:es= []:=by cases hE;rfl
   subst ee;refine .inl ⟨rfl,λl' H2 s2 h2=> ?_⟩;have D5:=s1.trans s2;exact q l' H2 _ (λa u h _=>D5 a u h) (λa h=> .inl h) (J3.yes (d:=⟨h,[]⟩) (hC.same D5) (D5 _ _ hk) .nil hN (hG.up ()) (λh hh=>nomatch hh) (BR _)) h2
  |cons o old=>
   rw[ZZ] at hE;obtain⟨Tw,⟨e0,c0⟩,rfl,hE',hP⟩:=NR hE;obtain⟨n1,n2,n3⟩:=MT.mp hN;rw[NQ] at n2 n3;have n4:((p::kl::Uk Tw)++(e0::c0.l)).Nodup:=n2;obtain⟨m1,m2,m3⟩:=MT.mp n4;have m4:=Bx.mp m2;have hP1:EE K cs H1 e0 c0 o:=hP.fr (λa _ u e=>s1 a u e) λa xs z=>Bi.same z s1;refine .inr ⟨e0,c0,o,Tw.map λx=>V.ref x.1,by rw[GB];rfl,λz=>m3 kl (by simp) e0 Bw z.symm,λz=>m3 p (by simp) p (Bb _ z) rfl,λz=>m3 kl (by simp) kl (Bb _ z) rfl,m4.2,hP1,λl' H2 fr hk2 C2 h2=> ?_⟩;have hlen:Tw.length=old.length:=by rw[Paired.length hE',kG]
   have pk:∀a∈ [p,kl],∃u,H1 a=some u/\(∀xs,u≠ .tup xs)/\∀o xs,u≠ .DW o (.tup xs):=λa h=>by
    rcases BQ.mp h with z|z
    ·exact(by rw[z];exact kI (s1 _ _ hp))
    ·exact(by rw[Gm.mp z];exact kL bh)
   have E2:Gh K cs H2 Tw old.reverse:=Gh.fr (H:=H1) (λa xs z=>QO pk (λb u e hb=>fr b u e (λz=>hb (by rw[z];simp)) (λz=>hb (by rw[z];simp))) z) (Gh.same hE' s1) λa h u e=>fr a u e (λz=>by
     have:=(Bx.mp m1).1;exact this (by rw[←z];exact Bb _ h)) (λz=>by
     have:=(Bx.mp (Bx.mp m1).2).1;exact this (by rw[←z];exact h))
   refine q l' H2 (Tc p kl c0 Tw) (λa u e hn=>fr a u (s1 _ _ e) (λz=>hn (by rw[z];exact EF _ Bw)) (λz=>hn (by rw[z];exact EF _ (Bb _ Bw)))) (λa h=> .inl ?_) (J3.yes (d:=⟨o,old⟩) C2 hk2 E2 ?_ ((hO o Bw).up ()) (λx hx=>(hO x (Bb _ hx)).up ()) ?_) ?_
   ·unfold Tc at h ⊢;rw[NQ];simp only[Eb,BQ] at h ⊢;rcases h with h|h|h|h
    ·exact .inr (.inr (.inr (.inr (.inr h))))
    ·exact .inr (.inl h)
    ·exact .inr (.inr (.inl h))
    ·exact .inr (.inr (.inr (.inl h)))
   ·exact MT.mpr ⟨m4.2,m1,λa h b hb z=>m3 b hb a (Bb _ h) z.symm⟩
   ·show old.length<=12;have:(o::old).length<=12:=XO;rw[CD] at this;omega
   ·rw[h2,BP,hlen];rfl
 have i8:i≠8:=λz=>c8 (by rw[z];exact AH rfl);obtain⟨h,old⟩:=d;have hG':GI n h:=hG;obtain⟨g1,g2,g3⟩:=AD4 ⟨h,old⟩ hG (Cj i as) (gg i as i0 i8);have eA:lsH (Be (some ⟨h,old⟩) (Cj i as)).2=MM ⟨h,old⟩ (Cj i as):=rfl;rw[eA,g3] at q;obtain⟨n1,n2,n3⟩:=MT.mp hN;have npc:p∉c.l:=λz=>n3 p z p (by simp) rfl;have nkc:kl∉c.l:=λz=>n3 kl z kl (by simp) rfl;refine⟨_,AA,p,dx,_,AA,hp,AA,p,dx,kl,c,h,AA,hp,hC.ho,λe0 c1 H1 s1 fs hP=> ?_⟩;have hC1:=hC.same s1;have bh:=s1 _ _ hk;have hlen:(es.map λx=>V.ref x.1).length=old.length:=by rw[BP,Paired.length hE,kG]
 refine⟨_,AA,_,AA,_,AA,p,l,i,as,AA,s1.seq hl,hi,ha,λH2 s2=> ?_⟩;have eI:Dc K cs i=Ks K cs (args.getD i 0) (Cj i):=by unfold Dc;rw[AB i0,AB i8]
 rw[eI];have hC2:=hC1.same s2;have D5:=s1.trans s2;refine⟨p,kl,c,h,old,_,as,AA,ha,hC2,npc,D5 _ _ hk,hlen,hG'.c (),λl' H3 c' mv C3 h3=> ?_⟩;have pcl:∀a∈p::c.l,∃u,H2 a=some u/\(∀xs,u≠ .tup xs)/\∀o xs,u≠ .DW o (.tup xs):=λa ha=>by
  rcases BQ.mp ha with z|z
  ·exact(by rw[z];exact kI (D5 _ _ hp))
  ·exact hC2.ho.some a z
 have wm:∀a u,H2 a=some u->a∉p::c.l->H3 a=some u:=λa u e hn=>mv.fr a u e (λz=>hn (by rw[z];exact Bw)) λz=>hn (Bb _ z);have tq3:∀a xs,Bi K H2 a xs->Bi K H3 a xs:=λa xs z=>QO pcl wm z;have new:∀a∈e0::c1.l,a∉p::c.l:=λa ha z=>by
  have h0:=fs.none a ha;rcases BQ.mp z with z|z
  ·rw[z,hp] at h0;cases h0
  ·obtain⟨u,e,_⟩:=hC.ho.some a z;rw[e] at h0;cases h0
 have hP3:EE K cs H3 e0 c1 h:=(hP.fr (λa _ u e=>s2 a u e) λa xs z=>Bi.same z s2).fr (λa ha u e=>wm a u e (new a ha)) tq3;have hkp:kl∉p::c.l:=λz=>by
  rcases BQ.mp z with z|z
  ·exact(Ao hp hk (by intro y;cases y)) z.symm
  ·exact nkc z
 have f7:H3 kl=some (.lst (es.map λx=>V.ref x.1)):=wm _ _ (D5 _ _ hk) hkp;have nes:∀a∈Uk es,a∉p::c.l:=λa ha z=>by
  rcases BQ.mp z with z|z
  ·have:=(Bx.mp n2).1;exact this (by rw[←z];exact Bb _ ha)
  ·exact n3 a z a (Bb _ (Bb _ ha)) rfl
 have E3:Gh K cs H3 es old.reverse:=Gh.fr tq3 (Gh.same hE D5) λa ha u e=>wm a u e (nes a ha);obtain⟨iu,ZJ⟩:=C3.ob;refine⟨_,AA,p,iu,_,AA,ZJ,AA,_,AA,p,iu,kl,e0,c',c1,_,h,_,AA,ZJ,C3.ho,hP3,f7,by rw[hlen];exact XO,λH4 sb hk4=> ?_⟩;have vJ:l'≠kl:=λz=>by
  rw[z,f7] at h3;have:=Bl h3;injection this with this
  unfold MM at this;cases es with
  |nil=>cases this
  |cons x es=>rw[B7,B7] at this;injection this with this _;cases this
 have h4:=sb _ _ h3 vJ;have tq4:∀a xs,Bi K H3 a xs->Bi K H4 a xs:=λa xs z=>QO (L:= [kl]) (λb hb=>by rw[Gm.mp hb];exact kL f7) (λb u e hb=>sb b u e λz=>hb (by rw[z];exact Bw)) z;have Ul:∀a∈c'.l,a∈c.l\/H2 a=none:=mv.nw;have ABp:∀a∈c'.l,a≠kl:=λa ha z=>by
  rcases Ul a ha with y|y
  ·exact nkc (by rw[←z];exact y)
  ·rw[z,D5 _ _ hk] at y;cases y
 have c'p:∀a∈c'.l,a≠p:=λa ha z=>by
  rcases Ul a ha with y|y
  ·exact npc (by rw[←z];exact y)
  ·rw[z,D5 _ _ hp] at y;cases y
 have AD5:∀a∈c'.l,a∉Uk es:=λa ha z=>by
  rcases Ul a ha with y|y
  ·exact nes a z (Bb _ y)
  ·obtain⟨u,e⟩:=Gh.some hE a z;rw[D5 _ _ e] at y;cases y
 have AFe:∀a∈c'.l,a∉e0::c1.l:=λa ha z=>by
  rcases Ul a ha with y|y
  ·exact new a z (Bb _ y)
  ·have:∃u,H1 a=some u:=by
    rcases BQ.mp z with z|z
    ·exact⟨_,by rw[z];exact hP.lst⟩
    ·obtain⟨u,e,_⟩:=hP.ho.some a z;exact⟨u,e⟩
   obtain⟨u,e⟩:=this;rw[s2 _ _ e] at y;cases y
 have pkl:p≠kl:=Ao hp hk (by intro y;cases y);have C4:Av K cs H4 p kl c' (A9 ⟨h,old⟩ (Cj i as)):=⟨⟨iu,sb _ _ ZJ pkl⟩,C3.ho.fr (λa ha u e=>sb a u e (ABp a ha)) tq4,C3.nd⟩;have klE:kl∉Uk es:=(Bx.mp (Bx.mp n2).2).1;have E4:Gh K cs H4 es old.reverse:=Gh.fr tq4 E3 λa ha u e=>sb a u e λz=>klE (by rw[←z];exact ha);have fr4:∀a u,H a=some u->a∉Tc p kl c es->H4 a=some u:=λa u e hn=>sb a u (wm a u (D5 _ _ e) λz=>hn (by
   rcases BQ.mp z with z|z
   ·rw[z];exact EF _ Bw
   ·exact Lg _ z)) λz=>hn (by rw[z];exact EF _ (Bb _ Bw))
 refine⟨_,AA,?_⟩;have hO':∀x∈old,GI (n+1) x:=λx hx=>(hO x hx).up ();by_cases heq:A9 ⟨h,old⟩ (Cj i as)=h
 ·
  have ev:FO (Dv h) (Dv (A9 ⟨h,old⟩ (Cj i as)))=true:=(Ug _ _).mpr (by rw[heq];exact⟨AA,AA,AA,⟨AA,AA,AA,AA,AA,AA⟩,AA⟩);rw[ev] at hk4;have AFf:H4 kl=some (.lst (es.map λx=>V.ref x.1)):=hk4;have es1:Cn ⟨h,old⟩ (A9 ⟨h,old⟩ (Cj i as))=⟨h,old⟩:=by unfold Cn;rw[AG heq]
  rw[es1] at q;rw[heq] at C4;refine q l' H4 (Tc p kl c' es) fr4 (λa ha=> ?_) (J3.yes (d:=⟨h,old⟩) C4 AFf E4 ?_ (hG'.up ()) hO' XO) h4
  ·rcases Eb.mp ha with z|z
   ·rcases Ul a z with y|y
    ·exact .inl (Lg _ y)
    ·exact .inr (D5.free y)
   ·exact .inl (EF _ z)
  ·refine MT.mpr ⟨C3.nd,n2,λa ha b hb z=> ?_⟩;subst z;rcases BQ.mp hb with z|z
   ·exact c'p a ha z
   ·rcases BQ.mp z with z|z
    ·exact ABp a ha z
    ·exact AD5 a ha z
 ·
  have ev:FO (Dv h) (Dv (A9 ⟨h,old⟩ (Cj i as)))=false:=by
   cases hv:FO (Dv h) (Dv (A9 ⟨h,old⟩ (Cj i as))) with
   |false=>rfl
   |true=>
    obtain⟨a1,a2,a3,a4,a5⟩:=(Ug _ _).mp hv;have a6:=g2 a4;refine absurd ?_ heq;generalize A9 ⟨h,old⟩ (Cj i as)=h' at a1 a2 a3 a5 a6;obtain⟨b1,b2,b3,b4,b5⟩:=h;obtain⟨d1,d2,d3,d4,d5⟩:=h';dsimp only at a1 a2 a3 a5 a6;rw[a1,a2,a3,a5,a6]
  rw[ev] at hk4;obtain⟨k1,k2,k3,k4⟩:=sW (h':=A9 ⟨h,old⟩ (Cj i as)) XO heq;have AF3:es.length=old.length:=by rw[←hlen,BP]
  have hP4:EE K cs H4 e0 c1 h:=hP3.fr (λa ha u e=>sb a u e λz=>by
   have h0:=fs.none a ha;rw[z,hk] at h0;cases h0) tq4
  have hk5:H4 kl=some (.lst (((if old.length=12 then es.drop 1 else es)++ [(e0,c1)]).map λx=>V.ref x.1)):=by
   rw[hk4];unfold Wb;rw[AB DA,hlen];by_cases hh:old.length=12
   ·rw[AG hh,AG hh,GB,Zg];rfl
   ·rw[AB hh,AB hh,GB];rfl
  have E5:Gh K cs H4 ((if old.length=12 then es.drop 1 else es)++ [(e0,c1)]) (Cn ⟨h,old⟩ (A9 ⟨h,old⟩ (Cj i as))).old.reverse:=by
   rw[k2];by_cases hh:old.length=12
   ·rw[AG hh,AG hh];exact Eh (F:=λ(x:Addr×Ad) h=>EE K cs H4 x.1 x.2 h) hP4 (Y0 E4)
   ·rw[AB hh,AB hh];exact Eh (F:=λ(x:Addr×Ad) h=>EE K cs H4 x.1 x.2 h) hP4 E4
  have sub:∀a∈Uk (if old.length=12 then es.drop 1 else es),a∈Uk es:=λa ha=>by
   split at ha
   ·unfold Uk at ha ⊢;obtain⟨x,hx,hy⟩:=Us.mp ha;exact Us.mpr ⟨x,MS hx,hy⟩
   ·exact ha
  have AFg:(Uk (if old.length=12 then es.drop 1 else es)).Sublist (Uk es):=by
   split
   ·cases es with
    |nil=>exact IK _
    |cons x es=>exact List.sublist_append_right _ _
   ·exact IK _
  rw[←k1] at C4;have g1':GI (n+1) (Cn ⟨h,old⟩ (A9 ⟨h,old⟩ (Cj i as))).now:=by rw[k1];exact g1
  refine q l' H4 (Tc p kl c' ((if old.length=12 then es.drop 1 else es)++ [(e0,c1)])) fr4 (λa ha=> ?_) (.yes C4 hk5 E5 ?_ g1' (λx hx=> ?_) k3) h4
  ·unfold Tc at ha;rw[NQ] at ha;rcases Eb.mp ha with z|z
   ·rcases Ul a z with y|y
    ·exact .inl (Lg _ y)
    ·exact .inr (D5.free y)
   ·rcases BQ.mp z with z|z
    ·exact .inl (by rw[z];exact EF _ Bw)
    ·rcases BQ.mp z with z|z
     ·exact .inl (by rw[z];exact EF _ (Bb _ Bw))
     ·rcases Eb.mp z with z|z
      ·exact .inl (EF _ (Bb _ (Bb _ (sub a z))))
      ·exact .inr (fs.none a z)
  ·unfold Tc;rw[NQ];have hX:(p::kl::Uk (if old.length=12 then es.drop 1 else es)).Nodup:=aV (lu _ (lu _ AFg)) n2;have hXs:∀a∈p::kl::Uk (if old.length=12 then es.drop 1 else es),∃u,H a=some u:=λa ha=>by
    rcases BQ.mp ha with z|z
    ·exact⟨_,by rw[z];exact hp⟩
    ·rcases BQ.mp z with z|z
     ·exact⟨_,by rw[z];exact hk⟩
     ·exact Gh.some hE a (sub a z)
   have hY:((p::kl::Uk (if old.length=12 then es.drop 1 else es))++(e0::c1.l)).Nodup:=MT.mpr ⟨hX,fs.nd,λa ha b hb z=>by
    subst z;obtain⟨u,e⟩:=hXs a ha;have h0:=fs.none a hb;rw[e] at h0;cases h0⟩
   refine MT.mpr ⟨C3.nd,hY,λa ha b hb z=> ?_⟩;subst z;have hb:a∈(p::kl::Uk (if old.length=12 then es.drop 1 else es))++(e0::c1.l):=hb;rcases Eb.mp hb with z|z
   ·rcases BQ.mp z with z|z
    ·exact c'p a ha z
    ·rcases BQ.mp z with z|z
     ·exact ABp a ha z
     ·exact AD5 a ha (sub a z)
   ·exact AFe a ha z
  ·rcases k4 x hx with z|z
   ·rw[z];exact hG'.up ()
   ·exact hO' x z
end
end
section
theorem sY:∀i:Nat,i<67->I0 (i:Int)=some (args.getD i 0,0):=by decide+kernel
theorem jU{p:Int}(h:p<0\/67<=p):I0 p=none:=by
 unfold I0
 iterate 67 rw[AB ()]
theorem len0{as:List Nat}(e:as.length=0):as= []:=DK.mp e
theorem AF4{as:List Nat}(e:as.length=1):∃a,as= [a]:=match as,e with| [a],_=>⟨a,rfl⟩
theorem AF5{as:List Nat}(e:as.length=2):∃a b,as= [a,b]:=match as,e with| [a,b],_=>⟨a,b,rfl⟩
theorem AF6{as:List Nat}(e:as.length=3):∃a b c,as= [a,b,c]:=match as,e with| [a,b,c],_=>⟨a,b,c,rfl⟩
abbrev raw(i:Nat)(as:List Nat):List (List Int):= [((i:Nat):Int)::as.map λn=>((n:Nat):Int)]
theorem pt0{α β:Type}{f g:α->β}:∀{l:List α},l.map f=l.map g->∀x∈l,f x=g x
 |_::_,e,_,.head _=>(mx e).1
 |_::_,e,_,.tail _ m=>pt0 (mx e).2 _ m
def ix(k:Nat):List Nat:=(Cv 67).filter λi=>Qj (args.getD i 0) k
def oI(as:List Nat)(i:Nat):=(mV (raw i as),Qt (raw i as))
def eI(as:List Nat)(i:Nat):=(some (Cj i as),raw i as)
theorem c_0:(ix 0).map (oI [])=(ix 0).map (eI []):=by kernel_rfl
theorem c_1(a:Nat):(ix 1).map (oI [a])=(ix 1).map (eI [a]):=by kernel_rfl
theorem c_2(a b:Nat):(ix 2).map (oI [a,b])=(ix 2).map (eI [a,b]):=by kernel_rfl
theorem c_3(a b c:Nat):(ix 3).map (oI [a,b,c])=(ix 3).map (eI [a,b,c]):=by kernel_rfl
theorem gh{i k:Nat}(h:i<67)(e:k=args.getD i 0):i∈ix k:=Lj.mpr ⟨Gn.mpr h,by rw[e];exact Nat.beq_refl _⟩
theorem AD6:∀i<67,args.getD i 0<=3:=by decide+kernel
theorem sZ(i:Nat)(as:List Nat)(h:i<67)(e:as.length=args.getD i 0):mV (raw i as)=some (Cj i as)/\Qt (raw i as)=raw i as:=by
 have q:oI as i=eI as i:=match as,e with
  | [],e=>pt0 c_0 _ (gh h e)
  | [a],e=>pt0 (c_1 a) _ (gh h e)
  | [a,b],e=>pt0 (c_2 a b) _ (gh h e)
  | [a,b,c],e=>pt0 (c_3 a b c) _ (gh h e)
  |_::_::_::_::_,e=>absurd (AD6 i h) (by rw[←e];simp)
 exact⟨congrArg KR q,congrArg JA q⟩
theorem AD7{i:Nat}{as:List Nat}(s:Lo)(h:i<67)(e:as.length=args.getD i 0):VQ s (Qt (raw i as))=((Be s (Cj i as)).1,lsH (Be s (Cj i as)).2):=by
 obtain⟨h1,h2⟩:=sZ i as h e;unfold VQ;rw[h2,h1]
inductive NxC(p:Int)(r:List Int):List (List (List Int))->Prop
 |mk (i:Nat) (as:List Nat) (f':Nat) (cs':List (List (List Int))):p=(i:Int)->i<67->as.length=args.getD i 0->(r.take (args.getD i 0)=as.map (λn=>((n:Nat):Int)))->args.getD i 0<=r.length->cs=raw i as::cs'->KP I0 f' (r.drop (args.getD i 0))=some cs'->NxC p r cs
theorem jV{f:Nat}{p:Int}{r:List Int}{cs:List (List (List Int))}(h:KP I0 f (p::r)=some cs)(hr:∀x∈r,0<=x):
  NxC p r cs:=by
 cases f with
 |zero=>cases h
 |succ f=>
  by_cases hp:p<0\/67<=p
  ·simp only[KP,mN,jU hp] at h;cases h
  ·obtain⟨i,rfl⟩:∃i:Nat,p=(i:Int):=⟨p.toNat,()⟩;have hi:i<67:=by omega
   have hs:=sY i hi;simp only[KP,mN,hs,PyFlat.rows] at h;by_cases hl:r.length<args.getD i 0
   ·rw[AG hl] at h;cases h
   ·rw[AB hl] at h;simp only at h;cases hc:KP I0 f (r.drop (args.getD i 0)) with
    |none=>rw[hc] at h;cases h
    |some cs'=>
     rw[hc] at h;have hcs:=(Bl h).symm;have e1:r.take (args.getD i 0)=((r.take (args.getD i 0)).map U').map (λn=>((n:Nat):Int)):=by
      rw[Lm];have:∀x∈r.take (args.getD i 0),((λn=>((n:Nat):Int))∘U') x=x:=λx hx=>Int.toNat_of_nonneg (hr x (Ur hx));rw[QY this,List.map_id']
     refine⟨i,(r.take (args.getD i 0)).map U',f,cs',AA,hi,?_,e1,(),?_,hc⟩
     ·rw[BP,LR];omega
     ·rw[hcs];show [_::r.take (args.getD i 0)]::cs'= [_::((r.take (args.getD i 0)).map U').map (λn=>((n:Nat):Int))]::cs';rw[←e1]
end
section
variable{cs:Cs}{CO CN CV:Addr}
structure ABq(K:Ab)(mg:Str->Option Value)(x:Str)(ns:List Nat):Prop where
 ex:∃a,mg x=some (.ref a)/\∀H,Bi K H a (ns.map nV)
inductive Y1(K:Ab):Sp
 |mk (a:Addr) (l:List Int):vs= [.ref a]->A_ K H a (l.map V.int)->l.length<=400->(∀x∈l,0<=x)->aQ l=true->(∀r H',H' r=some (.lst ((Qs l).map V.int))->Q (.ref r) H')->Y1 K vs H Q DJ
theorem Y2{l:List Int}(h:aQ l=true):∃cs,KP I0 l.length l=some cs/\cs.length<=80/\Qs l=Qu (aR VQ yN (cs.map Qt))/\(Qs l).length<=10000000:=by
 unfold aQ at h;cases hc:KP I0 l.length l with
 |none=>rw[hc] at h;cases h
 |some raw=>
  rw[hc] at h;simp only[DV] at h;obtain⟨⟨⟨⟨h1,h2⟩,h3⟩,h4⟩,h5⟩:=h;refine⟨raw,AA,AM h2,?_,AM h5⟩;unfold Qs PyKp320.calls;rw[hc]
theorem sf{l:List Int}{pl n:Nat}(h:pl+1+n<=l.length):g7 (l.map V.int) (some ((pl:Int)+1)) (some ((pl:Int)+1+(n:Int)))=((l.drop (pl+1)).take n).map V.int:=by
 unfold g7;have e1:HT.XN (l.map V.int).length 0 (some ((pl:Int)+1))=pl+1:=by
  have:=HT.dq (l.map V.int).length 0 (pl+1);rw[show(((pl+1:Nat)):Int)=(pl:Int)+1 by omega] at this;rw[this,BP];omega
 have e2:HT.XN (l.map V.int).length (l.map V.int).length (some ((pl:Int)+1+(n:Int)))=pl+1+n:=by
  have:=HT.dq (l.map V.int).length (l.map V.int).length (pl+1+n);rw[show(((pl+1+n:Nat)):Int)=(pl:Int)+1+(n:Int) by omega] at this;rw[this,BP];omega
 rw[e1,e2,show pl+1+n - (pl+1)=n by omega,kR,Zg]
theorem jW(a:List Int)(r:List (List Int)):Qu (a::r)=((a.length:Int)::a)++Qu r:=by
 unfold Qu;rw[List.flatMap_cons]
inductive ZsI(K:Ab)(cs:Cs)(H:Hp)(a p an:Addr)(l:List Int):L2.St->Hp->Prop
 |mk (pl n:Nat) (own:List Addr) (s:Lo) (done:List Int) (y4 y5 y6:Option V) (fu:Nat) (rest:List (List (List Int))):σ= [some (.ref a),some (.ref p),some (.ref an),some (nV pl),y4,y5,y6]->Ag H H'->(∀b∈own,H b=none)->an∉own->J3 K cs H' p n own s->H' an=some (.lst (done.map V.int))->pl<=l.length->KP I0 fu (l.drop pl)=some rest->n+rest.length<=80->done++Qu (aR VQ s (rest.map Qt))=Qs l->ZsI K cs H a p an l σ H'
section
variable(B:SS P w K mg base cs CO CN CV)
include B
theorem jX(WI:An P w K mg base cs.W 1 "__init__" BX (QM cs))(AR:ABq K mg "ARGUMENTS" args)(AN:#[] 49 "answer" Lb (sV K cs)){f:Addr}{fd:FuncData}(D:uR K "answers" "answers" FR f fd):GJ P w K mg base eJ 50 f fd UU (Y1 K):=by
 refine D.ok Uc (λvs H Q E h=> ?_) (λCL A outer st H vs Q E hr h=> ?_)
 ·obtain⟨a,l,rfl,_⟩:=h;rfl
 obtain⟨a,l,rfl,hl,AF7,AFh,ABr,q⟩:=h;obtain⟨cs0,hc0,h80,AFi,AFj⟩:=Y2 ABr;have nd:=Uc.nd;obtain⟨ar,mar,qar⟩:=AR.ex;refine⟨_,AF (1>>AAY WI B.T.B.Z.tW.ZI hr) (AF (2>>Am By) (AF (3>>AU)
  (AF (MX HS (Af nq (pv 3) (Ax Ak (by rfl) B.T.B.len Cz #[pv 0]) (Ai _))
   (AF (4>>BM D4 (pv 0) (pv 3) (λ_ _=>rfl))
   (AF (5>>Ay EW (Ay EW (pv 3) AU) (BM BV (JB (v:= .ref ar) rfl mar rfl) (pv 4) (λ_ _=>rfl)))
   (AF (eC (6>>AV AN hr #[pv 1,pv 4,oJ uB (pv 0) (du (Ay EW (pv 3) AU)) (du (pv 5))]))
   (AF (Bu (KY IJ VC VB Kx (pv 2) #[Ax Ak (by rfl) B.T.B.len Cz #[pv 6]]))
   (AF (Bu (KY IJ Qo aA g_ (pv 2) #[pv 6]))
   (AK (3>>pv 5))))))))
  (AK (AO (pv 2)))))),?_⟩
 intro p dp np Yc ne;refine⟨p,dp,AA,AJ,λH1 kl k1 nk bh Ig=>⟨AA,?_⟩⟩;have s1:Ag H H1:=Ag.made np Yc k1;refine⟨BR _,λan han=> ?_⟩;have s2:=AX han (.lst []);have D5:=s1.trans s2;have wL:H an=none:=s1.free han;refine MZ (ZsI K cs H a p an l)
  (λσ _=>match σ with| [_,_,_,some (.int y),_,_,_]=>l.length - y.toNat|_=>0)
  ⟨0,0,[p],none,[],none,none,none,l.length,cs0,rfl,D5,λb hb=>by rw[Gm.mp hb];exact np,λz=> ?_,.no (s2 _ _ Ig),AJ,BR _,hc0,(),by rw[AFi];rfl⟩ ?_ ?_
 ·have:=Gm.mp z;rw[this,Ig] at han;cases han
 ·rintro σ H2 ⟨pl,n,own,s,done,y4,y5,y6,fu,rest,rfl,sH,Pk,nan,hS,hd,Dn,hcs,AFk,Y3⟩;refine⟨_,AA,_,AA,a,_,AA,.inl (sH.seq hl),_,_,AA,AA,_,AA,?_⟩;rw[BP];by_cases IA:pl<l.length
  ·rw[AH (show(pl:Int)< (l.length:Int) by omega)];refine Au ?_;have hdr:l.drop pl=l[pl]::l.drop (pl+1):=j' IA;rw[hdr] at hcs;obtain⟨i,as,f',AD8,ep,hi,hlen,AD9,hle,rfl,AEA⟩:=jV hcs λx hx=>AFh x (MS hx);rw[Jh] at hle;have qG:oK (l.map V.int) (pl:Int)=some (nV i):=Mc (by rw[J',Gk IA,ep];rfl);have AFl:oK (args.map nV) (i:Int)=some (nV (args.getD i 0)):=Mc (by
    rw[J',Ts];have:i<args.length:=by rw[show args.length=67 from rfl];exact hi
    rw[Gk this];rfl)
   refine⟨_,AA,_,AA,a,_,_,_,AA,AA,sH.seq hl,qG,?_⟩;refine⟨_,AA,_,_,AA,AA,_,AA,ar,_,_,_,AA,AA,qar _,AFl,_,_,AA,AA,?_⟩;refine⟨an,.lst (done.map V.int),hd,trivial,λod=> ?_⟩;have sL:Ag H (upd H2 an (.DW od (.lst (done.map V.int)))):=λb u e=>by rw[AS (AQ e wL)];exact sH b u e
   refine⟨_,AA,_,AA,_,AA,_,AA,_,_,AA,AA,_,AA,_,AA,_,AA,a,_,AA,sL.seq hl,λgl hgl=> ?_⟩;rw[sf (),AD9];have em:(as.map λn=>((n:Nat):Int)).map V.int=as.map nV:=by rw[Lm];rfl
   rw[em];have s3:=AX hgl (.lst (as.map nV));have S3:=(hS.upd (u':= .DW od (.lst (done.map V.int))) hd (λ_ z=>nomatch z) (λ_ _ z=>nomatch z) nan).same s3;refine⟨p,gl,i,as,n,s,own,AA,A_.of AJ,hi,hlen,S3,(),λl' H4 cx fr4 AEB S4 h4=> ?_⟩;have AEC:(upd (upd H2 an (.DW od (.lst (done.map V.int)))) gl (.lst (as.map nV))) an=some (.DW od (.lst (done.map V.int))):=s3 _ _ AJ;have ABs:H4 an=some (.DW od (.lst (done.map V.int))):=fr4 _ _ AEC nan;have ABt:an∉cx:=λz=>by
    rcases AEB an z with y|y
    ·exact nan y
    ·rw[AEC] at y;cases y
   have hla:l'≠an:=Ao h4 ABs (by intro z;cases z);refine⟨ABs,?_⟩;have S5:J3 K cs (upd H4 an (.lst (done.map V.int))) p (n+1) cx (Be s (Cj i as)).1:=S4.upd ABs (λ_ z=>nomatch z) (λ_ _ z=>by injection z with _ z;cases z) ABt;have h5:(upd H4 an (.lst (done.map V.int))) l'=some (.lst ((lsH (Be s (Cj i as)).2).map V.int)):=by rw[AS hla];exact h4
   have sH4:Ag H (upd H4 an (.lst (done.map V.int))):=λb u e=>by
    rw[AS (AQ e wL)];exact fr4 _ _ (s3 _ _ (sL _ _ e)) λz=>by rw[Pk b z] at e;cases e
   have AED:∀b∈cx,H b=none:=λb hb=>by
    rcases AEB b hb with y|y
    ·exact Pk b y
    ·exact(sL.trans s3).free y
   have tf:=AD7 s hi hlen;rw[B7,aR,tf,jW] at Y3;dsimp only at Y3;generalize ha:lsH (Be s (Cj i as)).2=jz at*
   generalize (Be s (Cj i as)).1=s' at*
   have AF8:done.length+(1+jz.length)<=10000000:=by
    have:=congrArg Zh Y3;rw[CH,CH,CD] at this;omega
   have hsz:(10000000:Nat)<sizeLine:=by decide
   refine⟨_,AA,.inl ⟨AA,_,A_.of AJ⟩,_,AA,l',_,AA,.inl (A_.of h5),an,_,_,AA,AA,AJ,by rw[BP];omega,?_⟩;rw[Az,BP];have h6:(upd H4 an (.lst (done.map V.int++ [.int (jz.length:Nat)]))) l'=some (.lst (jz.map V.int)):=by rw[AS hla];exact h4
   refine⟨_,AA,.inl ⟨AA,_,A_.of AJ⟩,_,AA,an,l',_,_,AA,AA,AJ,h6,by rw[CH,BP,BP];show done.length+1+jz.length<=_;omega,?_⟩;rw[Az];have e7:done.map V.int++ [V.int (jz.length:Nat)]++jz.map V.int=(done++((jz.length:Int)::jz)).map V.int:=by
    rw[GB,B7,Lh];rfl
   rw[e7];refine⟨_,AA,⟨pl+1+args.getD i 0,n+1,cx,s',done++((jz.length:Int)::jz),some (nV i),some (nV (pl+1+args.getD i 0)),some (.ref l'),f',AD8,?_,λb u e=> ?_,AED,ABt,?_,AJ,(),?_,?_,?_⟩,?_⟩
   ·rfl
   ·rw[AS (AQ e wL)];have:=sH4 b u e;rw[AS (AQ e wL)] at this;exact this
   ·have:=S5.upd (u':= .lst ((done++((jz.length:Int)::jz)).map V.int)) AJ (λ_ z=>nomatch z) (λ_ _ z=>nomatch z) ABt;rw[Az] at this;exact this
   ·rw[List.drop_drop] at AEA;exact AEA
   ·rw[CD] at AFk;omega
   ·rw[←Y3,Lh]
   ·show l.length - ((pl:Int)+1+((args.getD i 0:Nat):Int)).toNat<l.length - (pl:Int).toNat;omega
  ·rw[AL (show¬(pl:Int)< (l.length:Int) by omega)];refine A' ⟨_,rfl,q an H2 ?_⟩;rw[ZU ()] at hcs;have:rest= []:=by cases fu <;> exact(Bl hcs).symm
   subst this;rw[hd,←Y3];show _=some (HO.lst ((done++ []).map V.int));rw[Nh]
 ·intro σ H Q Q' hq z;obtain⟨v,hv,v2,hv2,p1,ys,e1,e2,i1,j1,e3,e4,k,ek,z⟩:=z;exact⟨v,hv,v2,hv2,p1,ys,e1,e2,i1,j1,e3,e4,k,ek,hq _ _ z⟩
end
end
section
variable{cs:Cs}{CO CN CV:Addr}
inductive Nm(mg:Str->Option Value):List Str->List Addr->Prop where
 |nil:Nm mg [] []
 |cons {n:Str} {f:Addr} {ns:List Str} {fs:List Addr} (h:mg n=some (.ref f)) (t:Nm mg ns fs):Nm mg (n::ns) (f::fs)
theorem Nm.len{ns:List Str}{fs:List Addr}(h:Nm mg ns fs):fs.length=ns.length:=by
 induction h with
 |nil=>rfl
 |cons _ _ ih=>exact congrArg (· +1) ih
theorem Nm.app{ns ms:List Str}{fs gs:List Addr}(h:Nm mg ns fs)(g:Nm mg ms gs):Nm mg (ns++ms) (fs++gs):=by
 induction h with
 |nil=>exact g
 |cons e _ ih=>exact .cons e ih
inductive jY(p:Nat->Str->Prop):Nat->List Str->Prop where
 |nil {i:Nat}:jY p i []
 |cons {i:Nat} {n:Str} {ns:List Str} (h:p i n) (t:jY p (i+1) ns):jY p i (n::ns)
theorem wM{p:Nat->Str->Prop}{ns:List Str}{fs:List Addr}(h:Nm mg ns fs):∀{i j:Nat} {f:Addr},jY p i ns->fs[j]? =some f->∃n,mg n=some (.ref f)/\p (i+j) n:=by
 induction h with
 |nil=>intro i j f _ e;simp at e
 |cons e _ ih=>
  intro i j f a ej;cases a with
  |cons a1 a2=>
  match j,ej with
  |0,ej=>exact⟨_,by rw[←Bl ej];exact e,a1⟩
  |j+1,ej=>
   have z:=ih a2 ej;rw[show i+1+j=i+(j+1) by omega] at z;exact z
theorem wN{ns:List Str}{fs:List Addr}(a:jY (λi n=>∃ps,#[] 47 n ps (Dc K cs i)) 0 ns)(h:Nm mg ns fs){j:Nat}{f:Addr}(e:fs[j]? =some f):wI P w K mg base 47 f (Dc K cs j):=by
 obtain⟨n,m,ps,z⟩:=wM h a e;rw[KD] at z;exact z.toF m
theorem qT{h:Aw}{c:Lr}(hc:(Co (some h.watch) c).1=some h.watch):FU h c=h:=by
 unfold FU;rw[hc]
theorem qI(h:Aw)(a b:kj):(if h.watch.plans.isEmpty=true then(some h.watch,a) else(some h.watch,b)).1=some h.watch:=by
 split <;> rfl
theorem EL{i k:Nat}{x:Str}{ps:List Str}(h0:i≠0)(h8:i≠8)(h:#[] k x ps (Ks K cs (args.getD i 0) (Cj i)))(hk:k<=47):∃ps,#[] 47 x ps (Dc K cs i):=by
 refine⟨ps,?_⟩;unfold Dc;rw[AB h0,AB h8];exact h.mono hk
abbrev nW:List Str:= ["begin","play","mean","ifplayed","best","gain","toeven","toplans","undo","past"]
abbrev nD:List Str:= ["day","drop","brings","looks","misdeeds","fine","worth","look","dare","from_day","lookfrom","darefrom","four","caught","brought","ifbrings","iflooks","iffine","without","firstday","told"]
abbrev nE:List Str:= ["evenday","evengain","left","evenworth","evenlook","evendare","worthof","eveniffine","iflook","ifdare","evencaught","done","looked","spare","looksfor","finefor"]
abbrev nP:List Str:= ["plan","dropplan","weight","planmisdeeds","planfine","fair","reply","daresnow","seen","planlooked","meanlooks","mostlooks","worthlooks","over","bestchance","bestlooked","planscaught","plansdone","unlooked","plans"]
def jZ:List Str:=nW++(nD++(nE++nP))
structure Fx(K:Ab)(mg:Str->Option Value)(cs:Cs)(CO CN CV:Addr)(fw fd fe fp:List Addr):Prop where
 NS:Def K mg "add_chance" Es Vx
 Pw:Def K mg "alike_chances" ET Fw
 Y4:Def K mg "alike_end" Hg Fw
 Td:Def K mg "alike_worth" FY PQ
 Te:Def K mg "all_weights" FX UO
 sg:Def K mg "answer" M7 Lb
 wO:Def K mg "begin" QH YC
 ABu:Def K mg "best" WJ Ae
 Y5:Def K mg "best_look" He Js
 Y6:Def K mg "best_plan" Hd Js
 W7:Def K mg "bestchance" Gd fW
 W8:Def K mg "bestlooked" Ge GG
 si:Def K mg "brings" Mp PJ
 ja:Def K mg "brought" K5 Ae
 sj:Def K mg "caught" Mq Ae
 ABv:Def K mg "dare" V3 Ae
 cy:Def K mg "darefrom" JM Jq
 cz:Def K mg "daresnow" JX Ae
 AEE:Def K mg "day" ff CM
 jb:Def K mg "divided" K1 B6
 ABw:Def K mg "done" V' Ae
 ABx:Def K mg "drop" V0 Ae
 c_:Def K mg "dropplan" JV fR
 SX:Def K mg "even_outlook" Ey LZ
 W9:Def K mg "even_worth" GV UQ
 W_:Def K mg "evencaught" GY Ae
 dA:Def K mg "evendare" JT Ae
 jc:Def K mg "evenday" K9 fO
 dB:Def K mg "evengain" JR Ae
 W':Def K mg "eveniffine" GX YB
 dC:Def K mg "evenlook" JS Ae
 Y7:Def K mg "evenworth" Hi Ae
 ABy:Def K mg "fair" WC GG
 ABz:Def K mg "fine" V1 CM
 jd:Def K mg "finefor" K' PU
 dD:Def K mg "firstday" JO Ae
 AB0:Def K mg "four" V4 Ae
 dF:Def K mg "from_day" JK Jq
 XA:Def K mg "from_whole" GR iO
 AB1:Def K mg "gain" WK Ae
 je:Def K mg "greater" K3 B6
 NT:Def K mg "greatest_common" Di B6
 jf:Def K mg "has_day" K8 PM
 dG:Def K mg "ifbrings" JN PJ
 sk:Def K mg "ifdare" Mw PR
 sm:Def K mg "iffine" Mr CM
 so:Def K mg "iflook" Mv PR
 jg:Def K mg "iflooks" K6 CM
 dH:Def K mg "ifplayed" Ja PV
 NU:Def K mg "in_the_end" Et X_
 Y8:Def K mg "is_beyond" Hc UL
 jh:Def K mg "is_fine" K4 HB
 ji:Def K mg "is_less" K2 B6
 jj:Def K mg "is_over" LB Cg
 dI:Def K mg "is_parts" JQ RX
 Y9:Def K mg "is_weight" Hj HB
 Oc:Def K mg "least_if_dared" D_ La
 AB2:Def K mg "left" V8 Ae
 sq:Def K mg "lesser" Ml B6
 AB3:Def K mg "look" V2 Ae
 su:Def K mg "looked" Mx Jr
 Y_:Def K mg "looked_at" Hf X'
 dJ:Def K mg "lookfrom" JL Jq
 XB:Def K mg "looking_on" GU LX
 wQ:Def K mg "looks" QB CM
 XC:Def K mg "looks_left" GW UR
 Tf:Def K mg "looks_worth" Fd US
 dM:Def K mg "looksfor" JU PU
 Y':Def K mg "made_call" Fz Lb
 AB4:Def K mg "mean" WH Ae
 ZA:Def K mg "meanlooks" Hl Ae
 wU:Def K mg "minus" P_ B6
 dN:Def K mg "misdeeds" JJ CM
 wV:Def K mg "mixed" QA iP
 Od:Def K mg "most_if_looked" D9 La
 XD:Def K mg "most_looks" GZ Ci
 ZC:Def K mg "mostlooks" Hm Ae
 XE:Def K mg "multiplied" GS UN
 Oe:Def K mg "not_looking_on" D8 LX
 AB5:Def K mg "over" WE Ae
 AB6:Def K mg "past" WM Ae
 AB7:Def K mg "plan" WA fQ
 dO:Def K mg "planfine" JW CM
 XF:Def K mg "planlooked" Ga Jr
 SY:Def K mg "planmisdeeds" Ez CM
 wW:Def K mg "plans" QG Ae
 Tg:Def K mg "planscaught" Fe Ae
 ZD:Def K mg "plansdone" Hn Ae
 AB8:Def K mg "play" WG PV
 dP:Def K mg "play_day" JZ IZ
 AB9:Def K mg "plus" Vz B6
 wX:Def K mg "ratio" P9 RU
 Og:Def K mg "refused_brings" D7 RW
 Oh:Def K mg "refused_chance" D' RY
 Sa:Def K mg "refused_from" Ex PK
 Sb:Def K mg "refused_play" Eu RV
 J4:Def K mg "refused_season_play" Cb IZ
 wY:Def K mg "reply" QF Ae
 Th:Def K mg "season_mean" Fj Cg
 Oi:Def K mg "season_outlook" D6 Cg
 Sd:Def K mg "season_worth" Ew Cg
 ACA:Def K mg "seen" WD fV
 wZ:Def K mg "share" QD UP
 ACB:Def K mg "size" V6 UM
 wa:Def K mg "spare" QE GG
 Oj:Def K mg "table_answerer" EA Ci
 ZE:Def K mg "table_end" Hk Ci
 Ti:Def K mg "table_reply" FZ Ci
 wb:Def K mg "times" P' B6
 sv:Def K mg "toeven" M6 Ae
 ACC:Def K mg "told" V5 Ae
 Tj:Def K mg "told_ratios" FW iQ
 jk:Def K mg "toplans" LD Ae
 ACD:Def K mg "undo" WL Ae
 dS:Def K mg "unlooked" JY Ae
 sx:Def K mg "weight" Mz fU
 jl:Def K mg "without" K7 Jr
 wc:Def K mg "worth" QC Ae
 XG:Def K mg "worthlooks" Gb GG
 jm:Def K mg "worthof" K_ YA
 Ol:A1 K cs.A "__init__" "Alike.__init__" EB RZ
 Se:A1 K cs.A "copied" "Alike.copied" E7 BX
 Tn:A1 K cs.A "facts" "Alike.facts" Ff BX
 LN:A1 K CN "__init__" "Answerer.__init__" CB IE
 Px:A1 K CN "best" "Answerer.best" DZ LY
 LO:A1 K CN "best_got" "Answerer.best_got" DE LY
 Sf:A1 K CN "got" "Answerer.got" Dt PN
 LP:A1 K CN "if_dared" "Answerer.if_dared" CC LY
 Kt:A1 K CN "if_waited" "Answerer.if_waited" Bz LY
 Jf:A1 K CV "__init__" "EvenChances.__init__" CF IE
 HK:A1 K CV "dare_chance" "EvenChances.dare_chance" Bk EH
 HL:A1 K CV "look_chance" "EvenChances.look_chance" Bj EH
 MN:A1 K CO "__init__" "Outlook.__init__" DS IE
 J5:A1 K CO "dare_chance" "Outlook.dare_chance" Bo EH
 Ku:A1 K CO "four" "Outlook.four" Ds EH
 J6:A1 K CO "is_tempting" "Outlook.is_tempting" Bm EH
 J7:A1 K CO "look_chance" "Outlook.look_chance" Bn EH
 NV:A1 K CO "neither" "Outlook.neither" Cr EH
 Om:A1 K CO "reckon" "Outlook.reckon" CQ EH
 Sg:A1 K CO "seen" "Outlook.seen" Dr BX
 Oo:A1 K CO "unseen" "Outlook.unseen" DI EH
 Oq:A1 K CO "waited" "Outlook.waited" DH EH
 Py:A1 K CO "worth" "Outlook.worth" DY EH
 NW:A1 K cs.S "__init__" "Season.__init__" Dj IY
 Pz:A1 K cs.S "copied" "Season.copied" EU BX
 Sh:A1 K cs.S "facts" "Season.facts" E6 BX
 Ot:A1 K cs.T "__init__" "Table.__init__" EC Ra
 Si:A1 K cs.T "copied" "Table.copied" E8 BX
 To:A1 K cs.T "facts" "Table.facts" Fg BX
 Ou:A1 K cs.W "__init__" "Whole.__init__" ED BX
 Tq:A1 K cs.W "begin" "Whole.begin" Fh IY
 Im:A1 K cs.W "keep_if_changed" "Whole.keep_if_changed" B8 UT
 Tr:A1 K cs.W "parts" "Whole.parts" Fi BX
 NX:A1 K cs.W "take_back" "Whole.take_back" Dk BX
 n2:B' mg "NO_SUCH" (-2)
 n6:B' mg "NOTHING_THERE" (-6)
 n11:B' mg "NOT_BEGUN" (-11)
 NH:B' mg "OUT_OF_BOUNDS" (-22)
 n28:B' mg "FULL" (-28)
 vL:B' mg "NOT_POSSIBLE" (-33)
 mD:B' mg "MOST_DAYS_dayscalls" 4
 mB:B' mg "MOST_BROUGHT" 3
 mL:B' mg "MOST_LEFT" 5
 mF:B' mg "MOST_FINE_dayscalls" 3
 mP:B' mg "MOST_PLANS" 10
 mW:B' mg "MOST_WEIGHT" 1000
 mM:B' mg "MOST_MISDEEDS" 6
 mFp:B' mg "MOST_FINE_plancalls" 9
 mDe:B' mg "MOST_DAYS_evencalls" 8
 mFe:B' mg "MOST_FINE_evencalls" 9
 mS:B' mg "MOST_FINE_SOUGHT" 99
 mPa:B' mg "MOST_PARTS" 1000
 mC:B' mg "MOST_CHANCES" 100
 kept:B' mg "MOST_KEPT" 12
 bE:B' mg "BEGIN" 0
 uN:B' mg "UNDO" 8
 zero:GQ K mg "ZERO" 0
 one:GQ K mg "ONE" 1
 ar:ABq K mg "ARGUMENTS" args
 len:mg "len"=none
 abs:mg "abs"=none
 list:mg "list"=none
 dict:mg "dict"=none
 enum:mg "enumerate"=none
 range:mg "range"=none
 sum:mg "sum"=none
 max:mg "max"=none
 tO:Ud K mg CO
 cO:jr K mg "Outlook" CO
 tS:js K mg cs.S
 tA:tK K mg cs.A
 tT:u_ K mg cs.T
 tW:xM K mg cs.W
 tN:vV K mg CN
 tV:TxV K mg CV
 cw:Tb K mg "WHOLE_CALLS" fw
 aw:Nm mg nW fw
 cd:Tb K mg "DAYS_CALLS" fd
 ad:Nm mg nD fd
 ce:Tb K mg "EVEN_CALLS" fe
 ae:Nm mg nE fe
 cp:Tb K mg "PLAN_CALLS" fp
 ap:Nm mg nP fp
variable{fw fd fe fp:List Addr}
theorem fin(F:Fx K mg cs CO CN CV fw fd fe fp){f:Addr}{fo:FuncData}(D:uR K "answers" "answers" FR f fo):GJ P w K mg base eJ 50 f fo UU (Y1 K):=by
 have G:#[] _ _ _ _:=ADE F.NT;have RR:#[] _ _ _ _:=uk F.wX G F.abs;have PL:#[] _ _ _ _:=AAM F.AB9 RR;have MI:#[] _ _ _ _:=um F.wU RR;have TI:#[] _ _ _ _:=uo F.wb RR;have LE:#[] _ _ _ _:=ig F.ji;have R:HC P w K mg base:=⟨PL,MI,TI,ie F.jb RR,LE,WO F.XA,AAN F.Tj,uq F.wV PL MI TI F.one,ik F.je LE,p5 F.sq LE,RR,F.zero,F.one⟩;have O:bu P w K mg base CO:=ADM F.tO R F.len ⟨F.Py,F.Om,F.Sg,F.Oq,F.Oo,F.NV,F.Ku,F.J6,F.J7,F.J5⟩;have O4:An P w K mg base CO 21 "four" FD (WS K CO):=AAW F.tO O.lev F.Ku;have OI:An P w K mg base CO 1 "__init__" IE (M' K CO):=AAX F.tO F.MN;have sI:An P w K mg base cs.S _ _ _ _:=AAZ F.tS F.NW;have aI:An P w K mg base cs.A _ _ _ _:=AAb F.tA F.Ol;have tI:An P w K mg base cs.T _ _ _ _:=AAd F.tT F.Ot;have Z:Parts P w K mg base cs:=⟨F.tS,F.tA,F.tT,F.tW,sI,u7 F.tS F.list F.Sh,AAa F.tS F.list sI F.Pz,aI,u9 F.tA F.Tn,AAc F.tA aI F.Se,tI,vA F.tT F.list F.To,AAe F.tT F.list tI F.Si⟩;have PP:=vC Z F.Tr;have KC:=AAf Z PP F.len F.kept F.Im;have TB:An P w K mg base cs.W 1 "take_back" BX (Wc cs):=AAg F.tW F.NX;have WI:An P w K mg base cs.W 1 "__init__" BX (QM cs):=AAh F.tW F.Ou;have WB:=vE Z F.Tq;have SO:#[] 3 "season_outlook" Cg (SG K CO cs.S):=iz F.tO F.cO F.tS OI F.Oi;have SW:=qY F.tO F.tS O SO F.Sd;have AD:=ADR R F.NS;have AI:=v_add R F.NS;have EN:=AAq (xf R (ADh F.tO O) AD F.enum F.dict F.NU);have B:gI P w K mg base cs CO:=⟨R,Z,F.tO,O,O4,SO,SW,EN,F.len,F.n2,F.n6,F.n11,F.NH,F.n28,F.vL,F.mD,F.mB,F.mL,F.mF⟩;have hd:#[] _ _ _ _:=ADl F.jf;have sz:#[] _ _ _ _:=AA4 F.ACB;have mu:#[] _ _ _ _:=ADm F.range F.XE;have tt:#[] _ _ _ _:=vS F.sum F.Te;have L:Yo P w K mg base:=⟨hd,ql F.Y8,sz,mu,AA6 F.range sz mu F.Y6,tt,vU RR tt F.wZ,i' hd F.XB,Wn hd F.Oe⟩;have N:qu P w K mg base CN:=ADr F.tN L RR ⟨F.LN,F.Sf,F.Px,F.LP,F.Kt,F.LO⟩;have T:Ww P w K mg base cs CO CN:=⟨B,L,N,F.max,F.sum,F.mP,F.mW,F.mM,F.mFp⟩;have EO:#[] 3 "even_outlook" LZ (jF K CO):=jG F.tO F.cO OI F.SX;have BL:=ABU L F.Y5;have LC:An P w K mg base CV 24 "look_chance" FD (qU K (gE K CV CO) (gE K CV CO).x):=vn F.tV F.len BL F.HL;have DC:An P w K mg base CV 24 "dare_chance" FD (qU K (gE K CV CO) (gE K CV CO).y):=vo F.tV F.tO O F.one F.HK;have E:SS P w K mg base cs CO CN CV:=⟨T,F.tV,EO,vm F.tO O EO F.W9,BL,ABV F.tV EO F.Jf,LC,DC,xf R (ADx F.tV LC DC) AD F.enum F.dict F.NU,F.range,F.mDe,F.mFe,F.mS,F.mPa,F.mC⟩;have RF:=AAt B F.Sa
 have RB:=AAv B F.Og;have FI:=qf B F.jh;have IO:=AAz B F.jj;have SM:=vP B F.Th;have RP:=AA2 B F.Sb;have TA:=cM T F.Oj;have TR:=qy T TA F.Ti;have TE:=AA9 T TA F.ZE;have LW:=qz T TA F.Tf;have ML:=rG T F.XD;have IW:=ADv T F.Y9;have AW:=ra E F.Td;have AC:=cU E F.Pw;have AE:=ABW E AC F.Y4;have LI:=vq E F.Oc;have MO:=ABX E F.Od;have RC:=v_ E F.Oh;have LL:=ABb R F.range BL AI F.XC;have LA:=cZ E LL F.Y_;have IP:=sE E F.dI;have RS:=AD1 E IO RP F.J4;have PD:=AFb E F.dP;have c0:∃ps,#[] 47 "begin" ps (Dc K cs 0):=⟨_,wG E FI WB F.wO⟩;have c1:∃ps,#[] 47 "play" ps (Dc K cs 1):=EL (i:=1) (()) (()) (anyM (ABi E RS PD F.AB8) (λ_ g=>⟨g.s,g.gn⟩) (λh o as=>(xu h o _ _).1) (λh o as=>(xu h o _ _).2)) (());have c2:∃ps,#[] 47 "mean" ps (Dc K cs 2):=EL (i:=2) (()) (()) (AD2 (AA0 B SM F.AB4) (λ_ _ _=>rfl) (λ_ _ _=>rfl)) (());have c3:∃ps,#[] 47 "ifplayed" ps (Dc K cs 3):=EL (i:=3) (()) (()) (FC (cj E RS PD SM F.dH) (λ_ g=>⟨g.s,g.gn⟩) (λ_ _ _=>rfl) (λ_ _ _=>rfl)) (());have c4:∃ps,#[] 47 "best" ps (Dc K cs 4):=EL (i:=4) (()) (()) (FC (ABj E IO F.ABu) (λ_ g=>⟨g.s,g.gn⟩) (λ_ _ _=>rfl) (λ_ _ _=>rfl)) (());have c5:∃ps,#[] 47 "gain" ps (Dc K cs 5):=EL (i:=5) (()) (()) (AD2 (AA1 B F.AB1) (λ_ _ _=>rfl) (λ_ _ _=>rfl)) (());have c6:∃ps,#[] 47 "toeven" ps (Dc K cs 6):=EL (i:=6) (()) (()) (anyM (sO E IO F.sv) (λ_ g=>⟨g.s,g.gn⟩) (λh o as=>(xw h o).1) (λh o as=>(xw h o).2)) (());have c7:∃ps,#[] 47 "toplans" ps (Dc K cs 7):=EL (i:=7) (()) (()) (anyM (jS E IO F.jk) (λ_ g=>⟨g.s,g.gn⟩) (λh o as=>(sQ h o).1) (λh o as=>(sQ h o).2)) (());have c8:∃ps,#[] 47 "undo" ps (Dc K cs 8):=⟨_,ABl E TB F.ACD⟩;have c9:∃ps,#[] 47 "past" ps (Dc K cs 9):=EL (i:=9) (()) (()) (wH (ABk E F.AB6)) (());have c10:∃ps,#[] 47 "day" ps (Dc K cs 10):=EL (i:=10) (()) (()) (Uj (ADj B F.AEE) (λ_ _ _=>rfl) (λ_ _ _=>Ah _ _)) (());have c11:∃ps,#[] 47 "drop" ps (Dc K cs 11):=EL (i:=11) (()) (()) (Uj (k_drop B F.ABx) (λ_ _ _=>rfl) (λ_ _ _=>Ah _ _)) (());have c12:∃ps,#[] 47 "brings" ps (Dc K cs 12):=EL (i:=12) (()) (()) (Uj (qi B RB F.si) (λ_ _ _=>rfl) (λ_ _ _=>Ah _ _)) (());have c13:∃ps,#[] 47 "looks" ps (Dc K cs 13):=EL (i:=13) (()) (()) (Uj (vN B F.wQ) (λ_ _ _=>rfl) (λ_ _ _=>Ah _ _)) (());have c14:∃ps,#[] 47 "misdeeds" ps (Dc K cs 14):=EL (i:=14) (()) (()) (Uj (cD B F.dN) (λ_ _ _=>rfl) (λ_ _ _=>Ah _ _)) (());have c15:∃ps,#[] 47 "fine" ps (Dc K cs 15):=EL (i:=15) (()) (()) (Uj (AAx B FI F.ABz) (λ_ _ _=>rfl) (λ_ _ _=>Ah _ _)) (());have c16:∃ps,#[] 47 "worth" ps (Dc K cs 16):=EL (i:=16) (()) (()) (anyS (vM B F.wc) (λ_ _ _=>rfl) (λ_ _ _=>Ah _ _)) (());have c17:∃ps,#[] 47 "look" ps (Dc K cs 17):=EL (i:=17) (()) (()) (anyS (AAs B F.AB3) (λ_ _ _=>rfl) (λ_ _ _=>Ah _ _)) (());have c18:∃ps,#[] 47 "dare" ps (Dc K cs 18):=EL (i:=18) (()) (()) (anyS (AAu B F.ABv) (λ_ _ _=>rfl) (λ_ _ _=>Ah _ _)) (());have c19:∃ps,#[] 47 "from_day" ps (Dc K cs 19):=EL (i:=19) (()) (()) (anyS (b7 B RF F.dF) (λ_ _ _=>rfl) (λ_ _ _=>Ah _ _)) (());have c20:∃ps,#[] 47 "lookfrom" ps (Dc K cs 20):=EL (i:=20) (()) (()) (anyS (b9 B RF F.dJ) (λ_ _ _=>rfl) (λ_ _ _=>Ah _ _)) (());have c21:∃ps,#[] 47 "darefrom" ps (Dc K cs 21):=EL (i:=21) (()) (()) (anyS (b_ B RF F.cy) (λ_ _ _=>rfl) (λ_ _ _=>Ah _ _)) (());have c22:∃ps,#[] 47 "four" ps (Dc K cs 22):=EL (i:=22) (()) (()) (anyS (AAy B F.AB0) (λ_ _ _=>rfl) (λ_ _ _=>Ah _ _)) (());have c23:∃ps,#[] 47 "caught" ps (Dc K cs 23):=EL (i:=23) (()) (()) (anyS (qZ B F.sj) (λ_ _ _=>rfl) (λ_ _ _=>Ah _ _)) (());have c24:∃ps,#[] 47 "brought" ps (Dc K cs 24):=EL (i:=24) (()) (()) (anyS (i5 B F.ja) (λ_ _ _=>rfl) (λ_ _ _=>Ah _ _)) (());have c25:∃ps,#[] 47 "ifbrings" ps (Dc K cs 25):=EL (i:=25) (()) (()) (anyS (cC B RB F.dG) (λ_ _ _=>rfl) (λ_ _ _=>Ah _ _)) (());have c26:∃ps,#[] 47 "iflooks" ps (Dc K cs 26):=EL (i:=26) (()) (()) (anyS (i6 B F.jg) (λ_ _ _=>rfl) (λ_ _ _=>Ah _ _)) (());have c27:∃ps,#[] 47 "iffine" ps (Dc K cs 27):=EL (i:=27) (()) (()) (anyS (qg B FI F.sm) (λ_ _ _=>rfl) (λ_ _ _=>Ah _ _)) (());have c28:∃ps,#[] 47 "without" ps (Dc K cs 28):=EL (i:=28) (()) (()) (anyS (i7 B F.jl) (λ_ _ _=>rfl) (λ_ _ _=>Ah _ _)) (());have c29:∃ps,#[] 47 "firstday" ps (Dc K cs 29):=EL (i:=29) (()) (()) (anyS (cF B F.range F.dD) (λ_ _ _=>rfl) (λ_ _ _=>Ah _ _)) (());have c30:∃ps,#[] 47 "told" ps (Dc K cs 30):=EL (i:=30) (()) (()) (anyS (AAw B F.ACC) (λ_ _ _=>rfl) (λ_ _ _=>Ah _ _)) (());have c31:∃ps,#[] 47 "evenday" ps (Dc K cs 31):=EL (i:=31) (()) (()) (anyM (ABg E RP F.jc) (λ_ g=>g.e) (λ_ _ _=>rfl) (λ_ _ _=>Ah _ _)) (());have c32:∃ps,#[] 47 "evengain" ps (Dc K cs 32):=EL (i:=32) (()) (()) (AD3 (cH B F.dB) (λ_ _ _=>rfl) (λ_ _ _=>Ah _ _)) (());have c33:∃ps,#[] 47 "left" ps (Dc K cs 33):=EL (i:=33) (()) (()) (AD3 (AA3 B F.AB2) (λ_ _ _=>rfl) (λ_ _ _=>Ah _ _)) (());have c34:∃ps,#[] 47 "evenworth" ps (Dc K cs 34):=EL (i:=34) (()) (()) (FC (rp E AW F.Y7) (λ_ g=>g.e) (λ_ _ _=>rfl) (λ_ _ _=>Ah _ _)) (());have c35:∃ps,#[] 47 "evenlook" ps (Dc K cs 35):=EL (i:=35) (()) (()) (FC (vx E AC F.dC) (λ_ g=>g.e) (λ_ _ _=>rfl) (λ_ _ _=>Ah _ _)) (());have c36:∃ps,#[] 47 "evendare" ps (Dc K cs 36):=EL (i:=36) (()) (()) (FC (vy E AC F.dA) (λ_ g=>g.e) (λ_ _ _=>rfl) (λ_ _ _=>Ah _ _)) (());have c37:∃ps,#[] 47 "worthof" ps (Dc K cs 37):=EL (i:=37) (()) (()) (FC (cW E F.jm) (λ_ g=>g.e) (λ_ _ _=>rfl) (λ_ _ _=>Ah _ _)) (());have c38:∃ps,#[] 47 "eveniffine" ps (Dc K cs 38):=EL (i:=38) (()) (()) (FC (jK E AW F.W') (λ_ g=>g.e) (λ_ _ _=>rfl) (λ_ _ _=>Ah _ _)) (());have c39:∃ps,#[] 47 "iflook" ps (Dc K cs 39):=EL (i:=39) (()) (()) (FC (jP E AC RC MO F.so) (λ_ g=>g.e) (λ_ _ _=>rfl) (λ_ _ _=>Ah _ _)) (());have c40:∃ps,#[] 47 "ifdare" ps (Dc K cs 40):=EL (i:=40) (()) (()) (FC (jR E AC RC LI F.sk) (λ_ g=>g.e) (λ_ _ _=>rfl) (λ_ _ _=>Ah _ _)) (());have c41:∃ps,#[] 47 "evencaught" ps (Dc K cs 41):=EL (i:=41) (()) (()) (FC (jL E AE F.W_) (λ_ g=>g.e) (λ_ _ _=>rfl) (λ_ _ _=>Ah _ _)) (());have c42:∃ps,#[] 47 "done" ps (Dc K cs 42):=EL (i:=42) (()) (()) (FC (vz E AE F.ABw) (λ_ g=>g.e) (λ_ _ _=>rfl) (λ_ _ _=>Ah _ _)) (());have c43:∃ps,#[] 47 "looked" ps (Dc K cs 43):=EL (i:=43) (()) (()) (FC (jO E LA F.su) (λ_ g=>g.e) (λ_ _ _=>rfl) (λ_ _ _=>Ah _ _)) (());have c44:∃ps,#[] 47 "spare" ps (Dc K cs 44):=EL (i:=44) (()) (()) (FC (r_ E LL F.wa) (λ_ g=>g.e) (λ_ _ _=>rfl) (λ_ _ _=>Ah _ _)) (());have c45:∃ps,#[] 47 "looksfor" ps (Dc K cs 45):=EL (i:=45) (()) (()) (FC (Yw E IP F.dM) (λ_ g=>g.e) (λ_ _ _=>rfl) (λ_ _ _=>Ah _ _)) (());have c46:∃ps,#[] 47 "finefor" ps (Dc K cs 46):=EL (i:=46) (()) (()) (FC (cg E IP AW F.jd) (λ_ g=>g.e) (λ_ _ _=>rfl) (λ_ _ _=>Ah _ _)) (());have c47:∃ps,#[] 47 "plan" ps (Dc K cs 47):=EL (i:=47) (()) (()) (anyM (ABP T IW F.AB7) (λ_ g=>g.t) (λ_ _ _=>rfl) (λ_ _ _=>Ah _ _)) (());have c48:∃ps,#[] 47 "dropplan" ps (Dc K cs 48):=EL (i:=48) (()) (()) (anyM (ABQ T F.c_) (λ_ g=>g.t) (λ_ _ _=>rfl) (λ_ _ _=>Ah _ _)) (());have c49:∃ps,#[] 47 "weight" ps (Dc K cs 49):=EL (i:=49) (()) (()) (anyM (rQ T IW F.sx) (λ_ g=>g.t) (λ_ _ _=>rfl) (λ_ _ _=>Ah _ _)) (());have c50:∃ps,#[] 47 "planmisdeeds" ps (Dc K cs 50):=EL (i:=50) (()) (()) (anyM (cQ T F.SY) (λ_ g=>g.t) (λ_ _ _=>rfl) (λ_ _ _=>Ah _ _)) (());have c51:∃ps,#[] 47 "planfine" ps (Dc K cs 51):=EL (i:=51) (()) (()) (anyM (ABR T F.dO) (λ_ g=>g.t) (λ_ _ _=>rfl) (λ_ _ _=>Ah _ _)) (());have c52:∃ps,#[] 47 "fair" ps (Dc K cs 52):=EL (i:=52) (()) (()) (anyM (ABS T F.ABy) (λ_ g=>g.t) (λ_ _ _=>rfl) (λ_ _ _=>Ah _ _)) (());have c53:∃ps,#[] 47 "reply" ps (Dc K cs 53):=EL (i:=53) (()) (()) (FC (ve T TR F.wY) (λ_ g=>g.t) (λ_ _ _=>rfl) (λh _ _=>(Ah _ _).trans (qT (qI h _ _)))) (());have c54:∃ps,#[] 47 "daresnow" ps (Dc K cs 54):=EL (i:=54) (()) (()) (FC (vj T TA F.cz) (λ_ g=>g.t) (λ_ _ _=>rfl) (λh _ _=>(Ah _ _).trans (qT (qI h _ _)))) (());have c55:∃ps,#[] 47 "seen" ps (Dc K cs 55):=EL (i:=55) (()) (()) (FC (ABM T TA F.ACA) (λ_ g=>g.t) (λ_ _ _=>rfl) (λh _ _=>(Ah _ _).trans (qT (qI h _ _)))) (());have c56:∃ps,#[] 47 "planlooked" ps (Dc K cs 56):=EL (i:=56) (()) (()) (FC (rD T F.XF) (λ_ g=>g.t) (λ_ _ _=>rfl) (λh _ _=>(Ah _ _).trans (qT (qI h _ _)))) (());have c57:∃ps,#[] 47 "meanlooks" ps (Dc K cs 57):=EL (i:=57) (()) (()) (FC (ABK T F.ZA) (λ_ g=>g.t) (λ_ _ _=>rfl) (λh _ _=>(Ah _ _).trans (qT (qI h _ _)))) (());have c58:∃ps,#[] 47 "mostlooks" ps (Dc K cs 58):=EL (i:=58) (()) (()) (FC (ABG T ML F.ZC) (λ_ g=>g.t) (λ_ _ _=>rfl) (λh _ _=>(Ah _ _).trans (qT (qI h _ _)))) (());have c59:∃ps,#[] 47 "worthlooks" ps (Dc K cs 59):=EL (i:=59) (()) (()) (FC (rH T LW F.XG) (λ_ g=>g.t) (λ_ _ _=>rfl) (λ_ _ _=>Ah _ _)) (());have c60:∃ps,#[] 47 "over" ps (Dc K cs 60):=EL (i:=60) (()) (()) (FC (ABJ T TR LW ML F.AB5) (λ_ g=>g.t) (λ_ _ _=>rfl) (λh _ _=>(Ah _ _).trans (qT (qI h _ _)))) (());have c61:∃ps,#[] 47 "bestchance" ps (Dc K cs 61):=EL (i:=61) (()) (()) (FC (rN T F.W7) (λ_ g=>g.t) (λ_ _ _=>rfl) (λ_ _ _=>Ah _ _)) (());have c62:∃ps,#[] 47 "bestlooked" ps (Dc K cs 62):=EL (i:=62) (()) (()) (FC (jD T F.W8) (λ_ g=>g.t) (λ_ _ _=>rfl) (λ_ _ _=>Ah _ _)) (());have c63:∃ps,#[] 47 "planscaught" ps (Dc K cs 63):=EL (i:=63) (()) (()) (FC (rJ T TE F.Tg) (λ_ g=>g.t) (λ_ _ _=>rfl) (λh _ _=>(Ah _ _).trans (qT (qI h _ _)))) (());have c64:∃ps,#[] 47 "plansdone" ps (Dc K cs 64):=EL (i:=64) (()) (()) (FC (ABH T TE F.ZD) (λ_ g=>g.t) (λ_ _ _=>rfl) (λh _ _=>(Ah _ _).trans (qT (qI h _ _)))) (());have c65:∃ps,#[] 47 "unlooked" ps (Dc K cs 65):=EL (i:=65) (()) (()) (FC (cP T F.dS) (λ_ g=>g.t) (λ_ _ _=>rfl) (λh _ _=>(Ah _ _).trans (qT (qI h _ _)))) (());have c66:∃ps,#[] 47 "plans" ps (Dc K cs 66):=EL (i:=66) (()) (()) (FC (ABN T F.wW) (λ_ g=>g.t) (λ_ _ _=>rfl) (λ_ _ _=>Ah _ _)) (());have A:jY (λi n=>∃ps,#[] 47 n ps (Dc K cs i)) 0 jZ:=(.cons c0 (.cons c1 (.cons c2 (.cons c3 (.cons c4 (.cons c5 (.cons c6 (.cons c7 (.cons c8 (.cons c9 (.cons c10 (.cons c11 (.cons c12 (.cons c13 (.cons c14 (.cons c15 (.cons c16 (.cons c17 (.cons c18 (.cons c19 (.cons c20 (.cons c21 (.cons c22 (.cons c23 (.cons c24 (.cons c25 (.cons c26 (.cons c27 (.cons c28 (.cons c29 (.cons c30 (.cons c31 (.cons c32 (.cons c33 (.cons c34 (.cons c35 (.cons c36 (.cons c37 (.cons c38 (.cons c39 (.cons c40 (.cons c41 (.cons c42 (.cons c43 (.cons c44 (.cons c45 (.cons c46 (.cons c47 (.cons c48 (.cons c49 (.cons c50 (.cons c51 (.cons c52 (.cons c53 (.cons c54 (.cons c55 (.cons c56 (.cons c57 (.cons c58 (.cons c59 (.cons c60 (.cons c61 (.cons c62 (.cons c63 (.cons c64 (.cons c65 (.cons c66 .nil)))))))))))))))))))))))))))))))))))))))))))))))))))))))))))))))))));have C:Calls P w K mg base cs fw fd fe fp:=⟨F.cw,F.cd,F.ce,F.cp,F.aw.len,F.ad.len,F.ae.len,F.ap.len,λi f hf=>wN A (F.aw.app (F.ad.app (F.ae.app F.ap))) (by rw[←Lh,←Lh];exact hf)⟩;have MC:=ABn F.len C F.Y';have AN:=sX E F.bE F.uN MC PP KC F.sg;exact jX E WI F.ar AN D
end
section
abbrev bA(x q:Str)(st:Stmt)(ps:List Str)(kV doc pm:Value)(an:Option Addr)(CL ct:Value)(us:List Value):Prop:=bindArgs (QT x q (Mh st) (FV st) (BE st) .none kV doc pm an CL ct) ⟨us,[]⟩=pure (ps.zip us)
theorem rg{us:List Value}{n:Nat}(h:us.length=n):(Cv n).map (us.getD · .none)=us:=by
 subst h;exact List.ext_getElem (by simp) λi h1 h2=>by simp[h2]
def BA(x q:Str)(st:Stmt)(ps:List Str):Prop:=∀kV doc pm an CL ct (v:Nat->Value),bA x q st ps kV doc pm an CL ct ((Cv ps.length).map v)
theorem ba{x q:Str}{st:Stmt}{ps:List Str}(b:BA x q st ps)(kV doc pm:Value)(an:Option Addr)(CL ct:Value)(us:List Value)(h:us.length=ps.length):bA x q st ps kV doc pm an CL ct us:=by
 have:=b kV doc pm an CL ct (us.getD · .none);rw[rg h] at this;exact this
def gT(t:Ht)(a:Nat):Option Obj:=(t.get a).bind PySem.W.alive
def aL:List Nat:= [3,187,186,500,499,556,555,940,939,975,974,1010,1009,1057,1056]++Cv 1183
def KT(t:Ht):Ab:=aL.filterMap λa=>(gT t a).map λo=>(a,o)
theorem QP{g:Nat->Option Obj}{a:Nat}:∀{l:List Nat},a∈l->(l.filterMap λa=>(g a).map λo=>(a,o)).lookup a=g a
 | [],h=>nomatch h
 |b::l,h=>by
  by_cases e:a=b
  ·subst e;rw[Nb];cases q:g a with
   |some o=>simp
   |none=>
    simp only[Option.map_none];by_cases m:a∈l
    ·rw[QP m,q]
    ·have:∀{l:List Nat},a∉l->(l.filterMap λa=>(g a).map λo=>(a,o)).lookup a=none:=by
      intro l;induction l with
      |nil=>intro _;rfl
      |cons c l ih=>
       intro m;rw[Nb];cases g c with
       |none=>exact ih λz=>m (.tail _ z)
       |some o=>
        rw[Ly];show Gp a ((c,o)::_)=_;rw[LQ,show(a==c)=false by simpa using λz:a=c=>m (z▸ .head _)];exact ih λz=>m (.tail _ z)
     exact this m
  ·have m:a∈l:=by cases h with|head=>exact absurd rfl e|tail _ m=>exact m
   rw[Nb];cases g b with
   |none=>exact QP m
   |some o=>
    rw[Ly];show Gp a ((b,o)::_)=_;rw[LQ,show(a==b)=false by simpa using e];exact QP m
theorem AEF{a:Nat}(h:U0 a 1183=true):a∈aL:=EF _ (Gn.mpr (Cm (kU h) (As _)))
theorem gi{t:Ht}{a:Nat}(h:U0 a 1183=true):(KT t).lookup a=gT t a:=QP (AEF h)
theorem AEG:∀a∈aL,a<1183:=λa h=>by
 rcases Eb.mp h with h|h
 ·revert a;decide
 ·exact Gn.mp h
theorem ZF{α:Type}{a:Nat}{o:α}:∀{l:List (Nat×α)},l.lookup a=some o->(a,o)∈l
 | [],h=>nomatch h
 |(b,u)::l,h=>by
  by_cases e:a=b
  ·subst e;rw[List.lookup_cons_self] at h;cases h;exact .head _
  ·rw[LQ,show(a==b)=false by simpa using e] at h;exact .tail _ (ZF h)
theorem AEH(t:Ht)(life:Life):(KT t).In (PySem.W.absHeap t 1183 life):=λa o h=>by
 obtain⟨b,hb,e⟩:=ZY.mp (ZF h);obtain⟨u,hu,z⟩:=l8.mp e;cases z;obtain⟨v,hv,hz⟩:=Option.bind_eq_some_iff.mp hu;rw[PySem.W.abs_get (AEG _ hb) hv,hz]
abbrev Fo:=Str×Str×Arguments×FuncBody×Scope×Addr×List (Str×Addr)×Value×Addr
def fob(t:Ht)(q:Str):Option (Option Value)->Option Fo
 |some (some (.ref f))=>(match gT t f with
  |some ⟨.type s,_,.func o,_⟩=>(match o.code with
   | .ref c=>(match gT t c with
    |some ⟨_,_,.fields vs,_⟩=>(match vs.toList with
     |_:: .str nm _::_=>if U0 f 1183 && U0 c 1183 && s=="function" && nm==q then some (o.name,o.qualname,o.params,o.body,o.scope,o.globals,o.closure,o.defaults,o.builtins) else none
     |_=>none)
    |_=>none)
   |_=>none)
  |_=>none)
 |_=>none
def fex(x q:Str)(st:Stmt):Option Fo:=some (x,q,Mh st,.stmts (FV st),BE st,mainGlobals,[],.none,builtinsNs)
theorem dU{t:Ht}{x q:Str}{st:Stmt}{v:Option (Option Value)}(e:fob t q v=fex x q st):∃f fo,v=some (some (.ref f))/\uR (KT t) x q st f fo/\QS (KT t) (.ref f)=true/\J8 (KT t) (.ref f)=true:=by
 unfold fob at e;split at e
 ·rename_i f;split at e
  ·rename_i s od o Sk hf;split at e
   ·rename_i c hc;split at e
    ·rename_i oc' od' vs AF9 hcc;split at e
     ·rename_i u nm tk r hv;split at e
      ·rename_i cond;simp only[DV,beq_iff_eq] at cond;obtain⟨⟨⟨c1,c2⟩,c3⟩,c4⟩:=cond;subst c3 c4;have kf:=(gi (t:=t) c1).trans hf;have kc:=(gi (t:=t) c2).trans hcc;have hk:J8 (KT t) (.ref f)=true:=by
        simp only[J8,kf]
       obtain⟨n1,n2,n3,n4,n5,n6,n7,n8,n9,n10,n11,n12,n13,n14,n15⟩:=o;unfold fex at e;simp only[Z6,Prod.mk.injEq] at e;obtain⟨rfl,rfl,rfl,rfl,rfl,rfl,rfl,rfl,rfl⟩:=e;refine⟨f,_,AA,⟨⟨_,_,_,_,_,_,_,_,_,AA,kf,?_⟩,hk⟩,?_,hk⟩
       ·obtain rfl:n13=_:=hc;simp only[ZS,kc,hv,beq_self_eq_true]
       ·simp only[QS,j6,kf,Ly];rfl
      ·exact nomatch e
     ·exact nomatch e
    ·exact nomatch e
   ·exact nomatch e
  ·exact nomatch e
 ·exact nomatch e
section
variable{t:Ht}{mg:Str->Option Value}{h:Heap}
theorem Ac{x:Str}{st:Stmt}{ps:List Str}(X:(KT t).In h)(G:h.Ns mainGlobals mg)(e:fob t x (HM (KT t) mainGlobals x)=fex x x st)(b:BA x x st ps:=by intro _ _ _ _ _ _ _;kernel_rfl):Def (KT t) mg x st ps:=by
 obtain⟨f,fo,e1,F,_⟩:=dU e;exact⟨f,fo,J_ X G e1,F,F.binds (ba b)⟩
theorem A4{C:Addr}{m q:Str}{st:Stmt}{ps:List Str}(e:fob t q (IH (KT t) (.ref C) m)=fex m q st)(b:BA m q st ps:=by intro _ _ _ _ _ _ _;kernel_rfl):A1 (KT t) C m q st ps:=by
 obtain⟨f,fo,e1,F,i,k⟩:=dU e;exact⟨f,fo,⟨e1,i,k⟩,F,F.binds (ba b)⟩
end
section
variable{K:Ab}{mg:Str->Option Value}{h:Heap}
def iB:List Int->List Value->Bool
 | [],[]=>true
 |i::is,.int j _::vs=>i==j && iB is vs
 |_,_=>false
theorem XH:∀{is:List Int} {vs:List Value},iB is vs=true->Vals (is.map V.int) vs
 | [],[],_=> .nil
 |i::is,.int j t::vs,e=>by
  simp only[iB,DV,beq_iff_eq] at e;obtain⟨rfl,e⟩:=e;exact .cons ⟨t,rfl⟩ (XH e)
def rB:List Addr->List Value->Bool
 | [],[]=>true
 |i::is,.ref j::vs=>Qj i j && rB is vs
 |_,_=>false
theorem gj:∀{is:List Addr} {vs:List Value},rB is vs=true->Vals (is.map V.ref) vs
 | [],[],_=> .nil
 |i::is,.ref j::vs,e=>by
  simp only[rB,DV] at e;obtain⟨e1,e⟩:=e;obtain rfl:=Ut e1;exact .cons rfl (gj e)
theorem sy{a:Addr}{od:Option Addr}{its:Array Value}{n:Nat}{Sk:Array (Option Value)}{xs:List V}(l:K.lookup a=some ⟨.type "tuple",od,.seq its n,Sk⟩)(s:its.toList.length<=1000)(v:Vals xs its.toList)(H:Hp):Bi K H a xs:=
 .inr ⟨_,its,n,l,rfl,rfl,A6 (by simpa using s) (()),v⟩
theorem AEI{x:Str}{r:Rat}{a:Addr}{od:Option Addr}{its:Array Value}{m:Nat}{Sk:Array (Option Value)}(X:K.In h)(G:h.Ns mainGlobals mg)(b:HM K mainGlobals x=some (some (.ref a)))(l:K.lookup a=some ⟨.type "tuple",od,.seq its m,Sk⟩)(e:its.toList.length<=1000/\iB [r.num,(r.den:Nat)] its.toList=true):GQ K mg x r:=
 ⟨a,J_ X G b,λH=>sy l e.1 (XH e.2) H⟩
theorem ACE{x:Str}{ns:List Nat}{a:Addr}{od:Option Addr}{its:Array Value}{m:Nat}{Sk:Array (Option Value)}(X:K.In h)(G:h.Ns mainGlobals mg)(b:HM K mainGlobals x=some (some (.ref a)))(l:K.lookup a=some ⟨.type "tuple",od,.seq its m,Sk⟩)(e:its.toList.length<=1000/\iB (ns.map Int.ofNat) its.toList=true):ABq K mg x ns:=
 ⟨a,J_ X G b,λH=>sy l e.1 (by have z:=XH e.2;rw[Lm] at z;exact z) H⟩
theorem ACF{x:Str}{fs:List Addr}{a:Addr}{od:Option Addr}{its:Array Value}{m:Nat}{Sk:Array (Option Value)}(X:K.In h)(G:h.Ns mainGlobals mg)(b:HM K mainGlobals x=some (some (.ref a)))(l:K.lookup a=some ⟨.type "tuple",od,.seq its m,Sk⟩)(e:its.toList.length<=1000/\rB fs its.toList=true):Tb K mg x fs:=
 ⟨a,J_ X G b,λH=>sy l e.1 (gj e.2) H⟩
def iR(a:Addr):Option (Option Value)->Bool
 |some (some (.ref b))=>Qj a b
 |_=>false
theorem xy{a:Addr}{v:Option (Option Value)}(h:iR a v=true):v=some (some (.ref a)):=by
 unfold iR at h;split at h
 ·rw[Ut h]
 ·exact nomatch h
def iI(i:Int):Option (Option Value)->Bool
 |some (some (.int j _))=>i==j
 |_=>false
theorem AEJ{x:Str}{i:Int}(X:K.In h)(G:h.Ns mainGlobals mg)(e:iI i (HM K mainGlobals x)=true):B' mg x i:=by
 unfold iI at e;split at e
 ·rename_i j t q;exact⟨t,by rw[J_ X G q,beq_iff_eq.mp e]⟩
 ·exact nomatch e
def iN:Option (Option Value)->Bool
 |some none=>true
 |_=>false
theorem x8{v:Option (Option Value)}(h:iN v=true):v=some none:=by
 unfold iN at h;split at h
 ·rfl
 ·exact nomatch h
def iS:Option (Option Value)->Bool
 |some (some (.builtin s))=>s=="object.__setattr__"
 |_=>false
theorem AEK{v:Option (Option Value)}(h:iS v=true):v=some (some (.builtin "object.__setattr__")):=by
 unfold iS at h;split at h
 ·rw[beq_iff_eq.mp h]
 ·exact nomatch h
def cB(K:Ab)(x:Str)(C:Addr)(ns:List Str):Bool:=iR C (HM K mainGlobals x) && QR K C Str.empty && Uo K C && ZP K C && iS (IH K (.ref C) "__setattr__") && Up K C && J8 K (.ref C) && ns.all λn=>iN (IH K (.ref C) n)
theorem Sj{x:Str}{C:Addr}{ns:List Str}(X:K.In h)(G:h.Ns mainGlobals mg)(e:cB K x C ns=true):jr K mg x C/\∀n∈ns,BC K C n:=by
 unfold cB at e;simp only[DV] at e;obtain⟨⟨⟨⟨⟨⟨⟨e1,e2⟩,e3⟩,e4⟩,e5⟩,e6⟩,e7⟩,e8⟩:=e;exact⟨⟨⟨e2,e3,e4,AEK e5⟩,J_ X G (xy e1),e6,e7⟩,λn m=>x8 (Li.mp e8 n m)⟩
def tB(K:Ab)(x:Str)(p:List Value->Bool):Bool:=match HM K mainGlobals x with
 |some (some (.ref a))=>(match K.lookup a with
  |some ⟨.type s,_,.seq its _,_⟩=>s=="tuple" && Nat.ble its.toList.length 1000 && p its.toList
  |_=>false)
 |_=>false
theorem gk{x:Str}{p:List Value->Bool}(e:tB K x p=true):∃a od its m Sk,HM K mainGlobals x=some (some (.ref a))/\K.lookup a=some ⟨.type "tuple",od,.seq its m,Sk⟩/\its.toList.length<=1000/\p its.toList=true:=by
 unfold tB at e;split at e
 ·rename_i a q;split at e
  ·rename_i s od its m Sk l;simp only[DV,beq_iff_eq] at e;obtain⟨⟨rfl,e2⟩,e3⟩:=e;exact⟨a,od,its,m,Sk,q,l,kU e2,e3⟩
  ·exact nomatch e
 ·exact nomatch e
def ad(K:Ab)(x:Str):Addr:=match HM K mainGlobals x with
 |some (some (.ref a))=>a
 |_=>0
theorem x9(X:K.In h)(G:h.Ns mainGlobals mg):∀{ns:List Str},(ns.all λn=>iR (ad K n) (HM K mainGlobals n))=true->Nm mg ns (ns.map (ad K))
 | [],_=> .nil
 |n::ns,e=>by
  rw[List.all_cons,DV] at e;exact .cons (J_ X G (xy e.1)) (x9 X G e.2)
def lB(K:Ab)(x:Str)(ns:List Str):Bool:=(ns.all λn=>iR (ad K n) (HM K mainGlobals n)) && tB K x (rB (ns.map (ad K)))
theorem gm{x:Str}{ns:List Str}(X:K.In h)(G:h.Ns mainGlobals mg)(e:lB K x ns=true):Nm mg ns (ns.map (ad K))/\Tb K mg x (ns.map (ad K)):=by
 unfold lB at e;rw[DV] at e;obtain⟨a,od,its,m,Sk,q,l,s,p⟩:=gk e.2;exact⟨x9 X G e.1,ACF X G q l ⟨s,p⟩⟩
def iL:List (Str×Int):= [("NO_SUCH",(-2)),("NOTHING_THERE",(-6)),("NOT_BEGUN",(-11)),("OUT_OF_BOUNDS",(-22)),("FULL",(-28)),("NOT_POSSIBLE",(-33)),("MOST_DAYS_dayscalls",4),("MOST_BROUGHT",3),("MOST_LEFT",5),("MOST_FINE_dayscalls",3),("MOST_PLANS",10),("MOST_WEIGHT",1000),("MOST_MISDEEDS",6),("MOST_FINE_plancalls",9),("MOST_DAYS_evencalls",8),("MOST_FINE_evencalls",9),("MOST_FINE_SOUGHT",99),("MOST_PARTS",1000),("MOST_CHANCES",100),("MOST_KEPT",12),("BEGIN",0),("UNDO",8)]
def nL:List Str:= ["len","abs","list","dict","enumerate","range","sum","max"]
def fB(K:Ab):Bool:=(iL.all λd=>iI d.2 (HM K mainGlobals d.1)) && (nL.all λn=>iN (HM K mainGlobals n)) && cB K "Season" 940 ["days","looks","misdeeds","fine","has","caught"] && cB K "Alike" 975 ["days","looks","misdeeds","fine","gained","caught"] && cB K "Table" 1010 ["days","misdeeds","fine","plans"] && cB K "Whole" 1057 ["season","alike","table","kept"] && cB K "Outlook" 187 ["days","fine","reckoned"] && cB K "Answerer" 500 LZ && cB K "EvenChances" 556 ["days","fine","outlook"] && tB K "ZERO" (iB [0,1]) && tB K "ONE" (iB [1,1]) && tB K "ARGUMENTS" (iB (args.map Int.ofNat)) && lB K "WHOLE_CALLS" nW && lB K "DAYS_CALLS" nD && lB K "EVEN_CALLS" nE && lB K "PLAN_CALLS" nP
abbrev dp(x:Str)(s:Stmt):Str×Stmt:=(x,s)
abbrev mp(a:Addr)(m q:Str)(s:Stmt):Addr×Str×Str×Stmt:=(a,m,q,s)
def dL:List (Str×Stmt):= [dp "add_chance" Es,dp "alike_chances" ET,dp "alike_end" Hg,dp "alike_worth" FY,dp "all_weights" FX,dp "answer" M7,dp "begin" QH,dp "best" WJ,dp "best_look" He,dp "best_plan" Hd,dp "bestchance" Gd,dp "bestlooked" Ge,dp "brings" Mp,dp "brought" K5,dp "caught" Mq,dp "dare" V3,dp "darefrom" JM,dp "daresnow" JX,dp "day" ff,dp "divided" K1,dp "done" V',dp "drop" V0,dp "dropplan" JV,dp "even_outlook" Ey,dp "even_worth" GV,dp "evencaught" GY,dp "evendare" JT,dp "evenday" K9,dp "evengain" JR,dp "eveniffine" GX,dp "evenlook" JS,dp "evenworth" Hi,dp "fair" WC,dp "fine" V1,dp "finefor" K',dp "firstday" JO,dp "four" V4,dp "from_day" JK,dp "from_whole" GR,dp "gain" WK,dp "greater" K3,dp "greatest_common" Di,dp "has_day" K8,dp "ifbrings" JN,dp "ifdare" Mw,dp "iffine" Mr,dp "iflook" Mv,dp "iflooks" K6,dp "ifplayed" Ja,dp "in_the_end" Et,dp "is_beyond" Hc,dp "is_fine" K4,dp "is_less" K2,dp "is_over" LB,dp "is_parts" JQ,dp "is_weight" Hj,dp "least_if_dared" D_,dp "left" V8,dp "lesser" Ml,dp "look" V2,dp "looked" Mx,dp "looked_at" Hf,dp "lookfrom" JL,dp "looking_on" GU,dp "looks" QB,dp "looks_left" GW,dp "looks_worth" Fd,dp "looksfor" JU,dp "made_call" Fz,dp "mean" WH,dp "meanlooks" Hl,dp "minus" P_,dp "misdeeds" JJ,dp "mixed" QA,dp "most_if_looked" D9,dp "most_looks" GZ,dp "mostlooks" Hm,dp "multiplied" GS,dp "not_looking_on" D8,dp "over" WE,dp "past" WM,dp "plan" WA,dp "planfine" JW,dp "planlooked" Ga,dp "planmisdeeds" Ez,dp "plans" QG,dp "planscaught" Fe,dp "plansdone" Hn,dp "play" WG,dp "play_day" JZ,dp "plus" Vz,dp "ratio" P9,dp "refused_brings" D7,dp "refused_chance" D',dp "refused_from" Ex,dp "refused_play" Eu,dp "refused_season_play" Cb,dp "reply" QF,dp "season_mean" Fj,dp "season_outlook" D6,dp "season_worth" Ew,dp "seen" WD,dp "share" QD,dp "size" V6,dp "spare" QE,dp "table_answerer" EA,dp "table_end" Hk,dp "table_reply" FZ,dp "times" P',dp "toeven" M6,dp "told" V5,dp "told_ratios" FW,dp "toplans" LD,dp "undo" WL,dp "unlooked" JY,dp "weight" Mz,dp "without" K7,dp "worth" QC,dp "worthlooks" Gb,dp "worthof" K_,dp "answers" FR]
def mL:List (Addr×Str×Str×Stmt):= [mp 975 "__init__" "Alike.__init__" EB,mp 975 "copied" "Alike.copied" E7,mp 975 "facts" "Alike.facts" Ff,mp 500 "__init__" "Answerer.__init__" CB,mp 500 "best" "Answerer.best" DZ,mp 500 "best_got" "Answerer.best_got" DE,mp 500 "got" "Answerer.got" Dt,mp 500 "if_dared" "Answerer.if_dared" CC,mp 500 "if_waited" "Answerer.if_waited" Bz,mp 556 "__init__" "EvenChances.__init__" CF,mp 556 "dare_chance" "EvenChances.dare_chance" Bk,mp 556 "look_chance" "EvenChances.look_chance" Bj,mp 187 "__init__" "Outlook.__init__" DS,mp 187 "dare_chance" "Outlook.dare_chance" Bo,mp 187 "four" "Outlook.four" Ds,mp 187 "is_tempting" "Outlook.is_tempting" Bm,mp 187 "look_chance" "Outlook.look_chance" Bn,mp 187 "neither" "Outlook.neither" Cr,mp 187 "reckon" "Outlook.reckon" CQ,mp 187 "seen" "Outlook.seen" Dr,mp 187 "unseen" "Outlook.unseen" DI,mp 187 "waited" "Outlook.waited" DH,mp 187 "worth" "Outlook.worth" DY,mp 940 "__init__" "Season.__init__" Dj,mp 940 "copied" "Season.copied" EU,mp 940 "facts" "Season.facts" E6,mp 1010 "__init__" "Table.__init__" EC,mp 1010 "copied" "Table.copied" E8,mp 1010 "facts" "Table.facts" Fg,mp 1057 "__init__" "Whole.__init__" ED,mp 1057 "begin" "Whole.begin" Fh,mp 1057 "keep_if_changed" "Whole.keep_if_changed" B8,mp 1057 "parts" "Whole.parts" Fi,mp 1057 "take_back" "Whole.take_back" Dk]
end
def oG(t:Ht):List (Option Fo)×List (Option Fo):=(dL.map λd=>fob t d.1 (HM (KT t) mainGlobals d.1),mL.map λm=>fob t m.2.2.1 (IH (KT t) (.ref m.1) m.2.1))
def eG:List (Option Fo)×List (Option Fo):=(dL.map λd=>fex d.1 d.1 d.2,mL.map λm=>fex m.2.1 m.2.2.1 m.2.2.2)
theorem FE{α:Type}{l:List α}{x:α}(i:Nat)(h:l[i]? =some x:=by rfl):x∈l:=II h
theorem pt{α β:Type}{f g:α->β}{l:List α}(e:l.map f=l.map g)(i:Nat){x:α}(h:l[i]? =some x:=by rfl):f x=g x:=pt0 e _ (II h)
set_option maxHeartbeats 0 in
theorem AEL{t:Ht}{mg:Str->Option Value}{h:Heap}(X:(KT t).In h)(G:h.Ns mainGlobals mg)(z:oG t=eG)(y:fB (KT t)=true):Fx (KT t) mg ⟨940,975,1010,1057⟩ 187 500 556 (nW.map (ad (KT t))) (nD.map (ad (KT t))) (nE.map (ad (KT t))) (nP.map (ad (KT t))):=by
 replace z:=m5 z;simp only[fB,DV] at y;obtain⟨⟨⟨⟨⟨⟨⟨⟨⟨⟨⟨⟨⟨⟨⟨i1,n1⟩,c1⟩,c2⟩,c3⟩,c4⟩,c5⟩,c6⟩,c7⟩,q0⟩,q1⟩,qa⟩,lw⟩,ld⟩,le⟩,lp⟩:=y;have i:=λd m=>AEJ (x:=d.1) (i:=d.2) X G (Li.mp i1 d m);have n:=λx m=>PySem.W.mg_none_of X G (x8 (Li.mp n1 x m));obtain⟨_,_,_,_,_,b0,l0,s0,p0⟩:=gk q0;obtain⟨_,_,_,_,_,b1,l1,s1,p1⟩:=gk q1;obtain⟨_,_,_,_,_,ba,la,sa,pa⟩:=gk qa;replace c1:=Sj X G c1;replace c2:=Sj X G c2;replace c3:=Sj X G c3;replace c4:=Sj X G c4;replace c5:=Sj X G c5;replace c6:=Sj X G c6;replace c7:=Sj X G c7;replace lw:=gm X G lw;replace ld:=gm X G ld;replace le:=gm X G le;replace lp:=gm X G lp;exact⟨Ac X G (pt z.1 0),
  Ac X G (pt z.1 1),
  Ac X G (pt z.1 2),
  Ac X G (pt z.1 3),
  Ac X G (pt z.1 4),
  Ac X G (pt z.1 5),
  Ac X G (pt z.1 6),
  Ac X G (pt z.1 7),
  Ac X G (pt z.1 8),
  Ac X G (pt z.1 9),
  Ac X G (pt z.1 10),
  Ac X G (pt z.1 11),
  Ac X G (pt z.1 12),
  Ac X G (pt z.1 13),
  Ac X G (pt z.1 14),
  Ac X G (pt z.1 15),
  Ac X G (pt z.1 16),
  Ac X G (pt z.1 17),
  Ac X G (pt z.1 18),
  Ac X G (pt z.1 19),
  Ac X G (pt z.1 20),
  Ac X G (pt z.1 21),
  Ac X G (pt z.1 22),
  Ac X G (pt z.1 23),
  Ac X G (pt z.1 24),
  Ac X G (pt z.1 25),
  Ac X G (pt z.1 26),
  Ac X G (pt z.1 27),
  Ac X G (pt z.1 28),
  Ac X G (pt z.1 29),
  Ac X G (pt z.1 30),
  Ac X G (pt z.1 31),
  Ac X G (pt z.1 32),
  Ac X G (pt z.1 33),
  Ac X G (pt z.1 34),
  Ac X G (pt z.1 35),
  Ac X G (pt z.1 36),
  Ac X G (pt z.1 37),
  Ac X G (pt z.1 38),
  Ac X G (pt z.1 39),
  Ac X G (pt z.1 40),
  Ac X G (pt z.1 41),
  Ac X G (pt z.1 42),
  Ac X G (pt z.1 43),
  Ac X G (pt z.1 44),
  Ac X G (pt z.1 45),
  Ac X G (pt z.1 46),
  Ac X G (pt z.1 47),
  Ac X G (pt z.1 48),
  Ac X G (pt z.1 49),
  Ac X G (pt z.1 50),
  Ac X G (pt z.1 51),
  Ac X G (pt z.1 52),
  Ac X G (pt z.1 53),
  Ac X G (pt z.1 54),
  Ac X G (pt z.1 55),
  Ac X G (pt z.1 56),
  Ac X G (pt z.1 57),
  Ac X G (pt z.1 58),
  Ac X G (pt z.1 59),
  Ac X G (pt z.1 60),
  Ac X G (pt z.1 61),
  Ac X G (pt z.1 62),
  Ac X G (pt z.1 63),
  Ac X G (pt z.1 64),
  Ac X G (pt z.1 65),
  Ac X G (pt z.1 66),
  Ac X G (pt z.1 67),
  Ac X G (pt z.1 68),
  Ac X G (pt z.1 69),
  Ac X G (pt z.1 70),
  Ac X G (pt z.1 71),
  Ac X G (pt z.1 72),
  Ac X G (pt z.1 73),
  Ac X G (pt z.1 74),
  Ac X G (pt z.1 75),
  Ac X G (pt z.1 76),
  Ac X G (pt z.1 77),
  Ac X G (pt z.1 78),
  Ac X G (pt z.1 79),
  Ac X G (pt z.1 80),
  Ac X G (pt z.1 81),
  Ac X G (pt z.1 82),
  Ac X G (pt z.1 83),
  Ac X G (pt z.1 84),
  Ac X G (pt z.1 85),
  Ac X G (pt z.1 86),
  Ac X G (pt z.1 87),
  Ac X G (pt z.1 88),
  Ac X G (pt z.1 89),
  Ac X G (pt z.1 90),
  Ac X G (pt z.1 91),
  Ac X G (pt z.1 92),
  Ac X G (pt z.1 93),
  Ac X G (pt z.1 94),
  Ac X G (pt z.1 95),
  Ac X G (pt z.1 96),
  Ac X G (pt z.1 97),
  Ac X G (pt z.1 98),
  Ac X G (pt z.1 99),
  Ac X G (pt z.1 100),
  Ac X G (pt z.1 101),
  Ac X G (pt z.1 102),
  Ac X G (pt z.1 103),
  Ac X G (pt z.1 104),
  Ac X G (pt z.1 105),
  Ac X G (pt z.1 106),
  Ac X G (pt z.1 107),
  Ac X G (pt z.1 108),
  Ac X G (pt z.1 109),
  Ac X G (pt z.1 110),
  Ac X G (pt z.1 111),
  Ac X G (pt z.1 112),
  Ac X G (pt z.1 113),
  Ac X G (pt z.1 114),
  Ac X G (pt z.1 115),
  Ac X G (pt z.1 116),
  Ac X G (pt z.1 117),
  Ac X G (pt z.1 118),
  Ac X G (pt z.1 119),
  A4 (pt z.2 0),
  A4 (pt z.2 1),
  A4 (pt z.2 2),
  A4 (pt z.2 3),
  A4 (pt z.2 4),
  A4 (pt z.2 5),
  A4 (pt z.2 6),
  A4 (pt z.2 7),
  A4 (pt z.2 8),
  A4 (pt z.2 9),
  A4 (pt z.2 10),
  A4 (pt z.2 11),
  A4 (pt z.2 12),
  A4 (pt z.2 13),
  A4 (pt z.2 14),
  A4 (pt z.2 15),
  A4 (pt z.2 16),
  A4 (pt z.2 17),
  A4 (pt z.2 18),
  A4 (pt z.2 19),
  A4 (pt z.2 20),
  A4 (pt z.2 21),
  A4 (pt z.2 22),
  A4 (pt z.2 23),
  A4 (pt z.2 24),
  A4 (pt z.2 25),
  A4 (pt z.2 26),
  A4 (pt z.2 27),
  A4 (pt z.2 28),
  A4 (pt z.2 29),
  A4 (pt z.2 30),
  A4 (pt z.2 31),
  A4 (pt z.2 32),
  A4 (pt z.2 33),
  i _ (FE 0),
  i _ (FE 1),
  i _ (FE 2),
  i _ (FE 3),
  i _ (FE 4),
  i _ (FE 5),
  i _ (FE 6),
  i _ (FE 7),
  i _ (FE 8),
  i _ (FE 9),
  i _ (FE 10),
  i _ (FE 11),
  i _ (FE 12),
  i _ (FE 13),
  i _ (FE 14),
  i _ (FE 15),
  i _ (FE 16),
  i _ (FE 17),
  i _ (FE 18),
  i _ (FE 19),
  i _ (FE 20),
  i _ (FE 21),
  AEI X G b0 l0 ⟨s0,p0⟩,
  AEI X G b1 l1 ⟨s1,p1⟩,
  ACE X G ba la ⟨sa,pa⟩,
  n _ (FE 0),
  n _ (FE 1),
  n _ (FE 2),
  n _ (FE 3),
  n _ (FE 4),
  n _ (FE 5),
  n _ (FE 6),
  n _ (FE 7),
  ⟨c5.1.cl,c5.1.mgC,c5.2 _ (FE 0),c5.2 _ (FE 1),c5.2 _ (FE 2)⟩,
  c5.1,
  ⟨c1.1,c1.2 _ (FE 0),c1.2 _ (FE 1),c1.2 _ (FE 2),c1.2 _ (FE 3),c1.2 _ (FE 4),c1.2 _ (FE 5)⟩,
  ⟨c2.1,c2.2 _ (FE 0),c2.2 _ (FE 1),c2.2 _ (FE 2),c2.2 _ (FE 3),c2.2 _ (FE 4),c2.2 _ (FE 5)⟩,
  ⟨c3.1,c3.2 _ (FE 0),c3.2 _ (FE 1),c3.2 _ (FE 2),c3.2 _ (FE 3)⟩,
  ⟨c4.1,c4.2 _ (FE 0),c4.2 _ (FE 1),c4.2 _ (FE 2),c4.2 _ (FE 3)⟩,
  ⟨c6.1,c6.2 _ (FE 0),c6.2 _ (FE 1)⟩,
  ⟨c7.1,c7.2 _ (FE 0),c7.2 _ (FE 1),c7.2 _ (FE 2)⟩,
  lw.2,
  lw.1,
  ld.2,
  ld.1,
  le.2,
  le.1,
  lp.2,
  lp.1⟩
theorem ACG{P:Program}{w:World}{t:Ht}{mg:Str->Option Value}{h:Heap}{fa:Addr}(X:(KT t).In h)(G:h.Ns mainGlobals mg)(hfa:mg "answers"=some (.ref fa))(z:oG t=eG)(y:fB (KT t)=true):
  ∃fd:FuncData,(∀(s:Shared) (us:List Value),us.length=(UU:List Str).length->BindsTo s fd ⟨us,[]⟩ ((UU:List Str).zip us))/\∀base:Heap,(KT t).In base->base.Ns mainGlobals mg->GJ P w (KT t) mg base eJ 50 fa fd UU (Y1 (KT t)):=by
 obtain⟨f,fo,e1,F,_⟩:=dU (pt (m5 z).1 120);have e:=hfa.symm.trans (J_ X G e1);cases e;obtain⟨oc,od,kV,doc,pm,an,CL,ct,Sk,rfl,lk,jn⟩:=F.ex;exact⟨_,λs us hu=>match us,hu with| [_],_=> .of_eq rfl,λbase _ _=>fin (AEL X G z y) F⟩
end
end In
set_option maxHeartbeats 0
local macro_rules|`(command|#where)=>do
 let mut c:Array Lean.Syntax:=#[]
 for n in (Cv 1240).map ("o_"++toString ·)++[4,92,94,189,246,333,414,458,517,576,649,743,815,903,940,978,1016,1054,1111,1198,1231].map ("tree_"++toString ·)++[4,94,97,191,248,335,416,460,519,578,651,745,817,905,942,980,1018,1056,1113,1200].map ("sts_"++toString ·)++[""] do
  let m:Lean.Name:=if n=="" then `PySem.Challenge.pw_inspector_s01_answers else .str `Tp n
  c:=c.push (←`(command|theorem $(Lean.mkIdent (.str `PySem.W.Fast ("tw"++toString m.hash))) : True := trivial))
 return Lean.mkNullNode c
#where
open_shared Tp for PySem.Challenge.pw_inspector_s01_answers leaving 0
open PySem PySem.W PyProof.Rows
namespace Hy
noncomputable abbrev pp:Program:=mX
noncomputable abbrev bb:List Stmt:=behindTheImports pp
noncomputable abbrev cE:Code:= .body bb Tp.env_1
noncomputable abbrev p0:Pos:=⟨0,0,0,0⟩
noncomputable abbrev sB (w:World) (os:OsState):SharedT:=⟨Tp.tree_4 w.params,15,{},Hz [],{},187,os⟩
noncomputable abbrev sK (w:World) (os:OsState):SharedT:=⟨Tp.tree_1231 w.params,1183,{},Hz [],{},1878,os⟩
theorem AEM(w:World)(os:OsState):topGo treeTable pp w 11 (some (.ref 6)) 12 ⟨boot_heap w.params,Hz [],boot_drawn,boot_toks,os⟩ (topStub pp)=some ((sB w os).abs,⟨denote treeTable cE,cE,p0,[topFrame p0]⟩):=by kernel_rfl
theorem AEN(w:World)(os:OsState):segRun treeTable pp w 11 (some (.ref 6)) 1 1 (sB w os).abs (blockOf bb Tp.env_1 cE p0 [topFrame p0])=some (.next,(sB w os).abs,cE,p0):=by kernel_rfl
theorem AEO(w:World)(os:OsState):topRun treeTable pp w 11 (some (.ref 6)) 2 (sK w os).abs (restOf [] Tp.env_1 cE ⟨817,0,828,22⟩ [topFrame p0])=some (sK w os).abs:=by kernel_rfl
theorem ACH(w:World):((boot_heap w.params).isNs mainGlobals && (Hz []:Array GenState).size==0,(boot_heap w.params).objs.size,(boot_heap w.params).nsMap mainGlobals "__annotations__")=(true,11,some (.ref 6)):=by kernel_rfl
theorem ACI(N:Nat)(h:Nat.ble 600 N=true):∀w:World,(fencedOpening treeTable pp w N).map (λs=>(s.heap,s.gens,s.drawn,s.toks))=some (boot_heap w.params,Hz [],boot_drawn,boot_toks):=boot_open (p:=pp) (by kernel_rfl) h (λ_=>rfl)
end Hy
namespace Hy
theorem AFm:Tp.sts_4++(Tp.sts_94++(Tp.sts_97++(Tp.sts_191++(Tp.sts_248++(Tp.sts_335++(Tp.sts_416++(Tp.sts_460++(Tp.sts_519++(Tp.sts_578++(Tp.sts_651++(Tp.sts_745++(Tp.sts_817++(Tp.sts_905++(Tp.sts_942++(Tp.sts_980++(Tp.sts_1018++(Tp.sts_1056++(Tp.sts_1113++(Tp.sts_1200++([]:List Stmt))))))))))))))))))))=bb:=by kernel_rfl
theorem AEP(w:World)(os:OsState):topRun treeTable pp w 11 (some (.ref 6)) 6817 ⟨boot_heap w.params,Hz [],boot_drawn,boot_toks,os⟩ (topStub pp)=some (sK w os).abs:=by
 have c:=Tp.chain pp bb w os [] 2 _ (AEO w os);rw[AFm] at c;exact go_top (AEM w os) (piece_block (AEN w os) c)
noncomputable abbrev H1 (P:Params):Heap:=absHeap (Tp.tree_1231 P) 1183 {}
noncomputable abbrev qq:Program:={pp with main:={pp.main with body:= [pp.main.body.getD 167 (.Pass ⟨0,0,0,0⟩)]}}
noncomputable abbrev ll:List Str:=pp.boundNames.filter λn=>n !="answers"
theorem AEQ(w:World)(os:OsState):(staticsOk (importedModules pp.main.body) (boot_heap w.params) (H1 w.params) && namesBound pp (H1 w.params) && gensDone ⟨H1 w.params,Hz [],{},1878,os⟩ && laidKept (boot_heap w.params) (H1 w.params))=true:=by kernel_rfl
end Hy
namespace Hy
noncomputable abbrev mm:List Str:=importedModules pp.main.body
noncomputable abbrev sh (w:World) (os:OsState):Shared:=⟨H1 w.params,Hz [],{},1878,os⟩
theorem AER(w:World)(os:OsState):openSeen qq ll mm (λ_=>true) true (sh w os)=openGood qq ll:=by kernel_rfl
abbrev rr:=yO
theorem u2:namesResolve pp=true:=by kernel_rfl
theorem u4:noRoadLSs {strict:= !(importedModules pp.main.body).all cThrough.contains,foot:=none,bare:=(["vars","dir","locals"]:List Str).filter (readsOut pp pp.main.body)} pp.main.body=true:=by kernel_rfl
theorem u5:(namesMeet pp pp.main.body λ_ n=>attrL n)=true:=by kernel_rfl
theorem u1:(sreFenced pp.main && ((moduleNames pp.main.body).isEmpty || lookedIntoSs (moduleNames pp.main.body) pp.main.body))=true:=by kernel_rfl
theorem u3:(pp.boundNames.all λn=> !worldNames.contains n)=true:=by kernel_rfl
theorem u6:(pp.boundNames.contains rr.name && !startupNames.contains rr.name && specDef pp rr.name rr.args.length && rr.args.all Codec.fits && rr.ret.ok)=true:=by kernel_rfl
end Hy
namespace In
theorem f_b(P:Params):fB (KT (Tp.tree_1231 P))=true:=by kernel_rfl
theorem f_o(P:Params):oG (Tp.tree_1231 P)=eG:=by kernel_rfl
end In
namespace Hy
theorem k1:rr.wellSaid=true:=by
 have h:=u6;simp only[DV] at h;obtain⟨⟨⟨⟨h1,h2⟩,h3⟩,h4⟩,h5⟩:=h;unfold OpenSpec.wellSaid;simp only[DV];refine⟨⟨⟨⟨⟨?_,h1⟩,h2⟩,h3⟩,h4⟩,h5⟩;unfold looksOpen;have g:=u1;rw[DV] at g;rw[DV,DV,DV,DV,DV];exact⟨⟨⟨⟨g,u2⟩,u3⟩,u4⟩,u5⟩
theorem left:LeftO rr.prog qq ll (λ_=>true) (λs=>s.heap) (λw=>H1 w.params) 13690:=
 LeftO.of_pieces (H₀:=boot_heap) (H₁:=H1) (gs₀:=Hz []) (gs₁:=Hz []) (d₀:=boot_drawn) (d₁:={}) (k₀:=boot_toks) (k₁:=1878) (m₀:=11) (ann:=some (.ref 6)) (M:=6817) (ACI 13690 rfl) ACH AEP rfl
  λw=>funext λos=>looks_pair (AEQ w os) (looks_pair (AER w os) rfl)
end Hy
noncomputable abbrev Hy.dd:DefRec:=⟨"answers",L2.Mh In.FR,L2.FV In.FR,L2.BE In.FR,⟨817,0,828,22⟩⟩
open Hy
theorem Hy.AFn:defOf qq rr.name=some (dd,[]):=by kernel_rfl
theorem Hy.hp:rr.prog.theDef rr.name=some (dd.params,dd.body,dd.scope):=by kernel_rfl
theorem Hy.call:WalkOS qq ll (λ_ _=>True) (λw h=>∀a o,(H1 w.params).get? a=some o->h.get? a=some o) rr dd [] λf vs=>Z9 f vs:=by
 refine L2.bI (r:=rr) (k:=50) (CX:=L2.eJ) (ps:= ["calls"]) (sp:=In.Y1) (K:=λP=>In.KT (Tp.tree_1231 P)) k1 (by kernel_rfl) rfl ⟨rfl,by decide,by decide⟩ (λw h Y a o e=>Y a o (In.AEH _ _ a o e)) ?F ?S (λ_ _ _ _ z=>z)
 case F=>exact λw mg fa h Y KX G hmg=>In.ACG KX G hmg (In.f_o _) (In.f_b _)
 case S=>
  intro K H xs a hO hwi ABr hx;cases hx with
  |cons h1 h2=>
   cases h2;cases h1 with
   |lst hs ha=>
    have e:=L2.eQ a.1 _ ha;subst e;have q:((Codec.inLen 0 400 a.1 && a.1.all (Codec.inInt 0 4294967295)) && true)=true:=hwi;rw[DV,DV] at q;exact⟨_,a.1,AA,hs,(Codec.inNat_iff.mp q.1.1).2,λx hx=>(Codec.inInt_iff.mp (Li.mp q.1.2 x hx)).1,ABr,λp H' hp=> .lst (L2.A_.of hp) (L2.eP _)⟩
theorem PySem.Challenge.cw_inspector_s01_answers_holds : PySem.Challenge.rw_inspector_s01_answers.Holds :=
 holds_os (YP:=λw h=>∀a o,(H1 w.params).get? a=some o->h.get? a=some o) left (λw s e a o h=>by rw[show s.heap=H1 w.params from e];exact h) (λw h h' x k a o e=>k _ _ (x a o e)) (λ_ _=>trivial) (λ_ _ _ _ _=>trivial) AFn hp (by kernel_rfl) (λs _=>recFacts_of (by rfl)) os_shapes k1 (by kernel_rfl) ⟨rfl,rfl,rfl,rfl,rfl,by decide+kernel⟩ ⟨[.list [.int 5]],by decide+kernel,by decide+kernel⟩ Hy.call
