import PyProof.Rows.All
import Wide.All
import OpenK.AllK
import Wide.FinOn
import PyProof.EqAt
import PyProof.EqKinds
import PyProof.TupleCall
import KE.BitLaws
import KE.OsGo
import Open.SpecLaws
import KE.KSortTupG
import PyProof.Rows.SortShellAny
import KE.KDictSum
import Kg46Spec
import PySem.Challenge.RW0_roomhouse_s01_answers
import PyKg46
import PySem.Challenge.RW_roomhouse_s01_answers
set_option Elab.async false
set_option linter.all false
set_option maxRecDepth 100000
set_option maxHeartbeats 4000000
open Array renaming getElem?_eq_some_iff->iL,getElem?_toList->Dk,length_toList->jk
open Bool renaming and_eq_false_iff->sP,and_eq_true->aC,and_false->tG,eq_false_iff->gh,eq_iff_iff->lH,false_and->oS,false_eq_true->lO,false_ne_true->cW,false_or->Bp,not_eq_true'->pW,or_eq_true->gv
open Classical renaming byContradiction->fH
open False renaming elim->gF
open ForInStep renaming yield->p7
open Given renaming Prog->IL
open Given.Prog renaming done->EU
open Int renaming eq_ofNat_of_zero_le->cS,le_refl->kK,toNat->jV,toNat_natCast->aU,toNat_of_nonneg->Ji
open Kg45 renaming Ans->jM,Ask->iN,House->mT,PAGE->dZ,Prog->qV,Run->e_,aligned->mC,bit->Ak,byteAt->jC,count->aK,cutBytes->dD,fits->jQ,fresh->h_,inRun->oR,insert->iI,joined->bP,more->CT,num->d8,putBytes->jg,spec->gG,touches->vV,trimmed->Dh,wants->Jh,within->bO,without->bw
open Kg45.Ask renaming less->sW
open Kg45.Run renaming pages->jU
open Kg45.State renaming holding->nu,pages->Di,rows->ET,run->GH,taken->jT,with_->jS
open Kg46 renaming Ans->cX,BIG->iA,Block->Jg,Great->dX,House->cR,PAGE->a_,Prog->fL,Small->bN,State->bg,before->yD,below->lN,bytesAt->fK,give->qU,giveAll->rD,giveRun->Dg,insertUsed->gu,lowest->l6,move->g_,num->aZ,pagesFor->jP,putAt->lM,runPages->cg,runsOf->jB,sizeAt->ai,sizeFor->fz,sizes->Jd,spec->bI,still->dJ,take->qT,went->oj,wiped->oQ,within->cP
open Kg46.Block renaming room->ES,size->ER
open Kg46.Call renaming begin_->EO,blocks->EN,copy->IK,get->Jf,give->IJ,holds->GG,put->Je,resize->EM,take->II,told->IG,trim->IF
open Kg46.Great renaming page->EL
open Kg46.Small renaming blocks->CS,full->uQ,page->jr
open Kg46.State renaming pages->tY,sized->je,with_->tX
open Kg46Neutral renaming Call->CQ
open List renaming Nodup->uP,all_eq_true->fh,any_cons->jO,any_eq_false->kj,any_eq_true->dG,any_map->Df,append_assoc->cD,append_nil->fR,cons_append->qS,dropLast_concat_getLast->yK,drop_drop->oO,drop_of_length_le->jH,drop_zero->Aj,eq_nil_of_length_eq_zero->nq,filterMap_append->EK,filterMap_cons->fu,filterMap_map->uO,filter_append->Jc,filter_congr->ki,filter_cons->bU,filter_eq_nil_iff->rC,filter_eq_self->n_,filter_sublist->dM,find?_cons->dm,find?_eq_none->dW,find?_map->Ai,find?_some->di,flatMap_append->iz,flatMap_cons->dQ,flatMap_map->xh,flatMap_nil->xg,flatten_cons->mz,flatten_replicate_singleton->vU,foldl_cons->nP,getD_eq_getElem?_getD->bA,getElem?_append_left->gz,getElem?_append_right->gb,getElem?_cons_succ->CO,getElem?_cons_zero->qR,getElem?_drop->lK,getElem?_eq_getElem->cM,getElem?_eq_none->jR,getElem?_eq_some_iff->bR,getElem?_map->cu,getElem?_range->nZ,getElem?_replicate->lZ,getElem?_set_ne->tF,getElem?_set_self->rB,getElem?_take->lJ,getElem?_take_of_lt->Bo,getElem_of_mem->nY,getLast?_eq_none_iff->pB,getLast?_eq_some_iff->Ba,length->nj,length_append->aE,length_cons->bL,length_drop->b_,length_eq_zero_iff->CN,length_filter_le->EJ,length_map->aj,length_nil->yJ,length_pos_iff->IE,length_range->kg,length_replicate->eu,length_take->bS,length_take_le'->GF,length_take_le->ID,lookup->jA,lookup_cons->iK,map->oM,map_append->aG,map_congr_left->aN,map_cons->aI,map_flatMap->qQ,map_id->kH,map_map->ay,map_nil->jd,map_replicate->Jb,map_take->Bm,mem_append->bG,mem_append_left->cK,mem_append_right->cG,mem_cons->aP,mem_cons_of_mem->aB,mem_cons_self->aJ,mem_filter->bu,mem_filterMap->uN,mem_flatMap->dF,mem_iff_getElem?->EI,mem_map->aq,mem_map_of_mem->aH,mem_of_find?_eq_some->bE,mem_of_getElem?->cA,mem_of_mem_drop->tE,mem_of_mem_take->jc,mem_range->e9,mem_replicate->Ja,mergeSort_perm->iy,nil_append->lG,nodup_append->f_,nodup_cons->b9,nodup_nil->gP,nodup_range->w_,not_mem_nil->fJ,of_mem_zip->yI,pairwise_append->gO,pairwise_cons->dI,pairwise_iff_getElem->pA,pairwise_map->eU,pairwise_mergeSort->jq,perm_append_comm->mO,perm_append_right_iff->Ah,perm_cons->tD,perm_ext_iff_of_nodup->oK,perm_middle->mS,range->bX,range_succ->sf,range_succ_eq_map->rq,replicate->bJ,replicate_succ->k9,size_toArray->aT,sum_cons->fG,take_add_one->cN,take_append_drop->EH,take_length->ff,take_of_length_le->b8,take_sublist->vS
open List.Pairwise renaming imp_of_mem->vB
open Nat renaming add_assoc->ni,add_mul->jG,le_of_ble_eq_true->aR,le_of_eq->wC,le_of_lt->dR,le_of_succ_le->p6,le_refl->aL,le_succ->jF,le_trans->cE,lt_irrefl->gJ,lt_of_le_of_lt->vA,lt_of_lt_of_le->cz,lt_succ_of_lt->pZ,lt_succ_self->yC,min_eq_left->lI,min_eq_right->q_,mul_le_mul_right->dc,ne_of_gt->EG,ne_of_lt->eF,zero_le->bH
open Ne renaming symm->nJ
open Option renaming getD_none->vR,isSome_iff_exists->Ag,isSome_map->uM,isSome_some->GD,map_eq_some_iff->Bl,ne_none_iff_exists'->yH,none->wB
open Option.some renaming inj->bC,injEq->Bk
open Or renaming inl->bh,inr->sO
open Prod renaming ext->qP,fst->GC
open PyFlat renaming call->sN,calls->uL,played->Af,rows->De,told->Dd
open PyKg46 renaming answers->sM,answers_asked->mR,shape->ju,whole->iw
open PyProof.Rows renaming boot_any->yz,boot_list->oJ,boot_max->eX,boot_min->yy,boot_sorted->nO,boot_sum->lF,callWith_type1->uI,slot_tuple_getitem->fq,sortedAll_at->vz,sortedAll_old->uK
open PySem renaming Within->CM,boot_len->cH,evalArgs_none->GA,mem_of_lookup->cO
open PySem.F renaming args_int_rmul_2->Ae,args_tuple_add_2->o9,args_tuple_mul_2->za,entry_int_rmul->A_,entry_tuple_add->pV,entry_tuple_mul->Ad,excBase_Exception->yG,fills_int_mul->Bj,plainAttrs_list->cJ,slot_dict_delitem->yF,slot_dict_pop->Bh,slot_int_index->A9,slot_int_rmul->mw,slot_list_append->gE,slot_list_extend->gD,slot_list_remove->y_,slot_tuple_add->qv,slot_tuple_mul->lY,slot_tuple_rmul->Ac,type_list_append->gC,type_list_extend->jb
open PySem.W renaming Frag->au,WRecords->IC,callWith_K->tU,callWith_K0->Dc,cellsFrom_some->A8,emptyDict->fV,findIn->iH,fnOf->uH,handedIn->IB,hasDictIn->uG,hideAll->k8,hideAll_get->C_,instObj->iR,isFn->A7,isNs_of_in->EF,kdl_dict->IA,keepIn->se,lookIn->r_,makesIn->I_,methodCall_KW->qZ,methodObj->uF,nsMap_none_of_in->y9,of_hideAll->EE,plainGet->pU,plainGet_of->sV,plainOver->GB,takerIn->wA
open Sum renaming inl->aW,inr->wz
open True renaming intro->mQ
namespace L2
open PySem PySem.Spec PyProof.Rows
abbrev Key:=Sum Int Str
def vL:Key->Value->Bool
 |.inl k,v=>Value.isInt k v
 |.inr x,v=>Value.isStrOf x v
def Yl(w:World):Key->Int
 |.inl k=>hashInt k
 |.inr x=>hashStr w x
theorem iu:∀{k:Key} {v:Value},vL k v=true->(∃i t,k=aW i/\v=Value.int i t)\/(∃x t,k=wz x/\v=Value.str x t)
 |.inl i,v,h=>by
  obtain ⟨t,e⟩:=Value.isInt_shape (k:=i) (v:=v) h;exact .inl ⟨i,t,rfl,e⟩
 |.inr x,v,h=>by
  obtain ⟨t,e⟩:=Value.isStrOf_shape (x:=x) (v:=v) h;exact .inr ⟨x,t,rfl,e⟩
theorem HM(i:Int)(t:Tok):vL (.inl i) (.int i t)=true:=by simp [vL,Value.isInt]
theorem HL(x:Str)(t:Tok):vL (.inr x) (.str x t)=true:=by simp [vL,Value.isStrOf]
theorem QG(a b:Int):decide ((aW a:Key)=aW b)=(a==b):=by
 by_cases e:a=b
 ·subst e;simp
 ·have h:¬(aW a:Key)=aW b:=λq=>e (Sum.inl.inj q);rw[decide_eq_false h];exact (beq_eq_false_iff_ne.mpr e).symm
theorem QD(a b:Str):decide ((wz a:Key)=wz b)=decide (a=b):=by
 by_cases e:a=b
 ·subst e;simp
 ·have h:¬(wz a:Key)=wz b:=λq=>e (Sum.inr.inj q);rw[decide_eq_false h,decide_eq_false e]
theorem QF(a:Int)(b:Str):decide ((aW a:Key)=wz b)=false:=decide_eq_false (λq=>nomatch q)
theorem QE(a:Str)(b:Int):decide ((wz a:Key)=aW b)=false:=decide_eq_false (λq=>nomatch q)
def fT(prog:Program)(w:World):PySem.KeyKind prog w Key where
 is:=vL
 hash:=Yl w
 inj:=λv a b ha hb=>by
  rcases iu ha with ⟨i,t,rfl,rfl⟩|⟨x,t,rfl,rfl⟩
  ·rcases iu hb with ⟨j,u,rfl,e⟩|⟨y,u,rfl,e⟩
   ·injection e with e1 _;rw[e1]
   ·exact nomatch e
  ·rcases iu hb with ⟨j,u,rfl,e⟩|⟨y,u,rfl,e⟩
   ·exact nomatch e
   ·injection e with e1 _;rw[e1]
 byValue:=λk v h=>by
  rcases iu h with ⟨i,t,rfl,rfl⟩|⟨x,t,rfl,rfl⟩<;>rfl
 pyHash:=λhv h=>by
  rcases iu hv with ⟨i,t,rfl,rfl⟩|⟨x,t,rfl,rfl⟩
  ·exact wpAny_pyHash_int h
  ·exact wpAny_pyHash_str h
 eqBool:=λhu hv h=>by
  rcases iu hu with ⟨i,t,rfl,rfl⟩|⟨x,t,rfl,rfl⟩
  ·rcases iu hv with ⟨j,u,rfl,rfl⟩|⟨y,u,rfl,rfl⟩
   ·rw[QG] at h;exact wpAny_eqBool_int h
   ·rw[QF] at h;exact SeqAt.EqAt.int_str i t y u _ _ _ _ h
  ·rcases iu hv with ⟨j,u,rfl,rfl⟩|⟨y,u,rfl,rfl⟩
   ·rw[QE] at h;exact SeqAt.EqAt.str_int x t j u _ _ _ _ h
   ·rw[QD] at h;exact wpAny_eqBool_str h
 «strs»:=λk x t v h=>by
  rcases iu h with ⟨i,u,rfl,e⟩|⟨y,u,rfl,e⟩
  ·exact nomatch e
  ·injection e with e1 _
   subst e1;cases v<;>rfl
theorem B9(prog:Program)(w:World)(i:Int)(t:Tok):(fT prog w).is (.inl i) (.int i t)=true:=HM i t
theorem B8(prog:Program)(w:World)(x:Str)(t:Tok):(fT prog w).is (.inr x) (.str x t)=true:=HL x t
end L2
namespace L2
open PySem PySem.Spec PyProof.Rows
inductive V where
 |kq|bl (b:Bool)|int (i:Int)|str (x:Str)|tW (b:Array UInt8)|Vr (b:UInt64)|ref (a:Addr)|ty (n:String)
 deriving DecidableEq
def RelV:V->Value->Prop
 |.kq,u=>u=Value.none
 |.bl b,u=>u=Value.bool b
 |.int i,u=>∃t,u=Value.int i t
 |.str x,u=>∃t,u=Value.str x t
 |.tW b,u=>∃t,u=Value.bytes b t
 |.Vr b,u=>∃t,u=Value.float b t
 |.ref a,u=>u=Value.ref a
 |.ty n,u=>u=Value.type n
abbrev Vals:List V->List Value->Prop:=Paired RelV
theorem Vals.length{xs:List V}{us:List Value}(r:Vals xs us):xs.length=us.length:=Paired.length r
theorem Vals.get:∀{xs:List V} {us:List Value} {i:Nat} {x:V},Vals xs us->xs[i]?=some x->∃u,us[i]?=some u/\RelV x u
 |_,_,_,_,.nil,e=>by simp at e
 |_,_,0,_,.cons r _,e=>by simp at e;subst e;exact ⟨_,rfl,r⟩
 |_,_,i+1,x,.cons _ t,e=>by
  obtain ⟨u,h1,h2⟩:=Vals.get (i:=i) (x:=x) t (by simpa using e);exact ⟨u,by simpa using h1,h2⟩
theorem Vals.set{x:V}{u:Value}(r:RelV x u):∀{xs:List V} {us:List Value} (i:Nat),Vals xs us->Vals (xs.set i x) (us.set i u)
 |_,_,_,.nil=>.nil
 |_,_,0,.cons _ t=>.cons r t
 |_,_,i+1,.cons q t=>.cons q (Vals.set r i t)
theorem Vals.append:∀{xs ys:List V} {us ws:List Value},Vals xs us->Vals ys ws->Vals (xs++ys) (us++ws)
 |_,_,_,_,.nil,s=>s
 |_,_,_,_,.cons r t,s=>.cons r (Vals.append t s)
theorem Vals.take:∀{xs:List V} {us:List Value} (n:Nat),Vals xs us->Vals (xs.take n) (us.take n)
 |_,_,0,_=>.nil
 |_,_,_+1,.nil=>.nil
 |_,_,n+1,.cons r t=>.cons r (Vals.take n t)
theorem Vals.drop:∀{xs:List V} {us:List Value} (n:Nat),Vals xs us->Vals (xs.drop n) (us.drop n)
 |_,_,0,r=>r
 |_,_,_+1,.nil=>.nil
 |_,_,n+1,.cons _ t=>Vals.drop n t
def lX:Option V->Option Value->Prop
 |some v,some u=>RelV v u
 |none,none=>True
 |_,_=>False
def KV{κ:Type}:List (κ×V)->List (κ×Value)->Prop:=Paired λ(p:κ×V) (q:κ×Value)=>p.1=q.1/\RelV p.2 q.2
def kV:Key->V
 |.inl i=>.int i
 |.inr x=>.str x
inductive HO where
 |lst (xs:List V)
 |tup (xs:List V)
 |dK (kvs:List (Key×V))|dT (kvs:List (List Key×V))
 |set (S:Int->Bool) (n:Nat)
 |ins (C dx:Addr) (fs:List (Str×V))
 |own (x:Addr)
 |xd (fs:List (Str×V))
 |met (f x:Addr)
 |V6 (lo hi:Int)
 |nG (o:Obj) (u:HO)
 |Ow (ps:Array Value)
 |ext (φ:Heap->Prop)
abbrev Hp:=Addr->Option HO
def upd(H:Hp)(a:Addr)(o:HO):Hp:=λb=>if b=a then some o else H b
theorem ak{H:Hp}{a:Addr}{o:HO}:upd H a o a=some o:=by unfold upd;rw[if_pos rfl]
theorem az{H:Hp}{a b:Addr}{o:HO}(h:b≠a):upd H a o b=H b:=by unfold upd;rw[if_neg h]
theorem mh{H:Hp}{a b:Addr}{o u:HO}(h:H a=some o)(h':H b=some u)(d:o≠u):a≠b:=by
 intro e;subst e;rw[h] at h';exact d (bC h')
theorem aQ{H:Hp}{a b:Addr}{o:HO}(h:H a=some o)(h':H b=none):a≠b:=by
 intro e;subst e;rw[h] at h';cases h'
section
variable(P:Program)(w:World)
def jo(H:Hp)(h:Heap)(a:Addr):HO->Prop
 |.lst xs=>xs.length<=sizeLine/\∃(dN:List Value) (n:Nat),Vals xs dN/\h.get? a=some {cls:=.type "list",data:=.seq dN.toArray n}
 |.tup xs=>xs.length<=sizeLine/\∃dN:List Value,Vals xs dN/\IsTup h a dN.toArray
 |.dK kvs=>kvs.length<=sizeLine/\(a==sysModules)=false/\∃vs,KV kvs vs/\h.DictOf (fT P w) a vs
 |.dT kvs=>kvs.length<=sizeLine/\(a==sysModules)=false/\∃xs:List (List Key×Addr×Value),
   Paired (λ(p:List Key×V) (q:List Key×Addr×Value)=>p.1=q.1/\H q.2.1=some (.tup (p.1.map kV))/\RelV p.2 q.2.2) kvs xs/\
   ∃o es ep,h.get? a=some o/\o.ExactDict/\o.data=.dict es ep/\es.toList=xs.map (entryOfKey (tupleKind (fT P w)))/\(xs.map (·.1)).Nodup
 |.set S n=>h.SetOf (intKind P w) a S n
 |.ins C dx fs=>H dx=some (.own a)/\fs.length<=1000/\dx≠a/\h.get? a=some (iR C dx)/\
   ∃mA,h.Ns1 dx mA/\(∀f,lX (fs.lookup f) (mA f))/\CM mA (fs.map (·.1))
 |.own _=>∃o,h.get? a=some o
 |.xd fs=>∃mA,h.Ns1 a mA/\∀f,lX (fs.lookup f) (mA f)
 |.V6 lo hi=>∃t u v,h.get? a=some {cls:=.type "range",data:=.fields #[.int lo t,.int hi u,.int 1 v]}
 |.nG o u=>h.get? a=some o/\jo H h a u
 |.Ow ps=>h.get? a=some {cls:=.none,data:=.fields ps}
 |.met f x=>h.get? a=some (uF (.ref f) (.ref x))
 |.ext φ=>φ h/\(∃o,h.get? a=some o)/\∀h1 h2:Heap,φ h1->(∀o,h1.get? a=some o->h2.get? a=some o)->φ h2
def qO(H:Hp)(h:Heap):Prop:=∀a o,H a=some o->jo P w H h a o
end
section
variable{P:Program}{w:World}{H H':Hp}{h h':Heap}{a:Addr}{o:HO}
theorem jo.lt(x:jo P w H h a o):a<h.objs.size:=by
 cases o with
 |lst xs=>obtain ⟨_,_,_,_,e⟩:=x;exact Heap.lt_size e
 |tup xs=>obtain ⟨_,_,_,p⟩:=x;exact p.lt
 |dK kvs=>obtain ⟨_,_,_,_,o,_,_,e,_⟩:=x;exact Heap.lt_size e
 |dT kvs=>obtain ⟨_,_,_,_,o,_,_,e,_⟩:=x;exact Heap.lt_size e
 |set S n=>obtain ⟨o,_,_,_,e,_⟩:=x;exact Heap.lt_size e
 |ins C dx fs=>obtain ⟨_,_,_,e,_⟩:=x;exact Heap.lt_size e
 |own y=>obtain ⟨_,e⟩:=x;exact Heap.lt_size e
 |xd fs=>obtain ⟨_,⟨_,_,_,e,_⟩,_⟩:=x;exact Heap.lt_size e
 |V6 lo hi=>obtain ⟨_,_,_,e⟩:=x;exact Heap.lt_size e
 |nG ob u=>obtain ⟨e,_⟩:=x;exact Heap.lt_size e
 |Ow ps=>exact Heap.lt_size (show h.get? a=some _ from x)
 |met f y=>exact Heap.lt_size (show h.get? a=some _ from x)
 |ext φ=>obtain ⟨_,⟨_,e⟩,_⟩:=x;exact Heap.lt_size e
theorem Paired.K3{α β:Type}{F G:α->β->Prop}:∀{l₁:List α} {l₂:List β},Paired F l₁ l₂->(∀a b,F a b->G a b)->Paired G l₁ l₂
 |_,_,.nil,_=>.nil
 |_,_,.cons r t,f=>.cons (f _ _ r) (Paired.K3 t f)
theorem jo.qX(x:jo P w H h a o)(k:∀b u,(b=a\/H b=some (.own a))->h.get? b=some u->h'.get? b=some u)
  (ho:∀b,H b=some (.own a)->H' b=some (.own a)) (ht:∀b xs,H b=some (.tup xs)->H' b=some (.tup xs)):jo P w H' h' a o:=by
 induction o with
 |lst xs=>obtain ⟨z,dN,n,r,e⟩:=x;exact ⟨z,dN,n,r,k _ _ (.inl rfl) e⟩
 |tup xs=>obtain ⟨z,dN,r,ob,e,c⟩:=x;exact ⟨z,dN,r,ob,k _ _ (.inl rfl) e,c⟩
 |dK kvs=>obtain ⟨z,y,vs,r,ob,es,ep,e,c⟩:=x;exact ⟨z,y,vs,r,ob,es,ep,k _ _ (.inl rfl) e,c⟩
 |dT kvs=>
  obtain ⟨z,y,xs,r,ob,es,ep,e,c⟩:=x;exact ⟨z,y,xs,Paired.K3 r λp q z=>⟨z.1,ht _ _ z.2.1,z.2.2⟩,ob,es,ep,k _ _ (.inl rfl) e,c⟩
 |set S n=>obtain ⟨ob,es,ep,t,e,c⟩:=x;exact ⟨ob,es,ep,t,k _ _ (.inl rfl) e,c⟩
 |ins C dx fs=>
  obtain ⟨d,z,ne,e,mA,⟨od,es,ep,e2,c⟩,r⟩:=x;exact ⟨ho _ d,z,ne,k _ _ (.inl rfl) e,mA,⟨od,es,ep,k _ _ (.inr d) e2,c⟩,r⟩
 |own y=>obtain ⟨ob,e⟩:=x;exact ⟨ob,k _ _ (.inl rfl) e⟩
 |xd fs=>obtain ⟨mA,⟨od,es,ep,e,c⟩,r⟩:=x;exact ⟨mA,⟨od,es,ep,k _ _ (.inl rfl) e,c⟩,r⟩
 |V6 lo hi=>obtain ⟨t,u,v,e⟩:=x;exact ⟨t,u,v,k _ _ (.inl rfl) e⟩
 |nG ob u ih=>obtain ⟨e,q⟩:=x;exact ⟨k _ _ (.inl rfl) e,ih q⟩
 |Ow ps=>
  have e:h.get? a=some {cls:=.none,data:=.fields ps}:=x;show h'.get? a=some {cls:=.none,data:=.fields ps};exact k a _ (.inl rfl) e
 |met f y=>
  have e:h.get? a=some (uF (.ref f) (.ref y)):=x;show h'.get? a=some (uF (.ref f) (.ref y));exact k a _ (.inl rfl) e
 |ext φ=>obtain ⟨p,⟨o,e⟩,st⟩:=x;exact ⟨st _ _ p λo q=>k _ _ (.inl rfl) q,⟨o,k _ _ (.inl rfl) e⟩,st⟩
theorem qO.lt(x:qO P w H h)(e:H a=some o):a<h.objs.size:=(x a o e).lt
theorem qO.fresh(x:qO P w H h)(e:h.objs.size<=a):H a=none:=by
 cases q:H a with
 |none=>rfl
 |some u=>exact absurd (cz (x.lt q) e) (gJ _)
theorem qO.kept(x:qO P w H h)(k:∀b u,h.get? b=some u->h'.get? b=some u):qO P w H h':=λa o e=>
 (x a o e).qX (λb u _ q=>k b u q) (λ_ q=>q) λ_ _ q=>q
theorem qO.laid(x:qO P w H h)(k:∀b u,h.get? b=some u->h'.get? b=some u)(hp:h.objs.size<=a)(new:jo P w (upd H a o) h' a o):qO P w (upd H a o) h':=λb u e=>by
 have hn:=x.fresh hp
 by_cases hb:b=a
 ·subst hb;rw[ak] at e;cases e;exact new
 ·rw[az hb] at e;exact (x b u e).qX (λc v _ q=>k c v q) (λc q=>by rw[az (aQ q hn)];exact q) λc xs q=>by rw[az (aQ q hn)];exact q
end
def Rd(H:Hp)(a:Addr)(u:HO):Prop:=H a=some u\/∃o,H a=some (.nG o u)
theorem Rd.ok{P:Program}{w:World}{H:Hp}{h:Heap}{a:Addr}{u:HO}(r:Rd H a u)(x:qO P w H h):jo P w H h a u:=by
 rcases r with r|⟨o,r⟩
 ·exact x a u r
 ·obtain ⟨_,q⟩:=x a _ r;exact q
def Ot:Option HO->Prop
 |some (.lst _)=>True
 |some (.dK _)=>True
 |some (.dT _)=>True
 |some (.set _ _)=>True
 |some (.ins _ _ _)=>True
 |some (.ext _)=>True
 |_=>False
section
variable{P:Program}{w:World}{H:Hp}{h h':Heap}{x e:Addr}{o':HO}
theorem qO.write(ok:qO P w H h)(mu:Ot (H x))(he:e=x\/H e=some (.own x))(k:∀b u,b≠e->h.get? b=some u->h'.get? b=some u)(Sk:∃u,h'.get? e=some u)
  (new:jo P w (upd H x o') h' x o'):qO P w (upd H x o') h':=λb u q=>by
 have Ud:∀c y,H c=some (.own y)->c≠x:=λc y r z=>by subst z;rw[r] at mu;exact mu
 have XY:∀c xs,H c=some (.tup xs)->c≠x:=λc xs r z=>by subst z;rw[r] at mu;exact mu
 by_cases hb:b=x
 ·subst hb;rw[ak] at q;cases q;exact new
 ·rw[az hb] at q
  by_cases Rc:b=e
  ·have q':H b=some (.own x):=by
    rcases he with z|z
    ·exact absurd (Rc.trans z) hb
    ·rw[Rc];exact z
   rw[q] at q';cases q';obtain ⟨v,hv⟩:=Sk;exact ⟨v,by rw[Rc];exact hv⟩
  ·refine (ok b u q).qX (λc v hc r=>k c v ?_ r) (λc r=>by rw[az (Ud c b r)];exact r) λc xs r=>by rw[az (XY c xs r)];exact r
   rcases hc with rfl|hc
   ·exact Rc
   ·rintro rfl;rcases he with z|z
    ·exact Ud c b hc z
    ·rw[hc] at z;cases z;exact hb rfl
end
structure Un(fs ex:List Addr)(H H':Hp)(h h':Heap):Prop where
 keep:∀b o,h.get? b=some o->H b=none->b∉fs->b∉ex->h'.get? b=some o
 slot:∀b o,h.get? b=some o->H b=none->b∈fs->b∉ex->∃sl,h'.get? b=some {o with slots:=sl}
 free:∀b o,h.get? b=some o->H b=none->b∉ex->H' b=none
 there:∀b o,h.get? b=some o->b∉ex->∃o',h'.get? b=some o'
 yN:∀b xs,H b=some (.tup xs)->H' b=some (.tup xs)
 wk:∀b o u,H b=some (.nG o u)->H' b=some (.nG o u)
 yP:∀b ps,H b=some (.Ow ps)->∃more,H' b=some (.Ow (ps++more))
section
variable{fs Sn ex ex':List Addr}{H H1 H2:Hp}{h h1 h2 h':Heap}{a x e:Addr}{o:HO}
theorem Un.any(u:Un fs ex H H1 h h1){b:Addr}{ob:Obj}(q:h.get? b=some ob)(n:H b=none)(hx:b∉ex):∃sl,h1.get? b=some {ob with slots:=sl}:=by
 by_cases hb:b∈fs
 ·exact u.slot b ob q n hb hx
 ·exact ⟨ob.slots,u.keep b ob q n hb hx⟩
theorem Un.kept(k:∀b u,h.get? b=some u->h'.get? b=some u):Un fs ex H H h h':=
 ⟨λb ob q _ _ _=>k b ob q,λb ob q _ _ _=>⟨ob.slots,k b ob q⟩,λ_ _ _ n _=>n,λb ob q _=>⟨ob,k b ob q⟩,λ_ _ q=>q,λ_ _ _ q=>q,λ_ ps q=>⟨#[],by rw[q];simp⟩⟩
theorem Un.refl:Un fs ex H H h h:=Un.kept λ_ _ q=>q
theorem Un.laid(k:∀b u,h.get? b=some u->h'.get? b=some u)(hp:h.objs.size<=a)(hn:H a=none):Un fs ex H (upd H a o) h h' where
 keep:=λb u q _ _ _=>k b u q
 slot:=λb u q _ _ _=>⟨u.slots,k b u q⟩
 free:=λb u q n _=>by rw[az (eF (cz (Heap.lt_size q) hp))];exact n
 there:=λb u q _=>⟨u,k b u q⟩
 yN:=λb xs q=>by rw[az (aQ q hn)];exact q
 wk:=λb u xs q=>by rw[az (aQ q hn)];exact q
 yP:=λb ps q=>⟨#[],by rw[az (aQ q hn),q];simp⟩
theorem Un.write(mu:Ot (H x))(he:e=x\/H e=some (.own x))(k:∀b u,b≠e->h.get? b=some u->h'.get? b=some u)(Sk:∃u,h'.get? e=some u):Un fs ex H (upd H x o) h h':=by
 have hx:∀b,H b=none->b≠x:=λb n z=>by subst z;rw[n] at mu;exact mu
 have hb:∀b,H b=none->b≠e:=λb n z=>by
  subst z;rcases he with r|r
  ·exact hx b n r
  ·rw[n] at r;cases r
 have hm:∀b u,H b=some u->¬Ot (some u)->b≠x:=λb u q nm z=>by subst z;rw[q] at mu;exact nm mu
 refine ⟨λb u q n _ _=>k b u (hb b n) q,λb u q n _ _=>⟨u.slots,k b u (hb b n) q⟩,λb u q n _=>by rw[az (hx b n)];exact n,λb u q _=>?_,
  λb xs q=>by rw[az (hm b _ q λz=>z)];exact q,λb u xs q=>by rw[az (hm b _ q λz=>z)];exact q,λb ps q=>⟨#[],by rw[az (hm b _ q λz=>z),q];simp⟩⟩
 by_cases Rc:b=e
 ·subst Rc;exact Sk
 ·exact ⟨u,k b u Rc q⟩
end
def VR(h:Heap)(H:Hp):List Addr:=(bX h.objs.size).filter λa=>(H a).isSome
def A0(h:Heap)(H:Hp):Heap:=k8 h (VR h H)
theorem HV(h:Heap)(H:Hp):(A0 h H).objs.size=h.objs.size:=PySem.W.hideAll_size _ _
theorem Lk{h:Heap}{H:Hp}{b:Addr}{o:Obj}(e:h.get? b=some o)(n:H b=none):(A0 h H).get? b=some o:=
 C_ _ e λhm=>by
  have q:(H b).isSome=true:=(bu.mp hm).2;rw[n] at q;simp at q
theorem NJ{h:Heap}{H:Hp}{b:Addr}{o:Obj}(e:(A0 h H).get? b=some o):h.get? b=some o/\H b=none:=by
 have e':h.get? b=some o:=EE (VR h H) e;refine ⟨e',?_⟩;cases q:H b with
 |none=>rfl
 |some x=>
  have hm:b∈VR h H:=bu.mpr ⟨e9.mpr (Heap.lt_size e'),by simp [q]⟩;have z:(A0 h H).get? b=none:=PySem.W.hideAll_none (VR h H) hm;rw[z] at e;cases e
end L2
namespace L2
open PySem PySem.Spec PyProof.Rows
structure Mod(K:au)(mg:Str->Option Value)(base:Heap):Prop where
 Uo:K.In base
 glob:base.Ns mainGlobals mg
 blt:∃mb,base.Ns builtinsNs mb/\∀x:Str,x≠"__name__"->mb x=bootBuiltins x
 nolimit:base.NoLimit
structure Cx where
 prog:Program
 w:World
 K:au
 mg:Str->Option Value
 base:Heap
 A:Around
 N:List Str
 uW:Shared
 IY:Hp
 env:Env
 outer:List Env
 stack:List Env
 ex:List Addr
 fn:Str->Bool
 calm:Bool
 pn:List (Addr×Obj)
 xe:Value->Shared->Prop
def yW(l:List Env):List Addr:=l.filterMap (·.frame)
abbrev Cx.fs(X:Cx):List Addr:=yW X.outer
def Ss(sc:Scope)(x:Str):Prop:=sc.names.lookup x=some .local\/sc.names.lookup x=some .cell\/sc.names.lookup x=some .free
def Loc(sc:Scope)(x:Str):Prop:=sc.names.lookup x=some .local\/sc.names.lookup x=some .cell
def Look(env:Env)(h:Heap)(m:Str->Option Value)(x:Str)(u:Value):Prop:=
 (env.kindOf x=some .local/\m x=some u)\/((env.kindOf x=some .cell\/env.kindOf x=some .free)/\∃c,env.cells.lookup x=some c/\h.IsCell c (some u))
structure Cx.Ok(X:Cx):Prop where
 mod:Mod X.K X.mg X.base
 kind:X.env.scope.kind=.function
 glob:X.env.globals=mainGlobals
 blt:X.env.builtins=builtinsNs
 above:X.uW.heap.objs.size<=X.env.locals
 inj:∀x y c,X.env.cells.lookup x=some c->X.env.cells.lookup y=some c->x=y
 has:∀x,(X.env.kindOf x=some .cell\/X.env.kindOf x=some .free)->∃c,X.env.cells.lookup x=some c
 O0:∀x c,X.fn x=true->X.env.cells.lookup x=some c->X.uW.heap.objs.size<=c
 hd:X.calm=true->X.A.handled=none
 frames:X.A.frames=some X.stack
 BA:X.stack=X.outer\/(X.stack=X.env::X.outer/\X.env.frame=some X.env.locals)
 Rr:∀b∈X.ex,b≠X.env.locals/\∀x c,X.env.cells.lookup x=some c->c≠b
 bs:∀b o,X.base.get? b=some o->X.uW.heap.get? b=some o/\X.IY b=none
 Ir:X.base.objs.size<=X.uW.heap.objs.size
 B6:∀b o,X.base.get? b=some o->b∉X.ex
 Ct:∀b∈X.ex,b∉X.fs
 rZ:X.uW.heap.FunFrames X.base X.outer
 Ly:∀b∈X.fs,X.IY b=none
structure Inv(X:Cx)(pins:List (Addr×Obj))(σ:List (Option V))(H:Hp)(s:Shared):Prop where
 ok:X.Ok
 os:s.os=X.uW.os
 bare:AllBare s.gens
 base:Un X.fs X.ex X.IY H X.uW.heap s.heap
 loc:∃m,s.heap.Ns X.env.locals m/\∀(i:Nat) (x:Str) (v:V),X.N[i]?=some x->σ[i]?=some (some v)->Ss X.env.scope x->∃u,RelV v u/\Look X.env s.heap m x u
 cell:∀x c,X.env.cells.lookup x=some c->∃v,s.heap.IsCell c v
 free:H X.env.locals=none
 mj:∀x c,X.env.cells.lookup x=some c->H c=none
 pin:∀p∈X.pn++pins,s.heap.get? p.1=some p.2/\H p.1=none/\p.1≠X.env.locals/\p.1∉X.fs/\∀v,p.2.data≠.cell v
 cI:qO X.prog X.w H s.heap
 len:σ.length=X.N.length
section
variable{X:Cx}{pins:List (Addr×Obj)}{σ:List (Option V)}{H H':Hp}{s:Shared}{h':Heap}
theorem Cx.Ok.X4(ok:X.Ok){b:Addr}{o:Obj}(e:X.base.get? b=some o):b∉X.fs:=λhb=>by
 have:=(ok.rZ.mem hb).1;rw[e] at this;cases this
theorem Inv.bs(I:Inv X pins σ H s):∀b o,X.base.get? b=some o->s.heap.get? b=some o/\H b=none:=λb o e=>
 ⟨I.base.keep b o (I.ok.bs b o e).1 (I.ok.bs b o e).2 (I.ok.X4 e) (I.ok.B6 b o e),I.base.free b o (I.ok.bs b o e).1 (I.ok.bs b o e).2 (I.ok.B6 b o e)⟩
theorem Inv.bk(I:Inv X pins σ H s):∀b o,X.base.get? b=some o->s.heap.get? b=some o:=λb o e=>(I.bs b o e).1
theorem Inv.mod(I:Inv X pins σ H s):Mod X.K X.mg X.base:=I.ok.mod
theorem Inv.vX(I:Inv X pins σ H s):X.K.In s.heap:=I.ok.mod.Uo.keeps I.bk
theorem Inv.fr(I:Inv X pins σ H s):∃m,Fr X.base X.env.locals s.heap m:=
 let ⟨m,hn,_⟩:=I.loc
 ⟨m,hn,I.bk,cE I.ok.Ir I.ok.above⟩
theorem Inv.lt(I:Inv X pins σ H s):X.env.locals<s.heap.objs.size:=let ⟨_,hn,_⟩:=I.loc;hn.lt
theorem Inv.sz(I:Inv X pins σ H s):X.uW.heap.objs.size<=s.heap.objs.size:=cE I.ok.above (dR I.lt)
theorem Inv.X3(I:Inv X pins σ H s){a:Addr}(h:s.heap.objs.size<=a):a∉X.fs:=λhb=>by
 obtain ⟨_,o,ho,_⟩:=I.ok.rZ.mem hb;exact absurd (cz (Heap.lt_size ho) (cE I.sz h)) (gJ _)
theorem Inv.RC(I:Inv X pins σ H s):∀x c,X.env.cells.lookup x=some c->c≠X.env.locals:=λx c e z=>by
 obtain ⟨v,o,ho,hd⟩:=I.cell x c e;obtain ⟨m,⟨o',es,ep,IS,Lo,_⟩,_⟩:=I.loc;rw[z,IS] at ho;cases ho;rw[Lo] at hd;cases hd
theorem Inv.rZ(I:Inv X pins σ H s):s.heap.FunFrames X.base X.outer:=by
 have all:∀(l:List Env),(∀b∈yW l,b∈X.fs)->X.uW.heap.FunFrames X.base l->s.heap.FunFrames X.base l:=by
  intro l
  induction l with
  |nil=>intro _ _;trivial
  |cons env r ih=>
   intro hs hl;obtain ⟨hk,⟨L,o,hf,hn,ho,hd⟩,hr⟩:=hl;have hL:L∈X.fs:=hs L (by unfold yW;rw[fu,hf];exact aJ);obtain ⟨sl,e⟩:=I.base.slot L o ho (I.ok.Ly L hL) hL λz=>I.ok.Ct L z hL;exact ⟨hk,⟨L,_,hf,hn,e,hd⟩,ih (λb hb=>hs b (by unfold yW;rw[fu,hf];exact aB _ hb)) hr⟩
 exact all X.outer (λ_ hb=>hb) I.ok.rZ
theorem Inv.stack(I:Inv X pins σ H s):s.heap.FunFrames X.base X.stack:=by
 rcases I.ok.BA with e|⟨e,hf⟩
 ·rw[e];exact I.rZ
 ·rw[e];obtain ⟨m,hn,_⟩:=I.loc;refine .cons (by rw[I.ok.kind];decide) hf hn ?_ I.rZ;exact Heap.get?_none_of_le (cE I.ok.Ir I.ok.above)
theorem Inv.Dw(I:Inv X pins σ H s):∀b∈yW X.stack,b∈X.env.locals::X.fs:=λb hb=>by
 rcases I.ok.BA with e|⟨e,hf⟩
 ·rw[e] at hb;exact aB _ hb
 ·rw[e] at hb;unfold yW at hb;rw[fu,hf] at hb;exact hb
theorem Inv.As(I:Inv X pins σ H s):∀b∈yW X.stack,H b=none:=λb hb=>by
 rcases aP.mp (I.Dw b hb) with e|hb
 ·rw[e];exact I.free
 ·obtain ⟨_,o,ho,_⟩:=I.ok.rZ.mem hb;exact I.base.free b o ho (I.ok.Ly b hb) λz=>I.ok.Ct b z hb
theorem Inv.step{g':Array GenState}{t':Nat}{d':Drawn}{ch:List Addr}(I:Inv X pins σ H s)
  (Ml:∀b∈ch,(b∈X.ex\/X.uW.heap.objs.size<=b)/\b≠X.env.locals/\(∀x c,X.env.cells.lookup x=some c->c≠b)/\∀p∈X.pn++pins,p.1≠b)
  (keep:∀b o,b≠X.env.locals->b∉X.fs->b∉ch->s.heap.get? b=some o->H b=none->h'.get? b=some o)
  (slot:∀b o,b≠X.env.locals->b∈X.fs->b∉ch->s.heap.get? b=some o->H b=none->∃sl,h'.get? b=some {o with slots:=sl}) (free:∀b o,b∉ch->s.heap.get? b=some o->H b=none->H' b=none)
  (there:∀b o,b∉ch->s.heap.get? b=some o->∃o',h'.get? b=some o')
  (yN:∀b xs,H b=some (.tup xs)->H' b=some (.tup xs)) (wk:∀b o u,H b=some (.nG o u)->H' b=some (.nG o u)) (yP:∀b ps,H b=some (.Ow ps)->∃more,H' b=some (.Ow (ps++more)))
  (ns:∀m,s.heap.Ns X.env.locals m->h'.Ns X.env.locals m) (cI:qO X.prog X.w H' h') (hg:AllBare g'):
  Inv X pins σ H' {s with heap:=h',gens:=g',drawn:=d',toks:=t'}:=by
 have neL:∀b o,X.uW.heap.get? b=some o->b≠X.env.locals:=λb o e=>eF (cz (Heap.lt_size e) I.ok.above)
 have Wd:∀b o,X.uW.heap.get? b=some o->b∉X.ex->b∉ch:=λb o e hx hb=>by
  rcases (Ml b hb).1 with z|z
  ·exact hx z
  ·exact absurd (cz (Heap.lt_size e) z) (gJ _)
 have cellK:∀x c,X.env.cells.lookup x=some c->∀v,s.heap.IsCell c v->h'.IsCell c v:=λx c e v ⟨o,ho,hd⟩=>by
  have Uk:c∉ch:=λz=>(Ml c z).2.2.1 x c e rfl
  by_cases hc:c∈X.fs
  ·obtain ⟨sl,q⟩:=slot c o (I.RC x c e) hc Uk ho (I.mj x c e);exact ⟨_,q,hd⟩
  ·exact ⟨o,keep c o (I.RC x c e) hc Uk ho (I.mj x c e),hd⟩
 refine ⟨I.ok,I.os,hg,⟨λb o e n hb hx=>?_,λb o e n hb hx=>?_,λb o e n hx=>?_,λb o e hx=>?_,λb xs e=>yN b xs (I.base.yN b xs e),λb o xs e=>wk b o xs (I.base.wk b o xs e),λb ps e=>?_⟩,?_,λx c e=>?_,?_,λx c e=>?_,λp hp=>?_,cI,I.len⟩
 ·exact keep b o (neL b o e) hb (Wd b o e hx) (I.base.keep b o e n hb hx) (I.base.free b o e n hx)
 ·obtain ⟨sl,e1⟩:=I.base.slot b o e n hb hx;obtain ⟨sl',e2⟩:=slot b _ (neL b o e) hb (Wd b o e hx) e1 (I.base.free b o e n hx);exact ⟨sl',e2⟩
 ·obtain ⟨o',e1⟩:=I.base.there b o e hx;exact free b o' (Wd b o e hx) e1 (I.base.free b o e n hx)
 ·obtain ⟨o',e1⟩:=I.base.there b o e hx;exact there b o' (Wd b o e hx) e1
 ·obtain ⟨m1,e1⟩:=I.base.yP b ps e;obtain ⟨m2,e2⟩:=yP b _ e1;exact ⟨m1++m2,by rw[e2,Array.append_assoc]⟩
 ·obtain ⟨m,hn,hl⟩:=I.loc;refine ⟨m,ns m hn,λi x v e1 e2 e3=>?_⟩;obtain ⟨u,r,l⟩:=hl i x v e1 e2 e3;refine ⟨u,r,?_⟩;rcases l with l|⟨k,c,e,z⟩
  ·exact .inl l
  ·exact .inr ⟨k,c,e,cellK x c e _ z⟩
 ·obtain ⟨v,z⟩:=I.cell x c e;exact ⟨v,cellK x c e v z⟩
 ·obtain ⟨m,⟨o,_,_,ho,_⟩,_⟩:=I.loc;exact free _ o (λz=>(Ml _ z).2.1 rfl) ho I.free
 ·obtain ⟨v,o,ho,hd⟩:=I.cell x c e;exact free c o (λz=>(Ml c z).2.2.1 x c e rfl) ho (I.mj x c e)
 ·obtain ⟨e,n,ne,nf,d⟩:=I.pin p hp;have Uk:p.1∉ch:=λz=>(Ml p.1 z).2.2.2 p hp rfl;exact ⟨keep p.1 p.2 ne nf Uk e n,free p.1 p.2 Uk e n,ne,nf,d⟩
theorem Inv.un{t':Nat}(I:Inv X pins σ H s)(u:Un X.fs [] H H' s.heap h')(cI:qO X.prog X.w H' h'):Inv X pins σ H' {s with heap:=h',toks:=t'}:=by
 obtain ⟨m,⟨o,es,ep,ho,r⟩,_⟩:=id I.loc;obtain ⟨sl,hL⟩:=u.any ho I.free (by simp)
 exact I.step (g':=s.gens) (d':=s.drawn) (ch:=[]) (λ_ z=>nomatch z) (λb o _ hb _ e n=>u.keep b o e n hb (by simp)) (λb o _ hb _ e n=>u.slot b o e n hb (by simp)) (λb o _ e n=>u.free b o e n (by simp)) (λb o _ e=>u.there b o e (by simp)) u.yN u.wk u.yP (λm' hm=>by
  obtain ⟨o',Mq,Mr,IS,r'⟩:=hm;rw[ho] at IS;cases IS;exact ⟨_,Mq,Mr,hL,r'⟩) cI I.bare
theorem Inv.call{g':Array GenState}{t':Nat}{d':Drawn}{ch:List Addr}(I:Inv X pins σ H s)(u:Un (yW X.stack) ch H H' s.heap h')(cI:qO X.prog X.w H' h')(hg:AllBare g')
  (Ml:∀b∈ch,(b∈X.ex\/X.uW.heap.objs.size<=b)/\b≠X.env.locals/\(∀x c,X.env.cells.lookup x=some c->c≠b)/\∀p∈X.pn++pins,p.1≠b):
  Inv X pins σ H' {s with heap:=h',gens:=g',drawn:=d',toks:=t'}:=by
 obtain ⟨m,⟨o,es,ep,ho,r⟩,_⟩:=id I.loc;obtain ⟨sl,hL⟩:=u.any ho I.free λz=>(Ml _ z).2.1 rfl
 exact I.step (ch:=ch) Ml (λb o hL hb hc e n=>u.keep b o e n (λz=>(aP.mp (I.Dw b z)).elim hL hb) hc) (λb o _ _ hc e n=>u.any e n hc) (λb o hc e n=>u.free b o e n hc) (λb o hc e=>u.there b o e hc) u.yN u.wk u.yP (λm' hm=>by
  obtain ⟨o',Mq,Mr,IS,r'⟩:=hm;rw[ho] at IS;cases IS;exact ⟨_,Mq,Mr,hL,r'⟩) cI hg
theorem Inv.turned{t':Nat}{it:Addr}(I:Inv X pins σ H s)(k:∀b o,b≠it->s.heap.get? b=some o->h'.get? b=some o)(hn:H it=none)(hL:it≠X.env.locals)
  (h1:it∈X.ex\/X.uW.heap.objs.size<=it) (h2:∀x c,X.env.cells.lookup x=some c->c≠it) (h3:∀p∈X.pn++pins,p.1≠it):Inv X pins σ H {s with heap:=h',toks:=t'}:=by
 have Ug:∀b u,H b=some u->b≠it:=λb u e z=>by rw[z,hn] at e;cases e
 refine I.step (g':=s.gens) (d':=s.drawn) (ch:=[it]) (λb hb=>?_) (λb o _ _ hc e _=>k b o (λz=>hc (by simp [z])) e) (λb o _ _ hc e _=>⟨o.slots,k b o (λz=>hc (by simp [z])) e⟩) (λ_ _ _ _ n=>n)
  (λb o hc e=>⟨o,k b o (λz=>hc (by simp [z])) e⟩) (λ_ _ e=>e) (λ_ _ _ e=>e) (λb ps e=>⟨#[],by rw[e];simp⟩) (λm hm=>?_) (λb u e=>?_) I.bare
 ·have e:b=it:=by simpa using hb
  subst e;exact ⟨h1,hL,h2,h3⟩
 ·obtain ⟨o,es,ep,ho,r⟩:=hm;exact ⟨o,es,ep,k _ o (nJ hL) ho,r⟩
 ·refine (I.cI b u e).qX (λc v hc q=>k c v ?_ q) (λ_ q=>q) λ_ _ q=>q;rcases hc with z|z
  ·rw[z];exact Ug b u e
  ·exact Ug c _ z
theorem Inv.tok(I:Inv X pins σ H s)(t:Nat):Inv X pins σ H {s with toks:=t}:=I.un (h':=s.heap) (t':=t) Un.refl I.cI
theorem Inv.kept{t':Nat}(I:Inv X pins σ H s)(k:∀b u,s.heap.get? b=some u->h'.get? b=some u):Inv X pins σ H {s with heap:=h',toks:=t'}:=I.un (Un.kept k) (I.cI.kept k)
theorem Inv.laid{a:Addr}{o:HO}{t':Nat}(I:Inv X pins σ H s)(k:∀b u,s.heap.get? b=some u->h'.get? b=some u)(hp:s.heap.objs.size<=a)(new:jo X.prog X.w (upd H a o) h' a o):
  Inv X pins σ (upd H a o) {s with heap:=h',toks:=t'}:=I.un (Un.laid k hp (I.cI.fresh hp)) (I.cI.laid k hp new)
theorem Inv.write{x e:Addr}{o:HO}{t':Nat}(I:Inv X pins σ H s)(mu:Ot (H x))(he:e=x\/H e=some (.own x))(k:∀b u,b≠e->s.heap.get? b=some u->h'.get? b=some u)(Sk:∃u,h'.get? e=some u)
  (new:jo X.prog X.w (upd H x o) h' x o):Inv X pins σ (upd H x o) {s with heap:=h',toks:=t'}:=I.un (Un.write mu he k Sk) (I.cI.write mu he k Sk new)
theorem Inv.weak{σ':List (Option V)}(I:Inv X pins σ H s)(hl:σ'.length=σ.length)(w:∀(i:Nat) v,σ'[i]?=some (some v)->σ[i]?=some (some v)):Inv X pins σ' H s:=
 ⟨I.ok,I.os,I.bare,I.base,let ⟨m,hn,HS⟩:=I.loc;⟨m,hn,λi x v e1 e2 e3=>HS i x v e1 (w i v e2) e3⟩,I.cell,I.free,I.mj,I.pin,I.cI,hl.trans I.len⟩
theorem Inv.Fj{BU:List (Addr×Obj)}(I:Inv X pins σ H s)(h:∀p∈BU,s.heap.get? p.1=some p.2/\H p.1=none/\p.1≠X.env.locals/\p.1∉X.fs/\∀v,p.2.data≠.cell v):Inv X BU σ H s:=
 ⟨I.ok,I.os,I.bare,I.base,I.loc,I.cell,I.free,I.mj,λp hp=>(bG.mp hp).elim (λz=>I.pin p (cK _ z)) (h p),I.cI,I.len⟩
theorem xT{N:List Str}(hN:N.Nodup){i j:Nat}{x:Str}(a:N[i]?=some x)(b:N[j]?=some x):i=j:=by
 obtain ⟨h1,e1⟩:=bR.mp a;obtain ⟨h2,e2⟩:=bR.mp b;exact (List.getElem_inj hN).mp (e1.trans e2.symm)
theorem zg{M:Model}{A:Around}{E:Value->Shared->Prop}{i:Nat}{x:Str}{v:V}{u:Value}{Q:Unit->Shared->Prop}(I:Inv X pins σ H s)(hN:X.N.Nodup)(hi:X.N[i]?=some x)(hx:Loc X.env.scope x)(r:RelV v u)
  (h:∀s',Inv X pins (σ.set i (some v)) H s'->(∃a,Heap.SameBut a s.heap s'.heap/\(a=X.env.locals\/X.env.cells.lookup x=some a))->Q () s') (hf:X.fn x=true\/X.env.scope.names.lookup x=some .local:=by first|exact .inl rfl|exact .inr rfl|assumption):wpAny M A (storeName X.env x u) Q E s:=by
 obtain ⟨m,hn,hl⟩:=id I.loc;have Ra:(X.env.scope.kind==.class||(X.env.scope.kind==.module&&X.env.locals !=X.env.globals))=false:=by rw[I.ok.kind];rfl
 have hiσ:i<σ.length:=by rw[I.len];exact (bR.mp hi).1
 have RC:=I.RC
 have tracked:∀{a:Addr} {h':Heap},(∃o,s.heap.get? a=some o/\H a=none)->Heap.SameBut a s.heap h'->qO X.prog X.w H h':=λ{a h'} ha hs b ob e=>by
  obtain ⟨_,_,zJ⟩:=ha;refine (I.cI b ob e).qX (λc w' hc q=>(hs.2 c ?_).trans q) (λ_ q=>q) λ_ _ q=>q;rintro rfl;rcases hc with rfl|hc
  ·rw[zJ] at e;cases e
  ·rw[zJ] at hc;cases hc
 rcases hx with hk|hk
 ·refine wpAny_storeName_local hk hn (λh' Q2 hs=>?_) Ra;obtain ⟨oL,_,_,UR,_⟩:=id hn;refine h _ ⟨I.ok,I.os,I.bare,⟨λb o e n hb hx=>?_,λb o e n hb hx=>?_,I.base.free,λb o e hx=>?_,I.base.yN,I.base.wk,I.base.yP⟩,⟨_,Q2,λj y v' e1 e2 e3=>?_⟩,λy c e=>?_,I.free,I.mj,λp hp=>?_,tracked ⟨oL,UR,I.free⟩ hs,by simpa using I.len⟩ ⟨_,hs,.inl rfl⟩
  ·exact (hs.2 b (eF (cz (Heap.lt_size e) I.ok.above))).trans (I.base.keep b o e n hb hx)
  ·obtain ⟨sl,e1⟩:=I.base.slot b o e n hb hx;exact ⟨sl,(hs.2 b (eF (cz (Heap.lt_size e) I.ok.above))).trans e1⟩
  ·obtain ⟨o',e1⟩:=I.base.there b o e hx;exact ⟨o',(hs.2 b (eF (cz (Heap.lt_size e) I.ok.above))).trans e1⟩
  ·by_cases hj:j=i
   ·subst hj;rw[hi] at e1;cases e1;rw[rB hiσ] at e2;cases e2;exact ⟨u,r,.inl ⟨hk,by simp⟩⟩
   ·rw[tF (nJ hj)] at e2;obtain ⟨u',r',q⟩:=hl j y v' e1 e2 e3;refine ⟨u',r',?_⟩;rcases q with ⟨k,e⟩|⟨k,c,e,z⟩
    ·refine .inl ⟨k,?_⟩;have:y≠x:=λe=>hj (xT hN e1 (e▸hi));simp [this,e]
    ·exact .inr ⟨k,c,e,z.sameBut hs (RC y c e)⟩
  ·obtain ⟨w',z⟩:=I.cell y c e;exact ⟨w',z.sameBut hs (RC y c e)⟩
  ·obtain ⟨e,n,ne,nf,d⟩:=I.pin p hp;exact ⟨(hs.2 p.1 ne).trans e,n,ne,nf,d⟩
 ·have N4:X.fn x=true:=by
   rcases hf with z|z
   ·exact z
   ·rw[z] at hk;cases hk
  obtain ⟨c,hc⟩:=I.ok.has x (.inl hk);obtain ⟨w',z⟩:=I.cell x c hc;refine wpAny_storeName_cell I.ok.kind hk hc z (λh' hc' hs=>?_);obtain ⟨oc,hoc,YY⟩:=id z;refine h {s with heap:=h'} ⟨I.ok,I.os,I.bare,⟨λb o e n hb hx=>?_,λb o e n hb hx=>?_,I.base.free,λb o e hx=>?_,I.base.yN,I.base.wk,I.base.yP⟩,⟨m,hn.sameBut hs (nJ (RC x c hc)),λj y v' e1 e2 e3=>?_⟩,λy c' e=>?_,I.free,I.mj,λp hp=>?_,tracked ⟨oc,hoc,I.mj x c hc⟩ hs,by simpa using I.len⟩ ⟨c,hs,.inr hc⟩
  ·exact (hs.2 b (eF (cz (Heap.lt_size e) (I.ok.O0 x c N4 hc)))).trans (I.base.keep b o e n hb hx)
  ·obtain ⟨sl,e1⟩:=I.base.slot b o e n hb hx;exact ⟨sl,(hs.2 b (eF (cz (Heap.lt_size e) (I.ok.O0 x c N4 hc)))).trans e1⟩
  ·obtain ⟨o',e1⟩:=I.base.there b o e hx;exact ⟨o',(hs.2 b (eF (cz (Heap.lt_size e) (I.ok.O0 x c N4 hc)))).trans e1⟩
  ·by_cases hj:j=i
   ·subst hj;rw[hi] at e1;cases e1;rw[rB hiσ] at e2;cases e2;exact ⟨u,r,.inr ⟨.inl hk,c,hc,hc'⟩⟩
   ·rw[tF (nJ hj)] at e2;obtain ⟨u',r',q⟩:=hl j y v' e1 e2 e3;refine ⟨u',r',?_⟩;rcases q with q|⟨k,c',e,z'⟩
    ·exact .inl q
    ·refine .inr ⟨k,c',e,z'.sameBut hs ?_⟩;rintro rfl;exact hj (xT hN e1 (I.ok.inj _ _ _ e hc▸hi))
  ·by_cases hcc:c'=c
   ·subst hcc;exact ⟨_,hc'⟩
   ·obtain ⟨w2,z2⟩:=I.cell y c' e;exact ⟨w2,z2.sameBut hs hcc⟩
  ·obtain ⟨e,n,ne,nf,d⟩:=I.pin p hp;refine ⟨(hs.2 p.1 ?_).trans e,n,ne,nf,d⟩;intro q;rw[q,hoc] at e;have q':oc=p.2:=bC e;exact d w' (by rw[<-q'];exact YY)
theorem xx{M:Model}{A:Around}{E:Value->Shared->Prop}{i:Nat}{x:Str}{v:V}{u:Value}{Q:Unit->Shared->Prop}(I:Inv X pins σ H s)(hN:X.N.Nodup)(hi:X.N[i]?=some x)(hx:Loc X.env.scope x)(r:RelV v u)
  (h:∀s',Inv X pins (σ.set i (some v)) H s'->Q () s') (hf:X.fn x=true\/X.env.scope.names.lookup x=some .local:=by first|exact .inl rfl|exact .inr rfl|assumption):wpAny M A (storeName X.env x u) Q E s:=
 zg I hN hi hx r (λs' I' _=>h s' I') hf
theorem Inv.OZ{s':Shared}{ch:List Addr}(I:Inv X pins σ H s)(ho:s'.os=s.os)(u:Un (yW X.stack) ch H H' s.heap s'.heap)(cI:qO X.prog X.w H' s'.heap)(hg:AllBare s'.gens)
  (Ml:∀b∈ch,(b∈X.ex\/X.uW.heap.objs.size<=b)/\b≠X.env.locals/\(∀x c,X.env.cells.lookup x=some c->c≠b)/\∀p∈X.pn++pins,p.1≠b):Inv X pins σ H' s':=by
 obtain ⟨h',g',d',t',o'⟩:=s';have e:o'=s.os:=ho;subst e;exact I.call (g':=g') (t':=t') (d':=d') u cI hg Ml
end
abbrev XK:=Value->Option Addr->Hp->Prop
abbrev St:=List (Option V)
abbrev VK:=V->Hp->Prop
abbrev TE:=St->Hp->VK->Prop
abbrev TT:=St->Hp->(Bool->Hp->Prop)->Prop
abbrev TA:=St->Hp->(List V->Hp->Prop)->Prop
structure Ends where
 nx:St->Hp->Prop
 rt:VK
 bk:St->Hp->Prop:=λ_ _=>False
 ct:St->Hp->Prop:=λ_ _=>False
abbrev TS:=Ends->St->Hp->Prop
def EP(X:Cx)(pins:List (Addr×Obj))(σ:St)(Q:VK)(u:Value)(s':Shared):Prop:=∃v H',Inv X pins σ H' s'/\RelV v u/\Q v H'
def TP(X:Cx)(pins:List (Addr×Obj))(σ:St)(Q:Bool->Hp->Prop)(b:Bool)(s':Shared):Prop:=∃H',Inv X pins σ H' s'/\Q b H'
def AP(X:Cx)(pins:List (Addr×Obj))(σ:St)(Q:List V->Hp->Prop)(us:List Value)(s':Shared):Prop:=∃vs H',Inv X pins σ H' s'/\Vals vs us/\Q vs H'
def SP(X:Cx)(pins:List (Addr×Obj))(D:Ends)(f:Flow)(s':Shared):Prop:=
 match f with
 |.next=>∃σ' H',Inv X pins σ' H' s'/\D.nx σ' H'
 |.brk=>∃σ' H',Inv X pins σ' H' s'/\D.bk σ' H'
 |.cont=>∃σ' H',Inv X pins σ' H' s'/\D.ct σ' H'
 |.ret u=>∃v σ' H',Inv X pins σ' H' s'/\RelV v u/\D.rt v H'
def PE(X:Cx)(e:Expr)(t:TE):Prop:=
 ∀(pins:List (Addr×Obj)) (s:Shared) (σ:St) (H:Hp) (Q:VK),Inv X pins σ H s->t σ H Q->wpAny (model X.prog X.w) X.A (eval e X.env) (EP X pins σ Q) X.xe s
def PT(X:Cx)(e:Expr)(t:TT):Prop:=
 ∀(pins:List (Addr×Obj)) (s:Shared) (σ:St) (H:Hp) (Q:Bool->Hp->Prop),Inv X pins σ H s->t σ H Q->wpAny (model X.prog X.w) X.A (isTrue e X.env (eval e X.env)) (TP X pins σ Q) X.xe s
def PW(X:Cx)(e:Expr)(t:TT):Prop:=
 ∀(whole:Sem Value) (pins:List (Addr×Obj)) (s:Shared) (σ:St) (H:Hp) (Q:Bool->Hp->Prop),Inv X pins σ H s->t σ H Q->wpAny (model X.prog X.w) X.A (isTrue e X.env whole) (TP X pins σ Q) X.xe s
theorem PW.pt{X:Cx}{e:Expr}{t:TT}(h:PW X e t):PT X e t:=h _
def PA(X:Cx)(es:List Expr)(t:TA):Prop:=
 ∀(pos:Pos) (pins:List (Addr×Obj)) (s:Shared) (σ:St) (H:Hp) (Q:List V->Hp->Prop),Inv X pins σ H s->t σ H Q->wpAny (model X.prog X.w) X.A (spliced (backTo pos (starEach es X.env))) (AP X pins σ Q) X.xe s
def PS(X:Cx)(st:Stmt)(t:TS):Prop:=
 ∀(pins:List (Addr×Obj)) (s:Shared) (σ:St) (H:Hp) (D:Ends),Inv X pins σ H s->t D σ H->wpAny (model X.prog X.w) X.A (exec st X.env) (SP X pins D) X.xe s
def A6(X:Cx)(st:List Stmt)(t:TS):Prop:=
 ∀(pins:List (Addr×Obj)) (s:Shared) (σ:St) (H:Hp) (D:Ends),Inv X pins σ H s->t D σ H->wpAny (model X.prog X.w) X.A (execs st X.env) (SP X pins D) X.xe s
theorem iM{α:Type}{t:Sem α}{Q Q':α->Shared->Prop}{M:Model}{A:Around}{E:Value->Shared->Prop}{s:Shared}(h:wpAny M A t Q E s)(hQ:∀a s,Q a s->Q' a s):wpAny M A t Q' E s:=wpAny_mono h hQ λ_ _ x=>x
end L2
namespace L2
open PySem PySem.Spec PyProof.Rows
section
variable{X:Cx}
theorem bin{a b:Expr}{ta tb:TE}(ha:PE X a ta)(hb:PE X b tb){pins:List (Addr×Obj)}{s:Shared}{σ:St}{H:Hp}{R:V->V->Hp->Prop}(I:Inv X pins σ H s)(h:ta σ H λx H1=>tb σ H1 λy H2=>R x y H2)
  {α:Type} {Q:α->Shared->Prop} {f:Value->Value->Sem α}
  (hf:∀v u s2 x y H2,Inv X pins σ H2 s2->RelV x v->RelV y u->R x y H2->wpAny (model X.prog X.w) X.A (f v u) Q X.xe s2):
  wpAny (model X.prog X.w) X.A (eval a X.env) (λv s₁=>wpAny (model X.prog X.w) X.A (eval b X.env) (λu s₂=>wpAny (model X.prog X.w) X.A (f v u) Q X.xe s₂) X.xe s₁) X.xe s:=by
 refine iM (ha pins s σ H _ I h) λv s1 ⟨x,H1,I1,r1,q1⟩=>?_;refine iM (hb pins s1 σ H1 _ I1 q1) λu s2 ⟨y,H2,I2,r2,q2⟩=>?_;exact hf v u s2 x y H2 I2 r1 r2 q2
def l7(i:Nat):TE:=λσ H Q=>∃v,σ[i]?=some (some v)/\Q v H
def tC(v:V):TE:=λ_ H Q=>Q v H
theorem Qm{i:Nat}{x:Str}{pos:Pos}(hN:X.N[i]?=some x)(hv:Ss X.env.scope x)(hd:(x==("__debug__":Str))=false:=by decide)(uv:(x==("__classdict__":Str))=false:=by decide):PE X (.Name x pos) (l7 i):=by
 intro pins s σ H Q I h;obtain ⟨v,e,h⟩:=h;obtain ⟨m,hn,hl⟩:=I.loc;obtain ⟨u,r,l⟩:=hl i x v hN e hv;have fin:EP X pins σ Q u s:=⟨v,H,I,r,h⟩
 rcases l with ⟨hk,hm⟩|⟨hk,c,hc,zK⟩
 ·exact wpAny_Name (wpAny_loadName_local I.ok.kind hk hn hm fin) hd
 ·rcases hk with hk|hk
  ·exact wpAny_Name (wpAny_loadName_cell I.ok.kind hk hc zK fin) hd
  ·exact wpAny_Name (wpAny_loadName_free I.ok.kind hk hc zK fin uv) hd
theorem bq{i j pos}:PE X (.Constant (.int i) j pos) (tC (.int i)):=λ_ _ _ H _ I h=>wpAny_Constant_int ⟨.int i,H,I.tok _,⟨_,rfl⟩,h⟩
theorem zl{b j pos}:PE X (.Constant (.bool b) j pos) (tC (.bl b)):=λ_ _ _ H _ I h=>Constant_bool ⟨.bl b,H,I,rfl,h⟩
theorem Kc{j pos}:PE X (.Constant .none j pos) (tC .kq):=λ_ _ _ H _ I h=>Constant_none ⟨.kq,H,I,rfl,h⟩
def Gl(X:Cx)(x:Str):Prop:=X.env.kindOf x=some .globalImplicit
theorem ou{E:Value->Shared->Prop}{pins:List (Addr×Obj)}{s:Shared}{σ:St}{H:Hp}{x:Str}{u:Value}{pos:Pos}{Q:Value->Shared->Prop}(I:Inv X pins σ H s)(hg:Gl X x)(hm:X.mg x=some u)(h:Q u s)
  (hd:(x==("__debug__":Str))=false:=by decide):wpAny (model X.prog X.w) X.A (eval (.Name x pos) X.env) Q E s:=
 Calls.Name_function_global I.ok.kind hg (Calls.loadGlobal_global (by rw[I.ok.glob];exact I.mod.glob.keeps I.bk) hm h) hd
theorem D6{E:Value->Shared->Prop}{pins:List (Addr×Obj)}{s:Shared}{σ:St}{H:Hp}{x:Str}{u:Value}{pos:Pos}{Q:Value->Shared->Prop}(I:Inv X pins σ H s)(hg:Gl X x)(hm:X.mg x=none)(hv:bootBuiltins x=some u)(h:Q u s)
  (hn:x≠"__name__":=by decide) (hd:(x==("__debug__":Str))=false:=by decide):wpAny (model X.prog X.w) X.A (eval (.Name x pos) X.env) Q E s:=by
 obtain ⟨mb,h1,h2⟩:=I.mod.blt;exact Calls.Name_function_global I.ok.kind hg (Calls.loadGlobal_builtin (by rw[I.ok.glob];exact I.mod.glob.keeps I.bk) hm (by rw[I.ok.blt];exact h1.keeps I.bk) ((h2 x hn).trans hv) h) hd
theorem sC{x:Str}{v:V}{u:Value}{pos:Pos}(hg:Gl X x)(hm:X.mg x=some u)(r:RelV v u)(hd:(x==("__debug__":Str))=false:=by decide):PE X (.Name x pos) (tC v):=
 λ_ _ _ H _ I h=>ou I hg hm ⟨v,H,I,r,h⟩ hd
variable{a b:Expr}{ta tb:TE}{pos:Pos}
def PC(X:Cx)(op:CmpOp)(a b:Expr)(t:TE):Prop:=
 ∀(pins:List (Addr×Obj)) (s:Shared) (σ:St) (H:Hp) (Q:VK),Inv X pins σ H s->t σ H Q->
  wpAny (model X.prog X.w) X.A (eval a X.env) (λv s₁=>wpAny (model X.prog X.w) X.A (eval b X.env) (λu s₂=>wpAny (model X.prog X.w) X.A (compareOp op v u) (EP X pins σ Q) X.xe s₂) X.xe s₁) X.xe s
theorem KW(b:Expr){op:CmpOp}(h:op≠.In)(h2:op≠.NotIn):behindInMarks op b=false:=by
 have e1:(op==CmpOp.In)=false:=by cases op<;>first|rfl|exact absurd rfl h
 have e2:(op==CmpOp.NotIn)=false:=by cases op<;>first|rfl|exact absurd rfl h2
 cases b<;>simp [behindInMarks,e1,e2]
def WW(ta:TE):TE:=λσ H Q=>ta σ H λx H1=>Q (.bl (decide (x=.kq))) H1
theorem RelV.KU{x:V}{v:Value}(r:RelV x v):(v==Value.none)=decide (x=.kq):=by
 cases x with
 |kq=>cases r;rfl
 |bl _=>cases r;rfl
 |int _=>obtain ⟨t,rfl⟩:=r;rfl
 |str _=>obtain ⟨t,rfl⟩:=r;rfl
 |tW _=>obtain ⟨t,rfl⟩:=r;rfl
 |Vr _=>obtain ⟨t,rfl⟩:=r;rfl
 |ref _=>cases r;rfl
 |ty _=>cases r;rfl
theorem DR{j pos'}(ha:PE X a ta):PC X .Is a (.Constant .none j pos') (WW ta):=by
 intro pins s σ H Q I h;refine iM (ha pins s σ H _ I h) λv s1 ⟨x,H1,I1,r1,q1⟩=>?_;exact Constant_none (is_none_gen ⟨.bl _,H1,I1,by rw[r1.KU];rfl,q1⟩)
def tB(t:TE):TT:=λσ H Q=>t σ H λx H1=>∃c,x=.bl c/\Q c H1
theorem uZ{op:CmpOp}{t:TE}(h:PC X op a b t)(h1:behindInMarks op b=false:=by first|exact KW _ (by decide) (by decide)|rfl):PT X (.Compare a [op] [b] pos) (tB t):=by
 intro pins s σ H Q I hw;refine wpAny_isTrue_Compare1 (iM (h pins s σ H _ I hw) λv s1 h1=>iM h1 λu s2 h2=>iM h2 λc s3 ⟨x,H1,I1,r1,q1⟩=>?_) h1;obtain ⟨d,rfl,q⟩:=q1;cases r1;exact wpAny_truthy_bool ⟨H1,I1,q⟩
theorem oU{e:Expr}{t:TE}(h:PE X e t)(he:∀whole,isTrue e X.env whole=(do let v<-whole;standAt e.pos;holding [v] (truthy v)):=by intro _;rfl):PT X e (tB t):=by
 intro pins s σ H Q I hw;refine isTrue_plain (iM (h pins s σ H _ I hw) λv s1 ⟨x,H1,I1,r1,q1⟩=>?_) (he _);obtain ⟨d,rfl,q⟩:=q1;cases r1;exact wpAny_truthy_bool ⟨H1,I1,q⟩
variable{tA VV:TT}{rest:List Expr}
def W0(t u:TT):TT:=λσ H Q=>t σ H λc H1=>if c=true then u σ H1 Q else Q false H1
def tOr(t u:TT):TT:=λσ H Q=>t σ H λc H1=>if c=true then Q true H1 else u σ H1 Q
def WV(t:TT):TT:=λσ H Q=>t σ H λc H1=>Q (!c) H1
theorem wG(ha:PT X a tA):PW X (.BoolOp .And [a] pos) tA:=by
 intro wh pins s σ H Q I h;refine isTrue_and (iM (ha pins s σ H Q I h) λc s1 e=>?_);cases c with
 |true=>exact isTrue_and_nil e
 |false=>exact e
theorem J3(ha:PT X a tA):PW X (.BoolOp .Or [a] pos) tA:=by
 intro wh pins s σ H Q I h;refine isTrue_or (iM (ha pins s σ H Q I h) λc s1 e=>?_);cases c with
 |false=>exact isTrue_or_nil e
 |true=>exact e
theorem AB(ha:PT X a tA)(hb:PW X (.BoolOp .And (b::rest) pos) VV):PW X (.BoolOp .And (a::b::rest) pos) (W0 tA VV):=by
 intro wh pins s σ H Q I h;refine isTrue_and (iM (ha pins s σ H _ I h) λc s1 ⟨H1,I1,q1⟩=>?_);cases c with
 |true=>exact hb wh pins s1 σ H1 Q I1 q1
 |false=>exact ⟨H1,I1,q1⟩
theorem J4(ha:PT X a tA)(hb:PW X (.BoolOp .Or (b::rest) pos) VV):PW X (.BoolOp .Or (a::b::rest) pos) (tOr tA VV):=by
 intro wh pins s σ H Q I h;refine isTrue_or (iM (ha pins s σ H _ I h) λc s1 ⟨H1,I1,q1⟩=>?_);cases c with
 |true=>exact ⟨H1,I1,q1⟩
 |false=>exact hb wh pins s1 σ H1 Q I1 q1
theorem AF(ha:PT X a tA):PT X (.UnaryOp .Not a pos) (WV tA):=by
 intro pins s σ H Q I h;exact isTrue_not (ha pins s σ H (λc H1=>Q (!c) H1) I h)
def SO(ta tb:TE):TE:=λσ H Q=>ta σ H λx H1=>∃c,x=.bl c/\if c=true then tb σ H1 Q else Q (.bl false) H1
theorem AI{op}{t:TE}(h:PE X a t):PE X (.BoolOp op [a] pos) t:=λpins s σ H Q I hw=>BoolOp_one (h pins s σ H Q I hw)
theorem AK(ha:PE X a ta)(hb:PE X (.BoolOp .And (b::rest) pos) tb):PE X (.BoolOp .And (a::b::rest) pos) (SO ta tb):=by
 intro pins s σ H Q I h;refine BoolOp_and (iM (ha pins s σ H _ I h) λv s1 ⟨x,H1,I1,r1,q1⟩=>?_);obtain ⟨c,rfl,q1⟩:=q1;cases r1;refine wpAny_truthy_bool ?_;cases c with
 |true=>exact hb pins s1 σ H1 Q I1 q1
 |false=>exact ⟨.bl false,H1,I1,rfl,q1⟩
end
end L2
namespace L2
open PySem PySem.Spec PyProof.Rows
def mY(K:au)(H:Hp)(a:Addr)(xs:List V):Prop:=
 Rd H a (.lst xs)\/
  ∃(o:Obj) (dN:Array Value) (n:Nat),K.lookup a=some o/\o.cls=.type "list"/\o.dict=none/\o.data=.seq dN n/\dN.size<=sizeLine/\Vals xs dN.toList
def lW(K:au)(H:Hp)(a:Addr)(xs:List V):Prop:=
 Rd H a (.tup xs)\/
  ∃(o:Obj) (dN:Array Value) (n:Nat),K.lookup a=some o/\o.cls=.type "tuple"/\o.data=.seq dN n/\dN.size<=sizeLine/\Vals xs dN.toList
def Z_:Value->Option V
 |.none=>some .kq
 |.bool b=>some (.bl b)
 |.int i _=>some (.int i)
 |.str x _=>some (.str x)
 |.bytes b _=>some (.tW b)
 |.float b _=>some (.Vr b)
 |.ref a=>some (.ref a)
 |.type n=>some (.ty n)
 |_=>none
theorem RelV.abs{x:V}{u:Value}(r:RelV x u):Z_ u=some x:=by
 cases x with
 |kq=>cases r;rfl
 |bl _=>cases r;rfl
 |int _=>obtain ⟨t,rfl⟩:=r;rfl
 |str _=>obtain ⟨t,rfl⟩:=r;rfl
 |tW _=>obtain ⟨t,rfl⟩:=r;rfl
 |Vr _=>obtain ⟨t,rfl⟩:=r;rfl
 |ref _=>cases r;rfl
 |ty _=>cases r;rfl
theorem RelV.inj{x y:V}{u:Value}(r:RelV x u)(q:RelV y u):x=y:=bC (r.abs.symm.trans q.abs)
theorem Vals.inj:∀{xs ys:List V} {us:List Value},Vals xs us->Vals ys us->xs=ys
 |_,_,_,.nil,.nil=>rfl
 |_,_,_,.cons r t,.cons r' t'=>by rw[r.inj r',Vals.inj t t']
section
variable{X:Cx}{pins:List (Addr×Obj)}{σ:St}{H:Hp}{s:Shared}{a:Addr}{xs ys:List V}
theorem mY.of{K:au}(h:H a=some (.lst xs)):mY K H a xs:=.inl (.inl h)
theorem lW.of{K:au}(h:H a=some (.tup xs)):lW K H a xs:=.inl (.inl h)
theorem Inv.list(I:Inv X pins σ H s)(h:mY X.K H a xs):∃dN:List Value,Vals xs dN/\PlainL s.heap a dN.toArray/\xs.length<=sizeLine:=by
 rcases h with h|⟨o,dN,n,hk,hc,hd,hs,hz,r⟩
 ·obtain ⟨z,dN,n,r,e⟩:=h.ok I.cI;exact ⟨dN,r,⟨_,n,e,rfl,rfl,rfl⟩,z⟩
 ·refine ⟨dN.toList,r,⟨o,n,I.vX a o hk,hc,hd,by simpa using hs⟩,?_⟩;have e:=r.length;simp only[jk] at e;omega
theorem Inv.tuple(I:Inv X pins σ H s)(h:lW X.K H a xs):∃dN:List Value,Vals xs dN/\IsTup s.heap a dN.toArray/\xs.length<=sizeLine:=by
 rcases h with h|⟨o,dN,n,hk,hc,hs,hz,r⟩
 ·obtain ⟨z,dN,r,p⟩:=h.ok I.cI;exact ⟨dN,r,p,z⟩
 ·refine ⟨dN.toList,r,⟨o,I.vX a o hk,hc,n,by simpa using hs⟩,?_⟩;have e:=r.length;simp only[jk] at e;omega
theorem Inv.K6(I:Inv X pins σ H s)(h:mY X.K H a xs)(h':mY X.K H a ys):xs=ys:=by
 obtain ⟨dN,r,⟨o,n,e,_,_,d⟩,_⟩:=I.list h;obtain ⟨its',r',⟨o',n',e',_,_,d'⟩,_⟩:=I.list h';rw[e] at e';cases e';rw[d] at d';injection d' with d1 _
 have:dN=its':=by simpa using congrArg Array.toList d1
 subst this;exact r.inj r'
theorem Inv.GS(I:Inv X pins σ H s)(h:lW X.K H a xs)(h':lW X.K H a ys):xs=ys:=by
 obtain ⟨dN,r,⟨o,e,_,n,d⟩,_⟩:=I.tuple h;obtain ⟨its',r',⟨o',e',_,n',d'⟩,_⟩:=I.tuple h';rw[e] at e';cases e';rw[d] at d';injection d' with d1 _
 have:dN=its':=by simpa using congrArg Array.toList d1
 subst this;exact r.inj r'
end
abbrev Cx.yL(X:Cx)(E:Value->Shared->Prop):Cx:={X with xe:=E}
abbrev Cx.Wa(X:Cx):Cx:=X.yL λ_ _=>False
theorem Cx.Ok.yL{X:Cx}(ok:X.Ok)(E:Value->Shared->Prop):(X.yL E).Ok:=
 ⟨ok.mod,ok.kind,ok.glob,ok.blt,ok.above,ok.inj,ok.has,ok.O0,ok.hd,ok.frames,ok.BA,ok.Rr,ok.bs,ok.Ir,ok.B6,ok.Ct,ok.rZ,ok.Ly⟩
theorem Cx.Ok.rH{X:Cx}{E:Value->Shared->Prop}(ok:(X.yL E).Ok):X.Ok:=
 ⟨ok.mod,ok.kind,ok.glob,ok.blt,ok.above,ok.inj,ok.has,ok.O0,ok.hd,ok.frames,ok.BA,ok.Rr,ok.bs,ok.Ir,ok.B6,ok.Ct,ok.rZ,ok.Ly⟩
section
variable{X:Cx}{pins:List (Addr×Obj)}{σ:St}{H:Hp}{s:Shared}{E:Value->Shared->Prop}
theorem Inv.yL(I:Inv X pins σ H s)(E:Value->Shared->Prop):Inv (X.yL E) pins σ H s:=⟨I.ok.yL E,I.os,I.bare,I.base,I.loc,I.cell,I.free,I.mj,I.pin,I.cI,I.len⟩
theorem Inv.rH(I:Inv (X.yL E) pins σ H s):Inv X pins σ H s:=⟨I.ok.rH,I.os,I.bare,I.base,I.loc,I.cell,I.free,I.mj,I.pin,I.cI,I.len⟩
theorem SP.rH{D:Ends}{f:Flow}{s':Shared}(h:SP (X.yL E) pins D f s'):SP X pins D f s':=by
 cases f with
 |next=>obtain ⟨σ',H',I,q⟩:=h;exact ⟨σ',H',I.rH,q⟩
 |brk=>obtain ⟨σ',H',I,q⟩:=h;exact ⟨σ',H',I.rH,q⟩
 |cont=>obtain ⟨σ',H',I,q⟩:=h;exact ⟨σ',H',I.rH,q⟩
 |ret u=>obtain ⟨v,σ',H',I,r,q⟩:=h;exact ⟨v,σ',H',I.rH,r,q⟩
theorem A6.Wa{st:List Stmt}{t:TS}(h:A6 X.Wa st t):A6 X st t:=λpins s σ H D I hw=>
 wpAny_mono (h pins s σ H D (I.yL _) hw) (λ_ _ q=>q.rH) λ_ _ z=>gF z
end
section
variable{X:Cx}{st:Stmt}{rest:List Stmt}{t u:TS}{e:Expr}{te:TE}{pos:Pos}
def Ox:TS:=λD σ H=>D.nx σ H
def Jq(t u:TS):TS:=λD σ H=>t {D with nx:=u D} σ H
theorem cZ:A6 X [] Ox:=λ_ _ σ H _ I h=>wpAny_execs_nil ⟨σ,H,I,h⟩
theorem ao(h1:PS X st t)(h2:A6 X rest u):A6 X (st::rest) (Jq t u):=by
 intro pins s σ H D I h;refine wpAny_execs_cons (iM (h1 pins s σ H {D with nx:=u D} I h) λf s1 q=>?_);cases f with
 |next=>
  obtain ⟨σ',H',I',q⟩:=q;exact h2 pins s1 σ' H' D I' q
 |ret v=>exact q
 |brk=>exact q
 |cont=>exact q
theorem aF(h1:PS X st t):A6 X [st] t:=by
 intro pins s σ H D I h;refine wpAny_execs_cons (iM (h1 pins s σ H D I h) λf s1 q=>?_);cases f with
 |next=>exact wpAny_execs_nil q
 |ret v=>exact q
 |brk=>exact q
 |cont=>exact q
theorem Inv.quiet{pins:List (Addr×Obj)}{σ:St}{H:Hp}{s:Shared}(I:Inv X pins σ H s):interactive X.env=false:=by simp [interactive,I.ok.kind]
def OA(te:TE):TS:=λD σ H=>te σ H λ_ H1=>D.nx σ H1
theorem bV(he:PE X e te)(hs:swapsWith e none pos.line X.env=pure false:=by rfl):PS X (.Expr e pos) (OA te):=by
 intro pins s σ H D I h;exact wpAny_Expr_any (iM (he pins s σ H _ I h) λv s1 ⟨x,H1,I1,r1,q1⟩=>⟨σ,H1,I1,q1⟩) I.quiet hs
def yQ(te:TE):TS:=λD σ H=>te σ H D.rt
theorem bT(he:PE X e te):PS X (.Return (some e) pos) (yQ te):=by
 intro pins s σ H D I h;exact wpAny_Return_some (iM (he pins s σ H _ I h) λv s1 ⟨x,H1,I1,r1,q1⟩=>⟨x,σ,H1,I1,r1,q1⟩)
def SI:TS:=λD _ H=>D.rt .kq H
theorem AG:PS X (.Return none pos) SI:=λ_ _ σ H _ I h=>wpAny_Return_none ⟨.kq,σ,H,I,rfl,h⟩
def SM(c:TT)(t u:TS):TS:=λD σ H=>c σ H λb H1=>if b=true then t D σ H1 else u D σ H1
theorem fC{c:Expr}{a b:List Stmt}{tc:TT}(hc:PT X c tc)(ha:A6 X a t)(hb:A6 X b u):PS X (.If c a b pos) (SM tc t u):=by
 intro pins s σ H D I h;refine wpAny_If (iM (hc pins s σ H _ I h) λd s1 ⟨H1,I1,q1⟩=>?_);cases d with
 |true=>exact ha pins s1 σ H1 D I1 q1
 |false=>exact hb pins s1 σ H1 D I1 q1
end
abbrev TG:=V->St->Hp->(St->Hp->Prop)->Prop
abbrev RN:=List V->St->Hp->(St->Hp->Prop)->Prop
def PG(X:Cx)(target:Expr)(t:TG):Prop:=
 ∀(pins:List (Addr×Obj)) (s:Shared) (σ:St) (H:Hp) (v:V) (u:Value) (Q:St->Hp->Prop),Inv X pins σ H s->RelV v u->t v σ H Q->
  wpAny (model X.prog X.w) X.A (assign target X.env u) (λ_ s'=>∃σ' H',Inv X pins σ' H' s'/\Q σ' H') X.xe s
def WM(X:Cx)(ts:List Expr)(t:RN):Prop:=
 ∀(pins:List (Addr×Obj)) (s:Shared) (σ:St) (H:Hp) (vs:List V) (us:List Value) (Q:St->Hp->Prop),Inv X pins σ H s->Vals vs us->t vs σ H Q->
  wpAny (model X.prog X.w) X.A (assignInOrder ((assignEach ts X.env).map (·.2)) us) (λ_ s'=>∃σ' H',Inv X pins σ' H' s'/\Q σ' H') X.xe s
abbrev RM:=V->V->V->Hp->(Hp->Prop)->Prop
def VJ(X:Cx)(t:RM):Prop:=
 ∀(pins:List (Addr×Obj)) (s:Shared) (σ:St) (H:Hp) (o i v:V) (ov iv u:Value) (Q:Hp->Prop),Inv X pins σ H s->RelV o ov->RelV i iv->RelV v u->t o i v H Q->
  wpAny (model X.prog X.w) X.A (setItem ov iv u) (λ_ s'=>∃H',Inv X pins σ H' s'/\Q H') X.xe s
abbrev WK:=V->V->Hp->VK->Prop
def PIp(X:Cx)(op:Operator)(t:WK):Prop:=
 ∀(pins:List (Addr×Obj)) (s:Shared) (σ:St) (H:Hp) (x y:V) (v u:Value) (Q:VK),Inv X pins σ H s->RelV x v->RelV y u->t x y H Q->
  wpAny (model X.prog X.w) X.A (inplaceOp op v u) (EP X pins σ Q) X.xe s
section
variable{X:Cx}{pos:Pos}
def sY(i:Nat):TG:=λv σ H Q=>Q (σ.set i (some v)) H
theorem dB{i:Nat}{x:Str}(hN:X.N.Nodup)(hi:X.N[i]?=some x)(hx:Loc X.env.scope x)(hf:X.fn x=true\/X.env.scope.names.lookup x=some .local:=by first|exact .inl rfl|exact .inr rfl|assumption):PG X (.Name x pos) (sY i):=by
 intro pins s σ H v u Q I r h;exact wpAny_assign_Name (xx I hN hi hx r (λs' I'=>⟨_,H,I',h⟩) hf)
def Ob:RN:=λvs σ H Q=>vs=[]/\Q σ H
def yj(t:TG)(u:RN):RN:=λvs σ H Q=>∃v r,vs=v::r/\t v σ H λσ' H'=>u r σ' H' Q
theorem nB:WM X [] Ob:=by
 intro pins s σ H vs us Q I r h;obtain ⟨e,h⟩:=h;subst e;cases r;exact assignInOrder_nil ⟨σ,H,I,h⟩
theorem gm{e:Expr}{es:List Expr}{t:TG}{u:RN}(h1:PG X e t)(h2:WM X es u)
  (hs:(assignEach (e::es) X.env).map (·.2)=assign e X.env::(assignEach es X.env).map (·.2):=by rfl):WM X (e::es) (yj t u):=by
 intro pins s σ H vs us Q I r h;obtain ⟨v,vr,e1,h⟩:=h;subst e1;cases r with
 |cons r rr=>
  rw[hs];refine assignInOrder_cons (iM (h1 pins s σ H _ _ _ I r h) λ_ s1 ⟨σ1,H1,I1,q1⟩=>?_);exact h2 pins s1 σ1 H1 _ _ Q I1 rr q1
def Oa(K:au)(n:Nat)(t:RN):TG:=λv σ H Q=>∃a xs,v=.ref a/\lW K H a xs/\xs.length=n/\t xs σ H Q
theorem qh{es:List Expr}{k:Nat}{t:RN}{n:Nat}(hc:X.calm=true)(h:WM X es t)
  (hn:(assignEach es X.env).length=n:=by rfl) (YE:(assignEach es X.env).findIdx? (·.1)=none:=by rfl):PG X (.Tuple es k pos) (Oa X.K n t):=by
 intro pins s σ H v u Q I r hw;obtain ⟨a,xs,e1,hq,hl,hw⟩:=hw;subst e1;cases r;obtain ⟨dN,rv,ht,hz⟩:=I.tuple hq;refine assign_Tuple_tuple (I.ok.hd hc) ht (by simp [hn,<-hl,rv.length]) YE λh' hx=>?_;have I1:Inv X pins σ H {s with heap:=h'}:=I.kept (t':=s.toks) λb o e=>hx b o (eF (Heap.lt_size e)) e;exact h pins _ σ H xs _ Q I1 (by simpa using rv) hw
def ZS(to ti:TE)(t:RM):TG:=λv σ H Q=>to σ H λo H1=>ti σ H1 λi H2=>t o i v H2 λH3=>Q σ H3
theorem Ql{o i:Expr}{to ti:TE}{t:RM}(ho:PE X o to)(hi:PE X i ti)(hs:VJ X t)
  (ha:∀v,assign (.Subscript o i pos) X.env v=(do
   let ov<-holding [v] (eval o X.env)
   let iv<-holding [v,ov] (eval i X.env)
   standAt pos
   holding [v,ov,iv] (setItem ov iv v)
   release [v,ov,iv] []):=by intro _;rfl):PG X (.Subscript o i pos) (ZS to ti t):=by
 intro pins s σ H v u Q I r h;rw[ha];refine wpAny_bind (wpAny_holding (iM (ho pins s σ H _ I h) λov s1 ⟨x,H1,I1,r1,q1⟩=>?_));refine wpAny_bind (wpAny_holding (iM (hi pins s1 σ H1 _ I1 q1) λiv s2 ⟨y,H2,I2,r2,q2⟩=>?_));refine wpAny_bind (wpAny_standAt (wpAny_bind (wpAny_holding (iM (hs pins s2 σ H2 x y v ov iv u _ I2 r1 r2 r q2) λ_ s3 ⟨H3,I3,q3⟩=>?_))));exact wpAny_release ⟨σ,H3,I3,q3⟩
def Pj(te:TE)(g:TG):TS:=λD σ H=>te σ H λx H1=>g x σ H1 D.nx
theorem Qj{tg e:Expr}{te:TE}{g:TG}(he:PE X e te)(hg:PG X tg g)(hs:swapsWithSole [tg] e pos.line X.env=pure false:=by rfl)(hw:swappedStores [tg] e X.env=pure none:=by rfl)
  (h1:(assignEach [tg] X.env).map (·.2)=[assign tg X.env]:=by rfl):PS X (.Assign [tg] e pos) (Pj te g):=by
 intro pins s σ H D I h;refine wpAny_Assign_stores (iM (he pins s σ H _ I h) λv s1 ⟨x,H1,I1,r1,q1⟩=>?_) hs hw;rw[h1];exact iM (hg pins s1 σ H1 x v _ I1 r1 q1) λ_ s2 q=>q
theorem bY{i:Nat}{x:Str}{e:Expr}{te:TE}{pos':Pos}(hN:X.N.Nodup)(hi:X.N[i]?=some x)(hx:Loc X.env.scope x)(he:PE X e te)(hs:swapsWith e (some (.Name x pos')) pos.line X.env=pure false:=by rfl)(hf:X.fn x=true\/X.env.scope.names.lookup x=some .local:=by first|exact .inl rfl|exact .inr rfl|assumption):
  PS X (.Assign [.Name x pos'] e pos) (Pj te (sY i)):=by
 intro pins s σ H D I h;refine wpAny_Assign_Name (iM (he pins s σ H _ I h) λv s1 ⟨y,H1,I1,r1,q1⟩=>?_) hs;exact xx I1 hN hi hx r1 (λs2 I2=>⟨_,H1,I2,q1⟩) hf
def WZ(i:Nat)(te:TE)(ti:WK):TS:=λD σ H=>∃x,σ[i]?=some (some x)/\te σ H λy H1=>ti x y H1 λz H2=>D.nx (σ.set i (some z)) H2
theorem xK{i:Nat}{x:Str}{e:Expr}{te:TE}{op:Operator}{ti:WK}{pos':Pos}(hN:X.N.Nodup)(hi:X.N[i]?=some x)(hx:Loc X.env.scope x)(he:PE X e te)(ho:PIp X op ti)(hf:X.fn x=true\/X.env.scope.names.lookup x=some .local:=by first|exact .inl rfl|exact .inr rfl|assumption):
  PS X (.AugAssign (.Name x pos') op e pos) (WZ i te ti):=by
 intro pins s σ H D I h;obtain ⟨v,e1,h⟩:=h;obtain ⟨m,hn,hl⟩:=I.loc;have vis:Ss X.env.scope x:=by rcases hx with k|k;exact .inl k;exact .inr (.inl k)
 obtain ⟨u,r,l⟩:=hl i x v hi e1 vis;refine wpAny_AugAssign_Name ?_
 have go:wpAny (model X.prog X.w) X.A (eval e X.env) (λw s₂=>wpAny (model X.prog X.w) X.A (inplaceOp op u w) (λr s₃=>wpAny (model X.prog X.w) X.A (storeName X.env x r) (λ_=>SP X pins D .next) X.xe s₃) X.xe s₂) X.xe s:=by
  refine iM (he pins s σ H _ I h) λw s1 ⟨y,H1,I1,r1,q1⟩=>?_;refine iM (ho pins s1 σ H1 v y u w _ I1 r r1 q1) λz s2 ⟨zv,H2,I2,r2,q2⟩=>?_;exact xx I2 hN hi hx r2 (λs3 I3=>⟨_,H2,I3,q2⟩) hf
 rcases l with ⟨hk,hm⟩|⟨hk,c,hc,zK⟩
 ·exact wpAny_loadName_local I.ok.kind hk hn hm go
 ·rcases hk with hk|hk
  ·exact wpAny_loadName_cell I.ok.kind hk hc zK go
  ·rcases hx with k|k
   ·have:X.env.scope.names.lookup x=some .free:=hk;rw[k] at this;cases this
   ·have:X.env.scope.names.lookup x=some .free:=hk;rw[k] at this;cases this
def ipI(f:Int->Int->Int):WK:=λx y H Q=>∃i j,x=.int i/\y=.int j/\Q (.int (f i j)) H
theorem AR:PIp X .Add (ipI λi j=>i+j):=by
 intro pins s σ H x y v u Q I r1 r2 h;obtain ⟨i,j,e1,e2,q⟩:=h;subst e1;subst e2;obtain ⟨t,rfl⟩:=r1;obtain ⟨t',rfl⟩:=r2;exact iadd_int ⟨.int _,H,I.tok _,⟨_,rfl⟩,q⟩
theorem QI:PIp X .Sub (ipI λi j=>i-j):=by
 intro pins s σ H x y v u Q I r1 r2 h;obtain ⟨i,j,e1,e2,q⟩:=h;subst e1;subst e2;obtain ⟨t,rfl⟩:=r1;obtain ⟨t',rfl⟩:=r2;exact isub_int ⟨.int _,H,I.tok _,⟨_,rfl⟩,q⟩
end
section
variable{X:Cx}{pos:Pos}
def Pa(c:TT)(tb:TS):TS:=λD σ H=>∃W:Nat->St->Hp->Prop,(∃m,W m σ H)/\∀m σ H,W m σ H->
 c σ H λb H1=>if b=true then ∃N:St->Hp->Prop,(∀σ' H',N σ' H'->∃m',m'<m/\W m' σ' H')/\tb {D with nx:=N,ct:=N,bk:=D.nx} σ H1 else D.nx σ H1
theorem rO{c:Expr}{body:List Stmt}{tc:TT}{tb:TS}(hp:PassesOwn (model X.prog X.w) X.A X.env X.xe)(hc:PT X c tc)(hb:A6 X body tb):PS X (.While c body [] pos) (Pa tc tb):=by
 intro pins s σ H D I h;obtain ⟨W,⟨m0,w0⟩,turn⟩:=h;refine wpAny_While (codeAny_whileLoop (λn s'=>∃σ' H',Inv X pins σ' H' s'/\W n σ' H') ?_ m0 ⟨σ,H,I,w0⟩);rintro n s1 ⟨σ1,H1,I1,w1⟩;refine wpAny_passesOwn hp (iM (hc pins s1 σ1 H1 _ I1 (turn n σ1 H1 w1)) λb s2 ⟨H2,I2,q2⟩=>?_);cases b with
 |true=>
  obtain ⟨N,hN,q2⟩:=q2;rw[if_pos rfl];refine wpAny_passesOwn hp (iM (hb pins s2 σ1 H2 _ I2 q2) λf s3 q3=>?_);cases f with
  |next=>
   obtain ⟨σ3,H3,I3,n3⟩:=q3;obtain ⟨m',hm,w3⟩:=hN σ3 H3 n3;exact ⟨m',hm,σ3,H3,I3,w3⟩
  |cont=>
   obtain ⟨σ3,H3,I3,n3⟩:=q3;obtain ⟨m',hm,w3⟩:=hN σ3 H3 n3;exact ⟨m',hm,σ3,H3,I3,w3⟩
  |brk=>exact q3
  |ret v=>exact q3
 |false=>
  rw[if_neg cW];exact wpAny_execs_nil ⟨σ1,H2,I2,q2⟩
end
structure It where
 go:Nat->Hp->Prop
 GI:Nat->Hp->V->Hp->Prop
 stop:Nat->Hp->Prop
def yx(X:Cx)(pins:List (Addr×Obj))(H:Hp)(b:Addr):Prop:=
 H b=none/\b≠X.env.locals/\b∉X.fs/\(b∈X.ex\/X.uW.heap.objs.size<=b)/\(∀x c,X.env.cells.lookup x=some c->c≠b)/\∀p∈X.pn++pins,p.1≠b
theorem Inv.LB{X:Cx}{pins:List (Addr×Obj)}{σ:St}{H H':Hp}{s:Shared}{b:Addr}(I:Inv X pins σ H s)(hb:s.heap.objs.size<=b)(hn:H' b=none):yx X pins H' b:=by
 refine ⟨hn,EG (cz I.lt hb),I.X3 hb,.inr (cE I.sz hb),λx c e z=>?_,λp hp z=>?_⟩
 ·obtain ⟨v,q⟩:=I.cell x c e;exact absurd (cz q.lt (by rw[z];exact hb)) (gJ _)
 ·exact absurd (cz (Heap.lt_size (I.pin p hp).1) (by rw[z];exact hb)) (gJ _)
structure Turn(P:Program)(w:World)(K:au)(tg:Expr)(J:It)(fp:List Addr)(it:Addr)(tn:Nat->Heap->Prop):Prop where
 mem:it∈fp
 obj:∀i h,tn i h->∀b∈fp,∃o,h.get? b=some o/\∀v,o.data≠.cell v
 keep:∀i h h',tn i h->(∀b∈fp,∀o,h.get? b=some o->h'.get? b=some o)->tn i h'
 item:∀(X:Cx),X.prog=P->X.w=w->X.K=K->X.calm=true->∀(i:Nat) (pins:List (Addr×Obj)) (s:Shared) (σ:St) (H:Hp) (E:Value->Shared->Prop),Inv X pins σ H s->(∀b∈fp,yx X pins H b)->tn i s.heap->J.go i H->
  wpAny (model P w) X.A (pyNext (.ref it)) (λr s1=>∃u,r=some u/\
   wpAny (model P w) X.A (letOwnedTupleGo tg (.ref it) u) (λ_ s2=>∃x H',Inv X pins σ H' s2/\RelV x u/\J.GI i H x H'/\tn (i+1) s2.heap/\∀b∈fp,H' b=none) E s1) E s
 done:∀(X:Cx),X.prog=P->X.w=w->X.K=K->X.calm=true->∀(i:Nat) (pins:List (Addr×Obj)) (s:Shared) (σ:St) (H:Hp) (E:Value->Shared->Prop),Inv X pins σ H s->(∀b∈fp,yx X pins H b)->tn i s.heap->J.stop i H->
  wpAny (model P w) X.A (pyNext (.ref it)) (λr s1=>r=none/\Inv X pins σ H s1) E s
 self:∀(A:Around) (i:Nat) (s:Shared) (Q:Value->Shared->Prop) (E:Value->Shared->Prop),tn i s.heap->Q (.ref it) s->wpAny (model P w) A (pyIter (.ref it)) Q E s
abbrev TI:=St->Hp->(It->Hp->Prop)->Prop
def VL(X:Cx)(pins:List (Addr×Obj))(σ:St)(tg:Expr)(R:It->Hp->Prop)(Yr:Value)(s2:Shared):Prop:=
 ∃(it:Addr) (fp:List Addr) (tn:Nat->Heap->Prop) (J:It) (H':Hp),Yr=.ref it/\Inv X pins σ H' s2/\Turn X.prog X.w X.K tg J fp it tn/\tn 0 s2.heap/\(∀b∈fp,yx X pins H' b)/\R J H'
def PI(X:Cx)(tg iter:Expr)(wi:TI):Prop:=
 ∀(pins:List (Addr×Obj)) (s:Shared) (σ:St) (H:Hp) (R:It->Hp->Prop),Inv X pins σ H s->wi σ H R->
  wpAny (model X.prog X.w) X.A (eval iter X.env) (λv s1=>wpAny (model X.prog X.w) X.A (pyIter v) (VL X pins σ tg R) X.xe s1) X.xe s
theorem Gf{M:Model}{A:Around}{E:Value->Shared->Prop}{s:Shared}{tg:Expr}{it:Addr}{u:Value}{o:Obj}{n:String}{vs:Array Value}{Q:Unit->Shared->Prop}(ho:s.heap.get? it=some o)(hc:o.cls=.type n)(hd:o.data=.fields vs)
  (hn:["enumerate","zip","dict_itemiterator","dict_reverseitemiterator","odict_iterator","itertools.zip_longest","itertools.pairwise"].contains n=false) (hQ:Q () s):wpAny M A (letOwnedTupleGo tg (.ref it) u) Q E s:=by
 unfold letOwnedTupleGo
 cases tg<;>first
  |exact wpAny_pure hQ
  |(cases u<;>first
    |exact wpAny_pure hQ
    |(refine wpAny_bind (wpAny_load ho ?_);rw[hc,hd];show wpAny M A (if (["enumerate","zip","dict_itemiterator","dict_reverseitemiterator","odict_iterator","itertools.zip_longest","itertools.pairwise"].contains n&&vs[0]?==some (rawInt _))=true then _ else _) Q E s;rw[if_neg (by intro h;rw[hn,oS] at h;cases h)];exact wpAny_pure hQ))
def O1(K:au)(a:Addr):It:=
 ⟨λi H=>∃xs x,mY K H a xs/\xs[i]?=some x,λi H x H'=>H'=H/\∀xs,mY K H a xs->xs[i]?=some x,λi H=>∃xs,mY K H a xs/\xs.length<=i⟩
def VN(K:au)(a:Addr):It:=
 ⟨λi H=>∃xs x,lW K H a xs/\xs[i]?=some x,λi H x H'=>H'=H/\∀xs,lW K H a xs->xs[i]?=some x,λi H=>∃xs,lW K H a xs/\xs.length<=i⟩
def Sv(lo:Int)(n:Nat):It:=⟨λi _=>i<n,λi H x H'=>H'=H/\x=.int (lo+i),λi _=>n<=i⟩
theorem GR{P:Program}{w:World}{K:au}{tg:Expr}(a it:Addr):Turn P w K tg (O1 K a) [it] it (λi h=>h.IsListIter it a i) where
 mem:=by simp
 obj:=λi h st b hb=>by
  have e:b=it:=by simpa using hb
  subst e;obtain ⟨o,e,c,d⟩:=st;exact ⟨o,e,λv z=>by rw[d] at z;cases z⟩
 keep:=λi h h' st k=>st.at λo e=>k it (by simp) o e
 item:=by
  intro X hP hw hK hc i pins s σ H E I hf st hg;subst hP hw hK;obtain ⟨xs,x,hq,hx⟩:=hg;obtain ⟨dN,rv,p,hz⟩:=I.list hq;obtain ⟨u,hu,ru⟩:=rv.get hx;obtain ⟨f0,f1,f2,f3,f4,f5⟩:=hf it (by simp);refine wpAny_pyNext_list_item st p.isList (x:=u) (by simpa using hu) λh' Ju sb=>?_;have I1:Inv X pins σ H {s with heap:=h'}:=I.turned (t':=s.toks) (λb o hb e=>(sb.2 b hb).trans e) f0 f1 f3 f4 f5;obtain ⟨o,e,c,d⟩:=id Ju;exact ⟨u,rfl,Gf (s:={s with heap:=h'}) e c d (by decide) ⟨x,H,I1,ru,⟨rfl,λys hy=>by rw[I.K6 hy hq];exact hx⟩,Ju,λb hb=>(hf b hb).1⟩⟩
 done:=by
  intro X hP hw hK hc i pins s σ H E I hf st hg;subst hP hw hK;obtain ⟨xs,hq,hx⟩:=hg;obtain ⟨dN,rv,p,hz⟩:=I.list hq;obtain ⟨f0,f1,f2,f3,f4,f5⟩:=hf it (by simp);have hl:=rv.length;exact wpAny_pyNext_list_end (I.ok.hd hc) st p.isList (by simp;omega) λh' eb=>⟨rfl,I.turned (t':=s.toks) (λb o hb e=>eb b o hb e) f0 f1 f3 f4 f5⟩
 self:=λ_ _ _ _ _ st h=>wpAny_pyIter_listiter st h
theorem Dl{P:Program}{w:World}{K:au}{tg:Expr}(a it:Addr):Turn P w K tg (VN K a) [it] it (λi h=>h.IsTupleIter it a i) where
 mem:=by simp
 obj:=λi h st b hb=>by
  have e:b=it:=by simpa using hb
  subst e;obtain ⟨o,e,c,d⟩:=st;exact ⟨o,e,λv z=>by rw[d] at z;cases z⟩
 keep:=λi h h' st k=>st.at λo e=>k it (by simp) o e
 item:=by
  intro X hP hw hK hc i pins s σ H E I hf st hg;subst hP hw hK;obtain ⟨xs,x,hq,hx⟩:=hg;obtain ⟨dN,rv,p,hz⟩:=I.tuple hq;obtain ⟨u,hu,ru⟩:=rv.get hx;obtain ⟨f0,f1,f2,f3,f4,f5⟩:=hf it (by simp);refine wpAny_pyNext_tuple_item st (show s.heap.IsTuple a dN.toArray from p) (x:=u) (by simpa using hu) λh' Ju sb=>?_;have I1:Inv X pins σ H {s with heap:=h'}:=I.turned (t':=s.toks) (λb o hb e=>(sb.2 b hb).trans e) f0 f1 f3 f4 f5;obtain ⟨o,e,c,d⟩:=id Ju;exact ⟨u,rfl,Gf (s:={s with heap:=h'}) e c d (by decide) ⟨x,H,I1,ru,⟨rfl,λys hy=>by rw[I.GS hy hq];exact hx⟩,Ju,λb hb=>(hf b hb).1⟩⟩
 done:=by
  intro X hP hw hK hc i pins s σ H E I hf st hg;subst hP hw hK;obtain ⟨xs,hq,hx⟩:=hg;obtain ⟨dN,rv,p,hz⟩:=I.tuple hq;obtain ⟨f0,f1,f2,f3,f4,f5⟩:=hf it (by simp);have hl:=rv.length;exact wpAny_pyNext_tuple_end (I.ok.hd hc) st (show s.heap.IsTuple a dN.toArray from p) (by simp;omega) λh' eb=>⟨rfl,I.turned (t':=s.toks) (λb o hb e=>eb b o hb e) f0 f1 f3 f4 f5⟩
 self:=λ_ _ _ _ _ st h=>wpAny_pyIter_tupleiter st h
theorem Dm{P:Program}{w:World}{K:au}{tg:Expr}(it:Addr)(lo:Int)(n:Nat):Turn P w K tg (Sv lo n) [it] it (λi h=>IsRangeIter h it (lo+(i:Nat)*1) ((n:Int)-(i:Nat)) 1) where
 mem:=by simp
 obj:=λi h st b hb=>by
  have e:b=it:=by simpa using hb
  subst e
  exact ⟨_,st,λv z=>by
   have z':Data.fields _=Data.cell v:=z;cases z'⟩
 keep:=λi h h' st k=>k it (by simp) _ st
 item:=by
  intro X hP hw hK hc i pins s σ H E I hf st hg;subst hP hw hK;obtain ⟨f0,f1,f2,f3,f4,f5⟩:=hf it (by simp);have W:=Walks.range (prog:=X.prog) (w:=X.w) (I.ok.hd hc) it lo 1 n;refine W.item i s _ _ hg st λv h' tk hv Ju kk=>?_;obtain ⟨t,rfl⟩:=hv;have I1:Inv X pins σ H {s with heap:=h',toks:=tk}:=I.turned (λb o hb e=>kk b o (by simpa using hb) e) f0 f1 f3 f4 f5;refine ⟨_,rfl,Gf (s:={s with heap:=h',toks:=tk}) (n:="range_iterator") Ju rfl rfl (by decide) ⟨.int (lo+i),H,I1,⟨t,?_⟩,⟨rfl,rfl⟩,Ju,λb hb=>(hf b hb).1⟩⟩;rw[Int.mul_one]
 done:=by
  intro X hP hw hK hc i pins s σ H E I hf st hg;subst hP hw hK;obtain ⟨f0,f1,f2,f3,f4,f5⟩:=hf it (by simp);exact wpAny_pyNext_range_end (I.ok.hd hc) st (by have:n<=i:=hg;omega) λh' eb=>⟨rfl,I.turned (t':=s.toks) (λb o hb e=>eb b o hb e) f0 f1 f3 f4 f5⟩
 self:=λ_ _ _ _ _ st h=>wpAny_pyIter_rangeiter st h
end L2
namespace L2
open PySem PySem.Spec PyProof.Rows
section
variable{X:Cx}{tg:Expr}
def Uu(K:au)(tl:TE):TI:=λσ H R=>tl σ H λx H1=>∃a,x=.ref a/\(∃xs,mY K H1 a xs)/\R (O1 K a) H1
def Yw(K:au)(tl:TE):TI:=λσ H R=>tl σ H λx H1=>∃a,x=.ref a/\(∃xs,lW K H1 a xs)/\R (VN K a) H1
theorem iV{l:Expr}{tl:TE}(hl:PE X l tl):PI X tg l (Uu X.K tl):=by
 intro pins s σ H R I h;refine iM (hl pins s σ H _ I h) λv s1 ⟨x,H1,I1,r1,q1⟩=>?_;obtain ⟨a,e,⟨xs,hq⟩,q⟩:=q1;subst e;cases r1;obtain ⟨dN,rv,p,hz⟩:=I1.list hq;refine wpAny_pyIter_list p.isList ?_;refine ⟨s1.heap.objs.size,[s1.heap.objs.size],_,_,H1,rfl,I1.kept (t':=s1.toks) λb o e=>Heap.get?_push_of_some _ e,GR a _,⟨_,Heap.get?_push_size _ rfl,rfl,rfl⟩,λb hb=>?_,q⟩;have e:b=s1.heap.objs.size:=by simpa using hb
 subst e;exact I1.LB (aL _) (I1.cI.fresh (aL _))
theorem AH{l:Expr}{tl:TE}(hl:PE X l tl):PI X tg l (Yw X.K tl):=by
 intro pins s σ H R I h;refine iM (hl pins s σ H _ I h) λv s1 ⟨x,H1,I1,r1,q1⟩=>?_;obtain ⟨a,e,⟨xs,hq⟩,q⟩:=q1;subst e;cases r1;obtain ⟨dN,rv,p,hz⟩:=I1.tuple hq;refine wpAny_pyIter_tuple (show s1.heap.IsTuple a dN.toArray from p) ?_;refine ⟨s1.heap.objs.size,[s1.heap.objs.size],_,_,H1,rfl,I1.kept (t':=s1.toks) λb o e=>Heap.get?_push_of_some _ e,Dl a _,⟨_,Heap.get?_push_size _ rfl,rfl,rfl⟩,λb hb=>?_,q⟩;have e:b=s1.heap.objs.size:=by simpa using hb
 subst e;exact I1.LB (aL _) (I1.cI.fresh (aL _))
theorem JV{pins:List (Addr×Obj)}{σ:St}{H:Hp}{s:Shared}{R:It->Hp->Prop}{E:Value->Shared->Prop}{lo hi:Int}{t u v:Tok}{tk:Nat}(I:Inv X pins σ H s)(h1: -(2^62)<=lo)(h2:lo<2^62)(h3: -(2^62)<=hi)(h4:hi<2^62)
  (q:R (Sv lo (hi-lo).toNat) H):wpAny (model X.prog X.w) X.A (pyIter (.ref s.heap.objs.size)) (VL X pins σ tg R) E {s with heap:=s.heap.push {cls:=.type "range",data:=.fields #[.int lo t,.int hi u,.int 1 v]},toks:=tk}:=by
 refine wpAny_pyIter_range (IsRange.new ..) (small_one h1 h2 h3 h4) ?_;have I1:Inv X pins σ H {s with heap:=s.heap.push {cls:=.type "range",data:=.fields #[.int lo t,.int hi u,.int 1 v]},toks:=tk}:=I.kept λb o e=>Heap.get?_push_of_some _ e
 refine ⟨(s.heap.push {cls:=.type "range",data:=.fields #[.int lo t,.int hi u,.int 1 v]}).objs.size,[(s.heap.push {cls:=.type "range",data:=.fields #[.int lo t,.int hi u,.int 1 v]}).objs.size],_,_,H,rfl,
  I1.kept (t':=tk) λb o e=>Heap.get?_push_of_some _ e,Dm _ lo (hi-lo).toNat,?_,λb hb=>?_,q⟩
 ·have e1:lo+((0:Nat):Int)*1=lo:=by simp
  have e2:(((hi-lo).toNat:Nat):Int)-((0:Nat):Int)=Builtin.Range.rangeSize lo hi 1:=by rw[rangeSize_one];split<;>omega
  show IsRangeIter _ _ (lo+((0:Nat):Int)*1) ((((hi-lo).toNat:Nat):Int)-((0:Nat):Int)) 1;rw[e1,e2];exact Heap.get?_push_size _ rfl
 ·have e:b=(s.heap.push {cls:=.type "range",data:=.fields #[.int lo t,.int hi u,.int 1 v]}).objs.size:=by simpa using hb
  subst e;exact I1.LB (aL _) (I1.cI.fresh (aL _))
def Ut(ta:TA):TI:=λσ H R=>ta σ H λvs H1=>∃j:Int,vs=[.int j]/\ -(2^62)<=j/\j<2^62/\R (Sv 0 j.toNat) H1
theorem Hq{a:Expr}{ta:TA}{p pos:Pos}(hg:Gl X "range")(hm:X.mg "range"=none)(ha:PA X [a] ta)(hs:starEach [a] X.env=[(false,eval a X.env)]:=by rfl):PI X tg (.Call (.Name "range" p) [a] [] pos) (Ut ta):=by
 intro pins s σ H R I h;refine Call_ (D6 I hg hm boot_range (uI (iM (ha pos pins s σ H _ I h) λus s1 ⟨vs,H1,I1,r1,q1⟩=>?_) hs rfl));obtain ⟨j,e,q1,q2,q⟩:=q1;subst e;cases r1 with
 |cons r rr=>
  cases rr;obtain ⟨t,rfl⟩:=r;exact call_range_1 (JV I1 (by omega) (by omega) q1 q2 (by simpa using q))
def WX(wi:TI)(g:TG)(tb:TS):TS:=λD σ H=>wi σ H λJ H1=>∃W:Nat->Nat->St->Hp->Prop,(∃m,W 0 m σ H1)/\∀i m σ H,W i m σ H->
 (J.stop i H/\D.nx σ H)\/(J.go i H/\∃N:St->Hp->Prop,(∀σ' H',N σ' H'->∃m',m'<m/\W (i+1) m' σ' H')/\∀x H',J.GI i H x H'->g x σ H' λσ2 H2=>tb {D with nx:=N,ct:=N,bk:=D.nx} σ2 H2)
def xM(fp:List Addr)(h:Heap):List (Addr×Obj):=fp.filterMap λb=>(h.get? b).map λo=>(b,o)
theorem tQ{fp:List Addr}{h:Heap}{b:Addr}{o:Obj}(hb:b∈fp)(e:h.get? b=some o):(b,o)∈xM fp h:=uN.mpr ⟨b,hb,by rw[e];rfl⟩
theorem HA{fp:List Addr}{h:Heap}{p:Addr×Obj}(hp:p∈xM fp h):p.1∈fp/\h.get? p.1=some p.2:=by
 obtain ⟨b,hb,e⟩:=uN.mp hp;cases q:h.get? b with
 |none=>rw[q] at e;cases e
 |some o=>
  rw[q] at e;have e':(b,o)=p:=bC e;subst e';exact ⟨hb,q⟩
theorem Inv.pinned{pins:List (Addr×Obj)}{σ:St}{H:Hp}{s:Shared}{fp:List Addr}(I:Inv X pins σ H s)(hf:∀b∈fp,yx X pins H b)(ho:∀b∈fp,∃o,s.heap.get? b=some o/\∀v,o.data≠.cell v):Inv X (pins++xM fp s.heap) σ H s:=
 I.Fj λp hp=>(bG.mp hp).elim (λz=>I.pin p (cG _ z)) λz=>by
  obtain ⟨hb,e⟩:=HA z;obtain ⟨f0,f1,f2,_⟩:=hf p.1 hb;obtain ⟨o,e',d⟩:=ho p.1 hb;rw[e] at e';cases e';exact ⟨e,f0,f1,f2,d⟩
theorem Inv.pC{pins pl:List (Addr×Obj)}{σ:St}{H:Hp}{s:Shared}(I:Inv X (pins++pl) σ H s):Inv X pins σ H s:=I.Fj λp hp=>I.pin p (cG _ (cK _ hp))
theorem jY{iter:Expr}{body:List Stmt}{wi:TI}{g:TG}{tb:TS}{pos:Pos}(hp:PassesOwn (model X.prog X.w) X.A X.env X.xe)(hc:X.calm=true)(hi:PI X tg iter wi)(hg:PG X tg g)(hb:A6 X body tb)
  (hs:∀x,foldedSetIterable iter X.env x=pure x:=by intro _;rfl):PS X (.For tg iter body [] pos) (WX wi g tb):=by
 intro pins s σ H D I h;refine wpAny_For (iM (hi pins s σ H _ I h) λv s1 h1=>iM h1 λYr s2 h2=>?_) hs;obtain ⟨it,fp,tn,J,H2,e,I2,T,SR,f2,W,⟨m0,w0⟩,turn⟩:=h2;subst e;have Dy:∀{H':Hp},(∀b∈fp,H' b=none)->∀b∈fp,yx X pins H' b:=λhn b hb=>⟨hn b hb,(f2 b hb).2⟩;refine codeAny_forLoop_any (λn s'=>∃i σ' H',Inv X pins σ' H' s'/\tn i s'.heap/\(∀b∈fp,H' b=none)/\W i n σ' H') ?_ m0 ⟨0,σ,H2,I2,SR,λb hb=>(f2 b hb).1,w0⟩;rintro n s3 ⟨i,σ3,H3,I3,VW,fr3,w3⟩;rcases turn i n σ3 H3 w3 with ⟨stop,qn⟩|⟨go,N,hN,step⟩
 ·refine wpAny_passesOwn hp (iM (T.done X rfl rfl rfl hc i pins s3 σ3 H3 X.xe I3 (Dy fr3) VW stop) λr s4 ⟨hr,I4⟩=>?_);subst hr;exact wpAny_execs_nil ⟨σ3,H3,I4,qn⟩
 ·refine wpAny_passesOwn hp (iM (T.item X rfl rfl rfl hc i pins s3 σ3 H3 X.xe I3 (Dy fr3) VW go) λr s4 ⟨u,hr,h4⟩=>?_);subst hr;refine wpAny_passesOwn hp (iM h4 λ_ s5 ⟨x,H5,I5,r5,y5,RU,fr5⟩=>?_);have I5':=I5.pinned (Dy fr5) (T.obj _ _ RU);refine wpAny_passesOwn hp (iM (hg _ s5 σ3 H5 x u _ I5' r5 (step x H5 y5)) λ_ s6 ⟨σ6,H6,I6,q6⟩=>?_);refine wpAny_passesOwn hp (iM (hb _ s6 σ6 H6 _ I6 q6) λf s7 q7=>?_)
  have again:∀{σ7:St} {H7:Hp},Inv X (pins++xM fp s5.heap) σ7 H7 s7->N σ7 H7->∃m,m<n/\∃i σ' H',Inv X pins σ' H' s7/\tn i s7.heap/\(∀b∈fp,H' b=none)/\W i m σ' H':=λ{σ7 H7} I7 n7=>by
   obtain ⟨m',hm,w7⟩:=hN σ7 H7 n7;refine ⟨m',hm,i+1,σ7,H7,I7.pC,T.keep _ _ _ RU λb hb o e=>(I7.pin (b,o) (cG _ (cG _ (tQ hb e)))).1,λb hb=>?_,w7⟩;obtain ⟨o,e,d⟩:=T.obj _ _ RU b hb;exact (I7.pin (b,o) (cG _ (cG _ (tQ hb e)))).2.1
  cases f with
  |next=>obtain ⟨σ7,H7,I7,n7⟩:=q7;exact again I7 n7
  |cont=>obtain ⟨σ7,H7,I7,n7⟩:=q7;exact again I7 n7
  |brk=>obtain ⟨σ7,H7,I7,q7⟩:=q7;exact ⟨σ7,H7,I7.pC,q7⟩
  |ret v=>obtain ⟨x7,σ7,H7,I7,r7,q7⟩:=q7;exact ⟨x7,σ7,H7,I7.pC,r7,q7⟩
end
theorem j8{K:au}{a:Addr}{xs:List V}{g:TG}{tb:TS}{D:Ends}{σ:St}{H:Hp}(Pv:Nat->St->Hp->Prop)(h0:Pv 0 σ H)(hl:∀i σ H,i<=xs.length->Pv i σ H->mY K H a xs)
  (hs:∀i x σ H,xs[i]?=some x->Pv i σ H->g x σ H λσ2 H2=>tb {D with nx:=Pv (i+1),ct:=Pv (i+1),bk:=D.nx} σ2 H2) (hd:∀σ H,Pv xs.length σ H->D.nx σ H):
  ∃W:Nat->Nat->St->Hp->Prop,(∃m,W 0 m σ H)/\∀i m σ H,W i m σ H->
   ((O1 K a).stop i H/\D.nx σ H)\/((O1 K a).go i H/\∃N:St->Hp->Prop,(∀σ' H',N σ' H'->∃m',m'<m/\W (i+1) m' σ' H')/\∀x H',(O1 K a).GI i H x H'->g x σ H' λσ2 H2=>tb {D with nx:=N,ct:=N,bk:=D.nx} σ2 H2):=by
 refine ⟨λi m σ H=>m=xs.length-i/\i<=xs.length/\Pv i σ H,⟨xs.length,by simp,bH _,h0⟩,?_⟩;rintro i m σ H ⟨rfl,hi,p⟩;have q:=hl i σ H hi p
 by_cases pX:i<xs.length
 ·refine .inr ⟨⟨xs,xs[i],q,by simp [pX]⟩,Pv (i+1),λσ' H' p'=>⟨xs.length-(i+1),by omega,rfl,pX,p'⟩,λx H' y=>?_⟩;obtain ⟨e,y⟩:=y;subst e;exact hs i x σ _ (y xs q) p
 ·have e:i=xs.length:=by omega
  subst e;exact .inl ⟨⟨xs,q,aL _⟩,hd σ H p⟩
theorem wW{K:au}{a:Addr}{xs:List V}{g:TG}{tb:TS}{D:Ends}{σ:St}{H:Hp}(Pv:Nat->St->Hp->Prop)(h0:Pv 0 σ H)(hl:∀i σ H,i<=xs.length->Pv i σ H->lW K H a xs)
  (hs:∀i x σ H,xs[i]?=some x->Pv i σ H->g x σ H λσ2 H2=>tb {D with nx:=Pv (i+1),ct:=Pv (i+1),bk:=D.nx} σ2 H2) (hd:∀σ H,Pv xs.length σ H->D.nx σ H):
  ∃W:Nat->Nat->St->Hp->Prop,(∃m,W 0 m σ H)/\∀i m σ H,W i m σ H->
   ((VN K a).stop i H/\D.nx σ H)\/((VN K a).go i H/\∃N:St->Hp->Prop,(∀σ' H',N σ' H'->∃m',m'<m/\W (i+1) m' σ' H')/\∀x H',(VN K a).GI i H x H'->g x σ H' λσ2 H2=>tb {D with nx:=N,ct:=N,bk:=D.nx} σ2 H2):=by
 refine ⟨λi m σ H=>m=xs.length-i/\i<=xs.length/\Pv i σ H,⟨xs.length,by simp,bH _,h0⟩,?_⟩;rintro i m σ H ⟨rfl,hi,p⟩;have q:=hl i σ H hi p
 by_cases pX:i<xs.length
 ·refine .inr ⟨⟨xs,xs[i],q,by simp [pX]⟩,Pv (i+1),λσ' H' p'=>⟨xs.length-(i+1),by omega,rfl,pX,p'⟩,λx H' y=>?_⟩;obtain ⟨e,y⟩:=y;subst e;exact hs i x σ _ (y xs q) p
 ·have e:i=xs.length:=by omega
  subst e;exact .inl ⟨⟨xs,q,aL _⟩,hd σ H p⟩
end L2
namespace L2
open PySem PySem.Spec PyProof.Rows
abbrev R2:=V->V->Hp->VK->Prop
def w9(X:Cx)(f:Value->Value->Sem Value)(r:R2):Prop:=
 ∀(pins:List (Addr×Obj)) (s:Shared) (σ:St) (H:Hp) (x y:V) (v u:Value) (Q:VK),Inv X pins σ H s->RelV x v->RelV y u->r x y H Q->
  wpAny (model X.prog X.w) X.A (f v u) (EP X pins σ Q) X.xe s
def UnR(X:Cx)(f:Value->Sem Value)(r:V->Hp->VK->Prop):Prop:=
 ∀(pins:List (Addr×Obj)) (s:Shared) (σ:St) (H:Hp) (x:V) (v:Value) (Q:VK),Inv X pins σ H s->RelV x v->r x H Q->
  wpAny (model X.prog X.w) X.A (f v) (EP X pins σ Q) X.xe s
def oH(X:Cx)(f:Value)(r:List V->Hp->VK->Prop):Prop:=
 ∀(pins:List (Addr×Obj)) (s:Shared) (σ:St) (H:Hp) (xs:List V) (us:List Value) (Q:VK),Inv X pins σ H s->Vals xs us->r xs H Q->
  wpAny (model X.prog X.w) X.A (call f us) (EP X pins σ Q) X.xe s
def a0c(X:Cx)(r:V->Hp->(Bool->Hp->Prop)->Prop):Prop:=
 ∀(pins:List (Addr×Obj)) (s:Shared) (σ:St) (H:Hp) (x:V) (v:Value) (Q:Bool->Hp->Prop),Inv X pins σ H s->RelV x v->r x H Q->
  wpAny (model X.prog X.w) X.A (truthy v) (TP X pins σ Q) X.xe s
def Pc(r:R2)(ta tb:TE):TE:=λσ H Q=>ta σ H λx H1=>tb σ H1 λy H2=>r x y H2 Q
def tUn(r:V->Hp->VK->Prop)(ta:TE):TE:=λσ H Q=>ta σ H λx H1=>r x H1 Q
def rI(C:Int->Int->Prop)(g:Int->Int->V):R2:=λx y H Q=>∃i j,x=.int i/\y=.int j/\C i j/\Q (g i j) H
def J2(g:Int->Int->V):R2:=λx y H Q=>∃i j,x=.int i/\y=.int j/\Q (g i j) H
def rU(g:Int->V):V->Hp->VK->Prop:=λx H Q=>∃i,x=.int i/\Q (g i) H
section
variable{X:Cx}{a b c:Expr}{ta tb tc:TE}{pos:Pos}
theorem RJ(ha:PE X a ta)(hb:PE X b tb){pins:List (Addr×Obj)}{s:Shared}{σ:St}{H:Hp}{R:V->V->Hp->Prop}(I:Inv X pins σ H s)
  (h:ta σ H λx H1=>tb σ H1 λy H2=>R x y H2) {Q:Value->Shared->Prop} {f:Value->Value->Sem Value}
  (hf:∀v u s2 x y H2,Inv X pins σ H2 s2->RelV x v->RelV y u->R x y H2->wpAny (model X.prog X.w) X.A (f v u) Q X.xe s2):
  wpAny (model X.prog X.w) X.A (eval a X.env) (λv s₁=>wpAny (model X.prog X.w) X.A (eval b X.env) (λu s₂=>wpAny (model X.prog X.w) X.A (f v u) Q X.xe s₂) X.xe s₁) X.xe s:=by
 refine iM (ha pins s σ H _ I h) λv s1 ⟨x,H1,I1,r1,q1⟩=>?_;refine iM (hb pins s1 σ H1 _ I1 q1) λu s2 ⟨y,H2,I2,r2,q2⟩=>?_;exact hf v u s2 x y H2 I2 r1 r2 q2
theorem bW{op:Operator}{r:R2}(ho:w9 X (binaryOp op) r)(ha:PE X a ta)(hb:PE X b tb):PE X (.BinOp a op b pos) (Pc r ta tb):=by
 intro pins s σ H Q I h;exact wpAny_BinOp (RJ ha hb I h λv u s2 x y H2 I2 rx ry q=>ho pins s2 σ H2 x y v u Q I2 rx ry q)
theorem Fp{op:UnaryOp}{r:V->Hp->VK->Prop}(ho:UnR X (unaryOp op) r)(ha:PE X a ta):PE X (.UnaryOp op a pos) (tUn r ta):=by
 intro pins s σ H Q I h;exact UnaryOp_ (iM (ha pins s σ H _ I h) λv s1 ⟨x,H1,I1,r1,q1⟩=>ho pins s1 σ H1 x v Q I1 r1 q1)
theorem V8{f:Value->Value->Sem Value}{C:Int->Int->Prop}{g:Int->Int->Int}
  (rule:∀(i j:Int) (t u:Tok) (s:Shared) (Q:Value->Shared->Prop) (E:Value->Shared->Prop),C i j->Q (.int (g i j) s.toks) {s with toks:=s.toks+1}->wpAny (model X.prog X.w) X.A (f (.int i t) (.int j u)) Q E s):
  w9 X f (rI C λi j=>.int (g i j)):=by
 intro pins s σ H x y v u Q I rx ry h;obtain ⟨i,j,rfl,rfl,hc,q⟩:=h;obtain ⟨t,rfl⟩:=rx;obtain ⟨t',rfl⟩:=ry;exact rule i j t t' s _ _ hc ⟨.int (g i j),H,I.tok _,⟨_,rfl⟩,q⟩
theorem Qs{f:Value->Value->Sem Value}{g:Int->Int->Int}
  (rule:∀(i j:Int) (t u:Tok) (s:Shared) (Q:Value->Shared->Prop) (E:Value->Shared->Prop),Q (.int (g i j) s.toks) {s with toks:=s.toks+1}->wpAny (model X.prog X.w) X.A (f (.int i t) (.int j u)) Q E s):
  w9 X f (J2 λi j=>.int (g i j)):=by
 intro pins s σ H x y v u Q I rx ry h;obtain ⟨i,j,rfl,rfl,q⟩:=h;obtain ⟨t,rfl⟩:=rx;obtain ⟨t',rfl⟩:=ry;exact rule i j t t' s _ _ ⟨.int (g i j),H,I.tok _,⟨_,rfl⟩,q⟩
theorem Nu{f:Value->Value->Sem Value}{g:Int->Int->Bool}
  (rule:∀(i j:Int) (t u:Tok) (s:Shared) (Q:Value->Shared->Prop) (E:Value->Shared->Prop),Q (.bool (g i j)) s->wpAny (model X.prog X.w) X.A (f (.int i t) (.int j u)) Q E s):
  w9 X f (J2 λi j=>.bl (g i j)):=by
 intro pins s σ H x y v u Q I rx ry h;obtain ⟨i,j,rfl,rfl,q⟩:=h;obtain ⟨t,rfl⟩:=rx;obtain ⟨t',rfl⟩:=ry;exact rule i j t t' s _ _ ⟨.bl (g i j),H,I,rfl,q⟩
def a0h(i j:Int):Prop:=0<j/\j<1073741824
def a0g(i j:Int):Prop:=0<=j/\j<=1000000/\i.natAbs<2^64
def Ou(i j:Int):Prop:=(-(2^64)<i/\i<2^64)\/(-(2^64)<j/\j<2^64)
theorem Ou.ok{i j:Int}(h:Ou i j):IntMulOk i j:=by
 rcases h with ⟨h1,h2⟩|⟨h1,h2⟩
 ·exact .of_left (intBits_le_64 h1 h2)
 ·exact .of_right (intBits_le_64 h1 h2)
theorem fM:w9 X (binaryOp .Add) (J2 λi j=>.int (i+j)):=Qs λ_ _ _ _ _ _ _ q=>add_int q
theorem gj:w9 X (binaryOp .Sub) (J2 λi j=>.int (i-j)):=Qs λ_ _ _ _ _ _ _ q=>sub_int q
theorem lR:w9 X (binaryOp .Mult) (rI Ou λi j=>.int (i*j)):=V8 λ_ _ _ _ _ _ _ hc q=>mul_int q hc.ok
theorem uo:w9 X (binaryOp .FloorDiv) (rI a0h λi j=>.int (i/j)):=V8 λi j _ _ _ _ _ hc q=>by
 have h1:(0:Int)<j:=hc.1;have h2:j<1073741824:=hc.2;exact floordiv_int (by omega) (by rw[Int.fdiv_eq_ediv_of_nonneg i (by omega)];exact q) (.inl (PyProof.noPylong_small (by omega)))
theorem AL:w9 X (binaryOp .Mod) (rI (λ_ j=>0<j) λi j=>.int (i%j)):=V8 λi j _ _ _ _ _ hc q=>by
 have h1:(0:Int)<j:=hc;exact mod_int' (by omega) (by rw[Int.fmod_eq_emod_of_nonneg i (by omega)];exact q)
theorem Kg:w9 X (binaryOp .LShift) (rI a0g λi j=>.int (i*2^j.toNat)):=V8 λ_ _ _ _ _ _ _ hc q=>lshift_int_small hc.1 hc.2.1 hc.2.2 q
theorem Qq:w9 X (binaryOp .BitAnd) (J2 λi j=>.int (Builtin.bitAnd i j)):=Qs λ_ _ _ _ _ _ _ q=>and_int q
theorem unI{f:Value->Sem Value}{g:Int->Int}
  (rule:∀(i:Int) (t:Tok) (s:Shared) (Q:Value->Shared->Prop) (E:Value->Shared->Prop),Q (.int (g i) s.toks) {s with toks:=s.toks+1}->wpAny (model X.prog X.w) X.A (f (.int i t)) Q E s):
  UnR X f (rU λi=>.int (g i)):=by
 intro pins s σ H x v Q I rx h;obtain ⟨i,rfl,q⟩:=h;obtain ⟨t,rfl⟩:=rx;exact rule i t s _ _ ⟨.int (g i),H,I.tok _,⟨_,rfl⟩,q⟩
theorem Ao:UnR X (unaryOp .USub) (rU λi=>.int (-i)):=unI λ_ _ _ _ _ q=>neg_int q
end
def W9:V->V->Bool
 |.kq,.kq=>true|.kq,.int _=>true|.int _,.kq=>true|.kq,.bl _=>true|.bl _,.kq=>true|.kq,.str _=>true|.str _,.kq=>true
 |.int _,.int _=>true|.bl _,.bl _=>true|.str _,.str _=>true|.tW _,.tW _=>true
 |.int _,.str _=>true|.str _,.int _=>true|.bl _,.str _=>true|.str _,.bl _=>true
 |_,_=>false
def rEq:R2:=λx y H Q=>W9 x y=true/\Q (.bl (decide (x=y))) H
theorem Og{i j:Int}:decide (V.int i=V.int j)=(i==j):=by
 rw[lH];simp
theorem Ry{i j:Bool}:decide (V.bl i=V.bl j)=(i==j):=by
 rw[lH];simp
theorem Of{i j:Str}:decide (V.str i=V.str j)=(i==j):=by
 rw[lH];simp
theorem Oh{i j:Array UInt8}:decide (V.tW i=V.tW j)=(i.toList==j.toList):=by
 rw[lH];cases i;cases j;simp
section
variable{X:Cx}{a b c:Expr}{ta tb tc:TE}{pos:Pos}
theorem ly{pins:List (Addr×Obj)}{σ:St}{H:Hp}{s:Shared}{Q:VK}{k k':Bool}(I:Inv X pins σ H s)(q:Q (.bl k) H)(e:k=k'):EP X pins σ Q (.bool k') s:=by
 subst e;exact ⟨.bl k,H,I,rfl,q⟩
theorem lA:w9 X (compareOp .Eq) rEq:=by
 intro pins s σ H x y v u Q I rx ry h;obtain ⟨hs,q⟩:=h;cases x with
 |kq=>
  cases rx;cases y with
  |kq=>cases ry;exact PySem.EqNone.eq_none_none (ly I q (by simp))
  |bl j=>cases ry;exact PySem.EqNone.eq_none_bool (ly I q (by simp))
  |int j=>obtain ⟨t',rfl⟩:=ry;exact PySem.EqNone.eq_none_int (ly I q (by simp))
  |str j=>obtain ⟨t',rfl⟩:=ry;exact PySem.EqNone.eq_none_str (ly I q (by simp))
  |_=>exact absurd (show false=true from hs) cW
 |bl i=>
  cases rx;cases y with
  |kq=>cases ry;exact PySem.EqNone.eq_bool_none (ly I q (by simp))
  |bl j=>cases ry;exact eq_bool (ly I q Ry)
  |str j=>obtain ⟨t',rfl⟩:=ry;exact PySem.EqMixed.eq_bool_str (ly I q (by simp))
  |_=>exact absurd (show false=true from hs) cW
 |int i=>
  obtain ⟨t,rfl⟩:=rx;cases y with
  |kq=>cases ry;exact PySem.EqNone.eq_int_none (ly I q (by simp))
  |int j=>obtain ⟨t',rfl⟩:=ry;exact eq_int (ly I q Og)
  |str j=>obtain ⟨t',rfl⟩:=ry;exact PySem.EqMixed.eq_int_str (ly I q (by simp))
  |_=>exact absurd (show false=true from hs) cW
 |str i=>
  obtain ⟨t,rfl⟩:=rx;cases y with
  |kq=>cases ry;exact PySem.EqNone.eq_str_none (ly I q (by simp))
  |bl j=>cases ry;exact PySem.EqMixed.eq_str_bool (ly I q (by simp))
  |int j=>obtain ⟨t',rfl⟩:=ry;exact PySem.EqMixed.eq_str_int (ly I q (by simp))
  |str j=>obtain ⟨t',rfl⟩:=ry;exact eq_str (ly I q Of)
  |_=>exact absurd (show false=true from hs) cW
 |tW i=>
  obtain ⟨t,rfl⟩:=rx;cases y with
  |tW j=>obtain ⟨t',rfl⟩:=ry;exact PySem.W.eq_bytes (ly I q Oh)
  |_=>exact absurd (show false=true from hs) cW
 |_=>cases y<;>exact absurd (show false=true from hs) cW
theorem rS:w9 X (compareOp .Lt) (J2 λi j=>.bl (decide (i<j))):=Nu λ_ _ _ _ _ _ _ q=>lt_int q
theorem Fx:w9 X (compareOp .LtE) (J2 λi j=>.bl (decide (i<=j))):=Nu λ_ _ _ _ _ _ _ q=>le_int q
theorem pK:w9 X (compareOp .Gt) (J2 λi j=>.bl (decide (j<i))):=Nu λ_ _ _ _ _ _ _ q=>gt_int q
theorem Ub:w9 X (compareOp .GtE) (J2 λi j=>.bl (decide (j<=i))):=Nu λ_ _ _ _ _ _ _ q=>ge_int q
theorem dH(b:Expr){op:CmpOp}(h:op≠.In:=by decide)(h2:op≠.NotIn:=by decide):behindInMarks op b=false:=by
 have e1:(op==CmpOp.In)=false:=by cases op<;>first|rfl|exact absurd rfl h
 have e2:(op==CmpOp.NotIn)=false:=by cases op<;>first|rfl|exact absurd rfl h2
 cases b<;>simp [behindInMarks,e1,e2]
theorem nE{op:CmpOp}{r:R2}(ho:w9 X (compareOp op) r)(ha:PE X a ta)(hb:PE X b tb)(hm:behindInMarks op b=false):PE X (.Compare a [op] [b] pos) (Pc r ta tb):=by
 intro pins s σ H Q I h;exact wpAny_Compare1 (RJ ha hb I h λv u s2 x y H2 I2 rx ry q=>ho pins s2 σ H2 x y v u Q I2 rx ry q) hm
def E1(t:TE):TT:=λσ H Q=>t σ H λx H'=>∃k,x=.bl k/\Q k H'
theorem dz{op:CmpOp}{r:R2}(ho:w9 X (compareOp op) r)(ha:PE X a ta)(hb:PE X b tb)(hm:behindInMarks op b=false):PT X (.Compare a [op] [b] pos) (E1 (Pc r ta tb)):=by
 intro pins s σ H Q I h
 refine wpAny_isTrue_Compare1 (iM (ha pins s σ H _ I h) λv s1 ⟨x,H1,I1,r1,q1⟩=>iM (hb pins s1 σ H1 _ I1 q1) λu s2 ⟨y,H2,I2,r2,q2⟩=>
  iM (ho pins s2 σ H2 x y v u _ I2 r1 r2 q2) λc s3 ⟨z,H3,I3,r3,k,e,q3⟩=>?_) hm
 subst e;cases r3;exact wpAny_truthy_bool ⟨H3,I3,q3⟩
def Ph(r r':R2)(ta tb tc:TE):TE:=λσ H Q=>ta σ H λx H1=>tb σ H1 λy H2=>r x y H2 λz H3=>∃k,z=.bl k/\
 (if k=true then tc σ H3 λw' H4=>r' y w' H4 Q else Q (.bl false) H3)
theorem J5{op XW:CmpOp}{r r':R2}(ho:w9 X (compareOp op) r)(IS:w9 X (compareOp XW) r')(ha:PE X a ta)(hb:PE X b tb)(hc:PE X c tc)
  (hm:lastMarks [op,XW] [b,c]=false:=by with_unfolding_all rfl):PT X (.Compare a [op,XW] [b,c] pos) (E1 (Ph r r' ta tb tc)):=by
 intro pins s σ H Q I h
 refine isTrue_chain (iM (ha pins s σ H _ I h) λv s1 ⟨x,H1,I1,r1,q1⟩=>test_link (iM (hb pins s1 σ H1 _ I1 q1) λu s2 ⟨y,H2,I2,r2,q2⟩=>
  iM (ho pins s2 σ H2 x y v u _ I2 r1 r2 q2) λd s3 ⟨z,H3,I3,r3,k,e,q3⟩=>?_)) hm
 subst e;cases r3;refine wpAny_truthy_bool ?_;cases k with
 |false=>
  obtain ⟨k',e',q'⟩:=q3;cases e';exact ite_ff ⟨H3,I3,q'⟩
 |true=>
  refine ite_tt (test_last (iM (hc pins s3 σ H3 _ I3 q3) λw' s4 ⟨z',H4,I4,r4,q4⟩=>iM (IS pins s4 σ H4 y z' u w' _ I4 r2 r4 q4) λd' s5 ⟨z2,H5,I5,r5,k2,e2,q5⟩=>?_));subst e2;cases r5;exact wpAny_truthy_bool ⟨H5,I5,q5⟩
def RL(K:au)(x:V)(H:Hp)(k:Bool):Prop:=
 match x with
 |.kq=>k=false
 |.bl b=>k=b
 |.int i=>k=(i !=0)
 |.str y=>y.length<=sizeLine/\k=((y.length:Int) !=0)
 |.tW y=>y.size<=sizeLine/\k=((y.size:Int) !=0)
 |.ref p=>(∃xs,mY K H p xs/\k= !xs.isEmpty)\/(∃xs,lW K H p xs/\k= !xs.isEmpty)\/∃kvs,H p=some (.dK kvs)/\k= !kvs.isEmpty
 |_=>False
theorem D8{κ:Type}{kvs:List (κ×V)}{vs:List (κ×Value)}(r:KV kvs vs):(!vs.isEmpty)= !kvs.isEmpty:=by
 cases r<;>rfl
theorem ya{xs:List V}{dN:List Value}(r:Vals xs dN):(!dN.toArray.isEmpty)= !xs.isEmpty:=by
 cases r<;>simp
theorem xX:(sizeLine:Nat)<2^63:=by rw[sizeLine_eq];decide
theorem O_:a0c X (λx H Q=>∃k,RL X.K x H k/\Q k H):=by
 intro pins s σ H x v Q I rx h;obtain ⟨k,e,q⟩:=h;have hl:=xX;have hs:sizeLine=16777216:=sizeLine_eq;cases x with
 |kq=>
  cases rx;have e':k=false:=e;subst e';exact truthy_none ⟨H,I,q⟩
 |bl b=>
  cases rx;have e':k=b:=e;subst e';exact wpAny_truthy_bool ⟨H,I,q⟩
 |int i=>
  obtain ⟨t,rfl⟩:=rx;have e':k=(i !=0):=e;subst e';exact PySem.P.truthy_int ⟨H,I,q⟩
 |str y=>
  obtain ⟨t,rfl⟩:=rx;obtain ⟨hy,e'⟩:y.length<=sizeLine/\k=((y.length:Int) !=0):=e;subst e';exact PySem.P.truthy_str (by omega) ⟨H,I.tok _,q⟩
 |tW y=>
  obtain ⟨t,rfl⟩:=rx;obtain ⟨hy,e'⟩:y.size<=sizeLine/\k=((y.size:Int) !=0):=e;subst e';exact PySem.W.truthy_bytes (by omega) ⟨H,I.tok _,q⟩
 |ref p=>
  cases rx;have e':(∃xs,mY X.K H p xs/\k= !xs.isEmpty)\/(∃xs,lW X.K H p xs/\k= !xs.isEmpty)\/∃kvs,H p=some (.dK kvs)/\k= !kvs.isEmpty:=e;rcases e' with ⟨xs,hx,e'⟩|⟨xs,hx,e'⟩|⟨kvs,hx,e'⟩
  ·subst e';obtain ⟨dN,r,pl,hz⟩:=I.list hx;have hlen:=r.length;exact wpAny_truthy_list pl.isList (by simp only[aT];omega) ⟨H,I.tok _,by rw[ya r];exact q⟩
  ·subst e';obtain ⟨dN,r,pl,hz⟩:=I.tuple hx;have hlen:=r.length;exact truthy_tuple pl (by simp only[aT];omega) ⟨H,I.tok _,by rw[ya r];exact q⟩
  ·subst e';obtain ⟨hz,hS,vs,r,m⟩:kvs.length<=sizeLine/\(p==sysModules)=false/\∃vs,KV kvs vs/\s.heap.DictOf (fT X.prog X.w) p vs:=I.cI p _ hx;have hlen:kvs.length=vs.length:=Paired.length r;exact wpAny_truthy_dict hS m (by omega) ⟨H,I.tok _,by rw[D8 r];exact q⟩
 |_=>exact (show False from e).elim
theorem pH(ha:PE X a ta)(he:∀whole,isTrue a X.env whole=(do let v<-whole;standAt a.pos;holding [v] (truthy v))):
  PT X a (λσ H Q=>ta σ H λx H'=>∃k,RL X.K x H' k/\Q k H'):=by
 intro pins s σ H Q I h;exact isTrue_plain (iM (ha pins s σ H _ I h) λv s1 ⟨x,H1,I1,r1,q1⟩=>O_ pins s1 σ H1 x v Q I1 r1 q1) (he _)
theorem vals1{x:V}{us:List Value}(r:Vals [x] us):∃u,us=[u]/\RelV x u:=by
 cases r with
 |cons r1 r2=>cases r2;exact ⟨_,rfl,r1⟩
theorem vals2{x y:V}{us:List Value}(r:Vals [x,y] us):∃u w',us=[u,w']/\RelV x u/\RelV y w':=by
 cases r with
 |cons r1 r2=>
  cases r2 with
  |cons r3 r4=>cases r4;exact ⟨_,_,rfl,r1,r3⟩
theorem kC(hc:X.calm=true):oH X (.builtin "max") (λxs H Q=>∃i j,xs=[.int i,.int j]/\Q (.int (if j>i then j else i)) H):=by
 intro pins s σ H xs us Q I r h;obtain ⟨i,j,rfl,q⟩:=h;obtain ⟨u,w',rfl,⟨t,rfl⟩,⟨t',rfl⟩⟩:=vals2 r;refine max_two_ints (I.ok.hd hc) λh' tk k=>⟨_,H,I.kept k,?_,q⟩
 by_cases hj:j>i
 ·rw[if_pos hj,if_pos hj];exact ⟨_,rfl⟩
 ·rw[if_neg hj,if_neg hj];exact ⟨_,rfl⟩
theorem zU(hc:X.calm=true):oH X (.builtin "min") (λxs H Q=>∃i j,xs=[.int i,.int j]/\Q (.int (if j<i then j else i)) H):=by
 intro pins s σ H xs us Q I r h;obtain ⟨i,j,rfl,q⟩:=h;obtain ⟨u,w',rfl,⟨t,rfl⟩,⟨t',rfl⟩⟩:=vals2 r;refine min_two_ints (I.ok.hd hc) λh' tk k=>⟨_,H,I.kept k,?_,q⟩
 by_cases hj:j<i
 ·rw[if_pos hj,if_pos hj];exact ⟨_,rfl⟩
 ·rw[if_neg hj,if_neg hj];exact ⟨_,rfl⟩
end
end L2
namespace L2
open PySem PySem.Spec PyProof.Rows
structure EC(h:Heap)(x dx C:Addr)(mA:Str->Option Value):Prop where
 obj:h.get? x=some (iR C dx)
 ns:h.Ns1 dx mA
 ne:dx≠x
theorem HE{h:Heap}{dx:Addr}{mA:Str->Option Value}(n:h.Ns1 dx mA):∃od,h.get? dx=some od/\∀name,r_ name od=some (mA name):=by
 obtain ⟨o,es,ep,ho,hd,hk,_,hm⟩:=n;refine ⟨o,ho,λname=>?_⟩;have e:=hm name;unfold nsFind findBy at e;rw[<-Array.find?_toList] at e;unfold r_;rw[hd];dsimp only;split
 ·rename_i y q;rw[q] at e;exact congrArg some e
 ·rename_i q;rw[q] at e
  have a:es.toList.any (·.refKey)=false:=by
   rw[kj];intro y hy;obtain ⟨z,t,HU⟩:=hk y (Array.mem_toList_iff.mp hy);simp [DictEntry.refKey,HU]
  have a':¬es.toList.any (·.refKey)=true:=by rw[a];exact cW
  rw[if_neg a'];exact congrArg some e
theorem EC.look{h:Heap}{x dx C:Addr}{mA:Str->Option Value}(I:EC h x dx C mA):∃od,PySem.W.InstAt h x (iR C dx) C (some od)/\∀name,r_ name od=some (mA name):=
 let ⟨od,ho,hl⟩:=HE I.ns
 ⟨od,⟨I.obj,rfl,rfl,ho⟩,hl⟩
section
variable{prog:Program}{w:World}{A:Around}{E:Value->Shared->Prop}{s:Shared}{K:au}{x dx C f:Addr}{mA:Str->Option Value}{name:Str}{v:Value}
theorem get_map{expr:Bool}{Q:Value->Shared->Prop}(X:K.In s.heap)(I:EC s.heap x dx C mA)(hg:pU K C name=true)(hh:uG K C=true)
  (ha:iH K (.ref C) name=some none) (hv:mA name=some v) (QM:IB v=true) (h:Q v {s with toks:=s.toks+1}):
  wpAny (model prog w) A (getAttr (.ref x) name expr) Q E s:=by
 obtain ⟨od,J,hl⟩:=I.look;exact PySem.W.get_value X J (sV hg).1 (PySem.W.findObj_own hh ha rfl (by rw[hl,hv])) QM h
theorem Lw{pl:Sem Bool}{Q:Value×List Value->Shared->Prop}(X:K.In s.heap)(I:EC s.heap x dx C mA)(hg:pU K C name=true)
  (hf:iH K (.ref C) name=some (some (.ref f))) (ht:A7 K (.ref f)=true) (hv:mA name=none) (h:Q (.ref f,[.ref x]) s):
  wpAny (model prog w) A (getMethod (.ref x) name pl) Q E s:=by
 obtain ⟨od,J,hl⟩:=I.look;exact PySem.W.method_fn X J (sV hg).1 (sV hg).2 hf (beq_iff_eq.mp ht) (by show (r_ name od).map (·.isSome)=some false;rw[hl,hv];rfl) h
theorem M3{ns:List Str}{Q:Unit->Shared->Prop}(X:K.In s.heap)(I:EC s.heap x dx C mA)
  (hs:iH K (.ref C) "__setattr__"=some (some (.builtin "object.__setattr__"))) (hp:GB K C=true) (ht:wA K C name=some none) (hh:uG K C=true)
  (hw:CM mA ns) (hsz:ns.length<=sizeLine)
  (h:∀h',EC h' x dx C (λy=>if y=name then some v else mA y)->Heap.SameBut dx s.heap h'->Q () {s with heap:=h',toks:=s.toks+2}):
  wpAny (model prog w) A (setAttr (.ref x) name v) Q E s:=by
 obtain ⟨od,J,hl⟩:=I.look;refine PySem.W.set_plain X J hs (PySem.W.osa_open (s:={s with toks:=s.toks+1}) (r:=none) X J hp ht λb=>?_);obtain ⟨cd,hc,Lo⟩:=PySem.W.any_some hh;have hx:s.heap.get? x=some ⟨.ref C,some dx,.plain,#[]⟩:=I.obj;refine wpAny_bind (wpAny_pure (wpAny_bind (wpAny_bind (wpAny_loadPart hx (wpAny_bind (PySem.W.Looks.here (s:={s with toks:=s.toks+1}) (PySem.W.looks_clsIn X hc) ?_))))));rw[Lo];refine wpAny_pure (a:=some dx) (wpAny_bind (wpAny_pure (wpAny_bind ?_)));refine wpAny_nsSet1 (s:={s with toks:=s.toks+1}) I.ns λh' C0 QS=>?_;obtain ⟨oD,esD,epD,hoD,hdD,hcD⟩:=C0.count (PySem.Within.cons name v hw);refine wpAny_bind (wpAny_lookBehind hoD (by rw[hdD];exact pastItsLine_dict (cE hcD (by rw[bL];omega))) ?_);exact wpAny_pure (h _ ⟨(QS.2 _ (nJ I.ne)).trans I.obj,C0,I.ne⟩ QS)
theorem K4{R:Result->Shared->Prop}{vs:List Value}{kw:List (Str×Value)}(X:K.In s.heap)(hm:I_ K C=true)
  (hi:iH K (.ref C) "__init__"=some (some (.ref f))) (hf:PySem.W.typeIn K (.ref f)=some (.type "function"))
  (h:codeAny (model prog w) (A.under (.builtin "type.__call__" ⟨.ref C::vs,kw⟩)) (.call (.ref f) ⟨.ref (s.heap.objs.size+1)::vs,kw⟩) (PySem.W.InitBack (s.heap.objs.size+1) R)
   {s with heap:=(s.heap.push fV).push (iR C s.heap.objs.size)}):
  codeAny (model prog w) A (.call (.ref C) ⟨vs,kw⟩) R s:=by
 obtain ⟨hh,g,d,t,os⟩:=s;exact PySem.W.make_core (PySem.W.makes_of X hm) (PySem.W.looks_findIn X hi) (λself=>PySem.W.bind_fn X self hf) (.inl rfl) h
end
def iO(f:Str)(v:V):List (Str×V)->List (Str×V)
 |[]=>[(f,v)]
 |(g,x)::r=>if g=f then (g,v)::r else (g,x)::iO f v r
theorem vI(f g:Str)(v:V):∀fs:List (Str×V),(iO f v fs).lookup g=if g=f then some v else fs.lookup g
 |[]=>by
  show jA g [(f,v)]=_
  by_cases h:g=f
  ·have hb:(g==f)=true:=beq_iff_eq.mpr h;simp only[jA,hb,if_pos h]
  ·have hb:(g==f)=false:=beq_eq_false_iff_ne.mpr h;simp only[jA,hb,if_neg h]
 |(k,x)::r=>by
  have ih:=vI f g v r;rw[show iO f v ((k,x)::r)=(if k=f then (k,v)::r else (k,x)::iO f v r) from rfl]
  by_cases hk:k=f
  ·rw[if_pos hk]
   by_cases h:g=k
   ·have hb:(g==k)=true:=beq_iff_eq.mpr h;simp only[jA,hb,if_pos (h.trans hk)]
   ·have hb:(g==k)=false:=beq_eq_false_iff_ne.mpr h;simp only[jA,hb,if_neg (λe:g=f=>h (e.trans hk.symm))]
  ·rw[if_neg hk]
   by_cases h:g=k
   ·have hb:(g==k)=true:=beq_iff_eq.mpr h;simp only[jA,hb,if_neg (λe:g=f=>hk (h.symm.trans e))]
   ·have hb:(g==k)=false:=beq_eq_false_iff_ne.mpr h;simp only[jA,hb];exact ih
theorem vh(f:Str)(v:V):∀fs:List (Str×V),f∈(iO f v fs).map (·.1)/\∀g,g∈fs.map (·.1)->g∈(iO f v fs).map (·.1)
 |[]=>⟨by simp [iO],λg h=>by simp at h⟩
 |(k,x)::r=>by
  obtain ⟨i1,i2⟩:=vh f v r;rw[show iO f v ((k,x)::r)=(if k=f then (k,v)::r else (k,x)::iO f v r) from rfl]
  by_cases hk:k=f
  ·rw[if_pos hk];subst hk;exact ⟨by simp,λg h=>by simpa using h⟩
  ·rw[if_neg hk];refine ⟨?_,λg h=>?_⟩
   ·rw[aI];exact aB _ i1
   ·rw[aI] at h⊢;rcases aP.mp h with e|e
    ·exact aP.mpr (.inl e)
    ·exact aB _ (i2 g e)
theorem vK(f:Str)(v:V):∀fs:List (Str×V),(iO f v fs).length<=fs.length+1
 |[]=>by simp [iO]
 |(k,x)::r=>by
  have ih:=vK f v r;rw[show iO f v ((k,x)::r)=(if k=f then (k,v)::r else (k,x)::iO f v r) from rfl]
  by_cases hk:k=f
  ·rw[if_pos hk,bL,bL];omega
  ·rw[if_neg hk,bL,bL];omega
theorem lX.some_of{v:V}{o:Option Value}(r:lX (some v) o):∃u,o=some u/\RelV v u:=by
 cases o with
 |none=>exact (show False from r).elim
 |some u=>exact ⟨u,rfl,r⟩
theorem lX.none_of{o:Option Value}(r:lX none o):o=none:=by
 cases o with
 |none=>rfl
 |some u=>exact (show False from r).elim
theorem HZ{v:V}{u:Value}(r:RelV v u):IB u=true:=by
 cases v with
 |kq=>cases (show u=Value.none from r);rfl
 |bl b=>cases (show u=Value.bool b from r);rfl
 |int i=>obtain ⟨t,e⟩:=(show ∃t,u=Value.int i t from r);cases e;rfl
 |str x=>obtain ⟨t,e⟩:=(show ∃t,u=Value.str x t from r);cases e;rfl
 |tW b=>obtain ⟨t,e⟩:=(show ∃t,u=Value.bytes b t from r);cases e;rfl
 |Vr b=>obtain ⟨t,e⟩:=(show ∃t,u=Value.float b t from r);cases e;rfl
 |ref a=>cases (show u=Value.ref a from r);rfl
 |ty n=>cases (show u=Value.type n from r);rfl
section
variable{P:Program}{w:World}{H H':Hp}{h h':Heap}{a C dx:Addr}{fs Sn:List (Str×V)}
theorem AS(cI:qO P w H h)(e:H a=some (.ins C dx fs)):∃mA,EC h a dx C mA/\(∀f,lX (fs.lookup f) (mA f))/\CM mA (fs.map (·.1))/\fs.length<=1000/\H dx=some (.own a):=by
 obtain ⟨d,z,ne,ob,mA,n,r,q⟩:=(show jo P w H h a (.ins C dx fs) from cI a _ e)
 exact ⟨mA,⟨ob,n,ne⟩,r,q,z,d⟩
end
structure IZ(K:au)(C:Addr):Prop where
 pg:pU K C Str.empty=true
 hd:uG K C=true
 po:GB K C=true
 sa:iH K (.ref C) "__setattr__"=some (some (.builtin "object.__setattr__"))
theorem IZ.get{K:au}{C:Addr}(c:IZ K C)(f:Str):pU K C f=true:=c.pg
def ek(K:au)(C:Addr)(f:Str):Prop:=iH K (.ref C) f=some none
theorem ek.SE{K:au}{C:Addr}{f:Str}(n:ek K C f):wA K C f=some none:=by
 unfold wA;rw[show iH K (.ref C) f=some none from n];rfl
structure Meth(K:au)(C:Addr)(m:Str)(f:Addr):Prop where
 at_:iH K (.ref C) m=some (some (.ref f))
 fn:A7 K (.ref f)=true
 kp:se K (.ref f)=true
section
variable{X:Cx}{pins:List (Addr×Obj)}{σ:St}{H:Hp}{s:Shared}{a C dx:Addr}{fs:List (Str×V)}{f:Str}{v:V}{A:Around}{E:Value->Shared->Prop}
theorem yi{b:Bool}{Q:Value->Shared->Prop}(I:Inv X pins σ H s)(e:H a=some (.ins C dx fs))(c:IZ X.K C)(n:ek X.K C f)(l:fs.lookup f=some v)
  (h:∀u s',Inv X pins σ H s'->RelV v u->Q u s'):wpAny (model X.prog X.w) A (getAttr (.ref a) f b) Q E s:=by
 obtain ⟨mA,O,r,_,_,_⟩:=AS I.cI e;obtain ⟨u,hu,ru⟩:=lX.some_of (v:=v) (o:=mA f) (by rw[<-l];exact r f);exact get_map I.vX O (c.get f) c.hd n hu (HZ ru) (h u _ (I.tok _) ru)
theorem tS{m:Str}{g:Addr}{pl:Sem Bool}{Q:Value×List Value->Shared->Prop}(I:Inv X pins σ H s)(e:H a=some (.ins C dx fs))(c:IZ X.K C)(k:Meth X.K C m g)(l:fs.lookup m=none)
  (h:Q (.ref g,[.ref a]) s):wpAny (model X.prog X.w) A (getMethod (.ref a) m pl) Q E s:=by
 obtain ⟨mA,O,r,_,_,_⟩:=AS I.cI e;have hn:mA m=none:=lX.none_of (by rw[<-l];exact r m);exact Lw I.vX O (c.get m) k.at_ k.fn hn h
theorem xE{y:V}{u:Value}{Q:Unit->Shared->Prop}(I:Inv X pins σ H s)(e:H a=some (.ins C dx fs))(c:IZ X.K C)(n:ek X.K C f)(hl:fs.length<1000)(ry:RelV y u)
  (h:∀s',Inv X pins σ (upd H a (.ins C dx (iO f y fs))) s'->Q () s'):wpAny (model X.prog X.w) A (setAttr (.ref a) f u) Q E s:=by
 obtain ⟨mA,O,r,wi,_,ho⟩:=AS I.cI e;have hz:(fs.map (·.1)).length<=sizeLine:=by rw[aj,sizeLine_eq];omega
 refine M3 I.vX O c.sa c.po n.SE c.hd wi hz λh' O' sb=>h _ ?_;have hd:∃o,h'.get? dx=some o:=let ⟨o,_,_,e',_⟩:=O'.ns;⟨o,e'⟩;refine I.write (x:=a) (e:=dx) (by rw[e];exact mQ) (.inr ho) (λb q hb z=>(sb.2 b hb).trans z) hd ?_;refine ⟨by rw[az O.ne];exact ho,?_,O.ne,O'.obj,_,O'.ns,λg=>?_,λg hg=>?_⟩
 ·have:=vK f y fs;omega
 ·show lX ((iO f y fs).lookup g) (if g=f then some u else mA g);rw[vI]
  by_cases q:g=f
  ·rw[if_pos q,if_pos q];exact ry
  ·rw[if_neg q,if_neg q];exact r g
 ·by_cases q:g=f
  ·rw[q];exact (vh f y fs).1
  ·refine (vh f y fs).2 g (wi g λz=>hg ?_);show (if g=f then some u else mA g)=none;rw[if_neg q];exact z
theorem Inv.made(I:Inv X pins σ H s):Inv X pins σ (upd (upd H s.heap.objs.size (.own (s.heap.objs.size+1))) (s.heap.objs.size+1) (.ins C s.heap.objs.size []))
  {s with heap:=(s.heap.push fV).push (iR C s.heap.objs.size)}:=by
 have e1:(s.heap.push fV).get? s.heap.objs.size=some fV:=Heap.get?_push_size s.heap rfl
 have e2:((s.heap.push fV).push (iR C s.heap.objs.size)).get? (s.heap.objs.size+1)=some (iR C s.heap.objs.size):=by
  have:=Heap.get?_push_size (s.heap.push fV) (o:=iR C s.heap.objs.size) rfl
  rwa [Heap.size_push] at this
 have e3:(s.heap.push fV).Ns s.heap.objs.size (λ_=>none):=⟨fV,#[],_,e1,rfl,(λe he=>absurd he (by simp)),λ_=>rfl⟩
 have I1:=I.laid (a:=s.heap.objs.size) (o:=.own (s.heap.objs.size+1)) (h':=s.heap.push fV) (t':=s.toks) (λb u q=>Heap.get?_push_of_some _ q) (aL _) ⟨_,e1⟩;refine I1.laid (a:=s.heap.objs.size+1) (o:=.ins C s.heap.objs.size []) (t':=s.toks) (λb u q=>Heap.get?_push_of_some _ q) (wC (Heap.size_push _ _)) ?_;have ne:s.heap.objs.size≠s.heap.objs.size+1:=eF (yC _);refine ⟨by rw[az ne,ak],bH _,ne,e2,λ_=>none,(Heap.Ns1.of_empty e3).at λo q=>Heap.get?_push_of_some _ q,λ_=>mQ,λy hy=>absurd rfl hy⟩
theorem Oo{prog:Program}{w:World}{env:Env}{e:Expr}{f:Str}{pos:Pos}{s:Shared}{Q:Value->Shared->Prop}(hb:attributeBase e f env (eval e env)=eval e env)
  (h:wpAny (model prog w) A (eval e env) (λo s₁=>wpAny (model prog w) A (getAttr o f true) Q E s₁) E s):wpAny (model prog w) A (eval (.Attribute e f pos) env) Q E s:=
 Attribute_any_ h (by rw[arm_eval_Attribute,hb])
end
def By(K:au)(ta:TE)(f:Str):TE:=λσ H Q=>ta σ H λx H1=>∃a C dx fs v,x=.ref a/\H1 a=some (.ins C dx fs)/\IZ K C/\ek K C f/\fs.lookup f=some v/\Q v H1
def TJ(K:au)(ta tv:TE)(f:Str):TS:=λD σ H=>tv σ H λy H1=>ta σ H1 λx H2=>∃a C dx fs,x=.ref a/\H2 a=some (.ins C dx fs)/\IZ K C/\ek K C f/\fs.length<1000/\
 D.nx σ (upd H2 a (.ins C dx (iO f y fs)))
def VP(X:Cx)(op:Operator)(rd:V->V->Hp->VK->Prop):Prop:=
 ∀(pins:List (Addr×Obj)) (s:Shared) (σ:St) (H:Hp) (x y:V) (u v:Value) (Q:VK),Inv X pins σ H s->RelV x u->RelV y v->rd x y H Q->wpAny (model X.prog X.w) X.A (inplaceOp op u v) (EP X pins σ Q) X.xe s
def Fc(K:au)(ta tv:TE)(rd:V->V->Hp->VK->Prop)(f:Str):TS:=λD σ H=>ta σ H λx H1=>∃a C dx fs v,x=.ref a/\H1 a=some (.ins C dx fs)/\IZ K C/\ek K C f/\fs.lookup f=some v/\
 tv σ H1 λy H2=>rd v y H2 λz H3=>∃Vw Sn,H3 a=some (.ins C Vw Sn)/\Sn.length<1000/\D.nx σ (upd H3 a (.ins C Vw (iO f z Sn)))
section
variable{X:Cx}{o e value:Expr}{f:Str}{pos pos' Dt:Pos}{ta tv:TE}
theorem bz(he:PE X e ta)(hb:attributeBase e f X.env (eval e X.env)=eval e X.env):PE X (.Attribute e f pos) (By X.K ta f):=by
 intro pins s σ H Q I h;refine Oo hb (iM (he pins s σ H _ I h) λu s1 ⟨x,H1,I1,rx,a,C,dx,fs,v,ex,ea,c,n,l,q⟩=>?_);subst ex;obtain rfl:u=Value.ref a:=rx;exact yi I1 ea c n l λu' s2 I2 ru=>⟨v,H1,I2,ru,q⟩
theorem fU(ha:PE X o ta)(hv:PE X value tv)(hs:swapsWith value (some (.Attribute o f pos')) pos.line X.env=pure false):PS X (.Assign [.Attribute o f pos'] value pos) (TJ X.K ta tv f):=by
 intro pins s σ H D I h;refine plainObj_wpAny_Assign_Attribute (iM (hv pins s σ H _ I h) λu s1 ⟨y,H1,I1,ry,q⟩=>iM (ha pins s1 σ H1 _ I1 q) λov s2 ⟨x,H2,I2,rx,a,C,dx,fs,ex,ea,c,n,l,q2⟩=>?_) hs;subst ex;obtain rfl:ov=Value.ref a:=rx;exact xE I2 ea c n l ry λs3 I3=>⟨σ,_,I3,q2⟩
theorem su{op:Operator}{rd:V->V->Hp->VK->Prop}(ha:PE X o ta)(hv:PE X value tv)(hop:VP X op rd):PS X (.AugAssign (.Attribute o f Dt) op value pos) (Fc X.K ta tv rd f):=by
 intro pins s σ H D I h;refine wpAny_AugAssign_AttributeAny (iM (ha pins s σ H _ I h) λov s1 ⟨x,H1,I1,rx,a,C,dx,fs,v,ex,ea,c,n,l,q⟩=>?_);subst ex;obtain rfl:ov=Value.ref a:=rx;refine yi I1 ea c n l λu s2 I2 ru=>iM (hv pins s2 σ H1 _ I2 q) λw3 s3 ⟨y,H2,I3,ry,q3⟩=>iM (hop pins s3 σ H2 v y u w3 _ I3 ru ry q3) λw4 s4 ⟨z,H3,I4,rz,Vw,Sn,ea',l',q4⟩=>?_;exact xE I4 ea' c n l' rz λs5 I5=>⟨σ,_,I5,q4⟩
def T5:V->V->Hp->VK->Prop:=λx y H Q=>∃i j,x=.int i/\y=.int j/\Q (.int (i+j)) H
theorem AU:VP X .Add T5:=by
 rintro pins s σ H x y u v Q I rx ry ⟨i,j,rfl,rfl,q⟩;obtain ⟨t,rfl⟩:=(show ∃t,u=Value.int i t from rx)
 obtain ⟨t',rfl⟩:=(show ∃t',v=Value.int j t' from ry)
 exact PyProof.Rows.iadd_int ⟨.int (i+j),H,I.tok _,⟨_,rfl⟩,q⟩
theorem OM{pl:Sem Bool}{m:Str}{apos:Pos}{args:List Expr}{pins:List (Addr×Obj)}{s:Shared}{σ:St}{H:Hp}{Q:Value->Shared->Prop}{te:TE}(he:PE X e te)(I:Inv X pins σ H s)
  (h:te σ H λx H1=>∃a C dx fs g,x=.ref a/\H1 a=some (.ins C dx fs)/\IZ X.K C/\Meth X.K C m g/\fs.lookup m=none/\
   ∀s1,Inv X pins σ H1 s1->wpAny (model X.prog X.w) X.A (callWith pos (.ref g) [.ref a] (backTo pos (starEach args X.env)) (backToKw pos (keywordEach [] X.env))) Q X.xe s1)
  (ht:eval (.Call (.Attribute e m apos) args [] pos) X.env=(do
   let ov<-eval e X.env
   standAt apos.atName
   let (f,first)<-holding [ov] (getMethod ov m pl)
   callWith pos f first (backTo pos (starEach args X.env)) (backToKw pos (keywordEach [] X.env)))):
  wpAny (model X.prog X.w) X.A (eval (.Call (.Attribute e m apos) args [] pos) X.env) Q X.xe s:=by
 refine qZ (pl:=pl) (iM (he pins s σ H _ I h) λu s1 ⟨x,H1,I1,rx,a,C,dx,fs,g,ex,ea,c,k,l,q⟩=>?_) ht;subst ex;obtain rfl:u=Value.ref a:=rx;exact tS I1 ea c k l (q s1 I1)
end
end L2
namespace L2
open PySem PySem.Spec PyProof.Rows
structure i9(k:Nat)(A:Around):Prop where
 hd:A.handled=none
 dp:A.depth+3*k+5<recursionLimit
 un:A.units+16*k+200<cLine
theorem i9.mono{j k:Nat}{A:Around}(r:i9 k A)(h:j<=k):i9 j A:=⟨r.hd,by have:=r.dp;omega,by have:=r.un;omega⟩
theorem i9.deeper{k:Nat}{A:Around}(r:i9 (k+1) A)(env:Env):i9 k (A.deeper env):=
 ⟨r.hd,by have:=r.dp;show A.depth+1+3*k+5<_;omega,by have:=r.un;show A.units+3+16*k+200<_;omega⟩
theorem D3{A:Around}{C:Addr}{us:List Value}{kw:List (Str×Value)}:(A.under (.builtin "type.__call__" ⟨.ref C::us,kw⟩)).depth=A.depth+1:=by
 first|rfl|simp [Around.under,Code.weight,Code.isCreation,Code.isGuard,Code.isCaller,Code.frames,Code.isFrame,guardIds]
theorem D0{A:Around}{C:Addr}{us:List Value}{kw:List (Str×Value)}:(A.under (.builtin "type.__call__" ⟨.ref C::us,kw⟩)).units=A.units+1:=by
 first|rfl|simp [Around.under,Code.cUnits,Code.frames,Code.isFrame]
theorem i9.make{k:Nat}{A:Around}(r:i9 (k+1) A)(C:Addr)(us:List Value)(kw:List (Str×Value)):i9 k (A.under (.builtin "type.__call__" ⟨.ref C::us,kw⟩)):=
 ⟨r.hd,by have:=r.dp;rw[D3];omega,by have:=r.un;rw[D0];omega⟩
theorem i9.depth{k:Nat}{A:Around}(r:i9 k A):A.depth<recursionLimit:=by have:=r.dp;omega
theorem i9.units{k:Nat}{A:Around}(r:i9 k A):A.units+64<cLine:=by have:=r.un;omega
def yR:TA:=λ_ H Q=>Q [] H
def l_(ta:TE)(tr:TA):TA:=λσ H Q=>ta σ H λx H1=>tr σ H1 λxs H2=>Q (x::xs) H2
section
variable{X:Cx}{e:Expr}{es:List Expr}{te:TE}{t:TA}{pos:Pos}
theorem aA:PA X [] yR:=λ_ _ _ _ H Q I h=>Calls.spliced_nil ⟨[],H,I,.nil,h⟩
theorem aa(ha:PE X e te)(hr:PA X es t)(hs:starEach (e::es) X.env=(false,eval e X.env)::starEach es X.env:=by rfl):PA X (e::es) (l_ te t):=by
 intro pos pins s σ H Q I h;rw[hs];show wpAny _ _ (spliced ((false,eval e X.env)::backTo pos (starEach es X.env))) _ _ s;refine Calls.spliced_cons (iM (ha pins s σ H _ I h) λu s1 ⟨x,H1,I1,r1,q1⟩=>?_);exact iM (hr pos pins s1 σ H1 _ I1 q1) λus s2 ⟨xs,H2,I2,r2,q2⟩=>⟨x::xs,H2,I2,.cons r1 r2,q2⟩
def WT(t:TA):TE:=λσ H Q=>t σ H λxs H1=>xs.length<=sizeLine/\∀p,H1 p=none->Q (.ref p) (upd H1 p (.tup xs))
def Mx(t:TA):TE:=λσ H Q=>t σ H λxs H1=>xs.length<=sizeLine/\∀p,H1 p=none->Q (.ref p) (upd H1 p (.lst xs))
theorem k_{x1}(h:PA X es t):PE X (.Tuple es x1 pos) (WT t):=by
 intro pins s σ H Q I hq;refine wpAny_Tuple_spliced (iM (h pos pins s σ H _ I hq) λus s1 ⟨xs,H1,I1,r,z,q⟩=>⟨by rw[<-r.length];exact z,?_⟩);have hf:H1 s1.heap.objs.size=none:=I1.cI.fresh (aL _);refine ⟨.ref s1.heap.objs.size,upd H1 s1.heap.objs.size (.tup xs),I1.laid (t':=s1.toks) (λb u e=>Heap.get?_push_of_some _ e) (aL _) ?_,rfl,q _ hf⟩;exact ⟨z,us,r,⟨_,Heap.get?_push_size _ rfl,rfl,_,rfl⟩⟩
theorem fy(h:PA X es t):PE X (.List es pos) (Mx t):=by
 intro pins s σ H Q I hq;refine wpAny_List_spliced (iM (h pos pins s σ H _ I hq) λus s1 ⟨xs,H1,I1,r,z,q⟩=>⟨by rw[<-r.length];exact z,?_⟩);have hf:H1 s1.heap.objs.size=none:=I1.cI.fresh (aL _);refine ⟨.ref s1.heap.objs.size,upd H1 s1.heap.objs.size (.lst xs),I1.laid (t':=s1.toks) (λb u e=>Heap.get?_push_of_some _ e) (aL _) ?_,rfl,q _ hf⟩;exact ⟨z,us,0,r,Heap.get?_push_size _ rfl⟩
end
abbrev Sp:=List V->Hp->VK->XK->Prop
abbrev I0:=List Env->Hp->Shared->XK->Value->Shared->Prop
structure ED(P:Program)(w:World)(K:au)(mg:Str->Option Value)(base:Heap)(A:Around)(outer:List Env)(s:Shared)(H:Hp):Prop where
 frames:A.frames=some outer
 mod:Mod K mg base
 bs:∀b o,base.get? b=some o->s.heap.get? b=some o/\H b=none
 Ir:base.objs.size<=s.heap.objs.size
 rZ:s.heap.FunFrames base outer
 Ly:∀b∈yW outer,H b=none
 cI:qO P w H s.heap
 bare:AllBare s.gens
def CE(outer:List Env)(P:Program)(w:World)(H:Hp)(s:Shared)(Q:VK)(u:Value)(s':Shared):Prop:=
 ∃v H',s'.os=s.os/\AllBare s'.gens/\Un (yW outer) [] H H' s.heap s'.heap/\qO P w H' s'.heap/\RelV v u/\Q v H'
def CR(CX:I0)(outer:List Env)(P:Program)(w:World)(H:Hp)(s:Shared)(Q:VK)(E:XK)(r:Result)(s':Shared):Prop:=
 match r with
 |.ok (.ret u)=>CE outer P w H s Q u s'
 |.ok _=>False
 |.error e=>CX outer H s E e s'
structure dU(P:Program)(w:World)(K:au)(mg:Str->Option Value)(base:Heap)(CX:I0)(k:Nat)(f:Addr)(fd:FuncData)(ps:List Str)(sp:Sp):Prop where
 len:∀vs H Q E,sp vs H Q E->vs.length=ps.length
 run:∀(A:Around) (outer:List Env) (s:Shared) (H:Hp) (args:Args) (us:List Value) (vs:List V) (Q:VK) (E:XK),i9 k A->ED P w K mg base A outer s H->BindsTo s fd args (ps.zip us)->Vals vs us->sp vs H Q E->
  codeAny (model P w) A (.call (.ref f) args) (CR CX outer P w H s Q E) s
theorem ED.make{P:Program}{w:World}{K:au}{mg:Str->Option Value}{base:Heap}{A:Around}{outer:List Env}{s:Shared}{H:Hp}(e:ED P w K mg base A outer s H)(C:Addr)(us:List Value)(kw:List (Str×Value)):
  ED P w K mg base (A.under (.builtin "type.__call__" ⟨.ref C::us,kw⟩)) outer s H:=⟨by first|exact e.frames|(simpa [Around.under,Code.envs,Code.isFrame,pushEnvs] using e.frames),e.mod,e.bs,e.Ir,e.rZ,e.Ly,e.cI,e.bare⟩
section
variable{X:Cx}{pins:List (Addr×Obj)}{σ:St}{H:Hp}{s s':Shared}
theorem Inv.Vu(I:Inv X pins σ H s):ED X.prog X.w X.K X.mg X.base X.A X.stack s H:=
 ⟨I.ok.frames,I.ok.mod,I.bs,cE I.ok.Ir I.sz,I.stack,I.As,I.cI,I.bare⟩
theorem Inv.after{Q:VK}{u:Value}(I:Inv X pins σ H s)(h:CE X.stack X.prog X.w H s Q u s'):EP X pins σ Q u s':=by
 obtain ⟨v,H',os,bare,un,cI,r,q⟩:=h;obtain ⟨hh,g,d,t,os'⟩:=s';obtain rfl:os'=s.os:=os;exact ⟨v,H',I.call (h':=hh) (g':=g) (d':=d) (t':=t) (ch:=[]) un cI bare (λb z=>absurd z (by simp)),r,q⟩
end
def OB(sp:Sp)(yo:List V)(E:XK)(t:TA):TE:=λσ H Q=>t σ H λvs H1=>sp (vs++yo) H1 Q E
def Bx(C:Addr)(m:Str)(sp:Sp)(yo:List V)(E:XK)(ta:TE)(t:TA):TE:=λσ H Q=>ta σ H λx H1=>∃a dx fs,x=.ref a/\H1 a=some (.ins C dx fs)/\fs.lookup m=none/\
 t σ H1 λvs H2=>sp (x::(vs++yo)) H2 Q E
def Oz(C:Addr)(sp:Sp)(yo:List V)(E:XK)(t:TA):TE:=λσ H Q=>t σ H λvs H1=>∀x dx,H1 x=none->H1 dx=none->dx≠x->
 sp (.ref x::(vs++yo)) (upd (upd H1 dx (.own x)) x (.ins C dx [])) (λv H2=>v=.kq/\Q (.ref x) H2) E
def Binds(K:au)(fd:FuncData)(ps:List Str)(ds:List Value):Prop:=
 ∀(s:Shared) (us:List Value),K.In s.heap->(us++ds).length=ps.length->BindsTo s fd ⟨us,[]⟩ (ps.zip (us++ds))
theorem Binds.all{K:au}{fd:FuncData}{ps:List Str}(h:∀us:List Value,us.length=ps.length->bindArgs fd ⟨us,[]⟩=pure (ps.zip us)):Binds K fd ps []:=λs us _ hl=>by
 rw[fR] at hl⊢;exact .of_eq (h us hl)
def Passes(CX:I0)(X:Cx)(E:XK):Prop:=∀(pins:List (Addr×Obj)) (σ:St) (H:Hp) (s:Shared) (e:Value) (s':Shared),Inv X pins σ H s->CX X.stack H s E e s'->X.xe e s'
section
variable{X:Cx}{CX:I0}{k:Nat}{f C:Addr}{fd:FuncData}{ps:List Str}{sp:Sp}{yo:List V}{ds:List Value}{E:XK}{x m:Str}{p pos apos:Pos}{e o:Expr}{es:List Expr}{ta:TE}{t:TA}
theorem DG{pins:List (Addr×Obj)}{σ:St}{H:Hp}{s:Shared}{Q:VK}{us:List Value}{vs:List V}(F:dU X.prog X.w X.K X.mg X.base CX k f fd ps sp)(hr:i9 k X.A)(hb:Binds X.K fd ps ds)(hd:Vals yo ds)(hx:Passes CX X E)
  (I:Inv X pins σ H s) (r:Vals vs us) (h:sp (vs++yo) H Q E):wpAny (model X.prog X.w) X.A (call (.ref f) us) (EP X pins σ Q) X.xe s:=by
 have r2:Vals (vs++yo) (us++ds):=r.append hd;have hl:(us++ds).length=ps.length:=by rw[<-r2.length];exact F.len _ _ _ _ h
 refine wpAny_call (codeAny_mono (F.run X.A X.stack s H ⟨us,[]⟩ (us++ds) (vs++yo) Q E hr I.Vu (hb s us I.vX hl) r2 h) λr s' hq=>?_);cases r with
 |error e=>exact hx pins σ H s e s' I hq
 |ok fl=>
  cases fl with
  |ret u=>exact I.after hq
  |next=>exact gF hq
  |brk=>exact gF hq
  |cont=>exact gF hq
theorem dh(F:dU X.prog X.w X.K X.mg X.base CX k f fd ps sp)(hr:i9 k X.A)(hg:Gl X x)(hm:X.mg x=some (.ref f))(hk:se X.K (.ref f)=true)(hb:Binds X.K fd ps ds)(hd:Vals yo ds)(hx:Passes CX X E)
  (ha:PA X (e::es) t) (Eh:(x==("__debug__":Str))=false:=by decide) (he:starEach (e::es) X.env=(false,eval e X.env)::starEach es X.env:=by rfl) (v9:(backTo pos (starEach es X.env)).any (·.1)=false:=by rfl):
  PE X (.Call (.Name x p) (e::es) [] pos) (OB sp yo E t):=by
 intro pins s σ H Q I h;refine wpAny_Call_Name_kw (ou I hg hm ?_ Eh);refine tU (h₀:=X.base) I.ok.mod.Uo hk (iM (ha pos pins s σ H _ I h) λus s1 ⟨vs,H1,I1,r,q⟩=>⟨I1.vX,?_⟩) he v9;exact DG F hr hb hd hx I1 r q
theorem bK{pl:Sem Bool}(he:PE X o ta)(c:IZ X.K C)(hm:Meth X.K C m f)(F:dU X.prog X.w X.K X.mg X.base CX k f fd ps sp)(hr:i9 k X.A)(hb:Binds X.K fd ps ds)(hd:Vals yo ds)(hx:Passes CX X E)(ha:PA X (e::es) t)
  (YE:starEach (e::es) X.env=(false,eval e X.env)::starEach es X.env:=by rfl) (v9:(backTo pos (starEach es X.env)).any (·.1)=false:=by rfl)
  (ht:eval (.Call (.Attribute o m apos) (e::es) [] pos) X.env=(do
   let ov<-eval o X.env
   standAt apos.atName
   let (f,first)<-holding [ov] (getMethod ov m pl)
   callWith pos f first (backTo pos (starEach (e::es) X.env)) (backToKw pos (keywordEach [] X.env))):=by rfl):
  PE X (.Call (.Attribute o m apos) (e::es) [] pos) (Bx C m sp yo E ta t):=by
 intro pins s σ H Q I h;refine qZ (pl:=pl) (iM (he pins s σ H _ I h) λu s1 ⟨x,H1,I1,rx,a,dx,fs,ex,ea,l,q⟩=>?_) ht;subst ex;obtain rfl:u=Value.ref a:=rx;refine tS I1 ea c hm l ?_;refine tU (first:=[.ref a]) (h₀:=X.base) I.ok.mod.Uo hm.kp (iM (ha pos pins s1 σ H1 _ I1 q) λus s2 ⟨vs,H2,I2,r,q2⟩=>⟨I2.vX,?_⟩) YE v9;exact DG (us:=.ref a::us) (vs:=.ref a::vs) F hr hb hd hx I2 (.cons rfl r) q2
theorem jZ{pl:Sem Bool}(he:PE X o ta)(c:IZ X.K C)(hm:Meth X.K C m f)(F:dU X.prog X.w X.K X.mg X.base CX k f fd ps sp)(hr:i9 k X.A)(hb:Binds X.K fd ps ds)(hd:Vals yo ds)(hx:Passes CX X E)
  (ht:eval (.Call (.Attribute o m apos) [] [] pos) X.env=(do
   let ov<-eval o X.env
   standAt apos.atName
   let (f,first)<-holding [ov] (getMethod ov m pl)
   callWith pos f first (backTo pos (starEach [] X.env)) (backToKw pos (keywordEach [] X.env))):=by rfl):
  PE X (.Call (.Attribute o m apos) [] [] pos) (Bx C m sp yo E ta yR):=by
 intro pins s σ H Q I h;refine qZ (pl:=pl) (iM (he pins s σ H _ I h) λu s1 ⟨x,H1,I1,rx,a,dx,fs,ex,ea,l,q⟩=>?_) ht;subst ex;obtain rfl:u=Value.ref a:=rx;refine tS I1 ea c hm l ?_;exact Dc (first:=[.ref a]) I1.vX hm.kp (DG (us:=[.ref a]) (vs:=[.ref a]) F hr hb hd hx I1 (.cons rfl .nil) q)
structure Mk(K:au)(C f:Addr):Prop where
 makes:I_ K C=true
 init:iH K (.ref C) "__init__"=some (some (.ref f))
 fn:A7 K (.ref f)=true
 kp:se K (.ref C)=true
theorem BE{pins:List (Addr×Obj)}{σ:St}{H:Hp}{s:Shared}{Q:VK}{us:List Value}{vs:List V}(M:Mk X.K C f)(F:dU X.prog X.w X.K X.mg X.base CX k f fd ps sp)(hr:i9 (k+1) X.A)(hb:Binds X.K fd ps ds)(hd:Vals yo ds)
  (hx:Passes CX X E) (I:Inv X pins σ H s) (r:Vals vs us)
  (h:∀x dx,H x=none->H dx=none->dx≠x->sp (.ref x::(vs++yo)) (upd (upd H dx (.own x)) x (.ins C dx [])) (λv H2=>v=.kq/\Q (.ref x) H2) E):
  wpAny (model X.prog X.w) X.A (call (.ref C) us) (EP X pins σ Q) X.xe s:=by
 have hq:=h (s.heap.objs.size+1) s.heap.objs.size (I.cI.fresh (jF _)) (I.cI.fresh (aL _)) (eF (yC _));have I2:=Inv.made (C:=C) I;have r2:Vals (V.ref (s.heap.objs.size+1)::(vs++yo)) (Value.ref (s.heap.objs.size+1)::(us++ds)):=.cons rfl (r.append hd)
 have hl:(Value.ref (s.heap.objs.size+1)::us++ds).length=ps.length:=by
  have e:=r2.length;rw[F.len _ _ _ _ hq] at e;exact e.symm
 refine wpAny_call (K4 (f:=f) I.vX M.makes M.init (beq_iff_eq.mp M.fn) (codeAny_mono (F.run _ X.stack _ _ ⟨Value.ref (s.heap.objs.size+1)::us,[]⟩ (Value.ref (s.heap.objs.size+1)::(us++ds)) _ _ E (hr.make C us [])
  (I2.Vu.make C us []) (hb _ (Value.ref (s.heap.objs.size+1)::us) I2.vX hl) r2 hq) λr s' oh=>?_))
 cases r with
 |error e=>exact hx pins σ _ _ e s' I2 oh
 |ok fl=>
  cases fl with
  |ret u=>
   obtain ⟨v,H',I3,rv,ev,q3⟩:=I2.after oh;subst ev;exact ⟨rv,⟨V.ref (s.heap.objs.size+1),H',I3,rfl,q3⟩⟩
  |next=>exact gF oh
  |brk=>exact gF oh
  |cont=>exact gF oh
theorem AJ(M:Mk X.K C f)(F:dU X.prog X.w X.K X.mg X.base CX k f fd ps sp)(hr:i9 (k+1) X.A)(hg:Gl X x)(hm:X.mg x=some (.ref C))(hb:Binds X.K fd ps ds)(hd:Vals yo ds)(hx:Passes CX X E)
  (ha:PA X (e::es) t) (Eh:(x==("__debug__":Str))=false:=by decide) (he:starEach (e::es) X.env=(false,eval e X.env)::starEach es X.env:=by rfl) (v9:(backTo pos (starEach es X.env)).any (·.1)=false:=by rfl):
  PE X (.Call (.Name x p) (e::es) [] pos) (Oz C sp yo E t):=by
 intro pins s σ H Q I h;refine wpAny_Call_Name_kw (ou I hg hm ?_ Eh);refine tU (h₀:=X.base) I.ok.mod.Uo M.kp (iM (ha pos pins s σ H _ I h) λus s1 ⟨vs,H1,I1,r,q⟩=>⟨I1.vX,?_⟩) he v9;exact BE M F hr hb hd hx I1 r q
theorem xN(M:Mk X.K C f)(F:dU X.prog X.w X.K X.mg X.base CX k f fd ps sp)(hr:i9 (k+1) X.A)(hg:Gl X x)(hm:X.mg x=some (.ref C))(hb:Binds X.K fd ps ds)(hd:Vals yo ds)(hx:Passes CX X E)
  (Eh:(x==("__debug__":Str))=false:=by decide):PE X (.Call (.Name x p) [] [] pos) (Oz C sp yo E yR):=by
 intro pins s σ H Q I h;refine wpAny_Call_Name_kw (ou I hg hm ?_ Eh);exact Dc I.vX M.kp (BE (us:=[]) M F hr hb hd hx I .nil h)
end
section
variable{X:Cx}{CX:I0}{k:Nat}{f C:Addr}{fd:FuncData}{ps ks:List Str}{sp:Sp}{E:XK}{x m:Str}{p pos apos a2G:Pos}{e o:Expr}{es:List Expr}{kws:List Keyword}{te ta:TE}{t tk:TA}{nm:Option Str}
variable{g:List Value->List Value->List Value}{gV:List V->List V->List V}
end
structure bF(N P:List Str)(sc:Scope):Prop where
 kind:sc.kind=.function
 co:sc.isCoroutine=false
 gen:sc.isGenerator=false
 nd:N.Nodup
 pre:N.take P.length=P
 par:∀x∈P,sc.names.lookup x=some .local\/sc.names.lookup x=some .cell
 Qw:∀y∈sc.names,y.2≠.free
theorem zW{kindOf:Str->Option NameKind}{x:Str}:∀{binds:List (Str×Value)} {m:Str->Option Value},(∀v,(x,v)∉binds)->bindL kindOf binds m x=m x
 |[],_,_=>rfl
 |(n,v)::r,m,h=>by
  unfold bindL;rw[zW λw hw=>h w (aB _ hw)];split
  ·have:x≠n:=by rintro rfl;exact h v aJ
   simp [this]
  ·rfl
theorem zY{kindOf:Str->Option NameKind}{x:Str}:∀{binds:List (Str×Value)} {m:Str->Option Value},(∀v,(x,v)∉binds)->bindC kindOf binds m x=m x
 |[],_,_=>rfl
 |(n,v)::r,m,h=>by
  unfold bindC;rw[zY λw hw=>h w (aB _ hw)];split
  ·rfl
  ·have:x≠n:=by rintro rfl;exact h v aJ
   simp [this]
theorem zX{kindOf:Str->Option NameKind}{x:Str}{v:Value}:∀{P:List Str} {vs:List Value} {i:Nat} {m:Str->Option Value},P.Nodup->P[i]?=some x->vs[i]?=some v->kindOf x=some .local->
  bindL kindOf (P.zip vs) m x=some v
 |[],_,_,_,_,h,_,_=>by simp at h
 |_::_,[],_,_,_,_,h,_=>by simp at h
 |p::P,w::vs,0,m,nd,h1,h2,hk=>by
  simp at h1 h2;subst h1;subst h2;show bindL kindOf ((p,w)::P.zip vs) m p=_;unfold bindL;rw[zW λv hv=>(b9.mp nd).1 (yI hv).1,if_pos hk];simp
 |p::P,w::vs,i+1,m,nd,h1,h2,hk=>by
  show bindL kindOf ((p,w)::P.zip vs) m x=_;unfold bindL;exact zX (i:=i) (b9.mp nd).2 (by simpa using h1) (by simpa using h2) hk
theorem zZ{kindOf:Str->Option NameKind}{x:Str}{v:Value}:∀{P:List Str} {vs:List Value} {i:Nat} {m:Str->Option Value},P.Nodup->P[i]?=some x->vs[i]?=some v->kindOf x≠some .local->
  bindC kindOf (P.zip vs) m x=some v
 |[],_,_,_,_,h,_,_=>by simp at h
 |_::_,[],_,_,_,_,h,_=>by simp at h
 |p::P,w::vs,0,m,nd,h1,h2,hk=>by
  simp at h1 h2;subst h1;subst h2;show bindC kindOf ((p,w)::P.zip vs) m p=_;unfold bindC;rw[zY λv hv=>(b9.mp nd).1 (yI hv).1,if_neg hk];simp
 |p::P,w::vs,i+1,m,nd,h1,h2,hk=>by
  show bindC kindOf ((p,w)::P.zip vs) m x=_;unfold bindC;exact zZ (i:=i) (b9.mp nd).2 (by simpa using h1) (by simpa using h2) hk
def start(N:List Str)(vs:List V):St:=vs.map some++bJ (N.length-vs.length) none
def qt(CX:I0)(P:Program)(w:World)(K:au)(mg:Str->Option Value)(base:Heap)(N:List Str)(qual:Str)(scope:Scope)(f:Addr)(cd:Value)(A:Around)(outer:List Env)(s:Shared)(H:Hp)(E:XK):Cx where
 prog:=P
 w:=w
 K:=K
 mg:=mg
 base:=base
 A:=A.deeper (envOfC qual scope s.heap.objs.size f cd)
 N:=N
 uW:=s
 IY:=H
 env:=envOfC qual scope s.heap.objs.size f cd
 outer:=outer
 stack:=envOfC qual scope s.heap.objs.size f cd::outer
 ex:=[]
 calm:=true
 fn:=λ_=>true
 pn:=[]
 xe:=λe s'=>wpAny (model P w) (A.deeper (envOfC qual scope s.heap.objs.size f cd)) (leaving (envOfC qual scope s.heap.objs.size f cd) e) (λ_ Nc=>CX outer H s E e Nc) (λe' Nc=>CX outer H s E e' Nc) s'
theorem CA{sc:Scope}{n:Nat}{x:Str}(h:sc.names.lookup x=some .cell):∃c,(cellsFrom n sc.names []).lookup x=some c:=by
 have q:=A8 sc.names n [] (.inl h);exact Ag.mp q
theorem HP{CX:I0}{P:Program}{w:World}{K:au}{mg:Str->Option Value}{base:Heap}{N ps:List Str}{qual:Str}{scope:Scope}{f:Addr}{cd:Value}{A:Around}{outer:List Env}{s s1:Shared}{H:Hp}{E:XK}{us:List Value}{vs:List V}
  (S:bF N ps scope) (hd:A.handled=none) (e0:ED P w K mg base A outer s H) (hl:vs.length=ps.length) (r:Vals vs us)
  (x:InCallC s s.heap.objs.size (bindL (envOfC qual scope s.heap.objs.size f cd).kindOf (ps.zip us) λ_=>none) (cellsFrom (s.heap.objs.size+1) scope.names []) (bindC (envOfC qual scope s.heap.objs.size f cd).kindOf (ps.zip us) λ_=>none) s1):
  Inv (qt CX P w K mg base N qual scope f cd A outer s H E) [] (start N vs) H s1:=by
 have v9:ps.length<=N.length:=by have:=congrArg nj S.pre;rw[bS] at this;omega
 obtain ⟨h1,tk,rfl,hk⟩:=x.done;have Ue:∀b:Addr,b∉(qt CX P w K mg base N qual scope f cd A outer s H E).ex:=λb z=>absurd (show b∈([]:List Addr) from z) (by simp)
 refine ⟨⟨e0.mod,S.kind,rfl,rfl,aL _,λy z c h1 h2=>?_,λy hy=>?_,λy c _ h=>?_,λ_=>hd,Around.frames_deeper e0.frames,.inr ⟨rfl,rfl⟩,λb z=>absurd z (Ue b),e0.bs,e0.Ir,λb _ _=>Ue b,λb z=>absurd z (Ue b),e0.rZ,e0.Ly⟩,
  rfl,e0.bare,Un.kept hk,⟨_,x.toInCall.ns,λi y v h1 h2 h3=>?_⟩,λy c h=>⟨_,x.cell y c h⟩,e0.cI.fresh (aL _),λy c h=>?_,λp hp=>absurd (show p∈([]:List (Addr×Obj)) from hp) (by simp),e0.cI.kept hk,?_⟩
 ·exact name_of_addr x.apart (cO h1) (cO h2)
 ·have hy:scope.names.lookup y=some .cell\/scope.names.lookup y=some .free:=hy;rcases hy with hy|hy
  ·exact CA hy
  ·exact absurd rfl (S.Qw _ (cO hy))
 ·exact dR (x.above y c (cO h))
 ·have hi:i<vs.length:=by
   unfold start at h2
   by_cases hi:i<vs.length
   ·exact hi
   ·rw[gb (by simpa using hi)] at h2;rw[lZ] at h2;split at h2<;>cases h2
  have ha:vs[i]?=some v:=by
   unfold start at h2;rw[gz (by simpa using hi),cu] at h2;cases e:vs[i]? with
   |none=>rw[e] at h2;cases h2
   |some a=>rw[e] at h2;cases h2;rfl
  obtain ⟨u,hu,rv⟩:=r.get ha
  have hp:ps[i]?=some y:=by
   rw[<-S.pre,Bo (by omega)];exact h1
  have ndP:ps.Nodup:=by rw[<-S.pre];exact S.nd.sublist (vS _ _)
  refine ⟨u,rv,?_⟩;rcases S.par y (cA hp) with k|k
  ·exact .inl ⟨k,zX ndP hp hu k⟩
  ·obtain ⟨c,e⟩:=CA (n:=s.heap.objs.size+1) k;refine .inr ⟨.inl k,c,e,?_⟩;have q:=x.cell y c e;rw[zZ ndP hp hu (by show scope.names.lookup y≠_;rw[k];decide)] at q;exact q
 ·exact e0.cI.fresh (dR (x.above y c (cO h)))
 ·unfold start;show _=N.length;rw[aE,aj,eu];omega
theorem OW{CX:I0}{P:Program}{w:World}{K:au}{mg:Str->Option Value}{base:Heap}{k:Nat}{f:Addr}{name qual:Str}{params:Arguments}{body:List Stmt}{scope:Scope}{dV kV doc pm gX ct oc:Value}{an od:Option Addr}
  {Qp:Array (Option Value)} {N ps:List Str} {sp:Sp} (lk:K.lookup f=some ⟨oc,od,.func (uH name qual params body scope dV kV doc pm an gX ct),Qp⟩) (uv:PySem.W.codeIn K gX qual=true) (S:bF N ps scope)
  (len:∀vs H Q E,sp vs H Q E->vs.length=ps.length)
  (Cm:∀(A:Around) (outer:List Env) (s:Shared) (H:Hp) (vs:List V) (Q:VK) (E:XK),i9 k (A.deeper (envOfC qual scope s.heap.objs.size f gX))->sp vs H Q E->
   ∃t,A6 (qt CX P w K mg base N qual scope f gX A outer s H E) body t/\t {nx:=λ_ H'=>Q .kq H',rt:=Q} (start N vs) H):
  dU P w K mg base CX (k+1) f (uH name qual params body scope dV kV doc pm an gX ct) ps sp:=by
 refine ⟨len,λA outer s H args us vs Q E hr e0 hb r Mg=>?_⟩;have hl:=len _ _ _ _ Mg;have KX:K.In s.heap:=e0.mod.Uo.keeps λb o e=>(e0.bs b o e).1;have lim:s.heap.NoLimit:=e0.mod.nolimit.keeps λb o e=>(e0.bs b o e).1
 have U0:∀y∈ps.zip us,scope.names.lookup y.1=some .local\/(scope.names.lookup y.1=some .cell/\((cellsFrom (s.heap.objs.size+1) scope.names []).lookup y.1).isSome=true):=λ⟨n,v⟩ hy=>by
  rcases S.par n (yI hy).1 with q|q
  ·exact .inl q
  ·exact .inr ⟨q,A8 _ _ _ (.inl q)⟩
 refine codeAny_call_function hr.depth (KX _ _ lk) rfl S.co S.gen rfl (PySem.W.codeRec_of KX uv) (hb _ _ _ _ ?_);refine wpAny_newFunctionEnv_cells S.kind U0 λenv he s1 x=>?_;subst he;refine ⟨lim.keeps x.toInCall.keep,codeAny_func ?_⟩;obtain ⟨t,ht,hq⟩:=Cm A outer s H vs Q E (hr.deeper _) Mg;have I:Inv (qt CX P w K mg base N qual scope f gX A outer s H E) [] (start N vs) H s1:=HP S hr.hd e0 hl r x;refine wpAny_mono (ht [] s1 (start N vs) H _ I hq) (λfl s' hs=>?_) λe s' hs=>hs
 have fin:∀{σ':St} {H':Hp} {v:V} {u:Value},Inv (qt CX P w K mg base N qual scope f gX A outer s H E) [] σ' H' s'->RelV v u->Q v H'->CE outer P w H s Q u s':=
  λ{σ' H' v u} J rv q=>⟨v,H',J.os,J.bare,J.base,J.cI,rv,q⟩
 cases fl with
 |ret u=>
  obtain ⟨v,σ',H',J,rv,q⟩:=hs;exact fin J rv q
 |next=>
  obtain ⟨σ',H',J,q⟩:=hs;exact fin (v:=V.kq) (u:=Value.none) J rfl q
 |brk=>
  obtain ⟨_,_,_,q⟩:=hs;exact gF q
 |cont=>
  obtain ⟨_,_,_,q⟩:=hs;exact gF q
end L2
namespace L2
open PySem PySem.Spec PyProof.Rows
section
variable{X:Cx}{x:Str}{p pos:Pos}{e:Expr}{es:List Expr}{t:TA}{id T:String}{r:List V->Hp->VK->Prop}
def tCB(r:List V->Hp->VK->Prop)(t:TA):TE:=λσ H Q=>t σ H λvs H1=>r vs H1 Q
theorem cF(hc:oH X (.builtin id) r)(hg:Gl X x)(hm:X.mg x=none)(hv:bootBuiltins x=some (.builtin id))(ha:PA X (e::es) t)(hn:x≠"__name__":=by decide)(Eh:(x==("__debug__":Str))=false:=by decide)
  (he:starEach (e::es) X.env=(false,eval e X.env)::starEach es X.env:=by rfl) (v9:(backTo pos (starEach es X.env)).any (·.1)=false:=by rfl):PE X (.Call (.Name x p) (e::es) [] pos) (tCB r t):=by
 intro pins s σ H Q I h;refine wpAny_Call_Name_kw (D6 I hg hm hv ?_ hn Eh);exact PyProof.Rows.callWith_builtin1 (iM (ha pos pins s σ H _ I h) λus s1 ⟨vs,H1,I1,r1,q1⟩=>hc pins s1 σ H1 vs us Q I1 r1 q1) he v9
theorem sD(hc:oH X (.type T) r)(hg:Gl X x)(hm:X.mg x=none)(hv:bootBuiltins x=some (.type T))(ha:PA X (e::es) t)(hn:x≠"__name__":=by decide)(Eh:(x==("__debug__":Str))=false:=by decide)
  (he:starEach (e::es) X.env=(false,eval e X.env)::starEach es X.env:=by rfl) (v9:(backTo pos (starEach es X.env)).any (·.1)=false:=by rfl):PE X (.Call (.Name x p) (e::es) [] pos) (tCB r t):=by
 intro pins s σ H Q I h;refine wpAny_Call_Name_kw (D6 I hg hm hv ?_ hn Eh);exact uI (iM (ha pos pins s σ H _ I h) λus s1 ⟨vs,H1,I1,r1,q1⟩=>hc pins s1 σ H1 vs us Q I1 r1 q1) he v9
end
end L2
namespace HT
open PySem PyProof.Rows
section
open PySem.SeqAt
open PySem.AutoSeq1 (wpAny_loadPart')
open PySem.MeetsSeq PySem.MeetsSeq2 PySem.MeetsSeq3
end
section
variable{prog:Program}{w:World}{A:Around}{E:Value->Shared->Prop}{s:Shared}
theorem Om{t b:Addr}{vs ws:List Value}{Q:Value->Shared->Prop}(ht:IsTup s.heap t vs.toArray)(hb:IsTup s.heap b ws.toArray)(hv:vs≠[])
  (h1:ws=[]->Q (.ref t) s) (h2:ws≠[]->Q (.ref s.heap.objs.size) {s with heap:=s.heap.push {cls:=.type "tuple",data:=.seq (vs++ws).toArray}})
  (hsz:vs.length+ws.length<=sizeLine):wpAny (model prog w) A (binaryOp .Add (.ref t) (.ref b)) Q E s:=by
 obtain ⟨⟨cls,dd,data,sl⟩,ho,hc,n,hd⟩:=id ht;obtain ⟨⟨Z4,WG,data2,VY⟩,Ec,wc,n2,hd2⟩:=id hb;simp only at hc hd wc hd2;subst hc hd wc hd2;have e:vs.toArray++ws.toArray=(vs++ws).toArray:=by simp
 by_cases hw:ws=[]
 ·exact concat_meets ⟨_,ho,rfl⟩ ⟨_,Ec,rfl⟩ noFill_tuple_add seq_tuple_add qv pV (o9 _ _)
   (tuple_addW1 t b vs.toArray ws.toArray n n2 dd WG sl VY (by simpa using hv) (by simp [hw])) ⟨ho,Ec,h1 hw⟩
 ·refine concat_meets ⟨_,ho,rfl⟩ ⟨_,Ec,rfl⟩ noFill_tuple_add seq_tuple_add qv pV (o9 _ _)
   (tuple_addW2 t b vs.toArray ws.toArray n n2 dd WG sl VY (by simpa using hv) (by simpa using hw) (by rw[aT,aT];exact hsz)) ⟨ho,Ec,?_⟩
  rw[e];exact h2 hw
def kX(n d:Nat):Option Int->Nat
 |none=>d
 |some v=>if v<0 then (v+(n:Int)).toNat else min v.toNat n
theorem P_(n d:Nat)(hd:d<=n)(o:Option Int):kX n d o<=n:=by
 cases o with
 |none=>exact hd
 |some v=>
  show (if v<0 then (v+(n:Int)).toNat else min v.toNat n)<=n
  by_cases hv:v<0
  ·rw[if_pos hv];omega
  ·rw[if_neg hv];exact Nat.min_le_right _ _
theorem Gn(v:Int)(n d:Nat):(if v<0 then max (v+(n:Int)) 0 else min v (n:Int))=((kX n d (some v):Nat):Int):=by
 show (if v<0 then max (v+(n:Int)) 0 else min v (n:Int))=(((if v<0 then (v+(n:Int)).toNat else min v.toNat n):Nat):Int)
 by_cases hv:v<0
 ·simp only[if_pos hv];omega
 ·simp only[if_neg hv];omega
theorem EA(lo hi:Option Int)(n:Nat):Builtin.Slice.sliceAdjust lo hi 1 (n:Int)=(((kX n 0 lo:Nat):Int),((kX n n hi:Nat):Int)):=by
 have h1:¬((1:Int)<0):=by omega
 unfold Builtin.Slice.sliceAdjust;simp only[h1,if_false];refine qP ?_ ?_
 ·cases lo with
  |none=>rfl
  |some v=>exact Gn v n 0
 ·cases hi with
  |none=>rfl
  |some v=>exact Gn v n n
theorem DN(i j:Nat):Builtin.Slice.slicePlaces (i:Int) (j:Int) 1=j-i:=by
 unfold Builtin.Slice.slicePlaces;have h1:(1:Int)>0:=by omega
 simp only[h1,if_true,Int.ediv_one];split<;>omega
theorem xB{v:Value}{o:Option Int}{Q:Option Int->Shared->Prop}(p:IsPart v o)(h:Q o s):wpAny (model prog w) A (Builtin.Slice.slicePartIndex v) Q E s:=by
 cases p with
 |none=>exact slicePart_none h
 |int i t=>exact slicePart_int h
theorem pD{sl:Addr}{vl vu:Value}{lo hi:Option Int}{n:Nat}{Q:Int×Int×Nat->Shared->Prop}(hs:s.heap.IsSliceOf sl vl vu .none)(pl:IsPart vl lo)(pu:IsPart vu hi)
  (h:Q (((kX n 0 lo:Nat):Int),1,kX n n hi-kX n 0 lo) s):wpAny (model prog w) A (Builtin.Slice.sliceApplied (.ref sl) (pure (n:Int))) Q E s:=by
 obtain ⟨os,QY,Wu,U_⟩:=id hs;unfold Builtin.Slice.sliceApplied Builtin.Slice.sliceFields;refine wpAny_bind (wpAny_bind (wpAny_field QY U_ (x:=vl) rfl (wpAny_bind (wpAny_field QY U_ (x:=vu) rfl (wpAny_bind (wpAny_field QY U_ (x:=.none) rfl (wpAny_pure ?_)))))));refine wpAny_bind (slicePart_none ?_);show wpAny _ _ (if ((1:Int)==0)=true then _ else _) _ _ s;rw[if_neg (by decide)];refine wpAny_bind (xB pl (wpAny_bind (xB pu (wpAny_bind (wpAny_pure ?_)))));show wpAny _ _ (match Builtin.Slice.sliceAdjust lo hi 1 (n:Int) with|(lo,hi)=>pure (lo,(1:Int),Builtin.Slice.slicePlaces lo hi 1)) _ _ s;rw[EA lo hi n];show wpAny _ _ (pure (((kX n 0 lo:Nat):Int),(1:Int),Builtin.Slice.slicePlaces ((kX n 0 lo:Nat):Int) ((kX n n hi:Nat):Int) 1)) _ _ s;rw[DN];exact wpAny_pure h
theorem J8(xs:Array Value)(i k:Nat):((bX k).filterMap λ(m:Nat)=>xs[((i:Int)+(m:Int)*1).toNat]?).toArray=((xs.toList.drop i).take k).toArray:=by
 have e:(λ(m:Nat)=>xs[((i:Int)+(m:Int)*1).toNat]?)=λm=>xs[i+m]?:=by
  funext m;have:((i:Int)+(m:Int)*1).toNat=i+m:=by omega
  rw[this]
 rw[e];have:=pick_run xs i k;rw[uO] at this;have e2:((λx=>xs[x]?)∘λx=>i+x)=λm=>xs[i+m]?:=rfl;rw[e2] at this;rw[this]
theorem ux{t sl:Addr}{items:Array Value}{vl vu:Value}{lo hi:Option Int}{Q:Value->Shared->Prop}(ht:IsTup s.heap t items)(hs:s.heap.IsSliceOf sl vl vu .none)(pl:IsPart vl lo)(pu:IsPart vu hi)
  (hw:¬(kX items.size 0 lo=0/\kX items.size items.size hi=items.size))
  (h:Q (.ref s.heap.objs.size) {s with heap:=s.heap.push {cls:=.type "tuple",data:=.seq ((items.toList.drop (kX items.size 0 lo)).take (kX items.size items.size hi-kX items.size 0 lo)).toArray}})
  (hsz:items.size<=sizeLine):wpAny (model prog w) A (getItem (.ref t) (.ref sl)) Q E s:=by
 have F_:sizeOk (.seq ((items.toList.drop (kX items.size 0 lo)).take (kX items.size items.size hi-kX items.size 0 lo)).toArray):=by
  show ((items.toList.drop (kX items.size 0 lo)).take (kX items.size items.size hi-kX items.size 0 lo)).toArray.size<=sizeLine;rw[aT,bS,b_,jk];omega
 have hj:kX items.size items.size hi<=items.size:=P_ _ _ (aL _) hi;obtain ⟨os,QY,Wu,U_⟩:=id hs;have ZK:s.TypeIs (.ref sl) "slice":=⟨os,QY,Wu⟩
 unfold getItem
 try with_reducible refine wpAny_holding ?_
 first|refine wpAny_bind (wpAny_pure ?_)|skip
 refine wpAny_bind (wpAny_sequenceKey ht.typeIs (by decide) ?_)
 refine wpAny_bind (wpAny_callSpecial?_slot (name:=Str.ofString "__getitem__") ht.typeIs fq
  (wpAny_call_entry fq ht.typeIs entry_tuple_getitem ?_ (args_tuple_getitem _ _)))
 show wpAny _ _ (Builtin.Tuple.tupleItemsOf (.ref t)>>=_) _ _ s;refine wpAny_bind (tupleItemsOf_ ht ?_);refine wpAny_bind (wpAny_typeOf ZK ?_);rw[if_pos (by decide)];refine wpAny_bind (pD hs pl pu ?_)
 have ql:¬((((kX items.size 0 lo:Nat):Int)==0&&(1:Int)==1&&(kX items.size items.size hi-kX items.size 0 lo)==items.size)=true):=by
  intro q;rw[aC,aC] at q;have q1:((kX items.size 0 lo:Nat):Int)=0:=eq_of_beq q.1.1;have q2:kX items.size items.size hi-kX items.size 0 lo=items.size:=eq_of_beq q.2;exact hw ⟨by omega,by omega⟩
 show wpAny _ _ (if (((kX items.size 0 lo:Nat):Int)==0&&(1:Int)==1&&(kX items.size items.size hi-kX items.size 0 lo)==items.size)=true then _ else _) _ _ s;rw[if_neg ql,J8]
 first
  |exact wpAny_bind (m:=Builtin.Tuple.tupleExact _) (wpAny_newObj_type (wpAny_pure ⟨_,rfl,wpAny_pure h⟩) F_)
  |exact wpAny_bind (m:=Builtin.Tuple.tupleExact _) (wpAny_newObj_type (wpAny_bind (wpAny_pure (wpAny_pure ⟨_,rfl,wpAny_pure h⟩))) F_)
  |exact wpAny_bind (wpAny_bind (m:=Builtin.Tuple.tupleExact _) (wpAny_newObj_type (wpAny_pure (wpAny_pure ⟨_,rfl,wpAny_pure h⟩)) F_))
  |exact wpAny_bind (wpAny_bind (m:=Builtin.Tuple.tupleExact _) (wpAny_newObj_type (wpAny_pure ⟨_,rfl,wpAny_pure h⟩) F_))
end
end HT
namespace L2
open PySem PySem.Spec PyProof.Rows
abbrev TO:=St->Hp->(Option Int->Hp->Prop)->Prop
def PO(X:Cx)(e:Option Expr)(t:TO):Prop:=
 ∀(pins:List (Addr×Obj)) (s:Shared) (σ:St) (H:Hp) (Q:Option Int->Hp->Prop),Inv X pins σ H s->t σ H Q->
  wpAny (model X.prog X.w) X.A (evalPart e X.env) (λu s'=>∃o H',Inv X pins σ H' s'/\IsPart u o/\Q o H') X.xe s
def Mw:TO:=λ_ H Q=>Q none H
def SJ(t:TE):TO:=λσ H Q=>t σ H λx H1=>∃i,x=.int i/\Q (some i) H1
section
variable{X:Cx}{e:Expr}{te:TE}{lo hi:Option Expr}{tl th:TO}{pos p2:Pos}
theorem wH:PO X none Mw:=by
 intro pins s σ H Q I h;rw[evalPart_none];exact wpAny_pure ⟨none,H,I,.none,h⟩
theorem jf(h:PE X e te):PO X (some e) (SJ te):=by
 intro pins s σ H Q I hw;rw[evalPart_some];refine iM (h pins s σ H _ I hw) λu s1 ⟨x,H1,I1,r1,q1⟩=>?_;obtain ⟨i,rfl,q⟩:=q1;obtain ⟨t,rfl⟩:=r1;exact ⟨some i,H1,I1,.int i t,q⟩
def WL(X:Cx)(r:V->Option Int->Option Int->Hp->VK->Prop):Prop:=
 ∀(pins:List (Addr×Obj)) (s:Shared) (σ:St) (H:Hp) (x:V) (v vl vu:Value) (lo hi:Option Int) (sl:Addr) (Q:VK),Inv X pins σ H s->RelV x v->s.heap.IsSliceOf sl vl vu .none->IsPart vl lo->IsPart vu hi->r x lo hi H Q->
  ∃T id,typeLookup (.type T) "__getitem__"=pure (some (.builtin id))/\s.TypeIs v T/\wpAny (model X.prog X.w) X.A (getItem v (.ref sl)) (EP X pins σ Q) X.xe s
def tSl(r:V->Option Int->Option Int->Hp->VK->Prop)(te:TE)(tl th:TO):TE:=λσ H Q=>te σ H λx H1=>tl σ H1 λl H2=>th σ H2 λu H3=>r x l u H3 Q
theorem kT{r:V->Option Int->Option Int->Hp->VK->Prop}(hr:WL X r)(he:PE X e te)(hl:PO X lo tl)(hu:PO X hi th):PE X (.Subscript e (.Slice lo hi none p2) pos) (tSl r te tl th):=by
 intro pins s σ H Q I h;refine Subscript_ (iM (he pins s σ H _ I h) λv s1 ⟨x,H1,I1,r1,q1⟩=>?_);refine wpAny_Slice (iM (hl pins s1 σ H1 _ I1 q1) λvl s2 ⟨l,H2,I2,pl,q2⟩=>iM (hu pins s2 σ H2 _ I2 q2) λvu s3 ⟨u,H3,I3,pu,q3⟩=>?_);rw[evalPart_none];refine wpAny_pure ?_;have I4:Inv X pins σ H3 {s3 with heap:=s3.heap.push {cls:=.type "slice",data:=.fields #[vl,vu,.none]}}:=I3.kept (t':=s3.toks) λb ob q=>Heap.get?_push_of_some _ q;obtain ⟨T,id,hT,ht,hg⟩:=hr pins {s3 with heap:=s3.heap.push {cls:=.type "slice",data:=.fields #[vl,vu,.none]}} σ H3 x v vl vu l u s3.heap.objs.size Q I4 r1 (Heap.IsSliceOf.new ..) pl pu q3;show wpAny (model X.prog X.w) X.A (subscriptTail e (.Slice lo hi none p2) v (.ref s3.heap.objs.size)) (EP X pins σ Q) X.xe {s3 with heap:=s3.heap.push {cls:=.type "slice",data:=.fields #[vl,vu,.none]}};exact tail_any (ops:=[.ref s3.heap.objs.size,v]) ht hT hg (by with_unfolding_all rfl)
def o8(xs:List V)(lo hi:Option Int):List V:=(xs.drop (HT.kX xs.length 0 lo)).take (HT.kX xs.length xs.length hi-HT.kX xs.length 0 lo)
theorem vQ(xs:List V)(lo hi:Option Int):(o8 xs lo hi).length<=xs.length:=by
 unfold o8;rw[bS,b_];omega
def XI(K:au):V->Option Int->Option Int->Hp->VK->Prop:=λx lo hi H Q=>∃a xs,x=.ref a/\lW K H a xs/\
 ¬(HT.kX xs.length 0 lo=0/\HT.kX xs.length xs.length hi=xs.length)/\∀p,H p=none->Q (.ref p) (upd H p (.tup (o8 xs lo hi)))
theorem PN:WL X (XI X.K):=by
 intro pins s σ H x v vl vu lo hi sl Q I rx hs pl pu h;obtain ⟨a,xs,rfl,hx,hw,q⟩:=h;cases rx;obtain ⟨dN,r,ht,hz⟩:=I.tuple hx;have hlen:dN.toArray.size=xs.length:=by rw[aT];exact r.length.symm
 refine ⟨"tuple",_,fq.lookup,ht.typeIs,?_⟩;refine HT.ux ht hs pl pu (by rw[hlen];exact hw) ?_ (by rw[hlen];exact hz);rw[hlen];refine ⟨.ref s.heap.objs.size,_,I.laid (t':=s.toks) (o:=.tup (o8 xs lo hi)) (λb ob q=>Heap.get?_push_of_some _ q) (aL _) ?_,rfl,q _ (I.cI.fresh (aL _))⟩;exact ⟨cE (vQ xs lo hi) hz,_,(r.drop (HT.kX xs.length 0 lo)).take (HT.kX xs.length xs.length hi-HT.kX xs.length 0 lo),IsTup.new _ _⟩
def T3(K:au):R2:=λx y H Q=>∃a b xs ys,x=.ref a/\y=.ref b/\lW K H a xs/\lW K H b ys/\xs≠[]/\xs.length+ys.length<=sizeLine/\
 (ys=[]->Q (.ref a) H)/\(ys≠[]->∀p,H p=none->Q (.ref p) (upd H p (.tup (xs++ys))))
theorem Vals.wL{xs:List V}{us:List Value}(r:Vals xs us):us=[]↔xs=[]:=by
 cases r with
 |nil=>simp
 |cons _ _=>simp
theorem Nt:w9 X (binaryOp .Add) (T3 X.K):=by
 intro pins s σ H x y v u Q I rx ry h;obtain ⟨a,b,xs,ys,rfl,rfl,ha,hb,hx,hz,q1,q2⟩:=h;cases rx;cases ry;obtain ⟨dN,r1,p1,_⟩:=I.tuple ha;obtain ⟨ur,r2,p2,_⟩:=I.tuple hb;refine HT.Om p1 p2 (λz=>hx (r1.wL.mp z)) (λz=>⟨.ref a,H,I,rfl,q1 (r2.wL.mp z)⟩) (λz=>?_) (by rw[<-r1.length,<-r2.length];exact hz);refine ⟨.ref s.heap.objs.size,_,I.laid (t':=s.toks) (o:=.tup (xs++ys)) (λb ob q=>Heap.get?_push_of_some _ q) (aL _) ?_,rfl,q2 (λw=>z (r2.wL.mpr w)) _ (I.cI.fresh (aL _))⟩;exact ⟨by rw[aE];exact hz,_,r1.append r2,IsTup.new _ _⟩
end
end L2
namespace L2
open PySem PySem.Spec PyProof.Rows
def Me(n:Nat)(i:Int):Option Nat:=if 0<=i then (if i<n then some i.toNat else none) else if-(n:Int)<=i then some (i+n).toNat else none
def Gv{α:Type}(xs:List α)(i:Int):Option α:=(Me xs.length i).bind λj=>xs[j]?
theorem FW{n:Nat}{i:Int}{j:Nat}(h:Me n i=some j):seqIndex? i n=some j/\j<n/\ -(n:Int)<=i/\i<n:=by
 unfold Me at h
 by_cases h0:0<=i
 ·rw[if_pos h0] at h
  by_cases h1:i<n
  ·rw[if_pos h1] at h;have e:i.toNat=j:=bC h;exact ⟨by rw[seqIndex_of h0 h1,e],by omega,by omega,h1⟩
  ·rw[if_neg h1] at h;cases h
 ·rw[if_neg h0] at h
  by_cases h1: -(n:Int)<=i
  ·rw[if_pos h1] at h;have e:(i+n).toNat=j:=bC h;exact ⟨by rw[seqIndex_neg (by omega) h1,e],by omega,h1,by omega⟩
  ·rw[if_neg h1] at h;cases h
theorem Gu{α:Type}{xs:List α}{i:Int}{v:α}(h:Gv xs i=some v):∃j,seqIndex? i xs.length=some j/\xs[j]?=some v/\j<xs.length/\ -(xs.length:Int)<=i/\i<xs.length:=by
 unfold Gv at h;cases e:Me xs.length i with
 |none=>rw[e] at h;cases h
 |some j=>
  rw[e] at h;obtain ⟨h1,h2,h3,h4⟩:=FW e;exact ⟨j,h1,h,h2,h3,h4⟩
theorem uD{α:Type}{xs:List α}{j:Nat}{v:α}(h:xs[j]?=some v):Gv xs (j:Int)=some v:=by
 have hj:j<xs.length:=(bR.mp h).1
 have e:Me xs.length (j:Int)=some j:=by
  unfold Me;rw[if_pos (by omega),if_pos (by omega)];simp
 unfold Gv;rw[e];exact h
theorem CG{α:Type}(xs:List α)(v:α):Gv (xs++[v]) (-1)=some v:=by
 have hl:(xs++[v]).length=xs.length+1:=by simp
 have e:Me (xs++[v]).length (-1)=some xs.length:=by
  unfold Me;rw[hl,if_neg (by decide),if_pos (by omega)];congr 1;omega
 unfold Gv;rw[e];show (xs++[v])[xs.length]?=some v;simp
def Oq(b:Expr):Prop:=∀o i,subscripted b false o i=operate [o,i] (getItem o i)
def IxR(X:Cx)(r:R2):Prop:=
 ∀(value slice:Expr) (pins:List (Addr×Obj)) (s:Shared) (σ:St) (H:Hp) (x y:V) (v u:Value) (Q:VK),Inv X pins σ H s->RelV x v->RelV y u->r x y H Q->
  subscripted slice false v u=operate [v,u] (getItem v u)->wpAny (model X.prog X.w) X.A (subscriptTail value slice v u) (EP X pins σ Q) X.xe s
def MtR(X:Cx)(id:String)(r:V->List V->Hp->VK->Prop):Prop:=
 ∀(pins:List (Addr×Obj)) (s:Shared) (σ:St) (H:Hp) (x:V) (xs:List V) (v:Value) (us:List Value) (Q:VK),Inv X pins σ H s->RelV x v->Vals xs us->r x xs H Q->
  wpAny (model X.prog X.w) X.A (call (.builtin id) (v::us)) (EP X pins σ Q) X.xe s
section
variable{X:Cx}{a b:Expr}{ta tb:TE}{pos:Pos}
theorem eY{r:R2}(hr:IxR X r)(ha:PE X a ta)(hb:PE X b tb)(hs:Oq b):PE X (.Subscript a b pos) (Pc r ta tb):=by
 intro pins s σ H Q I h;exact Subscript_ (RJ ha hb I h λv u s2 x y H2 I2 rx ry q=>hr a b pins s2 σ H2 x y v u Q I2 rx ry q (hs _ _))
def XN(K:au):R2:=λx y H Q=>∃p xs i v,x=.ref p/\y=.int i/\mY K H p xs/\Gv xs i=some v/\Q v H
def DK(K:au):R2:=λx y H Q=>∃p xs i v,x=.ref p/\y=.int i/\lW K H p xs/\Gv xs i=some v/\Q v H
theorem fE:IxR X (XN X.K):=by
 intro value slice pins s σ H x y v u Q I rx ry h hs;obtain ⟨p,xs,i,z,rfl,rfl,hq,he,q⟩:=h;cases rx;obtain ⟨t,rfl⟩:=ry;obtain ⟨dN,r,pl,hz⟩:=I.list hq;obtain ⟨j,h1,h2,h3,h4,h5⟩:=Gu he;obtain ⟨w,ew,Hl⟩:=r.get h2;have hl:=r.length;have hn:=xX;have fin:EP X pins σ Q w s:=⟨z,H,I,Hl,q⟩
 by_cases h0:0<=i
 ·have hj:i.toNat=j:=by
   rw[seqIndex_of h0 h5] at h1;exact bC h1
  exact item_listR pl.isList h0 (by omega) (by rw[hj];simpa using ew) fin hs
 ·have hj:(i+(dN.toArray.size:Int)).toNat=j:=by
   rw[seqIndex_neg (by omega) h4] at h1;rw[aT,<-hl];exact bC h1
  exact subscriptTail_builtinR (x:=w) pl.isList.typeIs slot_list_getitem.lookup
   (wpAny_getItem_list_neg (Q:=λr s'=>r=w/\EP X pins σ Q r s') pl.isList (by omega) (by rw[aT]<;>omega) (by omega) (by rw[hj];simpa using ew) ⟨rfl,fin⟩) hs
theorem ir:IxR X (DK X.K):=by
 intro value slice pins s σ H x y v u Q I rx ry h hs;obtain ⟨p,xs,i,z,rfl,rfl,hq,he,q⟩:=h;cases rx;obtain ⟨t,rfl⟩:=ry;obtain ⟨dN,r,pl,hz⟩:=I.tuple hq;obtain ⟨j,h1,h2,h3,h4,h5⟩:=Gu he;obtain ⟨w,ew,Hl⟩:=r.get h2;have hl:=r.length;have hn:=xX;have fin:EP X pins σ Q w s:=⟨z,H,I,Hl,q⟩
 exact subscriptTail_builtinR (x:=w) pl.typeIs slot_tuple_getitem.lookup
  (getItem_tuple (j:=j) (Q:=λr s'=>r=w/\EP X pins σ Q r s') pl (by omega) (by omega) (by rw[aT,<-hl];exact h1) (by simpa using ew) ⟨rfl,fin⟩) hs
theorem DZ(dN:List Value)(n j:Nat)(u:Value):Obj.mapSeq (·.setIfInBounds j u) {cls:=.type "list",data:=.seq dN.toArray n}={cls:=.type "list",data:=.seq (dN.set j u).toArray n}:=by
 simp [Obj.mapSeq]
theorem Inv.lst{pins:List (Addr×Obj)}{σ:St}{H:Hp}{s:Shared}{p:Addr}{xs:List V}(I:Inv X pins σ H s)(h:H p=some (.lst xs)):
  ∃(dN:List Value) (n:Nat),Vals xs dN/\s.heap.get? p=some {cls:=.type "list",data:=.seq dN.toArray n}/\xs.length<=sizeLine:=by
 obtain ⟨z,dN,n,r,e⟩:=I.cI p _ h;exact ⟨dN,n,r,e,z⟩
theorem Inv.QC{pins:List (Addr×Obj)}{σ:St}{H:Hp}{s:Shared}{p:Addr}{xs ys:List V}{dN its':List Value}{n n':Nat}{f:Obj->Obj}(I:Inv X pins σ H s)(h:H p=some (.lst xs))
  (ho:s.heap.get? p=some {cls:=.type "list",data:=.seq dN.toArray n}) (hf:f {cls:=.type "list",data:=.seq dN.toArray n}={cls:=.type "list",data:=.seq its'.toArray n'}) (r:Vals ys its') (hz:ys.length<=sizeLine) (t:Nat):
  Inv X pins σ (upd H p (.lst ys)) {s with heap:=s.heap.update p f,toks:=t}:=by
 have e:(s.heap.update p f).get? p=some {cls:=.type "list",data:=.seq its'.toArray n'}:=by
  rw[Heap.get?_update_self f ho (by rw[hf]<;>rfl),hf]
 refine I.write (x:=p) (e:=p) (by rw[h];trivial) (.inl rfl) (λb u hb q=>(Heap.get?_update_other _ _ (nJ hb)).trans q) ⟨_,e⟩ ?_;exact ⟨hz,its',n',r,e⟩
def TV:V->V->V->Hp->(Hp->Prop)->Prop:=λo i v H Q=>∃p xs k j,o=.ref p/\i=.int k/\H p=some (.lst xs)/\Me xs.length k=some j/\Q (upd H p (.lst (xs.set j v)))
theorem set_list:VJ X TV:=by
 intro pins s σ H o i v ov iv u Q I ro ri rv h;obtain ⟨p,xs,k,j,rfl,rfl,hp,hj,q⟩:=h;cases ro;obtain ⟨t,rfl⟩:=ri;obtain ⟨dN,n,r,ho,hz⟩:=I.lst hp;obtain ⟨h1,h2,h3,h4⟩:=FW hj;have hl:=r.length;have hn:=xX
 have I':Inv X pins σ (upd H p (.lst (xs.set j v))) {s with heap:=s.heap.update p (Obj.mapSeq (·.setIfInBounds j u))}:=
  I.QC hp ho (DZ dN n j u) (r.set rv j) (by rw[List.length_set];exact hz) s.toks
 by_cases h0:0<=k
 ·have hk:k.toNat=j:=by
   rw[seqIndex_of h0 h4] at h1;exact bC h1
  exact PySem.W.ki_setAt ho h0 (by omega) (by rw[aT,<-hl];exact h4) (by rw[hk];exact ⟨_,I',q⟩)
 ·have hk:(k+(dN.toArray.size:Int)).toNat=j:=by
   rw[seqIndex_neg (by omega) h3] at h1;rw[aT,<-hl];exact bC h1
  exact PySem.W.ki_setBack ho (by omega) (by rw[aT,<-hl];exact h3) (by omega) (by rw[hk];exact ⟨_,I',q⟩)
theorem Av(lo hi:Option Int)(n:Nat):(sliceBounds lo hi none n).1=((HT.kX n 0 lo:Nat):Int)/\(sliceBounds lo hi none n).2.1=((HT.kX n n hi:Nat):Int)/\(sliceBounds lo hi none n).2.2=1:=by
 refine ⟨?_,?_,rfl⟩
 ·cases lo with
  |none=>simp [sliceBounds,HT.kX]
  |some i=>
   simp only[sliceBounds,HT.kX,vR,show (1:Int)>0 by decide,if_true]
   by_cases h:i<0
   ·simp only[h,if_true]<;>omega
   ·simp only[h,if_false]<;>omega
 ·cases hi with
  |none=>simp [sliceBounds,HT.kX]
  |some i=>
   simp only[sliceBounds,HT.kX,vR,show (1:Int)>0 by decide,if_true]
   by_cases h:i<0
   ·simp only[h,if_true]<;>omega
   ·simp only[h,if_false]<;>omega
theorem yS(dN:List Value)(lo hi:Option Int):slicePick dN.toArray lo hi none=((dN.drop (HT.kX dN.length 0 lo)).take (HT.kX dN.length dN.length hi-HT.kX dN.length 0 lo)).toArray:=by
 obtain ⟨h1,h2,h3⟩:=Av lo hi dN.toArray.size;unfold slicePick;rw[h1,h2,h3];simp only[sliceRange_one,pick_run,aT]<;>rfl
def XJ(K:au):V->Option Int->Option Int->Hp->VK->Prop:=λx lo hi H Q=>∃a xs,x=.ref a/\mY K H a xs/\∀p,H p=none->Q (.ref p) (upd H p (.lst (o8 xs lo hi)))
theorem Aw:WL X (XJ X.K):=by
 intro pins s σ H x v vl vu lo hi sl Q I rx hs pl pu h;obtain ⟨a,xs,rfl,hx,q⟩:=h;cases rx;obtain ⟨dN,r,ht,hz⟩:=I.list hx;have hlen:=r.length;refine ⟨"list",_,slot_list_getitem.lookup,ht.isList.typeIs,?_⟩;refine wpAny_getItem_list_slice ht.isList hs pl pu .none (by simp) ?_ (by rw[aT]<;>omega);rw[yS,<-hlen];refine ⟨.ref s.heap.objs.size,_,I.laid (t':=s.toks) (o:=.lst (o8 xs lo hi)) (λb ob q=>Heap.get?_push_of_some _ q) (aL _) ?_,rfl,q _ (I.cI.fresh (aL _))⟩;exact ⟨cE (vQ xs lo hi) hz,_,0,(r.drop (HT.kX xs.length 0 lo)).take (HT.kX xs.length xs.length hi-HT.kX xs.length 0 lo),Heap.get?_push_size _ rfl⟩
theorem cQ:oH X (.builtin "len") (λxs H Q=>∃p ys,xs=[.ref p]/\(mY X.K H p ys\/lW X.K H p ys)/\Q (.int ys.length) H):=by
 intro pins s σ H xs us Q I r h;obtain ⟨p,ys,rfl,hq,q⟩:=h;obtain ⟨u,rfl,rx⟩:=vals1 r;cases rx;have hn:=xX;rcases hq with hq|hq
 ·obtain ⟨dN,r',pl,hz⟩:=I.list hq;have hlen:=r'.length;exact Calls.call_len_list pl.isList (by simp only[aT]<;>omega) ⟨.int ys.length,H,I.tok _,⟨s.toks+1,by rw[aT,hlen]⟩,q⟩
 ·obtain ⟨dN,r',pl,hz⟩:=I.tuple hq;have hlen:=r'.length;exact len_tuple pl (by simp only[aT]<;>omega) ⟨.int ys.length,H,I.tok _,⟨s.toks+1,by rw[aT,hlen]⟩,q⟩
theorem uC:oH X (.type "list") (λxs H Q=>∃p ys,xs=[.ref p]/\(mY X.K H p ys\/lW X.K H p ys)/\∀l,H l=none->Q (.ref l) (upd H l (.lst ys))):=by
 intro pins s σ H xs us Q I r h;obtain ⟨p,ys,rfl,hq,q⟩:=h;obtain ⟨u,rfl,rx⟩:=vals1 r;cases rx
 have fin:∀(dN:List Value),Vals ys dN->ys.length<=sizeLine->∀(h':Heap) (c':Nat),(∀b o',s.heap.get? b=some o'->h'.get? b=some o')->
   h'.get? s.heap.objs.size=some {cls:=.type "list",dict:=none,data:=.seq dN.toArray c',slots:=#[]}->EP X pins σ Q (.ref s.heap.objs.size) {s with heap:=h'}:=λdN r' hz h' c' kp e=>
  ⟨.ref s.heap.objs.size,_,I.laid (t':=s.toks) kp (aL _) (show jo X.prog X.w _ h' _ (.lst ys) from ⟨hz,dN,c',r',e⟩),rfl,q _ (I.cI.fresh (aL _))⟩
 rcases hq with hq|hq
 ·obtain ⟨dN,r',pl,hz⟩:=I.list hq;have hlen:=r'.length;obtain ⟨o,ho,hc,n,hd⟩:=pl.isList;exact call_list_seq p (.inl rfl) ho hc hd (λh' c' kp e=>fin dN r' hz h' c' kp e) (by simp only[aT]<;>omega)
 ·obtain ⟨dN,r',pl,hz⟩:=I.tuple hq;have hlen:=r'.length;obtain ⟨o,ho,hc,n,hd⟩:=pl;exact call_list_seq p (.inr rfl) ho hc hd (λh' c' kp e=>fin dN r' hz h' c' kp e) (by simp only[aT]<;>omega)
theorem yY:oH X (.type "tuple") (λxs H Q=>∃p ys,xs=[.ref p]/\((mY X.K H p ys/\∀l,H l=none->Q (.ref l) (upd H l (.tup ys)))\/(lW X.K H p ys/\Q (.ref p) H))):=by
 intro pins s σ H xs us Q I r h;obtain ⟨p,ys,rfl,h⟩:=h;obtain ⟨u,rfl,rx⟩:=vals1 r;cases rx;rcases h with ⟨hq,q⟩|⟨hq,q⟩
 ·obtain ⟨dN,r',pl,hz⟩:=I.list hq;have hlen:=r'.length;refine call_tuple_list pl.isList (λh' kp=>?_) (by simp only[aT]<;>omega);have I1:Inv X pins σ H {s with heap:=h'}:=I.kept (t':=s.toks) kp
  have I2:Inv X pins σ (upd H h'.objs.size (.tup ys)) {s with heap:=h'.push {cls:=.type "tuple",data:=.seq dN.toArray}}:=
   I1.laid (t':=s.toks) (λb o e=>Heap.get?_push_of_some _ e) (aL _) (show jo X.prog X.w _ _ _ (.tup ys) from ⟨hz,dN,r',IsTup.new _ _⟩)
  exact ⟨.ref h'.objs.size,_,I2,rfl,q _ (I1.cI.fresh (aL _))⟩
 ·obtain ⟨dN,r',pl,hz⟩:=I.tuple hq;exact call_tuple_same pl ⟨.ref p,H,I,rfl,q⟩
def tyV(K:au)(T:String)(x:V)(H:Hp):Prop:=match x with
 |.str _=>T="str"
 |.int _=>T="int"
 |.ref p=>(T="list"/\∃xs,mY K H p xs)\/(T="tuple"/\∃o,K.lookup p=some o/\o.cls=.type "tuple"/\o.dict=none)\/
   (T="dict"/\((∃kvs,H p=some (.dK kvs))\/∃kvs,H p=some (.dT kvs)))\/(T="set"/\∃S n,H p=some (.set S n))
 |_=>False
theorem O7{pins:List (Addr×Obj)}{σ:St}{H:Hp}{s:Shared}{T:String}{x:V}{v:Value}(I:Inv X pins σ H s)(r:RelV x v)(ty:tyV X.K T x H):
  s.TypeIs v T/\∀a,v=.ref a->∃ob,s.heap.get? a=some ob/\ob.dict=none:=by
 cases x with
 |str z=>
  obtain ⟨t,rfl⟩:=r;cases (show T="str" from ty);exact ⟨typeIs_str s z t,λ_ e=>nomatch e⟩
 |int i=>
  obtain ⟨t,rfl⟩:=r;cases (show T="int" from ty);exact ⟨typeIs_int s i t,λ_ e=>nomatch e⟩
 |ref p=>
  cases r;rcases ty with ⟨rfl,xs,hq⟩|⟨rfl,o,hk,hc,hd⟩|⟨rfl,hk⟩|⟨rfl,S,n,hk⟩
  ·obtain ⟨dN,_,pl,_⟩:=I.list hq;refine ⟨pl.isList.typeIs,λa e=>?_⟩;cases e;obtain ⟨o,n,e,c,hd,_⟩:=pl;exact ⟨o,e,hd⟩
  ·refine ⟨⟨o,I.vX p o hk,hc⟩,λa e=>?_⟩;cases e;exact ⟨o,I.vX _ o hk,hd⟩
  ·have z:∃o,s.heap.get? p=some o/\o.ExactDict:=by
    rcases hk with ⟨kvs,hk⟩|⟨kvs,hk⟩
    ·obtain ⟨_,_,_,_,o,_,_,e,ex,_⟩:=I.cI p _ hk;exact ⟨o,e,ex⟩
    ·obtain ⟨_,_,_,_,o,_,_,e,ex,_⟩:=I.cI p _ hk;exact ⟨o,e,ex⟩
   obtain ⟨o,e,ex⟩:=z;refine ⟨⟨o,e,ex.1⟩,λa e2=>?_⟩;cases e2;exact ⟨o,e,ex.2.1⟩
  ·obtain ⟨o,_,_,_,e,ex,_⟩:=I.cI p _ hk;refine ⟨⟨o,e,ex.1⟩,λa e2=>?_⟩;cases e2;exact ⟨o,e,ex.2.1⟩
 |_=>exact gF ty
def tBM(K:au)(T:String)(r:V->List V->Hp->VK->Prop)(to:TE)(t:TA):TE:=λσ H Q=>to σ H λx H1=>tyV K T x H1/\t σ H1 λxs H2=>r x xs H2 Q
variable{o e:Expr}{es:List Expr}{to:TE}{t:TA}{name:Str}{apos l9:Pos}{T id:String}{r:V->List V->Hp->VK->Prop}
theorem pJ(pa:PlainAttrs T)(slot:Slot T name id)(NT:typeOf (.builtin id)=pure (.type "method_descriptor"))(hm:MtR X id r)(ho:PE X o to)(ha:PA X (e::es) t)
  (Cn:attributeBase o name X.env (eval o X.env)=eval o X.env:=by rfl)
  (Zr:((backTo l9 (starEach (e::es) X.env)).all (λx=> !x.1)&&(backToKw l9 (keywordEach [] X.env)).all (λx=>x.1.isSome)
   &&decide ((e::es).length+([]:List Keyword).length+(if ([]:List Keyword).isEmpty then 0 else 1)<30))=true:=by rfl)
  (Cj:(apos.endLine==l9.line)=true:=by rfl) (hs:starEach (e::es) X.env=(false,eval e X.env)::starEach es X.env:=by rfl) (QX:(backTo l9 (starEach es X.env)).any (·.1)=false:=by rfl):
  PE X (.Call (.Attribute o name apos) (e::es) [] l9) (tBM X.K T r to t):=by
 intro pins s σ H Q I h;refine wpAny_Call_method_late Cn Zr Cj rfl (iM (ho pins s σ H _ I h) λv s1 ⟨x,H1,I1,r1,ty,q1⟩=>?_);obtain ⟨h1,h2⟩:=O7 I1 r1 ty;refine ⟨T,id,pa,slot,NT,h1,h2,?_⟩;have hA:=ha l9 pins s1 σ H1 _ I1 q1;rw[hs] at hA⊢;refine Calls.callWith_builtin (by show (false||(backTo l9 (starEach es X.env)).any (·.1))=false;rw[QX]<;>rfl) (Calls.evalArgs_plain ?_);exact iM hA λus s2 ⟨vs,H2,I2,r2,q2⟩=>hm pins s2 σ H2 x vs v us Q I2 r1 r2 q2
end
end L2
namespace L2
open PySem PySem.Spec PyProof.Rows
def WN(X:Cx)(id:String)(r:V->List V->Hp->VK->Prop):Prop:=
 ∀(pins:List (Addr×Obj)) (s:Shared) (σ:St) (H:Hp) (x:V) (xs:List V) (v:Value) (us:List Value) (Q:VK),Inv X pins σ H s->RelV x v->Vals xs us->r x xs H Q->
  wpAny (model X.prog X.w) X.A (call (.builtin id) (v::us)) (EP X pins σ Q) X.xe s
theorem Vals.one:∀{x:V} {us:List Value},Vals [x] us->∃u,us=[u]/\RelV x u
 |_,_,.cons r .nil=>⟨_,rfl,r⟩
theorem Vals.eraseIdx:∀{xs:List V} {us:List Value} (i:Nat),Vals xs us->Vals (xs.eraseIdx i) (us.eraseIdx i)
 |_,_,_,.nil=>.nil
 |_,_,0,.cons _ t=>t
 |_,_,i+1,.cons r t=>.cons r (Vals.eraseIdx i t)
theorem Vals.rep{xs:List V}{us:List Value}(h:Vals xs us):∀k:Nat,Vals (bJ k xs).flatten (bJ k us).flatten
 |0=>.nil
 |k+1=>by
  rw[k9,k9,mz,mz];exact Vals.append h (Vals.rep h k)
theorem foldl_rep(dN:List Value):∀(k:Nat) (acc:List Value),
  List.foldl (λx1 x2=>x1++x2) acc.toArray (bJ k dN.toArray)=(acc++(bJ k dN).flatten).toArray
 |0,acc=>by simp
 |k+1,acc=>by
  have e:acc.toArray++dN.toArray=(acc++dN).toArray:=by simp
  have e2:(acc++dN)++(bJ k dN).flatten=acc++(bJ (k+1) dN).flatten:=by
   rw[k9,mz,cD]
  rw[<-e2,<-foldl_rep dN k (acc++dN),<-e,k9,nP]
section
variable{X:Cx}{pins:List (Addr×Obj)}{σ:St}{H:Hp}{s:Shared}{l b:Addr}{xs ys zs:List V}
theorem Inv.NO{dN its':List Value}{n:Nat}{f:Array Value->Array Value}{t':Nat}(I:Inv X pins σ H s)(hH:H l=some (.lst xs))
  (e:s.heap.get? l=some {cls:=.type "list",data:=.seq dN.toArray n}) (hf:f dN.toArray=its'.toArray) (hv:Vals ys its') (hz:ys.length<=sizeLine):
  Inv X pins σ (upd H l (.lst ys)) {s with heap:=s.heap.update l (Obj.mapSeq f),toks:=t'}:=by
 have q:=PySem.IsL.update e f;rw[hf] at q;refine I.write (x:=l) (e:=l) (by rw[hH];exact trivial) (.inl rfl) (λb' u hb hu=>(Heap.get?_update_other s.heap (Obj.mapSeq f) (nJ hb)).trans hu) ⟨_,q⟩ ?_;exact ⟨hz,its',_,hv,q⟩
theorem Inv.Ye{dN:List Value}{t':Nat}(I:Inv X pins σ H s)(hv:Vals ys dN)(hz:ys.length<=sizeLine):
  Inv X pins σ (upd H s.heap.objs.size (.lst ys)) {s with heap:=s.heap.push {cls:=.type "list",data:=.seq dN.toArray},toks:=t'}:=
 I.laid (λ_ _ q=>Heap.get?_push_of_some _ q) (aL _) ⟨hz,dN,0,hv,Heap.get?_push_size _ rfl⟩
theorem Inv.fresh(I:Inv X pins σ H s):H s.heap.objs.size=none:=I.cI.fresh (aL _)
theorem Inv.D5(I:Inv X pins σ H s)(hH:H l=some (.lst xs)):xs.length<=sizeLine/\∃(dN:List Value) (n:Nat),Vals xs dN/\xs.length=dN.length/\s.heap.get? l=some {cls:=.type "list",data:=.seq dN.toArray n}:=by
 obtain ⟨z,dN,n,r,e⟩:=I.cI l _ hH;exact ⟨z,dN,n,r,r.length,e⟩
theorem B3{n:Nat}(h:n<=sizeLine):Builtin.List.listTooLong n=false:=by
 unfold Builtin.List.listTooLong;exact decide_eq_false (by omega)
end
section
variable{X:Cx}
def Nm:V->List V->Hp->VK->Prop:=λx vs H Q=>∃l xs y,x=.ref l/\vs=[y]/\H l=some (.lst xs)/\xs.length<sizeLine/\Q .kq (upd H l (.lst (xs++[y])))
theorem nM:WN X "list.append" Nm:=by
 intro pins s σ H x vs v us Q I rx rv h;obtain ⟨l,xs,y,rfl,rfl,hH,hz,q⟩:=h;cases rx;obtain ⟨u,rfl,ru⟩:=rv.one;obtain ⟨z,dN,n,r,hl,e⟩:=I.D5 hH;refine call_meets F.slot_list_append ⟨_,e,rfl⟩ F.entry_list_append (F.args_list_append_2 _ _) (PySem.list_append l dN.toArray n u (by rw[aT];omega)) ⟨e,?_⟩;refine ⟨.kq,_,I.NO (its':=dN++[u]) hH e (by simp) (r.append (.cons ru .nil)) ?_,rfl,q⟩;rw[aE,List.length_singleton];omega
def Nk:V->List V->Hp->VK->Prop:=λx vs H Q=>∃l b xs zs,x=.ref l/\vs=[.ref b]/\H l=some (.lst xs)/\H b=some (.lst zs)/\xs.length+zs.length<=sizeLine/\Q .kq (upd H l (.lst (xs++zs)))
theorem vd:WN X "list.extend" Nk:=by
 intro pins s σ H x vs v us Q I rx rv h;obtain ⟨l,b,xs,zs,rfl,rfl,hH,hB,hz,q⟩:=h;cases rx;obtain ⟨u,rfl,ru⟩:=rv.one;cases ru;obtain ⟨z,dN,n,r,hl,e⟩:=I.D5 hH;obtain ⟨z2,ur,n2,r2,tV,e2⟩:=I.D5 hB;have hsz:dN.toArray.size+ur.toArray.size<=sizeLine:=by rw[aT,aT];omega
 have Li:¬(!dN.toArray.isEmpty&&Builtin.List.listTooLong (dN.toArray.size+ur.toArray.size))=true:=by
  rw[B3 hsz,tG];exact cW
 refine call_meets F.slot_list_extend ⟨_,e,rfl⟩ F.entry_list_extend (F.args_list_extend_2 _ _)
  (AutoSeq1.list_extend_list_list_0 l dN.toArray n b ur.toArray n2 Li (by rw[aT];omega) (by omega)) ⟨e,e2,?_⟩
 refine ⟨.kq,_,I.NO (its':=dN++ur) hH e (by simp) (r.append r2) ?_,rfl,q⟩;rw[aE];omega
def XO:R2:=λx y H Q=>∃l b xs zs,x=.ref l/\y=.ref b/\H l=some (.lst xs)/\H b=some (.lst zs)/\xs.length+zs.length<=sizeLine/\∀p,H p=none->Q (.ref p) (upd H p (.lst (xs++zs)))
theorem oX:w9 X (binaryOp .Add) XO:=by
 intro pins s σ H x y v u Q I rx ry h;obtain ⟨l,b,xs,zs,rfl,rfl,hH,hB,hz,q⟩:=h;cases rx;cases ry;obtain ⟨z,dN,n,r,hl,e⟩:=I.D5 hH;obtain ⟨z2,ur,n2,r2,tV,e2⟩:=I.D5 hB;refine PySem.P.add_list e e2 ?_ (by rw[aT,aT];omega);have ea:dN.toArray++ur.toArray=(dN++ur).toArray:=by simp
 rw[ea];exact ⟨.ref _,_,I.Ye (t':=s.toks) (r.append r2) (by rw[aE];omega),rfl,q _ I.fresh⟩
theorem len_rep{α:Type}(xs:List α)(k:Nat):(bJ k xs).flatten.length=k*xs.length:=by
 induction k with
 |zero=>simp
 |succ k ih=>rw[k9,mz,aE,ih,Nat.succ_mul,Nat.add_comm]
end
end L2
namespace L2
open PySem PySem.Spec PyProof.Rows
theorem Vals.ints:∀{ns:List Int} {us:List Value},Vals (ns.map V.int) us->IntsAre us ns
 |[],us,h=>by
  rw[jd] at h;cases h;exact IntsAre.nil
 |n::ns,us,h=>by
  rw[aI] at h;cases h with
  |cons r t=>
   obtain ⟨k,rfl⟩:=r;exact IntsAre.cons n k (Vals.ints t)
theorem p9:∀{us:List Value} {ns:List Int},IntsAre us ns->Vals (ns.map V.int) us
 |_,_,.nil=>by rw[jd];exact Paired.nil
 |_,_,.cons n t h=>by rw[aI];exact Paired.cons (show RelV (V.int n) (Value.int n t) from ⟨t,rfl⟩) (p9 h)
theorem Vals.bls:∀{bs:List Bool} {us:List Value},Vals (bs.map V.bl) us->us=bs.map Value.bool
 |[],us,h=>by
  rw[jd] at h;cases h;rfl
 |b::bs,us,h=>by
  rw[aI] at h;cases h with
  |cons r t=>
   cases r;rw[Vals.bls t,aI]
theorem Vals.JR{a:Addr}{us:List Value}(r:Vals [V.ref a] us):us=[Value.ref a]:=by
 cases r with
 |cons r t=>
  cases t;cases r;rfl
theorem Vals.Ys{i j:Int}{us:List Value}(r:Vals [V.int i,V.int j] us):∃t u,us=[Value.int i t,Value.int j u]:=by
 cases r with
 |cons r t=>
  cases t with
  |cons r2 t2=>
   cases t2;obtain ⟨t,rfl⟩:=r;obtain ⟨u,rfl⟩:=r2;exact ⟨t,u,rfl⟩
section
variable{prog:Program}{w:World}{A:Around}{E:Value->Shared->Prop}{s:Shared}{l:Addr}{dN:List Value}{ns:List Int}{Q:Value->Shared->Prop}
theorem My(hh:A.handled=none)(hl:s.heap.IsList l dN.toArray)(hi:IntsAre dN ns)
  (h:∀h' tk t',(∀b o,s.heap.get? b=some o->h'.get? b=some o)->Q (.int ns.sum t') {s with heap:=h',toks:=tk}):wpAny (model prog w) A (call (.builtin "sum") [.ref l]) Q E s:=by
 obtain ⟨xs,e⟩:=hi.allInts.items;have hn:numsOf (intItems xs).toList=ns:=by rw[<-e];exact hi.numsOf
 rw[nums_intItems] at hn;rw[e] at hl;refine PySem.sum_intListG hh hl λh' tk t' hk=>?_;have:=h h' tk t' hk;rw[preSum_eq,b8 (by simp),hn];exact this
end
section
variable{X:Cx}
def XH(K:au):List V->Hp->VK->Prop:=λvs H Q=>∃(a:Addr) (ns:List Int),vs=[V.ref a]/\mY K H a (ns.map V.int)/\Q (.int ns.sum) H
theorem A2(hc:X.calm=true):oH X (.builtin "sum") (XH X.K):=by
 intro pins s σ H vs us Q I r h;obtain ⟨a,ns,rfl,hs,q⟩:=h;obtain ⟨dN,rv,hl,_⟩:=I.list hs;rw[Vals.JR r];exact My (I.ok.hd hc) hl.isList rv.ints λh' tk t' hk=>⟨.int _,H,I.kept hk,⟨_,rfl⟩,q⟩
end
theorem K8{prog:Program}{w:World}{A:Around}{E:Value->Shared->Prop}{s:Shared}{l:Addr}{items:Array Value}{Q:Value->Shared->Prop}(hl:s.heap.IsList l items)
  (h:∀s₂:Shared,s₂={s with heap:=s.heap.push {cls:=.type "list_iterator",data:=.fields #[.ref l,.int 0 0]}}->
   (s₂.heap.IsListIter s.heap.objs.size l 0/\s₂.heap.IsList l items)->l≠s.heap.objs.size->Q (.ref s.heap.objs.size) s₂):wpAny (model prog w) A (pyIter (.ref l)) Q E s:=by
 have pX:l<s.heap.objs.size:=by obtain ⟨_,e,_⟩:=hl;exact Heap.lt_size e
 exact wpAny_pyIter_list hl (h _ rfl ⟨⟨_,Heap.get?_push_size _ rfl,rfl,rfl⟩,hl.push _⟩ (eF pX))
theorem Bv{prog:Program}{w:World}{A:Around}{bs:List Bool}{dN:List Value}(e:dN=bs.map Value.bool):
  TruthOf prog w A (λi v=>dN.toArray[i]?=some v) (λi=>bs.getD i false):=λi v s Q E hv hq=>by
 have QM:dN[i]?=some v:=by simpa using hv
 rw[e,cu] at QM;obtain ⟨b,hb,rfl⟩:=Bl.mp QM;have hg:bs.getD i false=b:=by rw[bA,hb]<;>rfl
 have oh:Q (bs.getD i false) s:=hq;rw[hg] at oh;exact wpAny_truthy_bool oh
theorem any_range:∀bs:List Bool,(bX bs.length).any (λi=>bs.getD i false)=bs.any id
 |[]=>rfl
 |b::bs=>by
  rw[bL,rq,jO,Df,jO,<-any_range bs]
  all_goals rfl
section
variable{X:Cx}
def XQ(K:au):List V->Hp->VK->Prop:=λvs H Q=>∃(a:Addr) (bs:List Bool),vs=[V.ref a]/\mY K H a (bs.map V.bl)/\Q (.bl (bs.any id)) H
theorem LM(hc:X.calm=true):oH X (.builtin "any") (XQ X.K):=by
 intro pins s σ H vs us Q I r h;obtain ⟨a,bs,rfl,hs,q⟩:=h;obtain ⟨dN,rv,hl,_⟩:=I.list hs;rw[Vals.JR r];have hb:=rv.bls;refine call_any_walk (K8 hl.isList λs₂ e2 st iG=>?_);subst e2;refine ⟨_,_,_,_,_,_,_,rfl,Walks.list (A:=X.A.in1) (I.ok.hd hc) _ a iG dN.toArray,st,Bv hb,λh' tk hk=>?_⟩;refine ⟨.bl _,H,I.kept λb o eo=>hk b o (λEg=>?_) (Heap.get?_push_of_some _ eo),?_,q⟩
 ·rcases aP.mp Eg with e1|Eg
  ·exact absurd (e1▸Heap.lt_size eo) (gJ _)
  ·cases Eg
 ·show Value.bool _=Value.bool _;rw[<-any_range,hb,aT,aj]
end
end L2
namespace L2
open PySem PySem.Spec PyProof.Rows
abbrev L7(h:Heap)(c:Addr)(v:Option Value):Prop:=h.IsCell c v
def XG(scope sc:Scope):Scope:=
 {scope with names:=scope.names.map λ(n,k)=>if (k==.free&&sc.kind==.function&&sc.names.lookup n==some .cell) then (n,.cell) else (n,k)}
def gB(cells:List (Str×Addr)):List (Str×NameKind)->List (Str×Addr)->List (Str×Addr)
 |[],acc=>acc
 |(n,k)::r,acc=>if k==.free then gB cells r ((n,(cells.lookup n).getD 0)::acc) else gB cells r acc
theorem uB(env:Env)(f:Str×NameKind->List (Str×Addr)->Sem (ForInStep (List (Str×Addr))))
  (hf:∀n k c,f (n,k) c=if k==.free then (do let a<-cellOf env n;pure (.yield ((n,a)::c))) else pure (.yield c)):
  ∀(names:List (Str×NameKind)) (acc:List (Str×Addr)),(∀y∈names,y.2=.free->∃c,env.cells.lookup y.1=some c)->forIn names acc f=pure (gB env.cells names acc)
 |[],acc,_=>by rw[List.forIn_nil];rfl
 |(n,k)::r,acc,h=>by
  rw[List.forIn_cons,hf];have ih:=λacc=>uB env f hf r acc λy hy=>h y (aB _ hy);unfold gB
  by_cases hk:(k==NameKind.free)=true
  ·rw[if_pos hk,if_pos hk];obtain ⟨c,hc⟩:=h (n,k) aJ (by simpa using hk);have e:cellOf env n=pure c:=by unfold cellOf;rw[hc]
   rw[e];have e2:(env.cells.lookup n).getD 0=c:=by rw[hc];rfl
   rw[e2];exact ih _
  ·rw[if_neg hk,if_neg hk];exact ih _
theorem Et{scope:Scope}{env:Env}(h:∀y∈scope.names,y.2=.free->∃c,env.cells.lookup y.1=some c):closureFor scope env=pure (gB env.cells scope.names []):=by
 simp only[closureFor];rw[uB env _ (λn k c=>rfl) scope.names [] h];rfl
theorem mem_lookup{α:Type}:∀{l:List (Str×α)} {n:Str} {c:α},(n,c)∈l->∃c',l.lookup n=some c'
 |(k,v)::r,n,c,h=>by
  rw[iK];cases hb:n==k with
  |true=>exact ⟨_,rfl⟩
  |false=>
   rcases aP.mp h with e|h
   ·cases e;simp at hb
   ·exact mem_lookup h
theorem oF{cells:List (Str×Addr)}:∀{names:List (Str×NameKind)} {acc:List (Str×Addr)} {n:Str} {c:Addr},(n,c)∈gB cells names acc->(n,c)∈acc\/((n,.free)∈names/\c=(cells.lookup n).getD 0)
 |[],_,_,_,h=>.inl h
 |(m,k)::r,acc,n,c,h=>by
  unfold gB at h;split at h
  ·rename_i hk;have hk:k=.free:=by simpa using hk
   rcases oF h with h|⟨h1,h2⟩
   ·rcases aP.mp h with e|h
    ·cases e;exact .inr ⟨hk▸aJ,rfl⟩
    ·exact .inl h
   ·exact .inr ⟨aB _ h1,h2⟩
  ·rcases oF h with h|⟨h1,h2⟩
   ·exact .inl h
   ·exact .inr ⟨aB _ h1,h2⟩
theorem r9{cells:List (Str×Addr)}:∀{names:List (Str×NameKind)} {acc:List (Str×Addr)} {p:Str×Addr},p∈acc->p∈gB cells names acc
 |[],_,_,h=>h
 |(m,k)::r,acc,p,h=>by
  unfold gB;split
  ·exact r9 (aB _ h)
  ·exact r9 h
theorem r8{cells:List (Str×Addr)}:∀{names:List (Str×NameKind)} {acc:List (Str×Addr)} {n:Str},(n,.free)∈names->(n,(cells.lookup n).getD 0)∈gB cells names acc
 |(m,k)::r,acc,n,h=>by
  unfold gB;rcases aP.mp h with e|h
  ·cases e;exact r9 aJ
  ·split
   ·exact r8 h
   ·exact r8 h
theorem pT:∀{names:List (Str×NameKind)} {h:Heap} {acc:List (Str×Addr)} {x:Str} {c:Addr},(x,c)∈cellsFrom h.objs.size names acc->
  (x,c)∈acc\/((x,.cell)∈names/\h.objs.size<=c/\L7 (pushCells h names) c none)
 |[],_,_,_,_,h=>.inl h
 |(n,k)::r,h,acc,x,c,hm=>by
  unfold cellsFrom at hm;unfold pushCells;split at hm
  ·rename_i hk;rw[if_pos hk];have hk:k=.cell:=by simpa using hk
   rw[<-Heap.size_push h {cls:=.type "cell",data:=.cell none}] at hm;rcases pT hm with hm|⟨h1,h2,h3⟩
   ·rcases aP.mp hm with e|hm
    ·cases e;exact .inr ⟨hk▸aJ,aL _,_,pushCells_keeps r _ _ _ (Heap.get?_push_size _ rfl),rfl⟩
    ·exact .inl hm
   ·rw[Heap.size_push] at h2;exact .inr ⟨aB _ h1,p6 h2,h3⟩
  ·rename_i hk;rw[if_neg hk];rcases pT hm with hm|⟨h1,h2,h3⟩
   ·exact .inl hm
   ·exact .inr ⟨aB _ h1,h2,h3⟩
theorem sL:∀{names:List (Str×NameKind)} {n:Nat} {acc:List (Str×Addr)} {p:Str×Addr},p∈acc->p∈cellsFrom n names acc
 |[],_,_,_,h=>h
 |(m,k)::r,n,acc,p,h=>by
  unfold cellsFrom;split
  ·exact sL (aB _ h)
  ·exact sL h
theorem vt:∀{names:List (Str×NameKind)} {n:Nat} {acc:List (Str×Addr)} {x:Str},(x,.cell)∈names->∃c,(x,c)∈cellsFrom n names acc
 |(m,k)::r,n,acc,x,h=>by
  unfold cellsFrom;rcases aP.mp h with e|h
  ·cases e;exact ⟨n,sL aJ⟩
  ·split
   ·exact vt h
   ·exact vt h
theorem vq:∀{names:List (Str×NameKind)} {h:Heap} {acc:List (Str×Addr)} {x y:Str} {c:Addr},(∀p∈acc,p.2<h.objs.size)->(∀x y c,(x,c)∈acc->(y,c)∈acc->x=y)->
  (x,c)∈cellsFrom h.objs.size names acc->(y,c)∈cellsFrom h.objs.size names acc->x=y
 |[],_,_,_,_,_,_,hi,h1,h2=>hi _ _ _ h1 h2
 |(n,k)::r,h,acc,x,y,c,hl,hi,h1,h2=>by
  unfold cellsFrom at h1 h2;split at h1
  ·rename_i hk;rw[if_pos hk] at h2;rw[<-Heap.size_push h {cls:=.type "cell",data:=.cell none}] at h1 h2;refine vq (h:=h.push _) (λp hp=>?_) (λx y c a b=>?_) h1 h2
   ·rw[Heap.size_push];rcases aP.mp hp with rfl|hp
    ·exact yC _
    ·exact pZ (hl p hp)
   ·rcases aP.mp a with e|a<;>rcases aP.mp b with e'|b
    ·cases e;cases e';rfl
    ·cases e;exact absurd (hl _ b) (gJ _)
    ·cases e';exact absurd (hl _ a) (gJ _)
    ·exact hi _ _ _ a b
  ·rename_i hk;rw[if_neg hk] at h2;exact vq hl hi h1 h2
theorem B7{M:Model}{A:Around}{E:Value->Shared->Prop}{s:Shared}{scope:Scope}{globals:Addr}{closure:List (Str×Addr)}{qual:Str}{func:Option Addr}{code:Value}{around:Env}{builtins:Addr}{Q:Env->Shared->Prop}
  (h:Q (newEnv scope s.heap.objs.size globals (cellsFrom (s.heap.objs.size+1) scope.names closure) qual func code (some around) builtins)
   {s with heap:=pushCells (s.heap.push {cls:=.type "dict",data:=.dict #[]}) scope.names}):
  wpAny M A (newFunctionEnv scope globals closure [] qual func code (some around) builtins) Q E s:=by
 simp only[newFunctionEnv,GD,if_true];refine wpAny_bind (wpAny_alloc ?_);refine wpAny_bind (wpAny_layCells _ (λn k c=>rfl) scope.names closure _ _ ?_);rw[show ({s with heap:=s.heap.push {cls:=.type "dict",data:=.dict #[]}}:Shared).heap.objs.size=s.heap.objs.size+1 from Heap.size_push ..];rw[List.forIn_nil];exact wpAny_bind (wpAny_pure (wpAny_pure h))
theorem rW{sc:Scope}:∀{names:List (Str×NameKind)} {x:Str} {k:NameKind},
  (names.map λ(n,k)=>if (k==NameKind.free&&sc.kind==.function&&sc.names.lookup n==some .cell) then (n,NameKind.cell) else (n,k)).lookup x=some k->
  ∃k',names.lookup x=some k'/\(k=k'\/(k'=.free/\k=.cell))
 |[],_,_,h=>by simp at h
 |(n,k₀)::r,x,k,h=>by
  have ih:= @rW sc r x k;have h':jA x ((if (k₀==NameKind.free&&sc.kind==.function&&sc.names.lookup n==some .cell)=true then (n,NameKind.cell) else (n,k₀))::(r.map _))=some k:=h;cases hx:x==n with
  |true=>
   simp only[iK,hx]
   by_cases hc:(k₀==NameKind.free&&sc.kind==.function&&sc.names.lookup n==some .cell)=true
   ·rw[if_pos hc] at h';simp only[iK,hx] at h';cases h';simp only[aC,beq_iff_eq] at hc;exact ⟨k₀,rfl,.inr ⟨hc.1.1,rfl⟩⟩
   ·rw[if_neg hc] at h';simp only[iK,hx] at h';cases h';exact ⟨_,rfl,.inl rfl⟩
  |false=>
   simp only[iK,hx]
   by_cases hc:(k₀==NameKind.free&&sc.kind==.function&&sc.names.lookup n==some .cell)=true
   ·rw[if_pos hc] at h';simp only[iK,hx] at h';exact ih h'
   ·rw[if_neg hc] at h';simp only[iK,hx] at h';exact ih h'
structure CL(N:List Str)(sc scope:Scope)(own:List (Str×Nat)):Prop where
 kind:scope.kind=.function
 uniq:∀y∈scope.names,scope.names.lookup y.1=some y.2
 ix:∀p∈own,N[p.2]?=some p.1
 free:∀y∈scope.names,y.2=.free->sc.names.lookup y.1=some .cell\/sc.names.lookup y.1=some .free
 own:∀y∈scope.names,y.2=.local\/y.2=.cell->y.1∈own.map (·.1)\/y.1∉N
def wipe(σ:St):List Nat->St
 |[]=>σ
 |v::vs=>(wipe σ vs).set v none
theorem rE(σ:St):∀vs:List Nat,(wipe σ vs).length=σ.length
 |[]=>rfl
 |v::vs=>by unfold wipe;rw[List.length_set,rE σ vs]
theorem uS{σ:St}{i:Nat}{x:V}:∀{vs:List Nat},(wipe σ vs)[i]?=some (some x)->σ[i]?=some (some x)/\i∉vs
 |[],h=>⟨h,by simp⟩
 |v::vs,h=>by
  unfold wipe at h
  by_cases hi:v=i
  ·subst hi
   by_cases hv:v<(wipe σ vs).length
   ·rw[rB hv] at h;cases h
   ·rw[jR (by simpa using hv)] at h;cases h
  ·rw[tF hi] at h;obtain ⟨h1,h2⟩:=uS h;exact ⟨h1,by simp only[aP,not_or];exact ⟨λe=>hi e.symm,h2⟩⟩
abbrev Cx.rm(X:Cx)(s:Shared)(H:Hp)(scope:Scope)(lE:Env)(fp:List Addr):Cx:={X with uW:=s,IY:=H,env:=lE,outer:=X.stack,ex:=fp,fn:=λx=>scope.names.lookup x==some .cell,pn:=[],xe:=λ_ _=>False}
section
variable{X:Cx}{pins:List (Addr×Obj)}{σ:St}{H:Hp}{s:Shared}
theorem CF{scope:Scope}{own:List (Str×Nat)}{fp:List Addr}(I:Inv X pins σ H s)(ok:CL X.N X.env.scope scope own)(hN:X.N.Nodup)(Gd:∀b∈fp,yx X pins H b/\b<s.heap.objs.size):
  Inv (X.rm s H scope (compEnvC scope (cellsFrom (s.heap.objs.size+1) scope.names (gB X.env.cells scope.names [])) s.heap.objs.size X.env) fp) [] (wipe σ (own.map (·.2))) H {s with heap:=pushCells (s.heap.push {cls:=.type "dict",data:=.dict #[]}) scope.names}:=by
 have zJ:∀y∈scope.names,y.2=.free->∃c,X.env.cells.lookup y.1=some c:=λy hy e=>by
  rcases ok.free y hy e with k|k
  ·exact I.ok.has _ (.inl k)
  ·exact I.ok.has _ (.inr k)
 generalize Ck:compEnvC scope (cellsFrom (s.heap.objs.size+1) scope.names (gB X.env.cells scope.names [])) s.heap.objs.size X.env=lE;have kp:∀b o,s.heap.get? b=some o->(pushCells (s.heap.push {cls:=.type "dict",data:=.dict #[]}) scope.names).get? b=some o:=λb o e=>pushCells_keeps _ _ _ _ (Heap.get?_push_of_some _ e);have hL:lE.locals=s.heap.objs.size:=by rw[<-Ck];rfl
 have Lp:lE.cells=cellsFrom (s.heap.objs.size+1) scope.names (gB X.env.cells scope.names []):=by rw[<-Ck];rfl
 have YI:lE.scope=XG scope X.env.scope:=by rw[<-Ck];rfl
 rw[<-Heap.size_push s.heap {cls:=.type "dict",data:=.dict #[]}] at Lp
 have cm:∀{y c},(y,c)∈gB X.env.cells scope.names []->X.env.cells.lookup y=some c/\c<s.heap.objs.size:=λ{y c} hm=>by
  rcases oF hm with hm|⟨h1,rfl⟩
  ·cases hm
  ·obtain ⟨c,hc⟩:=zJ _ h1 rfl;rw[hc];obtain ⟨w,z⟩:=I.cell _ _ hc;exact ⟨rfl,z.lt⟩
 have mem:∀{y c},lE.cells.lookup y=some c->(X.env.cells.lookup y=some c/\c<s.heap.objs.size)\/(s.heap.objs.size+1<=c/\L7 (pushCells (s.heap.push {cls:=.type "dict",data:=.dict #[]}) scope.names) c none):=λ{y c} e=>by
  rw[Lp] at e;rcases pT (cO e) with hm|⟨_,h2,h3⟩
  ·exact .inl (cm hm)
  ·rw[Heap.size_push] at h2;exact .inr ⟨h2,h3⟩
 have look:∀{y},scope.names.lookup y=some .free->∃c,lE.cells.lookup y=some c/\X.env.cells.lookup y=some c:=λ{y} hl=>by
  have hy:(y,NameKind.free)∈scope.names:=cO hl;obtain ⟨c',e'⟩:=mem_lookup (sL (names:=scope.names) (n:=(s.heap.push {cls:=.type "dict",data:=.dict #[]}).objs.size) (r8 (cells:=X.env.cells) (acc:=[]) hy));rw[<-Lp] at e';refine ⟨c',e',?_⟩;rw[Lp] at e';rcases pT (cO e') with hm|⟨h1,_,_⟩
  ·exact (cm hm).1
  ·have:=ok.uniq _ h1;rw[hl] at this;cases this
 have okB:(X.rm s H scope lE fp).Ok:=by
  refine ⟨I.ok.mod,by show lE.scope.kind=_;rw[YI];exact ok.kind,by show lE.globals=_;rw[<-Ck];exact I.ok.glob,by show lE.builtins=_;rw[<-Ck];exact I.ok.blt,by show s.heap.objs.size<=lE.locals;rw[hL];exact aL _,
   λy z c e1 e2=>?_,λy hy=>?_,λy c z e=>?_,I.ok.hd,I.ok.frames,.inl rfl,λb hb=>⟨?_,λy c e z=>?_⟩,I.bs,cE I.ok.Ir I.sz,λb o e hb=>?_,λb hb z=>?_,I.stack,I.As⟩
  ·have e1:lE.cells.lookup y=some c:=e1;have e2:lE.cells.lookup z=some c:=e2;rw[Lp] at e1 e2;refine vq (λp hp=>?_) (λy z c a b=>I.ok.inj y z c (cm a).1 (cm b).1) (cO e1) (cO e2);rw[Heap.size_push];exact pZ (cm (y:=p.1) (c:=p.2) hp).2
  ·show ∃c,lE.cells.lookup y=some c
   have key:∀k,lE.kindOf y=some k->(k=.cell\/k=.free)->∃c,lE.cells.lookup y=some c:=λk hk NZ=>by
    unfold Env.kindOf at hk;rw[YI] at hk;obtain ⟨k',e,r⟩:=rW hk
    have:k'=.cell\/k'=.free:=by
     rcases r with rfl|⟨rfl,_⟩
     ·exact NZ
     ·exact .inr rfl
    rcases this with rfl|rfl
    ·obtain ⟨c,hm⟩:=vt (n:=(s.heap.push {cls:=.type "dict",data:=.dict #[]}).objs.size) (acc:=gB X.env.cells scope.names []) (cO e);obtain ⟨c',e'⟩:=mem_lookup hm;exact ⟨c',by rw[Lp];exact e'⟩
    ·obtain ⟨c,h1,_⟩:=look e;exact ⟨c,h1⟩
   rcases hy with hy|hy
   ·exact key _ hy (.inl rfl)
   ·exact key _ hy (.inr rfl)
  ·have z:(scope.names.lookup y==some NameKind.cell)=true:=z;have z:scope.names.lookup y=some .cell:=by simpa using z
   have e:lE.cells.lookup y=some c:=e;rw[Lp] at e;rcases pT (cO e) with hm|⟨_,h2,_⟩
   ·rcases oF hm with hm|⟨h1,_⟩
    ·cases hm
    ·have q:=ok.uniq _ h1;rw[z] at q;cases q
   ·rw[Heap.size_push] at h2;exact p6 h2
  ·show b≠lE.locals;rw[hL];exact eF (Gd b hb).2
  ·have e:lE.cells.lookup y=some c:=e;rcases mem e with ⟨h1,_⟩|⟨h1,_⟩
   ·exact (Gd b hb).1.2.2.2.2.1 y c h1 z
   ·have h2:s.heap.objs.size+1<=b:=by rw[<-z];exact h1
    exact absurd (cz (Gd b hb).2 (p6 h2)) (gJ _)
  ·rcases (Gd b hb).1.2.2.2.1 with z|z
   ·exact I.ok.B6 b o e z
   ·exact absurd (cz (Heap.lt_size e) (cE I.ok.Ir z)) (gJ _)
  ·rcases aP.mp (I.Dw b z) with z|z
   ·exact (Gd b hb).1.2.1 z
   ·exact (Gd b hb).1.2.2.1 z
 refine ⟨okB,rfl,I.bare,Un.kept kp,⟨λ_=>none,?_,λi y av e1 e2 e3=>?_⟩,λy c e=>?_,?_,λy c e=>?_,λp hp=>?_,I.cI.kept kp,by rw[rE];exact I.len⟩
 ·show Heap.Ns _ lE.locals _;rw[hL];exact Heap.Ns.keeps (Heap.Ns.new ..) λb o e=>pushCells_keeps _ _ _ _ e
 ·obtain ⟨e2,iG⟩:=uS e2
  have HW:scope.names.lookup y=some .free/\(lE.kindOf y=some .cell\/lE.kindOf y=some .free):=by
   have key:∀k,lE.scope.names.lookup y=some k->k=.local\/k=.cell\/k=.free->scope.names.lookup y=some .free/\(lE.kindOf y=some .cell\/lE.kindOf y=some .free):=λk hk NZ=>by
    have hk0:=hk;rw[YI] at hk;obtain ⟨k',e,r⟩:=rW hk
    have no:¬(k'=.local\/k'=.cell):=λhh=>by
     rcases ok.own _ (cO e) hh with e'|e'
     ·obtain ⟨p,hp,hpy⟩:=aq.mp e';have e3:=ok.ix p hp;have:p.1=y:=hpy;rw[this] at e3;exact iG (aq.mpr ⟨p,hp,xT hN e3 e1⟩)
     ·exact e' (cA e1)
    rcases r with rfl|⟨rfl,rfl⟩
    ·rcases NZ with rfl|rfl|rfl
     ·exact absurd (.inl rfl) no
     ·exact absurd (.inr rfl) no
     ·exact ⟨e,.inr hk0⟩
    ·exact ⟨e,.inl hk0⟩
   have e3:Ss lE.scope y:=e3;rcases e3 with e3|e3|e3
   ·exact key _ e3 (.inl rfl)
   ·exact key _ e3 (.inr (.inl rfl))
   ·exact key _ e3 (.inr (.inr rfl))
  obtain ⟨m,hn,hl⟩:=I.loc;have Yz:Ss X.env.scope y:=(ok.free _ (cO HW.1) rfl).elim (λk=>.inr (.inl k)) (λk=>.inr (.inr k));obtain ⟨w,r,q⟩:=hl i y av e1 e2 Yz;refine ⟨w,r,.inr ⟨HW.2,?_⟩⟩;obtain ⟨c,h1,h2⟩:=look HW.1;rcases q with ⟨k,_⟩|⟨_,c',e',z⟩
  ·have k:X.env.scope.names.lookup y=some .local:=k;rcases ok.free _ (cO HW.1) rfl with k'|k'<;>rw[show X.env.scope.names.lookup y=_ from k'] at k<;>cases k
  ·rw[h2] at e';cases e';exact ⟨c,h1,z.keeps kp⟩
 ·have e:lE.cells.lookup y=some c:=e;rcases mem e with ⟨h1,_⟩|⟨_,z⟩
  ·obtain ⟨w,z⟩:=I.cell y c h1;exact ⟨w,z.keeps kp⟩
  ·exact ⟨_,z⟩
 ·show H lE.locals=none;rw[hL];exact I.cI.fresh (aL _)
 ·have e:lE.cells.lookup y=some c:=e;rcases mem e with ⟨h1,_⟩|⟨h1,_⟩
  ·exact I.mj y c h1
  ·exact I.cI.fresh (p6 h1)
 ·exact absurd (show p∈([]:List (Addr×Obj))++[] from hp) (by simp)
theorem RK{E:Value->Shared->Prop}{D:Addr}{xs:List V}{y:V}{v:Value}{Q:Value->Shared->Prop}(I:Inv X pins σ H s)(hD:H D=some (.lst xs))(hz:xs.length<sizeLine)(r:RelV y v)
  (h:∀s',Inv X pins σ (upd H D (.lst (xs++[y]))) s'->Q .none s'):wpAny (model X.prog X.w) X.A (call (.builtin "list.append") [.ref D,v]) Q E s:=by
 obtain ⟨La,dN,n,ri,e⟩:=I.cI D _ hD;have hl:=ri.length;refine append_at (hsz:=by rw[aT];omega) e λh' sb IS=>?_;refine h {s with heap:=h'} (I.write (t':=s.toks) (by rw[hD];trivial) (.inl rfl) (λb u hb q=>(sb.2 b hb).trans q) ⟨_,IS⟩ ⟨by rw[aE];exact hz,dN++[v],n+1,ri.append (.cons r .nil),?_⟩);rw[IS];simp
def VI(X:Cx)(ifs:List Expr)(t:TT):Prop:=
 ∀(pins:List (Addr×Obj)) (s:Shared) (σ:St) (H:Hp) (Q:Bool->Hp->Prop),Inv X pins σ H s->t σ H Q->
  wpAny (model X.prog X.w) X.A (forIn ifs true λc r=>if r=true then do let ok<-isTrue c X.env (eval c X.env);pure (p7 ok) else pure (p7 r)) (TP X pins σ Q) X.xe s
def SH:TT:=λ_ H Q=>Q true H
theorem nv:VI X [] SH:=λ_ _ _ H _ I h=>wpAny_tests_nil ⟨H,I,h⟩
theorem AE{c:Expr}{t:TT}(h:PT X c t):VI X [c] t:=λpins s σ H Q I hw=>wpAny_tests_one (h pins s σ H Q I hw)
end
theorem GW{α:Type}{t:Sem α}{Q Q':α->Shared->Prop}{M:Model}{A:Around}{E:Value->Shared->Prop}{s:Shared}(h:wpAny M A t Q (λ_ _=>False) s)(hQ:∀a s,Q a s->Q' a s):wpAny M A t Q' E s:=wpAny_mono h hQ λ_ _ z=>gF z
theorem A3{prog:Program}{w:World}{A:Around}{R:Result->Shared->Prop}{s:Shared}{elt target iter:Expr}{ifs:List Expr}{scope:Scope}{pos:Pos}{it acc:Value}{env:Env}(I:Nat->Shared->Prop)
  (turn:∀n s,I n s->wpAny (model prog w) A (pyNext it) (λr s₁=>match r with
   |none=>R (.ok .next) s₁
   |some v=>wpAny (model prog w) A (letOwnedTupleGo target it v) (λ_ s₁'=>wpAny (model prog w) A (assign target env v) (λ_ s₂=>
     wpAny (model prog w) A (forIn ifs true λc r=>if r=true then do let ok<-isTrue c env (eval c env);pure (p7 ok) else pure (p7 r)) (λok s₃=>
      if ok=true then wpAny (model prog w) A (eval elt env) (λx s₄=>
       wpAny (model prog w) A (call (.builtin "list.append") [acc,x]) (λ_ s₅=>∃m,m<n/\I m s₅) (notedBy (model prog w) A env λe s'=>R (.error e) s') s₄) (notedBy (model prog w) A env λe s'=>R (.error e) s') s₃
      else ∃m,m<n/\I m s₃) (notedBy (model prog w) A env λe s'=>R (.error e) s') s₂) (notedBy (model prog w) A env λe s'=>R (.error e) s') s₁') (notedBy (model prog w) A env λe s'=>R (.error e) s') s₁) (notedBy (model prog w) A env λe s'=>R (.error e) s') s)
  (n:Nat) (h:I n s):
  codeAny (model prog w) A (.compLoop (.ListComp elt [⟨target,iter,ifs,0⟩] scope pos) 0 it acc env) R s:=by
 refine codeAny_loop rfl I (λn s hI=>?_) n h;show wpAny _ A ((compTurn (.ListComp elt [⟨target,iter,ifs,0⟩] scope pos) 0 it acc env).onRaise (λx=>do noteFrame x env;theTreesLotGoes x)) _ _ s;refine wpAny_noted ?_;rw[compTurn_list];refine wpAny_bind (wpAny_standAt (wpAny_bind (wpAny_mono (turn n s hI) (λr s₁ h₁=>?_) λ_ _ h'=>h')));cases r with
 |none=>exact wpAny_pure h₁
 |some v=>
  refine wpAny_bind (wpAny_mono h₁ (λ_ s₁' h₁'=>?_) λ_ _ h'=>h');refine wpAny_bind (wpAny_mono h₁' (λ_ s₂ h₂=>wpAny_bind (wpAny_mono h₂ (λok s₃ h₃=>?_) λ_ _ h'=>h')) λ_ _ h'=>h');cases ok with
  |false=>exact wpAny_pure ⟨rfl,h₃⟩
  |true=>
   exact wpAny_bind (wpAny_bind (wpAny_mono h₃ (λx s₄ h₄=>wpAny_bind (wpAny_mono h₄ (λ_ s₅ h₅=>wpAny_pure (wpAny_pure ⟨rfl,h₅⟩)) λ_ _ h'=>h')) λ_ _ h'=>h'))
section
variable{X:Cx}
def VU(wi:TI)(g:TG)(tt:TT)(te:TE)(vs:List Nat):TE:=λσ H Q=>wi σ H λJ H1=>∀D,H1 D=none->∃W:Nat->Nat->Hp->Prop,(∃m,W 0 m (upd H1 D (.lst [])))/\∀i m H,W i m H->
 (J.stop i H/\Q (.ref D) H)\/(J.go i H/\∃Nx:Hp->Prop,(∀H',Nx H'->∃m',m'<m/\W (i+1) m' H')/\∀x H',J.GI i H x H'->g x (wipe σ vs) H' λσ2 H2=>wipe σ2 vs=wipe σ vs/\tt σ2 H2 λb H3=>
  if b=true then te σ2 H3 λy H4=>∃acc,H4 D=some (.lst acc)/\acc.length<sizeLine/\Nx (upd H4 D (.lst (acc++[y]))) else Nx H3)
theorem FT{pins:List (Addr×Obj)}{s:Shared}{σ:St}{H:Hp}{Q:VK}{elt tg iter:Expr}{ifs:List Expr}{scope:Scope}{own:List (Str×Nat)}{pos pos':Pos}{wi:TI}{g:TG}{tt:TT}{te:TE}{use:Option (Value->Sem Unit)}{Qf:Value->Shared->Prop}
  (hc:X.calm=true) (hN:X.N.Nodup) (I:Inv X pins σ H s) (hi:PI X tg iter wi) (ok:CL X.N X.env.scope scope own)
  (hg:∀(s:Shared) (H:Hp) (C:Addr) (cl:List (Str×Addr)) (fp:List Addr),PG (X.rm s H scope (compEnvC scope cl C X.env) fp) tg g) (ht:∀(s:Shared) (H:Hp) (C:Addr) (cl:List (Str×Addr)) (fp:List Addr),VI (X.rm s H scope (compEnvC scope cl C X.env) fp) ifs tt)
  (he:∀(s:Shared) (H:Hp) (C:Addr) (cl:List (Str×Addr)) (fp:List Addr),PE (X.rm s H scope (compEnvC scope cl C X.env) fp) elt te) (hs:∀x,foldedSetIterable iter X.env x=pure x)
  (h:VU wi g tt te (own.map (·.2)) σ H Q)
  (hRR:∀D C s' m H',Inv X pins σ H' s'->Q (.ref D) H'->s'.heap.Ns C m->yx X pins H' C->compPost (model X.prog X.w) X.A X.xe use Qf (.ref D) C (.ok .next) s'):
  wpAny (model X.prog X.w) X.A (comprehension (.ListComp elt [⟨tg,iter,ifs,0⟩] scope pos) scope X.env pos' (newList []) false (eval iter X.env) use) Qf X.xe s:=by
 have zJ:∀y∈scope.names,y.2=.free->∃c,X.env.cells.lookup y.1=some c:=λy hy e=>by
  rcases ok.free y hy e with k|k
  ·exact I.ok.has _ (.inl k)
  ·exact I.ok.has _ (.inr k)
 refine wpAny_comprehension_free (use:=use) rfl hs (Et zJ) ok.kind (λy hy e=>by rw[ok.uniq y hy,e])
  (iM (hi pins s σ H _ I h) λxv s1 hx=>iM hx λYr s2 h2=>?_)
 obtain ⟨it,fp,tn,J,H2,e,I2,T,SR,f2,q⟩:=h2;subst e;refine wpAny_newObj_type (B7 ?_) (by show 0<=sizeLine;decide);generalize hD:s2.heap.objs.size=D;have hDn:H2 D=none:=I2.cI.fresh (wC hD);obtain ⟨W,⟨m0,w0⟩,turn⟩:=q D hDn;generalize hs3:({s2 with heap:=s2.heap.push {cls:=.type "list",data:=.seq ([]:List Value).toArray}}:Shared)=s3
 have I3:Inv X pins σ (upd H2 D (.lst [])) s3:=by
  rw[<-hs3];refine I2.laid (t':=s2.toks) (λb o e=>Heap.get?_push_of_some _ e) (wC hD) ⟨bH _,[],0,.nil,?_⟩;rw[<-hD];exact Heap.get?_push_size _ rfl
 have h3:s3.heap=s2.heap.push {cls:=.type "list",data:=.seq ([]:List Value).toArray}:=by rw[<-hs3]
 have sz:∀b∈fp,b<s2.heap.objs.size:=λb hb=>by
  obtain ⟨o,e,_⟩:=T.obj _ _ SR b hb;exact Heap.lt_size e
 have f3:∀b∈fp,yx X pins (upd H2 D (.lst [])) b/\b<s3.heap.objs.size:=λb hb=>by
  have pX:=sz b hb;refine ⟨⟨?_,(f2 b hb).2⟩,by rw[h3,Heap.size_push];exact pZ pX⟩;rw[az (by rw[<-hD];exact eF pX)];exact (f2 b hb).1
 have VW:tn 0 s3.heap:=T.keep _ _ _ SR λb _ o e=>by rw[h3];exact Heap.get?_push_of_some _ e
 have I4:=CF I3 ok hN f3;have pg:=hg s3 (upd H2 D (.lst [])) s3.heap.objs.size (cellsFrom (s3.heap.objs.size+1) scope.names (gB X.env.cells scope.names [])) fp;have pt:=ht s3 (upd H2 D (.lst [])) s3.heap.objs.size (cellsFrom (s3.heap.objs.size+1) scope.names (gB X.env.cells scope.names [])) fp;have pe:=he s3 (upd H2 D (.lst [])) s3.heap.objs.size (cellsFrom (s3.heap.objs.size+1) scope.names (gB X.env.cells scope.names [])) fp;show codeAny _ _ (.compStart (.ListComp elt [⟨tg,iter,ifs,0⟩] scope pos) 0 (.ref it) (.ref D) (compEnvC scope (cellsFrom (s3.heap.objs.size+1) scope.names (gB X.env.cells scope.names [])) s3.heap.objs.size X.env)) (compPost (model X.prog X.w) X.A X.xe use Qf (.ref D) s3.heap.objs.size) {s3 with heap:=pushCells (s3.heap.push {cls:=.type "dict",data:=.dict #[]}) scope.names};have Wc:∀b∈fp,(upd H2 D (.lst [])) b=none:=λb hb=>(f3 b hb).1.1;generalize hce:compEnvC scope (cellsFrom (s3.heap.objs.size+1) scope.names (gB X.env.cells scope.names [])) s3.heap.objs.size X.env=ce at I4 pg pt pe⊢;have cL:ce.locals=s3.heap.objs.size:=by subst hce;rfl
 generalize Sm:upd H2 D (.lst [])=H3 at I3 I4 pg pt pe w0 Wc f3;generalize hs4:({s3 with heap:=pushCells (s3.heap.push {cls:=.type "dict",data:=.dict #[]}) scope.names}:Shared)=s4 at I4⊢;have st4:tn 0 s4.heap:=T.keep _ _ _ VW λb _ o e=>by rw[<-hs4];exact pushCells_keeps _ _ _ _ (Heap.get?_push_of_some _ e)
 have Dy:∀{σ':St} {H':Hp} {s':Shared},Inv (X.rm s3 H3 scope ce fp) [] σ' H' s'->(∀b∈fp,H' b=none)->∀b∈fp,yx (X.rm s3 H3 scope ce fp) [] H' b:=λ{σ' H' s'} I' hn b hb=>
  ⟨hn b hb,(I'.ok.Rr b hb).1,I'.ok.Ct b hb,.inl hb,λx c e=>(I'.ok.Rr b hb).2 x c e,λp hp=>absurd (show p∈([]:List (Addr×Obj))++[] from hp) (by simp)⟩
 have loop:codeAny (model X.prog X.w) X.A (.compLoop (.ListComp elt [⟨tg,iter,ifs,0⟩] scope pos) 0 (.ref it) (.ref D) ce) (compPost (model X.prog X.w) X.A X.xe use Qf (.ref D) s3.heap.objs.size) s4:=by
  refine A3 (λn s'=>∃i H',Inv (X.rm s3 H3 scope ce fp) [] (wipe σ (own.map (·.2))) H' s'/\tn i s'.heap/\(∀b∈fp,H' b=none)/\W i n H') ?_ m0 ⟨0,H3,I4,st4,Wc,w0⟩;rintro n s5 ⟨i,H5,I5,RU,n5,w5⟩;rcases turn i n H5 w5 with ⟨stop,qq⟩|⟨go,Nx,hNx,step⟩
  ·have td:=T.done (X.rm s3 H3 scope ce fp) rfl rfl rfl hc i [] s5 _ H5 (λ_ _=>False) I5 (Dy I5 n5) RU stop;refine GW td λr s6 ⟨hr,I6⟩=>?_;subst hr;have I7:Inv X pins σ H5 s6:=I3.OZ (ch:=fp) I6.os I6.base I6.cI I6.bare λb hb=>⟨(f3 b hb).1.2.2.2.1,(f3 b hb).1.2.1,(f3 b hb).1.2.2.2.2.1,(f3 b hb).1.2.2.2.2.2⟩
   have nC:H5 s3.heap.objs.size=none:=by
    have z:H5 ce.locals=none:=I6.free;rw[cL] at z;exact z
   obtain ⟨m,hn,_⟩:=I6.loc;have hn:s6.heap.Ns ce.locals m:=hn;rw[cL] at hn;exact hRR D s3.heap.objs.size s6 m H5 I7 qq hn (I3.LB (aL _) nC)
  ·have ti:=T.item (X.rm s3 H3 scope ce fp) rfl rfl rfl hc i [] s5 _ H5 (λ_ _=>False) I5 (Dy I5 n5) RU go;refine GW ti λr s6 ⟨u,hr,h6⟩=>?_;subst hr;refine GW h6 λ_ s7 ⟨x,H7,I7,r7,y7,W2,n7⟩=>?_;have I7':=I7.pinned (Dy I7 n7) (T.obj _ _ W2);refine GW (pg _ s7 _ H7 x u _ I7' r7 (step x H7 y7)) λ_ s8 ⟨σ8,H8,I8,hw8,q8⟩=>?_;refine GW (pt _ s8 σ8 H8 _ I8 q8) λb s9 ⟨H9,I9,q9⟩=>?_
   have fin:∀{s':Shared} {H':Hp},Inv (X.rm s3 H3 scope ce fp) ([]++xM fp s7.heap) σ8 H' s'->Nx H'->∃m,m<n/\∃i H',Inv (X.rm s3 H3 scope ce fp) [] (wipe σ (own.map (·.2))) H' s'/\tn i s'.heap/\(∀b∈fp,H' b=none)/\W i m H':=λ{s' H'} I' nx=>by
    obtain ⟨m',hm,w'⟩:=hNx H' nx
    have T_:∀b∈fp,∀o,s7.heap.get? b=some o->s'.heap.get? b=some o/\H' b=none:=λb hb o e=>
     let z:=I'.pin (b,o) (cG _ (cG _ (tQ hb e)))
     ⟨z.1,z.2.1⟩
    have hl:(wipe σ (own.map (·.2))).length=σ8.length:=by rw[<-hw8,rE]
    refine ⟨m',hm,i+1,H',(I'.pC (pins:=[])).weak hl (λj v e=>?_),T.keep _ _ _ W2 λb hb o e=>(T_ b hb o e).1,λb hb=>?_,w'⟩
    ·rw[<-hw8] at e;exact (uS e).1
    ·obtain ⟨o,e,_⟩:=T.obj _ _ W2 b hb;exact (T_ b hb o e).2
   cases b with
   |false=>
    simp only[lO,if_false] at q9⊢;exact fin I9 q9
   |true=>
    simp only[if_true] at q9⊢;refine GW (pe _ s9 σ8 H9 _ I9 q9) λz s10 ⟨yv,H10,I10,r10,acc,ZN,Yx,nx⟩=>?_;exact RK (X:=X.rm s3 H3 scope ce fp) I10 ZN Yx r10 λs11 I11=>fin I11 nx
 exact codeAny_compStart_list loop (T.self X.A 0 _ _ _ st4 loop)
theorem vF{elt tg iter:Expr}{ifs:List Expr}{scope:Scope}{own:List (Str×Nat)}{pos:Pos}{wi:TI}{g:TG}{tt:TT}{te:TE}(hc:X.calm=true)(hN:X.N.Nodup)(hi:PI X tg iter wi)(ok:CL X.N X.env.scope scope own)
  (hg:∀(s:Shared) (H:Hp) (C:Addr) (cl:List (Str×Addr)) (fp:List Addr),PG (X.rm s H scope (compEnvC scope cl C X.env) fp) tg g) (ht:∀(s:Shared) (H:Hp) (C:Addr) (cl:List (Str×Addr)) (fp:List Addr),VI (X.rm s H scope (compEnvC scope cl C X.env) fp) ifs tt)
  (he:∀(s:Shared) (H:Hp) (C:Addr) (cl:List (Str×Addr)) (fp:List Addr),PE (X.rm s H scope (compEnvC scope cl C X.env) fp) elt te) (hs:∀x,foldedSetIterable iter X.env x=pure x:=by intro _;rfl):
  PE X (.ListComp elt [⟨tg,iter,ifs,0⟩] scope pos) (VU wi g tt te (own.map (·.2))):=by
 intro pins s σ H Q I h;rw[eval_ListComp];refine FT hc hN I hi ok hg ht he hs h λD C s' m H' I' q hn f=>⟨m,hn,λWB sb=>?_⟩;obtain ⟨f0,f1,f2,f3,f4,f5⟩:=f;exact ⟨.ref D,H',I'.turned (t':=s'.toks) (λb o hb e=>(sb.2 b hb).trans e) f0 f1 f3 f4 f5,rfl,q⟩
theorem ud{i:Nat}{y:Str}{py:Pos}{elt tg iter:Expr}{ifs:List Expr}{scope:Scope}{own:List (Str×Nat)}{pos SS:Pos}{wi:TI}{g:TG}{tt:TT}{te:TE}(hc:X.calm=true)(hN:X.N.Nodup)(hy:X.N[i]?=some y)(hyl:X.env.scope.names.lookup y=some .local)
  (hsw:swapsWith (.ListComp elt [⟨tg,iter,ifs,0⟩] scope pos) (some (.Name y py)) SS.line X.env=pure true) (hi:PI X tg iter wi) (ok:CL X.N X.env.scope scope own)
  (hg:∀(s:Shared) (H:Hp) (C:Addr) (cl:List (Str×Addr)) (fp:List Addr),PG (X.rm s H scope (compEnvC scope cl C X.env) fp) tg g) (ht:∀(s:Shared) (H:Hp) (C:Addr) (cl:List (Str×Addr)) (fp:List Addr),VI (X.rm s H scope (compEnvC scope cl C X.env) fp) ifs tt)
  (he:∀(s:Shared) (H:Hp) (C:Addr) (cl:List (Str×Addr)) (fp:List Addr),PE (X.rm s H scope (compEnvC scope cl C X.env) fp) elt te) (hs:∀x,foldedSetIterable iter X.env x=pure x:=by intro _;rfl):
  PS X (.Assign [.Name y py] (.ListComp elt [⟨tg,iter,ifs,0⟩] scope pos) SS) (Pj (VU wi g tt te (own.map (·.2))) (sY i)):=by
 intro pins s σ H D I h;rw[exec_Assign_Name_used _ _ _ _ hsw];refine wpAny_bind (wpAny_standAt (wpAny_bind ?_));show wpAny _ X.A (do let _<-comprehension (.ListComp elt [⟨tg,iter,ifs,0⟩] scope pos) scope X.env (firstIterPos [⟨tg,iter,ifs,0⟩] pos) (newList []) false (eval iter X.env) (some (assign (.Name y py) X.env))) _ _ s;have h:VU wi g tt te (own.map (·.2)) σ H (λx H1=>sY i x σ H1 D.nx):=h;refine wpAny_bind (iM (FT (Qf:=λ_ s'=>SP X pins D .next s') hc hN I hi ok hg ht he hs h λL C s' m H' I' q hn f=>?_) λ_ s' hq=>wpAny_pure (wpAny_pure hq));show wpAny _ _ (assign (.Name y py) X.env (.ref L)) _ _ _;refine wpAny_assign_Name (zg (v:=V.ref L) I' hN hy (.inl hyl) rfl (λs2 I2 ⟨a,sb,ha⟩=>?_) (.inr hyl));obtain ⟨f0,f1,f2,f3,f4,f5⟩:=f
 have haC:C≠a:=by
  rcases ha with z|z
  ·rw[z];exact f1
  ·exact λe=>f4 y a z e.symm
 refine ⟨m,hn.sameBut sb haC,λh3 sb3=>?_⟩;exact ⟨_,H',I2.turned (t':=s2.toks) (λb o hb e=>(sb3.2 b hb).trans e) f0 f1 f3 f4 f5,q⟩
theorem wD{elt:Expr}{gs:List Comprehension}{scope:Scope}{pos py:Pos}{y:Str}{l:Nat}{env:Env}(hk:env.scope.kind=.function)(hy:env.scope.names.lookup y=some .local)(hl:(py.line==pos.line)=true)
  (ha:(scope.names.any λ(n,k)=>n==y&&(k==.local||k==.cell))=false):swapsWith (.ListComp elt gs scope pos) (some (.Name y py)) l env=pure true:=by
 have ky:env.kindOf y=some .local:=hy;have hb:env.blockKind=.function:=by unfold Env.blockKind;rw[hk];rfl
 unfold swapsWith;simp only[hb,ky,ha,Expr.pos,hl];rfl
end
def VD(N:List Str)(sc scope:Scope)(own:List (Str×Nat)):Bool:=
 (match scope.kind with|.function=>true|_=>false)&&(scope.names.all λy=>decide (scope.names.lookup y.1=some y.2))&&(own.all λp=>decide (N[p.2]?=some p.1))&&
  (scope.names.all λy=>match y.2 with
   |.free=>(match sc.names.lookup y.1 with|some .cell=>true|some .free=>true|_=>false)
   |.local=>decide (y.1∈own.map (·.1))||decide (y.1∉N)
   |.cell=>decide (y.1∈own.map (·.1))||decide (y.1∉N)
   |_=>true)
theorem jz{N:List Str}{sc scope:Scope}{own:List (Str×Nat)}(h:VD N sc scope own=true):CL N sc scope own:=by
 unfold VD at h;simp only[aC,fh,decide_eq_true_eq] at h;obtain ⟨⟨⟨h1,h2⟩,h3⟩,h4⟩:=h;refine ⟨?_,h2,h3,λy hy e=>?_,λy hy e=>?_⟩
 ·split at h1
  ·assumption
  ·cases h1
 ·have q:=h4 y hy;simp only[e] at q;split at q<;>first|exact .inl (by assumption)|exact .inr (by assumption)|cases q
 ·have q:=h4 y hy;rcases e with e|e<;>(simp only[e,gv,decide_eq_true_eq] at q;exact q)
end L2
namespace L2
open PySem PySem.Spec PyProof.Rows
end L2
namespace L2
open PySem PySem.Spec PyProof.Rows
section
variable{κ:Type}[DecidableEq κ]
def nQ(kvs:List (κ×V))(k:κ):Option V:=(kvs.find? λkv=>decide (kv.1=k)).map (·.2)
def putK(kvs:List (κ×V))(k:κ)(v:V):List (κ×V):=
 if (kvs.any λkv=>decide (kv.1=k))=true then kvs.map (λkv=>if kv.1=k then (kv.1,v) else kv) else kvs++[(k,v)]
def mq(kvs:List (κ×V))(k:κ):List (κ×V):=kvs.filter λkv=>decide (kv.1≠k)
theorem rF{p:κ×V}{r:List (κ×V)}{k:κ}(e:p.1=k):nQ (p::r) k=some p.2:=by simp [nQ,dm,e]
theorem rG{p:κ×V}{r:List (κ×V)}{k:κ}(e:¬p.1=k):nQ (p::r) k=nQ r k:=by simp [nQ,dm,e]
theorem Bs(k:κ):∀kvs:List (κ×V),(kvs.any λkv=>decide (kv.1=k))=(nQ kvs k).isSome
 |[]=>rfl
 |p::r=>by
  rw[jO]
  by_cases e:p.1=k
  ·simp only[rF e,decide_eq_true e,Bool.true_or,GD]
  ·rw[rG e,decide_eq_false e,Bp];exact Bs k r
theorem vJ(kvs:List (κ×V))(k:κ)(v:V):(putK kvs k v).length<=kvs.length+1:=by
 unfold putK;split
 ·rw[aj];omega
 ·rw[aE,bL,yJ];omega
theorem lX.nN{o:Option V}{u:Option Value}(r:lX o u):o.isSome=u.isSome:=by
 cases o with
 |none=>cases u with
  |none=>rfl
  |some _=>exact (show False from r).elim
 |some _=>cases u with
  |none=>exact (show False from r).elim
  |some _=>rfl
theorem KV.val{kvs:List (κ×V)}{vs:List (κ×Value)}(r:KV kvs vs)(k:κ):lX (nQ kvs k) (valueAt vs k):=by
 unfold KV at r
 induction r with
 |nil=>exact mQ
 | @cons p q ps qs h t ih=>
  obtain ⟨h1,h2⟩:=h
  by_cases e:p.1=k
  ·have e':q.1=k:=h1.symm.trans e;have b:valueAt (q::qs) k=some q.2:=by simp [valueAt,dm,e']
   rw[rF e,b];exact h2
  ·have e':¬q.1=k:=λz=>e (h1.trans z);have b:valueAt (q::qs) k=valueAt qs k:=by simp [valueAt,dm,e']
   rw[rG e,b];exact ih
theorem KV.any{kvs:List (κ×V)}{vs:List (κ×Value)}(r:KV kvs vs)(k:κ):(kvs.any λkv=>decide (kv.1=k))=vs.any λkv=>decide (kv.1=k):=by
 unfold KV at r
 induction r with
 |nil=>rfl
 |cons h t ih=>rw[jO,jO,ih,h.1]
theorem KV.Qe{kvs:List (κ×V)}{vs:List (κ×Value)}(r:KV kvs vs)(k:κ){y:V}{u:Value}(ry:RelV y u):
  KV (kvs.map λkv=>if kv.1=k then (kv.1,y) else kv) (vs.map λkv=>if kv.1=k then (kv.1,u) else kv):=by
 unfold KV at r⊢
 induction r with
 |nil=>exact .nil
 | @cons p q ps qs h t ih=>
  rw[aI,aI];refine .cons ?_ ih;obtain ⟨h1,h2⟩:=h
  by_cases e:p.1=k
  ·rw[if_pos e,if_pos (h1.symm.trans e)];exact ⟨h1,ry⟩
  ·rw[if_neg e,if_neg (λz=>e (h1.trans z))];exact ⟨h1,h2⟩
theorem KV.put{kvs:List (κ×V)}{vs:List (κ×Value)}(r:KV kvs vs)(k:κ){y:V}{u:Value}(ry:RelV y u):KV (putK kvs k y) (stored vs k u):=by
 unfold putK stored;rw[r.any k]
 by_cases e:(vs.any λkv=>decide (kv.1=k))=true
 ·rw[if_pos e,if_pos e];exact r.Qe k ry
 ·rw[if_neg e,if_neg e];exact Paired.snoc r ⟨rfl,ry⟩
theorem KV.drop{kvs:List (κ×V)}{vs:List (κ×Value)}(r:KV kvs vs)(k:κ):KV (mq kvs k) (without vs k):=by
 unfold KV at r⊢;unfold mq without
 induction r with
 |nil=>exact .nil
 | @cons p q ps qs h t ih=>
  obtain ⟨h1,h2⟩:=h;rw[bU,bU]
  by_cases e:p.1=k
  ·have a:¬decide (p.1≠k)=true:=by simp [e]
   have b:¬decide (q.1≠k)=true:=by simp [h1.symm.trans e]
   rw[if_neg a,if_neg b];exact ih
  ·have e':¬q.1=k:=λz=>e (h1.trans z);have a:decide (p.1≠k)=true:=by simp [e]
   have b:decide (q.1≠k)=true:=by simp [e']
   rw[if_pos a,if_pos b];exact .cons ⟨h1,h2⟩ ih
theorem KV.length{kvs:List (κ×V)}{vs:List (κ×Value)}(r:KV kvs vs):kvs.length=vs.length:=Paired.length r
theorem Cu(kvs:List (κ×V))(k:κ):(mq kvs k).length<=kvs.length:=EJ _ _
end
theorem x6{P:Program}{w:World}{k:Key}{u:Value}(r:RelV (kV k) u):(fT P w).is k u=true:=by
 cases k with
 |inl i=>obtain ⟨t,e⟩:=(show ∃t,u=Value.int i t from r);subst e;exact B9 P w i t
 |inr x=>obtain ⟨t,e⟩:=(show ∃t,u=Value.str x t from r);subst e;exact B8 P w x t
theorem zF{P:Program}{w:World}:∀{ks:List Key} {us:List Value},Vals (ks.map kV) us->ItemsAre (fT P w) ks us
 |[],_,r=>by rw[jd] at r;cases r;exact .nil
 |k::ks,_,r=>by
  rw[aI] at r;cases r with
  |cons h t=>exact .cons (x6 h) (zF t)
abbrev KT(H:Hp):List (List Key×V)->List (List Key×Addr×Value)->Prop:=Paired λp q=>p.1=q.1/\H q.2.1=some (.tup (p.1.map kV))/\RelV p.2 q.2.2
theorem KT.val{H:Hp}{kvs:List (List Key×V)}{xs:List (List Key×Addr×Value)}(r:KT H kvs xs)(k:List Key):lX (nQ kvs k) ((atKey xs k).map (·.2)):=by
 induction r with
 |nil=>exact mQ
 | @cons p q ps qs h t ih=>
  obtain ⟨h1,_,h2⟩:=h
  by_cases e:p.1=k
  ·have e':q.1=k:=h1.symm.trans e;have b:atKey (q::qs) k=some q.2:=by simp [atKey,dm,e']
   rw[rF e,b];exact h2
  ·have e':¬q.1=k:=λz=>e (h1.trans z);have b:atKey (q::qs) k=atKey qs k:=by simp [atKey,dm,e']
   rw[rG e,b];exact ih
theorem KT.Qe{H:Hp}{kvs:List (List Key×V)}{xs:List (List Key×Addr×Value)}(r:KT H kvs xs)(k:List Key){y:V}{u:Value}(ry:RelV y u):
  KT H (kvs.map λkv=>if kv.1=k then (kv.1,y) else kv) (xs.map (putAt k u)):=by
 induction r with
 |nil=>exact .nil
 | @cons p q ps qs h t ih=>
  rw[aI,aI];refine .cons ?_ ih;obtain ⟨h1,h2,h3⟩:=h;unfold putAt
  by_cases e:p.1=k
  ·rw[if_pos e,if_pos (h1.symm.trans e)];exact ⟨h1,h2,ry⟩
  ·rw[if_neg e,if_neg (λz=>e (h1.trans z))];exact ⟨h1,h2,h3⟩
theorem KT.put{H:Hp}{kvs:List (List Key×V)}{xs:List (List Key×Addr×Value)}(r:KT H kvs xs)(k:List Key){b:Addr}{y:V}{u:Value}(hb:H b=some (.tup (k.map kV)))(ry:RelV y u):
  KT H (putK kvs k y) (storedH xs k b u):=by
 have e:(kvs.any λkv=>decide (kv.1=k))=(atKey xs k).isSome:=by
  rw[Bs,(r.val k).nN,uM]
 unfold putK storedH;rw[e]
 by_cases q:(atKey xs k).isSome=true
 ·rw[if_pos q,if_pos q];exact r.Qe k ry
 ·rw[if_neg q,if_neg q];exact Paired.snoc r ⟨rfl,hb,ry⟩
theorem KT.keeps{H H':Hp}{kvs:List (List Key×V)}{xs:List (List Key×Addr×Value)}(r:KT H kvs xs)(ht:∀b ys,H b=some (.tup ys)->H' b=some (.tup ys)):KT H' kvs xs:=
 Paired.K3 r λ_ _ z=>⟨z.1,ht _ _ z.2.1,z.2.2⟩
section
variable{P:Program}{w:World}{H:Hp}{h:Heap}{a:Addr}
theorem OH{u:HO}(ok:qO P w H h)(e:Rd H a u):jo P w H h a u:=e.ok ok
theorem yq{kvs:List (Key×V)}(ok:qO P w H h)(e:Rd H a (.dK kvs)):kvs.length<=sizeLine/\(a==sysModules)=false/\∃vs,KV kvs vs/\h.DictOf (fT P w) a vs:=
 show jo P w H h a (.dK kvs) from OH ok e
theorem LH{kvs:List (Key×V)}(ok:qO P w H h)(e:H a=some (.dK kvs)):kvs.length<=sizeLine/\(a==sysModules)=false/\∃vs,KV kvs vs/\h.DictOf (fT P w) a vs:=yq ok (.inl e)
theorem xZ{ks:List Key}(ok:qO P w H h)(e:H a=some (.tup (ks.map kV))):(tupleKind (fT P w)).is h ks a:=by
 obtain ⟨_,dN,r,o,h1,h2,n,h3⟩:=(show jo P w H h a (.tup (ks.map kV)) from ok a _ e)
 exact ⟨o,dN.toArray,n,h1,h2,h3,by simpa using zF r⟩
theorem zP{kvs:List (List Key×V)}(ok:qO P w H h)(e:Rd H a (.dT kvs)):kvs.length<=sizeLine/\(a==sysModules)=false/\
  ∃xs,KT H kvs xs/\h.DictOfH (tupleKind (fT P w)) a xs:=by
 obtain ⟨z,y,xs,r,o,es,ep,h1,h2,h3,h4,h5⟩:=(show jo P w H h a (.dT kvs) from OH ok e)
 refine ⟨z,y,xs,r,o,es,ep,h1,h2,h3,h4,λx hx=>?_,h5⟩
 have all:∀{l:List (List Key×V)} {m:List (List Key×Addr×Value)},KT H l m->∀x∈m,(tupleKind (fT P w)).is h x.1 x.2.1:=by
  intro l m q
  induction q with
  |nil=>intro x hx;exact nomatch hx
  | @cons p q ps qs hq t ih=>
   intro x hx;rcases aP.mp hx with e|hx
   ·subst e;exact xZ ok (by rw[<-hq.1];exact hq.2.1)
   ·exact ih x hx
 exact all r x hx
theorem Vx{kvs:List (List Key×V)}(ok:qO P w H h)(e:H a=some (.dT kvs)):kvs.length<=sizeLine/\(a==sysModules)=false/\
  ∃xs,KT H kvs xs/\h.DictOfH (tupleKind (fT P w)) a xs:=zP ok (.inl e)
end
def mL(H:Hp)(a:Addr)(y:V)(r:Option V):Prop:=
 (∃kvs k,Rd H a (.dK kvs)/\y=kV k/\r=nQ kvs k)\/∃kvs k b,Rd H a (.dT kvs)/\y=.ref b/\H b=some (.tup (k.map kV))/\r=nQ kvs k
def vv(H:Hp)(a:Addr)(y v:V)(H':Hp):Prop:=
 (∃kvs k,H a=some (.dK kvs)/\y=kV k/\kvs.length<sizeLine/\H'=upd H a (.dK (putK kvs k v)))\/
 ∃kvs k b,H a=some (.dT kvs)/\y=.ref b/\H b=some (.tup (k.map kV))/\kvs.length<sizeLine/\H'=upd H a (.dT (putK kvs k v))
theorem mL.k{H:Hp}{a:Addr}{kvs:List (Key×V)}{k:Key}(e:H a=some (.dK kvs)):mL H a (kV k) (nQ kvs k):=.inl ⟨kvs,k,.inl e,rfl,rfl⟩
theorem vv.k{H:Hp}{a:Addr}{kvs:List (Key×V)}{k:Key}{v:V}(e:H a=some (.dK kvs))(hl:kvs.length<sizeLine):vv H a (kV k) v (upd H a (.dK (putK kvs k v))):=.inl ⟨kvs,k,e,rfl,hl,rfl⟩
section
variable{X:Cx}{pins:List (Addr×Obj)}{σ:St}{H:Hp}{s:Shared}{a:Addr}{y v:V}{u r:Value}{o:Option V}{A:Around}{E:Value->Shared->Prop}
theorem Inv.big(I:Inv X pins σ H s):sysModules<s.heap.objs.size:=by
 have h:mainGlobals<s.heap.objs.size:=(I.mod.glob.keeps I.bk).lt;exact Nat.lt_trans (by decide) h
theorem Ij{Q:Value->Shared->Prop}(hu:A.units+1<cLine)(I:Inv X pins σ H s)(g:mL H a y (some v))(ry:RelV y u)(h:∀w' s',Inv X pins σ H s'->RelV v w'->Q w' s'):
  wpAny (model X.prog X.w) A (getItem (.ref a) u) Q E s:=by
 rcases g with ⟨kvs,k,e,ey,l⟩|⟨kvs,k,b,e,ey,eb,l⟩
 ·subst ey;obtain ⟨z,hd,vs,rel,dd⟩:=yq I.cI e;obtain ⟨w',hw,Hl⟩:=lX.some_of (v:=v) (o:=valueAt vs k) (by rw[l];exact rel.val k);exact wpAny_getItem_of (x6 ry) dd.mapOf hw (h w' _ (I.tok _) Hl)
 ·subst ey;cases (show u=Value.ref b from ry);obtain ⟨z,hd,xs,rel,dd⟩:=zP I.cI e;obtain ⟨w',hw,Hl⟩:=lX.some_of (v:=v) (o:=(atKey xs k).map (·.2)) (by rw[l];exact rel.val k);obtain ⟨p,hp,yE⟩:=Bl.mp hw;refine wpAny_getItem_heap (tupleKind_room_in1 hu) (xZ I.cI eb) dd hp ?_;rw[yE];exact h w' _ (I.tok _) Hl
theorem Z2{Q:Value->Shared->Prop}(hu:A.units+1<cLine)(I:Inv X pins σ H s)(g:mL H a y o)(ry:RelV y u)(h:∀s',Inv X pins σ H s'->Q (.bool o.isSome) s'):
  wpAny (model X.prog X.w) A (compareOp .In u (.ref a)) Q E s:=by
 rcases g with ⟨kvs,k,e,ey,l⟩|⟨kvs,k,b,e,ey,eb,l⟩
 ·subst ey;obtain ⟨z,hd,vs,rel,dd⟩:=yq I.cI e;refine wpAny_in_of (x6 ry) hd dd.mapOf ?_;rw[<-(rel.val k).nN,<-l];exact h _ (I.tok _)
 ·subst ey;cases (show u=Value.ref b from ry);obtain ⟨z,hd,xs,rel,dd⟩:=zP I.cI e;refine wpAny_in_heap (tupleKind_room_in1 hu) (xZ I.cI eb) hd dd ?_;have q:=(rel.val k).nN;rw[uM] at q;rw[<-q,<-l];exact h _ (I.tok _)
theorem Oi{Q:Value->Shared->Prop}(hu:A.units+1<cLine)(I:Inv X pins σ H s)(g:mL H a y o)(ry:RelV y u)(h:∀s',Inv X pins σ H s'->Q (.bool (!o.isSome)) s'):
  wpAny (model X.prog X.w) A (compareOp .NotIn u (.ref a)) Q E s:=by
 rcases g with ⟨kvs,k,e,ey,l⟩|⟨kvs,k,b,e,ey,eb,l⟩
 ·subst ey;obtain ⟨z,hd,vs,rel,dd⟩:=yq I.cI e;refine wpAny_notIn_of (x6 ry) hd dd.mapOf ?_;rw[<-(rel.val k).nN,<-l];exact h _ (I.tok _)
 ·subst ey;cases (show u=Value.ref b from ry);obtain ⟨z,hd,xs,rel,dd⟩:=zP I.cI e;refine wpAny_notIn_heap (tupleKind_room_in1 hu) (xZ I.cI eb) hd dd ?_;have q:=(rel.val k).nN;rw[uM] at q;rw[<-q,<-l];exact h _ (I.tok _)
theorem wZ{h':Heap}{t':Nat}{ob:HO}(I:Inv X pins σ H s)(mu:Ot (H a))(hs:Heap.SameBut a s.heap h')(he:∃q,h'.get? a=some q)(new:jo X.prog X.w (upd H a ob) h' a ob):
  Inv X pins σ (upd H a ob) {s with heap:=h',toks:=t'}:=
 I.write (x:=a) (e:=a) mu (.inl rfl) (λb q hb z=>(hs.2 b hb).trans z) he new
theorem Eo{P:Program}{w:World}{H':Hp}{h':Heap}{kvs:List (Key×V)}{vs:List (Key×Value)}(z:kvs.length<=sizeLine)(hd:(a==sysModules)=false)(rel:KV kvs vs)(dd:h'.DictOf (fT P w) a vs):
  jo P w H' h' a (.dK kvs):=⟨z,hd,vs,rel,dd⟩
theorem Ii{H':Hp}{Q:Unit->Shared->Prop}(hu:A.units+1<cLine)(I:Inv X pins σ H s)(g:vv H a y v H')(ry:RelV y u)(rv:RelV v r)(h:∀s',Inv X pins σ H' s'->Q () s'):
  wpAny (model X.prog X.w) A (setItem (.ref a) u r) Q E s:=by
 rcases g with ⟨kvs,k,e,ey,l,eH⟩|⟨kvs,k,b,e,ey,eb,l,eH⟩
 ·subst ey eH;obtain ⟨z,hd,vs,rel,dd⟩:=LH I.cI e;have hz:vs.length<=sizeLine:=by rw[<-rel.length];exact z
  have hl:(putK kvs k v).length<=sizeLine:=by have:=vJ kvs k v;omega
  refine wpAny_setItem_pairs (hsz:=hz) (x6 ry) dd λh' Gm hs=>h _ ?_;have he:∃q,h'.get? a=some q:=let ⟨q,_,_,hq,_⟩:=Gm;⟨q,hq⟩;exact wZ I (by rw[e];exact mQ) hs he (Eo hl hd (rel.put k rv) Gm)
 ·subst ey eH;cases (show u=Value.ref b from ry);obtain ⟨z,hd,xs,rel,dd⟩:=Vx I.cI e;have hz:xs.length<=sizeLine:=by rw[<-Paired.length rel];exact z
  have hl:(putK kvs k v).length<=sizeLine:=by have:=vJ kvs k v;omega
  refine wpAny_setItem_heap (hsz:=hz) (tupleKind_room_in1 hu) (xZ I.cI eb) dd λh' Gm hs=>h _ ?_;obtain ⟨q,es,ep,hq,h2,h3,h4,_,h5⟩:=Gm;refine wZ I (by rw[e];exact mQ) hs ⟨q,hq⟩ ⟨hl,hd,_,(rel.put k eb rv).keeps λc ys ec=>?_,q,es,ep,hq,h2,h3,h4,h5⟩;rw[az (mh ec e (λz=>nomatch z))];exact ec
end
section
variable{X:Cx}{pins:List (Addr×Obj)}{σ:St}{H:Hp}{s:Shared}{a:Addr}{kvs:List (Key×V)}{k:Key}{u:Value}{A:Around}{E:Value->Shared->Prop}
theorem Sq{Q:Unit->Shared->Prop}(I:Inv X pins σ H s)(e:H a=some (.dK kvs))(ry:RelV (kV k) u)(l:(nQ kvs k).isSome=true)(h:∀s',Inv X pins σ (upd H a (.dK (mq kvs k))) s'->Q () s'):
  wpAny (model X.prog X.w) A (delItem (.ref a) u) Q E s:=by
 obtain ⟨z,hd,vs,rel,dd⟩:=LH I.cI e
 refine wpAny_delItem_slot dd.typeIs (by decide) yF
  (call_meetsIn yF dd.typeIs PySem.F.entry_dict_delitem (PySem.F.args_dict_delitem_2 _ _) (meets_dict_delitem_pairs (fT X.prog X.w) a (x6 ry)) ⟨vs,dd,by rw[<-rel.length];exact z,by rw[<-(rel.val k).nN];exact l,λh' Gm hs=>h _ ?_⟩)
 have he:∃q,h'.get? a=some q:=let ⟨q,_,_,hq,_⟩:=Gm;⟨q,hq⟩;exact wZ I (by rw[e];exact mQ) hs he (Eo (cE (Cu kvs k) z) hd (rel.drop k) Gm)
theorem Vy{v:V}{more:List Value}{Q:Value->Shared->Prop}(I:Inv X pins σ H s)(e:H a=some (.dK kvs))(ry:RelV (kV k) u)(l:nQ kvs k=some v)(hm:more=[]\/∃x,more=[x])
  (h:∀w' s',Inv X pins σ (upd H a (.dK (mq kvs k))) s'->RelV v w'->Q w' s'):wpAny (model X.prog X.w) A (call (.builtin "dict.pop") (.ref a::u::more)) Q E s:=by
 obtain ⟨z,hd,vs,rel,dd⟩:=LH I.cI e;obtain ⟨w',hw,Hl⟩:=lX.some_of (v:=v) (o:=valueAt vs k) (by rw[<-l];exact rel.val k)
 have hp:(keyPart u).isSome=true:=by
  cases k with
  |inl i=>obtain ⟨t,q⟩:=(show ∃t,u=Value.int i t from ry);subst q;rfl
  |inr x=>obtain ⟨t,q⟩:=(show ∃t,u=Value.str x t from ry);subst q;rfl
 have ha:argsOk "dict.pop" ⟨.ref a::u::more,[]⟩:=by
  rcases hm with q|⟨x,q⟩
  ·subst q;exact PySem.F.args_dict_pop_2 _ _
  ·subst q;exact PySem.F.args_dict_pop_3 _ _ _
 refine call_meetsIn Bh dd.typeIs PySem.F.entry_dict_pop ha (meets_dict_pop_there (fT X.prog X.w) a (x6 ry) more hm hp)
  ⟨vs,w',dd,by rw[<-rel.length];exact z,hw,λh' Gm hs=>h w' _ ?_ Hl⟩
 have he:∃q,h'.get? a=some q:=let ⟨q,_,_,hq,_⟩:=Gm;⟨q,hq⟩;exact wZ I (by rw[e];exact mQ) hs he (Eo (cE (Cu kvs k) z) hd (rel.drop k) Gm)
theorem Vz{Q:Value->Shared->Prop}(I:Inv X pins σ H s)(e:Rd H a (.dK kvs))(h:∀t s',Inv X pins σ H s'->Q (.int kvs.length t) s'):wpAny (model X.prog X.w) A (call (.builtin "len") [.ref a]) Q E s:=by
 obtain ⟨z,hd,vs,rel,dd⟩:=yq I.cI e;refine call_len_dict hd dd (by rw[<-rel.length];rw[sizeLine_eq] at z;omega) ?_;rw[<-rel.length];exact h _ _ (I.tok _)
end
def VM(i:Expr):Prop:=∀ov iv,subscripted i false ov iv=operate [ov,iv] (getItem ov iv)
theorem Mz{prog:Program}{w:World}{A:Around}{E:Value->Shared->Prop}{s:Shared}{env:Env}{value slice:Expr}{pos:Pos}{T id:String}{Q:Value->Shared->Prop}
  (hl:typeLookup (.type T) "__getitem__"=pure (some (.builtin id))) (hs:VM slice)
  (h:wpAny (model prog w) A (eval value env) (λo s₁=>wpAny (model prog w) A (eval slice env) (λi s₂=>s₂.TypeIs o T/\wpAny (model prog w) A (getItem o i) Q E s₂) E s₁) E s):
  wpAny (model prog w) A (eval (.Subscript value slice pos) env) Q E s:=by
 refine Subscript_ (wpAny_mono h (λo s₁ h₁=>wpAny_mono h₁ (λi s₂ h₂=>?_) λ_ _ x=>x) λ_ _ x=>x);obtain ⟨hT,h₂⟩:=h₂;unfold subscriptTail;refine wpAny_bind ?_;rw[getitemInPython_of_ne hT.not_modules];refine wpAny_bind (wpAny_specialOf hT hl ?_)
 have fin:wpAny (model prog w) A (subscripted slice false o i) (λr s₃=>wpAny (model prog w) A (letTemporaryGo value o r>>=λ_=>pure r) Q E s₃) E s₂:=by
  rw[hs o i];exact wpAny_operating (wpAny_mono h₂ (λr s₃ h₃=>wpAny_bind (wpAny_letTemporaryGo (wpAny_pure h₃))) λ_ _ x=>x)
 first
  |exact wpAny_pure (wpAny_bind fin)
  |exact wpAny_bind (wpAny_pure (wpAny_bind fin))
  |exact wpAny_bind fin
theorem Cv{X:Cx}{pins:List (Addr×Obj)}{σ:St}{H:Hp}{s:Shared}{a:Addr}{y:V}{o:Option V}(I:Inv X pins σ H s)(g:mL H a y o):s.TypeIs (.ref a) "dict":=by
 rcases g with ⟨kvs,k,e,_,_⟩|⟨kvs,k,b,e,_,_,_⟩
 ·obtain ⟨_,_,vs,_,dd⟩:=yq I.cI e;exact dd.typeIs
 ·obtain ⟨_,_,xs,_,dd⟩:=zP I.cI e;exact dd.typeIs
def SN(td ty:TE):TE:=λσ H Q=>td σ H λx H1=>ty σ H1 λy H2=>∃a v,x=.ref a/\mL H2 a y (some v)/\Q v H2
def WY(ty td:TE):TE:=λσ H Q=>ty σ H λy H1=>td σ H1 λx H2=>∃a o,x=.ref a/\mL H2 a y o/\Q (.bl o.isSome) H2
def E3(ty td:TE):TE:=λσ H Q=>ty σ H λy H1=>td σ H1 λx H2=>∃a o,x=.ref a/\mL H2 a y o/\Q (.bl (!o.isSome)) H2
def TM(td ty tv:TE):TS:=λD σ H=>tv σ H λv H1=>td σ H1 λx H2=>ty σ H2 λy H3=>∃a H4,x=.ref a/\vv H3 a y v H4/\D.nx σ H4
section
variable{X:Cx}{o i e value:Expr}{pos pos' Dt:Pos}{td ty tv:TE}
theorem ig(hu:X.A.units+1<cLine)(ho:PE X o td)(hi:PE X i ty)(hs:VM i):PE X (.Subscript o i pos) (SN td ty):=by
 intro pins s σ H Q I h;refine Mz PySem.F.slot_dict_getitem.lookup hs (iM (ho pins s σ H _ I h) λu s1 ⟨x,H1,I1,rx,q1⟩=>iM (hi pins s1 σ H1 _ I1 q1) λiv s2 ⟨y,H2,I2,ry,a,v,ex,g,q2⟩=>?_);subst ex;obtain rfl:u=Value.ref a:=rx;exact ⟨Cv I2 g,Ij hu I2 g ry λw' s3 I3 Hl=>⟨v,H2,I3,Hl,q2⟩⟩
theorem Qn(hu:X.A.units+1<cLine)(hi:PE X i ty)(ho:PE X o td):PC X .In i o (WY ty td):=by
 intro pins s σ H Q I h;refine iM (hi pins s σ H _ I h) λiv s1 ⟨y,H1,I1,ry,q1⟩=>iM (ho pins s1 σ H1 _ I1 q1) λu s2 ⟨x,H2,I2,rx,a,ov,ex,g,q2⟩=>?_;subst ex;obtain rfl:u=Value.ref a:=rx;exact Z2 hu I2 g ry λs3 I3=>⟨.bl ov.isSome,H2,I3,rfl,q2⟩
theorem zo(hu:X.A.units+1<cLine)(hi:PE X i ty)(ho:PE X o td):PC X .NotIn i o (E3 ty td):=by
 intro pins s σ H Q I h;refine iM (hi pins s σ H _ I h) λiv s1 ⟨y,H1,I1,ry,q1⟩=>iM (ho pins s1 σ H1 _ I1 q1) λu s2 ⟨x,H2,I2,rx,a,ov,ex,g,q2⟩=>?_;subst ex;obtain rfl:u=Value.ref a:=rx;exact Oi hu I2 g ry λs3 I3=>⟨.bl (!ov.isSome),H2,I3,rfl,q2⟩
theorem nA(hu:X.A.units+1<cLine)(ho:PE X o td)(hi:PE X i ty)(hv:PE X value tv)(hs:swapsWith value (some (.Subscript o i pos')) pos.line X.env=pure false):
  PS X (.Assign [.Subscript o i pos'] value pos) (TM td ty tv):=by
 intro pins s σ H D I h;refine wpAny_Assign_Subscript (iM (hv pins s σ H _ I h) λr s1 ⟨v,H1,I1,rv,q1⟩=>iM (ho pins s1 σ H1 _ I1 q1) λu s2 ⟨x,H2,I2,rx,q2⟩=>iM (hi pins s2 σ H2 _ I2 q2) λiv s3 ⟨y,H3,I3,ry,a,H4,ex,g,q3⟩=>?_) hs;subst ex;obtain rfl:u=Value.ref a:=rx;exact Ii hu I3 g ry rv λs4 I4=>⟨σ,H4,I4,q3⟩
end
theorem LI{P:Program}{w:World}{H:Hp}(h:Heap)(hb:sysModules<h.objs.size):jo P w H (h.push {cls:=.type "dict",data:=.dict #[]}) h.objs.size (.dK []):=
 ⟨bH _,beq_eq_false_iff_ne.mpr (nJ (eF hb)),[],.nil,Heap.DictOf.new h⟩
def Pg:TE:=λ_ H Q=>∀p,H p=none->Q (.ref p) (upd H p (.dK []))
section
variable{X:Cx}{pos:Pos}
theorem pI:PE X (.Dict [] [] pos) Pg:=λpins s σ H Q I h=>
 wpAny_Dict_empty ⟨.ref s.heap.objs.size,_,I.laid (a:=s.heap.objs.size) (o:=.dK []) (t':=s.toks) (λ_ _ q=>Heap.get?_push_of_some _ q) (aL _) (LI s.heap I.big),rfl,h _ (I.cI.fresh (aL _))⟩
end
structure M1(X:Cx)(o:Expr)(m:Str)(apos:Pos)(e:Expr)(l9:Pos):Prop where
 base:attributeBase o m X.env (eval o X.env)=eval o X.env
 few:((backTo l9 (starEach [e] X.env)).all (λx=> !x.1)&&(backToKw l9 (keywordEach [] X.env)).all (λx=>x.1.isSome)
  &&decide (([e]:List Expr).length+([]:List Keyword).length+(if ([]:List Keyword).isEmpty then 0 else 1)<30))=true
 line:(apos.endLine==l9.line)=true
 trees:backTo l9 (starEach [e] X.env)=[(false,eval e X.env)]
def IsD(H:Hp)(a:Addr):Prop:=(∃kvs,Rd H a (.dK kvs))\/∃kvs,Rd H a (.dT kvs)
theorem QH{X:Cx}{pins:List (Addr×Obj)}{σ:St}{H:Hp}{s:Shared}{a:Addr}(I:Inv X pins σ H s)(d:IsD H a):
  s.TypeIs (.ref a) "dict"/\(∀b,Value.ref a=.ref b->∃ob,s.heap.get? b=some ob/\ob.dict=none)/\(a==sysModules)=false:=by
 rcases d with ⟨kvs,e⟩|⟨kvs,e⟩
 ·obtain ⟨_,hd,vs,_,dd⟩:=yq I.cI e;refine ⟨dd.typeIs,λb q=>?_,hd⟩;cases q;obtain ⟨ob,_,_,h1,h2,_⟩:=dd;exact ⟨ob,h1,h2.2.1⟩
 ·obtain ⟨_,hd,xs,_,dd⟩:=zP I.cI e;refine ⟨dd.typeIs,λb q=>?_,hd⟩;cases q;obtain ⟨ob,_,_,h1,h2,_⟩:=dd;exact ⟨ob,h1,h2.2.1⟩
def Pf(td ty:TE):TE:=λσ H Q=>td σ H λx H1=>∃a,x=.ref a/\IsD H1 a/\ty σ H1 λy H2=>∃kvs k v,H2 a=some (.dK kvs)/\y=kV k/\nQ kvs k=some v/\Q v (upd H2 a (.dK (mq kvs k)))
section
variable{X:Cx}{o e f:Expr}{apos l9:Pos}{td ty tx:TE}
theorem xO(ho:PE X o td)(he:PE X e ty)(m:M1 X o "pop" apos e l9):PE X (.Call (.Attribute o "pop" apos) [e] [] l9) (Pf td ty):=by
 intro pins s σ H Q I h;refine wpAny_Call_method m.base m.few m.line PySem.F.plainAttrs_dict Bh PySem.F.type_dict_pop (iM (ho pins s σ H _ I h) λu s1 ⟨x,H1,I1,rx,a,ex,d,q1⟩=>?_);subst ex;obtain rfl:u=Value.ref a:=rx;obtain ⟨t1,t2,_⟩:=QH I1 d;refine ⟨t1,t2,?_⟩;rw[m.trees];refine Calls.callWith_builtin rfl (Calls.evalArgs_plain (Calls.spliced_cons (iM (he pins s1 σ H1 _ I1 q1) λiv s2 ⟨y,H2,I2,ry,kvs,k,v,ea,ey,l,q2⟩=>Calls.spliced_nil ?_)));subst ey;exact Vy I2 ea ry l (.inl rfl) λw' s3 I3 Hl=>⟨v,_,I3,Hl,q2⟩
end
end L2
namespace L2
open PySem PySem.Spec PyProof.Rows
section
variable{X:Cx}
theorem Fe:∀{ps:List Addr} {us:List Value},Vals (ps.map V.ref) us->us=ps.map Value.ref
 |[],us,r=>by
  rw[jd] at r;cases r;rfl
 |p::ps,us,r=>by
  rw[aI] at r;cases r with
  |cons h t=>
   cases h;rw[aI,<-Fe t]
end
end L2
namespace L2
open PySem PySem.Spec PyProof.Rows
section
variable{X:Cx}{pins:List (Addr×Obj)}{σ:St}{H:Hp}{s:Shared}{h':Heap}
theorem Inv.GP{t':Nat}{ch:List Addr}{T:Addr}{ob:HO}(I:Inv X pins σ H s)(k:∀b o,b∉ch->s.heap.get? b=some o->h'.get? b=some o)(hf:∀b∈ch,yx X pins H b)(hT:s.heap.objs.size<=T)
  (new:jo X.prog X.w (upd H T ob) h' T ob):Inv X pins σ (upd H T ob) {s with heap:=h',toks:=t'}:=by
 have hn:H T=none:=I.cI.fresh hT
 have Ug:∀b u,H b=some u->b∉ch:=λb u e z=>by
  have q:=(hf b z).1;rw[q] at e;cases e
 refine I.step (g':=s.gens) (d':=s.drawn) (ch:=ch) (λb hb=>⟨(hf b hb).2.2.2.1,(hf b hb).2.1,(hf b hb).2.2.2.2.1,(hf b hb).2.2.2.2.2⟩) (λb o _ _ hc e _=>k b o hc e) (λb o _ _ hc e _=>⟨o.slots,k b o hc e⟩)
  (λb o _ e n=>?_) (λb o hc e=>⟨o,k b o hc e⟩) (λb xs e=>?_) (λb o u e=>?_) (λb ps e=>⟨#[],?_⟩) (λm hm=>?_) (λb u e=>?_) I.bare
 ·rw[az (eF (cz (Heap.lt_size e) hT))];exact n
 ·rw[az (aQ e hn)];exact e
 ·rw[az (aQ e hn)];exact e
 ·rw[az (aQ e hn),e];simp
 ·obtain ⟨o,es,ep,ho,r⟩:=hm;exact ⟨o,es,ep,k _ o (λz=>(hf _ z).2.1 rfl) ho,r⟩
 ·by_cases hb:b=T
  ·subst hb;rw[ak] at e;cases e;exact new
  ·rw[az hb] at e;refine (I.cI b u e).qX (λc v hc q=>k c v ?_ q) (λc q=>by rw[az (aQ q hn)];exact q) λc xs q=>by rw[az (aQ q hn)];exact q
   rcases hc with z|z
   ·rw[z];exact Ug b u e
   ·exact Ug c _ z
theorem Inv.lock{d:Addr}{u:HO}(I:Inv X pins σ H s)(h:H d=some u)(mu:Ot (some u)):∃od,Inv X pins σ (upd H d (.nG od u)) s:=by
 have x:=I.cI d u h
 have ex:∃od,s.heap.get? d=some od:=by
  cases u with
  |lst xs=>obtain ⟨_,_,_,_,e⟩:=x;exact ⟨_,e⟩
  |dK kvs=>obtain ⟨_,_,_,_,o,_,_,e,_⟩:=x;exact ⟨o,e⟩
  |dT kvs=>obtain ⟨_,_,_,_,o,_,_,e,_⟩:=x;exact ⟨o,e⟩
  |set S n=>obtain ⟨o,_,_,_,e,_⟩:=x;exact ⟨o,e⟩
  |ins C dx fs=>obtain ⟨_,_,_,e,_⟩:=x;exact ⟨_,e⟩
  |ext φ=>obtain ⟨_,⟨_,e⟩,_⟩:=x;exact ⟨_,e⟩
  |_=>exact gF mu
 obtain ⟨od,e⟩:=ex
 have new:jo X.prog X.w (upd H d (.nG od u)) s.heap d (.nG od u):=by
  refine ⟨e,x.qX (λb v _ q=>q) (λb q=>?_) λb xs q=>?_⟩
  ·rw[az (λz=>by rw[z,h] at q;cases q;exact mu)];exact q
  ·rw[az (λz=>by rw[z,h] at q;cases q;exact mu)];exact q
 exact ⟨od,I.write (x:=d) (e:=d) (t':=s.toks) (h':=s.heap) (by rw[h];exact mu) (.inl rfl) (λb v _ q=>q) ⟨od,e⟩ new⟩
theorem Inv.B5{d:Addr}{u:HO}(I:Inv X pins σ H s)(h:H d=some u)(mu:Ot (some u)):∀o' u',X.IY d≠some (.nG o' u'):=λo' u' e=>by
 have q:=I.base.wk d o' u' e;rw[h] at q;cases q;exact mu
theorem Inv.unlock{d:Addr}{od:Obj}{u:HO}(I:Inv X pins σ H s)(h:H d=some (.nG od u))(hn:∀o' u',X.IY d≠some (.nG o' u')):Inv X pins σ (upd H d u) s:=by
 have R6:∀b o,H b=some o->(∀o' u',o≠.nG o' u')->b≠d:=λb o e iG z=>by
  rw[z,h] at e;cases e;exact iG _ _ rfl
 have neN:∀b,H b=none->b≠d:=λb e z=>by rw[z,h] at e;cases e
 refine ⟨I.ok,I.os,I.bare,⟨I.base.keep,I.base.slot,λb o e n hx=>?_,I.base.there,λb xs e=>?_,λb o x e=>?_,λb ps e=>?_⟩,I.loc,I.cell,?_,λx c e=>?_,λp hp=>?_,λb o e=>?_,I.len⟩
 ·rw[az (neN b (I.base.free b o e n hx))];exact I.base.free b o e n hx
 ·have q:=I.base.yN b xs e;rw[az (R6 b _ q (λ_ _ z=>nomatch z))];exact q
 ·have q:=I.base.wk b o x e;rw[az (λz=>by rw[z] at e;exact hn _ _ e)];exact q
 ·obtain ⟨m,q⟩:=I.base.yP b ps e;exact ⟨m,by rw[az (R6 b _ q (λ_ _ z=>nomatch z))];exact q⟩
 ·rw[az (neN _ I.free)];exact I.free
 ·rw[az (neN c (I.mj x c e))];exact I.mj x c e
 ·obtain ⟨e,n,r⟩:=I.pin p hp;exact ⟨e,by rw[az (neN _ n)];exact n,r⟩
 ·by_cases hb:b=d
  ·rw[hb,ak] at e;cases e;rw[hb];obtain ⟨_,x⟩:=I.cI d _ h;exact x.qX (λc v _ q=>q) (λc q=>by rw[az (R6 c _ q (λ_ _ z=>nomatch z))];exact q) λc xs q=>by rw[az (R6 c _ q (λ_ _ z=>nomatch z))];exact q
  ·rw[az hb] at e;exact (I.cI b o e).qX (λc v _ q=>q) (λc q=>by rw[az (R6 c _ q (λ_ _ z=>nomatch z))];exact q) λc xs q=>by rw[az (R6 c _ q (λ_ _ z=>nomatch z))];exact q
end
def SK(t:TS):TS:=λD σ H=>∃d u,H d=some u/\Ot (some u)/\∀od,t ⟨λσ' H'=>H' d=some (.nG od u)/\D.nx σ' (upd H' d u),λv H'=>H' d=some (.nG od u)/\D.rt v (upd H' d u),λσ' H'=>H' d=some (.nG od u)/\D.bk σ' (upd H' d u),λσ' H'=>H' d=some (.nG od u)/\D.ct σ' (upd H' d u)⟩ σ (upd H d (.nG od u))
def Pd(t:TE):TE:=λσ H Q=>∃d u,H d=some u/\Ot (some u)/\∀od,t σ (upd H d (.nG od u)) λv H'=>H' d=some (.nG od u)/\Q v (upd H' d u)
section
variable{X:Cx}
theorem ue{st:Stmt}{t:TS}(h:PS X st t):PS X st (SK t):=by
 intro pins s σ H D I hw;obtain ⟨d,u,hd,mu,hw⟩:=hw;obtain ⟨od,I1⟩:=I.lock hd mu;refine iM (h pins s σ _ _ I1 (hw od)) λf s1 q=>?_;cases f with
 |next=>obtain ⟨σ',H',I2,e,q⟩:=q;exact ⟨σ',_,I2.unlock e (I.B5 hd mu),q⟩
 |brk=>obtain ⟨σ',H',I2,e,q⟩:=q;exact ⟨σ',_,I2.unlock e (I.B5 hd mu),q⟩
 |cont=>obtain ⟨σ',H',I2,e,q⟩:=q;exact ⟨σ',_,I2.unlock e (I.B5 hd mu),q⟩
 |ret v=>obtain ⟨x,σ',H',I2,r,e,q⟩:=q;exact ⟨x,σ',_,I2.unlock e (I.B5 hd mu),r,q⟩
theorem Fq{e:Expr}{t:TE}(h:PE X e t):PE X e (Pd t):=by
 intro pins s σ H Q I hw;obtain ⟨d,u,hd,mu,hw⟩:=hw;obtain ⟨od,I1⟩:=I.lock hd mu;refine iM (h pins s σ _ _ I1 (hw od)) λv s1 ⟨x,H1,I2,r,e2,q⟩=>?_;exact ⟨x,_,I2.unlock e2 (I.B5 hd mu),r,q⟩
theorem J9{tg:Expr}{pins:List (Addr×Obj)}{σ:St}{H:Hp}{s:Shared}{R:It->Hp->Prop}{J:It}{tn:Nat->Heap->Prop}{tk:Nat}(I:Inv X pins σ H s)(o:Obj)
  (T:Turn X.prog X.w X.K tg J [s.heap.objs.size] s.heap.objs.size tn) (st:tn 0 (s.heap.push o)) (q:R J H):VL X pins σ tg R (.ref s.heap.objs.size) {s with heap:=s.heap.push o,toks:=tk}:=by
 refine ⟨s.heap.objs.size,[s.heap.objs.size],tn,J,H,rfl,I.kept λb ob e=>Heap.get?_push_of_some _ e,T,st,λb hb=>?_,q⟩;have e:b=s.heap.objs.size:=by simpa using hb
 subst e;exact I.LB (aL _) (I.cI.fresh (aL _))
end
theorem D7{κ:Type}{kvs:List (κ×V)}{vs:List (κ×Value)}(h:KV kvs vs):∀{i:Nat} {k:κ} {v:V},kvs[i]?=some (k,v)->∃u,vs[i]?=some (k,u)/\RelV v u:=by
 unfold KV at h
 induction h with
 |nil=>intro i k v e;simp at e
 | @cons a b l₁ l₂ r t ih=>
  intro i k v e;cases i with
  |zero=>
   simp only[qR,Bk] at e;subst e;refine ⟨b.2,?_,r.2⟩;simp only[qR];exact congrArg some (qP r.1.symm rfl)
  |succ j=>
   simp only[CO] at e⊢;exact ih e
theorem tM{α β:Type}{G:α->β->Prop}{l₁:List α}{l₂:List β}(h:Paired G l₁ l₂):∀{i:Nat} {a:α},l₁[i]?=some a->∃b,l₂[i]?=some b/\G a b:=by
 induction h with
 |nil=>intro i a e;simp at e
 | @cons a b l₁ l₂ r t ih=>
  intro i a' e;cases i with
  |zero=>
   simp only[qR,Bk] at e;subst e;exact ⟨b,rfl,r⟩
  |succ j=>
   simp only[CO] at e⊢;exact ih e
theorem BG{k:Key}{u:Value}(h:vL k u=true):RelV (kV k) u:=by
 rcases iu h with ⟨i,t,rfl,rfl⟩|⟨x,t,rfl,rfl⟩
 ·exact ⟨t,rfl⟩
 ·exact ⟨t,rfl⟩
section
variable{X:Cx}{pins:List (Addr×Obj)}{σ:St}{H:Hp}{s:Shared}{d:Addr}{o:Obj}
theorem Inv.Ie{kvs:List (Key×V)}(I:Inv X pins σ H s)(h:H d=some (.nG o (.dK kvs))):
  (d==sysModules)=false/\s.heap.get? d=some o/\o.ExactDict/\∃(es:Array DictEntry) (ep:Nat) (vs:List (Key×Value)),o.data=.dict es ep/\es.size=kvs.length/\KV kvs vs/\s.heap.DictAt (fT X.prog X.w) d vs ep:=by
 obtain ⟨hd,z,hs,vs,kv,o',es,ep,ho,hx,Bg,r⟩:=I.cI d _ h;rw[hd] at ho;cases ho;refine ⟨hs,hd,hx,es,ep,vs,Bg,?_,kv,o,es,hd,hx,Bg,r⟩;have l1:=r.2.1.length;have l2:kvs.length=vs.length:=Paired.length kv;rw[jk] at l1;omega
end
def VO(d:Addr)(o:Obj)(kvs:List (Key×V)):It:=
 ⟨λi H=>H d=some (.nG o (.dK kvs))/\i<kvs.length,λi H x H'=>H'=H/\∃k,kvs[i]?=some (k,x),λi H=>H d=some (.nG o (.dK kvs))/\kvs.length<=i⟩
def L6(d:Addr)(o:Obj)(kvs:List (Key×V)):It:=
 ⟨λi H=>H d=some (.nG o (.dK kvs))/\i<kvs.length,λi H x H'=>∃T k v,kvs[i]?=some (k,v)/\x=.ref T/\H T=none/\H'=upd H T (.tup [kV k,v]),λi H=>H d=some (.nG o (.dK kvs))/\kvs.length<=i⟩
theorem wY{o:Obj}{es Mq:Array DictEntry}{ep Mr:Nat}(h:o.data=.dict es ep)(h':o.data=.dict Mq Mr):Mq=es/\Mr=ep:=by
 rw[h] at h';cases h';exact ⟨rfl,rfl⟩
section
variable{P:Program}{w:World}{K:au}{tg:Expr}{d:Addr}{o:Obj}{es:Array DictEntry}{ep:Nat}
theorem GQ{kvs:List (Key×V)}(it:Addr)(UQ:o.data=.dict es ep):Turn P w K tg (VO d o kvs) [it] it (λi h=>h.IsValIter it d i kvs.length ep) where
 mem:=by simp
 obj:=λi h st b hb=>by
  have e:b=it:=by simpa using hb
  subst e;obtain ⟨oi,e,c,dd⟩:=st;exact ⟨oi,e,λv z=>by rw[dd] at z;cases z⟩
 keep:=λi h h' st k=>st.at λoi e=>k it (by simp) oi e
 item:=by
  intro X hP hw hK hc i pins s σ H E I hf st hg;subst hP hw hK;obtain ⟨hd,hi⟩:=hg;obtain ⟨f0,f1,f2,f3,f4,f5⟩:=hf it (by simp);obtain ⟨hs,U4,hx,Mq,Mr,vs,Bg,hsz,kv,hm⟩:=I.Ie hd;obtain ⟨rfl,rfl⟩:=wY UQ Bg;obtain ⟨⟨k,v⟩,UZ⟩:∃p,kvs[i]?=some p:=⟨kvs[i],cM hi⟩
  obtain ⟨u,hu,ru⟩:=D7 kv UZ;have hl:kvs.length=vs.length:=Paired.length kv;rw[hl] at st;refine wpAny_pyNext_values_item st hm hu λh' Ju sb=>?_;have I1:Inv X pins σ H {s with heap:=h'}:=I.turned (t':=s.toks) (λb ob hb e=>(sb.2 b hb).trans e) f0 f1 f3 f4 f5;obtain ⟨oi,e,c,dd⟩:=id Ju;refine ⟨u,rfl,Gf (s:={s with heap:=h'}) e c dd (by decide) ⟨v,H,I1,ru,⟨rfl,k,UZ⟩,?_,λb hb=>(hf b hb).1⟩⟩;show h'.IsValIter it d (i+1) kvs.length _;rw[hl];exact Ju
 done:=by
  intro X hP hw hK hc i pins s σ H E I hf st hg;subst hP hw hK;obtain ⟨hd,hi⟩:=hg;obtain ⟨f0,f1,f2,f3,f4,f5⟩:=hf it (by simp);obtain ⟨hs,U4,hx,Mq,Mr,vs,Bg,hsz,kv,hm⟩:=I.Ie hd;obtain ⟨rfl,rfl⟩:=wY UQ Bg;have hl:kvs.length=vs.length:=Paired.length kv;rw[hl] at st;exact wpAny_pyNext_values_end (I.ok.hd hc) st hm (jR (by omega)) λh' eb=>⟨rfl,I.turned (t':=s.toks) (λb ob hb e=>eb b ob hb e) f0 f1 f3 f4 f5⟩
 self:=λA i s Q E st h=>wpAny_pyIter_valiter st h
theorem Dn{kvs:List (Key×V)}{elts:List Expr}{kk:Nat}{Dt:Pos}(it:Addr)(UQ:o.data=.dict es ep):
  Turn P w K (.Tuple elts kk Dt) (L6 d o kvs) [it] it (λi h=>∃ok ov,IsItemIter h it d i kvs.length ep ok ov) where
 mem:=by simp
 obj:=λi h st b hb=>by
  have e:b=it:=by simpa using hb
  subst e;obtain ⟨ok,ov,e⟩:=st;exact ⟨_,e,λv z=>nomatch z⟩
 keep:=λi h h' st k=>let ⟨ok,ov,e⟩:=st;⟨ok,ov,k it (by simp) _ e⟩
 item:=by
  intro X hP hw hK hc i pins s σ H E I hf st hg;subst hP hw hK;obtain ⟨hd,hi⟩:=hg;obtain ⟨hs,U4,hx,Mq,Mr,vs,Bg,hsz,kv,hm⟩:=I.Ie hd;obtain ⟨rfl,rfl⟩:=wY UQ Bg;obtain ⟨⟨k,v⟩,UZ⟩:∃p,kvs[i]?=some p:=⟨kvs[i],cM hi⟩
  obtain ⟨u,hu,ru⟩:=D7 kv UZ;have hl:kvs.length=vs.length:=Paired.length kv;obtain ⟨ok,ov,he⟩:=st;rw[hl] at he;have pX:it<s.heap.objs.size:=Heap.lt_size he;refine wpAny_pyNext_items_item he hm hu λkey h' HU ho hT hz hk=>?_;refine ⟨_,rfl,wpAny_letOwnedTupleGo_items (s:={s with heap:=h'}) ho λWB U9 sb=>?_⟩;have hT2:WB.get? s.heap.objs.size=some {cls:=.type "tuple",data:=.seq #[key,u]}:=(sb.2 _ (EG pX)).trans hT
  have new:jo X.prog X.w (upd H s.heap.objs.size (.tup [kV k,v])) WB s.heap.objs.size (.tup [kV k,v]):=
   ⟨by show 2<=sizeLine;decide,[key,u],.cons (BG (show vL k key=true from HU)) (.cons ru .nil),⟨_,hT2,rfl,_,rfl⟩⟩
  have I1:Inv X pins σ (upd H s.heap.objs.size (.tup [kV k,v])) {s with heap:=WB}:=
   I.GP (t':=s.toks) (ch:=[it]) (λb ob hb e=>(sb.2 b (by simpa using hb)).trans (hk b ob (by simpa using hb) e)) hf (aL _) new
  refine ⟨.ref s.heap.objs.size,_,I1,rfl,⟨_,k,v,UZ,rfl,I.cI.fresh (aL _),rfl⟩,⟨key,u,?_⟩,λb hb=>?_⟩
  ·rw[hl];exact U9
  ·have e:b=it:=by simpa using hb
   rw[e,az (eF pX)];exact (hf it (by simp)).1
 done:=by
  intro X hP hw hK hc i pins s σ H E I hf st hg;subst hP hw hK;obtain ⟨hd,hi⟩:=hg;obtain ⟨f0,f1,f2,f3,f4,f5⟩:=hf it (by simp);obtain ⟨hs,U4,hx,Mq,Mr,vs,Bg,hsz,kv,hm⟩:=I.Ie hd;obtain ⟨rfl,rfl⟩:=wY UQ Bg;have hl:kvs.length=vs.length:=Paired.length kv;obtain ⟨ok,ov,he⟩:=st;rw[hl] at he;exact wpAny_pyNext_items_end (I.ok.hd hc) he hm (jR (by omega)) λh' eb=>⟨rfl,I.turned (t':=s.toks) (λb ob hb e=>eb b ob hb e) f0 f1 f3 f4 f5⟩
 self:=λA i s Q E st h=>let ⟨_,_,e⟩:=st;PySem.W.kcp_self e h
end
def Us(td:TE):TI:=λσ H R=>td σ H λx H1=>∃d o kvs,x=.ref d/\H1 d=some (.nG o (.dK kvs))/\R (VO d o kvs) H1
def QK(td:TE):TI:=λσ H R=>td σ H λx H1=>∃d o kvs,x=.ref d/\H1 d=some (.nG o (.dK kvs))/\R (L6 d o kvs) H1
section
variable{X:Cx}{tg e:Expr}{td:TE}{apos l9:Pos}
theorem u6(he:PE X e td)(Cn:attributeBase e "values" X.env (eval e X.env)=eval e X.env:=by rfl)(Cj:(apos.endLine==l9.line)=true:=by rfl):PI X tg (.Call (.Attribute e "values" apos) [] [] l9) (Us td):=by
 intro pins s σ H R I h;refine wpAny_Call_method (T:="dict") (id:="dict.values") Cn rfl Cj F.plainAttrs_dict F.slot_dict_values F.type_dict_values (iM (he pins s σ H _ I h) λu s1 ⟨x,H1,I1,rx,d,o,kvs,ex,hd,q⟩=>?_);subst ex;obtain rfl:u=Value.ref d:=rx;obtain ⟨hs,U4,hx,es,ep,vs,Bg,hsz,kv,hm⟩:=I1.Ie hd;have hl:kvs.length=vs.length:=Paired.length kv;refine ⟨hm.dictOf.typeIs,hm.dictOf.mapOf.noDict,?_⟩;have I2:Inv X pins σ H1 {s1 with heap:=s1.heap.push {cls:=.type "dict_values",data:=.fields #[.ref d]}}:=I1.kept (t':=s1.toks) λb ob q=>Heap.get?_push_of_some _ q
 have fin:wpAny (model X.prog X.w) X.A (pyIter (.ref s1.heap.objs.size)) (VL X pins σ tg R) X.xe {s1 with heap:=s1.heap.push {cls:=.type "dict_values",data:=.fields #[.ref d]}}:=by
  refine wpAny_pyIter_values (d:=d) (knd:=fT X.prog X.w) ⟨_,Heap.get?_push_size _ rfl,rfl,rfl⟩ (hm.push _) (J9 (tk:=s1.toks) I2 _ (GQ _ Bg) ⟨_,Heap.get?_push_size _ rfl,rfl,?_⟩ q);rw[hl]<;>rfl
 show wpAny _ _ (callWith l9 (.builtin "dict.values") [.ref d] [] []) _ X.xe s1;exact method_meetsIn F.slot_dict_values F.entry_dict_values rfl (GA ⟨rfl,hm.dictOf.typeIs,F.args_dict_values_1 _,_,meets_dict_values (fT X.prog X.w) d hs,⟨vs,hm.dictOf⟩,fin⟩)
theorem uf{elts:List Expr}{kk:Nat}{Dt:Pos}(he:PE X e td)(Cn:attributeBase e "items" X.env (eval e X.env)=eval e X.env:=by rfl)(Cj:(apos.endLine==l9.line)=true:=by rfl):
  PI X (.Tuple elts kk Dt) (.Call (.Attribute e "items" apos) [] [] l9) (QK td):=by
 intro pins s σ H R I h;refine wpAny_Call_method (T:="dict") (id:="dict.items") Cn rfl Cj F.plainAttrs_dict F.slot_dict_items F.type_dict_items (iM (he pins s σ H _ I h) λu s1 ⟨x,H1,I1,rx,d,o,kvs,ex,hd,q⟩=>?_);subst ex;obtain rfl:u=Value.ref d:=rx;obtain ⟨hs,U4,hx,es,ep,vs,Bg,hsz,kv,hm⟩:=I1.Ie hd;have hl:kvs.length=vs.length:=Paired.length kv;refine ⟨hm.dictOf.typeIs,hm.dictOf.mapOf.noDict,?_⟩;have I2:Inv X pins σ H1 {s1 with heap:=s1.heap.push {cls:=.type "dict_items",data:=.fields #[.ref d]}}:=I1.kept (t':=s1.toks) λb ob q=>Heap.get?_push_of_some _ q
 have fin:wpAny (model X.prog X.w) X.A (pyIter (.ref s1.heap.objs.size)) (VL X pins σ (.Tuple elts kk Dt) R) X.xe {s1 with heap:=s1.heap.push {cls:=.type "dict_items",data:=.fields #[.ref d]}}:=by
  refine wpAny_pyIter_items (d:=d) (knd:=fT X.prog X.w) ⟨_,Heap.get?_push_size _ rfl,rfl,rfl⟩ (hm.push _) (J9 (tk:=s1.toks) I2 _ (Dn _ Bg) ⟨.none,.none,?_⟩ q);rw[hl];exact Heap.get?_push_size _ rfl
 show wpAny _ _ (callWith l9 (.builtin "dict.items") [.ref d] [] []) _ X.xe s1;exact method_meetsIn F.slot_dict_items F.entry_dict_items rfl (GA ⟨rfl,hm.dictOf.typeIs,F.args_dict_items_1 _,_,meets_dict_items (fT X.prog X.w) d hs,⟨vs,hm.dictOf⟩,fin⟩)
end
end L2
section
namespace Bits
open PySem PyProof.Rows
end Bits
end
section
namespace TL
open PySem PySem.Builtin PySem.Builtin.Str PySem.StrLaws
end TL
end
namespace L2
open PySem PySem.Spec PyProof.Rows
end L2
namespace L2
open PySem PySem.Spec PyProof.Rows
end L2
namespace Att
open PySem PySem.W PySem.Calls PyProof.Rows
theorem vY{P:Params}{h:Heap}:∀(ns:List Int) (vs:List Value),WellAll P h vs (ns.map WData.int)->IntsAre vs ns:=by
 intro ns
 induction ns with
 |nil=>
  intro vs w;rw[jd] at w;cases w;exact .nil
 |cons n ns ih=>
  intro vs w;rw[aI] at w;cases w with
  |cons a b=>
   cases a;exact .cons _ _ (ih _ b)
end Att
namespace L2
open PySem PySem.Spec PyProof.Rows
theorem zc:∀{vs:List Value} {ns:List Int},IntsAre vs ns->Vals (ns.map V.int) vs
 |_,_,.nil=>.nil
 |_,_,.cons n t h=>.cons ⟨t,rfl⟩ (zc h)
def RQ(H:Hp):Prop:=∀b,H b=none\/∃o xs,H b=some (.nG o (.lst xs))
end L2
namespace L2
open PySem PySem.Spec PyProof.Rows
end L2
namespace L2
open PySem PySem.Spec PyProof.Rows
def inClass(s:Stmt)(j:Nat):Stmt:=match s with
 |.ClassDef _ _ _ body _ _ _ _ _ _ _=>body.getD j (.Pass ⟨0,0,0,0⟩)
 |_=>.Pass ⟨0,0,0,0⟩
def A1(s:Stmt):Arguments:=match s with
 |.FunctionDef _ a _ _ _ _ _ _ _ _=>a
 |_=>{posonlyargs:=[],args:=[],vararg:=none,kwonlyargs:=[],kw_defaults:=[],kwarg:=none,defaults:=[]}
def oE(s:Stmt):List Stmt:=match s with
 |.FunctionDef _ _ b _ _ _ _ _ _ _=>b
 |_=>[]
def aY(s:Stmt):Scope:=match s with
 |.FunctionDef _ _ _ _ _ _ sc _ _ _=>sc
 |_=>{kind:=.function,names:=[],isGenerator:=false,isCoroutine:=false}
abbrev pq:I0:=λ_ _ _ _ _ _=>False
abbrev E0:XK:=λ_ _ _=>False
theorem c_{X:Cx}:Passes pq X E0:=λ_ _ _ _ _ _ _ h=>h.elim
structure Iw(K:au)(x qual:Str)(st:Stmt)(f:Addr)(fd:FuncData):Prop where
 ex:∃(oc:Value) (od:Option Addr) (kV doc pm:Value) (an:Option Addr) (gX ct:Value) (Qp:Array (Option Value)),
  fd=uH x qual (A1 st) (oE st) (aY st) .none kV doc pm an gX ct/\K.lookup f=some ⟨oc,od,.func fd,Qp⟩/\PySem.W.codeIn K gX qual=true
 kp:se K (.ref f)=true
section
variable{P:Program}{w:World}{K:au}{mg:Str->Option Value}{base:Heap}
theorem Iw.ok{x qual:Str}{st:Stmt}{f:Addr}{fd:FuncData}{N ps:List Str}{k:Nat}{sp:Sp}(F:Iw K x qual st f fd)(S:bF N ps (aY st))(len:∀vs H Q E,sp vs H Q E->vs.length=ps.length)
  (Cm:∀(gX:Value) (A:Around) (outer:List Env) (s:Shared) (H:Hp) (vs:List V) (Q:VK) (E:XK),i9 k (A.deeper (envOfC qual (aY st) s.heap.objs.size f gX))->sp vs H Q E->
   ∃t,A6 (qt pq P w K mg base N qual (aY st) f gX A outer s H E).Wa (oE st) t/\t {nx:=λ_ H'=>Q .kq H',rt:=Q} (start N vs) H):dU P w K mg base pq (k+1) f fd ps sp:=by
 obtain ⟨oc,od,kV,doc,pm,an,gX,ct,Qp,rfl,lk,uv⟩:=F.ex;refine OW lk uv S len λA outer s H vs Q E hr Mg=>?_;obtain ⟨t,h,q⟩:=Cm gX A outer s H vs Q E hr Mg;exact ⟨t,h.Wa,q⟩
theorem Iw.binds{x qual:Str}{st:Stmt}{f:Addr}{fd:FuncData}{ps:List Str}(F:Iw K x qual st f fd)
  (h:∀(kV doc pm:Value) (an:Option Addr) (gX ct:Value) (us:List Value),us.length=ps.length->bindArgs (uH x qual (A1 st) (oE st) (aY st) .none kV doc pm an gX ct) ⟨us,[]⟩=pure (ps.zip us)):Binds K fd ps []:=by
 obtain ⟨oc,od,kV,doc,pm,an,gX,ct,Qp,rfl,lk,uv⟩:=F.ex;exact .all (h kV doc pm an gX ct)
end
theorem jJ{A:Around}{k:Nat}(hr:i9 k A):A.units+1<cLine:=vA (Nat.add_le_add_left (by decide:1<=64) _) hr.units
section
variable{X:Cx}
theorem pv(i:Nat){x:Str}{pos:Pos}(hN:X.N[i]?=some x:=by rfl)(hv:Ss X.env.scope x:=by first|exact bh rfl|exact sO (bh rfl)|exact sO (sO rfl))(hd:(x==("__debug__":Str))=false:=by decide)
  (uv:(x==("__classdict__":Str))=false:=by decide):PE X (.Name x pos) (l7 i):=Qm hN hv hd uv
theorem Im:oH X (.builtin "len") (λxs H Q=>∃a kvs,xs=[V.ref a]/\H a=some (.dK kvs)/\Q (.int kvs.length) H):=by
 intro pins s σ H xs us Q I r h;obtain ⟨a,kvs,rfl,ha,q⟩:=h;obtain ⟨u,rfl,ru⟩:=vals1 r;cases ru;exact Vz I (.inl ha) λt s' I'=>⟨.int kvs.length,H,I',⟨t,rfl⟩,q⟩
end
theorem mJ{A B:Prop}(h:B):if false=true then A else B:=by
 rw[if_neg cW];exact h
theorem lg{A B:Prop}(h:A):if true=true then A else B:=by
 rw[if_pos rfl];exact h
theorem iP{c A B:Prop}[Decidable c](h1:c->A)(h2:¬c->B):if c then A else B:=by
 by_cases h:c
 ·rw[if_pos h];exact h1 h
 ·rw[if_neg h];exact h2 h
def cY(H H':Hp):Prop:=∀b o,H b=some o->H' b=some o
theorem cY.refl(H:Hp):cY H H:=λ_ _ h=>h
theorem cY.trans{H H1 H2:Hp}(a:cY H H1)(b:cY H1 H2):cY H H2:=λc o h=>b c o (a c o h)
theorem cY.free{H H':Hp}(e:cY H H'){l:Addr}(h:H' l=wB):H l=wB:=by
 cases q:H l with
 |none=>rfl
 |some o=>
  rw[e l o q] at h;cases h
theorem cY.seq{K:au}{H H':Hp}{a:Addr}{xs:List V}(e:cY H H')(h:mY K H a xs):mY K H' a xs:=by
 rcases h with (h|⟨o,h⟩)|h
 ·exact .inl (.inl (e _ _ h))
 ·exact .inl (.inr ⟨o,e _ _ h⟩)
 ·exact .inr h
section
variable{κ:Type}[DecidableEq κ]
theorem FL:∀{l:List κ} {k:κ},l.Nodup->¬k∈l->(l++[k]).Nodup
 |[],k,_,_=>by simp
 |a::r,k,h,hk=>by
  obtain ⟨h1,h2⟩:=b9.mp h;show (a::(r++[k])).Nodup;refine b9.mpr ⟨λm=>?_,FL h2 λm=>hk (aP.mpr (sO m))⟩;rcases bG.mp m with q|q
  ·exact h1 q
  ·exact hk (aP.mpr (bh (List.mem_singleton.mp q).symm))
end
theorem at_of{xs:List V}{z:Int}{j:Nat}{v:V}(e:z=(j:Int))(h:xs[j]?=some v):Gv xs z=some v:=by
 rw[e];exact uD h
theorem Uj{α:Type}{l:List α}(hN:l.Nodup){i j:Nat}{x:α}(a:l[i]?=some x)(b:l[j]?=some x):i=j:=by
 obtain ⟨h1,e1⟩:=bR.mp a;obtain ⟨h2,e2⟩:=bR.mp b;exact (List.getElem_inj hN).mp (e1.trans e2.symm)
theorem cY.made{H H1:Hp}{x dx C:Addr}(nx:H x=wB)(nd:H dx=wB)(k:∀b o,(upd (upd H dx (.own x)) x (.ins C dx [])) b=some o->b≠x->H1 b=some o):cY H H1:=λb o e=>
 k b o (by rw[az (aQ e nx),az (aQ e nd)];exact e) (aQ e nx)
end L2
namespace L2
open PySem PySem.Spec PyProof.Rows
structure Fl(B:Heap)(l:List Env)(e:Addr)(cls c2 fl:Value)(h:Heap):Prop where
 st:B.StaysIn h
 en:B.get? e=none
 fr:h.FunFrames B l
 tr:∃oe vs T oT ts,h.get? e=some oe/\oe.cls=cls/\oe.data=.fields vs/\vs[1]?=some (.ref T)/\vs[2]?=some c2/\B.get? T=none/\T≠e/\h.get? T=some oT/\oT.data=.fields ts/\ts[3]?=some fl
section
variable{M:Model}{A:Around}{E:Value->Shared->Prop}{s:Shared}{B:Heap}{env:Env}{outer:List Env}{L e:Addr}{cls c2 fl:Value}{Q:Unit->Shared->Prop}
theorem pF{h:Heap}{T:Addr}{oT:Obj}{ts:Array Value}(hT:h.get? T=some oT)(hd:oT.data=.fields ts)(k:Nat)(x:Value):
  (∀b o,b≠T->h.get? b=some o->(h.update T (Obj.mapFields (·.setIfInBounds k x))).get? b=some o)/\
  (h.update T (Obj.mapFields (·.setIfInBounds k x))).get? T=some (Obj.mapFields (·.setIfInBounds k x) oT)/\(Obj.mapFields (·.setIfInBounds k x) oT).data=.fields (ts.setIfInBounds k x)/\
  (∀b o,h.get? b=some o->(∀vs,o.data≠.fields vs)->b≠T):=by
 have hd2:=Obj.data_mapFields hd (·.setIfInBounds k x);refine ⟨λb o hb q=>?_,Heap.get?_update_self _ hT (Obj.isFreed_of_fields hd2),hd2,λb o q hn z=>?_⟩
 ·rw[Heap.get?_update_other _ _ (nJ hb)];exact q
 ·subst z;rw[hT] at q;cases q;exact hn ts hd
theorem Gh{oe:Obj}{vs:Array Value}{head:Value}{nx:Bool}(hA:A.frames=some (env::outer))(hF:s.heap.FunFrames B (env::outer))(hL:env.frame=some L)(hB:B.StaysIn s.heap)(hn:B.get? e=none)
  (he:s.heap.get? e=some oe) (hc:oe.cls=cls) (hd:oe.data=.fields vs) (hz:1<vs.size) (h2:vs[2]?=some c2)
  (k:∀g,Fl B (env::outer) e cls c2 (rawInt L) g->s.heap.UpToSlots g->Q () {s with heap:=g}):
  wpAny M A (do let a<-frameOf env;let pl<-entryPlaceOf L nx;let b<-EntryCells.newEntry head a .none (rawInt L) .none pl;setField (.ref e) 1 b) Q E s:=by
 have nf:e∉(env::outer).filterMap (·.frame):=λz=>by
  obtain ⟨_,o,q,w⟩:=hF.mem z;rw[he] at q;cases q;exact w vs hd
 refine wpAny_bind (wpAny_frameOf_fun hA hF hL λg1 so=>?_);refine wpAny_bind (wpAny_entryPlaceOf λpl ip=>?_);unfold EntryCells.newEntry newFields;refine wpAny_bind (wpAny_newObj_type ?_ (ip.sizeOk5 _ _ _ _ _));have e1:g1.get? e=some oe:=(so.2.1 e nf).trans he;have B1:B.StaysIn g1:=λb o q=>(so.2.1 b λz=>by rw[(hF.mem z).1] at q;cases q).trans (hB b o q);generalize hp:({cls:=.type "traceback",dict:=none,data:=.fields ([head,.ref L,.none,rawInt L,.none]++(if pl.isEmpty then bJ 6 Value.none else pl)).toArray}:Obj)=tb;have tbd:tb.data=.fields ([head,.ref L,.none,rawInt L,.none]++(if pl.isEmpty then bJ 6 Value.none else pl)).toArray:=by rw[<-hp]
 have tb3:([head,.ref L,.none,rawInt L,.none]++(if pl.isEmpty then bJ 6 Value.none else pl)).toArray[3]?=some (rawInt L):=by simp
 have tbf:tb.isFreed=false:=Obj.isFreed_of_fields tbd;have e2:(g1.push tb).get? e=some oe:=Heap.get?_push_of_some _ e1;have t2:(g1.push tb).get? g1.objs.size=some tb:=Heap.get?_push_size _ tbf;have ne:g1.objs.size≠e:=EG (Heap.lt_size e1);obtain ⟨r1,r2,r3,r4⟩:=pF e2 hd 1 (.ref g1.objs.size);refine wpAny_setField e2 hd hz (k _ ⟨λb o q=>?_,hn,?_,?_⟩ λb o q CW=>?_)
 ·exact r1 b o (λz=>by rw[z,hn] at q;cases q) (Heap.get?_push_of_some _ (B1 b o q))
 ·refine hF.of_keeps λb o q CW=>?_;obtain ⟨sl,q2⟩:=so.2.2 b o q;have q3:(g1.push tb).get? b=some {o with slots:=sl}:=Heap.get?_push_of_some _ q2;exact ⟨_,r1 b _ (r4 b _ q3 CW) q3,rfl⟩
 ·refine ⟨_,_,g1.objs.size,tb,_,r2,?_,r3,?_,?_,B1.fresh,ne,r1 _ _ ne t2,tbd,tb3⟩
  ·rw[Obj.cls_mapFields];exact hc
  ·simp [hz]
  ·rw[Array.getElem?_setIfInBounds_ne (by decide)];exact h2
 ·obtain ⟨sl,q2⟩:=so.2.2 b o q;have q3:(g1.push tb).get? b=some {o with slots:=sl}:=Heap.get?_push_of_some _ q2;exact ⟨sl,r1 b _ (r4 b _ q3 CW) q3⟩
theorem LF{oe:Obj}{vs:Array Value}(hA:A.frames=some (env::outer))(hF:s.heap.FunFrames B (env::outer))(hL:env.frame=some L)(hB:B.StaysIn s.heap)(hn:B.get? e=none)
  (he:s.heap.get? e=some oe) (hc:oe.cls=cls) (hd:oe.data=.fields vs) (h1:vs[1]?=some .none) (h2:vs[2]?=some c2)
  (k:∀g,Fl B (env::outer) e cls c2 (rawInt L) g->s.heap.UpToSlots g->Q () {s with heap:=g}):wpAny M A (noteFrame (.ref e) env) Q E s:=by
 unfold noteFrame;simp only[hL];refine wpAny_bind (wpAny_field he hd h1 ?_);rw[if_neg (by decide)];exact Gh hA hF hL hB hn he hc hd (iL.mp h1).1 h2 k
theorem Gi(hA:A.frames=some (env::outer))(hL:env.frame=some L)(f:Fl B (env::outer) e cls c2 .none s.heap)
  (k:∀g,Fl B (env::outer) e cls c2 (rawInt L) g->s.heap.UpToSlots g->Q () {s with heap:=g}):wpAny M A (noteFrame (.ref e) env) Q E s:=by
 obtain ⟨hB,hn,hF,oe,vs,T,oT,ts,he,hc,hd,h1,h2,Mj,Mp,hT,HX,h3⟩:=f;unfold noteFrame;simp only[hL];refine wpAny_bind (wpAny_field he hd h1 ?_);rw[if_pos (show (Value.ref T !=Value.none)=true from by simp)];refine wpAny_bind (wpAny_field hT HX h3 ?_);rw[if_neg (show¬((Value.none==rawInt L)=true) from by simp [rawInt])];obtain ⟨r1,r2,r3,r4⟩:=pF hT HX 3 Value.none;refine wpAny_bind (wpAny_setField hT HX (iL.mp h3).1 ?_);refine Gh hA (hF.of_keeps λb o q CW=>⟨o,r1 b o (r4 b o q CW) q,rfl⟩) hL (λb o q=>r1 b o (λz=>by rw[z,Mj] at q;cases q) (hB b o q)) hn (r1 e oe (nJ Mp) he) hc hd (iL.mp h1).1 h2 λg f u=>k g f ?_;intro b o q CW;exact u b o (r1 b o (r4 b o q CW) q) CW
theorem sI{l:List Env}(f:Fl B l e cls c2 fl s.heap)(k:∀g,Fl B l e cls c2 .none g->s.heap.UpToSlots g->Q () {s with heap:=g}):wpAny M A (setFlight (.ref e) none) Q E s:=by
 obtain ⟨hB,hn,hF,oe,vs,T,oT,ts,he,hc,hd,h1,h2,Mj,Mp,hT,HX,h3⟩:=f;have z3:3<ts.size:=(iL.mp h3).1;unfold setFlight;refine wpAny_bind (wpAny_field he hd h1 ?_);rw[if_pos (show (Value.ref T !=Value.none)=true from by simp)];obtain ⟨r1,r2,r3,r4⟩:=pF hT HX 3 ((none:Option Addr).elim Value.none λf=>rawInt f);refine wpAny_setField hT HX z3 (k _ ⟨λb o q=>r1 b o (λz=>by rw[z,Mj] at q;cases q) (hB b o q),hn,hF.of_keeps λb o q CW=>⟨o,r1 b o (r4 b o q CW) q,rfl⟩,?_⟩ λb o q CW=>⟨o.slots,r1 b o (r4 b o q CW) q⟩);exact ⟨oe,vs,T,_,_,r1 e oe (nJ Mp) he,hc,hd,h1,h2,Mj,Mp,r2,r3,by simp [z3]⟩
theorem Fl.out{l:List Env}{h:Heap}(f:Fl B (env::l) e cls c2 fl h):Fl B l e cls c2 fl h:=⟨f.st,f.en,f.fr.2.2,f.tr⟩
end
end L2
namespace L2
open PySem PySem.Spec PyProof.Rows
def ctx:Value->Option Addr
 |.none=>none
 |_=>some 0
def l8(P:Program)(w:World):I0:=λouter H s E ev s'=>
 ∃(e:Addr) (cls c2:Value) (B:Heap) (H':Hp),ev=.ref e/\s'.os=s.os/\AllBare s'.gens/\Fl B outer e cls c2 .none s'.heap/\
  (∀b o0 o,s.heap.get? b=some o0->s'.heap.get? b=some o->b∉yW outer->B.get? b=some o)/\
  (∀b x o,H' b=some x->s'.heap.get? b=some o->B.get? b=some o)/\
  Un (yW outer) [] H H' s.heap s'.heap/\qO P w H' s'.heap/\E cls (ctx c2) H'
theorem qO.tracked{P:Program}{w:World}{H:Hp}{h h':Heap}(x:qO P w H h)(k:∀b y o,H b=some y->h.get? b=some o->h'.get? b=some o):qO P w H h':=λa o e=>
 (x a o e).qX (λb u hb q=>by
  rcases hb with rfl|hb
  ·exact k _ _ _ e q
  ·exact k _ _ _ hb q) (λ_ q=>q) λ_ _ q=>q
theorem qO.at{P:Program}{w:World}{H:Hp}{h:Heap}{a:Addr}{o:HO}(x:qO P w H h)(e:H a=some o):∃ob,h.get? a=some ob:=by
 have q:=x a o e;cases o with
 |lst xs=>obtain ⟨_,_,_,_,e⟩:=q;exact ⟨_,e⟩
 |tup xs=>obtain ⟨_,_,_,o,e,_⟩:=q;exact ⟨_,e⟩
 |dK kvs=>obtain ⟨_,_,_,_,o,_,_,e,_⟩:=q;exact ⟨_,e⟩
 |dT kvs=>obtain ⟨_,_,_,_,o,_,_,e,_⟩:=q;exact ⟨_,e⟩
 |set S n=>obtain ⟨o,_,_,_,e,_⟩:=q;exact ⟨_,e⟩
 |ins C dx fs=>obtain ⟨_,_,_,e,_⟩:=q;exact ⟨_,e⟩
 |own y=>exact q
 |xd fs=>obtain ⟨_,⟨_,_,_,e,_⟩,_⟩:=q;exact ⟨_,e⟩
 |V6 lo hi=>obtain ⟨_,_,_,e⟩:=q;exact ⟨_,e⟩
 |nG ob u=>obtain ⟨e,_⟩:=q;exact ⟨_,e⟩
 |Ow ps=>exact ⟨_,q⟩
 |met f y=>exact ⟨_,q⟩
 |ext φ=>obtain ⟨_,e,_⟩:=q;exact e
structure Cx.Own(X:Cx):Prop where
 BA:X.stack=X.env::X.outer
 So:X.env.frame=some X.env.locals
 ex:X.ex=[]
section
variable{X:Cx}{pins:List (Addr×Obj)}{σ:St}{H:Hp}{s s':Shared}{E:XK}{ev:Value}
theorem wV(W:X.Own):yW X.stack=X.env.locals::X.fs:=by
 rw[W.BA];unfold yW;rw[fu,W.So];rfl
theorem DS(I:Inv X pins σ H s)(W:X.Own){b:Addr}{o:Obj}(q:X.uW.heap.get? b=some o)(n:b∉X.fs):b∉yW X.stack:=by
 rw[wV W];intro z;rcases aP.mp z with z|z
 ·have h1:b<X.uW.heap.objs.size:=Heap.lt_size q;have h2:=I.ok.above;rw[z] at h1;exact absurd (cz h1 h2) (gJ _)
 ·exact n z
structure tT(X:Cx)(pins:List (Addr×Obj))(σ:St)(H:Hp)(s:Shared)(B:Heap):Prop where
 inv:Inv X pins σ H s
 b1:∀b o0 o,X.uW.heap.get? b=some o0->s.heap.get? b=some o->b∉yW X.stack->B.get? b=some o
 b2:∀b x o,H b=some x->s.heap.get? b=some o->B.get? b=some o
 b3:∀p∈X.pn++pins,B.get? p.1=some p.2
theorem tT.move{B g:Heap}(h:tT X pins σ H s B)(W:X.Own)(st:B.StaysIn g)(u:s.heap.UpToSlots g):tT X pins σ H {s with heap:=g} B:=by
 obtain ⟨I,b1,b2,b3⟩:=h;have hb:=I.base;rw[W.ex] at hb
 have stays:∀b o0,X.uW.heap.get? b=some o0->b∉X.fs->∃o,s.heap.get? b=some o/\B.get? b=some o/\g.get? b=some o:=λb o0 q n=>by
  obtain ⟨o1,q1⟩:=hb.there b o0 q (by simp);have q3:=b1 b o0 o1 q q1 (DS I W q n);exact ⟨o1,q1,q3,st b o1 q3⟩
 have cells:∀c v,s.heap.IsCell c v->g.IsCell c v:=λc v ⟨o,ho,hd⟩=>by
  obtain ⟨sl,q⟩:=u c o ho λvs z=>by rw[hd] at z;cases z
  exact ⟨_,q,hd⟩
 have base:Un X.fs X.ex X.IY H X.uW.heap g:=by
  rw[W.ex];refine ⟨λb o q n hf _=>?_,λb o q n hf _=>?_,λb o q n _=>hb.free b o q n (by simp),λb o q _=>?_,hb.yN,hb.wk,hb.yP⟩
  ·have q1:=hb.keep b o q n hf (by simp);exact st b o (b1 b o o q q1 (DS I W q hf))
  ·obtain ⟨sl,q1⟩:=hb.slot b o q n hf (by simp);obtain ⟨_,oo,ho,Zw⟩:=I.ok.rZ.mem hf;rw[q] at ho;cases ho;obtain ⟨sl3,q3⟩:=u b _ q1 Zw;exact ⟨sl3,q3⟩
  ·by_cases hf:b∈X.fs
   ·obtain ⟨_,oo,ho,Zw⟩:=I.ok.rZ.mem hf;rw[q] at ho;cases ho;obtain ⟨sl,q1⟩:=hb.slot b o q (I.ok.Ly b hf) hf (by simp);obtain ⟨sl3,q3⟩:=u b _ q1 Zw;exact ⟨_,q3⟩
   ·obtain ⟨o2,_,_,q4⟩:=stays b o q hf;exact ⟨o2,q4⟩
 have cI:qO X.prog X.w H g:=I.cI.tracked λb y o q q'=>st b o (b2 b y o q q');refine ⟨⟨I.ok,I.os,I.bare,base,?_,λx c q=>?_,I.free,I.mj,λp hp=>⟨st _ _ (b3 p hp),(I.pin p hp).2⟩,cI,I.len⟩,λb o0 o q q' n=>?_,λb x o q q'=>?_,b3⟩
 ·obtain ⟨m,hn,hl⟩:=I.loc;refine ⟨m,u.ns hn,λi x v e1 e2 e3=>?_⟩;obtain ⟨w,r,l⟩:=hl i x v e1 e2 e3;refine ⟨w,r,?_⟩;rcases l with l|⟨k,c,hc,zK⟩
  ·exact .inl l
  ·exact .inr ⟨k,c,hc,cells _ _ zK⟩
 ·obtain ⟨v,hv⟩:=I.cell x c q;exact ⟨v,cells _ _ hv⟩
 ·have n2:b∉X.fs:=λz=>n (by rw[wV W];exact aB _ z);obtain ⟨o2,_,q3,q4⟩:=stays b o0 q n2;have z:g.get? b=some o:=q';rw[z] at q4;cases q4;exact q3
 ·obtain ⟨o2,q2⟩:=I.cI.at q;have q3:=b2 b x o2 q q2;have q4:=st b o2 q3;have z:g.get? b=some o:=q';rw[z] at q4;cases q4;exact q3
theorem tT.FG{e:Addr}{cls c2:Value}{B:Heap}{H':Hp}(I:Inv X pins σ H s)(W:X.Own)(os:s'.os=s.os)(bare:AllBare s'.gens)
  (b1:∀b o0 o,s.heap.get? b=some o0->s'.heap.get? b=some o->b∉yW X.stack->B.get? b=some o) (b2:∀b x o,H' b=some x->s'.heap.get? b=some o->B.get? b=some o)
  (un:Un (yW X.stack) [] H H' s.heap s'.heap) (ok:qO X.prog X.w H' s'.heap):tT X pins σ H' s' B:=by
 have hb:=I.base;rw[W.ex] at hb;refine ⟨I.OZ os un ok bare (λb z=>nomatch z),λb o0 o q q' n=>?_,b2,λp hp=>?_⟩
 ·obtain ⟨o1,q1⟩:=hb.there b o0 q (by simp);exact b1 b o1 o q1 q' n
 ·obtain ⟨q,n,h1,h2,_⟩:=I.pin p hp
  have nf:p.1∉yW X.stack:=by
   rw[wV W];intro z;rcases aP.mp z with z|z
   ·exact h1 z
   ·exact h2 z
  exact b1 _ _ _ q (un.keep _ _ q n nf (by simp)) nf
theorem tT.left{e:Addr}{cls c2:Value}{B:Heap}(h:tT X pins σ H s B)(W:X.Own)(f:Fl B X.outer e cls c2 .none s.heap)(hE:E cls (ctx c2) H):l8 X.prog X.w X.outer X.IY X.uW E (.ref e) s:=by
 obtain ⟨I,b1,b2,b3⟩:=h;have hb:=I.base;rw[W.ex] at hb;exact ⟨e,cls,c2,B,H,rfl,I.os,I.bare,f,λb o0 o q q' n=>b1 b o0 o q q' (DS I W q n),b2,hb,I.cI,hE⟩
theorem Cx.Own.fr(W:X.Own){A:Around}(h:A.frames=some X.stack):A.frames=some (X.env::X.outer):=by rw[<-W.BA];exact h
theorem LJ{Ee:Value->Shared->Prop}{A:Around}(I:Inv X pins σ H s)(W:X.Own)(hA:A.frames=some X.stack)(c:l8 X.prog X.w X.stack H s E ev s'):
  wpAny (model X.prog X.w) A (leaving X.env ev) (λ_ Nc=>l8 X.prog X.w X.outer X.IY X.uW E ev Nc) Ee s':=by
 obtain ⟨e,cls,c2,B,H',rfl,os,bare,f,b1,b2,un,ok,hE⟩:=c;have h0:=tT.FG (e:=e) (cls:=cls) (c2:=c2) I W os bare b1 b2 un ok;rw[W.BA] at f;unfold leaving;refine wpAny_bind (Gi (W.fr hA) W.So f λg1 f1 u1=>?_);refine sI f1 λg2 f2 u2=>?_;exact ((h0.move W f1.st u1).move W f2.st u2).left W f2.out hE
structure qu(h g:Heap)(e:Addr)(cls c2:Value):Prop where
 keeps:∀b o,h.get? b=some o->g.get? b=some o
 new:h.get? e=none
 obj:∃oe vs,g.get? e=some oe/\oe.cls=cls/\oe.data=.fields vs/\vs[1]?=some .none/\vs[2]?=some c2
theorem qu.of{h g:Heap}{e:Addr}{cls:Value}{args:List Value}(x:Heap.MadeExcOf h g e cls args):qu h g e cls .none:=by
 obtain ⟨t,q,_,_⟩:=x.there;exact ⟨x.keeps,x.new,_,_,q,rfl,rfl,rfl,rfl⟩
theorem Oj{e:Addr}{cls c2:Value}{g:Heap}{A:Around}{Ee:Value->Shared->Prop}{Q:Unit->Shared->Prop}(I:Inv X pins σ H s)(W:X.Own)(hA:A.frames=some X.stack)(T:qu s.heap g e cls c2)
  (k:∀B g1,tT X pins σ H {s with heap:=g1} B->Fl B X.stack e cls c2 (rawInt X.env.locals) g1->Q () {s with heap:=g1}):
  wpAny (model X.prog X.w) A (noteFrame (.ref e) X.env) Q Ee {s with heap:=g}:=by
 obtain ⟨oe,vs,q,hc,hd,h1,h2⟩:=T.obj;have qm:∀env∈X.stack,∀b,env.frame=some b->b∈X.stack.filterMap (·.frame):=λenv he b hb=>uN.mpr ⟨env,he,hb⟩;have F0:s.heap.FunFrames (k8 s.heap (X.stack.filterMap (·.frame))) X.stack:=PySem.W.funFrames_hide I.stack qm;have hB:(k8 s.heap (X.stack.filterMap (·.frame))).StaysIn s.heap:=λb o z=>EE _ z
 have hBn:(k8 s.heap (X.stack.filterMap (·.frame))).get? e=none:=by
  cases z:(k8 s.heap (X.stack.filterMap (·.frame))).get? e with
  |none=>rfl
  |some o=>have:=hB e o z;rw[T.new] at this;cases this
 generalize hBB:k8 s.heap (X.stack.filterMap (·.frame))=B at F0 hB hBn
 have Q6:∀b o,s.heap.get? b=some o->b∉yW X.stack->B.get? b=some o:=λb o z n=>by
  rw[<-hBB];exact C_ _ z n
 have hb:=I.base;rw[W.ex] at hb
 have h0:tT X pins σ H {s with heap:=g} B:=by
  refine ⟨I.kept (t':=s.toks) T.keeps,λb o0 o z z' n=>?_,λb x o z z'=>?_,λp hp=>?_⟩
  ·obtain ⟨o1,q1⟩:=hb.there b o0 z (by simp);have z2:g.get? b=some o:=z';rw[T.keeps b o1 q1] at z2;obtain rfl:o1=o:=bC z2;exact Q6 b _ q1 n
  ·obtain ⟨o1,q1⟩:=I.cI.at z;have z2:g.get? b=some o:=z';rw[T.keeps b o1 q1] at z2;obtain rfl:o1=o:=bC z2;exact Q6 b _ q1 λm=>by rw[I.As b m] at z;cases z
  ·obtain ⟨z,n,h1,h2,_⟩:=I.pin p hp;refine Q6 _ _ z ?_;rw[wV W];intro z;rcases aP.mp z with z|z
   ·exact h1 z
   ·exact h2 z
 rw[W.BA] at F0;refine LF (W.fr hA) (F0.of_keeps λb o z _=>⟨o,T.keeps b o z,rfl⟩) W.So (λb o z=>T.keeps b o (hB b o z)) hBn q hc hd h1 h2 λg1 f1 u1=>?_;exact k B g1 (h0.move W f1.st u1) (by rw[W.BA];exact f1)
theorem Cw{e:Addr}{cls c2:Value}{g:Heap}{A:Around}{Ee:Value->Shared->Prop}(I:Inv X pins σ H s)(W:X.Own)(hA:A.frames=some X.stack)(T:qu s.heap g e cls c2)(hE:E cls (ctx c2) H):
  wpAny (model X.prog X.w) A (leaving X.env (.ref e)) (λ_ Nc=>l8 X.prog X.w X.outer X.IY X.uW E (.ref e) Nc) Ee {s with heap:=g}:=by
 unfold leaving;refine wpAny_bind (Oj I W hA T λB g1 h1 f1=>?_);refine sI f1 λg2 f2 u2=>?_;rw[W.BA] at f2;exact (h1.move W f2.st u2).left W f2.out hE
theorem dP{P:Program}{w:World}{K:au}{mg:Str->Option Value}{base:Heap}{N:List Str}{qual:Str}{scope:Scope}{f:Addr}{cd:Value}{A:Around}{outer:List Env}{s:Shared}{H:Hp}{E:XK}:
  Passes (l8 P w) (qt (l8 P w) P w K mg base N qual scope f cd A outer s H E) E:=λpins σ H1 s1 e s' I c=>
 LJ I ⟨rfl,rfl,rfl⟩ I.ok.frames c
def Thr(X:Cx)(E:XK):Prop:=∀(pins:List (Addr×Obj)) (σ:St) (H:Hp) (s:Shared) (g:Heap) (e:Addr) (cls c2:Value),Inv X pins σ H s->qu s.heap g e cls c2->E cls (ctx c2) H->X.xe (.ref e) {s with heap:=g}
theorem tH{P:Program}{w:World}{K:au}{mg:Str->Option Value}{base:Heap}{N:List Str}{qual:Str}{scope:Scope}{f:Addr}{cd:Value}{A:Around}{outer:List Env}{s:Shared}{H:Hp}{E:XK}:
  Thr (qt (l8 P w) P w K mg base N qual scope f cd A outer s H E) E:=λpins σ H1 s1 g e cls c2 I T hE=>Cw I ⟨rfl,rfl,rfl⟩ I.ok.frames T hE
end
end L2
namespace L2
open PySem PySem.Spec PyProof.Rows
def IX:List Value:=[.type "Exception",.type "BaseException",.type "object"]
structure O4(K:au)(C:Addr):Prop where
 ex:∃nm q N bs hdct sn sub ab col dd k0 k1 k2 k3 k5,K.lookup C=some (excClassObj nm q C N bs IX hdct sn sub ab col dd k0 k1 k2 k3 k5 "Exception.__new__")/\PySem.W.nsOkIn K N=true/\PySem.W.nsIn K N "__init__"=some none
def Rt(K:au)(C:Addr):Bool:=match K.lookup C with
 |some ⟨.type "type",_,.cls cd,sl⟩=>(match cd.mro,sl.toList with
  |.ref C'::bm,[_,_,_,_,some (.builtin n),_]=>C'==C&&n=="Exception.__new__"&&bm==IX&& !cd.hasDel&&PySem.W.nsOkIn K cd.ns&&PySem.W.nsIn K cd.ns "__init__"==some none
  |_,_=>false)
 |_=>false
theorem Ru{K:au}{C:Addr}(q:Rt K C=true):O4 K C:=by
 unfold Rt at q;split at q
 ·rename_i dd cd sl ho;split at q
  ·rename_i C' bm k0 k1 k2 k3 n k5 hm hs;simp only[aC,beq_iff_eq,pW] at q;obtain ⟨⟨⟨⟨⟨rfl,rfl⟩,rfl⟩,U'⟩,cI⟩,OS⟩:=q;obtain ⟨nm,bs,mro,ns,qn,hd,sn,sub,ab,col,del⟩:=cd;dsimp only at hm U' cI OS;subst hm U'
   have YG:sl=#[k0,k1,k2,k3,some (.builtin "Exception.__new__"),k5]:=by
    obtain ⟨l⟩:=sl;simp only at hs;rw[hs]
   subst YG;exact ⟨nm,qn,ns,bs,hd,sn,sub,ab,col,dd,k0,k1,k2,k3,k5,ho,cI,OS⟩
  ·cases q
 ·cases q
section
variable{X:Cx}{C:Addr}{x:Str}{np l9 pos:Pos}
def Pb(C:Addr)(E:XK):TS:=λ_ _ H=>E (.ref C) none H
theorem nS{E:XK}(hc:X.calm=true)(ht:Thr X E)(ec:O4 X.K C)(hg:Gl X x)(hm:X.mg x=some (.ref C))(Eh:(x==("__debug__":Str))=false:=by decide):
  PS X (.Raise (some (.Call (.Name x np) [] [] l9)) none pos) (Pb C E):=by
 intro pins s σ H D I h;obtain ⟨nm,q,N,bs,hdct,sn,sub,ab,col,dd,k0,k1,k2,k3,k5,lk,cI,OS⟩:=ec.ex;have hN:s.heap.Ns N (s.heap.nsMap N):=.of_isNs (EF I.vX cI)
 refine wpAny_Raise_call_sub (C:=C) (nm:=nm) (q:=q) (N:=N) (bs:=bs) (bm:=IX) (hdct:=hdct) (sn:=sn) (sub:=sub) (ab:=ab) (col:=col) (dd:=dd) (k0:=k0) (k1:=k1) (k2:=k2) (k3:=k3) (k5:=k5)
  yG (mN:=s.heap.nsMap N) (I.ok.hd hc) rfl (y9 I.vX cI OS) (ou I hg hm ⟨rfl,?_⟩ Eh)
 refine evalArgs_empty ⟨rfl,bH _,I.vX _ _ lk,hN,λg e me=>?_⟩;exact ht pins σ H s g e (.ref C) .none I (qu.of me) h
end
section
variable{M:Model}{A:Around}{E:Value->Shared->Prop}{h:Heap}{g:Array GenState}{d:Drawn}{t:Nat}{os:OsState}
variable{nm q:Str}{C N:Addr}{bs:List Value}{hdct:Bool}{sn:List Str}{sub:List Value}{ab:Bool}{col:Option Bool}{dd:Option Addr}{k0 k1 k2 k3 k5:Option Value}{newId:String}
variable{X6 q':Str}{C' N':Addr}{Z5:List Value}{Ln:Bool}{W6:List Str}{Po:List Value}{ab':Bool}{RB:Option Bool}{Gm:Option Addr}{Yq Yp Yo Yn Ym:Option Value}{Qz:String}
theorem zC{e:Addr}{oe:Obj}{Q:Bool->Shared->Prop}
  (hC:h.get? C=some (excClassObj nm q C N bs IX hdct sn sub ab col dd k0 k1 k2 k3 k5 newId)) (hC':h.get? C'=some (excClassObj X6 q' C' N' Z5 IX Ln W6 Po ab' RB Gm Yq Yp Yo Yn Ym Qz))
  (he:h.get? e=some oe) (Ra:oe.cls=.ref C) (hq:Q (decide (C=C')) ⟨h,g,d,t,os⟩):wpAny M A (excMatches (.ref e) (.ref C')) Q E ⟨h,g,d,t,os⟩:=by
 have ZD:(Value.ref C'::IX).contains (.type "BaseException")=true:=by simp [IX]
 have hcC:(Value.ref C::IX).contains (.ref C')=decide (C=C'):=by
  by_cases z:C=C'
  ·subst z;simp
  ·have z':¬C'=C:=λy=>z y.symm;simp [z,z',IX]
 have f:=tc_notTuple;unfold excMatches
 repeat (first|(with_reducible refine wpAny_loadPart_at he ?_;rw[Ra])|with_reducible refine wpAny_loadPart_at hC' ?_|(with_reducible refine wpAny_isSubtype_exc hC' ?_;rw[ZD])|(with_reducible refine wpAny_isSubtype_exc hC ?_;rw[hcC])|wp_step)
 by_cases z:C=C'
 ·rw[decide_eq_true z] at hq⊢;exact wpAny_pure (wpAny_pure (wpAny_pure hq))
 ·rw[decide_eq_false z] at hq⊢;exact wpAny_pure (wpAny_pure (wpAny_pure hq))
end
end L2
namespace L2
open PySem PySem.Spec PyProof.Rows
theorem yM:entryFor table "proto.unchain"=some Builtin.«proto.unchain»:=entryFor_of_tree (by kernel_rfl)
section
variable{prog:Program}{w:World}{A:Around}{E:Value->Shared->Prop}{s:Shared}{env:Env}
theorem An{e1 e2:Addr}{o1:Obj}{v1:Array Value}{Q:Value->Shared->Prop}(h1:s.heap.get? e1=some o1)(d1:o1.data=.fields v1)(c1:v1[2]?=some .none)(k:Q .none s):
  wpAny (model prog w) A (runValue (.builtin "proto.unchain" ⟨[.ref e2,.ref e1,.ref e1,.bool false],[]⟩)) Q E s:=by
 refine wpAny_runValue (codeAny_builtin yM ?_);unfold Builtin.«proto.unchain»;refine wpAny_bind (wpAny_field h1 d1 c1 ?_);rw[if_pos (by decide)]
 wp_walk
 exact k
theorem BP{α:Type}{e1 e2:Addr}{o1 o2:Obj}{v1 v2:Array Value}{Q:α->Shared->Prop}(hh:A.handled=some (.ref e1))(ne:e1≠e2)(h1:s.heap.get? e1=some o1)(d1:o1.data=.fields v1)(c1:v1[2]?=some .none)
  (h2:s.heap.get? e2=some o2) (d2:o2.data=.fields v2) (z2:2<v2.size)
  (k:E (.ref e2) {s with heap:=s.heap.update e2 (Obj.mapFields (·.setIfInBounds 2 (.ref e1)))}):wpAny (model prog w) A (raiseNew (.ref e2):Sem α) Q E s:=by
 unfold raiseNew;refine wpAny_bind (wpAny_handled ?_);rw[hh];dsimp only;rw[if_pos (show (Value.ref e1 !=Value.ref e2)=true from by simp [ne])];refine wpAny_bind (wpAny_holding (An h1 d1 c1 ?_));exact wpAny_bind (wpAny_setField (a:=e2) h2 d2 z2 (wpAny_throw k))
theorem JW{C:Addr}{x:Str}{np l9 pos:Pos}{e1:Addr}{o1:Obj}{v1:Array Value}{Q:Flow->Shared->Prop}
  {nm q:Str} {N:Addr} {bs:List Value} {hdct:Bool} {sn:List Str} {sub:List Value} {ab:Bool} {col:Option Bool} {dd:Option Addr} {k0 k1 k2 k3 k5:Option Value} {mN:Str->Option Value}
  (hh:A.handled=some (.ref e1)) (h1:s.heap.get? e1=some o1) (d1:o1.data=.fields v1) (c1:v1[2]?=some .none)
  (hC:s.heap.get? C=some (excClassObj nm q C N bs IX hdct sn sub ab col dd k0 k1 k2 k3 k5 "Exception.__new__")) (hN:s.heap.Ns N mN) (OS:mN "__init__"=none)
  (hn:∀Q':Value->Shared->Prop,Q' (.ref C) s->wpAny (model prog w) A (eval (.Name x np) env) Q' E s)
  (k:∀g e,qu s.heap g e (.ref C) (.ref e1)->E (.ref e) {s with heap:=g}):
  wpAny (model prog w) A (exec (.Raise (some (.Call (.Name x np) [] [] l9)) none pos) env) Q E s:=by
 obtain ⟨hp,gs,dr,tk,os⟩:=s;rw[arm_exec_Raise];refine wpAny_bind (wpAny_standAt ?_);unfold raiseStmt;refine wpAny_bind ?_;refine wpAny_mono (Q:=λv s1=>∃e g,v=.ref e/\s1=⟨g,gs,dr,tk,os⟩/\Heap.MadeExcOf hp g e (.ref C) []) (E:=E) ?_ ?_ (λ_ _ y=>y)
 ·refine wpAny_bind (wpAny_mono (wpAny_Call_ofName (Q:=λv s1=>∃e g,v=.ref e/\s1=⟨g,gs,dr,tk,os⟩/\Heap.MadeExcOf hp g e (.ref C) []) (hn _ ?_)) (λv s3 h3=>wpAny_bind (wpAny_standAt (wpAny_pure h3))) λ_ _ y=>y);unfold callWith;refine wpAny_bind (wpAny_holding (evalArgs_empty (wpAny_bind (wpAny_standAt ?_))));refine wpAny_bind (wpAny_keeperOf_exc hC ?_);refine wpAny_bind (wpAny_call_exc_sub (hrest:=bH _) yG hC hN OS λg e hm=>wpAny_bind (wpAny_holding (wpAny_point (wpAny_pure ?_))));exact ⟨e,g,rfl,rfl,hm⟩
 ·rintro v s1 ⟨e,g,rfl,rfl,hm⟩;obtain ⟨t,he,_,_⟩:=hm.there;have hC1:=hm.keeps _ _ hC;have ZD:(Value.ref C::IX).contains (.type "BaseException")=true:=by simp [IX]
  repeat (first|with_reducible refine wpAny_loadPart_at he ?_|with_reducible refine wpAny_loadPart_at hC1 ?_|(with_reducible refine wpAny_isSubtype_exc hC1 ?_;rw[ZD])|wp_step)
  have Co:hp.get? e1=some o1:=h1
  have ne:e1≠e:=λz=>by
   have n0:=hm.new;rw[<-z,Co] at n0;cases n0
  obtain ⟨r1,r2,r3,r4⟩:=pF he rfl 2 (Value.ref e1);refine BP hh ne (hm.keeps _ _ Co) d1 c1 he rfl (by simp) (k _ e ⟨λb o z=>r1 b o (λy=>?_) (hm.keeps b o z),hm.new,_,_,r2,?_,r3,by simp,by simp⟩)
  ·have n0:=hm.new;rw[<-y] at n0;have z':hp.get? b=some o:=z;rw[n0] at z';cases z'
  ·rw[Obj.cls_mapFields]
end
end L2
namespace L2
open PySem PySem.Spec PyProof.Rows
abbrev Cx.pinned(X:Cx)(pn:List (Addr×Obj))(E:Value->Shared->Prop):Cx:={X with pn:=pn,xe:=E}
abbrev Cx.marked(X:Cx)(e:Addr)(E:Value->Shared->Prop):Cx:={X with A:=X.A.mark (some (.ref e)),calm:=false,xe:=E}
section
variable{X:Cx}{pins:List (Addr×Obj)}{σ:St}{H:Hp}{s:Shared}{E:Value->Shared->Prop}
theorem Cx.Ok.pinned(ok:X.Ok)(pn:List (Addr×Obj))(E:Value->Shared->Prop):(X.pinned pn E).Ok:=
 ⟨ok.mod,ok.kind,ok.glob,ok.blt,ok.above,ok.inj,ok.has,ok.O0,ok.hd,ok.frames,ok.BA,ok.Rr,ok.bs,ok.Ir,ok.B6,ok.Ct,ok.rZ,ok.Ly⟩
theorem Cx.Ok.pC{pn:List (Addr×Obj)}(ok:(X.pinned pn E).Ok):X.Ok:=
 ⟨ok.mod,ok.kind,ok.glob,ok.blt,ok.above,ok.inj,ok.has,ok.O0,ok.hd,ok.frames,ok.BA,ok.Rr,ok.bs,ok.Ir,ok.B6,ok.Ct,ok.rZ,ok.Ly⟩
theorem Inv.Jp(I:Inv X pins σ H s)(E:Value->Shared->Prop):Inv (X.pinned (X.pn++pins) E) [] σ H s:=
 ⟨I.ok.pinned _ E,I.os,I.bare,I.base,I.loc,I.cell,I.free,I.mj,λp hp=>I.pin p (by simpa using hp),I.cI,I.len⟩
theorem Inv.ofPinned{BU:List (Addr×Obj)}(I:Inv (X.pinned (X.pn++pins) E) BU σ H s):Inv X pins σ H s:=
 ⟨I.ok.pC,I.os,I.bare,I.base,I.loc,I.cell,I.free,I.mj,λp hp=>I.pin p (cK _ hp),I.cI,I.len⟩
theorem SP.ofPinned{D:Ends}{f:Flow}{s':Shared}(h:SP (X.pinned (X.pn++pins) E) [] D f s'):SP X pins D f s':=by
 cases f with
 |next=>obtain ⟨σ',H',J,q⟩:=h;exact ⟨σ',H',J.ofPinned,q⟩
 |brk=>obtain ⟨σ',H',J,q⟩:=h;exact ⟨σ',H',J.ofPinned,q⟩
 |cont=>obtain ⟨σ',H',J,q⟩:=h;exact ⟨σ',H',J.ofPinned,q⟩
 |ret u=>obtain ⟨v,σ',H',J,q⟩:=h;exact ⟨v,σ',H',J.ofPinned,q⟩
theorem Cx.Ok.marked(ok:X.Ok)(e:Addr)(E:Value->Shared->Prop):(X.marked e E).Ok:=
 ⟨ok.mod,ok.kind,ok.glob,ok.blt,ok.above,ok.inj,ok.has,ok.O0,(λz=>nomatch z),ok.frames,ok.BA,ok.Rr,ok.bs,ok.Ir,ok.B6,ok.Ct,ok.rZ,ok.Ly⟩
theorem Inv.marked(I:Inv X pins σ H s)(e:Addr)(E:Value->Shared->Prop):Inv (X.marked e E) pins σ H s:=
 ⟨I.ok.marked e E,I.os,I.bare,I.base,I.loc,I.cell,I.free,I.mj,I.pin,I.cI,I.len⟩
theorem Inv.unmarked{Y:Cx}{e:Addr}(hY:X.Ok)(I:Inv (X.marked e E) pins σ H s):Inv X pins σ H s:=
 ⟨hY,I.os,I.bare,I.base,I.loc,I.cell,I.free,I.mj,I.pin,I.cI,I.len⟩
theorem SP.unmarked{e:Addr}{D:Ends}{f:Flow}{s':Shared}(ok:X.Ok)(h:SP (X.marked e E) pins D f s'):SP X pins D f s':=by
 cases f with
 |next=>obtain ⟨σ',H',J,q⟩:=h;exact ⟨σ',H',J.unmarked (Y:=X) ok,q⟩
 |brk=>obtain ⟨σ',H',J,q⟩:=h;exact ⟨σ',H',J.unmarked (Y:=X) ok,q⟩
 |cont=>obtain ⟨σ',H',J,q⟩:=h;exact ⟨σ',H',J.unmarked (Y:=X) ok,q⟩
 |ret u=>obtain ⟨v,σ',H',J,q⟩:=h;exact ⟨v,σ',H',J.unmarked (Y:=X) ok,q⟩
def bot(X:Cx):St:=X.N.map λ_=>none
theorem Inv.bot(I:Inv X pins σ H s):Inv X pins (bot X) H s:=I.weak (by unfold L2.bot;rw[aj];exact I.len.symm) λi v e=>by
 unfold L2.bot at e;rw[cu] at e;cases z:X.N[i]? with
 |none=>rw[z] at e;cases e
 |some y=>rw[z] at e;cases e
end
abbrev TH:=Ends->Value->Option Addr->Hp->Prop
def PH(X:Cx)(hs:List ExceptHandler)(th:TH):Prop:=∀(pins:List (Addr×Obj)) (σ:St) (H:Hp) (s:Shared) (D:Ends) (e:Addr) (cls c2:Value) (B:Heap),
 tT X pins σ H s B->Fl B X.stack e cls c2 .none s.heap->th D cls (ctx c2) H->wpAny (model X.prog X.w) X.A (handleBy (.ref e) X.env hs) (SP X pins D) X.xe s
def WU(tb:XK->TS)(th:TH):TS:=λD σ H=>tb (λcls o H'=>th D cls o H') D σ H
section
variable{X:Cx}{body:List Stmt}{h0:ExceptHandler}{hs:List ExceptHandler}{pos:Pos}{tb:XK->TS}{th:TH}
theorem DL(W:X.Own)(hb:∀(E:XK) (pn:List (Addr×Obj)) (E2:Value->Shared->Prop),Passes (l8 X.prog X.w) (X.pinned pn E2) E->A6 (X.pinned pn E2) body (tb E))(hh:PH X (h0::hs) th):
  PS X (.Try body (h0::hs) [] [] pos) (WU tb th):=by
 intro pins s σ H D I h;refine wpAny_Try_except ?_;refine wpAny_mono (hb (λcls o H'=>th D cls o H') (X.pn++pins) _ ?_ [] s σ H D (I.Jp _) h) (λf s1 q=>?_) (λ_ _ y=>y)
 ·intro BU σ1 H1 s1 ev s' J c;have J1:Inv X pins σ1 H1 s1:=J.ofPinned;obtain ⟨e,cls,c2,B,H',rfl,os,bare,f,b1,b2,un,ok,hE⟩:=c;have d0:tT X pins σ1 H' s' B:=tT.FG (e:=e) (cls:=cls) (c2:=c2) J1 W os bare b1 b2 un ok;have hA:X.A.frames=some X.stack:=I.ok.frames;rw[W.BA] at f;refine Gi (W.fr hA) W.So f λg1 f1 u1=>?_;refine sI f1 λg2 f2 u2=>?_;rw[<-W.BA] at f2;exact hh pins σ1 H' _ D e cls c2 B ((d0.move W f1.st u1).move W f2.st u2) f2 hE
 ·have q1:SP X pins D f s1:=SP.ofPinned q;cases f with
  |next=>exact wpAny_execs_nil q1
  |brk=>exact q1
  |cont=>exact q1
  |ret u=>exact q1
end
section
variable{X:Cx}{C:Addr}{x:Str}{np pos:Pos}{b0:Stmt}{OC:List Stmt}{rest:List ExceptHandler}{th:TH}{ts:TS}
def Gon(X:Cx)(E:XK):Prop:=∀(pins:List (Addr×Obj)) (σ:St) (H:Hp) (s:Shared) (e:Addr) (cls c2:Value) (B:Heap),tT X pins σ H s B->Fl B X.stack e cls c2 (rawInt X.env.locals) s.heap->E cls (ctx c2) H->X.xe (.ref e) s
theorem Ib{A:Around}{E:XK}{Ee:Value->Shared->Prop}{pins:List (Addr×Obj)}{σ:St}{H:Hp}{s:Shared}{e:Addr}{cls c2:Value}{B:Heap}(W:X.Own)(d:tT X pins σ H s B)(f:Fl B X.stack e cls c2 (rawInt X.env.locals) s.heap)(hE:E cls (ctx c2) H):
  wpAny (model X.prog X.w) A (leaving X.env (.ref e)) (λ_ Nc=>l8 X.prog X.w X.outer X.IY X.uW E (.ref e) Nc) Ee s:=by
 obtain ⟨hB,hn,hF,oe,vs,T,oT,tz,he,hc,hd,h1,h2,Mj,Mp,hT,HX,h3⟩:=id f;unfold leaving;refine wpAny_bind (wpAny_noteFrame_inFlight W.So he hd h1 hT HX h3 ?_);refine sI f λg2 f2 u2=>?_;rw[W.BA] at f2;exact (d.move W f2.st u2).left W f2.out hE
theorem Ei{P:Program}{w:World}{K:au}{mg:Str->Option Value}{base:Heap}{N:List Str}{qual:Str}{scope:Scope}{f:Addr}{cd:Value}{A:Around}{outer:List Env}{s:Shared}{H:Hp}{E:XK}:
  Gon (qt (l8 P w) P w K mg base N qual scope f cd A outer s H E) E:=λpins σ H1 s1 e cls c2 B d fl hE=>Ib ⟨rfl,rfl,rfl⟩ d fl hE
def hOn(E:XK):TH:=λ_ cls o H=>E cls o H
theorem J'{E:XK}(W:X.Own)(g:Gon X E):PH X [] (hOn E):=by
 intro pins σ H s D e cls c2 B d f h;obtain ⟨hB,hn,hF,oe,vs,T,oT,tz,he,hc,hd,h1,h2,Mj,Mp,hT,HX,h3⟩:=id f;have z3:3<tz.size:=(iL.mp h3).1;refine wpAny_handleBy_nil ?_;unfold PySem.passOn;refine wpAny_bind (wpAny_field he hd h1 ?_);rw[if_neg (show¬((Value.ref T==Value.none)=true) from by simp)];unfold setFlight;refine wpAny_bind (wpAny_bind (wpAny_field he hd h1 ?_));rw[if_pos (show (Value.ref T !=Value.none)=true from by simp),W.So];obtain ⟨r1,r2,r3,r4⟩:=pF hT HX 3 (rawInt X.env.locals);refine wpAny_setField hT HX z3 (wpAny_throw ?_)
 have f2:Fl B X.stack e cls c2 (rawInt X.env.locals) (s.heap.update T (Obj.mapFields (·.setIfInBounds 3 (rawInt X.env.locals)))):=
  ⟨λb o q=>r1 b o (λz=>by rw[z,Mj] at q;cases q) (hB b o q),hn,hF.of_keeps λb o q CW=>⟨o,r1 b o (r4 b o q CW) q,rfl⟩,
   ⟨oe,vs,T,_,_,r1 e oe (nJ Mp) he,hc,hd,h1,h2,Mj,Mp,r2,r3,by simp [z3]⟩⟩
 exact g pins σ H _ e cls c2 B (d.move W f2.st λb o q CW=>⟨o.slots,r1 b o (r4 b o q CW) q⟩) f2 h
def Vh(K:au)(C:Addr)(σ:St)(ts:TS)(th:TH):TH:=λD cls o H=>∃C1,cls=.ref C1/\O4 K C1/\if C1=C then ts D σ H else th D cls o H
theorem ug(W:X.Own)(ec:O4 X.K C)(hg:Gl X x)(hm:X.mg x=some (.ref C))(hs:∀e,A6 (X.marked e λ_ _=>False) (b0::OC) ts)(hr:PH X rest th)(Eh:(x==("__debug__":Str))=false:=by decide):
  PH X (.ExceptHandler (some (.Name x np)) none (b0::OC) pos::rest) (Vh X.K C (bot X) ts th):=by
 intro pins σ H s D e cls c2 B d f h;obtain ⟨C1,rfl,ZZ,h⟩:=h;obtain ⟨nm,q,N,bs,hdct,sn,sub,ab,col,dd,k0,k1,k2,k3,k5,lk,cI,OS⟩:=ec.ex;obtain ⟨X6,q',N',Z5,Ln,W6,Po,ab',RB,Gm,Yq,Yp,Yo,Yn,Ym,Yg,NX,Y4⟩:=ZZ.ex;obtain ⟨hB,hn,hF,oe,vs,T,oT,tz,he,hc,hd,h1,h2,Mj,Mp,hT,HX,h3⟩:=id f;have I:=d.inv;refine wpAny_handleBy_cons (codeAny_handlers_test (ou (X:=X.marked e X.xe) (I.marked e X.xe) hg hm ?_ Eh)) (by intro z;cases z);obtain ⟨hp,gs,dr,tk,os⟩:=s;refine zC (I.vX _ _ Yg) (I.vX _ _ lk) he hc ?_
 by_cases z:C1=C
 ·rw[if_pos z] at h;rw[decide_eq_true z];refine codeAny_handlers_suite (sI f λg2 f2 u2=>?_);have d2:=d.move W f2.st u2;refine wpAny_mono (hs e pins _ (bot X) H D (d2.inv.bot.marked e _) h) (λfl s2 y=>?_) (λ_ _ y=>y.elim);exact SP.unmarked I.ok y
 ·rw[if_neg z] at h;rw[decide_eq_false z];exact hr pins σ H _ D e (.ref C1) c2 B d f h
def Rk(K:au)(C C':Addr)(E:XK)(th:TH):TH:=λD cls o H=>∃C1,cls=.ref C1/\O4 K C1/\if C1=C then o=none/\E (.ref C') (some 0) H else th D cls o H
theorem J_{C':Addr}{y:Str}{ny l9 XF:Pos}{E:XK}(W:X.Own)(ec:O4 X.K C)(hg:Gl X x)(hm:X.mg x=some (.ref C))(ec':O4 X.K C')(Lm:Gl X y)(Wr:X.mg y=some (.ref C'))(hr:PH X rest th)
  (ht:∀(pins:List (Addr×Obj)) (σ:St) (H:Hp) (s:Shared) (g:Heap) (e e1:Addr) (cls c2:Value),Inv X pins σ H s->qu s.heap g e cls c2->E cls (ctx c2) H->notedBy (model X.prog X.w) (X.A.mark (some (.ref e1))) X.env (cameBackBy (model X.prog X.w) X.A X.env X.xe) (.ref e) {s with heap:=g})
  (Eh:(x==("__debug__":Str))=false:=by decide) (Zx:(y==("__debug__":Str))=false:=by decide):
  PH X (.ExceptHandler (some (.Name x np)) none [.Raise (some (.Call (.Name y ny) [] [] l9)) none XF] pos::rest) (Rk X.K C C' E th):=by
 intro pins σ H s D e cls c2 B d f h;obtain ⟨C1,rfl,ZZ,h⟩:=h;obtain ⟨nm,q,N,bs,hdct,sn,sub,ab,col,dd,k0,k1,k2,k3,k5,lk,cI,OS⟩:=ec.ex;obtain ⟨X6,q',N',Z5,Ln,W6,Po,ab',RB,Gm,Yq,Yp,Yo,Yn,Ym,Yg,NX,Y4⟩:=ZZ.ex;obtain ⟨hB,hn,hF,oe,vs,T,oT,tz,he,hc,hd,h1,h2,Mj,Mp,hT,HX,h3⟩:=id f;have I:=d.inv;refine wpAny_handleBy_cons (codeAny_handlers_test (ou (X:=X.marked e X.xe) (I.marked e X.xe) hg hm ?_ Eh)) (by intro z;cases z);obtain ⟨hp,gs,dr,tk,os⟩:=s;refine zC (I.vX _ _ Yg) (I.vX _ _ lk) he hc ?_
 by_cases z:C1=C
 ·rw[if_pos z] at h;obtain ⟨ho,hE⟩:=h;rw[decide_eq_true z];refine codeAny_handlers_suite (sI f λg2 f2 u2=>?_);have d2:=d.move W f2.st u2;have I2:=d2.inv;obtain ⟨_,_,_,oe2,vs2,T2,oT2,tz2,he2,wc,hd2,ZQ,h22,_⟩:=id f2
  obtain rfl:c2=Value.none:=by
   cases c2<;>first|rfl|(unfold ctx at ho;cases ho)
  obtain ⟨nm3,q3,N3,bs3,a1a,sn3,a13,ab3,a4g,dd3,j0,j1,j2,j3,j5,lk3,Ci,Y3⟩:=ec'.ex;refine wpAny_execs_cons (JW (e1:=e) rfl he2 hd2 h22 (I2.vX _ _ lk3) (.of_isNs (EF I2.vX Ci)) (y9 I2.vX Ci Y3) (λQ' hq=>ou (X:=X.marked e X.xe) (I2.marked e X.xe) Lm Wr hq Zx) λg3 e3 t3=>?_);exact ht pins σ H _ g3 e3 e _ _ I2 t3 hE
 ·rw[if_neg z] at h;rw[decide_eq_false z];exact hr pins σ H _ D e (.ref C1) c2 B d f h
theorem Mv{P:Program}{w:World}{K:au}{mg:Str->Option Value}{base:Heap}{N:List Str}{qual:Str}{scope:Scope}{f:Addr}{cd:Value}{A:Around}{outer:List Env}{s0:Shared}{H0:Hp}{E:XK}
  (pins:List (Addr×Obj)) (σ:St) (H:Hp) (s:Shared) (g:Heap) (e e1:Addr) (cls c2:Value) (I:Inv (qt (l8 P w) P w K mg base N qual scope f cd A outer s0 H0 E) pins σ H s) (T:qu s.heap g e cls c2) (hE:E cls (ctx c2) H):
  notedBy (model P w) ((qt (l8 P w) P w K mg base N qual scope f cd A outer s0 H0 E).A.mark (some (.ref e1))) (qt (l8 P w) P w K mg base N qual scope f cd A outer s0 H0 E).env
   (cameBackBy (model P w) (qt (l8 P w) P w K mg base N qual scope f cd A outer s0 H0 E).A (qt (l8 P w) P w K mg base N qual scope f cd A outer s0 H0 E).env (qt (l8 P w) P w K mg base N qual scope f cd A outer s0 H0 E).xe) (.ref e) {s with heap:=g}:=
 PassesOwnAt.leaving _ _ (Cw I ⟨rfl,rfl,rfl⟩ I.ok.frames T hE)
end
end L2
namespace L2
open PySem PySem.Spec PyProof.Rows
theorem readsAll_ints{R:IC}{cl:Str->Option Addr}{h:Heap}:∀{vs:List Value} {ns:List Int},IntsAre vs ns->∃as,PySem.W.ReadsAllW R cl h vs (ns.map PySem.W.WData.int) as
 |_,_,.nil=>⟨[],.nil⟩
 |_,_,.cons n t q=>let ⟨as,z⟩:=readsAll_ints q;⟨[]++as,.cons (.int n t) z⟩
theorem G0{P:Program}{w:World}{K:au}{mg mb:Str->Option Value}{CX:I0}{k:Nat}{fa a:Addr}{fd:FuncData}{x:Str}{sp:Sp}{s1:Shared}{vs:List Value}{ns ms:List Int}{R:IC}{cl:Str->Option Addr}
  (KX:K.In s1.heap) (hns:s1.heap.Ns mainGlobals mg) (hb:s1.heap.Ns builtinsNs mb) (Lr:∀x:Str,x≠"__name__"->mb x=bootBuiltins x) (Zd:s1.heap.NoLimit) (hg:s1.gens=#[])
  (ha:s1.heap.get? a=some {cls:=.type "list",data:=.seq vs.toArray}) (hi:IntsAre vs ns) (hl:ns.length<=sizeLine) (hr:i9 k callerA)
  (F:∀base:Heap,K.In base->base.Ns mainGlobals mg->dU P w K mg base CX k fa fd [x] sp) (Vc:∀(s:Shared) (u:Value),BindsTo s fd ⟨[u],[]⟩ [(x,u)])
  (Mg:∀H:Hp,RQ H->mY K H a (ns.map V.int)->sp [.ref a] H (λv H'=>∃l,v=.ref l/\H' l=some (.lst (ms.map V.int))) λ_ _ _=>False)
  (ZO:∀H e s',CX [] H s1 (λ_ _ _=>False) e s'->False):
  codeAny (model P w) callerA (.call (.ref fa) ⟨[.ref a],[]⟩) (λr s'=>(∃v as,r=.ok (.ret v)/\PySem.W.ReadsW R cl s'.heap v (.list (ms.map .int)) as)/\OldK s1.heap s'.heap/\s'.os=s1.os/\AllBare s'.gens) s1:=by
 have rv:=zc hi;have Yh:=hi.length
 have core:∀H:Hp,RQ H->mY K H a (ns.map V.int)->qO P w H s1.heap->(∀b,H b≠none->b=a)->(H a≠none->K.lookup a=none)->
   codeAny (model P w) callerA (.call (.ref fa) ⟨[.ref a],[]⟩) (λr s'=>(∃v as,r=.ok (.ret v)/\PySem.W.ReadsW R cl s'.heap v (.list (ms.map .int)) as)/\OldK s1.heap s'.heap/\s'.os=s1.os/\AllBare s'.gens) s1:=by
  intro H hO hS cI hA hK;have Gs:∀{b:Addr} {o:Obj},s1.heap.get? b=some o->H b=none->(A0 s1.heap H).get? b=some o:=λe n=>Lk e n
  have Ue:∀{b:Addr} {o:Obj} {es:Array DictEntry} {ep:Nat},s1.heap.get? b=some o->o.data=.dict es ep->H b=none:=λ{b o es ep} e d=>by
   cases q:H b with
   |none=>rfl
   |some u=>
    have e':b=a:=hA b (by rw[q];simp);subst e';rw[ha] at e;cases e;have d':Data.seq vs.toArray _=Data.dict es ep:=d;cases d'
  have V_:∀{b:Addr} {m:Str->Option Value},s1.heap.Ns b m->(A0 s1.heap H).Ns b m:=λ{b m} ⟨o,es,ep,e,d,r⟩=>⟨o,es,ep,Gs e (Ue e d),d,r⟩
  have hKb:K.In (A0 s1.heap H):=λb o e=>Gs (KX b o e) (by
   cases q:H b with
   |none=>rfl
   |some u=>
    have e':b=a:=hA b (by rw[q];simp);subst e';rw[hK (by rw[q];simp)] at e;cases e)
  have hM:Mod K mg (A0 s1.heap H):=⟨hKb,V_ hns,⟨mb,V_ hb,Lr⟩,let ⟨mc,h1,h2⟩:=Zd;⟨mc,V_ h1,h2⟩⟩
  have e0:ED P w K mg (A0 s1.heap H) callerA [] s1 H:=⟨rfl,hM,λb o e=>NJ e,wC (HV _ _),trivial,λb hb=>absurd (show b∈([]:List Addr) from hb) (by simp),cI,.of_eq hg⟩
  refine codeAny_mono ((F _ hKb (V_ hns)).run callerA [] s1 H ⟨[.ref a],[]⟩ [.ref a] [.ref a] _ _ hr e0 (Vc s1 (.ref a)) (.cons rfl .nil) (Mg H hO hS)) λr s' h=>?_;cases r with
  |error e=>exact (ZO H e s' h).elim
  |ok fl=>
   cases fl with
   |next=>exact gF h
   |brk=>exact gF h
   |cont=>exact gF h
   |ret u=>
    obtain ⟨v,H',os,bare,un,NX,r',l,q,hl⟩:=h;subst q;obtain rfl:u=Value.ref l:=r';obtain ⟨_,dN,n,rvs,ho⟩:=NX l _ hl;obtain ⟨as,ra⟩:=readsAll_ints (R:=R) (cl:=cl) (h:=s'.heap) (Vals.ints rvs);refine ⟨⟨.ref l,_,rfl,.list ho rfl rfl (by simpa using ra)⟩,OldK.of_keep λb o e=>?_,os,bare⟩;cases q:H b with
    |none=>exact un.keep b o e q (by intro z;exact absurd (show b∈([]:List Addr) from z) (by simp)) (by simp)
    |some u=>
     rcases hO b with z|⟨ob,xs,z⟩
     ·rw[q] at z;cases z
     ·have z2:=un.wk b ob _ z;obtain ⟨e1,_⟩:=cI b _ z;obtain ⟨e2,_⟩:=NX b _ z2;rw[e] at e1;cases e1;exact e2
 cases hk:K.lookup a with
 |some o=>
  have e:=KX a o hk;rw[ha] at e;cases e;refine core (λ_=>none) (λ_=>.inl rfl) (.inr ⟨_,vs.toArray,_,hk,rfl,rfl,rfl,by rw[aT,Yh];exact hl,by simpa using rv⟩) (λb u z=>by have z':(none:Option HO)=some u:=z;cases z') (λb z=>absurd rfl z) λz=>absurd rfl z
 |none=>
  refine core (λb=>if b=a then some (.nG {cls:=.type "list",data:=.seq vs.toArray} (.lst (ns.map V.int))) else none) (λb=>?_) (.inl (.inr ⟨{cls:=.type "list",data:=.seq vs.toArray},if_pos rfl⟩)) (λb u z=>?_) (λb z=>?_) λ_=>hk
  ·by_cases hb:b=a
   ·exact .inr ⟨_,_,if_pos hb⟩
   ·exact .inl (if_neg hb)
  ·by_cases hb:b=a
   ·have z':=(if_pos hb).symm.trans z;cases z';subst hb;exact ⟨ha,by rw[aj];exact hl,vs,_,rv,ha⟩
   ·have z':=(if_neg hb).symm.trans z;cases z'
  ·by_cases hb:b=a
   ·exact hb
   ·exact absurd (if_neg hb) z
theorem GO{r:PySem.W.OpenSpec}{n k:Nat}{q:Program}{loose:List Str}{XP:(Str->Option Value)->Heap->Prop}{YP:World->Heap->Prop}{d:DefRec}{K:Params->au}{CX:World->I0}{sp:World->Sp}{x:Str}
  {Ma:List Int->Prop} {f:List Int->List Int}
  (YO:∀as,r.pre as=true->∃ns:List Int,as=[.list (ns.map .int)]/\ns.length<=n/\Ma ns)
  (UK:∀ns,r.pre [.list (ns.map .int)]=true->r.post [.list (ns.map .int)] (.list ((f ns).map .int))=true)
  (C0:n<=sizeLine) (Zv:d.params.defaults=[]) (hr:i9 k callerA)
  (hY:∀(w:World) (h:Heap),YP w h->(K w.params).In h)
  (F:∀(w:World) (mg:Str->Option Value) (fa:Addr) (h:Heap),(K w.params).In h->h.Ns mainGlobals mg->mg d.name=some (.ref fa)->
   ∃fd:FuncData,(∀(s:Shared) (u:Value),BindsTo s fd ⟨[u],[]⟩ [(x,u)])/\
    ∀base:Heap,(K w.params).In base->base.Ns mainGlobals mg->dU r.prog w (K w.params) mg base (CX w) k fa fd [x] (sp w))
  (Mg:∀(w:World) (H:Hp) (a:Addr) (ns:List Int),Ma ns->RQ H->mY (K w.params) H a (ns.map V.int)->sp w [.ref a] H (λv H'=>∃l,v=.ref l/\H' l=some (.lst ((f ns).map V.int))) λ_ _ _=>False)
  (ZO:∀(w:World) (H:Hp) (s:Shared) (e:Value) (s':Shared),CX w [] H s (λ_ _ _=>False) e s'->False):
  PySem.W.WalkOS q loose XP YP r d [] (λf vs=>PySem.call f vs):=by
 intro w s0 s1 mg mb G Y fa o pm cd doc dV kV ho hd uv hD hmg hg args vals as hp a3g hrd vZ hlo;obtain rfl:dV=.none:=PySem.W.Dflts.none hD Zv;obtain rfl:kV=.none:=PySem.W.Dflts.noKw hD;obtain ⟨ns,rfl,hlen,hA⟩:=YO args hp;cases vZ with
 |cons w1 w2=>
  cases w2;cases w1 with
  |list YZ ZJ=>
   have hints:=Att.vY ns _ ZJ;have KX:=hY w _ Y;obtain ⟨fd,hb,hF⟩:=F w mg fa _ KX G.T.g hmg;refine wpAny_call (codeAny_mono (G0 (ms:=f ns) (R:=r.claim.records) (cl:=PySem.classAt s0.heap) KX G.T.g G.T.b G.T.builtins G.T.nolimit hg YZ hints (cE hlen C0) hr hF hb (λH hO hS=>Mg w H _ ns hA hO hS) λH e s'=>ZO w H s1 e s') λres s' h=>?_);obtain ⟨⟨v,as',rfl,rd⟩,h2,h3,h4⟩:=h;exact ⟨.inl ⟨v,_,as',rfl,PySem.W.osNone,rd,PySem.W.osPost (UK ns hp),λz=>absurd z cW⟩,h2,h3,h4⟩
end L2
namespace L2
open PySem PySem.Spec PyProof.Rows
def JY(K:au):List V->Hp->VK->Prop:=λvs H Q=>∃(a:Addr) (ns:List Int),vs=[V.ref a]/\mY K H a (ns.map V.int)/\
 ∀(CV:List Int) (p:Addr),CV.Perm ns->CV.Pairwise (·<=·)->H p=none->Q (.ref p) (upd H p (.lst (CV.map V.int)))
theorem Er{X:Cx}:oH X (.builtin "sorted") (JY X.K):=by
 intro pins s σ H vs us Q I r h;obtain ⟨a,ns,rfl,hs,q⟩:=h;obtain ⟨dN,rv,hl,hz⟩:=I.list hs;rw[Vals.JR r];have hi:=rv.ints;have La:ns.length<=sizeLine:=by rw[aj] at hz;exact hz
 refine PyProof.Rows.sorted_intsAny hl.isList hi (by rw[hi.length];exact La) λout CV h1 h2 h3=>?_;obtain ⟨ep,U9⟩:=vz s.heap dN out;have hlen:(CV.map V.int).length<=sizeLine:=by rw[aj,h2.length_eq];exact La
 exact ⟨.ref _,upd H (s.heap.objs.size+1) (.lst (CV.map V.int)),I.laid (t':=s.toks) (λ_ _=>uK) (jF _) ⟨hlen,out.toList,ep,p9 h1,U9⟩,rfl,q CV _ h2 h3 (I.cI.fresh (jF _))⟩
def nT(x y:Int×Int):Prop:=x.1<y.1\/(x.1=y.1/\x.2<=y.2)
theorem Ka{α β:Type}{f:α->β}{l m:List β}(h:l.Perm m):∀rs:List α,m=rs.map f->∃Bc:List α,Bc.Perm rs/\l=Bc.map f:=by
 induction h with
 |nil=>
  intro rs e;cases rs with
  |nil=>exact ⟨[],.nil,rfl⟩
  |cons r t=>cases e
 |cons x p ih=>
  intro rs e;cases rs with
  |nil=>cases e
  |cons r t=>
   rw[aI] at e;injection e with e1 e2
   obtain ⟨t',p',e'⟩:=ih t e2;exact ⟨r::t',p'.cons r,by rw[aI,e1,e']⟩
 |swap x y l=>
  intro rs e;cases rs with
  |nil=>cases e
  |cons r t=>
   cases t with
   |nil=>cases e
   |cons r2 t=>
    rw[aI,aI] at e;injection e with e1 e2
    injection e2 with e2 e3
    exact ⟨r2::r::t,.swap _ _ _,by rw[aI,aI,e1,e2,e3]⟩
 |trans p1 p2 ih1 ih2=>
  intro rs e;obtain ⟨r2,q2,e2⟩:=ih2 rs e;obtain ⟨r1,q1,e1⟩:=ih1 r2 e2;exact ⟨r1,q1.trans q2,e1⟩
def RV:Nat->Bool:=λ_=>false
abbrev mF(H:Hp)(a:Addr)(r:Int×Int):Prop:=H a=some (.tup [.int r.1,.int r.2])
theorem pair_items{X:Cx}{pins:List (Addr×Obj)}{σ:St}{H:Hp}{s:Shared}{a:Addr}{r:Int×Int}(I:Inv X pins σ H s)(h:mF H a r):
  ∃o n t u,s.heap.get? a=some o/\o.cls=.type "tuple"/\o.data=.seq #[Value.int r.1 t,Value.int r.2 u] n:=by
 obtain ⟨_,dN,rv,o,ho,hc,n,hd⟩:=I.cI a _ h;obtain ⟨t,u,rfl⟩:=Vals.Ys rv;exact ⟨o,n,t,u,ho,hc,hd⟩
theorem Kf{h:Heap}{a:Addr}{o:Obj}{n:Nat}{i j:Int}{t u:Tok}(ho:h.get? a=some o)(hc:o.cls=.type "tuple")(hd:o.data=.seq #[Value.int i t,Value.int j u] n):
  G.tupKeyC h RV (.ref a)=some [aW i,aW j]:=by
 have h1:G.isTupObj h (.ref a)=true:=by
  unfold G.isTupObj;simp [ho,hc]
 unfold G.tupKeyC;rw[if_pos h1];unfold tupKey;simp only[ho,hd];rfl
theorem K7{x y:Int×Int}(h:KeyOrd.kle (listOrd itemOrd) [aW x.1,aW x.2] [aW y.1,aW y.2]):nT x y:=by
 have h':lexLt itemOrd [aW y.1,aW y.2] [aW x.1,aW x.2]=false:=h;rw[lex_false] at h';obtain ⟨h1,h2⟩:=h';have e1:itemLt (aW y.1) (aW x.1)=false:=h1;have e1':¬y.1<x.1:=by simpa [itemLt] using e1
 rcases h2 with h2|h2
 ·have e2:itemLt (aW x.1) (aW y.1)=true:=h2;have Rw:x.1<y.1:=by simpa [itemLt] using e2
  exact .inl Rw
 ·rw[lex_false] at h2;have e3:itemLt (aW y.2) (aW x.2)=false:=h2.1;have WC:¬y.2<x.2:=by simpa [itemLt] using e3
  unfold nT;omega
def JX(K:au):List V->Hp->VK->Prop:=λvs H Q=>∃(a:Addr) (rs:List (Addr×Int×Int)),vs=[V.ref a]/\mY K H a (rs.map λr=>V.ref r.1)/\(∀r∈rs,mF H r.1 r.2)/\
 ∀(Bc:List (Addr×Int×Int)) (p:Addr),Bc.Perm rs->Bc.Pairwise (λx y=>nT x.2 y.2)->H p=none->Q (.ref p) (upd H p (.lst (Bc.map λr=>V.ref r.1)))
theorem Ep{X:Cx}:oH X (.builtin "sorted") (JX X.K):=by
 intro pins s σ H vs us Q I r h;obtain ⟨a,rs,rfl,hs,hp,q⟩:=h;obtain ⟨dN,rv,hl,hz⟩:=I.list hs;rw[Vals.JR r];have La:rs.length<=sizeLine:=by rw[aj] at hz;exact hz
 have ei:dN=rs.map λr=>Value.ref r.1:=by
  have e:=Fe (ps:=rs.map (·.1)) (us:=dN) (by rw[ay];exact rv);rw[e,ay];rfl
 have hil:dN.length<=sizeLine:=by rw[ei,aj];exact La
 have hT:∀ts:List (Addr×Int×Int),(∀r∈ts,mF H r.1 r.2)->∃fs,TupsOf s.heap RV (ts.map λr=>Value.ref r.1) fs:=by
  intro ts
  induction ts with
  |nil=>exact λ_=>⟨[],.nil⟩
  |cons t ts ih=>
   intro hh;obtain ⟨fs,hf⟩:=ih λr hr=>hh r (aB _ hr);obtain ⟨o,n,t1,t2,ho,hc,hd⟩:=pair_items I (hh t aJ);exact ⟨_,.cons ⟨t.1,o,_,n,rfl,ho,hc,hd,rfl,λ_=>⟨_,_,rfl⟩,λz=>nomatch z⟩ hf⟩
 have HU:∀r∈rs,G.tupKeyC s.heap RV (.ref r.1)=some [aW r.2.1,aW r.2.2]:=λr hr=>by
  obtain ⟨o,n,t1,t2,ho,hc,hd⟩:=pair_items I (hp r hr);exact Kf ho hc hd
 obtain ⟨fs,hf⟩:=hT rs hp;rw[<-ei] at hf;refine G.sorted_tups (shape:=RV) hl.isList hf (λv hv=>?_) hil λst p1 p2 p3=>?_
 ·rw[ei] at hv;obtain ⟨r,hr,rfl⟩:=aq.mp hv;exact ⟨_,HU r hr⟩
 ·have pl:(arrOf st).toList.Perm (dN.zip dN):=by
   have:=Array.perm_iff_toList_perm.mp p1;rw[pairsOf_toList] at this;exact this
  have Nr:∀x∈(arrOf st).toList,x.1=x.2:=λx hx=>by
   have hm:=pl.mem_iff.mp hx;obtain ⟨i,hi⟩:=EI.mp hm;rw[List.getElem?_zip_eq_some] at hi;exact bC (hi.1.symm.trans hi.2)
  have p2s:((arrOf st).toList.map (·.2)).Perm dN:=by
   have:=pl.map (·.2);rw[List.map_snd_zip (aL _)] at this;exact this
  obtain ⟨Bc,pr,er⟩:=Ka p2s rs ei;obtain ⟨ep,U9⟩:=vz s.heap dN ((arrOf st).map (·.2));have UO:((arrOf st).map (·.2)).toList=Bc.map λr=>Value.ref r.1:=by rw[Array.toList_map];exact er
  have hlen:(Bc.map λr=>V.ref r.1).length<=sizeLine:=by rw[aj,pr.length_eq];exact La
  have vals:∀ts:List (Addr×Int×Int),Vals (ts.map λr=>V.ref r.1) (ts.map λr=>Value.ref r.1):=by
   intro ts
   induction ts with
   |nil=>exact .nil
   |cons t ts ih=>exact .cons rfl ih
  refine ⟨.ref _,upd H (s.heap.objs.size+1) (.lst (Bc.map λr=>V.ref r.1)),I.laid (t':=s.toks) (λ_ _=>uK) (jF _) ⟨hlen,((arrOf st).map (·.2)).toList,ep,by rw[UO];exact vals _,U9⟩,rfl,q Bc _ pr ?_ (I.cI.fresh (jF _))⟩;rw[pA];intro i j hi hj Q7
  have hsz:(arrOf st).size=Bc.length:=by
   have:=congrArg nj UO;rw[aj,jk,Array.size_map] at this;exact this
  have kk:∀k (hk:k<Bc.length),KK (G.tupKindC s.heap RV) (arrOf st) k=[aW Bc[k].2.1,aW Bc[k].2.2]:=λk hk=>by
   have NZ:k<(arrOf st).size:=by rw[hsz];exact hk
   have e1:((arrOf st).toList.map (·.2))[k]?=some (Value.ref Bc[k].1):=by rw[er,cu,cM hk];rfl
   rw[cu] at e1;cases e0:(arrOf st).toList[k]? with
   |none=>rw[e0] at e1;cases e1
   |some x=>
    rw[e0] at e1;have e2:x.2=Value.ref Bc[k].1:=bC e1;have e3:x.1=Value.ref Bc[k].1:=(Nr x (cA e0)).trans e2;have e4:(arrOf st)[k]?=some x:=by rw[<-Dk];exact e0
    unfold KK;rw[e4];show (G.tupKeyC s.heap RV x.1).getD _=_;rw[e3,HU _ (pr.mem_iff.mp (List.getElem_mem hk))];rfl
  have le:=p2 i j (dR Q7) (by rw[pairsOf_size,ei,aj,<-pr.length_eq];exact hj);rw[kk i hi,kk j hj] at le;exact K7 le
end L2
namespace L2
open PySem PySem.Spec PyProof.Rows PySem.Calls
section
variable{prog:Program}{w:World}{A:Around}{E:Value->Shared->Prop}{s:Shared}
theorem LP{t b:Addr}{ws:List Value}{Q:Value->Shared->Prop}(ht:IsTup s.heap t ([]:List Value).toArray)(hb:IsTup s.heap b ws.toArray)(h:Q (.ref b) s):wpAny (model prog w) A (binaryOp .Add (.ref t) (.ref b)) Q E s:=by
 obtain ⟨⟨cls,dd,data,sl⟩,ho,hc,n,hd⟩:=id ht;obtain ⟨⟨Z4,WG,data2,VY⟩,Ec,wc,n2,hd2⟩:=id hb;simp only at hc hd wc hd2;subst hc hd wc hd2
 exact concat_meets ⟨_,ho,rfl⟩ ⟨_,Ec,rfl⟩ noFill_tuple_add seq_tuple_add qv pV (o9 _ _)
   (tuple_addW0 t b ([]:List Value).toArray ws.toArray n n2 dd WG sl VY (by simp)) ⟨ho,Ec,h⟩
theorem pL:fillsNumberSlot (.type "tuple") "mul"=pure false:=
 PySem.fillsNumberSlot_seq (id:="tuple.__mul__") (r:=some (.builtin "tuple.__rmul__")) lY.lookup (by decide+kernel) Ac.lookup (by decide+kernel)
theorem ua:seqRepeat? (.type "tuple")=pure (some (.builtin "tuple.__mul__")):=by
 unfold seqRepeat?;rw[PySem.seqSlot_of (T:="tuple") (name:="__mul__") (id:="tuple.__mul__") lY.lookup (by decide+kernel),PySem.seqSlot_of (T:="tuple") (name:="__rmul__") (id:="tuple.__rmul__") Ac.lookup (by decide+kernel)];rfl
theorem t_(a:Int)(t:Tok)(l:Addr)(dd:Option Addr)(items:Array Value)(n:Nat)(sl:Array (Option Value)):
  Meets (Builtin.«int.__rmul__» ⟨[.int a t,.ref l],[]⟩) (λ_ R s=>s.heap.get? l=some {cls:=.type "tuple",dict:=dd,data:=.seq items n,slots:=sl}/\R (.ok (.ret Value.notImplemented)) s):=
 .of_wp λprog w A R s h=>by obtain ⟨hp,g,d,tk,os⟩:=s;obtain ⟨hl,h⟩:=h;wp_walk;exact ⟨_,rfl,h⟩
theorem Dp(l:Addr)(items:Array Value)(n:Nat)(dd:Option Addr)(sl:Array (Option Value))(x:Int)(u:Tok)(h1:2<=x)(h2:x<2^63)(hv:¬items.isEmpty=true)(hz:(items.size:Int)*x<=(sizeLine:Int))
  (hz2:((bJ x.toNat items).foldl (λx1 x2=>x1++x2) #[]).size<=sizeLine):
  Meets (Builtin.«tuple.__mul__» ⟨[.ref l,.int x u],[]⟩) (λ_ R s=>s.heap.get? l=some {cls:=.type "tuple",dict:=dd,data:=.seq items n,slots:=sl}/\R (.ok (.ret (Value.ref s.heap.objs.size))) {s with heap:=s.heap.push {cls:=Value.type "tuple",data:=Data.seq ((bJ x.toNat items).foldl (λx1 x2=>x1++x2) #[])},toks:=s.toks}):=
 .of_wp λprog w A R s h=>by
  obtain ⟨hp,g,d,tk,os⟩:=s;obtain ⟨hl,h⟩:=h;have f1:=AutoSeq1.idx_int;have f2:=AutoSeq1.sub_tuple_tuple;have QM:items.isEmpty=false:=by simpa using hv
  have Mm:¬(decide (x< -2^63)||decide (x>=2^63))=true:=by simp only[gv,decide_eq_true_eq,not_or];omega
  have Lq:¬(items.isEmpty||x==1)=true:=by rw[QM,Bp];intro z;have:=eq_of_beq z;omega
  have wc:¬(decide (x<=0)||items.isEmpty)=true:=by rw[QM,Bool.or_false];simp only[decide_eq_true_eq];omega
  have hb:(sizeLine:Int)<=(2^63-1)/8:=by decide
  have N6:¬(items.size:Int)*x>(2^63-1)/8:=by omega
  have ZE:¬Builtin.Tuple.tupleTooMany ((items.size:Int)*x)=true:=by unfold Builtin.Tuple.tupleTooMany;simp only[decide_eq_true_eq];omega
  wp_walk using wpAny_loadPart' hl
  rw[if_neg Mm]
  wp_walk using wpAny_loadPart' hl
  rw[if_neg Lq];show wpAny _ _ (if (decide (x<=0)||items.isEmpty)=true then _ else _) _ _ _;rw[if_neg wc];show wpAny _ _ (if (items.size:Int)*x>(2^63-1)/8 then _ else _) _ _ _;rw[if_neg N6];show wpAny _ _ (if Builtin.Tuple.tupleTooMany ((items.size:Int)*x)=true then _ else _) _ _ _;rw[if_neg ZE];exact wpAny_bind (m:=Builtin.Tuple.tupleExact _) (wpAny_newObj_type (wpAny_pure ⟨_,rfl,h⟩) hz2)
theorem NL{t:Addr}{vs:List Value}{k:Int}{u:Tok}{Q:Value->Shared->Prop}(ht:IsTup s.heap t vs.toArray)(h1:2<=k)(hv:vs≠[])(hz:vs.length*k.toNat<=sizeLine)(hs:k<2^63)
  (h:Q (.ref s.heap.objs.size) {s with heap:=s.heap.push {cls:=.type "tuple",data:=.seq (bJ k.toNat vs).flatten.toArray}}):wpAny (model prog w) A (binaryOp .Mult (.ref t) (.int k u)) Q E s:=by
 obtain ⟨⟨cls,dd,data,sl⟩,ho,hc,n,hd⟩:=id ht;simp only at hc hd;subst hc hd;have NT:∀{s':Shared},s'.heap.get? t=some {cls:=.type "tuple",dict:=dd,data:=.seq vs.toArray n,slots:=sl}->s'.TypeIs (.ref t) "tuple":=λe=>⟨_,e,rfl⟩
 have hf:List.foldl (λx1 x2=>x1++x2) #[] (bJ k.toNat vs.toArray)=(bJ k.toNat vs).flatten.toArray:=by
  have:=foldl_rep vs k.toNat [];rw[lG] at this;exact this
 have hsz:vs.toArray.size=vs.length:=aT
 have hm:((vs.length:Int)*k)=((vs.length*k.toNat:Nat):Int):=by
  obtain ⟨m,rfl⟩:=cS (show 0<=k by omega);simp
 refine wpAny_binaryOp_repeat_ref (T:="tuple") (U:="int") (by decide) (NT ho) (λs'=>typeIs_int s' k u) pL Bj mw ua A9.lookup
  (call_meets mw (typeIs_int s k u) A_ (Ae _ _) (t_ k u t dd vs.toArray n sl) ⟨ho,rfl,NT ho,?_⟩)
 refine call_meets lY (NT ho) Ad (za _ _) (Dp t vs.toArray n dd sl k u h1 hs (by simpa using hv) (by rw[hsz,hm];exact_mod_cast hz) ?_) ⟨ho,?_⟩
 ·rw[hf,aT,len_rep,Nat.mul_comm];exact hz
 ·rw[hf];exact h
theorem Bu(l:Addr)(items:Array Value)(n:Nat)(dd:Option Addr)(sl:Array (Option Value))(u:Tok):
  Meets (Builtin.«tuple.__mul__» ⟨[.ref l,.int 1 u],[]⟩) (λ_ R s=>s.heap.get? l=some {cls:=.type "tuple",dict:=dd,data:=.seq items n,slots:=sl}/\R (.ok (.ret (Value.ref l))) s):=
 .of_wp λprog w A R s h=>by
  obtain ⟨hp,g,d,tk,os⟩:=s;obtain ⟨hl,h⟩:=h;have f1:=AutoSeq1.idx_int;have f2:=AutoSeq1.sub_tuple_tuple;have Mm:¬(decide ((1:Int)< -2^63)||decide ((1:Int)>=2^63))=true:=by decide
  have Lq:(items.isEmpty||(1:Int)==1)=true:=by simp
  wp_walk using wpAny_loadPart' hl
  exact ⟨_,rfl,h⟩
theorem K1{t:Addr}{vs:List Value}{u:Tok}{Q:Value->Shared->Prop}(ht:IsTup s.heap t vs.toArray)(h:Q (.ref t) s):wpAny (model prog w) A (binaryOp .Mult (.ref t) (.int 1 u)) Q E s:=by
 obtain ⟨⟨cls,dd,data,sl⟩,ho,hc,n,hd⟩:=id ht;simp only at hc hd;subst hc hd;have NT:∀{s':Shared},s'.heap.get? t=some {cls:=.type "tuple",dict:=dd,data:=.seq vs.toArray n,slots:=sl}->s'.TypeIs (.ref t) "tuple":=λe=>⟨_,e,rfl⟩
 refine wpAny_binaryOp_repeat_ref (T:="tuple") (U:="int") (by decide) (NT ho) (λs'=>typeIs_int s' 1 u) pL Bj mw ua A9.lookup
  (call_meets mw (typeIs_int s 1 u) A_ (Ae _ _) (t_ 1 u t dd vs.toArray n sl) ⟨ho,rfl,NT ho,?_⟩)
 exact call_meets lY (NT ho) Ad (za _ _) (Bu t vs.toArray n dd sl u) ⟨ho,h⟩
theorem vf(l:Addr)(items:Array Value)(n:Nat)(b:Addr)(x8:Array Value)(n2:Nat)(dd:Option Addr)(sl:Array (Option Value))(hs0:¬(!items.isEmpty&&Builtin.List.listTooLong (items.size+x8.size))=true)(YK:items.size<=sizeLine)(QS:items.size+x8.size<=sizeLine+1):
  Meets (Builtin.«list.extend» ⟨[.ref l,.ref b],[]⟩) (λ_ R s=>s.heap.get? l=some {cls:=.type "list",dict:=none,data:=.seq items n,slots:=#[]}/\s.heap.get? b=some {cls:=.type "tuple",dict:=dd,data:=.seq x8 n2,slots:=sl}/\R (.ok (.ret Value.none)) {s with heap:=s.heap.update l (Obj.mapSeq λx=>x++x8),toks:=s.toks}):=
 .of_wp λprog w A R s h=>by
  obtain ⟨hp,g,d,tk,os⟩:=s;obtain ⟨hl,hb,h⟩:=h;have f1:=AutoSeq1.idx_int;have f2:=AutoSeq1.sub_tuple_tuple;have f3:=AutoSeq1.sub_list_list;have f4:=AutoSeq1.sub_tuple_list;have f5:=AutoSeq1.sub_list_tuple;have La:(items++x8).size<=sizeLine+1:=by rw[Array.size_append];exact QS
  wp_walk using (wpAny_updateSeq hl rfl (hz:=YK) (_hz':=La)),wpAny_loadPart' hl,wpAny_loadPart' hb
  exact ⟨_,rfl,h⟩
theorem uy{t sl:Addr}{items:Array Value}{vl vu:Value}{lo hi:Option Int}{Q:Value->Shared->Prop}(ht:IsTup s.heap t items)(hs:s.heap.IsSliceOf sl vl vu .none)(pl:IsPart vl lo)(pu:IsPart vu hi)
  (hw:HT.kX items.size 0 lo=0/\HT.kX items.size items.size hi=items.size) (h:Q (.ref t) s):wpAny (model prog w) A (getItem (.ref t) (.ref sl)) Q E s:=by
 obtain ⟨os,QY,Wu,U_⟩:=id hs;have ZK:s.TypeIs (.ref sl) "slice":=⟨os,QY,Wu⟩
 unfold getItem
 try with_reducible refine wpAny_holding ?_
 first|refine wpAny_bind (wpAny_pure ?_)|skip
 refine wpAny_bind (wpAny_sequenceKey ht.typeIs (by decide) ?_)
 refine wpAny_bind (wpAny_callSpecial?_slot (name:=Str.ofString "__getitem__") ht.typeIs fq
  (wpAny_call_entry fq ht.typeIs entry_tuple_getitem ?_ (args_tuple_getitem _ _)))
 show wpAny _ _ (Builtin.Tuple.tupleItemsOf (.ref t)>>=_) _ _ s;refine wpAny_bind (tupleItemsOf_ ht ?_);refine wpAny_bind (wpAny_typeOf ZK ?_);rw[if_pos (by decide)];refine wpAny_bind (HT.pD hs pl pu ?_)
 have Yy:(((HT.kX items.size 0 lo:Nat):Int)==0&&(1:Int)==1&&(HT.kX items.size items.size hi-HT.kX items.size 0 lo)==items.size)=true:=by
  rw[hw.1,hw.2];simp
 show wpAny _ _ (if (((HT.kX items.size 0 lo:Nat):Int)==0&&(1:Int)==1&&(HT.kX items.size items.size hi-HT.kX items.size 0 lo)==items.size)=true then _ else _) _ _ s;rw[if_pos Yy];refine wpAny_bind (m:=Builtin.Tuple.tupleIsExact _) ?_;unfold Builtin.Tuple.tupleIsExact;refine wpAny_bind (wpAny_typeOf ht.typeIs (wpAny_pure ?_));rw[if_pos (by decide)];exact wpAny_bind (wpAny_rule (wpAny_pure ⟨_,rfl,wpAny_pure h⟩))
end
structure Laid(H H':Hp)(p:Addr)(xs:List V):Prop where
 at_:H' p=some (.tup xs)
 same:cY H H'
 only:∀b o,H' b=some o->H b=some o\/(b=p/\H b=none)
theorem Laid.old{H:Hp}{p:Addr}{xs:List V}(h:H p=some (.tup xs)):Laid H H p xs:=⟨h,.refl _,λ_ _ e=>.inl e⟩
theorem Laid.new{H:Hp}{p:Addr}{xs:List V}(h:H p=none):Laid H (upd H p (.tup xs)) p xs:=⟨ak,λb o e=>by rw[az (aQ e h)];exact e,λb o e=>by
 by_cases hb:b=p
 ·subst hb;exact .inr ⟨rfl,h⟩
 ·rw[az hb] at e;exact .inl e⟩
section
variable{X:Cx}
def T4:R2:=λx y H Q=>∃a b xs ys,x=.ref a/\y=.ref b/\H a=some (.tup xs)/\H b=some (.tup ys)/\xs.length+ys.length<=sizeLine/\∀p H',Laid H H' p (xs++ys)->Q (.ref p) H'
theorem wI:w9 X (binaryOp .Add) T4:=by
 intro pins s σ H x y v u Q I rx ry h;obtain ⟨a,b,xs,ys,rfl,rfl,ha,hb,hz,q⟩:=h
 by_cases hx:xs=[]
 ·subst hx;cases rx;cases ry;obtain ⟨dN,r1,p1,_⟩:=I.tuple (lW.of ha);obtain ⟨ur,r2,p2,_⟩:=I.tuple (lW.of hb);cases r1;exact LP p1 p2 ⟨.ref b,H,I,rfl,q b H (.old hb)⟩
 ·refine Nt pins s σ H _ _ v u Q I rx ry ⟨a,b,xs,ys,rfl,rfl,.of ha,.of hb,hx,hz,λe=>?_,λe p hp=>q p _ (.new hp)⟩;subst e;exact q a H (.old (by rw[fR];exact ha))
def XM:V->Option Int->Option Int->Hp->VK->Prop:=λx lo hi H Q=>∃a xs,x=.ref a/\H a=some (.tup xs)/\∀p H',Laid H H' p (o8 xs lo hi)->Q (.ref p) H'
theorem qf:WL X XM:=by
 intro pins s σ H x v vl vu lo hi sl Q I rx hs pl pu h;obtain ⟨a,xs,rfl,hx,q⟩:=h
 by_cases hw:HT.kX xs.length 0 lo=0/\HT.kX xs.length xs.length hi=xs.length
 ·cases rx;obtain ⟨dN,r,ht,hz⟩:=I.tuple (lW.of hx);have hlen:dN.toArray.size=xs.length:=by rw[aT];exact r.length.symm
  refine ⟨"tuple",_,fq.lookup,ht.typeIs,uy ht hs pl pu (by rw[hlen];exact hw) ⟨.ref a,H,I,rfl,q a H (.old ?_)⟩⟩;unfold o8;rw[hw.1,hw.2,Aj,Nat.sub_zero,ff];exact hx
 ·exact PN pins s σ H _ v vl vu lo hi sl Q I rx hs pl pu ⟨a,xs,rfl,.of hx,hw,λp hp=>q p _ (.new hp)⟩
def TX:R2:=λx y H Q=>∃a k xs,x=.ref a/\y=.int k/\H a=some (.tup xs)/\xs≠[]/\1<=k/\k<2^63/\xs.length*k.toNat<=sizeLine/\∀p H',Laid H H' p (bJ k.toNat xs).flatten->Q (.ref p) H'
theorem Fw:w9 X (binaryOp .Mult) TX:=by
 intro pins s σ H x y v u Q I rx ry h;obtain ⟨a,k,xs,rfl,rfl,ha,hx,h1,h2,hz,q⟩:=h;cases rx;obtain ⟨t,rfl⟩:=ry;obtain ⟨dN,r,p,_⟩:=I.tuple (lW.of ha)
 by_cases hk:k=1
 ·subst hk;exact K1 p ⟨.ref a,H,I,rfl,q a H (.old (by simpa using ha))⟩
 ·refine NL p (by omega) (λe=>hx (r.wL.mp e)) (by rw[<-r.length];exact hz) h2 ?_;refine ⟨.ref s.heap.objs.size,_,I.laid (t':=s.toks) (o:=.tup (bJ k.toNat xs).flatten) (λb ob q=>Heap.get?_push_of_some _ q) (aL _) ?_,rfl,q _ _ (.new (I.cI.fresh (aL _)))⟩;exact ⟨by rw[len_rep,Nat.mul_comm];exact hz,_,r.rep k.toNat,IsTup.new _ _⟩
def TY:V->List V->Hp->VK->Prop:=λx vs H Q=>∃l b xs zs,x=.ref l/\vs=[.ref b]/\H l=some (.lst xs)/\H b=some (.tup zs)/\xs.length+zs.length<=sizeLine/\Q .kq (upd H l (.lst (xs++zs)))
theorem FN:WN X "list.extend" TY:=by
 intro pins s σ H x vs v us Q I rx rv h;obtain ⟨l,b,xs,zs,rfl,rfl,hH,hB,hz,q⟩:=h;cases rx;obtain ⟨u,rfl,ru⟩:=rv.one;cases ru;obtain ⟨z,dN,n,r,hl,e⟩:=I.D5 hH;obtain ⟨ur,r2,p2,_⟩:=I.tuple (lW.of hB);obtain ⟨⟨cls,dd,data,sl⟩,ho,hc,n2,hd⟩:=id p2;simp only at hc hd;subst hc hd;have tV:=r2.length;have hsz:dN.toArray.size+ur.toArray.size<=sizeLine:=by rw[aT,aT];omega
 have Li:¬(!dN.toArray.isEmpty&&Builtin.List.listTooLong (dN.toArray.size+ur.toArray.size))=true:=by
  rw[B3 hsz,tG];exact cW
 refine call_meets gD ⟨_,e,rfl⟩ PySem.F.entry_list_extend (PySem.F.args_list_extend_2 _ _)
  (vf l dN.toArray n b ur.toArray n2 dd sl Li (by rw[aT];omega) (by omega)) ⟨e,ho,?_⟩
 refine ⟨.kq,_,I.NO (its':=dN++ur) hH e (by simp) (r.append r2) ?_,rfl,q⟩;rw[aE];omega
theorem zD{P:Program}{w:World}{kvs:List (Key×V)}{vs:List (Key×Value)}(kv:KV kvs vs){acc:Array Value}(h:ItemsOf (λi v=>∃k x,vs[i]?=some (k,x)/\(fT P w).is k v=true) acc vs.length):
  Vals (kvs.map λp=>kV p.1) acc.toList:=by
 have hl:kvs.length=vs.length:=Paired.length kv;obtain ⟨h1,h2⟩:=h
 have aux:∀(l:List Value) (ks:List (Key×V)),l.length=ks.length->(∀(j:Nat) (v:Value),l[j]?=some v->∃p:Key×V,ks[j]?=some p/\RelV (kV p.1) v)->Vals (ks.map λp=>kV p.1) l:=by
  intro l
  induction l with
  |nil=>intro ks e _;cases ks with
   |nil=>exact .nil
   |cons _ _=>simp at e
  |cons a l ih=>intro ks e hh;cases ks with
   |nil=>simp at e
   |cons p ks=>
    obtain ⟨p',e1,e2⟩:=hh 0 a rfl;cases e1;exact .cons e2 (ih ks (by simpa using e) λj v ej=>hh (j+1) v ej)
 refine aux acc.toList kvs (by rw[jk,h1,hl]) λj v ej=>?_;obtain ⟨k,x,e1,e2⟩:=h2 j v (by rw[<-Dk];exact ej);have hj:j<kvs.length:=by rw[hl];exact (bR.mp e1).1
 obtain ⟨u,e3,e4⟩:=D7 kv (show kvs[j]?=some (kvs[j].1,kvs[j].2) from cM hj);rw[e1] at e3;cases e3;exact ⟨_,cM hj,BG e2⟩
def Qh:List V->Hp->VK->Prop:=λxs H Q=>∃a kvs,xs=[.ref a]/\H a=some (.dK kvs)/\∀l,H l=none->Q (.ref l) (upd H l (.lst (kvs.map λp=>kV p.1)))
theorem Eu(hc:X.calm=true):oH X (.type "list") Qh:=by
 intro pins s σ H xs us Q I r h;obtain ⟨a,kvs,rfl,ha,q⟩:=h;obtain ⟨u,rfl,rx⟩:=vals1 r;cases rx;obtain ⟨hz,hs,vs,kv,o,es,ep,ho,hx,Bg,rest⟩:=I.cI a _ ha;have hl:kvs.length=vs.length:=Paired.length kv;refine PySem.W.kdl_call (IA (knd:=fT X.prog X.w) (kvs:=vs) (ep:=ep) hs) (I.ok.hd hc) ⟨o,es,ho,hx,Bg,rest⟩ (by rw[<-hl];exact hz) λh' tk Z9 c' hk hD Rh=>?_;exact ⟨.ref s.heap.objs.size,_,I.laid (t':=tk) hk (aL _) (show jo X.prog X.w _ h' _ (.lst (kvs.map λp=>kV p.1)) from ⟨by rw[aj];exact hz,Z9.toList,c',zD kv Rh,by simpa using hD⟩),rfl,q _ (I.cI.fresh (aL _))⟩
def JZ:List V->Hp->VK->Prop:=λxs H Q=>∃(a:Addr) (kvs:List (Key×V)) (ns:List Int),xs=[.ref a]/\H a=some (.dK kvs)/\kvs.map (·.1)=ns.map aW/\
 ∀(CV:List Int) (p:Addr),CV.Perm ns->CV.Pairwise (·<=·)->H p=none->Q (.ref p) (upd H p (.lst (CV.map V.int)))
theorem Es(hc:X.calm=true):oH X (.builtin "sorted") JZ:=by
 intro pins s σ H xs us Q I r h;obtain ⟨a,kvs,ns,rfl,ha,hn,q⟩:=h;rw[Vals.JR r];obtain ⟨hz,hs,vs,kv,o,es,ep,ho,hx,Bg,rest⟩:=I.cI a _ ha;have hl:kvs.length=vs.length:=Paired.length kv
 have C7:ns.length=kvs.length:=by
  have:=congrArg nj hn;simpa using this.symm
 refine Calls.call_function_entry kind_sorted plain_sorted entry_sorted (args_sorted1 _) ?_;unfold Builtin.«sorted»;refine wpAny_bind (m:=checkCount "sorted" 1 1 _) (wpAny_pure ?_);refine wpAny_bind (PySem.W.kdu_collect (A:=X.A.in1) (IA (knd:=fT X.prog X.w) (kvs:=vs) (ep:=ep) hs) (I.ok.hd hc) ⟨o,es,ho,hx,Bg,rest⟩ (by rw[<-hl];exact hz) λh' tk acc hk Rh=>?_)
 have hv:Vals (ns.map V.int) acc.toList:=by
  have:=zD kv Rh
  have e:(kvs.map λp=>kV p.1)=ns.map V.int:=by
   have:(kvs.map λp=>kV p.1)=(kvs.map (·.1)).map kV:=by rw[ay];rfl
   rw[this,hn,ay];rfl
  rw[e] at this;exact this
 have hi:=Vals.ints hv;have hlen:acc.toList.length<=sizeLine:=by rw[hi.length,C7];exact hz
 refine wpAny_bind (wpAny_newList ?_ hlen);have UR:(h'.push {cls:=.type "list",data:=.seq acc.toList.toArray}).get? h'.objs.size=some (seqObj "list" acc.toList.toArray 0):=Heap.get?_push_size _ rfl;refine wpAny_bind (wpAny_holding (wpAny_call_entry slot_list_sort ⟨_,UR,rfl⟩ entry_list_sort (list_sort_treeAny UR hi hlen λout CV h1 h2 h3=>⟨_,rfl,?_⟩) (args_list_sort _)));obtain ⟨ee,he⟩:=sortedHeap_at (out:=out) UR;have I1:Inv X pins σ H {s with heap:=h',toks:=tk}:=I.kept hk;refine wpAny_pure ⟨_,rfl,.ref h'.objs.size,upd H h'.objs.size (.lst (CV.map V.int)),I1.laid (t':=tk) (λb ob e=>?_) (aL _) ⟨by rw[aj,h2.length_eq,C7];exact hz,out.toList,ee,p9 h1,he⟩,rfl,q CV _ h2 h3 (I1.cI.fresh (aL _))⟩;have e':h'.get? b=some ob:=e;have pX:b<h'.objs.size:=Heap.lt_size e';rw[sortedHeap_old (eF pX) (by rw[size_push'];exact pZ pX)];exact Heap.get?_push_of_some _ e'
def Nl(K:au):V->List V->Hp->VK->Prop:=λx vs H Q=>∃(a:Addr) (ns:List Int) (k:Int),x=.ref a/\vs=[.int k]/\mY K H a (ns.map V.int)/\Q (.int (ns.count k:Nat)) H
theorem HD:MtR X "list.count" (Nl X.K):=by
 intro pins s σ H x vs v us Q I rx rv h;obtain ⟨a,ns,k,rfl,rfl,hs,q⟩:=h;cases rx;obtain ⟨u,rfl,ru⟩:=rv.one;obtain ⟨t,rfl⟩:=ru;obtain ⟨dN,r,hl,hz⟩:=I.list hs;exact count_list_ints hl.isList r.ints ⟨.int _,H,I.tok _,⟨_,rfl⟩,q⟩
def J0:V->List V->Hp->VK->Prop:=λx vs H Q=>∃(a:Addr) (ns:List Int) (k:Int),x=.ref a/\vs=[.int k]/\H a=some (.lst (ns.map V.int))/\k∈ns/\Q .kq (upd H a (.lst ((ns.erase k).map V.int)))
theorem DY:WN X "list.remove" J0:=by
 intro pins s σ H x vs v us Q I rx rv h;obtain ⟨a,ns,k,rfl,rfl,hs,hk,q⟩:=h;cases rx;obtain ⟨u,rfl,ru⟩:=rv.one;obtain ⟨t,rfl⟩:=ru;obtain ⟨z,dN,n,r,hl,e⟩:=I.D5 hs;have hi:=r.ints
 have first:∀l:List Int,k∈l->∃j,l[j]?=some k/\(∀m,m<j->l[m]?≠some k)/\l.erase k=l.eraseIdx j:=by
  intro l
  induction l with
  |nil=>intro h;cases h
  |cons x l ih=>
   intro h
   by_cases hx:x=k
   ·subst hx;exact ⟨0,rfl,λm hm=>absurd hm (Nat.not_lt_zero _),by simp⟩
   ·obtain ⟨j,h1,h2,h3⟩:=ih ((aP.mp h).resolve_left λe=>hx e.symm);refine ⟨j+1,h1,λm hm=>?_,?_⟩
    ·cases m with
     |zero=>intro z;exact hx (bC z)
     |succ m=>exact h2 m (by omega)
    ·rw[List.erase_cons_tail (by simpa using hx),h3];rfl
 obtain ⟨j,h1,h2,h3⟩:=first ns hk
 have hlen:dN.length=ns.length:=hi.length;have hj:j<ns.length:=(bR.mp h1).1;have La:dN.toArray.size<=sizeLine:=by rw[aT,hlen];simpa using z
 have itm:∀m (hm:m<dN.toArray.size) y,ns[m]?=some y->isInt k dN.toArray[m]=decide (y=k):=λm hm y hy=>by
  obtain ⟨t',e'⟩:=hi.get m y hy;obtain ⟨_,e2⟩:=bR.mp e';have e3:dN.toArray[m]=dN[m]'(by simpa using hm):=by simp
  rw[e3,e2]
  by_cases hy:y=k
  ·subst hy;simp [isInt]
  ·simp [isInt,hy]
 refine call_meets y_ ⟨_,e,rfl⟩ PySem.F.entry_list_remove (PySem.F.args_list_remove_2 _ _)
  (MeetsSeq.list_remove a dN.toArray n (.int k t) (isInt k) (λy hy=>eq_isInt k t hi y (by simpa using hy)) j (by rw[aT,hlen];exact hj) ?_ (λm hm pX=>?_) La) ⟨e,?_⟩
 ·rw[itm _ _ _ h1];exact decide_eq_true rfl
 ·have Wr:m<ns.length:=by omega
  rw[itm m hm _ (cM Wr)];exact decide_eq_false λz=>h2 m pX (by rw[cM Wr,z])
 ·refine ⟨.kq,_,I.NO (its':=dN.eraseIdx j) hs e ?_ ?_ ?_,rfl,q⟩
  ·simp
  ·have em:∀(l:List Int) (i:Nat),(l.eraseIdx i).map V.int=(l.map V.int).eraseIdx i:=by
    intro l
    induction l with
    |nil=>intro i;rfl
    |cons x l ih=>intro i;cases i with
     |zero=>rfl
     |succ i=>exact congrArg (V.int x::·) (ih i)
   rw[h3,em];exact r.eraseIdx j
  ·rw[aj] at z⊢;exact cE (List.length_erase_le) z
end
end L2
namespace Rm
abbrev Row:=Int×Int
def Mem(l:List Row)(x:Int):Prop:=∃r,r∈l/\r.1<=x/\x<r.2
structure mP(l:List Row):Prop where
 pw:l.Pairwise λa b=>a.2<b.1
 ne:∀r,r∈l->r.1<r.2
theorem mP.nil:mP []:=⟨.nil,λr h=>by cases h⟩
theorem mP.tail{a:Row}{l:List Row}(h:mP (a::l)):mP l:=⟨(dI.mp h.pw).2,λr hr=>h.ne r (aB _ hr)⟩
theorem mP.head{a:Row}{l:List Row}(h:mP (a::l)):a.1<a.2/\∀r,r∈l->a.2<r.1:=⟨h.ne a aJ,(dI.mp h.pw).1⟩
theorem mP.cons{a:Row}{l:List Row}(h:mP l)(h1:a.1<a.2)(h2:∀r,r∈l->a.2<r.1):mP (a::l):=
 ⟨dI.mpr ⟨h2,h.pw⟩,λr hr=>by
  rcases aP.mp hr with rfl|hr
  ·exact h1
  ·exact h.ne r hr⟩
theorem mem_cons{a:Row}{l:List Row}{x:Int}:Mem (a::l) x↔(a.1<=x/\x<a.2)\/Mem l x:=by
 constructor
 ·rintro ⟨r,hr,h⟩;rcases aP.mp hr with rfl|hr
  ·exact .inl h
  ·exact .inr ⟨r,hr,h⟩
 ·rintro (h|⟨r,hr,h⟩)
  ·exact ⟨a,aJ,h⟩
  ·exact ⟨r,aB _ hr,h⟩
theorem iX{x:Int}:¬Mem [] x:=by rintro ⟨r,hr,_⟩;cases hr
theorem mem_append{l m:List Row}{x:Int}:Mem (l++m) x↔Mem l x\/Mem m x:=by
 constructor
 ·rintro ⟨r,hr,h⟩;rcases bG.mp hr with hr|hr
  ·exact .inl ⟨r,hr,h⟩
  ·exact .inr ⟨r,hr,h⟩
 ·rintro (⟨r,hr,h⟩|⟨r,hr,h⟩)
  ·exact ⟨r,cK _ hr,h⟩
  ·exact ⟨r,cG _ hr,h⟩
theorem B_{l m:List Row}(h:l.Perm m){x:Int}:Mem l x↔Mem m x:=by
 constructor
 ·rintro ⟨r,hr,q⟩;exact ⟨r,h.mem_iff.mp hr,q⟩
 ·rintro ⟨r,hr,q⟩;exact ⟨r,h.mem_iff.mpr hr,q⟩
theorem A4:∀{l m:List Row},mP l->mP m->(∀x,Mem l x↔Mem m x)->l=m
 |[],[],_,_,_=>rfl
 |[],b::m,_,hm,h=>by
  have:=(h b.1).mpr (mem_cons.mpr (.inl ⟨kK _,hm.head.1⟩));exact absurd this iX
 |a::l,[],hl,_,h=>by
  have:=(h a.1).mp (mem_cons.mpr (.inl ⟨kK _,hl.head.1⟩));exact absurd this iX
 |a::l,b::m,hl,hm,h=>by
  have la:=hl.head;have lb:=hm.head
  have low:∀{c:Row} {k:List Row} {x:Int},mP (c::k)->Mem (c::k) x->c.1<=x:=λ{c k x} hc hx=>by
   rcases mem_cons.mp hx with q|⟨r,hr,q⟩
   ·exact q.1
   ·have:=hc.head.2 r hr;have:=hc.head.1;omega
  have hole:∀{c:Row} {k:List Row},mP (c::k)->¬Mem (c::k) c.2:=λ{c k} hc hx=>by
   rcases mem_cons.mp hx with q|⟨r,hr,q⟩
   ·omega
   ·have:=hc.head.2 r hr;omega
  have e1:a.1=b.1:=by
   have q1:=low hm ((h a.1).mp (mem_cons.mpr (.inl ⟨kK _,la.1⟩)));have q2:=low hl ((h b.1).mpr (mem_cons.mpr (.inl ⟨kK _,lb.1⟩)));omega
  have e2:a.2=b.2:=by
   rcases Int.lt_trichotomy a.2 b.2 with q|q|q
   ·exact absurd ((h a.2).mpr (mem_cons.mpr (.inl ⟨by omega,q⟩))) (hole hl)
   ·exact q
   ·exact absurd ((h b.2).mp (mem_cons.mpr (.inl ⟨by omega,q⟩))) (hole hm)
  have e:a=b:=qP e1 e2;subst e
  have out:∀{k:List Row} {x:Int},mP (a::k)->Mem k x->¬(a.1<=x/\x<a.2):=λ{k x} hc ⟨r,hr,q⟩ z=>by
   have:=hc.head.2 r hr;omega
  rw[A4 hl.tail hm.tail λx=>?_];constructor
  ·intro q;rcases mem_cons.mp ((h x).mp (mem_cons.mpr (.inr q))) with z|z
   ·exact absurd z (out hl q)
   ·exact z
  ·intro q;rcases mem_cons.mp ((h x).mpr (mem_cons.mpr (.inr q))) with z|z
   ·exact absurd z (out hm q)
   ·exact z
def nT(x y:Row):Prop:=x.1<y.1\/(x.1=y.1/\x.2<=y.2)
instance (x y:Row):Decidable (nT x y):=by unfold nT;infer_instance
def j7(w:List Row)(r:Row):List Row:=match w.getLast? with
 |some q=>if q.2=r.1 then w.dropLast++[(q.1,r.2)] else w++[r]
 |none=>w++[r]
def sX(l:List Row):List Row:=l.mergeSort λa b=>decide (nT a b)
def jn(l:List Row):List Row:=(sX l).foldl j7 []
theorem xy(l:List Row):(sX l).Perm l:=iy _ _
theorem BB(l:List Row):(sX l).Pairwise nT:=by
 have h:=jq (le:=λa b:Row=>decide (nT a b)) (λa b c h1 h2=>by
   simp only[decide_eq_true_eq] at*;unfold nT at*;omega) (λa b=>by
   simp only[gv,decide_eq_true_eq];unfold nT;omega) l
 exact h.imp λq=>by simpa using q
theorem JJ{l m:List Row}(p:m.Perm l)(h:m.Pairwise nT):m=sX l:=by
 refine List.Perm.eq_of_pairwise (le:=nT) (λa b _ _ h1 h2=>?_) h (BB l) (p.trans (xy l).symm);unfold nT at*;exact qP (by omega) (by omega)
def Dj(l:List Row):Prop:=l.Pairwise λa b=>a.2<=b.1\/b.2<=a.1
theorem Dj.perm{l m:List Row}(p:l.Perm m)(h:Dj l):Dj m:=(p.pairwise_iff (λ{a b} q=>q.symm)).mp h
theorem yr{w:List Row}{r:Row}(h:mP w)(h1:r.1<r.2)(h2:∀q,q∈w->q.2<r.1):mP (w++[r]):=
 ⟨gO.mpr ⟨h.pw,by simp,λa ha b hb=>by simp at hb;subst hb;exact h2 a ha⟩,λq hq=>by
  rcases bG.mp hq with hq|hq
  ·exact h.ne q hq
  ·simp at hq;subst hq;exact h1⟩
theorem LQ{w:List Row}{q:Row}(h:mP (w++[q])):mP w/\q.1<q.2/\∀r,r∈w->r.2<q.1:=
 ⟨⟨(gO.mp h.pw).1,λr hr=>h.ne r (cK _ hr)⟩,h.ne q (by simp),λr hr=>(gO.mp h.pw).2.2 r hr q (by simp)⟩
theorem E8{w:List Row}{q:Row}(h:w.getLast?=some q):w=w.dropLast++[q]:=by
 obtain ⟨ne,e⟩:=Ba.mp h;rw[e];simp
theorem FU:∀(l w:List Row),mP w->(∀r,r∈l->r.1<r.2)->l.Pairwise (λa b=>a.2<=b.1)->(∀q,q∈w->∀r,r∈l->q.2<=r.1)->
  mP (l.foldl j7 w)/\∀x,Mem (l.foldl j7 w) x↔Mem w x\/Mem l x
 |[],w,hw,_,_,_=>⟨hw,λx=>by simp [iX]⟩
 |r::l,w,hw,hn,hp,hq=>by
  have hr:=hn r aJ;have NW:=dI.mp hp;rw[nP]
  have step:mP (j7 w r)/\(∀x,Mem (j7 w r) x↔Mem w x\/(r.1<=x/\x<r.2))/\∀q,q∈j7 w r->q.2<=r.2:=by
   unfold j7;cases e:w.getLast? with
   |none=>
    have:w=[]:=pB.mp e;subst this;exact ⟨yr mP.nil hr (λq hq=>by cases hq),λx=>by simp [iX,mem_append,mem_cons],λq hq=>by simp at hq;subst hq;exact kK _⟩
   |some q=>
    have ew:=E8 e;have hw':mP (w.dropLast++[q]):=by rw[<-ew];exact hw
    obtain ⟨h1,h2,h3⟩:=LQ hw';have Y6:q∈w:=by rw[ew];simp
    have hqr:=hq q Y6 r aJ
    have lead:∀z,z∈w->z.2<=q.2:=λz hz=>by
     rw[ew] at hz;rcases bG.mp hz with hz|hz
     ·have:=h3 z hz;omega
     ·simp at hz;subst hz;exact kK _
    dsimp only
    by_cases c:q.2=r.1
    ·rw[if_pos c];refine ⟨yr h1 (by show q.1<r.2;omega) h3,λx=>?_,λz hz=>?_⟩
     ·have:Mem w x↔Mem w.dropLast x\/(q.1<=x/\x<q.2):=by
       conv=>lhs;rw[ew]
       simp [mem_append,mem_cons,iX]
      rw[this];simp only[mem_append,mem_cons,iX,or_false];constructor
      ·rintro (z|z)
       ·exact .inl (.inl z)
       ·by_cases y:x<q.2
        ·exact .inl (.inr ⟨z.1,y⟩)
        ·exact .inr ⟨by omega,z.2⟩
      ·rintro ((z|z)|z)
       ·exact .inl z
       ·exact .inr ⟨z.1,by omega⟩
       ·exact .inr ⟨by omega,z.2⟩
     ·rcases bG.mp hz with hz|hz
      ·have:=h3 z hz;omega
      ·simp at hz;subst hz;exact kK _
    ·rw[if_neg c];refine ⟨yr hw hr λz hz=>?_,λx=>by simp [mem_append,mem_cons,iX],λz hz=>?_⟩
     ·have:=lead z hz;omega
     ·rcases bG.mp hz with hz|hz
      ·have:=lead z hz;omega
      ·simp at hz;subst hz;exact kK _
  obtain ⟨s1,s2,s3⟩:=step
  obtain ⟨t1,t2⟩:=FU l (j7 w r) s1 (λz hz=>hn z (aB _ hz)) NW.2 λq hq z hz=>by
   have:=s3 q hq;have:=NW.1 z hz;omega
  refine ⟨t1,λx=>?_⟩;rw[t2 x,s2 x,mem_cons,or_assoc]
theorem OO{l:List Row}(hn:∀r,r∈l->r.1<r.2)(hd:Dj l):mP (jn l)/\∀x,Mem (jn l) x↔Mem l x:=by
 have p:=xy l;have hs:=BB l;have Lo:Dj (sX l):=hd.perm p.symm;have Q2:∀r,r∈sX l->r.1<r.2:=λr hr=>hn r (p.mem_iff.mp hr)
 have hp:(sX l).Pairwise λa b=>a.2<=b.1:=by
  refine vB (λ{a b} ha hb q=>?_) (hs.and Lo);have h1:=Q2 a ha;have h2:=Q2 b hb;obtain ⟨q1,q2⟩:=q;unfold nT at q1;omega
 obtain ⟨h1,h2⟩:=FU (sX l) [] mP.nil Q2 hp (λq hq=>by cases hq);refine ⟨h1,λx=>?_⟩;rw[show Mem (jn l) x↔_ from h2 x,B_ p];simp [iX]
end Rm
namespace Rm
def GK(f e:Int)(r:Row):List Row:=(if r.1<min r.2 f then [(r.1,min r.2 f)] else [])++(if max r.1 e<r.2 then [(max r.1 e,r.2)] else [])
def wo(l:List Row)(f e:Int):List Row:=l.flatMap (GK f e)
theorem NN{f e x:Int}{r:Row}(h:f<=e):Mem (GK f e r) x↔(r.1<=x/\x<r.2)/\¬(f<=x/\x<e):=by
 unfold GK;rw[mem_append]
 have a1:Mem (if r.1<min r.2 f then [(r.1,min r.2 f)] else []) x↔r.1<=x/\x<min r.2 f:=by
  by_cases c:r.1<min r.2 f
  ·rw[if_pos c];simp [mem_cons,iX]
  ·rw[if_neg c];simp only[iX,false_iff];omega
 have a2:Mem (if max r.1 e<r.2 then [(max r.1 e,r.2)] else []) x↔max r.1 e<=x/\x<r.2:=by
  by_cases c:max r.1 e<r.2
  ·rw[if_pos c];simp [mem_cons,iX]
  ·rw[if_neg c];simp only[iX,false_iff];omega
 rw[a1,a2];omega
theorem QB{l:List Row}{f e x:Int}(h:f<=e):Mem (wo l f e) x↔Mem l x/\¬(f<=x/\x<e):=by
 induction l with
 |nil=>simp [wo,iX]
 |cons r l ih=>
  have e1:wo (r::l) f e=GK f e r++wo l f e:=by simp [wo]
  rw[e1,mem_append,ih,NN h,mem_cons];constructor
  ·rintro (⟨a,b⟩|⟨a,b⟩)
   ·exact ⟨.inl a,b⟩
   ·exact ⟨.inr a,b⟩
  ·rintro ⟨a|a,b⟩
   ·exact .inl ⟨a,b⟩
   ·exact .inr ⟨a,b⟩
theorem Jj{f e:Int}{r q:Row}(h:q∈GK f e r):r.1<=q.1/\q.2<=r.2/\q.1<q.2:=by
 unfold GK at h;rcases bG.mp h with h|h
 ·split at h
  ·simp at h;subst h;simp only;omega
  ·cases h
 ·split at h
  ·simp at h;subst h;simp only;omega
  ·cases h
theorem RI{l:List Row}{f e:Int}(h:f<e)(hc:mP l):mP (wo l f e):=by
 induction l with
 |nil=>exact mP.nil
 |cons r l ih=>
  have e1:wo (r::l) f e=GK f e r++wo l f e:=by simp [wo]
  have Ur:=ih hc.tail;have hh:=hc.head
  have OX:∀q,q∈wo l f e->r.2<q.1:=λq hq=>by
   obtain ⟨z,hz,hq⟩:=dF.mp hq;have:=Jj hq;have:=hh.2 z hz;omega
  have two:mP (GK f e r):=by
   unfold GK
   by_cases c1:r.1<min r.2 f
   ·rw[if_pos c1]
    by_cases c2:max r.1 e<r.2
    ·rw[if_pos c2]
     exact (mP.nil.cons (a:=(max r.1 e,r.2)) c2 (λq hq=>by cases hq)).cons (a:=(r.1,min r.2 f)) c1 λq hq=>by
      simp at hq;subst hq;show min r.2 f<max r.1 e;omega
    ·rw[if_neg c2];exact mP.nil.cons (a:=(r.1,min r.2 f)) c1 λq hq=>by cases hq
   ·rw[if_neg c1]
    by_cases c2:max r.1 e<r.2
    ·rw[if_pos c2];exact mP.nil.cons (a:=(max r.1 e,r.2)) c2 λq hq=>by cases hq
    ·rw[if_neg c2];exact mP.nil
  rw[e1]
  exact ⟨gO.mpr ⟨two.pw,Ur.pw,λa ha b hb=>by have:=Jj ha;have:=OX b hb;omega⟩,λq hq=>by
   rcases bG.mp hq with hq|hq
   ·exact two.ne q hq
   ·exact Ur.ne q hq⟩
def gQ(r:Nat×Nat):Row:=((r.1:Int),((r.1+r.2:Nat):Int))
abbrev cV(l:List (Nat×Nat)):List Row:=l.map gQ
theorem pO:∀(l:List (Nat×Nat)) (r:Nat×Nat),mP (cV l)->0<r.2->(∀q,q∈l->q.1+q.2<=r.1\/r.1+r.2<=q.1)->
  mP (cV (bP l r))/\∀x,Mem (cV (bP l r)) x↔Mem (cV l) x\/((gQ r).1<=x/\x<(gQ r).2)
 |[],r,_,hr,_=>⟨mP.nil.cons (a:=gQ r) (by show (r.1:Int)<((r.1+r.2:Nat):Int);omega) (λq hq=>by cases hq),λx=>by simp [bP,mem_cons,iX]⟩
 |y::l,r,hc,hr,hd=>by
  have hh:=hc.head;have hy:0<y.2:=by have:=hh.1;simp only[gQ] at this;omega
  have OX:∀q,q∈l->y.1+y.2<q.1:=λq hq=>by
   have:=hh.2 (gQ q) (aH hq);simp only[gQ] at this;omega
  have hdy:=hd y aJ;unfold bP
  by_cases c1:r.1+r.2<y.1
  ·rw[if_pos c1];refine ⟨hc.cons (a:=gQ r) (by simp only[gQ];omega) λq hq=>?_,λx=>by simp [mem_cons];constructor<;>(rintro (a|a)<;>simp [a])⟩;have oh:q∈(gQ y)::cV l:=hq;rcases aP.mp oh with rfl|oh
   ·simp only[gQ];omega
   ·obtain ⟨z,hz,rfl⟩:=aq.mp oh;have:=OX z hz;simp only[gQ];omega
  ·rw[if_neg c1]
   by_cases c2:r.1+r.2=y.1
   ·rw[if_pos c2];refine ⟨hc.tail.cons (a:=gQ (r.1,r.2+y.2)) (by simp only[gQ];omega) λq hq=>?_,λx=>?_⟩
    ·obtain ⟨z,hz,rfl⟩:=aq.mp hq;have:=OX z hz;simp only[gQ];omega
    ·simp only[cV,aI,mem_cons];constructor
     ·rintro (a|a)
      ·simp only[gQ] at a⊢
       by_cases z:x<((r.1+r.2:Nat):Int)
       ·exact .inr ⟨a.1,z⟩
       ·exact .inl (.inl (by omega))
      ·exact .inl (.inr a)
     ·rintro ((a|a)|a)
      ·left;simp only[gQ] at a⊢;omega
      ·exact .inr a
      ·left;simp only[gQ] at a⊢;omega
   ·rw[if_neg c2];have c3:y.1+y.2<=r.1:=by omega
    by_cases c4:y.1+y.2=r.1
    ·rw[if_pos c4]
     have Lo:∀q,q∈l->q.1+q.2<=(y.1,y.2+r.2).1\/(y.1,y.2+r.2).1+(y.1,y.2+r.2).2<=q.1:=λq hq=>by
      have h1:=hd q (aB _ hq);have h2:=OX q hq;show q.1+q.2<=y.1\/y.1+(y.2+r.2)<=q.1;omega
     obtain ⟨t1,t2⟩:=pO l (y.1,y.2+r.2) hc.tail (by show 0<y.2+r.2;omega) Lo;refine ⟨t1,λx=>?_⟩;rw[t2 x];simp only[cV,aI,mem_cons];constructor
     ·rintro (a|a)
      ·exact .inl (.inr a)
      ·simp only[gQ] at a⊢
       by_cases z:x<((y.1+y.2:Nat):Int)
       ·exact .inl (.inl ⟨a.1,z⟩)
       ·exact .inr (by omega)
     ·rintro ((a|a)|a)
      ·right;simp only[gQ] at a⊢;omega
      ·exact .inl a
      ·right;simp only[gQ] at a⊢;omega
    ·rw[if_neg c4];obtain ⟨t1,t2⟩:=pO l r hc.tail hr λq hq=>hd q (aB _ hq);refine ⟨t1.cons (a:=gQ y) hh.1 λq hq=>?_,λx=>?_⟩
     ·rcases (t2 q.1).mp ⟨q,hq,kK _,t1.ne q hq⟩ with ⟨v,hv,h1,_⟩|h1
      ·obtain ⟨z,hz,rfl⟩:=aq.mp hv;have:=OX z hz;simp only[gQ] at h1⊢;omega
      ·simp only[gQ] at h1⊢;omega
     ·simp only[cV,aI,mem_cons];rw[show Mem (oM gQ (bP l r)) x↔_ from t2 x,or_assoc]
theorem HN{l:List (Nat×Nat)}{r:Nat×Nat}(hc:mP (cV l))(hr:0<r.2)(hd:∀q,q∈l->q.1+q.2<=r.1\/r.1+r.2<=q.1):jn (cV l++[gQ r])=cV (bP l r):=by
 obtain ⟨h1,h2⟩:=pO l r hc hr hd
 have Zu:Dj (cV l++[gQ r]):=by
  refine gO.mpr ⟨hc.pw.imp λq=>.inl (by omega),by simp,λa ha b hb=>?_⟩;simp at hb;subst hb;obtain ⟨q,hq,rfl⟩:=aq.mp ha;have:=hd q hq;simp only[gQ];omega
 obtain ⟨g1,g2⟩:=OO (l:=cV l++[gQ r]) (λq hq=>by
  rcases bG.mp hq with hq|hq
  ·exact hc.ne q hq
  ·simp at hq;subst hq;simp only[gQ];omega) Zu
 exact A4 g1 h1 λx=>by rw[g2 x,h2 x,mem_append];simp [mem_cons,iX]
def CK(l:List (Nat×Nat))(p n:Nat):Prop:=∃y,y∈l/\y.1<=p/\p+n<=y.1+y.2
theorem Il{l:List (Nat×Nat)}(hc:mP (cV l)){a b:Nat×Nat}(ha:a∈l)(hb:b∈l):a=b\/a.1+a.2<b.1\/b.1+b.2<a.1:=by
 obtain ⟨i,hi,ei⟩:=nY ha;obtain ⟨j,hj,ej⟩:=nY hb;have pg:=pA.mp hc.pw;have N1:i<(cV l).length:=by simpa using hi
 have Q5:j<(cV l).length:=by simpa using hj
 have e1:(cV l)[i]=gQ a:=by simp [ei]
 have e2:(cV l)[j]=gQ b:=by simp [ej]
 rcases Nat.lt_trichotomy i j with ij|ij|ij
 ·have:=pg i j N1 Q5 ij;rw[e1,e2] at this;simp only[gQ] at this;exact .inr (.inl (by omega))
 ·subst ij;exact .inl (ei.symm.trans ej)
 ·have:=pg j i Q5 N1 ij;rw[e1,e2] at this;simp only[gQ] at this;exact .inr (.inr (by omega))
theorem p8{l:List (Nat×Nat)}{p n:Nat}(hc:mP (cV l))(hn:0<n)(h:CK l p n):wo (cV l) p ((p+n:Nat):Int)=cV (bw l p n):=by
 obtain ⟨y,hy,h1,h2⟩:=h
 have hf:∀m:List (Nat×Nat),(∀x,x∈m->x∈l)->wo (cV m) p ((p+n:Nat):Int)=cV (bw m p n):=by
  intro m
  induction m with
  |nil=>intro _;rfl
  |cons x m ih=>
   intro hm;have hx:=hm x aJ;have e1:wo (cV (x::m)) p ((p+n:Nat):Int)=GK p ((p+n:Nat):Int) (gQ x)++wo (cV m) p ((p+n:Nat):Int):=by simp [wo]
   have e2:bw (x::m) p n=(if x.1<=p/\p+n<=x.1+x.2 then (if x.1<p then [(x.1,p-x.1)] else [])++(if p+n<x.1+x.2 then [(p+n,x.1+x.2-(p+n))] else []) else [x])++bw m p n:=by
    simp [bw]
   rw[e1,e2,ih λz hz=>hm z (aB _ hz)];unfold cV;rw[aG];congr 1;have xn:=hc.ne _ (aH (f:=gQ) hx);simp only[gQ] at xn;have ap:=Il hc hx hy;unfold GK;have t1:(gQ x).1=(x.1:Int):=rfl;have t2:(gQ x).2=((x.1+x.2:Nat):Int):=rfl;generalize gQ x=tx at t1 t2
   by_cases c:x.1<=p/\p+n<=x.1+x.2
   ·rw[if_pos c,aG];congr 1
    ·by_cases c1:x.1<p
     ·rw[if_pos c1,if_pos (by omega)];simp only[aI,jd];congr 1;exact qP t1 (by show min tx.2 p=((x.1+(p-x.1):Nat):Int);omega)
     ·rw[if_neg c1,if_neg (by omega)];rfl
    ·by_cases c1:p+n<x.1+x.2
     ·rw[if_pos c1,if_pos (by omega)];simp only[aI,jd];congr 1;exact qP (by show max tx.1 ((p+n:Nat):Int)=((p+n:Nat):Int);omega) (by show tx.2=((p+n+(x.1+x.2-(p+n)):Nat):Int);omega)
     ·rw[if_neg c1,if_neg (by omega)];rfl
   ·rw[if_neg c]
    have ap':x.1+x.2<y.1\/y.1+y.2<x.1:=by
     rcases ap with rfl|ap
     ·exact absurd ⟨h1,h2⟩ c
     ·exact ap
    rcases ap' with q|q
    ·rw[if_pos (by omega),if_neg (by omega)];simp only[aI,jd,fR];congr 1;exact qP t1 (by show min tx.2 p=((x.1+x.2:Nat):Int);omega)
    ·rw[if_neg (by omega),if_pos (by omega)];simp only[aI,jd,lG];congr 1;exact qP (by show max tx.1 ((p+n:Nat):Int)=(x.1:Int);omega) t2
 exact hf l λx h=>h
theorem CC{l:List (Nat×Nat)}{p n:Nat}(hc:mP (cV l))(hn:0<n)(h:CK l p n):mP (cV (bw l p n))/\∀x,Mem (cV (bw l p n)) x↔Mem (cV l) x/\¬((p:Int)<=x/\x<((p+n:Nat):Int)):=by
 rw[<-p8 hc hn h];exact ⟨RI (by omega) hc,λx=>QB (by omega)⟩
def lp(l:List Row)(many mult:Int):Option Int:=(l.find? λr=>decide ((r.1+mult-1)/mult*mult+many<=r.2)).map λr=>(r.1+mult-1)/mult*mult
def me(l:List Row)(f e:Int):Bool:=l.any λr=>decide (r.1<e)&&decide (f<r.2)
def hm(l:List Row):Int:=(l.map λr=>r.2-r.1).sum
theorem FQ(n a:Nat)(ha:0<a):∀l:List (Nat×Nat),lp (cV l) n a=(jQ l n a).map λp=>(p:Int)
 |[]=>rfl
 |x::l=>by
  have e:((x.1:Int)+a-1)/a*a=((mC x.1 a:Nat):Int):=by
   unfold mC;have:((x.1:Int)+a-1)=((x.1+a-1:Nat):Int):=by omega
   rw[this];simp
  have ih:=FQ n a ha l;unfold lp jQ at ih⊢;simp only[cV,aI,dm,gQ];rw[e]
  by_cases c:mC x.1 a+n<=x.1+x.2
  ·rw[decide_eq_true c,decide_eq_true (by omega)];simp [e]
  ·rw[decide_eq_false c,decide_eq_false (by omega)];exact ih
theorem uu:∀l:List (Nat×Nat),hm (cV l)=(aK l:Int)
 |[]=>rfl
 |x::l=>by
  have ih:=uu l;unfold hm aK at ih⊢;simp only[cV,aI,fG,gQ];rw[ih];simp;omega
theorem K2{l:List Row}{f e:Int}(h:f<e)(hn:∀r,r∈l->r.1<r.2):me l f e=true↔∃x,Mem l x/\f<=x/\x<e:=by
 unfold me;rw[dG];constructor
 ·rintro ⟨r,hr,q⟩;simp only[aC,decide_eq_true_eq] at q;have:=hn r hr;exact ⟨max r.1 f,⟨r,hr,by omega,by omega⟩,by omega,by omega⟩
 ·rintro ⟨x,⟨r,hr,h1,h2⟩,h3,h4⟩;exact ⟨r,hr,by simp only[aC,decide_eq_true_eq];omega⟩
end Rm
namespace Rm
open PySem L2
def top(i:Nat):Stmt:=PySem.Challenge.pw_roomhouse_s01_answers.main.body.getD i (.Pass ⟨0,0,0,0⟩)
abbrev Fb:Stmt:=top 14
abbrev BC:Stmt:=top 15
abbrev E_:Stmt:=top 16
abbrev E9:Stmt:=top 17
abbrev JN:Stmt:=top 18
abbrev BD:Stmt:=top 19
structure RT(mg:Str->Option Value):Prop where
 sorted:mg "sorted"=none
 min:mg "min"=none
 max:mg "max"=none
 any:mg "any"=none
 sum:mg "sum"=none
 len:mg "len"=none
 range:mg "range"=none
 list:mg "list"=none
abbrev Pairs(H:Hp)(as:List Addr)(rs:List Row):Prop:=Paired (mF H) as rs
def kF(H:Hp)(l:Addr)(rs:List Row):Prop:=∃as:List Addr,H l=some (.lst (as.map V.ref))/\Pairs H as rs
theorem Pairs.mono{H H':Hp}:∀{as:List Addr} {rs:List Row},Pairs H as rs->(∀a xs,H a=some (.tup xs)->H' a=some (.tup xs))->Pairs H' as rs
 |_,_,.nil,_=>.nil
 |_,_,.cons h t,k=>.cons (k _ _ h) (Pairs.mono t k)
theorem Pairs.len{H:Hp}{as:List Addr}{rs:List Row}(h:Pairs H as rs):as.length=rs.length:=Paired.length h
theorem Pairs.get{H:Hp}:∀{as:List Addr} {rs:List Row} {i:Nat} {a:Addr},Pairs H as rs->as[i]?=some a->∃r,rs[i]?=some r/\mF H a r
 |_,_,_,_,.nil,e=>by simp at e
 |_,_,0,_,.cons h _,e=>by simp at e;subst e;exact ⟨_,rfl,h⟩
 |_,_,i+1,a,.cons _ t,e=>by
  obtain ⟨r,h1,h2⟩:=Pairs.get (i:=i) (a:=a) t (by simpa using e);exact ⟨r,by simpa using h1,h2⟩
theorem Pairs.zip{H:Hp}:∀{as:List Addr} {rs:List Row},Pairs H as rs->∃zs:List (Addr×Int×Int),zs.map (·.1)=as/\zs.map (·.2)=rs/\∀z∈zs,mF H z.1 z.2
 |_,_,.nil=>⟨[],rfl,rfl,λz h=>by cases h⟩
 |_,_,.cons (a:=a) (b:=b) h t=>by
  obtain ⟨zs,e1,e2,e3⟩:=Pairs.zip t
  exact ⟨(a,b)::zs,by rw[aI,e1],by rw[aI,e2],λz hz=>by
   rcases aP.mp hz with rfl|hz
   ·exact h
   ·exact e3 z hz⟩
theorem Pairs.snoc{H:Hp}{as:List Addr}{rs:List Row}{a:Addr}{r:Row}(h:Pairs H as rs)(q:mF H a r):Pairs H (as++[a]) (rs++[r]):=Paired.snoc h q
theorem Pairs.append{H:Hp}:∀{as bs:List Addr} {rs ss:List Row},Pairs H as rs->Pairs H bs ss->Pairs H (as++bs) (rs++ss)
 |_,_,_,_,.nil,q=>q
 |_,_,_,_,.cons h t,q=>.cons h (Pairs.append t q)
theorem Pairs.last{H:Hp}{as:List Addr}{rs:List Row}{q:Row}(h:Pairs H as rs)(e:rs.getLast?=some q):∃bs a,as=bs++[a]/\Pairs H bs rs.dropLast/\mF H a q:=by
 have er:=E8 e;have hl:=h.len
 have iG:as≠[]:=λz=>by
  rw[z] at hl;rw[er] at hl;simp at hl
 refine ⟨as.dropLast,as.getLast iG,(yK iG).symm,?_⟩
 have aux:∀{bs:List Addr} {a:Addr} {ss:List Row} {s:Row},Pairs H (bs++[a]) (ss++[s])->Pairs H bs ss/\mF H a s:=by
  intro bs
  induction bs with
  |nil=>
   intro a ss s p;cases ss with
   |nil=>cases p with|cons h t=>exact ⟨.nil,h⟩
   |cons s2 ss=>
    have:=p.len;simp at this
  |cons b bs ih=>
   intro a ss s p;cases ss with
   |nil=>
    have:=p.len;simp at this
   |cons s2 ss=>
    cases p with
    |cons h t=>
     obtain ⟨h1,h2⟩:=ih t;exact ⟨.cons h h1,h2⟩
 rw[er,<-yK iG] at h;exact aux h
def sU(w:Addr)(H H':Hp):Prop:=∀b o,H b=some o->b≠w->H' b=some o
theorem sU.refl(w:Addr)(H:Hp):sU w H H:=λ_ _ h _=>h
theorem sU.trans{w:Addr}{H H1 H2:Hp}(a:sU w H H1)(b:sU w H1 H2):sU w H H2:=λc o h n=>b c o (a c o h n) n
theorem sU.put{w:Addr}{H:Hp}{o:HO}:sU w H (upd H w o):=λb u h n=>by rw[az n];exact h
theorem sU.new{w p:Addr}{H:Hp}{o:HO}(hp:H p=none):sU w H (upd H p o):=λb u h n=>by rw[az (aQ h hp)];exact h
theorem aX{p:Addr}{H:Hp}{o:HO}(hp:H p=none):cY H (upd H p o):=λb u h=>by rw[az (aQ h hp)];exact h
theorem sU.pairs{w:Addr}{H H':Hp}{as:List Addr}{rs:List Row}{xs:List V}(b:sU w H H')(hw:H w=some (.lst xs))(h:Pairs H as rs):Pairs H' as rs:=
 h.mono λa ys e=>b a _ e (mh e hw (by intro z;cases z))
theorem big{n:Nat}(h:n<=1000000):n<sizeLine:=vA h (by decide)
theorem fs{N P:List Str}{sc:Scope}(a:sc.kind=.function:=by rfl)(b:sc.isCoroutine=false:=by rfl)(c:sc.isGenerator=false:=by rfl)(d:N.Nodup:=by decide+kernel)(e:N.take P.length=P:=by rfl)(f:∀x∈P,sc.names.lookup x=some .local\/sc.names.lookup x=some .cell:=by decide+kernel)(g:∀y∈sc.names,y.2≠.free:=by decide+kernel):bF N P sc:=⟨a,b,c,d,e,f,g⟩
end Rm
namespace Rm
open PySem L2
section
variable{P:Program}{w:World}{K:au}{mg:Str->Option Value}{base:Heap}
def Jy:Sp:=λvs H Q _=>∃(l:Addr) (rs:List Row),vs=[.ref l]/\kF H l rs/\rs.length<=1000000/\∀(H':Hp) (l':Addr),cY H H'->H l'=none->kF H' l' (jn rs)->Q (.ref l') H'
theorem V1:bF ["rows","whole","first","end"] ["rows"] (aY Fb):=fs
theorem zq{f:Addr}{fd:FuncData}(F:Iw K "joined" "joined" Fb f fd)(T:RT mg):dU P w K mg base pq 1 f fd ["rows"] Jy:=by
 refine F.ok V1 (λvs H Q E h=>?_) (λgX A outer s H vs Q E hr h=>?_)
 ·obtain ⟨l,rs,rfl,_⟩:=h;rfl
 ·obtain ⟨l,rs,rfl,⟨as,hl,hp⟩,hz,k⟩:=h
  refine ⟨_,ao (bY (i:=1) V1.nd rfl (bh rfl) (fy aA))
   (ao (jY PassesOwn.never rfl (iV (cF Ep rfl T.sorted nO (aa (pv 0) aA))) (qh rfl (gm (dB (i:=2) V1.nd rfl (bh rfl)) (gm (dB (i:=3) V1.nd rfl (bh rfl)) nB)))
    (aF (fC (AB (pH (pv 1) (λ_=>rfl)) (wG (dz lA (eY ir (eY fE (pv 1) (Fp Ao bq) (λ_ _=>rfl)) bq (λ_ _=>rfl)) (pv 2) (dH _)))).pt
     (aF (Qj (k_ (aa (eY ir (eY fE (pv 1) (Fp Ao bq) (λ_ _=>rfl)) bq (λ_ _=>rfl)) (aa (pv 3) aA))) (Ql (pv 1) (Fp Ao bq) set_list)))
     (aF (bV (pJ cJ gE gC nM (pv 1) (aa (k_ (aa (pv 2) (aa (pv 3) aA))) aA)))))))
   (aF (bT (pv 1)))),?_⟩
  refine ⟨bH _,λwl hw=>?_⟩;obtain ⟨zs,e1,e2,e3⟩:=hp.zip
  have nF:upd H wl (.lst []) l=some (.lst (zs.map λr=>V.ref r.1)):=by
   rw[az (aQ hl hw),hl,<-e1,ay];rfl
  have AZ:∀z∈zs,mF (upd H wl (.lst [])) z.1 z.2:=λz hz=>aX hw _ _ (e3 z hz);refine ⟨_,rfl,l,zs,rfl,mY.of nF,AZ,λBb p pr pw CZ=>?_⟩;have La:Bb.length=rs.length:=by rw[pr.length_eq,<-e2,aj]
  have ks:Bb.map (·.2)=sX rs:=JJ (by rw[<-e2];exact pr.map _) (eU.mpr pw);have Wl:p≠wl:=λz=>by rw[z,ak] at CZ;cases CZ
  have yE:∀z∈Bb,mF (upd (upd H wl (.lst [])) p (.lst (Bb.map λr=>V.ref r.1))) z.1 z.2:=λz hz=>aX CZ _ _ (AZ z (pr.mem_iff.mp hz));generalize OT:upd (upd H wl (.lst [])) p (.lst (Bb.map λr=>V.ref r.1))=H1 at yE
  have Sl:∀b o,H b=some o->b≠wl/\H1 b=some o:=λb o e=>by
   have n1:b≠wl:=aQ e hw;refine ⟨n1,?_⟩;rw[<-OT];exact aX CZ _ _ (by rw[az n1];exact e)
  have Se:H1 wl=some (.lst []):=by rw[<-OT,az Wl.symm,ak]
  have v9:H1 p=some (.lst (Bb.map λr=>V.ref r.1)):=by rw[<-OT,ak]
  refine ⟨p,rfl,⟨_,mY.of v9⟩,j8 (K:=K) (a:=p) (xs:=Bb.map λr=>V.ref r.1) (λi σ H2=>∃(v2 v3:Option V) (ws:List Addr),σ=[some (.ref l),some (.ref wl),v2,v3]/\sU wl H1 H2/\H2 wl=some (.lst (ws.map V.ref))/\
    ws.length<=i/\Pairs H2 ws (((Bb.map (·.2)).take i).foldl j7 []))
   ⟨none,none,[],rfl,sU.refl _ _,Se,aL _,.nil⟩ (λi σ H2 _ ⟨_,_,_,_,b,_⟩=>mY.of (b p _ v9 Wl)) ?_ ?_⟩
  ·rintro i y σ H2 hi ⟨v2,v3,ws,rfl,b,vZ,R_,zH⟩
   obtain ⟨z,hz,rfl⟩:∃z,Bb[i]?=some z/\y=V.ref z.1:=by
    rw[cu] at hi;cases e:Bb[i]? with
    |none=>rw[e] at hi;cases hi
    |some z=>rw[e] at hi;exact ⟨z,rfl,(bC hi).symm⟩
   have N1:i<Bb.length:=(bR.mp hz).1;have hzp:H2 z.1=some (.tup [.int z.2.1,.int z.2.2]):=b _ _ (yE z (cA hz)) (mh (yE z (cA hz)) Se (by intro z;cases z));have tk:(Bb.map (·.2)).take (i+1)=(Bb.map (·.2)).take i++[z.2]:=by rw[cN,cu,hz];rfl
   have fl:((Bb.map (·.2)).take (i+1)).foldl j7 []=j7 (((Bb.map (·.2)).take i).foldl j7 []) z.2:=by rw[tk,List.foldl_append];rfl
   refine ⟨z.1,_,rfl,lW.of hzp,rfl,_,_,rfl,_,_,rfl,rfl,?_⟩;generalize ((Bb.map (·.2)).take i).foldl j7 []=js at zH fl;have hlen:=zH.len;refine ⟨_,rfl,_,.inl ⟨_,mY.of vZ,rfl⟩,?_⟩;cases ej:js.getLast? with
   |none=>
    have ejs:js=[]:=pB.mp ej;have ews:ws=[]:=CN.mp (by rw[hlen,ejs];rfl);subst ews;refine mJ ?_;refine mJ ?_;refine ⟨_,rfl,.inl ⟨rfl,_,mY.of vZ⟩,_,rfl,_,rfl,(by show 2<=sizeLine;decide),λt ht=>?_⟩;have nt:wl≠t:=aQ vZ ht;refine ⟨wl,_,_,rfl,rfl,(by rw[az nt];exact vZ),(by show 0<sizeLine;decide),?_⟩;refine ⟨_,_,[t],rfl,(b.trans (sU.new ht)).trans sU.put,ak,by show 1<=i+1;omega,?_⟩;rw[fl,ejs];refine .cons ?_ .nil;show upd _ _ _ t=_;rw[az nt.symm,ak]
   |some q=>
    obtain ⟨bs,a,rfl,hbs,ha⟩:=zH.last ej;have iG:(!((bs++[a]).map V.ref).isEmpty)=true:=by cases bs<;>rfl
    have Rf:Gv ((bs++[a]).map V.ref) (-1)=some (V.ref a):=by rw[aG];exact CG _ _
    rw[iG];refine lg ?_;refine ⟨_,rfl,_,rfl,wl,_,_,_,rfl,rfl,mY.of vZ,Rf,a,_,_,_,rfl,rfl,lW.of ha,rfl,_,rfl,rfl,_,rfl,?_⟩;refine iP (λc=>?_) (λc=>?_)
    ·have c':q.2=z.2.1:=by
      have c2:=of_decide_eq_true c;injection c2
     have ZW:j7 js z.2=js.dropLast++[(q.1,z.2.2)]:=by unfold j7;rw[ej];dsimp only;rw[if_pos c']
     refine ⟨_,rfl,_,rfl,wl,_,_,_,rfl,rfl,mY.of vZ,Rf,a,_,_,_,rfl,rfl,lW.of ha,rfl,_,rfl,(by show 2<=sizeLine;decide),λt ht=>?_⟩;have nt:wl≠t:=aQ vZ ht;refine ⟨_,rfl,_,rfl,wl,_,_,bs.length,rfl,rfl,(by rw[az nt];exact vZ),(by simp [Me];omega),?_⟩;refine ⟨_,_,bs++[t],rfl,(b.trans (sU.new ht)).trans sU.put,?_,?_,?_⟩
     ·rw[ak];simp
     ·have:=R_;simp at this⊢;omega
     ·rw[fl,ZW];refine Pairs.snoc (sU.pairs sU.put (by rw[az nt];exact vZ) (Pairs.mono hbs λa' xs e=>aX ht _ _ e)) ?_;show upd _ _ _ t=_;rw[az nt.symm,ak]
    ·have c':¬q.2=z.2.1:=λy=>c (decide_eq_true (by rw[y]));have ZW:j7 js z.2=js++[z.2]:=by unfold j7;rw[ej];dsimp only;rw[if_neg c']
     refine ⟨_,rfl,.inl ⟨rfl,_,mY.of vZ⟩,_,rfl,_,rfl,(by show 2<=sizeLine;decide),λt ht=>?_⟩;have nt:wl≠t:=aQ vZ ht;refine ⟨wl,_,_,rfl,rfl,(by rw[az nt];exact vZ),big (by rw[aj];omega),?_⟩;refine ⟨_,_,bs++[a]++[t],rfl,(b.trans (sU.new ht)).trans sU.put,?_,?_,?_⟩
     ·rw[ak];simp
     ·have:=R_;simp at this⊢;omega
     ·rw[fl,ZW];refine Pairs.snoc (sU.pairs sU.put (by rw[az nt];exact vZ) (Pairs.mono zH λa' xs e=>aX ht _ _ e)) ?_;show upd _ _ _ t=_;rw[az nt.symm,ak]
  ·rintro σ H2 ⟨v2,v3,ws,rfl,b,vZ,R_,zH⟩;refine ⟨_,rfl,k H2 wl (λc o e=>b c o (Sl c o e).2 (Sl c o e).1) hw ⟨ws,vZ,?_⟩⟩;have e:(Bb.map (·.2)).take (Bb.map λr=>V.ref r.1).length=sX rs:=by rw[<-ks,b8 (by simp)]
   rw[e] at zH;exact zH
theorem lQ{as:List Addr}{i:Nat}{y:V}(h:(as.map V.ref)[i]?=some y):∃a,as[i]?=some a/\y=V.ref a:=by
 rw[cu] at h;cases e:as[i]? with
 |none=>rw[e] at h;cases h
 |some a=>rw[e] at h;exact ⟨a,rfl,(bC h).symm⟩
def rQ(p:Row):List Row:=if p.1<p.2 then [p] else []
def parts(f e:Int)(r:Row):List Row:=[(r.1,min r.2 f),(max r.1 e,r.2)]
theorem GJ(f e:Int)(r:Row):GK f e r=(parts f e r).flatMap rQ:=by simp [GK,parts,rQ]
theorem Mu{l:List Row}{r:Row}{f e:Int}:wo (l++[r]) f e=wo l f e++(parts f e r).flatMap rQ:=by
 rw[<-GJ];simp [wo]
def G7:Sp:=λvs H Q _=>∃(l:Addr) (rs:List Row) (f e:Int),vs=[.ref l,.int f,.int e]/\kF H l rs/\rs.length<=100000/\∀(H':Hp) (l':Addr),cY H H'->H l'=none->kF H' l' (wo rs f e)->Q (.ref l') H'
theorem VZ:bF ["rows","first","end","left","row","part"] ["rows","first","end"] (aY BC):=fs
theorem tN{fa:Addr}{fd:FuncData}(F:Iw K "without" "without" BC fa fd)(T:RT mg):dU P w K mg base pq 1 fa fd ["rows","first","end"] G7:=by
 refine F.ok VZ (λvs H Q E h=>?_) (λgX A outer s H vs Q E hr h=>?_)
 ·obtain ⟨l,rs,f,e,rfl,_⟩:=h;rfl
 ·obtain ⟨l,rs,f,e,rfl,⟨as,hl,hp⟩,hz,k⟩:=h
  refine ⟨_,ao (bY (i:=3) VZ.nd rfl (bh rfl) (fy aA))
   (ao (jY PassesOwn.never rfl (iV (pv 0)) (dB (i:=4) VZ.nd rfl (bh rfl))
    (aF (jY PassesOwn.never rfl (iV (fy (aa (k_ (aa (eY ir (pv 4) bq (λ_ _=>rfl)) (aa (cF (zU rfl) rfl T.min yy (aa (eY ir (pv 4) bq (λ_ _=>rfl)) (aa (pv 1) aA))) aA)))
      (aa (k_ (aa (cF (kC rfl) rfl T.max eX (aa (eY ir (pv 4) bq (λ_ _=>rfl)) (aa (pv 2) aA))) (aa (eY ir (pv 4) bq (λ_ _=>rfl)) aA))) aA))))
     (dB (i:=5) VZ.nd rfl (bh rfl))
     (aF (fC (dz rS (eY ir (pv 5) bq (λ_ _=>rfl)) (eY ir (pv 5) bq (λ_ _=>rfl)) (dH _))
      (aF (bV (pJ cJ gE gC nM (pv 3) (aa (pv 5) aA)))) cZ)))))
   (aF (bT (pv 3)))),?_⟩
  refine ⟨bH _,λwl hw=>?_⟩;have hnw:l≠wl:=aQ hl hw;have nF:upd H wl (.lst []) l=some (.lst (as.map V.ref)):=by rw[az hnw];exact hl
  have AZ:Pairs (upd H wl (.lst [])) as rs:=hp.mono λa xs z=>aX hw _ _ z;have Se:upd H wl (.lst []) wl=some (.lst []):=ak;have Sl:∀b o,H b=some o->b≠wl/\upd H wl (.lst []) b=some o:=λb o z=>⟨aQ z hw,aX hw _ _ z⟩;generalize upd H wl (.lst [])=H1 at nF AZ Se Sl
  refine ⟨_,rfl,l,rfl,⟨_,mY.of nF⟩,j8 (K:=K) (a:=l) (xs:=as.map V.ref) (λi σ H2=>∃(v4 v5:Option V) (ws:List Addr),σ=[some (.ref l),some (.int f),some (.int e),some (.ref wl),v4,v5]/\sU wl H1 H2/\H2 wl=some (.lst (ws.map V.ref))/\
    ws.length<=2*i/\Pairs H2 ws (wo (rs.take i) f e))
   ⟨none,none,[],rfl,sU.refl _ _,Se,aL _,.nil⟩ (λi σ H2 _ ⟨_,_,_,_,b,_⟩=>mY.of (b l _ nF hnw)) ?_ ?_⟩
  ·rintro i y σ H2 hi ⟨v4,v5,ws,rfl,b,vZ,R_,zH⟩;obtain ⟨a,ha,rfl⟩:=lQ hi;obtain ⟨r,m9,Mn⟩:=AZ.get ha;have N1:i<as.length:=(bR.mp ha).1;have vO:as.length=rs.length:=AZ.len;have we:H2 a=some (.tup [.int r.1,.int r.2]):=b _ _ Mn (mh Mn Se (by intro z;cases z));have tk:rs.take (i+1)=rs.take i++[r]:=by rw[cN,m9];rfl
   refine ⟨_,rfl,a,_,_,_,rfl,rfl,lW.of we,rfl,_,rfl,a,_,_,_,rfl,rfl,lW.of we,rfl,_,rfl,_,_,rfl,(by show 2<=sizeLine;decide),λt1 QO=>?_⟩;have n1:wl≠t1:=aQ vZ QO;have na1:a≠t1:=aQ we QO;have Ve:upd H2 t1 (.tup [.int r.1,.int (if f<r.2 then f else r.2)]) a=some (.tup [.int r.1,.int r.2]):=by rw[az na1];exact we
   refine ⟨_,rfl,a,_,_,_,rfl,rfl,lW.of Ve,rfl,_,rfl,_,_,rfl,_,rfl,a,_,_,_,rfl,rfl,lW.of Ve,rfl,(by show 2<=sizeLine;decide),λt2 Sf=>?_⟩;have n2:t1≠t2:=λz=>by rw[<-z,ak] at Sf;cases Sf
   have YC:H2 t2=none:=by rw[az n2.symm] at Sf;exact Sf
   have n3:wl≠t2:=aQ vZ YC;refine ⟨(by show 2<=sizeLine;decide),λpl v9=>?_⟩;have e1:(if f<r.2 then f else r.2)=min r.2 f:=by split<;>omega
   have e2:(if e>r.1 then e else r.1)=max r.1 e:=by split<;>omega
   rw[e1] at v9 Sf⊢;rw[e2] at v9⊢;have n4:t1≠pl:=λz=>by rw[<-z,az n2,ak] at v9;cases v9
   have n5:t2≠pl:=λz=>by rw[<-z,ak] at v9;cases v9
   have YR:H2 pl=none:=by rw[az n5.symm,az n4.symm] at v9;exact v9
   have n6:wl≠pl:=aQ vZ YR
   have k1:upd (upd (upd H2 t1 (.tup [.int r.1,.int (min r.2 f)])) t2 (.tup [.int (max r.1 e),.int r.2])) pl (.lst [.ref t1,.ref t2]) t1=some (.tup [.int r.1,.int (min r.2 f)]):=by
    rw[az n4,az n2,ak]
   have k2:upd (upd (upd H2 t1 (.tup [.int r.1,.int (min r.2 f)])) t2 (.tup [.int (max r.1 e),.int r.2])) pl (.lst [.ref t1,.ref t2]) t2=some (.tup [.int (max r.1 e),.int r.2]):=by
    rw[az n5,ak]
   have k3:upd (upd (upd H2 t1 (.tup [.int r.1,.int (min r.2 f)])) t2 (.tup [.int (max r.1 e),.int r.2])) pl (.lst [.ref t1,.ref t2]) pl=some (.lst [.ref t1,.ref t2]):=ak;have k4:cY H2 (upd (upd (upd H2 t1 (.tup [.int r.1,.int (min r.2 f)])) t2 (.tup [.int (max r.1 e),.int r.2])) pl (.lst [.ref t1,.ref t2])):=((aX QO).trans (aX Sf)).trans (aX v9);generalize upd (upd (upd H2 t1 (.tup [.int r.1,.int (min r.2 f)])) t2 (.tup [.int (max r.1 e),.int r.2])) pl (.lst [.ref t1,.ref t2])=H3 at k1 k2 k3 k4;have kp:Pairs H3 [t1,t2] (parts f e r):=.cons k1 (.cons k2 .nil);have b3:sU wl H1 H3:=λc o z n=>k4 c o (b c o z n)
   refine ⟨pl,rfl,⟨_,mY.of k3⟩,j8 (K:=K) (a:=pl) (xs:=[t1,t2].map V.ref) (λj σ H4=>∃(v5:Option V) (ws:List Addr),σ=[some (.ref l),some (.int f),some (.int e),some (.ref wl),some (.ref a),v5]/\sU wl H3 H4/\H4 wl=some (.lst (ws.map V.ref))/\
     ws.length<=2*i+j/\Pairs H4 ws (wo (rs.take i) f e++((parts f e r).take j).flatMap rQ))
    ⟨v5,ws,rfl,sU.refl _ _,k4 _ _ vZ,R_,by simpa using zH.mono λa xs z=>k4 _ _ z⟩ (λj σ H4 _ ⟨_,_,_,b4,_⟩=>mY.of (b4 pl _ k3 n6.symm)) ?_ ?_⟩
   ·rintro j y σ H4 hj ⟨v5,ws,rfl,b4,D9,Uz,NV⟩;obtain ⟨t,ht,rfl⟩:=lQ hj;obtain ⟨q,hq,htq⟩:=kp.get ht;have NU:H4 t=some (.tup [.int q.1,.int q.2]):=b4 _ _ htq (mh htq (k4 _ _ vZ) (by intro z;cases z));have tj:(parts f e r).take (j+1)=(parts f e r).take j++[q]:=by rw[cN,hq];rfl
    have Zm:j<2:=(bR.mp ht).1;refine ⟨_,rfl,t,_,_,_,rfl,rfl,lW.of NU,rfl,_,rfl,t,_,_,_,rfl,rfl,lW.of NU,rfl,_,_,rfl,rfl,_,rfl,?_⟩;refine iP (λc=>?_) (λc=>?_)
    ·have c':q.1<q.2:=of_decide_eq_true c;refine ⟨_,rfl,.inl ⟨rfl,_,mY.of D9⟩,_,rfl,wl,_,_,rfl,rfl,D9,big (by rw[aj];omega),?_⟩;refine ⟨_,ws++[t],rfl,b4.trans sU.put,by rw[ak];simp,by simp;omega,?_⟩;rw[tj,iz,<-cD];have ep:[q].flatMap rQ=[q]:=by simp [rQ,c']
     rw[ep];refine Pairs.snoc (sU.pairs sU.put D9 NV) ?_;show upd _ _ _ t=_;rw[az (mh NU D9 (by intro z;cases z))];exact NU
    ·have c':¬q.1<q.2:=λz=>c (decide_eq_true z);refine ⟨_,ws,rfl,b4,D9,by omega,?_⟩;rw[tj,iz];have ep:[q].flatMap rQ=[]:=by simp [rQ,c']
     rw[ep,fR];exact NV
   ·rintro σ H4 ⟨v5,ws,rfl,b4,D9,Uz,NV⟩;refine ⟨_,_,ws,rfl,b3.trans b4,D9,by simp at Uz;omega,?_⟩;rw[tk,Mu];exact NV
  ·rintro σ H2 ⟨v4,v5,ws,rfl,b,vZ,R_,zH⟩;refine ⟨_,rfl,k H2 wl (λc o z=>b c o (Sl c o z).2 (Sl c o z).1) hw ⟨ws,vZ,?_⟩⟩;have vO:as.length=rs.length:=AZ.len;have ee:rs.take (as.map V.ref).length=rs:=b8 (by rw[aj,vO];exact aL _);rw[ee] at zH;exact zH
end
end Rm
namespace Rm
open PySem L2 PyProof.Rows
inductive Kl where
 |eW|bQ|aM|bD|aD
inductive Xc where
 |b7|dg|tZ|dO
 deriving DecidableEq
inductive Fn where
 |qL|qK|oA|jy|qN|lU|qM|mX|gT|kJ|lV|aS|jL|gn|fk|i_|o7|gq|qy|mU|oq|m6|qz|m8|qx|m5|qw|kI|kY|g7|iW|fN|gZ|g9|fY|e8|d9|oG|i8|qH|mW|qE|qI|kZ|qD|lT|wg|wj|qJ|k7|k6|qF|qC|g8|fO|uw|iQ|fX|iY|gK|eZ|oz|fj|jK|gS|iZ|jx|jw|qG|i0|fF|dw|iB|cU
def Fn.nm:Fn->Str
 |.qL=>"__init__"
 |.qK=>"more"
 |.oA=>"less"
 |.jy=>"numbers"
 |.qN=>"__init__"
 |.lU=>"write"
 |.qM=>"read"
 |.mX=>"parts"
 |.gT=>"overwrite"
 |.kJ=>"blank"
 |.lV=>"piece"
 |.aS=>"check_range"
 |.jL=>"joined"
 |.gn=>"without"
 |.fk=>"lowest_place"
 |.i_=>"within_one"
 |.o7=>"meets"
 |.gq=>"how_many"
 |.qy=>"__init__"
 |.mU=>"begin"
 |.oq=>"make"
 |.m6=>"take"
 |.qz=>"give"
 |.m8=>"grow"
 |.qx=>"mark"
 |.m5=>"trim"
 |.qw=>"sums"
 |.kI=>"taken"
 |.kY=>"ask_for"
 |.g7=>"granted"
 |.iW=>"own_rows"
 |.fN=>"end_of_loose"
 |.gZ=>"set_free"
 |.g9=>"size_for"
 |.fY=>"pages_for"
 |.e8=>"pages_of_run"
 |.d9=>"places_of_run"
 |.oG=>"__init__"
 |.i8=>"is_great"
 |.qH=>"__init__"
 |.mW=>"begin"
 |.qE=>"take"
 |.qI=>"give"
 |.kZ=>"resize"
 |.qD=>"told"
 |.lT=>"holds"
 |.wg=>"put"
 |.wj=>"get"
 |.qJ=>"copy"
 |.k7=>"blocks"
 |.k6=>"counts"
 |.qF=>"sums"
 |.qC=>"trim"
 |.g8=>"block_at"
 |.fO=>"holds_all"
 |.uw=>"lay"
 |.iQ=>"lay_great"
 |.fX=>"lay_small"
 |.iY=>"take_run"
 |.gK=>"open_runs"
 |.eZ=>"free_places"
 |.oz=>"drop"
 |.fj=>"give_up_small"
 |.jK=>"give_up"
 |.gS=>"is_surplus"
 |.iZ=>"is_empty"
 |.jx=>"can_stay"
 |.jw=>"stretch"
 |.qG=>"move"
 |.i0=>"answers"
 |.fF=>"whole_answer"
 |.dw=>"answer_or_refusal"
 |.iB=>"answer_of"
 |.cU=>"answer_without_asks"
def Fn.qual:Fn->Str
 |.qL=>"Given.__init__"
 |.qK=>"Given.more"
 |.oA=>"Given.less"
 |.jy=>"Given.numbers"
 |.qN=>"Content.__init__"
 |.lU=>"Content.write"
 |.qM=>"Content.read"
 |.mX=>"Content.parts"
 |.gT=>"Content.overwrite"
 |.kJ=>"Content.blank"
 |.lV=>"Content.piece"
 |.aS=>"check_range"
 |.jL=>"joined"
 |.gn=>"without"
 |.fk=>"lowest_place"
 |.i_=>"within_one"
 |.o7=>"meets"
 |.gq=>"how_many"
 |.qy=>"Pages.__init__"
 |.mU=>"Pages.begin"
 |.oq=>"Pages.make"
 |.m6=>"Pages.take"
 |.qz=>"Pages.give"
 |.m8=>"Pages.grow"
 |.qx=>"Pages.mark"
 |.m5=>"Pages.trim"
 |.qw=>"Pages.sums"
 |.kI=>"Pages.taken"
 |.kY=>"Pages.ask_for"
 |.g7=>"Pages.granted"
 |.iW=>"Pages.own_rows"
 |.fN=>"Pages.end_of_loose"
 |.gZ=>"Pages.set_free"
 |.g9=>"size_for"
 |.fY=>"pages_for"
 |.e8=>"pages_of_run"
 |.d9=>"places_of_run"
 |.oG=>"Block.__init__"
 |.i8=>"Block.is_great"
 |.qH=>"House.__init__"
 |.mW=>"House.begin"
 |.qE=>"House.take"
 |.qI=>"House.give"
 |.kZ=>"House.resize"
 |.qD=>"House.told"
 |.lT=>"House.holds"
 |.wg=>"House.put"
 |.wj=>"House.get"
 |.qJ=>"House.copy"
 |.k7=>"House.blocks"
 |.k6=>"House.counts"
 |.qF=>"House.sums"
 |.qC=>"House.trim"
 |.g8=>"House.block_at"
 |.fO=>"House.holds_all"
 |.uw=>"House.lay"
 |.iQ=>"House.lay_great"
 |.fX=>"House.lay_small"
 |.iY=>"House.take_run"
 |.gK=>"House.open_runs"
 |.eZ=>"House.free_places"
 |.oz=>"House.drop"
 |.fj=>"House.give_up_small"
 |.jK=>"House.give_up"
 |.gS=>"House.is_surplus"
 |.iZ=>"House.is_empty"
 |.jx=>"House.can_stay"
 |.jw=>"House.stretch"
 |.qG=>"House.move"
 |.i0=>"answers"
 |.fF=>"whole_answer"
 |.dw=>"answer_or_refusal"
 |.iB=>"answer_of"
 |.cU=>"answer_without_asks"
def Fn.st:Fn->Stmt
 |.qL=>inClass (top 3) 0
 |.qK=>inClass (top 3) 1
 |.oA=>inClass (top 3) 2
 |.jy=>inClass (top 3) 3
 |.qN=>inClass (top 6) 0
 |.lU=>inClass (top 6) 1
 |.qM=>inClass (top 6) 2
 |.mX=>inClass (top 6) 3
 |.gT=>inClass (top 6) 4
 |.kJ=>inClass (top 6) 5
 |.lV=>inClass (top 6) 6
 |.aS=>top 12
 |.jL=>top 14
 |.gn=>top 15
 |.fk=>top 16
 |.i_=>top 17
 |.o7=>top 18
 |.gq=>top 19
 |.qy=>inClass (top 26) 0
 |.mU=>inClass (top 26) 1
 |.oq=>inClass (top 26) 2
 |.m6=>inClass (top 26) 3
 |.qz=>inClass (top 26) 4
 |.m8=>inClass (top 26) 5
 |.qx=>inClass (top 26) 6
 |.m5=>inClass (top 26) 7
 |.qw=>inClass (top 26) 8
 |.kI=>inClass (top 26) 9
 |.kY=>inClass (top 26) 10
 |.g7=>inClass (top 26) 11
 |.iW=>inClass (top 26) 12
 |.fN=>inClass (top 26) 13
 |.gZ=>inClass (top 26) 14
 |.g9=>top 32
 |.fY=>top 33
 |.e8=>top 34
 |.d9=>top 35
 |.oG=>inClass (top 45) 0
 |.i8=>inClass (top 45) 1
 |.qH=>inClass (top 46) 0
 |.mW=>inClass (top 46) 1
 |.qE=>inClass (top 46) 2
 |.qI=>inClass (top 46) 3
 |.kZ=>inClass (top 46) 4
 |.qD=>inClass (top 46) 5
 |.lT=>inClass (top 46) 6
 |.wg=>inClass (top 46) 7
 |.wj=>inClass (top 46) 8
 |.qJ=>inClass (top 46) 9
 |.k7=>inClass (top 46) 10
 |.k6=>inClass (top 46) 11
 |.qF=>inClass (top 46) 12
 |.qC=>inClass (top 46) 13
 |.g8=>inClass (top 46) 14
 |.fO=>inClass (top 46) 15
 |.uw=>inClass (top 46) 16
 |.iQ=>inClass (top 46) 17
 |.fX=>inClass (top 46) 18
 |.iY=>inClass (top 46) 19
 |.gK=>inClass (top 46) 20
 |.eZ=>inClass (top 46) 21
 |.oz=>inClass (top 46) 22
 |.fj=>inClass (top 46) 23
 |.jK=>inClass (top 46) 24
 |.gS=>inClass (top 46) 25
 |.iZ=>inClass (top 46) 26
 |.jx=>inClass (top 46) 27
 |.jw=>inClass (top 46) 28
 |.qG=>inClass (top 46) 29
 |.i0=>top 64
 |.fF=>top 65
 |.dw=>top 66
 |.iB=>top 67
 |.cU=>top 68
def Fn.ps:Fn->List Str
 |.qL=>["self","replies"]
 |.qK=>["self","many"]
 |.oA=>["self","first","many"]
 |.jy=>["self"]
 |.qN=>["self"]
 |.lU=>["self","start","row"]
 |.qM=>["self","start","many"]
 |.mX=>["self","start","many"]
 |.gT=>["self","start","many","parts"]
 |.kJ=>["self","start","end"]
 |.lV=>["self","number"]
 |.aS=>["number","least","most"]
 |.jL=>["rows"]
 |.gn=>["rows","first","end"]
 |.fk=>["rows","many","multiple"]
 |.i_=>["rows","first","end"]
 |.o7=>["rows","first","end"]
 |.gq=>["rows"]
 |.qy=>["self"]
 |.mU=>["self","size","chunk","spare","given"]
 |.oq=>["self","size","chunk","spare"]
 |.m6=>["self","many","exponent","mark","given"]
 |.qz=>["self","first","given"]
 |.m8=>["self","first","many","given"]
 |.qx=>["self","first","new_mark"]
 |.m5=>["self","most","given"]
 |.qw=>["self"]
 |.kI=>["self"]
 |.kY=>["self","many","multiple","given"]
 |.g7=>["self","many","given"]
 |.iW=>["self"]
 |.fN=>["self","first"]
 |.gZ=>["self","first","end"]
 |.g9=>["many","multiple"]
 |.fY=>["many"]
 |.e8=>["small"]
 |.d9=>["small","run"]
 |.oG=>["self","size","room","run"]
 |.i8=>["self"]
 |.qH=>["self"]
 |.mW=>["self","size","chunk","spare","given"]
 |.qE=>["self","size","exponent","given"]
 |.qI=>["self","place","given"]
 |.kZ=>["self","place","size","given"]
 |.qD=>["self","place"]
 |.lT=>["self","at"]
 |.wg=>["self","at","row"]
 |.wj=>["self","at","many"]
 |.qJ=>["self","origin","goal","many"]
 |.k7=>["self","start","most"]
 |.k6=>["self"]
 |.qF=>["self"]
 |.qC=>["self","given"]
 |.g8=>["self","place"]
 |.fO=>["self","at","many"]
 |.uw=>["self","size","multiple","given"]
 |.iQ=>["self","size","given"]
 |.fX=>["self","size","small","given"]
 |.iY=>["self","pages","mark","given"]
 |.gK=>["self","small"]
 |.eZ=>["self","small","run"]
 |.oz=>["self","place","given"]
 |.fj=>["self","small","run","given"]
 |.jK=>["self","run","given"]
 |.gS=>["self","small","run"]
 |.iZ=>["self","small","run"]
 |.jx=>["self","block","size","given"]
 |.jw=>["self","block","pages","given"]
 |.qG=>["self","place","size","given"]
 |.i0=>["calls"]
 |.fF=>["house","number","numbers","row"]
 |.dw=>["house","number","numbers","row","given"]
 |.iB=>["house","number","numbers","row","given"]
 |.cU=>["house","number","numbers","row"]
def Fn.own:Fn->Option Kl
 |.qL=>some .eW
 |.qK=>some .eW
 |.oA=>some .eW
 |.jy=>some .eW
 |.qN=>some .bQ
 |.lU=>some .bQ
 |.qM=>some .bQ
 |.mX=>some .bQ
 |.gT=>some .bQ
 |.kJ=>some .bQ
 |.lV=>some .bQ
 |.aS=>none
 |.jL=>none
 |.gn=>none
 |.fk=>none
 |.i_=>none
 |.o7=>none
 |.gq=>none
 |.qy=>some .aM
 |.mU=>some .aM
 |.oq=>some .aM
 |.m6=>some .aM
 |.qz=>some .aM
 |.m8=>some .aM
 |.qx=>some .aM
 |.m5=>some .aM
 |.qw=>some .aM
 |.kI=>some .aM
 |.kY=>some .aM
 |.g7=>some .aM
 |.iW=>some .aM
 |.fN=>some .aM
 |.gZ=>some .aM
 |.g9=>none
 |.fY=>none
 |.e8=>none
 |.d9=>none
 |.oG=>some .bD
 |.i8=>some .bD
 |.qH=>some .aD
 |.mW=>some .aD
 |.qE=>some .aD
 |.qI=>some .aD
 |.kZ=>some .aD
 |.qD=>some .aD
 |.lT=>some .aD
 |.wg=>some .aD
 |.wj=>some .aD
 |.qJ=>some .aD
 |.k7=>some .aD
 |.k6=>some .aD
 |.qF=>some .aD
 |.qC=>some .aD
 |.g8=>some .aD
 |.fO=>some .aD
 |.uw=>some .aD
 |.iQ=>some .aD
 |.fX=>some .aD
 |.iY=>some .aD
 |.gK=>some .aD
 |.eZ=>some .aD
 |.oz=>some .aD
 |.fj=>some .aD
 |.jK=>some .aD
 |.gS=>some .aD
 |.iZ=>some .aD
 |.jx=>some .aD
 |.jw=>some .aD
 |.qG=>some .aD
 |.i0=>none
 |.fF=>none
 |.dw=>none
 |.iB=>none
 |.cU=>none
def Fn.Yt:Fn->Bool
 |.qL=>true
 |.qK=>false
 |.oA=>false
 |.jy=>false
 |.qN=>true
 |.lU=>false
 |.qM=>false
 |.mX=>false
 |.gT=>false
 |.kJ=>false
 |.lV=>false
 |.aS=>false
 |.jL=>false
 |.gn=>false
 |.fk=>false
 |.i_=>false
 |.o7=>false
 |.gq=>false
 |.qy=>true
 |.mU=>false
 |.oq=>false
 |.m6=>false
 |.qz=>false
 |.m8=>false
 |.qx=>false
 |.m5=>false
 |.qw=>false
 |.kI=>false
 |.kY=>false
 |.g7=>false
 |.iW=>false
 |.fN=>false
 |.gZ=>false
 |.g9=>false
 |.fY=>false
 |.e8=>false
 |.d9=>false
 |.oG=>true
 |.i8=>false
 |.qH=>true
 |.mW=>false
 |.qE=>false
 |.qI=>false
 |.kZ=>false
 |.qD=>false
 |.lT=>false
 |.wg=>false
 |.wj=>false
 |.qJ=>false
 |.k7=>false
 |.k6=>false
 |.qF=>false
 |.qC=>false
 |.g8=>false
 |.fO=>false
 |.uw=>false
 |.iQ=>false
 |.fX=>false
 |.iY=>false
 |.gK=>false
 |.eZ=>false
 |.oz=>false
 |.fj=>false
 |.jK=>false
 |.gS=>false
 |.iZ=>false
 |.jx=>false
 |.jw=>false
 |.qG=>false
 |.i0=>false
 |.fF=>false
 |.dw=>false
 |.iB=>false
 |.cU=>false
def Kl.nm:Kl->Str
 |.eW=>"Given"
 |.bQ=>"Content"
 |.aM=>"Pages"
 |.bD=>"Block"
 |.aD=>"House"
def Xc.nm:Xc->Str
 |.b7=>"OutOfRange"
 |.dg=>"NoPages"
 |.tZ=>"RunKept"
 |.dO=>"NoBlock"
def kc(x:Str)(n:Int):Str×Int:=(x,n)
def consts:List (Str×Int):=[kc "MORE" (1),kc "LESS" (2),kc "PIECE" (4096),kc "MOST_PAGES" (16384),kc "MOST_CHUNK" (1024),kc "MOST_EXPONENT_pages" (10),kc "MOST_MARK" (7),kc "KEPT" (4),kc "PAGE" (4096),kc "LEAST_MULTIPLE" (16),kc "GREATEST_SMALL" (32768),kc "MOST_BYTES" (1073741824),kc "LEAST_EXPONENT" (4),kc "MOST_EXPONENT_house" (12),kc "MOST_HANDED" (4096),kc "MOST_COPIED" (1048576),kc "MOST_LISTED" (1024),kc "MOST_BYTE" (255),kc "HIGHEST" (9223372036854775807),kc "BEGIN" (0),kc "TAKE" (1),kc "GIVE" (2),kc "RESIZE" (3),kc "TOLD" (4),kc "HOLDS" (5),kc "PUT" (6),kc "GET" (7),kc "COPY" (8),kc "BLOCKS" (9),kc "COUNTS" (10),kc "TRIM" (12),kc "NO_BLOCK" (-5),kc "NO_PAGES" (-7),kc "OUT_OF_RANGE" (-8)]
def j9:Kl->List Str
 |.eW=>["replies","asks"]
 |.bQ=>["pieces"]
 |.aM=>["size","chunk","spare","free","runs","asked","refused","came","given_back","most_owned"]
 |.bD=>["size","room","run","content"]
 |.aD=>["pages","held","small_runs"]
def aV:List Int:=[16,32,48,64,80,96,112,128,160,192,224,256,320,384,448,512,640,768,896,1024,1280,1536,1792,2048,2560,3072,3584,4096,5120,6144,7168,8192,10240,12288,14336,16384,20480,24576,28672,32768]
def sZ:List (Int×Bool):=[(3,true),(2,true),(1,true),(2,true),(1,false),(1,false),(1,true),(2,false),(3,false),(2,false),(0,false),(0,false),(0,true)]
structure gI where
 f:Fn->Addr
 fd:Fn->FuncData
 cl:Kl->Addr
 ex:Xc->Addr
 sizes:Addr
 sZ:Addr
 Cr:Nat->Addr
structure Txt(A:gI)(K:au)(mg:Str->Option Value):Prop where
 fn:∀d,Iw K d.nm d.qual d.st (A.f d) (A.fd d)
 bn:∀d,Binds K (A.fd d) d.ps []
 o_:∀d,d.own=none->mg d.nm=some (.ref (A.f d))
 me:∀d k,d.own=some k->d.Yt=false->Meth K (A.cl k) d.nm (A.f d)
 R8:∀d k,d.own=some k->d.Yt=true->Mk K (A.cl k) (A.f d)
 cls:∀k,IZ K (A.cl k)
 R9:∀k,mg k.nm=some (.ref (A.cl k))
 na:∀k f,f∈j9 k->ek K (A.cl k) f
 exc:∀e,O4 K (A.ex e)
 FO:∀e:Xc,mg e.nm=some (.ref (A.ex e))
 Vs:∀e e',A.ex e=A.ex e'->e=e'
 con:∀x n,consts.lookup x=some n->∃u,mg x=some u/\RelV (.int n) u
 mK:RT mg
 tup:mg "tuple"=none
 Wf:mg "SMALL_SIZES"=some (.ref A.sizes)
 sz:∀H,lW K H A.sizes (aV.map V.int)
 mgm:mg "FORMS"=some (.ref A.sZ)
 fm:∀H,lW K H A.sZ ((bX 13).map λi=>V.ref (A.Cr i))
 fmi:∀H i x,Rm.sZ[i]?=some x->lW K H (A.Cr i) [.int x.1,.bl x.2]
section
variable{X:Cx}{A:gI}
theorem pk(n:Int){x:Str}{pos:Pos}(T:Txt A X.K X.mg)(h:consts.lookup x=some n:=by rfl)(hg:Gl X x:=by rfl)(hd:(x==("__debug__":Str))=false:=by decide):PE X (.Name x pos) (tC (.int n)):=by
 obtain ⟨u,h1,h2⟩:=T.con x n h;exact sC hg h1 h2 hd
end
section
variable{P:Program}{w:World}{K:au}{mg:Str->Option Value}{base:Heap}
theorem rT{x qual:Str}{st:Stmt}{f:Addr}{fd:FuncData}{N ps:List Str}{k:Nat}{sp:Sp}(F:Iw K x qual st f fd)(S:bF N ps (aY st))(len:∀vs H Q E,sp vs H Q E->vs.length=ps.length)
  (Cm:∀(gX:Value) (B:Around) (outer:List Env) (s:Shared) (H:Hp) (vs:List V) (Q:VK) (E:XK),i9 k (B.deeper (envOfC qual (aY st) s.heap.objs.size f gX))->sp vs H Q E->
   ∃t,A6 (qt (l8 P w) P w K mg base N qual (aY st) f gX B outer s H E) (oE st) t/\t {nx:=λ_ H'=>Q .kq H',rt:=Q} (start N vs) H):dU P w K mg base (l8 P w) (k+1) f fd ps sp:=by
 obtain ⟨oc,od,kV,doc,pm,an,gX,ct,Qp,rfl,lk,uv⟩:=F.ex;exact OW lk uv S len λB outer s H vs Q E hr Mg=>Cm gX B outer s H vs Q E hr Mg
end
inductive Tag where
 |other|asks|pages|free|runs|nU|held|smalls|sl (z:Int)|rm (p:Int)|con (c:Addr)|DQ (c:Addr)
abbrev Tg:=Addr->Tag
def Al(τ:Tg)(H:Hp):Prop:=∀b,τ b≠.other->∃o,H b=some o/\∀xs,o≠.tup xs
theorem Al.fresh{τ:Tg}{H:Hp}{b:Addr}(a:Al τ H)(h:H b=none):τ b=.other:=by
 by_cases z:τ b=.other
 ·exact z
 ·obtain ⟨o,e,_⟩:=a b z;rw[h] at e;cases e
theorem Al.tup{τ:Tg}{H:Hp}{b:Addr}{xs:List V}(a:Al τ H)(h:H b=some (.tup xs)):τ b=.other:=by
 by_cases z:τ b=.other
 ·exact z
 ·obtain ⟨o,e,n⟩:=a b z;rw[h] at e;cases e;exact absurd rfl (n xs)
def gi(τ:Tg)(x:Addr)(t:Tag):Tg:=λb=>if b=x then t else τ b
theorem eV{τ:Tg}{x:Addr}{t:Tag}:gi τ x t x=t:=if_pos rfl
theorem cT{τ:Tg}{x b:Addr}{t:Tag}(h:b≠x):gi τ x t b=τ b:=if_neg h
structure dS(T:Tag->Prop)(τ τ':Tg)(H H':Hp):Prop where
 no:¬T .other
 WJ:Al τ H
 gW:Al τ' H'
 keep:∀b o,H b=some o->¬T (τ b)->H' b=some o
 ext:∀b o,H b=some o->τ' b=τ b
 live:∀b o,H b=some o->∃o',H' b=some o'
section
variable{T T':Tag->Prop}{τ τ1 τ2:Tg}{H H1 H2:Hp}{b x:Addr}{o o':HO}{t:Tag}
theorem dS.kp(S:dS T τ τ1 H H1)(h:τ b=t)(n:¬T t)(e:H b=some o):H1 b=some o:=S.keep b o e (by rw[h];exact n)
theorem dS.tg(S:dS T τ τ1 H H1)(h:τ b=t)(e:H b=some o):τ1 b=t:=(S.ext b o e).trans h
theorem dS.tup{xs:List V}(S:dS T τ τ1 H H1)(e:H b=some (.tup xs)):H1 b=some (.tup xs):=S.kp (S.WJ.tup e) S.no e
theorem dS.refl(n:¬T .other)(a:Al τ H):dS T τ τ H H:=⟨n,a,a,λ_ _ e _=>e,λ_ _ _=>rfl,λ_ o e=>⟨o,e⟩⟩
theorem dS.trans(a:dS T τ τ1 H H1)(c:dS T τ1 τ2 H1 H2):dS T τ τ2 H H2:=
 ⟨a.no,a.WJ,c.gW,λb o e n=>c.keep b o (a.keep b o e n) (by rw[a.ext b o e];exact n),λb o e=>by
  obtain ⟨o',e'⟩:=a.live b o e;exact (c.ext b o' e').trans (a.ext b o e),λb o e=>by
  obtain ⟨o',e'⟩:=a.live b o e;exact c.live b o' e'⟩
theorem dS.mono(a:dS T τ τ1 H H1)(n:¬T' .other)(h:∀t,T t->T' t):dS T' τ τ1 H H1:=⟨n,a.WJ,a.gW,λb o e q=>a.keep b o e λz=>q (h _ z),a.ext,a.live⟩
theorem dS.same(n:¬T .other)(a:Al τ H)(s:cY H H1):dS T τ τ H H1:=
 ⟨n,a,λb z=>let ⟨o,e,q⟩:=a b z;⟨o,s b o e,q⟩,λb o e _=>s b o e,λ_ _ _=>rfl,λb o e=>⟨o,s b o e⟩⟩
theorem dS.new(n:¬T .other)(a:Al τ H)(h:H x=none):dS T τ τ H (upd H x o):=.same n a (aX h)
theorem dS.Qy(n:¬T .other)(a:Al τ H)(h:H x=none)(q:∀xs,o≠.tup xs)(t:Tag):dS T τ (gi τ x t) H (upd H x o):=
 ⟨n,a,λb z=>by
  by_cases e:b=x
  ·subst e;exact ⟨o,ak,q⟩
  ·rw[cT e] at z;obtain ⟨o',e',q'⟩:=a b z;exact ⟨o',by rw[az e];exact e',q'⟩,λb o' e _=>aX h b o' e,λb o' e=>cT (aQ e h),λb o' e=>⟨o',aX h b o' e⟩⟩
theorem dS.put(n:¬T .other)(a:Al τ H)(h:H x=some o')(hT:T (τ x))(q:∀xs,o≠.tup xs):dS T τ τ H (upd H x o):=
 ⟨n,a,λb z=>by
  by_cases e:b=x
  ·subst e;exact ⟨o,ak,q⟩
  ·obtain ⟨o2,e2,q2⟩:=a b z;exact ⟨o2,by rw[az e];exact e2,q2⟩,λb o2 e z=>by rw[az (λw=>z (by rw[w];exact hT))];exact e,λ_ _ _=>rfl,λb o2 e=>by
  by_cases z:b=x
  ·subst z;exact ⟨o,ak⟩
  ·exact ⟨o2,by rw[az z];exact e⟩⟩
theorem dS.tag(S:dS T τ τ1 H H1)(h:H x=none)(e:H1 x=some o)(q:∀xs,o≠.tup xs)(t:Tag):dS T τ (gi τ1 x t) H H1:=
 ⟨S.no,S.WJ,λb z=>by
  by_cases w:b=x
  ·subst w;exact ⟨o,e,q⟩
  ·rw[cT w] at z;exact S.gW b z,S.keep,λb o' e'=>(cT (aQ e' h)).trans (S.ext b o' e'),S.live⟩
theorem dS.free(S:dS T τ τ1 H H1)(h:H1 b=none):H b=none:=by
 cases e:H b with
 |none=>rfl
 |some o=>
  obtain ⟨o',e'⟩:=S.live b o e;rw[h] at e';cases e'
theorem QA{a c:Addr}{t u:Tag}(ha:τ a=t)(hc:τ c=u)(h:t≠u):a≠c:=λe=>h (by rw[<-ha,e,hc])
end
section
variable{α:Type}
def bM(m:List (Int×α))(k:Int):Option α:=(m.find? λq=>decide (q.1=k)).map (·.2)
def dY(m:List (Int×α))(k:Int)(x:α):List (Int×α):=if (m.any λq=>decide (q.1=k))=true then m.map (λq=>if q.1=k then (q.1,x) else q) else m++[(k,x)]
def jj(m:List (Int×α))(k:Int):List (Int×α):=m.filter λq=>decide (q.1≠k)
def gy(R:Int->V->α->Prop)(kvs:List (Key×V))(m:List (Int×α)):Prop:=Paired (λp q=>p.1=aW q.1/\R q.1 p.2 q.2) kvs m
variable{R R':Int->V->α->Prop}{kvs:List (Key×V)}{m:List (Int×α)}
theorem gy.nil:gy R [] []:=Paired.nil
theorem gy.len(h:gy R kvs m):kvs.length=m.length:=Paired.length h
theorem gy.mono(h:gy R kvs m)(f:∀k v x,(k,x)∈m->R k v x->R' k v x):gy R' kvs m:=by
 unfold gy at*
 induction h with
 |nil=>exact .nil
 |cons a t ih=>exact .cons ⟨a.1,f _ _ _ aJ a.2⟩ (ih λk v x hm=>f k v x (aB _ hm))
theorem gy.imp(h:gy R kvs m)(f:∀k v x,R k v x->R' k v x):gy R' kvs m:=h.mono λk v x _=>f k v x
theorem yc{a k:Int}(h:¬a=k):¬(aW a:Key)=aW k:=λz=>h (Sum.inl.inj z)
theorem gy.val(h:gy R kvs m)(k:Int):(bM m k=none/\nQ kvs (aW k)=none)\/∃x v,bM m k=some x/\nQ kvs (aW k)=some v/\R k v x:=by
 unfold gy at h
 induction h with
 |nil=>exact .inl ⟨rfl,rfl⟩
 | @cons p q l1 l2 a t ih=>
  by_cases e:q.1=k
  ·refine .inr ⟨q.2,p.2,by simp [bM,e],rF (a.1.trans (by rw[e])),by rw[<-e];exact a.2⟩
  ·have e1:bM (q::l2) k=bM l2 k:=by simp [bM,dm,e]
   have e2:nQ (p::l1) (aW k)=nQ l1 (aW k):=rG (by rw[a.1];exact yc e);rw[e1,e2];exact ih
theorem gy.here{k:Int}{x:α}(h:gy R kvs m)(e:bM m k=some x):∃v,nQ kvs (aW k)=some v/\R k v x:=by
 rcases h.val k with ⟨z,_⟩|⟨x',v,z,e2,r⟩
 ·rw[z] at e;cases e
 ·rw[z] at e;cases e;exact ⟨v,e2,r⟩
theorem gy.any(h:gy R kvs m)(k:Int):(kvs.any λkv=>decide (kv.1=aW k))=(m.any λq=>decide (q.1=k)):=by
 unfold gy at h
 induction h with
 |nil=>rfl
 | @cons p q l1 l2 a t ih=>
  rw[jO,jO,ih,a.1]
  by_cases e:q.1=k
  ·rw[e];simp
  ·rw[decide_eq_false (yc e),decide_eq_false e]
theorem gy.put{k:Int}{v:V}{x:α}(h:gy R kvs m)(r:R' k v x)(f:∀k' v' x',(k',x')∈m->k'≠k->R k' v' x'->R' k' v' x'):gy R' (putK kvs (aW k) v) (dY m k x):=by
 unfold putK dY;rw[h.any k]
 by_cases c:(m.any λq=>decide (q.1=k))=true
 ·rw[if_pos c,if_pos c];clear c;unfold gy at*
  induction h with
  |nil=>exact .nil
  | @cons p q l1 l2 a t ih=>
   refine .cons ?_ (ih λk' v' x' hm=>f k' v' x' (aB _ hm))
   by_cases e:q.1=k
   ·have e1:p.1=aW k:=a.1.trans (by rw[e]);simp only[if_pos e1,if_pos e];exact ⟨a.1,by rw[e];exact r⟩
   ·have e1:¬p.1=aW k:=by rw[a.1];exact yc e
    simp only[if_neg e1,if_neg e];exact ⟨a.1,f _ _ _ aJ e a.2⟩
 ·rw[if_neg c,if_neg c];have nk:∀q∈m,q.1≠k:=λq hq e=>c (dG.mpr ⟨q,hq,decide_eq_true e⟩);exact Paired.snoc (h.mono λk' v' x' hm=>f k' v' x' hm (nk _ hm)) ⟨rfl,r⟩
theorem gy.drop{k:Int}(h:gy R kvs m)(f:∀k' v' x',(k',x')∈m->k'≠k->R k' v' x'->R' k' v' x'):gy R' (mq kvs (aW k)) (jj m k):=by
 unfold mq jj;unfold gy at*
 induction h with
 |nil=>exact .nil
 | @cons p q l1 l2 a t ih=>
  have Ur:=ih λk' v' x' hm=>f k' v' x' (aB _ hm)
  by_cases e:q.1=k
  ·rw[bU,bU,if_neg (by rw[a.1,e];simp),if_neg (by rw[e];simp)];exact Ur
  ·rw[bU,bU,if_pos (by rw[a.1];exact decide_eq_true (yc e)),if_pos (decide_eq_true e)];exact .cons ⟨a.1,f _ _ _ aJ e a.2⟩ Ur
theorem gy.get{i:Nat}{k:Key}{v:V}(h:gy R kvs m)(e:kvs[i]?=some (k,v)):∃q,m[i]?=some q/\k=aW q.1/\R q.1 v q.2:=by
 obtain ⟨q,h1,h2,h3⟩:=tM h e;exact ⟨q,h1,h2,h3⟩
theorem gy.keys(h:gy R kvs m):kvs.map (·.1)=(m.map (·.1)).map aW:=by
 unfold gy at h
 induction h with
 |nil=>rfl
 |cons a t ih=>rw[aI,aI,aI,ih,a.1]
theorem gy.Up(h:gy R kvs m):(kvs.map λp=>kV p.1)=(m.map (·.1)).map V.int:=by
 have:(kvs.map λp=>kV p.1)=(kvs.map (·.1)).map kV:=by rw[ay];rfl
 rw[this,h.keys,ay];rfl
theorem eN{k:Int}{x:α}(h:bM m k=some x):(k,x)∈m:=by
 unfold bM at h;cases e:m.find? (λq=>decide (q.1=k)) with
 |none=>rw[e] at h;cases h
 |some q=>
  rw[e] at h;cases h;have:=di e;have e1:q.1=k:=of_decide_eq_true this;rw[<-e1];exact bE e
theorem d7{k:Int}{x:α}(hn:(m.map (·.1)).Nodup)(h:(k,x)∈m):bM m k=some x:=by
 induction m with
 |nil=>cases h
 |cons q l ih=>
  have Q2:(q.1::l.map (·.1)).Nodup:=hn;obtain ⟨n1,n2⟩:=b9.mp Q2;rcases aP.mp h with rfl|h
  ·simp [bM]
  ·have ne:¬q.1=k:=λe=>n1 (by rw[e];exact aq.mpr ⟨_,h,rfl⟩);have:bM (q::l) k=bM l k:=by simp [bM,dm,ne]
   rw[this];exact ih n2 h
end
end Rm
namespace Rm
open PySem L2
theorem yes{σ:St}{H:Hp}{Q:Bool->Hp->Prop}(h:Q true H):SH σ H Q:=h
theorem AQ{J:It}{g:TG}{tt:TT}{te:TE}{vs:List Nat}{σ:St}{H:Hp}{D:Addr}{Qd:Hp->Prop}(n:Nat)(f:Nat->Option V)(hn:n<=1000000)(hD:H D=none)
  (UC:∀H2,cY H H2->J.stop n H2) (hgo:∀i H2,i<n->cY H H2->J.go i H2)
  (hs:∀i H2 x H3 (R:VK) (N:Hp->Prop),i<n->cY H H2->J.GI i H2 x H3->(∀H4,cY H2 H4->(∀y,f i=some y->R y H4)/\(f i=none->N H4))->
   g x (wipe σ vs) H3 λσ2 H4=>wipe σ2 vs=wipe σ vs/\tt σ2 H4 λb H5=>if b=true then te σ2 H5 R else N H5)
  (hd:∀H',cY H H'->H' D=some (.lst ((bX n).filterMap f))->Qd H'):
  ∃W:Nat->Nat->Hp->Prop,(∃m,W 0 m (upd H D (.lst [])))/\∀i m H,W i m H->
   (J.stop i H/\Qd H)\/(J.go i H/\∃Nx:Hp->Prop,(∀H',Nx H'->∃m',m'<m/\W (i+1) m' H')/\∀x H',J.GI i H x H'->g x (wipe σ vs) H' λσ2 H2=>wipe σ2 vs=wipe σ vs/\tt σ2 H2 λb H3=>
    if b=true then te σ2 H3 λy H4=>∃acc,H4 D=some (.lst acc)/\acc.length<sizeLine/\Nx (upd H4 D (.lst (acc++[y]))) else Nx H3):=by
 refine ⟨λi m H2=>m=n-i/\i<=n/\cY H H2/\H2 D=some (.lst ((bX i).filterMap f)),⟨n,by simp,bH _,aX hD,ak⟩,?_⟩;rintro i m H2 ⟨rfl,hi,s2,h2⟩
 by_cases pX:i<n
 ·refine .inr ⟨hgo i H2 pX s2,λH'=>cY H H'/\H' D=some (.lst ((bX (i+1)).filterMap f)),λH' p'=>⟨n-(i+1),by omega,rfl,pX,p'⟩,λx H3 y=>?_⟩;refine hs i H2 x H3 _ _ pX s2 y λH4 s4=>⟨λy hy=>⟨_,s4 _ _ h2,?_,?_,?_⟩,λhy=>⟨s2.trans s4,?_⟩⟩
  ·refine vA (List.length_filterMap_le _ _) ?_;rw[kg];exact big (by omega)
  ·intro b o e;rw[az (aQ e hD)];exact s4 _ _ (s2 _ _ e)
  ·rw[ak,sf,EK];simp [hy]
  ·rw[s4 _ _ h2,sf,EK];simp [hy]
 ·have e:i=n:=by omega
  subst e;exact .inl ⟨UC H2 s2,hd H2 s2 h2⟩
section
variable{K:au}{a:Addr}{xs:List V}{g:TG}{tt:TT}{te:TE}{vs:List Nat}{σ:St}{H:Hp}{D:Addr}{Qd:Hp->Prop}
theorem pN(f:Nat->Option V)(hn:xs.length<=1000000)(hD:H D=none)(hl:mY K H a xs)
  (hs:∀i x H2 (R:VK) (N:Hp->Prop),xs[i]?=some x->cY H H2->(∀H4,cY H2 H4->(∀y,f i=some y->R y H4)/\(f i=none->N H4))->
   g x (wipe σ vs) H2 λσ2 H4=>wipe σ2 vs=wipe σ vs/\tt σ2 H4 λb H5=>if b=true then te σ2 H5 R else N H5)
  (hd:∀H',cY H H'->H' D=some (.lst ((bX xs.length).filterMap f))->Qd H'):
  ∃W:Nat->Nat->Hp->Prop,(∃m,W 0 m (upd H D (.lst [])))/\∀i m H,W i m H->
   ((O1 K a).stop i H/\Qd H)\/((O1 K a).go i H/\∃Nx:Hp->Prop,(∀H',Nx H'->∃m',m'<m/\W (i+1) m' H')/\∀x H',(O1 K a).GI i H x H'->g x (wipe σ vs) H' λσ2 H2=>wipe σ2 vs=wipe σ vs/\tt σ2 H2 λb H3=>
    if b=true then te σ2 H3 λy H4=>∃acc,H4 D=some (.lst acc)/\acc.length<sizeLine/\Nx (upd H4 D (.lst (acc++[y]))) else Nx H3):=
 AQ xs.length f hn hD (λH2 s=>⟨xs,s.seq hl,aL _⟩) (λi H2 hi s=>⟨xs,xs[i],s.seq hl,by simp [hi]⟩) (λi H2 x H3 R N hi s ⟨e,y⟩ h=>by
  subst e;exact hs i x H3 R N (y xs (s.seq hl)) s h) hd
theorem HF{lo:Int}{n:Nat}(f:Nat->Option V)(hn:n<=1000000)(hD:H D=none)
  (hs:∀i H2 (R:VK) (N:Hp->Prop),i<n->cY H H2->(∀H4,cY H2 H4->(∀y,f i=some y->R y H4)/\(f i=none->N H4))->
   g (.int (lo+i)) (wipe σ vs) H2 λσ2 H4=>wipe σ2 vs=wipe σ vs/\tt σ2 H4 λb H5=>if b=true then te σ2 H5 R else N H5)
  (hd:∀H',cY H H'->H' D=some (.lst ((bX n).filterMap f))->Qd H'):
  ∃W:Nat->Nat->Hp->Prop,(∃m,W 0 m (upd H D (.lst [])))/\∀i m H,W i m H->
   ((Sv lo n).stop i H/\Qd H)\/((Sv lo n).go i H/\∃Nx:Hp->Prop,(∀H',Nx H'->∃m',m'<m/\W (i+1) m' H')/\∀x H',(Sv lo n).GI i H x H'->g x (wipe σ vs) H' λσ2 H2=>wipe σ2 vs=wipe σ vs/\tt σ2 H2 λb H3=>
    if b=true then te σ2 H3 λy H4=>∃acc,H4 D=some (.lst acc)/\acc.length<sizeLine/\Nx (upd H4 D (.lst (acc++[y]))) else Nx H3):=
 AQ n f hn hD (λH2 s=>aL _) (λi H2 hi s=>hi) (λi H2 x H3 R N hi s ⟨e,y⟩ h=>by
  subst e y;exact hs i _ R N hi s h) hd
theorem xY{d:Addr}{o:Obj}{kvs:List (Key×V)}(f:Nat->Option V)(hn:kvs.length<=1000000)(hD:H D=none)(hl:H d=some (.nG o (.dK kvs)))
  (hs:∀i k x H2 (R:VK) (N:Hp->Prop),kvs[i]?=some (k,x)->cY H H2->(∀H4,cY H2 H4->(∀y,f i=some y->R y H4)/\(f i=none->N H4))->
   g x (wipe σ vs) H2 λσ2 H4=>wipe σ2 vs=wipe σ vs/\tt σ2 H4 λb H5=>if b=true then te σ2 H5 R else N H5)
  (hd:∀H',cY H H'->H' D=some (.lst ((bX kvs.length).filterMap f))->Qd H'):
  ∃W:Nat->Nat->Hp->Prop,(∃m,W 0 m (upd H D (.lst [])))/\∀i m H,W i m H->
   ((VO d o kvs).stop i H/\Qd H)\/((VO d o kvs).go i H/\∃Nx:Hp->Prop,(∀H',Nx H'->∃m',m'<m/\W (i+1) m' H')/\∀x H',(VO d o kvs).GI i H x H'->g x (wipe σ vs) H' λσ2 H2=>wipe σ2 vs=wipe σ vs/\tt σ2 H2 λb H3=>
    if b=true then te σ2 H3 λy H4=>∃acc,H4 D=some (.lst acc)/\acc.length<sizeLine/\Nx (upd H4 D (.lst (acc++[y]))) else Nx H3):=
 AQ kvs.length f hn hD (λH2 s=>⟨s _ _ hl,aL _⟩) (λi H2 hi s=>⟨s _ _ hl,hi⟩) (λi H2 x H3 R N hi s ⟨e,k,y⟩ h=>by
  subst e;exact hs i k x _ R N y s h) hd
theorem HH{d:Addr}{o:Obj}{kvs:List (Key×V)}(f:Nat->Option V)(hn:kvs.length<=1000000)(hD:H D=none)(hl:H d=some (.nG o (.dK kvs)))
  (hs:∀i k v t H2 (R:VK) (N:Hp->Prop),kvs[i]?=some (k,v)->cY H H2->H2 t=none->(∀H4,cY H2 H4->(∀y,f i=some y->R y H4)/\(f i=none->N H4))->
   g (.ref t) (wipe σ vs) (upd H2 t (.tup [kV k,v])) λσ2 H4=>wipe σ2 vs=wipe σ vs/\tt σ2 H4 λb H5=>if b=true then te σ2 H5 R else N H5)
  (hd:∀H',cY H H'->H' D=some (.lst ((bX kvs.length).filterMap f))->Qd H'):
  ∃W:Nat->Nat->Hp->Prop,(∃m,W 0 m (upd H D (.lst [])))/\∀i m H,W i m H->
   ((L6 d o kvs).stop i H/\Qd H)\/((L6 d o kvs).go i H/\∃Nx:Hp->Prop,(∀H',Nx H'->∃m',m'<m/\W (i+1) m' H')/\∀x H',(L6 d o kvs).GI i H x H'->g x (wipe σ vs) H' λσ2 H2=>wipe σ2 vs=wipe σ vs/\tt σ2 H2 λb H3=>
    if b=true then te σ2 H3 λy H4=>∃acc,H4 D=some (.lst acc)/\acc.length<sizeLine/\Nx (upd H4 D (.lst (acc++[y]))) else Nx H3):=
 AQ kvs.length f hn hD (λH2 s=>⟨s _ _ hl,aL _⟩) (λi H2 hi s=>⟨s _ _ hl,hi⟩) (λi H2 x H3 R N hi s ⟨t,k,v,y,e1,e2,e3⟩ h=>by
  subst e1 e3;exact hs i k v t _ R N y s e2 h) hd
end
theorem zO{d:Addr}{o:Obj}{kvs:List (Key×V)}{g:TG}{tb:TS}{D:Ends}{σ:St}{H:Hp}(Pv:Nat->St->Hp->Prop)(h0:Pv 0 σ H)(hl:∀i σ H,Pv i σ H->H d=some (.nG o (.dK kvs)))
  (hs:∀i k v t σ H,kvs[i]?=some (k,v)->H t=none->Pv i σ H->g (.ref t) σ (upd H t (.tup [kV k,v])) λσ2 H2=>tb {D with nx:=Pv (i+1),ct:=Pv (i+1),bk:=D.nx} σ2 H2) (hd:∀σ H,Pv kvs.length σ H->D.nx σ H):
  ∃W:Nat->Nat->St->Hp->Prop,(∃m,W 0 m σ H)/\∀i m σ H,W i m σ H->
   ((L6 d o kvs).stop i H/\D.nx σ H)\/((L6 d o kvs).go i H/\∃N:St->Hp->Prop,(∀σ' H',N σ' H'->∃m',m'<m/\W (i+1) m' σ' H')/\∀x H',(L6 d o kvs).GI i H x H'->g x σ H' λσ2 H2=>tb {D with nx:=N,ct:=N,bk:=D.nx} σ2 H2):=by
 refine ⟨λi m σ H=>m=kvs.length-i/\i<=kvs.length/\Pv i σ H,⟨kvs.length,by simp,bH _,h0⟩,?_⟩;rintro i m σ H ⟨rfl,hi,p⟩;have q:=hl i σ H p
 by_cases pX:i<kvs.length
 ·refine .inr ⟨⟨q,pX⟩,Pv (i+1),λσ' H' p'=>⟨kvs.length-(i+1),by omega,rfl,pX,p'⟩,λx H' y=>?_⟩;obtain ⟨t,k,v,e1,e2,e3,e4⟩:=y;subst e2 e4;exact hs i k v t σ _ e1 e3 p
 ·have e:i=kvs.length:=by omega
  subst e;exact .inl ⟨⟨q,aL _⟩,hd σ H p⟩
theorem gR{α β:Type}(l:List α)(g:α->β)(f:Nat->Option β)(h:∀i x,l[i]?=some x->f i=some (g x)):(bX l.length).filterMap f=l.map g:=by
 induction l generalizing f with
 |nil=>rfl
 |cons a l ih=>
  have e1:=ih (f∘Nat.succ) λi x e=>h (i+1) x e;rw[bL,rq,fu,h 0 a rfl,uO,e1,aI]
theorem mD{α β:Type}(l:List α)(g:α->Option β)(f:Nat->Option β)(h:∀i x,l[i]?=some x->f i=g x):(bX l.length).filterMap f=l.filterMap g:=by
 induction l generalizing f with
 |nil=>rfl
 |cons a l ih=>
  rw[bL,rq,fu,h 0 a rfl,uO,ih (f∘Nat.succ) λi x e=>h (i+1) x e,fu]
end Rm
namespace Rm
open PySem L2
section
variable{P:Program}{w:World}{K:au}{mg:Str->Option Value}{base:Heap}
theorem wX{α:Type}{p:α->Bool}:∀{l:List α} {i:Nat} {x:α},(∀y∈l.take i,p y=false)->l[i]?=some x->p x=true->l.find? p=some x
 |[],i,x,_,h,_=>by simp at h
 |a::l,0,x,_,h,hx=>by
  simp at h;subst h;rw[dm,hx]
 |a::l,i+1,x,hn,h,hx=>by
  rw[dm,hn a (by simp)];exact wX (i:=i) (λy hy=>hn y (by simp [hy])) (by simpa using h) hx
def loV:Option Int->V
 |none=>.kq
 |some z=>.int z
def Jx:Sp:=λvs H Q _=>∃(l:Addr) (rs:List Row) (n m:Int),vs=[.ref l,.int n,.int m]/\kF H l rs/\0<m/\m<1073741824/\Q (loV (lp rs n m)) H
theorem V0:bF ["rows","many","multiple","first","end","start"] ["rows","many","multiple"] (aY E_):=fs
theorem zp{fa:Addr}{fd:FuncData}(F:Iw K "lowest_place" "lowest_place" E_ fa fd)(T:RT mg):dU P w K mg base pq 1 fa fd ["rows","many","multiple"] Jx:=by
 refine F.ok V0 (λvs H Q E h=>?_) (λgX A outer s H vs Q E hr h=>?_)
 ·obtain ⟨l,rs,n,m,rfl,_⟩:=h;rfl
 ·obtain ⟨l,rs,n,m,rfl,⟨as,hl,hp⟩,hm,uJ,k⟩:=h
  refine ⟨_,ao (jY PassesOwn.never rfl (iV (pv 0)) (qh rfl (gm (dB (i:=3) V0.nd rfl (bh rfl)) (gm (dB (i:=4) V0.nd rfl (bh rfl)) nB)))
    (ao (bY (i:=5) V0.nd rfl (bh rfl) (bW lR (bW uo (bW gj (bW fM (pv 3) (pv 2)) bq) (pv 2)) (pv 2)))
    (aF (fC (dz Fx (bW fM (pv 5) (pv 1)) (pv 4) (dH _)) (aF (bT (pv 5))) cZ))))
   (aF (bT Kc)),?_⟩
  have vO:as.length=rs.length:=hp.len
  refine ⟨_,rfl,l,rfl,⟨_,mY.of hl⟩,j8 (K:=K) (a:=l) (xs:=as.map V.ref) (λi σ H2=>∃(v3 v4 v5:Option V),σ=[some (.ref l),some (.int n),some (.int m),v3,v4,v5]/\H2=H/\
    ∀r∈rs.take i,decide ((r.1+m-1)/m*m+n<=r.2)=false)
   ⟨none,none,none,rfl,rfl,λr hr=>by simp at hr⟩ (λi σ H2 _ ⟨_,_,_,_,e,_⟩=>by rw[e];exact mY.of hl) ?_ ?_⟩
  ·rintro i y σ H2 hi ⟨v3,v4,v5,rfl,rfl,ql⟩;obtain ⟨a,ha,rfl⟩:=lQ hi;obtain ⟨r,m9,Mn⟩:=hp.get ha;refine ⟨a,_,rfl,lW.of Mn,rfl,_,_,rfl,_,_,rfl,rfl,?_⟩;refine ⟨_,rfl,_,rfl,_,_,rfl,rfl,_,_,rfl,rfl,_,rfl,_,_,rfl,rfl,⟨hm,uJ⟩,_,rfl,_,_,rfl,rfl,.inr ⟨by omega,by omega⟩,?_⟩;refine ⟨_,rfl,_,rfl,_,_,rfl,rfl,_,rfl,_,_,rfl,rfl,_,rfl,?_⟩;refine iP (λc=>?_) (λc=>?_)
   ·have e:=wX (p:=λr:Row=>decide ((r.1+m-1)/m*m+n<=r.2)) ql m9 c;have e2:lp rs n m=some ((r.1+m-1)/m*m):=by unfold lp;rw[e];rfl
    rw[e2] at k;exact ⟨_,rfl,k⟩
   ·refine ⟨_,_,_,rfl,rfl,λq hq=>?_⟩;rw[cN,m9] at hq;rcases bG.mp hq with hq|hq
    ·exact ql q hq
    ·have:q=r:=by simpa using hq
     subst this;exact gh.mpr c
  ·rintro σ H2 ⟨v3,v4,v5,rfl,rfl,ql⟩
   have e2:lp rs n m=none:=by
    unfold lp;rw[dW.mpr λr hr=>?_]
    ·rfl
    ·rw[ql r (by rw[b8 (by rw[aj,vO];exact aL _)];exact hr)];exact cW
   rw[e2] at k;exact k
def OD(g:Row->Int->Int->Bool):Sp:=λvs H Q _=>∃(l:Addr) (rs:List Row) (f e:Int),vs=[.ref l,.int f,.int e]/\kF H l rs/\rs.length<=100000/\∀H',cY H H'->Q (.bl (rs.any λr=>g r f e)) H'
theorem Xl:bF ["rows","first","end","row"] ["rows","first","end"] (aY E9):=fs
theorem Hu{fa:Addr}{fd:FuncData}(F:Iw K "within_one" "within_one" E9 fa fd)(T:RT mg):dU P w K mg base pq 1 fa fd ["rows","first","end"] (OD λr f e=>decide (r.1<=f)&&decide (e<=r.2)):=by
 refine F.ok Xl (λvs H Q E h=>?_) (λgX A outer s H vs Q E hr h=>?_)
 ·obtain ⟨l,rs,n,m,rfl,_⟩:=h;rfl
 ·obtain ⟨l,rs,f,e,rfl,⟨as,hl,hp⟩,hz,k⟩:=h;have vO:as.length=rs.length:=hp.len
  refine ⟨_,aF (bT (cF (LM rfl) rfl T.any yz (aa (vF (own:=[("row",3)]) rfl Xl.nd (iV (pv 0)) (jz rfl)
   (λ_ _ _ _ _=>dB (i:=3) Xl.nd rfl (bh rfl)) (λ_ _ _ _ _=>nv)
   (λ_ _ _ _ _=>AK (nE Fx (eY (r:=DK K) ir (pv 3) bq (λ_ _=>rfl)) (pv 1) (dH _)) (AI (nE Fx (pv 2) (eY (r:=DK K) ir (pv 3) bq (λ_ _=>rfl)) (dH _))))) aA))),?_⟩
  refine ⟨_,rfl,l,rfl,⟨_,mY.of hl⟩,λD hD=>pN (K:=K) (a:=l) (xs:=as.map V.ref) (λi=>(rs[i]?).map λr=>V.bl (decide (r.1<=f)&&decide (e<=r.2))) (by rw[aj];omega) hD (.of hl) ?_ ?_⟩
  ·rintro i y H2 R N hi b h;obtain ⟨a,ha,rfl⟩:=lQ hi;obtain ⟨r,m9,Mn⟩:=hp.get ha;have we:=b _ _ Mn;have hR:=(h H2 (.refl _)).1 _ (by rw[m9];rfl);refine ⟨rfl,yes (lg ?_)⟩;refine ⟨_,rfl,a,_,_,_,rfl,rfl,lW.of we,rfl,_,rfl,_,_,rfl,rfl,_,rfl,?_⟩;refine iP (λc=>?_) (λc=>?_)
   ·refine ⟨_,rfl,_,rfl,a,_,_,_,rfl,rfl,lW.of we,rfl,_,_,rfl,rfl,?_⟩;simp only[c,Bool.true_and] at hR;exact hR
   ·simp only[gh.mpr c,oS] at hR;exact hR
  ·intro H' s h;refine ⟨D,rs.map λr=>decide (r.1<=f)&&decide (e<=r.2),rfl,.of (h.trans ?_),?_⟩
   ·rw[aj,vO,gR rs (λr=>V.bl (decide (r.1<=f)&&decide (e<=r.2))) _ (λi x hx=>by rw[hx];rfl),ay];rfl
   ·have e1:(rs.map λr=>decide (r.1<=f)&&decide (e<=r.2)).any id=rs.any λr=>decide (r.1<=f)&&decide (e<=r.2):=by rw[Df];rfl
    rw[e1];exact k H' s
theorem Xk:bF ["rows","first","end","row"] ["rows","first","end"] (aY JN):=fs
theorem Kw{fa:Addr}{fd:FuncData}(F:Iw K "meets" "meets" JN fa fd)(T:RT mg):dU P w K mg base pq 1 fa fd ["rows","first","end"] (OD λr f e=>decide (r.1<e)&&decide (f<r.2)):=by
 refine F.ok Xk (λvs H Q E h=>?_) (λgX A outer s H vs Q E hr h=>?_)
 ·obtain ⟨l,rs,n,m,rfl,_⟩:=h;rfl
 ·obtain ⟨l,rs,f,e,rfl,⟨as,hl,hp⟩,hz,k⟩:=h;have vO:as.length=rs.length:=hp.len
  refine ⟨_,aF (bT (cF (LM rfl) rfl T.any yz (aa (vF (own:=[("row",3)]) rfl Xk.nd (iV (pv 0)) (jz rfl)
   (λ_ _ _ _ _=>dB (i:=3) Xk.nd rfl (bh rfl)) (λ_ _ _ _ _=>nv)
   (λ_ _ _ _ _=>AK (nE rS (eY (r:=DK K) ir (pv 3) bq (λ_ _=>rfl)) (pv 2) (dH _)) (AI (nE rS (pv 1) (eY (r:=DK K) ir (pv 3) bq (λ_ _=>rfl)) (dH _))))) aA))),?_⟩
  refine ⟨_,rfl,l,rfl,⟨_,mY.of hl⟩,λD hD=>pN (K:=K) (a:=l) (xs:=as.map V.ref) (λi=>(rs[i]?).map λr=>V.bl (decide (r.1<e)&&decide (f<r.2))) (by rw[aj];omega) hD (.of hl) ?_ ?_⟩
  ·rintro i y H2 R N hi b h;obtain ⟨a,ha,rfl⟩:=lQ hi;obtain ⟨r,m9,Mn⟩:=hp.get ha;have we:=b _ _ Mn;have hR:=(h H2 (.refl _)).1 _ (by rw[m9];rfl);refine ⟨rfl,yes (lg ?_)⟩;refine ⟨_,rfl,a,_,_,_,rfl,rfl,lW.of we,rfl,_,rfl,_,_,rfl,rfl,_,rfl,?_⟩;refine iP (λc=>?_) (λc=>?_)
   ·refine ⟨_,rfl,_,rfl,a,_,_,_,rfl,rfl,lW.of we,rfl,_,_,rfl,rfl,?_⟩;simp only[c,Bool.true_and] at hR;exact hR
   ·simp only[gh.mpr c,oS] at hR;exact hR
  ·intro H' s h;refine ⟨D,rs.map λr=>decide (r.1<e)&&decide (f<r.2),rfl,.of (h.trans ?_),?_⟩
   ·rw[aj,vO,gR rs (λr=>V.bl (decide (r.1<e)&&decide (f<r.2))) _ (λi x hx=>by rw[hx];rfl),ay];rfl
   ·have e1:(rs.map λr=>decide (r.1<e)&&decide (f<r.2)).any id=rs.any λr=>decide (r.1<e)&&decide (f<r.2):=by rw[Df];rfl
    rw[e1];exact k H' s
def SX:Sp:=λvs H Q _=>∃(l:Addr) (rs:List Row),vs=[.ref l]/\kF H l rs/\rs.length<=100000/\∀H',cY H H'->Q (.int (hm rs)) H'
theorem V2:bF ["rows","first","end"] ["rows"] (aY BD):=fs
theorem tO{fa:Addr}{fd:FuncData}(F:Iw K "how_many" "how_many" BD fa fd)(T:RT mg):dU P w K mg base pq 1 fa fd ["rows"] SX:=by
 refine F.ok V2 (λvs H Q E h=>?_) (λgX A outer s H vs Q E hr h=>?_)
 ·obtain ⟨l,rs,rfl,_⟩:=h;rfl
 ·obtain ⟨l,rs,rfl,⟨as,hl,hp⟩,hz,k⟩:=h;have vO:as.length=rs.length:=hp.len
  refine ⟨_,aF (bT (cF (A2 rfl) rfl T.sum lF (aa (vF (own:=[("first",1),("end",2)]) (g:=Oa K 2 (yj (sY 1) (yj (sY 2) Ob))) rfl V2.nd (iV (pv 0)) (jz rfl)
   (λ_ _ _ _ _=>qh rfl (gm (dB (i:=1) V2.nd rfl (bh rfl) (hf:=sO rfl)) (gm (dB (i:=2) V2.nd rfl (bh rfl) (hf:=sO rfl)) nB))) (λ_ _ _ _ _=>nv)
   (λ_ _ _ _ _=>bW gj (pv 2) (pv 1))) aA))),?_⟩
  refine ⟨_,rfl,l,rfl,⟨_,mY.of hl⟩,λD hD=>pN (K:=K) (a:=l) (xs:=as.map V.ref) (λi=>(rs[i]?).map λr=>V.int (r.2-r.1)) (by rw[aj];omega) hD (.of hl) ?_ ?_⟩
  ·rintro i y H2 R N hi b h;obtain ⟨a,ha,rfl⟩:=lQ hi;obtain ⟨r,m9,Mn⟩:=hp.get ha;have we:=b _ _ Mn;have hR:=(h H2 (.refl _)).1 _ (by rw[m9];rfl);refine ⟨a,_,rfl,lW.of we,rfl,_,_,rfl,_,_,rfl,rfl,?_⟩;refine ⟨rfl,yes (lg ?_)⟩;exact ⟨_,rfl,_,rfl,_,_,rfl,rfl,hR⟩
  ·intro H' s h;refine ⟨D,rs.map (λr:Row=>r.2-r.1),rfl,.of (h.trans ?_),k H' s⟩;rw[aj,vO,gR rs (λr=>V.int (r.2-r.1)) _ (λi x hx=>by rw[hx];rfl),ay];rfl
end
end Rm
namespace Rm
open PySem L2
section
variable{P:Program}{w:World}{K:au}{mg:Str->Option Value}{base:Heap}{A:gI}
def MV(A:gI):Sp:=λvs H Q E=>∃(n lo hi:Int),vs=[.int n,.int lo,.int hi]/\(lo<=n/\n<=hi->Q .kq H)/\(¬(lo<=n/\n<=hi)->E (.ref (A.ex .b7)) none H)
theorem Xu:bF ["number","least","most"] ["number","least","most"] (aY (Fn.st .aS)):=fs
theorem gH(T:Txt A K mg):dU P w K mg base (l8 P w) 1 (A.f .aS) (A.fd .aS) ["number","least","most"] (MV A):=by
 refine rT (T.fn .aS) Xu (λvs H Q E h=>?_) (λgX B outer s H vs Q E hr h=>?_)
 ·obtain ⟨n,lo,hi,rfl,_⟩:=h;rfl
 ·obtain ⟨n,lo,hi,rfl,h1,h2⟩:=h;refine ⟨_,aF (fC (J4 (dz rS (pv 0) (pv 1) (dH _)) (J3 (dz pK (pv 0) (pv 2) (dH _)))).pt (aF (nS rfl tH (T.exc .b7) rfl (T.FO .b7))) cZ),?_⟩;refine ⟨_,rfl,_,rfl,_,_,rfl,rfl,_,rfl,?_⟩;refine iP (λc=>?_) (λc=>?_)
  ·refine lg (h2 λz=>?_);have:=of_decide_eq_true c;omega
  ·refine ⟨_,rfl,_,rfl,_,_,rfl,rfl,_,rfl,?_⟩;have c':¬n<lo:=λz=>c (decide_eq_true z);refine iP (λd=>?_) (λd=>?_)
   ·refine h2 λz=>?_;have:=of_decide_eq_true d;omega
   ·have d':¬hi<n:=λz=>d (decide_eq_true z);exact h1 (by omega)
def gf(r a:Addr):List (Str×V):=[("replies",.ref r),("asks",.ref a)]
abbrev L_(H:Hp)(as:List Addr)(qs:List (List Int)):Prop:=Paired (λa q=>H a=some (.tup (q.map V.int))) as qs
theorem L_.mono{H H':Hp}{as:List Addr}{qs:List (List Int)}(h:L_ H as qs)(f:∀a xs,H a=some (.tup xs)->H' a=some (.tup xs)):L_ H' as qs:=Paired.K3 h λa q e=>f _ _ e
structure bB(A:gI)(H:Hp)(τ:Tg)(g:Addr)(rs:List Int)(qs:List (List Int)):Prop where
 ex:∃dx r a as,H g=some (.ins (A.cl .eW) dx (gf r a))/\H r=some (.lst (rs.map V.int))/\H a=some (.lst (as.map V.ref))/\L_ H as qs/\τ g=.other/\τ r=.other/\τ a=.asks
theorem bB.step{H H':Hp}{τ τ':Tg}{g:Addr}{rs:List Int}{qs:List (List Int)}{S:Tag->Prop}(h:bB A H τ g rs qs)(s:dS S τ τ' H H')(n:¬S .asks):bB A H' τ' g rs qs:=by
 obtain ⟨dx,r,a,as,h1,h2,h3,h4,t1,t2,t3⟩:=h.ex;exact ⟨dx,r,a,as,s.kp t1 s.no h1,s.kp t2 s.no h2,s.kp t3 n h3,h4.mono λ_ _=>s.tup,s.tg t1 h1,s.tg t2 h2,s.tg t3 h3⟩
def TA:Tag->Prop
 |.asks=>True
 |_=>False
theorem mE{xs:List V}:∀ys,HO.lst xs≠.tup ys:=λ_ z=>nomatch z
theorem oB{xs:List (Key×V)}:∀ys,HO.dK xs≠.tup ys:=λ_ z=>nomatch z
theorem oY{C dx:Addr}{fs:List (Str×V)}:∀ys,HO.ins C dx fs≠.tup ys:=λ_ z=>nomatch z
theorem bB.ask{H:Hp}{τ:Tg}{g dx r a t:Addr}{as:List Addr}{rs:List Int}{qs:List (List Int)}{q:List Int}(al:Al τ H)(h1:H g=some (.ins (A.cl .eW) dx (gf r a)))(h2:H r=some (.lst (rs.map V.int)))(h3:H a=some (.lst (as.map V.ref)))(h4:L_ H as qs)
  (t1:τ g=.other) (t2:τ r=.other) (t3:τ a=.asks) (ht:H t=none):
  dS TA τ τ H (upd (upd H t (.tup (q.map V.int))) a (.lst ((as++[t]).map V.ref)))/\bB A (upd (upd H t (.tup (q.map V.int))) a (.lst ((as++[t]).map V.ref))) τ g rs (qs++[q]):=by
 have nat:a≠t:=aQ h3 ht;have Qx:g≠a:=mh h1 h3 (by intro z;cases z);have nra:r≠a:=QA t2 t3 (by intro z;cases z);have S1:dS TA τ τ H (upd H t (.tup (q.map V.int))):=.new id al ht;have WA:upd H t (.tup (q.map V.int)) a=some (.lst (as.map V.ref)):=by rw[az nat];exact h3
 have S2:dS TA τ τ (upd H t (.tup (q.map V.int))) (upd (upd H t (.tup (q.map V.int))) a (.lst ((as++[t]).map V.ref))):=.put id S1.gW WA (by rw[t3];trivial) mE;have S:=S1.trans S2;refine ⟨S,dx,r,a,as++[t],?_,?_,ak,?_,t1,t2,t3⟩
 ·exact S.kp t1 id h1
 ·exact S.kp t2 id h2
 ·refine Paired.snoc (h4.mono λ_ _=>S.tup) ?_;rw[az nat.symm,ak]
def MS(A:gI):Sp:=λvs H Q _=>∃(τ:Tg) (g:Addr) (rs:List Int) (qs:List (List Int)) (n:Int),vs=[.ref g,.int n]/\Al τ H/\bB A H τ g rs qs/\qs.length<=1000000/\
 ∀H',dS TA τ τ H H'->bB A H' τ g rs (qs++[[1,n]])->Q (.int (rs.getD qs.length 0)) H'
theorem Tv:bF ["self","many","turn"] ["self","many"] (aY (Fn.st .qK)):=fs
theorem KL(T:Txt A K mg):dU P w K mg base pq 1 (A.f .qK) (A.fd .qK) ["self","many"] (MS A):=by
 refine (T.fn .qK).ok Tv (λvs H Q E h=>?_) (λgX B outer s H vs Q E hr h=>?_)
 ·obtain ⟨τ,g,rs,qs,n,rfl,_⟩:=h;rfl
 ·obtain ⟨τ,g,rs,qs,n,rfl,al,⟨dx,r,a,as,h1,h2,h3,h4,t1,t2,t3⟩,hz,k⟩:=h;have vO:as.length=qs.length:=Paired.length h4
  refine ⟨_,ao (bY (i:=2) Tv.nd rfl (bh rfl) (cF cQ rfl T.mK.len cH (aa (bz (pv 0) rfl) aA)))
   (ao (bV (pJ cJ gE gC nM (bz (pv 0) rfl) (aa (k_ (aa (pk 1 T) (aa (pv 1) aA))) aA)))
   (ao (fC (dz rS (pv 2) (cF cQ rfl T.mK.len cH (aa (bz (pv 0) rfl) aA)) (dH _)) (aF (bT (eY fE (bz (pv 0) rfl) (pv 2) (λ_ _=>rfl)))) cZ)
   (aF (bT bq)))),?_⟩
  refine ⟨_,rfl,g,_,dx,_,_,rfl,h1,T.cls .eW,T.na .eW "asks" (by decide),rfl,a,_,rfl,.inl (.of h3),?_⟩;refine ⟨_,rfl,g,_,dx,_,_,rfl,h1,T.cls .eW,T.na .eW "asks" (by decide),rfl,.inl ⟨rfl,_,.of h3⟩,_,rfl,(by show 2<=sizeLine;decide),λt ht=>?_⟩;refine ⟨a,_,_,rfl,rfl,(by rw[az (aQ h3 ht)];exact h3),big (by rw[aj];omega),?_⟩;obtain ⟨S,G⟩:=bB.ask (A:=A) (q:=[1,n]) al h1 h2 h3 h4 t1 t2 t3 ht;have e1:as.map V.ref++[V.ref t]=(as++[t]).map V.ref:=by rw[aG];rfl
  rw[e1];have k2:=k _ S G;have Co:=S.kp t1 id h1;have N_:=S.kp t2 id h2;refine ⟨_,rfl,_,rfl,g,_,dx,_,_,rfl,Co,T.cls .eW,T.na .eW "replies" (by decide),rfl,r,_,rfl,.inl (.of N_),_,_,rfl,rfl,_,rfl,?_⟩;refine iP (λc=>?_) (λc=>?_)
  ·have c':qs.length<rs.length:=by
    have:=of_decide_eq_true c;simp only[aj,vO] at this;omega
   refine ⟨_,rfl,g,_,dx,_,_,rfl,Co,T.cls .eW,T.na .eW "replies" (by decide),rfl,_,rfl,r,_,_,_,rfl,rfl,.of N_,uD (v:=V.int (rs.getD qs.length 0)) ?_,k2⟩;rw[aj,vO,cu,cM c',bA,cM c'];rfl
  ·have c':rs.length<=qs.length:=by
    have:¬_:=λz=>c (decide_eq_true z);simp only[aj,vO] at this;omega
   rw[bA,jR c'] at k2;exact k2
def MT(A:gI):Sp:=λvs H Q _=>∃(τ:Tg) (g:Addr) (rs:List Int) (qs:List (List Int)) (p n:Int),vs=[.ref g,.int p,.int n]/\Al τ H/\bB A H τ g rs qs/\qs.length<=1000000/\
 ∀H',dS TA τ τ H H'->bB A H' τ g rs (qs++[[2,p,n]])->Q .kq H'
theorem Xr:bF ["self","first","many"] ["self","first","many"] (aY (Fn.st .oA)):=fs
theorem BZ(T:Txt A K mg):dU P w K mg base pq 1 (A.f .oA) (A.fd .oA) ["self","first","many"] (MT A):=by
 refine (T.fn .oA).ok Xr (λvs H Q E h=>?_) (λgX B outer s H vs Q E hr h=>?_)
 ·obtain ⟨τ,g,rs,qs,p,n,rfl,_⟩:=h;rfl
 ·obtain ⟨τ,g,rs,qs,p,n,rfl,al,⟨dx,r,a,as,h1,h2,h3,h4,t1,t2,t3⟩,hz,k⟩:=h;have vO:as.length=qs.length:=Paired.length h4;refine ⟨_,aF (bV (pJ cJ gE gC nM (bz (pv 0) rfl) (aa (k_ (aa (pk 2 T) (aa (pv 1) (aa (pv 2) aA)))) aA))),?_⟩;refine ⟨_,rfl,g,_,dx,_,_,rfl,h1,T.cls .eW,T.na .eW "asks" (by decide),rfl,.inl ⟨rfl,_,.of h3⟩,_,rfl,_,rfl,(by show 3<=sizeLine;decide),λt ht=>?_⟩;refine ⟨a,_,_,rfl,rfl,(by rw[az (aQ h3 ht)];exact h3),big (by rw[aj];omega),?_⟩;obtain ⟨S,G⟩:=bB.ask (A:=A) (q:=[2,p,n]) al h1 h2 h3 h4 t1 t2 t3 ht;have e1:as.map V.ref++[V.ref t]=(as++[t]).map V.ref:=by rw[aG];rfl
  rw[e1];exact k _ S G
def MU(A:gI):Sp:=λvs H Q _=>∃(g r dx:Addr),vs=[.ref g,.ref r]/\H g=some (.ins (A.cl .eW) dx [])/\
 ∀(H':Hp) (a:Addr),H' g=some (.ins (A.cl .eW) dx (gf r a))->H a=none->H' a=some (.lst [])->(∀b o,H b=some o->b≠g->H' b=some o)->Q .kq H'
theorem Xs:bF ["self","replies"] ["self","replies"] (aY (Fn.st .qL)):=fs
theorem KN(T:Txt A K mg):dU P w K mg base pq 1 (A.f .qL) (A.fd .qL) ["self","replies"] (MU A):=by
 refine (T.fn .qL).ok Xs (λvs H Q E h=>?_) (λgX B outer s H vs Q E hr h=>?_)
 ·obtain ⟨g,r,dx,rfl,_⟩:=h;rfl
 ·obtain ⟨g,r,dx,rfl,h1,k⟩:=h;refine ⟨_,ao (fU (pv 0) (pv 1) rfl) (aF (fU (pv 0) (fy aA) rfl)),?_⟩;refine ⟨_,rfl,_,rfl,g,_,dx,_,rfl,h1,T.cls .eW,T.na .eW "replies" (by decide),(by show 0<1000;decide),bH _,λa ha=>?_⟩;have Qx:g≠a:=λz=>by rw[<-z,ak] at ha;cases ha
  have Vf:H a=none:=by rw[az Qx.symm] at ha;exact ha
  refine ⟨_,rfl,g,_,dx,_,rfl,(by rw[az Qx];exact ak),T.cls .eW,T.na .eW "asks" (by decide),(by show 1<1000;decide),?_⟩;refine k _ a ak Vf (by rw[az Qx.symm,ak]) λb o e hb=>?_;rw[az hb,az (aQ e Vf),az hb];exact e
def PL(A:gI):Sp:=λvs H Q _=>∃(τ:Tg) (g:Addr) (rs:List Int) (qs:List (List Int)),vs=[.ref g]/\bB A H τ g rs qs/\qs.length<=100000/\(∀q∈qs,q.length<=3)/\
 ∀H' l,cY H H'->H l=none->H' l=some (.lst (((qs.length:Int)::qs.flatten).map V.int))->Q (.ref l) H'
theorem P6:bF ["self","told","ask"] ["self"] (aY (Fn.st .jy)):=fs
theorem Cs{qs:List (List Int)}(h:∀q∈qs,q.length<=3):qs.flatten.length<=3*qs.length:=by
 induction qs with
 |nil=>simp
 |cons q qs ih=>
  have h1:=h q aJ;have h2:=ih λx hx=>h x (aB _ hx);rw[mz,aE,bL];omega
theorem NG(T:Txt A K mg):dU P w K mg base pq 1 (A.f .jy) (A.fd .jy) ["self"] (PL A):=by
 refine (T.fn .jy).ok P6 (λvs H Q E h=>?_) (λgX B outer s H vs Q E hr h=>?_)
 ·obtain ⟨τ,g,rs,qs,rfl,_⟩:=h;rfl
 ·obtain ⟨τ,g,rs,qs,rfl,⟨dx,r,a,as,h1,h2,h3,h4,t1,t2,t3⟩,hz,hq3,k⟩:=h;have vO:as.length=qs.length:=Paired.length h4
  refine ⟨_,ao (bY (i:=1) P6.nd rfl (bh rfl) (fy (aa (cF cQ rfl T.mK.len cH (aa (bz (pv 0) rfl) aA)) aA)))
   (ao (jY PassesOwn.never rfl (iV (bz (pv 0) rfl)) (dB (i:=2) P6.nd rfl (bh rfl))
    (aF (bV (pJ cJ gD jb FN (pv 1) (aa (pv 2) aA)))))
   (aF (bT (pv 1)))),?_⟩
  refine ⟨_,rfl,g,_,dx,_,_,rfl,h1,T.cls .eW,T.na .eW "asks" (by decide),rfl,a,_,rfl,.inl (.of h3),(by show 1<=sizeLine;decide),λl hl=>?_⟩;have s0:cY H (upd H l (.lst [.int (as.map V.ref).length])):=aX hl
  refine ⟨_,rfl,g,_,dx,_,_,rfl,s0 _ _ h1,T.cls .eW,T.na .eW "asks" (by decide),rfl,a,rfl,⟨_,.of (s0 _ _ h3)⟩,j8 (K:=K) (a:=a) (xs:=as.map V.ref) (λi σ H2=>∃v2:Option V,σ=[some (.ref g),some (.ref l),v2]/\cY H H2/\
    H2 l=some (.lst (((qs.length:Int)::(qs.take i).flatten).map V.int)))
   ⟨none,rfl,s0,?_⟩ (λi σ H2 _ ⟨_,_,b,_⟩=>.of (b _ _ h3)) ?_ ?_⟩
  ·rw[ak,aj,vO];rfl
  ·rintro i y σ H2 hi ⟨v2,rfl,b,tV⟩;obtain ⟨t,ht,rfl⟩:=lQ hi;obtain ⟨q,hq,YM⟩:=tM h4 ht;refine ⟨_,rfl,.inl ⟨rfl,_,.of tV⟩,_,rfl,l,t,_,_,rfl,rfl,tV,b _ _ YM,?_,?_⟩
   ·have:=Cs (qs:=qs.take i) λq hq=>hq3 q (jc hq);have h3:=hq3 q (cA hq);have h4:(qs.take i).length<=qs.length:=by rw[bS];omega
    rw[aj,aj,bL];exact dR (big (by omega))
   ·refine ⟨_,rfl,λc o e=>?_,?_⟩
    ·rw[az (aQ e hl)];exact b _ _ e
    ·rw[ak,cN,hq,<-aG];simp
  ·rintro σ H2 ⟨v2,rfl,b,tV⟩;refine ⟨_,rfl,k H2 l b hl ?_⟩;rw[aj,vO,ff] at tV;exact tV
end
end Rm
namespace Rm
open PySem L2
def nR(n m:Int):Option Int:=aV.find? λz=>decide (n<=z)&&decide (z%m=0)
def oV:Option Int->V
 |none=>.kq
 |some z=>.int z
def rp(z:Int):Int:=(cg z.toNat:Int)
def np(z:Int):Nat:=(rp z*4096/z).toNat
def Bd(z r:Int):List Int:=(bX (np z)).map λ(i:Nat)=>r*4096+(i:Int)*z
def rpC(z:Int):Bool:=decide (0<z/\z<=32768/\1<=rp z/\rp z<=64/\¬(rp z*4096%z*8>rp z*4096))&&((bX (rp z-1).toNat).all λi=>decide (((i:Int)+1)*4096%z*8>((i:Int)+1)*4096))&&decide (np z<=256/\0<np z/\(np z:Int)*z<=rp z*4096)
theorem Nh:(aV.all rpC)=true:=by decide+kernel
theorem kM{z:Int}(h:z∈aV):(0<z/\z<=32768/\1<=rp z/\rp z<=64/\¬(rp z*4096%z*8>rp z*4096))/\(∀i:Int,1<=i->i<rp z->i*4096%z*8>i*4096)/\np z<=256/\0<np z/\(np z:Int)*z<=rp z*4096:=by
 have:=fh.mp Nh z h;unfold rpC at this;simp only[aC,decide_eq_true_eq,fh,e9] at this;obtain ⟨⟨h1,h2⟩,h3⟩:=this;refine ⟨h1,λi h1 N_=>?_,h3⟩;have:=h2 (i-1).toNat (by omega);have e:(((i-1).toNat:Nat):Int)+1=i:=by omega
 rw[e] at this;exact this
theorem xA:aV.length=40:=by decide
section
variable{P:Program}{w:World}{K:au}{mg:Str->Option Value}{base:Heap}{A:gI}
theorem ints_get{ns:List Int}{i:Nat}{y:V}(h:(ns.map V.int)[i]?=some y):∃a,ns[i]?=some a/\y=V.int a:=by
 rw[cu] at h;cases e:ns[i]? with
 |none=>rw[e] at h;cases h
 |some a=>rw[e] at h;exact ⟨a,rfl,(bC h).symm⟩
def G8:Sp:=λvs H Q _=>∃(n m:Int),vs=[.int n,.int m]/\0<m/\Q (oV (nR n m)) H
theorem Ti:bF ["many","multiple","small"] ["many","multiple"] (aY (Fn.st .g9)):=fs
theorem xQ(T:Txt A K mg):dU P w K mg base pq 1 (A.f .g9) (A.fd .g9) ["many","multiple"] G8:=by
 refine (T.fn .g9).ok Ti (λvs H Q E h=>?_) (λgX B outer s H vs Q E hr h=>?_)
 ·obtain ⟨n,m,rfl,_⟩:=h;rfl
 ·obtain ⟨n,m,rfl,hm,k⟩:=h
  refine ⟨_,ao (jY PassesOwn.never rfl (AH (sC (v:=.ref A.sizes) rfl T.Wf rfl)) (dB (i:=2) Ti.nd rfl (bh rfl))
    (aF (fC (AB (dz Ub (pv 2) (pv 0) (dH _)) (wG (dz lA (bW AL (pv 2) (pv 1)) bq (dH _)))).pt (aF (bT (pv 2))) cZ)))
   (aF (bT Kc)),?_⟩
  refine ⟨_,rfl,⟨_,T.sz H⟩,wW (K:=K) (a:=A.sizes) (xs:=aV.map V.int) (λi σ H2=>∃(v2:Option V),σ=[some (.int n),some (.int m),v2]/\H2=H/\
    ∀z∈aV.take i,(decide (n<=z)&&decide (z%m=0))=false)
   ⟨none,rfl,rfl,λr hr=>by simp at hr⟩ (λi σ H2 _ _=>T.sz H2) ?_ ?_⟩
  ·rintro i y σ H2 hi ⟨v2,rfl,rfl,ql⟩;obtain ⟨z,hz,rfl⟩:=ints_get hi
   have stop:(decide (n<=z)&&decide (z%m=0))=false->∀y∈aV.take (i+1),(decide (n<=y)&&decide (y%m=0))=false:=λc q hq=>by
    rw[cN,hz] at hq;rcases bG.mp hq with hq|hq
    ·exact ql q hq
    ·have:q=z:=by simpa using hq
     subst this;exact c
   refine ⟨_,rfl,_,rfl,_,_,rfl,rfl,_,rfl,?_⟩;refine iP (λc=>?_) (λc=>?_)
   ·refine ⟨_,rfl,_,rfl,_,_,rfl,rfl,hm,rfl,_,rfl,?_⟩;refine iP (λd=>?_) (λd=>?_)
    ·have d':z%m=0:=by
      have:=of_decide_eq_true d;injection this
     have e:nR n m=some z:=wX ql hz (by rw[decide_eq_true d',c];rfl);rw[e] at k;exact ⟨_,rfl,k⟩
    ·refine ⟨_,rfl,rfl,stop ?_⟩;have d':¬z%m=0:=λe=>d (decide_eq_true (congrArg V.int e));rw[decide_eq_false d',tG]
   ·refine mJ ?_;refine ⟨_,rfl,rfl,stop ?_⟩;rw[gh.mpr c,oS]
  ·rintro σ H2 ⟨v2,rfl,rfl,ql⟩
   have e:nR n m=none:=dW.mpr λz hz=>by
    rw[ql z (by rw[b8 (by rw[aj];exact aL _)];exact hz)];exact cW
   rw[e] at k;exact k
def Dz:Sp:=λvs H Q _=>∃(n:Int),vs=[.int n]/\Q (.int ((n+4096-1)/4096)) H
theorem Xh:bF ["many"] ["many"] (aY (Fn.st .fY)):=fs
theorem vG(T:Txt A K mg):dU P w K mg base pq 1 (A.f .fY) (A.fd .fY) ["many"] Dz:=by
 refine (T.fn .fY).ok Xh (λvs H Q E h=>?_) (λgX B outer s H vs Q E hr h=>?_)
 ·obtain ⟨n,rfl,_⟩:=h;rfl
 ·obtain ⟨n,rfl,k⟩:=h;refine ⟨_,aF (bT (bW uo (bW gj (bW fM (pv 0) (pk 4096 T)) bq) (pk 4096 T))),?_⟩;exact ⟨_,rfl,_,_,rfl,rfl,_,_,rfl,rfl,_,_,rfl,rfl,⟨by decide,by decide⟩,k⟩
def W4:Sp:=λvs H Q _=>∃(z:Int),vs=[.int z]/\z∈aV/\Q (.int (rp z)) H
theorem PU:bF ["small","pages"] ["small"] (aY (Fn.st .e8)):=fs
theorem OJ(T:Txt A K mg):dU P w K mg base pq 1 (A.f .e8) (A.fd .e8) ["small"] W4:=by
 refine (T.fn .e8).ok PU (λvs H Q E h=>?_) (λgX B outer s H vs Q E hr h=>?_)
 ·obtain ⟨n,rfl,_⟩:=h;rfl
 ·obtain ⟨z,rfl,hz,k⟩:=h;obtain ⟨⟨z0,z1,r1,r2,stop⟩,go,_⟩:=kM hz
  refine ⟨_,ao (bY (i:=1) PU.nd rfl (bh rfl) bq)
   (ao (rO PassesOwn.never (dz pK (bW lR (bW AL (bW lR (pv 1) (pk 4096 T)) (pv 0)) bq) (bW lR (pv 1) (pk 4096 T)) (dH _))
    (aF (xK (i:=1) PU.nd rfl (bh rfl) bq AR)))
   (aF (bT (pv 1)))),?_⟩
  refine ⟨λm σ H2=>∃i:Int,σ=[some (.int z),some (.int i)]/\H2=H/\1<=i/\i<=rp z/\m=(rp z-i).toNat,⟨_,1,rfl,rfl,by omega,by omega,rfl⟩,?_⟩;rintro m σ H2 ⟨i,rfl,rfl,i1,i2,rfl⟩;refine ⟨_,rfl,_,_,rfl,rfl,.inr ⟨by decide,by decide⟩,_,rfl,_,_,rfl,rfl,z0,_,_,rfl,rfl,.inr ⟨by decide,by decide⟩,_,rfl,_,_,rfl,rfl,.inr ⟨by decide,by decide⟩,_,_,rfl,rfl,_,rfl,?_⟩;refine iP (λc=>?_) (λc=>?_)
  ·have c':=of_decide_eq_true c
   have pX:i<rp z:=by
    rcases Int.lt_or_eq_of_le i2 with h|h
    ·exact h
    ·subst h;exact absurd c' stop
   refine ⟨λσ' H'=>∃i':Int,i'=i+1/\σ'=[some (.int z),some (.int i')]/\H'=H2,?_,?_⟩
   ·rintro σ' H' ⟨i',rfl,rfl,rfl⟩;exact ⟨_,by omega,i+1,rfl,rfl,by omega,by omega,rfl⟩
   ·exact ⟨_,rfl,_,_,rfl,rfl,_,rfl,rfl,rfl⟩
  ·have c':¬(i*4096%z*8>i*4096):=λq=>c (decide_eq_true q)
   have e:i=rp z:=by
    rcases Int.lt_or_eq_of_le i2 with h|h
    ·exact absurd (go i i1 h) c'
    ·exact h
   subst e;exact ⟨_,rfl,k⟩
def SV:Sp:=λvs H Q _=>∃(z r:Int),vs=[.int z,.int r]/\z∈aV/\∀H' l,cY H H'->H l=none->H' l=some (.lst ((Bd z r).map V.int))->Q (.ref l) H'
theorem JM:bF ["small","run","start","many","turn"] ["small","run"] (aY (Fn.st .d9)):=fs
theorem Kn(T:Txt A K mg):dU P w K mg base pq 2 (A.f .d9) (A.fd .d9) ["small","run"] SV:=by
 refine (T.fn .d9).ok JM (λvs H Q E h=>?_) (λgX B outer s H vs Q E hr h=>?_)
 ·obtain ⟨z,r,rfl,_⟩:=h;rfl
 ·obtain ⟨z,r,rfl,hz,k⟩:=h;obtain ⟨⟨z0,z1,r1,r2,stop⟩,go,n1,n2,n3⟩:=kM hz
  refine ⟨_,ao (bY (i:=2) JM.nd rfl (sO rfl) (bW lR (pv 1) (pk 4096 T)))
   (ao (bY (i:=3) JM.nd rfl (bh rfl) (bW uo (bW lR (dh (OJ T) hr rfl (T.o_ .e8 rfl) (T.fn .e8).kp (T.bn .e8) .nil c_ (aa (pv 0) aA)) (pk 4096 T)) (pv 0)))
   (aF (bT (vF (own:=[("turn",4)]) rfl JM.nd (Hq rfl T.mK.range (aa (pv 3) aA)) (jz rfl)
    (λ_ _ _ _ _=>dB (i:=4) JM.nd rfl (bh rfl)) (λ_ _ _ _ _=>nv) (λ_ _ _ _ _=>bW fM (pv 2) (bW lR (pv 4) (pv 0))))))),?_⟩
  refine ⟨_,rfl,_,_,rfl,rfl,.inr ⟨by decide,by decide⟩,_,rfl,z,rfl,hz,_,_,rfl,rfl,.inr ⟨by decide,by decide⟩,_,rfl,_,_,rfl,rfl,⟨z0,by omega⟩,?_⟩
  have US:(rp z*4096/z)=(np z:Int):=by
   unfold np;have:0<=rp z*4096/z:=Int.ediv_nonneg (by omega) (by omega);omega
  refine ⟨_,rfl,_,rfl,by rw[US];omega,by rw[US];omega,λD hD=>HF (lo:=0) (λi=>some (V.int (r*4096+(i:Int)*z))) (by show np z<=_;omega) hD ?_ ?_⟩
  ·rintro i H2 R N hi b h;have hR:=(h H2 (.refl _)).1 _ rfl;refine ⟨rfl,yes (lg ?_)⟩;have e0:(0:Int)+(i:Int)=i:=Int.zero_add _;refine ⟨_,rfl,_,rfl,_,rfl,_,_,rfl,rfl,.inr ⟨by omega,by omega⟩,_,_,rfl,rfl,?_⟩;rw[e0];exact hR
  ·intro H' s h;refine k H' D s hD (h.trans ?_);have e1:(Bd z r).map V.int=(bX (np z)).map λ(i:Nat)=>V.int (r*4096+(i:Int)*z):=by unfold Bd;rw[ay];rfl
   rw[e1];show some (HO.lst (List.filterMap (λ(i:Nat)=>some (V.int (r*4096+(i:Int)*z))) (bX (np z))))=_;rw[List.filterMap_eq_map']
end
end Rm
namespace Rm
section
variable{α:Type}{m:List (Int×α)}{k k':Int}{x:α}
theorem xj:bM ([]:List (Int×α)) k=none:=rfl
theorem jh{q:Int×α}{l:List (Int×α)}(h:q.1=k):bM (q::l) k=some q.2:=by simp [bM,h]
theorem iS{q:Int×α}{l:List (Int×α)}(h:¬q.1=k):bM (q::l) k=bM l k:=by simp [bM,dm,h]
theorem lz:bM m k=none↔k∉m.map (·.1):=by
 induction m with
 |nil=>simp [xj]
 |cons q l ih=>
  by_cases h:q.1=k
  ·rw[jh h];simp [h]
  ·rw[iS h,ih,aI,aP,not_or];exact ⟨λz=>⟨λe=>h e.symm,z⟩,λz=>z.2⟩
theorem vC:(bM m k).isSome=true↔k∈m.map (·.1):=by
 cases e:bM m k with
 |none=>simp [lz.mp e]
 |some x=>simp [aq.mpr ⟨_,eN e,rfl⟩]
theorem VE:(m.any λq=>decide (q.1=k))=(bM m k).isSome:=by
 induction m with
 |nil=>rfl
 |cons q l ih=>
  rw[jO,ih]
  by_cases h:q.1=k
  ·rw[jh h,decide_eq_true h];rfl
  ·rw[iS h,decide_eq_false h,Bp]
theorem iU(h:bM m k=none):dY m k x=m++[(k,x)]:=by
 unfold dY;rw[VE,h];exact if_neg (by simp)
theorem iD{y:α}(h:bM m k=some y):dY m k x=m.map (λq=>if q.1=k then (q.1,x) else q):=by
 unfold dY;rw[VE,h];exact if_pos rfl
theorem HK:(dY m k x).map (·.1)=if k∈m.map (·.1) then m.map (·.1) else m.map (·.1)++[k]:=by
 cases e:bM m k with
 |none=>rw[iU e,if_neg (lz.mp e),aG];rfl
 |some y=>
  rw[iD e,if_pos (vC.mp (by rw[e];rfl)),ay];refine aN λq _=>?_;show (if q.1=k then (q.1,x) else q).1=q.1;split<;>rfl
theorem j6(h:(m.map (·.1)).Nodup):((dY m k x).map (·.1)).Nodup:=by
 rw[HK];split
 ·exact h
 ·rename_i c;exact L2.FL h c
theorem fW:bM (dY m k x) k'=if k'=k then some x else bM m k':=by
 cases e:bM m k with
 |none=>
  rw[iU e]
  have app:∀l:List (Int×α),bM (l++[(k,x)]) k'=(bM l k').or (if k=k' then some x else none):=by
   intro l
   induction l with
   |nil=>
    simp only[lG]
    by_cases h:k=k'
    ·rw[jh h,if_pos h];rfl
    ·rw[iS h,if_neg h];rfl
   |cons q l ih=>
    rw[qS]
    by_cases h:q.1=k'
    ·rw[jh h,jh h];rfl
    ·rw[iS h,iS h,ih]
  rw[app]
  by_cases h:k'=k
  ·subst h;rw[e];simp
  ·rw[if_neg h,if_neg λz=>h z.symm];simp
 |some y=>
  rw[iD e]
  have mp:∀l:List (Int×α),bM (l.map λq=>if q.1=k then (q.1,x) else q) k'=if k'=k then (bM l k').map λ_=>x else bM l k':=by
   intro l
   induction l with
   |nil=>by_cases h:k'=k<;>simp [h,xj]
   |cons q l ih=>
    rw[aI]
    by_cases hq:q.1=k
    ·rw[if_pos hq]
     by_cases h:k'=k
     ·subst h;rw[jh (q:=(q.1,x)) hq,jh hq,if_pos rfl];rfl
     ·rw[iS (q:=(q.1,x)) (λz=>h (z.symm.trans hq)),ih,if_neg h,if_neg h,iS λz=>h (z.symm.trans hq)]
    ·rw[if_neg hq]
     by_cases h':q.1=k'
     ·have h:¬k'=k:=λz=>hq (h'.trans z);rw[jh h',jh h',if_neg h]
     ·rw[iS h',ih,iS h']
  rw[mp]
  by_cases h:k'=k
  ·subst h;rw[if_pos rfl,if_pos rfl,e];rfl
  ·rw[if_neg h,if_neg h]
theorem p_:bM (jj m k) k'=if k'=k then none else bM m k':=by
 unfold jj
 induction m with
 |nil=>by_cases h:k'=k<;>simp [h,xj]
 |cons q l ih=>
  rw[bU]
  by_cases hq:q.1=k
  ·rw[if_neg (by simp [hq]),ih]
   by_cases h:k'=k
   ·rw[if_pos h,if_pos h]
   ·rw[if_neg h,if_neg h,iS λz=>h (z.symm.trans hq)]
  ·rw[if_pos (by simp [hq])]
   by_cases h':q.1=k'
   ·rw[jh h',if_neg λz=>hq (h'.trans z),jh h']
   ·rw[iS h',ih,iS h']
theorem ji{q:Int×α}:q∈jj m k↔q∈m/\q.1≠k:=by unfold jj;simp
theorem rV(h:(m.map (·.1)).Nodup):((jj m k).map (·.1)).Nodup:=by
 unfold jj;exact h.sublist (List.Sublist.map _ dM)
theorem iF{q:Int×α}(h:q∈dY m k x):q=(k,x)\/(q∈m/\q.1≠k):=by
 cases e:bM m k with
 |none=>
  rw[iU e] at h;rcases bG.mp h with h|h
  ·exact .inr ⟨h,λz=>lz.mp e (aq.mpr ⟨q,h,z⟩)⟩
  ·exact .inl (by simpa using h)
 |some y=>
  rw[iD e] at h;obtain ⟨r,hr,rfl⟩:=aq.mp h
  by_cases hk:r.1=k
  ·rw[if_pos hk,hk];exact .inl rfl
  ·rw[if_neg hk];exact .inr ⟨hr,hk⟩
theorem uc:(dY m k x).length<=m.length+1:=by
 cases e:bM m k with
 |none=>rw[iU e];simp
 |some y=>rw[iD e];simp
theorem zR:(jj m k).length<=m.length:=EJ _ _
end
theorem uq:∀(N:Nat) (l:List Int),l.Nodup->(∀k∈l,0<=k/\k<N)->l.length<=N
 |0,l,_,h=>by
  cases l with
  |nil=>exact aL _
  |cons a l=>have:=h a aJ;omega
 |N+1,l,hn,h=>by
  have h1:=uq N (l.filter λ(k:Int)=>decide (k≠(N:Int))) (hn.sublist dM) (λk hk=>by
   have NZ:=bu.mp hk;have:=h k NZ.1;have h2:k≠N:=of_decide_eq_true NZ.2;omega)
  have aux:∀l:List Int,l.Nodup->l.length<=(l.filter λ(k:Int)=>decide (k≠(N:Int))).length+1:=by
   intro l
   induction l with
   |nil=>intro _;exact bH _
   |cons a l ih=>
    intro hn;obtain ⟨n1,n2⟩:=b9.mp hn;rw[bU]
    by_cases e:a=N
    ·rw[if_neg (by simp [e])];have:(l.filter λ(k:Int)=>decide (k≠(N:Int)))=l:=n_.mpr λk hk=>decide_eq_true λz=>n1 (by rw[e,<-z];exact hk);rw[this];exact aL _
    ·rw[if_pos (by simp [e])];have:=ih n2;rw[bL,bL];omega
  have:=aux l hn;omega
abbrev iJ:=List (Int×List Int)
structure kD(m:iJ):Prop where
 nd:(m.map (·.1)).Nodup
 ok:∀q∈m,0<=q.1/\q.1<262144/\q.2.length=4096
def jD(m:iJ)(i:Int):Int:=match bM m (i/4096) with
 |none=>0
 |some p=>p.getD (i%4096).toNat 0
def oW(m:iJ)(k:Int):List Int:=(bM m k).getD (bJ 4096 0)
theorem kD.nil:kD []:=⟨gP,λq h=>by cases h⟩
theorem um(i:Int):jD [] i=0:=rfl
theorem kD.len{m:iJ}(h:kD m):m.length<=262144:=by
 have:=uq 262144 (m.map (·.1)) h.nd (λk hk=>by
  obtain ⟨q,hq,rfl⟩:=aq.mp hk;have:=h.ok q hq;omega)
 rw[aj] at this;exact this
theorem uh{m:iJ}(h:kD m)(k:Int):(oW m k).length=4096:=by
 unfold oW;cases e:bM m k with
 |none=>simp
 |some p=>exact (h.ok _ (eN e)).2.2
theorem Kd(m:iJ)(i:Int):jD m i=(oW m (i/4096)).getD (i%4096).toNat 0:=by
 unfold jD oW;cases e:bM m (i/4096) with
 |none=>
  have:(i%4096).toNat<4096:=by omega
  show (0:Int)=(bJ 4096 (0:Int)).getD (i%4096).toNat 0;rw[bA,lZ,if_pos this];rfl
 |some p=>rfl
def wr(f:Int->Int)(s:Int)(row:List Int):Int->Int:=λi=>if s<=i/\i<s+row.length then row.getD (i-s).toNat 0 else f i
def bl(f:Int->Int)(s e:Int):Int->Int:=λi=>if s<=i/\i<e then 0 else f i
theorem kD.put{m:iJ}{k:Int}{p:List Int}(h:kD m)(h1:0<=k)(h2:k<262144)(h3:p.length=4096):kD (dY m k p):=
 ⟨j6 h.nd,λq hq=>by
  rcases iF hq with rfl|⟨hq,_⟩
  ·exact ⟨h1,h2,h3⟩
  ·exact h.ok q hq⟩
theorem kD.drop{m:iJ}{k:Int}(h:kD m):kD (jj m k):=⟨rV h.nd,λq hq=>h.ok q (ji.mp hq).1⟩
theorem Hs{m:iJ}(h:kD m){at_:Int}{row:List Int}(h0:0<=at_)(hlen:(row.length:Int)<=4096-at_%4096):
  jD (dY m (at_/4096) ((oW m (at_/4096)).take (at_%4096).toNat++row++(oW m (at_/4096)).drop ((at_%4096).toNat+row.length)))=wr (jD m) at_ row:=by
 funext i;have hp:=uh h (at_/4096);unfold wr
 by_cases hk:i/4096=at_/4096
 ·rw[Kd m i,hk];unfold jD;rw[hk,fW,if_pos rfl];dsimp only;generalize oW m (at_/4096)=p at hp;have e1:(p.take (at_%4096).toNat).length=(at_%4096).toNat:=by rw[bS];omega
  simp only[bA]
  by_cases c1:(i%4096).toNat<(at_%4096).toNat
  ·rw[if_neg (by omega),cD,gz (by omega),lJ,if_pos c1]
  ·by_cases c2:(i%4096).toNat<(at_%4096).toNat+row.length
   ·rw[if_pos (by omega),gz (by rw[aE,e1];omega),gb (by omega),e1];have:(i%4096).toNat-(at_%4096).toNat=(i-at_).toNat:=by omega
    rw[this]
   ·rw[if_neg (by omega),gb (by rw[aE,e1];omega),aE,e1,lK];have:(at_%4096).toNat+row.length+((i%4096).toNat-((at_%4096).toNat+row.length))=(i%4096).toNat:=by omega
    rw[this]
 ·rw[if_neg (by omega)];unfold jD;rw[fW,if_neg hk]
end Rm
namespace Rm
open PySem L2
theorem LL{xs:List V}{k:Int}(h:0<=k):o8 xs none (some k)=xs.take k.toNat:=by
 unfold o8 HT.kX;dsimp only;rw[if_neg (by omega),Aj,Nat.sub_zero]
 by_cases c:k.toNat<=xs.length
 ·rw[lI c]
 ·rw[q_ (by omega),ff,b8 (by omega)]
theorem LK{xs:List V}{k:Int}(h:0<=k):o8 xs (some k) none=xs.drop k.toNat:=by
 unfold o8 HT.kX;dsimp only;rw[if_neg (by omega)]
 by_cases c:k.toNat<=xs.length
 ·rw[lI c,b8 (by rw[b_];exact aL _)]
 ·rw[q_ (by omega),Nat.sub_self,List.take_zero,jH (by omega)]
theorem vp{xs:List V}{a b:Int}(h:0<=a)(h2:a<=b):o8 xs (some a) (some b)=(xs.drop a.toNat).take (b-a).toNat:=by
 unfold o8 HT.kX;dsimp only;rw[if_neg (by omega),if_neg (by omega)]
 by_cases c:a.toNat<=xs.length
 ·rw[lI c]
  by_cases d:b.toNat<=xs.length
  ·rw[lI d,show b.toNat-a.toNat=(b-a).toNat by omega]
  ·rw[q_ (by omega),b8 (by rw[b_];exact aL _),b8 (by rw[b_];omega)]
 ·rw[jH (by omega:xs.length<=a.toNat),jH (by omega),List.take_nil,List.take_nil]
section
variable{P:Program}{w:World}{K:au}{mg:Str->Option Value}{base:Heap}{A:gI}
def cf(d:Addr):List (Str×V):=[("pieces",.ref d)]
def Gx(H:Hp):Int->V->List Int->Prop:=λ_ v p=>∃t,v=.ref t/\H t=some (.tup (p.map V.int))
theorem Gx.mono{H H':Hp}(f:∀t xs,H t=some (.tup xs)->H' t=some (.tup xs))(k:Int)(v:V)(p:List Int)(h:Gx H k v p):Gx H' k v p:=let ⟨t,e,q⟩:=h;⟨t,e,f _ _ q⟩
structure fP(A:gI)(H:Hp)(τ:Tg)(c:Addr)(m:iJ):Prop where
 ex:∃dx d kvs,H c=some (.ins (A.cl .bQ) dx (cf d))/\H d=some (.dK kvs)/\gy (Gx H) kvs m/\τ c=.con c/\τ d=.DQ c
theorem fP.step{H H':Hp}{τ τ':Tg}{c:Addr}{m:iJ}{S:Tag->Prop}(h:fP A H τ c m)(s:dS S τ τ' H H')(n1:¬S (.con c))(n2:¬S (.DQ c)):fP A H' τ' c m:=by
 obtain ⟨dx,d,kvs,h1,h2,h3,t1,t2⟩:=h.ex;exact ⟨dx,d,kvs,s.kp t1 n1 h1,s.kp t2 n2 h2,h3.imp (Gx.mono λ_ _=>s.tup),s.tg t1 h1,s.tg t2 h2⟩
theorem fP.same{H H':Hp}{τ:Tg}{c:Addr}{m:iJ}(h:fP A H τ c m)(s:cY H H'):fP A H' τ c m:=by
 obtain ⟨dx,d,kvs,h1,h2,h3,t1,t2⟩:=h.ex;exact ⟨dx,d,kvs,s _ _ h1,s _ _ h2,h3.imp (Gx.mono λ_ _=>s _ _),t1,t2⟩
def TC(c:Addr):Tag->Prop:=λt=>t=.DQ c
theorem TC.no{c:Addr}:¬TC c .other:=λz=>nomatch z
def MY(A:gI):Sp:=λvs H Q _=>∃(c dx:Addr),vs=[.ref c]/\H c=some (.ins (A.cl .bQ) dx [])/\
 ∀(H':Hp) (d:Addr),H' c=some (.ins (A.cl .bQ) dx (cf d))->H d=none->H' d=some (.dK [])->(∀b o,H b=some o->b≠c->H' b=some o)->Q .kq H'
theorem Xx:bF ["self"] ["self"] (aY (Fn.st .qN)):=fs
theorem KQ(T:Txt A K mg):dU P w K mg base pq 1 (A.f .qN) (A.fd .qN) ["self"] (MY A):=by
 refine (T.fn .qN).ok Xx (λvs H Q E h=>?_) (λgX B outer s H vs Q E hr h=>?_)
 ·obtain ⟨c,dx,rfl,_⟩:=h;rfl
 ·obtain ⟨c,dx,rfl,h1,k⟩:=h;refine ⟨_,aF (fU (pv 0) pI rfl),?_⟩;intro d hd;have OL:c≠d:=aQ h1 hd;refine ⟨_,rfl,c,_,dx,_,rfl,(by rw[az OL];exact h1),T.cls .bQ,T.na .bQ "pieces" (by decide),(by show 0<1000;decide),?_⟩;refine k _ d ak hd (by rw[az OL.symm,ak]) λb o e hb=>?_;rw[az hb,az (aQ e hd)];exact e
def JF(A:gI):Sp:=λvs H Q _=>∃(τ:Tg) (c:Addr) (m:iJ) (k:Int),vs=[.ref c,.int k]/\fP A H τ c m/\
 ∀(H':Hp) (t:Addr),cY H H'->H' t=some (.tup ((oW m k).map V.int))->Q (.ref t) H'
theorem Xw:bF ["self","number"] ["self","number"] (aY (Fn.st .lV)):=fs
theorem zy(T:Txt A K mg):dU P w K mg base pq 1 (A.f .lV) (A.fd .lV) ["self","number"] (JF A):=by
 refine (T.fn .lV).ok Xw (λvs H Q E h=>?_) (λgX B outer s H vs Q E hr h=>?_)
 ·obtain ⟨τ,c,m,k,rfl,_⟩:=h;rfl
 ·obtain ⟨τ,c,m,n,rfl,⟨dx,d,kvs,h1,h2,h3,t1,t2⟩,k⟩:=h;have hu:=jJ hr
  refine ⟨_,ao (fC (uZ (Qn hu (pv 1) (bz (pv 0) rfl))) (aF (bT (ig hu (bz (pv 0) rfl) (pv 1) (λ_ _=>rfl)))) cZ)
   (aF (bT (bW Fw (k_ (aa bq aA)) (pk 4096 T)))),?_⟩
  refine ⟨_,rfl,_,rfl,c,_,dx,_,_,rfl,h1,T.cls .bQ,T.na .bQ "pieces" (by decide),rfl,d,_,rfl,mL.k (k:=aW n) h2,_,rfl,?_⟩;rcases h3.val n with ⟨e1,e2⟩|⟨p,v,e1,e2,t,rfl,ht⟩
  ·rw[e2];refine mJ ?_;refine ⟨(by show 1<=sizeLine;decide),λt0 YD=>?_⟩;refine ⟨t0,_,_,rfl,rfl,ak,by simp,by decide,by decide,(by show 1*4096<=sizeLine;decide),λp H' L=>?_⟩;refine k H' p ((aX YD).trans L.same) (L.at_.trans ?_);have:oW m n=bJ 4096 0:=by unfold oW;rw[e1];rfl
   rw[this,Jb];show some (HO.tup (bJ 4096 [V.int 0]).flatten)=_;rw[vU]
  ·rw[e2];refine lg ?_;refine ⟨_,rfl,c,_,dx,_,_,rfl,h1,T.cls .bQ,T.na .bQ "pieces" (by decide),rfl,_,rfl,d,_,rfl,?_,k H t (.refl _) ?_⟩
   ·have:=mL.k (k:=aW n) h2;rw[e2] at this;exact this
   ·have:oW m n=p:=by unfold oW;rw[e1];rfl
    rw[this];exact ht
end
end Rm
namespace Rm
open PySem L2
theorem O5(f:Int->Int)(s:Int):wr f s []=f:=by
 funext i;unfold wr;rw[if_neg];simp only[yJ];omega
theorem O6(f:Int->Int)(s:Int)(a b:List Int):wr (wr f s a) (s+a.length) b=wr f s (a++b):=by
 funext i;unfold wr;simp only[aE,bA]
 by_cases c1:s+a.length<=i/\i<s+a.length+b.length
 ·rw[if_pos c1,if_pos (by omega),gb (by omega)];have:(i-s).toNat-a.length=(i-(s+a.length)).toNat:=by omega
  rw[this]
 ·rw[if_neg c1]
  by_cases c2:s<=i/\i<s+a.length
  ·rw[if_pos c2,if_pos (by omega),gz (by omega)]
  ·rw[if_neg c2,if_neg (by omega)]
theorem rK{l:List Int}{n:Nat}:(l.map V.int).take n=(l.take n).map V.int:=by rw[Bm]
theorem r6{l:List Int}{n:Nat}:(l.map V.int).drop n=(l.drop n).map V.int:=by rw[List.map_drop]
section
variable{P:Program}{w:World}{K:au}{mg:Str->Option Value}{base:Heap}{A:gI}
theorem fP.put{H:Hp}{τ:Tg}{c dx d t:Addr}{kvs:List (Key×V)}{m:iJ}{k:Int}{p:List Int}(al:Al τ H)(h1:H c=some (.ins (A.cl .bQ) dx (cf d)))(h2:H d=some (.dK kvs))(h3:gy (Gx H) kvs m)(t1:τ c=.con c)(t2:τ d=.DQ c)(ht:H t=some (.tup (p.map V.int))):
  dS (TC c) τ τ H (upd H d (.dK (putK kvs (aW k) (.ref t))))/\fP A (upd H d (.dK (putK kvs (aW k) (.ref t)))) τ c (dY m k p):=by
 have S:dS (TC c) τ τ H (upd H d (.dK (putK kvs (aW k) (.ref t)))):=.put TC.no al h2 t2 oB;refine ⟨S,dx,d,_,S.kp t1 (λz=>nomatch z) h1,ak,h3.put ⟨t,rfl,S.tup ht⟩ λk' v' x' _ _=>Gx.mono (λ_ _=>S.tup) k' v' x',t1,t2⟩
theorem fP.pop{H:Hp}{τ:Tg}{c dx d:Addr}{kvs:List (Key×V)}{m:iJ}{k:Int}(al:Al τ H)(h1:H c=some (.ins (A.cl .bQ) dx (cf d)))(h2:H d=some (.dK kvs))(h3:gy (Gx H) kvs m)(t1:τ c=.con c)(t2:τ d=.DQ c):
  dS (TC c) τ τ H (upd H d (.dK (mq kvs (aW k))))/\fP A (upd H d (.dK (mq kvs (aW k)))) τ c (jj m k):=by
 have S:dS (TC c) τ τ H (upd H d (.dK (mq kvs (aW k)))):=.put TC.no al h2 t2 oB;refine ⟨S,dx,d,_,S.kp t1 (λz=>nomatch z) h1,ak,h3.drop λk' v' x' _ _=>Gx.mono (λ_ _=>S.tup) k' v' x',t1,t2⟩
def JE(A:gI):Sp:=λvs H Q _=>∃(τ:Tg) (c:Addr) (m:iJ) (s:Int) (gY:Addr) (row:List Int),vs=[.ref c,.int s,.ref gY]/\Al τ H/\fP A H τ c m/\kD m/\H gY=some (.tup (row.map V.int))/\0<=s/\s+row.length<=1073741824/\
 ∀(H':Hp) (m':iJ),dS (TC c) τ τ H H'->fP A H' τ c m'->kD m'->jD m'=wr (jD m) s row->Q .kq H'
theorem DE:bF ["self","start","row","done","number","inside","many","piece"] ["self","start","row"] (aY (Fn.st .lU)):=fs
theorem zx(T:Txt A K mg):dU P w K mg base pq 2 (A.f .lU) (A.fd .lU) ["self","start","row"] (JE A):=by
 refine (T.fn .lU).ok DE (λvs H Q E h=>?_) (λgX B outer s H vs Q E hr h=>?_)
 ·obtain ⟨τ,c,m,k,_,_,rfl,_⟩:=h;rfl
 ·obtain ⟨τ,c,m,s0,gY,row,rfl,al,hc,hm,QU,hs0,YK,k⟩:=h;have hu:=jJ hr
  refine ⟨_,ao (bY (i:=3) DE.nd rfl (bh rfl) bq)
   (aF (rO PassesOwn.never (dz rS (pv 3) (cF cQ rfl T.mK.len cH (aa (pv 2) aA)) (dH _))
    (ao (bY (i:=4) DE.nd rfl (bh rfl) (bW uo (bW fM (pv 1) (pv 3)) (pk 4096 T)))
    (ao (bY (i:=5) DE.nd rfl (bh rfl) (bW AL (bW fM (pv 1) (pv 3)) (pk 4096 T)))
    (ao (bY (i:=6) DE.nd rfl (bh rfl) (cF (zU rfl) rfl T.mK.min yy (aa (bW gj (pk 4096 T) (pv 5)) (aa (bW gj (cF cQ rfl T.mK.len cH (aa (pv 2) aA)) (pv 3)) aA))))
    (ao (bY (i:=7) DE.nd rfl (bh rfl) (bK (pv 0) (T.cls .bQ) (T.me .lV .bQ rfl rfl) (zy T) hr (T.bn .lV) .nil c_ (aa (pv 4) aA)))
    (ao (nA hu (bz (pv 0) rfl) (pv 4) (bW wI (bW wI (kT qf (pv 7) wH (jf (pv 5))) (kT qf (pv 2) (jf (pv 3)) (jf (bW fM (pv 3) (pv 6))))) (kT qf (pv 7) (jf (bW fM (pv 5) (pv 6))) wH)) rfl)
    (aF (xK (i:=3) DE.nd rfl (bh rfl) (pv 6) AR))))))))),?_⟩
  refine ⟨λmm σ H2=>∃(j:Nat) (v4 v5 v6 v7:Option V) (m2:iJ),σ=[some (.ref c),some (.int s0),some (.ref gY),some (.int j),v4,v5,v6,v7]/\j<=row.length/\mm=row.length-j/\
    dS (TC c) τ τ H H2/\fP A H2 τ c m2/\kD m2/\jD m2=wr (jD m) s0 (row.take j),
   ⟨_,0,none,none,none,none,m,rfl,bH _,rfl,.refl TC.no al,hc,hm,by rw[List.take_zero,O5]⟩,?_⟩
  rintro mm σ H2 ⟨j,v4,v5,v6,v7,m2,rfl,hj,rfl,S,wc,uJ,hw⟩;have Ld:=S.tup QU;refine ⟨_,rfl,_,rfl,gY,_,rfl,.inr (.of Ld),_,_,rfl,rfl,_,rfl,?_⟩;refine iP (λcd=>?_) (λcd=>?_)
  ·have pX:j<row.length:=by
    have:=of_decide_eq_true cd;rw[aj] at this;omega
   have hlen:((row.map V.int).length:Int)=row.length:=by rw[aj]
   obtain ⟨kk,Zj⟩:∃kk:Nat,(if (row.length:Int)-j<4096-(s0+j)%4096 then (row.length:Int)-j else 4096-(s0+j)%4096)=(kk:Int):=⟨(if (row.length:Int)-j<4096-(s0+j)%4096 then (row.length:Int)-j else 4096-(s0+j)%4096).toNat,by split<;>omega⟩
   have Q4:0<kk/\j+kk<=row.length/\(kk:Int)<=4096-(s0+j)%4096:=by split at Zj<;>omega
   refine ⟨λσ' H'=>∃(v4 v5 v6 v7:Option V) (m2:iJ),σ'=[some (.ref c),some (.int s0),some (.ref gY),some (.int ((j+kk:Nat):Int)),v4,v5,v6,v7]/\
    dS (TC c) τ τ H H'/\fP A H' τ c m2/\kD m2/\jD m2=wr (jD m) s0 (row.take (j+kk)),?_,?_⟩
   ·rintro σ' H' ⟨v4,v5,v6,v7,m3,rfl,S3,N6,Y9,hw3⟩;exact ⟨_,by omega,j+kk,v4,v5,v6,v7,m3,rfl,Q4.2.1,rfl,S3,N6,Y9,hw3⟩
   ·obtain ⟨dx,d,kvs,h1,h2,h3,t1,t2⟩:=wc.ex;refine ⟨_,rfl,_,rfl,_,_,rfl,rfl,_,_,rfl,rfl,⟨by decide,by decide⟩,?_⟩;refine ⟨_,rfl,_,rfl,_,_,rfl,rfl,_,_,rfl,rfl,(by show (0:Int)<4096;decide),?_⟩;refine ⟨_,rfl,_,_,rfl,rfl,_,rfl,gY,_,rfl,.inr (.of Ld),_,rfl,_,_,rfl,rfl,_,_,rfl,?_⟩;refine ⟨_,rfl,c,dx,_,rfl,h1,rfl,_,rfl,τ,c,m2,_,rfl,wc,λH3 t s3 ht=>?_⟩;rw[hlen,Zj];have hp:=uh uJ ((s0+(j:Int))/4096);have hi0:0<=((s0+(j:Int))%4096):=by omega
    refine ⟨_,rfl,_,rfl,_,rfl,t,_,rfl,ht,λp1 H4 L1=>?_⟩;have UE:=L1.same _ _ (s3 _ _ Ld);refine ⟨_,rfl,_,rfl,_,rfl,_,rfl,_,rfl,_,_,rfl,rfl,_,rfl,gY,_,rfl,UE,λp2 H5 L2=>?_⟩;have e1:o8 ((oW m2 ((s0+(j:Int))/4096)).map V.int) none (some ((s0+(j:Int))%4096))=((oW m2 ((s0+(j:Int))/4096)).take ((s0+(j:Int))%4096).toNat).map V.int:=by rw[LL hi0,rK]
    have e2:o8 (row.map V.int) (some (j:Int)) (some ((j:Int)+kk))=((row.drop j).take kk).map V.int:=by
     rw[vp (by omega) (by omega),r6,rK];have a1:(j:Int).toNat=j:=by omega
     have a2:((j:Int)+kk-j).toNat=kk:=by omega
     rw[a1,a2]
    refine ⟨p1,p2,_,_,rfl,rfl,L2.same _ _ L1.at_,L2.at_,?_,λp3 H6 L3=>?_⟩
    ·rw[e1,e2,aj,aj,bS,bS,b_];exact dR (big (by omega))
    have ht6:=L3.same _ _ (L2.same _ _ (L1.same _ _ ht));refine ⟨_,rfl,_,rfl,_,rfl,_,_,rfl,rfl,_,rfl,t,_,rfl,ht6,λp4 H7 L4=>?_⟩
    have e3:o8 ((oW m2 ((s0+(j:Int))/4096)).map V.int) (some (((s0+(j:Int))%4096)+kk)) none=((oW m2 ((s0+(j:Int))/4096)).drop (((s0+(j:Int))%4096).toNat+kk)).map V.int:=by
     rw[LK (by omega),r6,show (((s0+(j:Int))%4096)+kk).toNat=((s0+(j:Int))%4096).toNat+kk by omega]
    refine ⟨p3,p4,_,_,rfl,rfl,L4.same _ _ L3.at_,L4.at_,?_,λp5 H8 L5=>?_⟩
    ·rw[e1,e2,e3,aE,aj,aj,aj,bS,bS,b_,b_];exact dR (big (by omega))
    have s8:cY H2 H8:=((((s3.trans L1.same).trans L2.same).trans L3.same).trans L4.same).trans L5.same;have S8:dS (TC c) τ τ H H8:=S.trans (.same TC.no S.gW s8)
    have h5:H8 p5=some (.tup (((oW m2 ((s0+(j:Int))/4096)).take ((s0+(j:Int))%4096).toNat++(row.drop j).take kk++(oW m2 ((s0+(j:Int))/4096)).drop (((s0+(j:Int))%4096).toNat+kk)).map V.int)):=by
     rw[L5.at_,e1,e2,e3,aG,aG]
    refine ⟨_,rfl,c,_,dx,_,_,rfl,s8 _ _ h1,T.cls .bQ,T.na .bQ "pieces" (by decide),rfl,_,rfl,d,_,rfl,vv.k (k:=aW ((s0+(j:Int))/4096)) (s8 _ _ h2) ?_,?_⟩
    ·rw[h3.len];exact big (by have:=uJ.len;omega)
    obtain ⟨S9,C9⟩:=fP.put (k:=((s0+(j:Int))/4096)) (A:=A) S8.gW (s8 _ _ h1) (s8 _ _ h2) (h3.imp (Gx.mono λ_ _=>s8 _ _)) t1 t2 h5;refine ⟨_,rfl,_,rfl,_,_,rfl,rfl,_,_,_,_,_,rfl,S8.trans S9,C9,?_,?_⟩
    ·refine uJ.put (by omega) (by omega) ?_;rw[aE,aE,bS,bS,b_,b_,hp];omega
    ·have l1:((row.drop j).take kk).length=kk:=by rw[bS,b_];omega
     have:=Hs uJ (at_:=s0+j) (row:=(row.drop j).take kk) (by omega) (by rw[l1];omega);rw[l1] at this;rw[this,hw];have l2:((row.take j).length:Int)=j:=by rw[bS];omega
     rw[<-l2,O6];congr 1;rw[List.take_add]
  ·have Ws:row.length<=j:=by
    have:¬_:=λz=>cd (decide_eq_true z);rw[aj] at this;omega
   rw[b8 Ws] at hw;exact k H2 m2 S wc uJ hw
end
end Rm
namespace Rm
open PySem L2
def rd(f:Int->Int)(s:Int)(n:Nat):List Int:=(bX n).map λ(j:Nat)=>f (s+j)
theorem DJ(f:Int->Int)(s:Int)(n:Nat):(rd f s n).length=n:=by unfold rd;simp
theorem Qg(f:Int->Int)(s:Int)(a b:Nat):rd f s (a+b)=rd f s a++rd f (s+a) b:=by
 unfold rd;rw[List.range_add,aG,ay];congr 1;refine aN λj _=>?_;show f (s+((a+j:Nat):Int))=f (s+a+j);congr 1;omega
theorem JS{m:iJ}(h:kD m){s:Int}{n:Nat}(hn:(n:Int)<=4096-s%4096):((oW m (s/4096)).drop (s%4096).toNat).take n=rd (jD m) s n:=by
 have hp:=uh h (s/4096);refine List.ext_getElem? λj=>?_;unfold rd;rw[lJ,cu]
 by_cases c:j<n
 ·rw[if_pos c,lK,nZ c,Option.map_some,Kd];have e1:(s+(j:Int))/4096=s/4096:=by omega
  have e2:((s+(j:Int))%4096).toNat=(s%4096).toNat+j:=by omega
  rw[e1,e2,bA];have hl:(s%4096).toNat+j<(oW m (s/4096)).length:=by omega
  rw[cM hl];rfl
 ·rw[if_neg c,jR (by rw[kg];omega)];rfl
section
variable{P:Program}{w:World}{K:au}{mg:Str->Option Value}{base:Heap}{A:gI}
def MW(A:gI):Sp:=λvs H Q _=>∃(τ:Tg) (c:Addr) (m:iJ) (s:Int) (n:Nat),vs=[.ref c,.int s,.int n]/\fP A H τ c m/\kD m/\n<=4096/\
 ∀(H':Hp) (l:Addr),cY H H'->H l=none->H' l=some (.lst ((rd (jD m) s n).map V.int))->Q (.ref l) H'
theorem Nb:bF ["self","start","many","row","number","inside"] ["self","start","many"] (aY (Fn.st .qM)):=fs
theorem KO(T:Txt A K mg):dU P w K mg base pq 2 (A.f .qM) (A.fd .qM) ["self","start","many"] (MW A):=by
 refine (T.fn .qM).ok Nb (λvs H Q E h=>?_) (λgX B outer s H vs Q E hr h=>?_)
 ·obtain ⟨τ,c,m,k,_,rfl,_⟩:=h;rfl
 ·obtain ⟨τ,c,m,s0,n,rfl,hc,hm,hn,k⟩:=h;have hu:=jJ hr
  refine ⟨_,ao (bY (i:=3) Nb.nd rfl (bh rfl) (fy aA))
   (ao (rO PassesOwn.never (dz rS (cF cQ rfl T.mK.len cH (aa (pv 3) aA)) (pv 2) (dH _))
    (ao (bY (i:=4) Nb.nd rfl (bh rfl) (bW uo (bW fM (pv 1) (cF cQ rfl T.mK.len cH (aa (pv 3) aA))) (pk 4096 T)))
    (ao (bY (i:=5) Nb.nd rfl (bh rfl) (bW AL (bW fM (pv 1) (cF cQ rfl T.mK.len cH (aa (pv 3) aA))) (pk 4096 T)))
    (aF (bV (pJ cJ gD jb FN (pv 3)
     (aa (kT qf (bK (pv 0) (T.cls .bQ) (T.me .lV .bQ rfl rfl) (zy T) hr (T.bn .lV) .nil c_ (aa (pv 4) aA)) (jf (pv 5)) (jf (bW gj (bW fM (pv 5) (pv 2)) (cF cQ rfl T.mK.len cH (aa (pv 3) aA))))) aA)))))))
   (aF (bT (pv 3)))),?_⟩
  refine ⟨bH _,λl hl=>?_⟩
  refine ⟨λmm σ H2=>∃(j:Nat) (v4 v5:Option V),σ=[some (.ref c),some (.int s0),some (.int n),some (.ref l),v4,v5]/\j<=n/\mm=n-j/\cY H H2/\H2 l=some (.lst ((rd (jD m) s0 j).map V.int)),
   ⟨_,0,none,none,rfl,bH _,rfl,aX hl,ak⟩,?_⟩
  rintro mm σ H2 ⟨j,v4,v5,rfl,hj,rfl,s2,tV⟩;have hlen:(((rd (jD m) s0 j).map V.int).length:Int)=j:=by rw[aj,DJ]
  refine ⟨_,rfl,l,_,rfl,.inl (.of tV),_,rfl,_,_,rfl,rfl,_,rfl,?_⟩;rw[hlen];refine iP (λcd=>?_) (λcd=>?_)
  ·have pX:j<n:=by
    have:=of_decide_eq_true cd;omega
   have wc:=hc.same s2;obtain ⟨dx,d,kvs,h1,h2,h3,t1,t2⟩:=wc.ex;obtain ⟨kk,Zj⟩:∃kk:Nat,(kk:Int)=min ((n:Int)-j) (4096-(s0+j)%4096):=⟨(min ((n:Int)-j) (4096-(s0+j)%4096)).toNat,by omega⟩
   refine ⟨λσ' H'=>∃(v4 v5:Option V),σ'=[some (.ref c),some (.int s0),some (.int n),some (.ref l),v4,v5]/\cY H H'/\H' l=some (.lst ((rd (jD m) s0 (j+kk)).map V.int)),?_,?_⟩
   ·rintro σ' H' ⟨v4,v5,rfl,s3,wQ⟩;exact ⟨_,by omega,j+kk,v4,v5,rfl,by omega,rfl,s3,wQ⟩
   ·refine ⟨_,rfl,_,rfl,l,_,rfl,.inl (.of tV),_,_,rfl,rfl,_,_,rfl,rfl,⟨by decide,by decide⟩,?_⟩;refine ⟨_,rfl,_,rfl,l,_,rfl,.inl (.of tV),_,_,rfl,rfl,_,_,rfl,rfl,(by show (0:Int)<4096;decide),?_⟩;rw[hlen];refine ⟨_,rfl,.inl ⟨rfl,_,.of tV⟩,_,rfl,c,dx,_,rfl,h1,rfl,_,rfl,τ,c,m,_,rfl,wc,λH3 t s3 ht=>?_⟩;have wQ:=s3 _ _ tV;refine ⟨_,rfl,_,rfl,_,rfl,_,rfl,_,_,rfl,rfl,_,rfl,l,_,rfl,.inl (.of wQ),_,_,rfl,rfl,_,rfl,t,_,rfl,ht,λp H4 L=>?_⟩
    have e1:o8 ((oW m ((s0+(j:Int))/4096)).map V.int) (some ((s0+(j:Int))%4096)) (some ((s0+(j:Int))%4096+n-(((rd (jD m) s0 j).map V.int).length:Int)))=(rd (jD m) (s0+j) kk).map V.int:=by
     rw[hlen,vp (by omega) (by omega),r6,rK,<-JS hm (s:=s0+j) (n:=kk) (by omega)];have hp:=uh hm ((s0+(j:Int))/4096);congr 1
     by_cases c1:(n:Int)-j<=4096-(s0+j)%4096
     ·congr 1;omega
     ·rw[b8 (by rw[b_];omega),b8 (by rw[b_];omega)]
    have Rf:=L.at_;rw[e1] at Rf;refine ⟨l,p,_,_,rfl,rfl,L.same _ _ wQ,Rf,?_,?_⟩
    ·rw[aj,aj,DJ,DJ];exact dR (big (by omega))
    ·refine ⟨_,_,rfl,λb o e=>?_,?_⟩
     ·rw[az (aQ e hl)];exact L.same _ _ (s3 _ _ (s2 _ _ e))
     ·rw[ak,Qg,aG]
  ·have Ws:j=n:=by
    have:¬_:=λz=>cd (decide_eq_true z);omega
   subst Ws;exact ⟨_,rfl,k H2 l s2 hl tV⟩
end
end Rm
namespace Rm
open PySem L2
theorem Ke{m:iJ}{k:Int}(x:Int):jD (jj m k) x=if x/4096=k then 0 else jD m x:=by
 unfold jD;rw[p_]
 by_cases h:x/4096=k
 ·rw[if_pos h,if_pos h]
 ·rw[if_neg h,if_neg h]
theorem Ht{m:iJ}{k:Int}{p:List Int}(hv:bM m k=some p)(hp:p.length=4096){a b:Nat}(Ww:a<=b)(hb:b<=4096)(x:Int):
  jD (dY m k (p.take a++bJ (b-a) 0++p.drop b)) x=if x/4096=k/\a<=(x%4096).toNat/\(x%4096).toNat<b then 0 else jD m x:=by
 unfold jD;rw[fW]
 by_cases h:x/4096=k
 ·rw[if_pos h,h,hv];dsimp only;simp only[bA,true_and];have e1:(p.take a).length=a:=by rw[bS];omega
  by_cases c1:(x%4096).toNat<a
  ·rw[if_neg (by omega),cD,gz (by omega),lJ,if_pos c1]
  ·by_cases c2:(x%4096).toNat<b
   ·rw[if_pos (by omega),gz (by rw[aE,e1,eu];omega),gb (by omega),e1,lZ,if_pos (by omega)];rfl
   ·rw[if_neg (by omega),gb (by rw[aE,e1,eu];omega),aE,e1,eu,lK];have:b+((x%4096).toNat-(a+(b-a)))=(x%4096).toNat:=by omega
    rw[this]
 ·rw[if_neg h,if_neg (by omega)]
section
variable{P:Program}{w:World}{K:au}{mg:Str->Option Value}{base:Heap}{A:gI}
def JH(A:gI):Sp:=λvs H Q _=>∃(τ:Tg) (c:Addr) (m:iJ) (s e:Int),vs=[.ref c,.int s,.int e]/\Al τ H/\fP A H τ c m/\kD m/\s<=e/\
 ∀(H':Hp) (m':iJ),dS (TC c) τ τ H H'->fP A H' τ c m'->kD m'->jD m'=bl (jD m) s e->Q .kq H'
theorem DF:bF ["self","start","end","number","piece","first","ahead","behind","gone"] ["self","start","end"] (aY (Fn.st .kJ)):=fs
theorem u_(T:Txt A K mg):dU P w K mg base pq 1 (A.f .kJ) (A.fd .kJ) ["self","start","end"] (JH A):=by
 refine (T.fn .kJ).ok DF (λvs H Q E h=>?_) (λgX B outer s H vs Q E hr h=>?_)
 ·obtain ⟨τ,c,m,_,_,rfl,_⟩:=h;rfl
 ·obtain ⟨τ,c,m,s0,e0,rfl,al,hc,hm,hse,k⟩:=h;have hu:=jJ hr
  refine ⟨_,aF (jY PassesOwn.never rfl (iV (sD (Eu rfl) rfl T.mK.list oJ (aa (bz (pv 0) rfl) aA))) (dB (i:=3) DF.nd rfl (bh rfl))<|
   ao (bY (i:=4) DF.nd rfl (bh rfl) (ig hu (bz (pv 0) rfl) (pv 3) (λ_ _=>rfl)))<|
   ao (bY (i:=5) DF.nd rfl (bh rfl) (bW lR (pv 3) (pk 4096 T)))<|
   ao (bY (i:=6) DF.nd rfl (bh rfl) (kT qf (pv 4) wH (jf (cF (kC rfl) rfl T.mK.max eX (aa (bW gj (pv 1) (pv 5)) (aa bq aA))))))<|
   ao (bY (i:=7) DF.nd rfl (bh rfl) (kT qf (pv 4) (jf (cF (kC rfl) rfl T.mK.max eX (aa (bW gj (pv 2) (pv 5)) (aa bq aA)))) wH))<|
   ao (bY (i:=8) DF.nd rfl (bh rfl) (bW gj (bW gj (pk 4096 T) (cF cQ rfl T.mK.len cH (aa (pv 6) aA))) (cF cQ rfl T.mK.len cH (aa (pv 7) aA))))<|
   aF (fC (dz lA (pv 8) (pk 4096 T) (dH _)) (aF (bV (xO (bz (pv 0) rfl) (pv 3) ⟨rfl,rfl,rfl,rfl⟩)))
    (aF (fC (dz pK (pv 8) bq (dH _)) (aF (nA hu (bz (pv 0) rfl) (pv 3) (bW wI (bW wI (pv 6) (bW Fw (k_ (aa bq aA)) (pv 8))) (pv 7)) rfl)) cZ)))),?_⟩
  obtain ⟨dx,d,kvs,h1,h2,h3,t1,t2⟩:=hc.ex;refine ⟨_,rfl,c,_,dx,_,_,rfl,h1,T.cls .bQ,T.na .bQ "pieces" (by decide),rfl,d,_,rfl,h2,λl hl=>?_⟩;rw[h3.Up];have S1:dS (TC c) τ τ H (upd H l (.lst ((m.map (·.1)).map V.int))):=.new TC.no al hl;have nF:upd H l (.lst ((m.map (·.1)).map V.int)) l=some (.lst ((m.map (·.1)).map V.int)):=ak;have Lq:fP A (upd H l (.lst ((m.map (·.1)).map V.int))) τ c m:=hc.same (aX hl);generalize upd H l (.lst ((m.map (·.1)).map V.int))=H1 at S1 nF Lq
  refine ⟨l,rfl,⟨_,.of nF⟩,j8 (K:=K) (a:=l) (xs:=(m.map (·.1)).map V.int) (λi σ H2=>∃(v3 v4 v5 v6 v7 v8:Option V) (m2:iJ),σ=[some (.ref c),some (.int s0),some (.int e0),v3,v4,v5,v6,v7,v8]/\
    dS (TC c) τ τ H1 H2/\fP A H2 τ c m2/\kD m2/\(∀k,k∉(m.map (·.1)).take i->bM m2 k=bM m k)/\(∀x,jD m2 x=if s0<=x/\x<e0/\x/4096∈(m.map (·.1)).take i then 0 else jD m x))
   ⟨none,none,none,none,none,none,m,rfl,.refl TC.no S1.gW,Lq,hm,λ_ _=>rfl,λx=>by simp⟩ (λi σ H2 _ ⟨_,_,_,_,_,_,_,_,S2,_⟩=>.of (S2.kp (al.fresh hl) TC.no nF)) ?_ ?_⟩
  ·rintro i y σ H2 hi ⟨v3,v4,v5,v6,v7,v8,m2,rfl,S2,wc,uJ,Lb,CY⟩;obtain ⟨n,hn,rfl⟩:=ints_get hi;have tk:(m.map (·.1)).take (i+1)=(m.map (·.1)).take i++[n]:=by rw[cN,hn];rfl
   have hnm:n∈m.map (·.1):=cA hn
   have hnt:n∉(m.map (·.1)).take i:=λz=>by
    obtain ⟨j,hj⟩:=EI.mp z;rw[lJ] at hj;split at hj
    ·have:=Uj hm.nd hj hn;omega
    ·cases hj
   obtain ⟨p,hp⟩:∃p,bM m2 n=some p:=by
    rw[Lb n hnt];exact Ag.mp (vC.mpr hnm)
   obtain ⟨p0,p1,Ho⟩:0<=n/\n<262144/\p.length=4096:=uJ.ok _ (eN hp);obtain ⟨dx,d,kvs,h1,h2,h3,t1,t2⟩:=wc.ex;obtain ⟨v,e1,t,rfl,ht⟩:=h3.here hp;have g1:=mL.k (k:=aW n) h2;rw[e1] at g1;refine ⟨_,rfl,c,_,dx,_,_,rfl,h1,T.cls .bQ,T.na .bQ "pieces" (by decide),rfl,_,rfl,d,_,rfl,g1,?_⟩;refine ⟨_,rfl,_,_,rfl,rfl,.inr ⟨by decide,by decide⟩,?_⟩;refine ⟨_,rfl,_,rfl,_,rfl,_,_,rfl,rfl,_,_,rfl,_,rfl,t,_,rfl,ht,λq1 H3 L1=>?_⟩;refine ⟨_,rfl,_,rfl,_,rfl,_,_,rfl,rfl,_,_,rfl,_,rfl,t,_,rfl,L1.same _ _ ht,λq2 H4 L2=>?_⟩;have f1:=L2.same _ _ L1.at_;have f2:=L2.at_;obtain ⟨a,ha⟩:∃a:Nat,(if (0:Int)>s0-n*4096 then 0 else s0-n*4096)=(a:Int):=⟨(if (0:Int)>s0-n*4096 then 0 else s0-n*4096).toNat,by split<;>omega⟩
   obtain ⟨b,hb⟩:∃b:Nat,(if (0:Int)>e0-n*4096 then 0 else e0-n*4096)=(b:Int):=⟨(if (0:Int)>e0-n*4096 then 0 else e0-n*4096).toNat,by split<;>omega⟩
   rw[ha,LL (by omega),rK,aU] at f1;rw[hb,LK (by omega),r6,aU] at f2;have s4:cY H2 H4:=L1.same.trans L2.same;have la:(((p.take a).map V.int).length:Int)=min a 4096:=by rw[aj,bS,Ho]
   have lb:(((p.drop b).map V.int).length:Int)=4096-min b 4096:=by rw[aj,b_,Ho];omega
   have S4:dS (TC c) τ τ H1 H4:=S2.trans (.same TC.no S2.gW s4)
   have qX:∀m3:iJ,(∀k,k≠n->bM m3 k=bM m2 k)->(∀x,jD m3 x=if x/4096=n/\s0<=x/\x<e0 then 0 else jD m2 x)->
     (∀k,k∉(m.map (·.1)).take (i+1)->bM m3 k=bM m k)/\(∀x,jD m3 x=if s0<=x/\x<e0/\x/4096∈(m.map (·.1)).take (i+1) then 0 else jD m x):=λm3 q1 q2=>by
    refine ⟨λk hk=>?_,λx=>?_⟩
    ·rw[tk] at hk;rw[q1 k λz=>hk (by rw[z];simp),Lb k λz=>hk (by simp [z])]
    ·rw[q2 x,CY x,tk]
     by_cases c1:x/4096=n
     ·by_cases c2:s0<=x/\x<e0
      ·rw[if_pos ⟨c1,c2⟩,if_pos ⟨c2.1,c2.2,by rw[c1];simp⟩]
      ·rw[if_neg λz=>c2 z.2,if_neg λz=>c2 ⟨z.1,z.2.1⟩,if_neg λz=>c2 ⟨z.1,z.2.1⟩]
     ·rw[if_neg λz=>c1 z.1];have:x/4096∈(m.map (·.1)).take i++[n]↔x/4096∈(m.map (·.1)).take i:=by simp [c1]
      simp only[this]
   refine ⟨_,rfl,q1,_,rfl,.inr (.of f1),_,_,rfl,rfl,_,rfl,q2,_,rfl,.inr (.of f2),_,_,rfl,rfl,?_⟩;rw[la,lb];have Ww:a<=b:=by split at ha<;>split at hb<;>omega
   have hs:∀x:Int,x/4096=n->(s0<=x↔(a:Int)<=x%4096):=λx hx=>by split at ha<;>omega
   have he:∀x:Int,x/4096=n->(x<e0↔x%4096<(b:Int)):=λx hx=>by split at hb<;>omega
   have Co:=s4 _ _ h1;have N_:=s4 _ _ h2;have WA:gy (Gx H4) kvs m2:=h3.imp (Gx.mono λ_ _=>s4 _ _);refine ⟨_,rfl,rfl,_,rfl,?_⟩;refine iP (λc1=>?_) (λc1=>?_)
   ·have A5:(4096:Int)-((min a 4096:Nat):Int)-(4096-((min b 4096:Nat):Int))=4096:=by
     exact V.int.inj (of_decide_eq_true c1)
    obtain ⟨S5,C5⟩:=fP.pop (k:=n) (A:=A) S4.gW Co N_ WA t1 t2
    obtain ⟨g3,g4⟩:=qX (jj m2 n) (λk hk=>by rw[p_,if_neg hk]) (λx=>by
     rw[Ke]
     by_cases hx:x/4096=n
     ·have:=hs x hx;have:=he x hx;rw[if_pos hx,if_pos (by omega)]
     ·rw[if_neg hx,if_neg λz=>hx z.1])
    refine ⟨_,rfl,c,_,dx,_,_,rfl,Co,T.cls .bQ,T.na .bQ "pieces" (by decide),rfl,d,rfl,.inl ⟨_,.inl N_⟩,_,rfl,kvs,aW n,_,N_,rfl,e1,?_⟩;exact ⟨_,_,_,_,_,_,_,rfl,S4.trans S5,C5,uJ.drop,g3,g4⟩
   ·have A5:¬(4096:Int)-((min a 4096:Nat):Int)-(4096-((min b 4096:Nat):Int))=4096:=λz=>c1 (decide_eq_true (congrArg V.int z));refine ⟨_,rfl,_,_,rfl,rfl,_,rfl,?_⟩;refine iP (λc2=>?_) (λc2=>?_)
    ·have Io:0<(4096:Int)-((min a 4096:Nat):Int)-(4096-((min b 4096:Nat):Int)):=of_decide_eq_true c2;have Wx:a<=4096:=by omega
     obtain ⟨g,hg⟩:∃g:Nat,(4096:Int)-((min a 4096:Nat):Int)-(4096-((min b 4096:Nat):Int))=g:=⟨min b 4096-a,by omega⟩
     have hgv:(λi j:Int=>V.int (i-j)) (4096-((min a 4096:Nat):Int)) (4096-((min b 4096:Nat):Int))=V.int g:=congrArg V.int hg;rw[hgv];refine ⟨_,rfl,(by show 1<=sizeLine;decide),λt0 YD=>?_⟩;have s5:cY H4 (upd H4 t0 (.tup [.int 0])):=aX YD;refine ⟨_,rfl,t0,_,_,rfl,rfl,ak,by simp,by omega,by omega,?_,λq3 H6 L3=>?_⟩
     ·show 1*(g:Int).toNat<=sizeLine;exact dR (big (by omega))
     have s6:cY H4 H6:=s5.trans L3.same;have z1:(bJ (g:Int).toNat [V.int 0]).flatten=(bJ g (0:Int)).map V.int:=by rw[vU,Jb,aU]
     have f3:=L3.at_;rw[z1] at f3;refine ⟨q1,q3,_,_,rfl,rfl,s6 _ _ f1,f3,?_,λq4 H7 L4=>?_⟩
     ·rw[aj,aj,bS,eu];exact dR (big (by omega))
     refine ⟨_,rfl,q4,q2,_,_,rfl,rfl,L4.at_,L4.same _ _ (s6 _ _ f2),?_,λq5 H8 L5=>?_⟩
     ·rw[aE,aj,aj,aj,bS,eu,b_];exact dR (big (by omega))
     have s8:cY H4 H8:=(s6.trans L4.same).trans L5.same
     have f5:H8 q5=some (.tup ((p.take a++bJ (min b 4096-a) 0++p.drop (min b 4096)).map V.int)):=by
      rw[L5.at_,aG,aG];have:g=min b 4096-a:=by omega
      rw[this]
      have:p.drop b=p.drop (min b 4096):=by
       by_cases hb4:b<=4096
       ·rw[lI hb4]
       ·rw[q_ (by omega),jH (by omega),jH (by omega)]
      rw[this]
     have S8:dS (TC c) τ τ H1 H8:=S4.trans (.same TC.no S4.gW s8);obtain ⟨S9,C9⟩:=fP.put (k:=n) (A:=A) S8.gW (s8 _ _ Co) (s8 _ _ N_) (WA.imp (Gx.mono λ_ _=>s8 _ _)) t1 t2 f5
     obtain ⟨g3,g4⟩:=qX (dY m2 n (p.take a++bJ (min b 4096-a) 0++p.drop (min b 4096))) (λk hk=>by rw[fW,if_neg hk]) (λx=>by
      rw[Ht hp Ho (by omega) (by omega)]
      by_cases hx:x/4096=n
      ·have q1:=hs x hx;have q2:=he x hx;have:(x/4096=n/\a<=(x%4096).toNat/\(x%4096).toNat<min b 4096)↔(x/4096=n/\s0<=x/\x<e0):=by omega
       simp only[this]
      ·rw[if_neg λz=>hx z.1,if_neg λz=>hx z.1])
     refine ⟨_,rfl,c,_,dx,_,_,rfl,s8 _ _ Co,T.cls .bQ,T.na .bQ "pieces" (by decide),rfl,_,rfl,d,_,rfl,vv.k (k:=aW n) (s8 _ _ N_) ?_,?_⟩
     ·rw[h3.len];exact big (by have:=uJ.len;omega)
     ·refine ⟨_,_,_,_,_,_,_,rfl,S8.trans S9,C9,uJ.put p0 p1 ?_,g3,g4⟩;rw[aE,aE,bS,eu,b_,Ho];omega
    ·have Io:¬0<(4096:Int)-((min a 4096:Nat):Int)-(4096-((min b 4096:Nat):Int)):=λz=>c2 (decide_eq_true z)
     obtain ⟨g3,g4⟩:=qX m2 (λk _=>rfl) (λx=>by
      by_cases hx:x/4096=n
      ·have q1:=hs x hx;have q2:=he x hx;rw[if_neg (by omega)]
      ·rw[if_neg λz=>hx z.1])
     exact ⟨_,_,_,_,_,_,_,rfl,S4,wc.same s4,uJ,g3,g4⟩
  ·rintro σ H2 ⟨v3,v4,v5,v6,v7,v8,m2,rfl,S2,wc,uJ,Lb,CY⟩;refine k H2 m2 (S1.trans S2) wc uJ (funext λx=>?_);rw[CY x,b8 (by rw[aj,aj,aj];exact aL _)];unfold bl
   by_cases c1:s0<=x/\x<e0
   ·rw[if_pos c1]
    by_cases c2:x/4096∈m.map (·.1)
    ·rw[if_pos ⟨c1.1,c1.2,c2⟩]
    ·rw[if_neg λz=>c2 z.2.2];unfold jD;rw[lz.mpr c2]
   ·rw[if_neg c1,if_neg λz=>c1 ⟨z.1,z.2.1⟩]
end
end Rm
namespace Rm
open PySem L2
abbrev RP:=Int×List Int
structure VH(f:Int->Int)(s:Int)(n:Nat)(ps:List RP):Prop where
 at_:∀x∈ps,0<=x.1/\x.1+x.2.length<=n/\∀j:Nat,j<x.2.length->x.2.getD j 0=f (s+x.1+j)
 cov:∀i:Nat,i<n->f (s+i)≠0->∃x∈ps,x.1<=(i:Int)/\(i:Int)<x.1+x.2.length
def CJ(H:Hp)(t:Addr)(x:RP):Prop:=∃q,H t=some (.tup [.int x.1,.ref q])/\H q=some (.tup (x.2.map V.int))
def Gy(H:Hp)(l:Addr)(ps:List RP):Prop:=∃ts:List Addr,H l=some (.lst (ts.map V.ref))/\Paired (CJ H) ts ps
theorem sA{H H':Hp}{ts:List Addr}{ps:List RP}(h:Paired (CJ H) ts ps)(f:∀a xs,H a=some (.tup xs)->H' a=some (.tup xs)):Paired (CJ H') ts ps:=
 Paired.K3 h λa x ⟨q,h1,h2⟩=>⟨q,f _ _ h1,f _ _ h2⟩
section
variable{P:Program}{w:World}{K:au}{mg:Str->Option Value}{base:Heap}{A:gI}
def JG(A:gI):Sp:=λvs H Q _=>∃(τ:Tg) (c:Addr) (m:iJ) (s:Int) (n:Nat),vs=[.ref c,.int s,.int n]/\fP A H τ c m/\kD m/\
 ∀(H':Hp) (l:Addr) (ps:List RP),cY H H'->H l=none->Gy H' l ps->ps.length<=262144->VH (jD m) s n ps->Q (.ref l) H'
theorem Hj:bF ["self","start","many","found","number","piece","first","part"] ["self","start","many"] (aY (Fn.st .mX)):=fs
theorem Hz(T:Txt A K mg):dU P w K mg base pq 1 (A.f .mX) (A.fd .mX) ["self","start","many"] (JG A):=by
 refine (T.fn .mX).ok Hj (λvs H Q E h=>?_) (λgX B outer s H vs Q E hr h=>?_)
 ·obtain ⟨τ,c,m,_,_,rfl,_⟩:=h;rfl
 ·obtain ⟨τ,c,m,s0,n,rfl,hc,hm,k⟩:=h;have hu:=jJ hr
  refine ⟨_,ao (bY (i:=3) Hj.nd rfl (bh rfl) (fy aA))<|
   ao (ue (jY PassesOwn.never rfl (uf (bz (pv 0) rfl)) (qh rfl (gm (dB (i:=4) Hj.nd rfl (bh rfl)) (gm (dB (i:=5) Hj.nd rfl (bh rfl)) nB)))<|
    ao (bY (i:=6) Hj.nd rfl (bh rfl) (bW lR (pv 4) (pk 4096 T)))<|
    ao (bY (i:=7) Hj.nd rfl (bh rfl) (kT qf (pv 5) (jf (cF (kC rfl) rfl T.mK.max eX (aa (bW gj (pv 1) (pv 6)) (aa bq aA))))
     (jf (cF (kC rfl) rfl T.mK.max eX (aa (bW gj (bW fM (pv 1) (pv 2)) (pv 6)) (aa bq aA))))))<|
    aF (fC (pH (pv 7) (λ_=>rfl)) (aF (bV (pJ cJ gE gC nM (pv 3)
     (aa (k_ (aa (cF (kC rfl) rfl T.mK.max eX (aa (bW gj (pv 6) (pv 1)) (aa bq aA))) (aa (pv 7) aA))) aA)))) cZ)))<|
   aF (bT (pv 3)),?_⟩
  obtain ⟨dx,d,kvs,h1,h2,h3,t1,t2⟩:=hc.ex;refine ⟨bH _,λl hl=>?_⟩;have Ui:d≠l:=aQ h2 hl;have ncl:c≠l:=aQ h1 hl;have OL:c≠d:=mh h1 h2 (by intro z;cases z);refine ⟨d,.dK kvs,(by rw[az Ui];exact h2),trivial,λod=>?_⟩
  have sT:∀t xs,H t=some (.tup xs)->upd (upd H l (.lst [])) d (.nG od (.dK kvs)) t=some (.tup xs):=λt xs e=>by
   rw[az (mh e h2 (by intro z;cases z)),az (aQ e hl)];exact e
  have XE:∀b o,H b=some o->b≠d->upd (upd H l (.lst [])) d (.nG od (.dK kvs)) b=some o:=λb o e nb=>by
   rw[az nb,az (aQ e hl)];exact e
  have C8:upd (upd H l (.lst [])) d (.nG od (.dK kvs)) d=some (.nG od (.dK kvs)):=ak;have nF:upd (upd H l (.lst [])) d (.nG od (.dK kvs)) l=some (.lst []):=by rw[az Ui.symm,ak]
  generalize upd (upd H l (.lst [])) d (.nG od (.dK kvs))=H1 at sT XE C8 nF
  refine ⟨_,rfl,c,_,dx,_,_,rfl,XE _ _ h1 OL,T.cls .bQ,T.na .bQ "pieces" (by decide),rfl,d,od,kvs,rfl,C8,zO (λi σ H2=>∃(v4 v5 v6 v7:Option V) (ts:List Addr) (ps:List RP),σ=[some (.ref c),some (.int s0),some (.int n),some (.ref l),v4,v5,v6,v7]/\
    sU l H1 H2/\H2 l=some (.lst (ts.map V.ref))/\Paired (CJ H2) ts ps/\ps.length<=i/\
    (∀x∈ps,0<=x.1/\x.1+x.2.length<=n/\∀j:Nat,j<x.2.length->x.2.getD j 0=jD m (s0+x.1+j))/\
    (∀i':Nat,i'<n->jD m (s0+i')≠0->(s0+i')/4096∈(m.take i).map (·.1)->∃x∈ps,x.1<=(i':Int)/\(i':Int)<x.1+x.2.length))
   ⟨none,none,none,none,[],[],rfl,.refl _ _,nF,.nil,aL _,(λx hx=>by cases hx),λi' _ _ hx=>by simp at hx⟩ (λi σ H2 ⟨_,_,_,_,_,_,_,b,_⟩=>b _ _ C8 Ui) ?_ ?_⟩
  ·rintro i kk v t σ H2 hi ht ⟨v4,v5,v6,v7,ts,ps,rfl,b,tV,OP,hlen,zH,N5⟩;obtain ⟨⟨nn,p⟩,Wq,Q4,q,rfl,hq⟩:=h3.get hi;obtain rfl:kk=aW nn:=Q4;obtain ⟨p0,p1,Ho⟩:0<=nn/\nn<262144/\p.length=4096:=hm.ok _ (cA Wq);have QL:bM m nn=some p:=d7 hm.nd (cA Wq);have Le:upd H2 t (.tup [kV (aW nn),.ref q]) q=some (.tup (p.map V.int)):=aX ht _ _ (b _ _ (sT _ _ hq) (mh (sT _ _ hq) nF (by intro z;cases z)));refine ⟨t,_,rfl,lW.of ak,rfl,_,_,rfl,_,_,rfl,rfl,?_⟩;refine ⟨_,rfl,_,_,rfl,rfl,.inr ⟨by decide,by decide⟩,?_⟩;refine ⟨_,rfl,_,rfl,_,rfl,_,_,rfl,rfl,_,_,rfl,_,rfl,_,rfl,_,rfl,_,_,rfl,rfl,_,rfl,_,_,rfl,rfl,_,_,rfl,_,rfl,q,_,rfl,Le,λq1 H3 L1=>?_⟩;have tk:(m.take (i+1)).map (·.1)=(m.take i).map (·.1)++[nn]:=by rw[cN,Wq,aG];rfl
   have f1:=L1.at_;obtain ⟨a,ha⟩:∃a:Nat,(if (0:Int)>s0-nn*4096 then 0 else s0-nn*4096)=(a:Int):=⟨(if (0:Int)>s0-nn*4096 then 0 else s0-nn*4096).toNat,by split<;>omega⟩
   obtain ⟨bb,hb⟩:∃b:Nat,(if (0:Int)>s0+n-nn*4096 then 0 else s0+n-nn*4096)=(b:Int):=⟨(if (0:Int)>s0+n-nn*4096 then 0 else s0+n-nn*4096).toNat,by split<;>omega⟩
   have Ww:a<=bb:=by split at ha<;>split at hb<;>omega
   rw[ha,hb,vp (by omega) (by omega),r6,rK,aU] at f1;have eab:((bb:Int)-a).toNat=bb-a:=by omega
   rw[eab] at f1;have s3:cY H2 H3:=(aX ht).trans L1.same;have wQ:=s3 _ _ tV;have Fi:((p.drop a).take (bb-a)).length=min (bb-a) (4096-a):=by rw[bS,b_,Ho]
   refine ⟨_,rfl,_,.inr (.inl ⟨_,.of f1,rfl⟩),?_⟩;refine iP (λc1=>?_) (λc1=>?_)
   ·have iG:0<((p.drop a).take (bb-a)).length:=by
     rw[IE];intro z;rw[z] at c1;cases c1
    obtain ⟨ah,Wv⟩:∃ah:Int,(if (0:Int)>nn*4096-s0 then 0 else nn*4096-s0)=ah:=⟨_,rfl⟩
    have e0:s0+ah=nn*4096+a:=by split at ha<;>split at Wv<;>omega
    have e1:0<=ah:=by split at Wv<;>omega
    refine ⟨_,rfl,.inl ⟨rfl,_,.of wQ⟩,_,rfl,_,rfl,_,_,rfl,rfl,_,_,rfl,_,rfl,(by show 2<=sizeLine;decide),λt1 QO=>?_⟩;rw[Wv];have nlt:l≠t1:=aQ wQ QO;refine ⟨l,_,_,rfl,rfl,(by rw[az nlt];exact wQ),big ?_,?_⟩
    ·have:=hm.len;have h4:=Paired.length OP;have h5:i<m.length:=(bR.mp Wq).1;rw[aj];omega
    have s4:cY H2 (upd H3 t1 (.tup [.int ah,.ref q1])):=s3.trans (aX QO);refine ⟨_,_,_,_,ts++[t1],ps++[(ah,(p.drop a).take (bb-a))],rfl,λb' o e nb=>?_,?_,?_,?_,?_,?_⟩
    ·rw[az nb];exact s4 _ _ (b _ _ e nb)
    ·rw[ak,aG];rfl
    ·have nt:∀x xs,upd H3 t1 (.tup [.int ah,.ref q1]) x=some (.tup xs)->upd (upd H3 t1 (.tup [.int ah,.ref q1])) l (.lst (ts.map V.ref++[V.ref t1])) x=some (.tup xs):=λx xs e=>by
      rw[az (mh e (show upd H3 t1 (.tup [.int ah,.ref q1]) l=some (.lst (ts.map V.ref)) by rw[az nlt];exact wQ) (by intro z;cases z))];exact e
     refine Paired.snoc (sA OP λx xs e=>nt _ _ (s4 _ _ e)) ⟨q1,nt _ _ ak,nt _ _ ?_⟩;exact aX QO _ _ f1
    ·rw[aE];simp;omega
    ·intro x hx;rcases bG.mp hx with hx|hx
     ·exact zH x hx
     ·have:x=(ah,(p.drop a).take (bb-a)):=by simpa using hx
      subst this;refine ⟨e1,?_,λj hj=>?_⟩
      ·show ah+(((p.drop a).take (bb-a)).length:Int)<=n;rw[Fi] at iG⊢;split at hb<;>omega
      ·have Q5:j<((p.drop a).take (bb-a)).length:=hj;rw[Fi] at Q5;show ((p.drop a).take (bb-a)).getD j 0=jD m (s0+ah+j);rw[e0];unfold jD;have z1:(nn*4096+(a:Int)+j)/4096=nn:=by omega
       have z2:((nn*4096+(a:Int)+j)%4096).toNat=a+j:=by omega
       rw[z1,QL,z2];dsimp only;rw[bA,bA,lJ,if_pos (by omega),lK]
    ·intro i' N1 hf hk;rw[tk] at hk;rcases bG.mp hk with hk|hk
     ·obtain ⟨x,hx,CY⟩:=N5 i' N1 hf hk;exact ⟨x,cK _ hx,CY⟩
     ·have NZ:(s0+(i':Int))/4096=nn:=by simpa using hk
      refine ⟨(ah,(p.drop a).take (bb-a)),by simp,?_,?_⟩
      ·show ah<=i';split at Wv<;>omega
      ·show (i':Int)<ah+(((p.drop a).take (bb-a)).length:Int);rw[Fi];split at hb<;>omega
   ·have hz:((p.drop a).take (bb-a)).length=0:=by
     cases e:(p.drop a).take (bb-a) with
     |nil=>rfl
     |cons x xs=>rw[e] at c1;exact absurd rfl c1
    rw[Fi] at hz;refine ⟨_,_,_,_,ts,ps,rfl,λb' o e nb=>s3 _ _ (b _ _ e nb),wQ,sA OP λx xs e=>s3 _ _ e,by omega,zH,?_⟩;intro i' N1 hf hk;rw[tk] at hk;rcases bG.mp hk with hk|hk
    ·exact N5 i' N1 hf hk
    ·have NZ:(s0+(i':Int))/4096=nn:=by simpa using hk
     exfalso;split at ha<;>split at hb<;>omega
  ·rintro σ H2 ⟨v4,v5,v6,v7,ts,ps,rfl,b,tV,OP,hlen,zH,N5⟩;have hd2:=b _ _ C8 Ui;refine ⟨hd2,_,rfl,k _ l ps ?_ hl ⟨ts,?_,?_⟩ ?_ ⟨zH,λi hi hf=>N5 i hi hf ?_⟩⟩
   ·intro b' o e
    by_cases hb:b'=d
    ·subst hb;rw[h2] at e;cases e;exact ak
    ·rw[az hb];exact b _ _ (XE _ _ e hb) (aQ e hl)
   ·rw[az Ui.symm];exact tV
   ·exact sA OP λa xs e=>by rw[az (mh e hd2 (by intro z;cases z))];exact e
   ·have:=hm.len;rw[<-h3.len] at this;omega
   ·rw[h3.len,ff];refine fH λz=>hf ?_;unfold jD;rw[lz.mpr z]
def MX(A:gI):Sp:=λvs H Q _=>∃(τ:Tg) (c:Addr) (m:iJ) (s:Int) (n:Nat) (l:Addr) (ps:List RP) (f0:Int->Int) (s0:Int),vs=[.ref c,.int s,.int n,.ref l]/\Al τ H/\fP A H τ c m/\kD m/\Gy H l ps/\τ l=.other/\VH f0 s0 n ps/\0<=s/\s+n<=1073741824/\
 ∀(H':Hp) (m':iJ),dS (TC c) τ τ H H'->fP A H' τ c m'->kD m'->(jD m'=λi=>if s<=i/\i<s+n then f0 (s0+(i-s)) else jD m i)->Q .kq H'
theorem P8:bF ["self","start","many","parts","ahead","part"] ["self","start","many","parts"] (aY (Fn.st .gT)):=fs
theorem KP(T:Txt A K mg):dU P w K mg base pq 3 (A.f .gT) (A.fd .gT) ["self","start","many","parts"] (MX A):=by
 refine (T.fn .gT).ok P8 (λvs H Q E h=>?_) (λgX B outer s H vs Q E hr h=>?_)
 ·obtain ⟨τ,c,m,_,_,_,_,_,_,rfl,_⟩:=h;rfl
 ·obtain ⟨τ,c,m,s1,n,l,ps,f0,s0,rfl,al,hc,hm,⟨ts,hl,OP⟩,tl,zH,hs0,YK,k⟩:=h;obtain ⟨dx,d,kvs,h1,h2,h3,t1,t2⟩:=hc.ex
  refine ⟨_,ao (bV (bK (pv 0) (T.cls .bQ) (T.me .kJ .bQ rfl rfl) (u_ T) (hr.mono (by decide)) (T.bn .kJ) .nil c_ (aa (pv 1) (aa (bW fM (pv 1) (pv 2)) aA))))<|
   aF (jY PassesOwn.never rfl (iV (pv 3)) (qh rfl (gm (dB (i:=4) P8.nd rfl (bh rfl)) (gm (dB (i:=5) P8.nd rfl (bh rfl)) nB)))<|
    aF (bV (bK (pv 0) (T.cls .bQ) (T.me .lU .bQ rfl rfl) (zx T) hr (T.bn .lU) .nil c_ (aa (bW fM (pv 1) (pv 4)) (aa (pv 5) aA))))),?_⟩
  refine ⟨_,rfl,c,dx,_,rfl,h1,rfl,_,rfl,_,rfl,_,rfl,_,_,rfl,rfl,τ,c,m,s1,s1+n,rfl,al,hc,hm,by omega,λH1 m1 S1 Lq hm1 U8=>?_⟩;have nF:=S1.kp tl TC.no hl;have YB:Paired (CJ H1) ts ps:=sA OP λ_ _=>S1.tup
  refine ⟨_,rfl,l,rfl,⟨_,.of nF⟩,j8 (K:=K) (a:=l) (xs:=ts.map V.ref) (λj σ H2=>∃(v4 v5:Option V) (m2:iJ),σ=[some (.ref c),some (.int s1),some (.int n),some (.ref l),v4,v5]/\
    dS (TC c) τ τ H1 H2/\fP A H2 τ c m2/\kD m2/\(∀i,¬(s1<=i/\i<s1+n)->jD m2 i=jD m i)/\
    (∀i,s1<=i->i<s1+n->((∃x∈ps.take j,x.1<=i-s1/\i-s1<x.1+x.2.length)->jD m2 i=f0 (s0+(i-s1)))/\(¬(∃x∈ps.take j,x.1<=i-s1/\i-s1<x.1+x.2.length)->jD m2 i=0)))
   ⟨none,none,m1,rfl,.refl TC.no S1.gW,Lq,hm1,λi hi=>?_,λi a b=>⟨λ⟨x,hx,_⟩=>by simp at hx,λ_=>?_⟩⟩ (λi σ H2 _ ⟨_,_,_,_,S2,_⟩=>.of (S2.kp (S1.tg tl hl) TC.no nF)) ?_ ?_⟩
  ·rw[U8];unfold bl;rw[if_neg hi]
  ·rw[U8];unfold bl;rw[if_pos ⟨a,b⟩]
  ·rintro j y σ H2 hj ⟨v4,v5,m2,rfl,S2,wc,uJ,Ec,IT⟩;obtain ⟨t,ht,rfl⟩:=lQ hj;obtain ⟨x,hx,q,hq1,Le⟩:=tM YB ht;obtain ⟨x0,x1,x2⟩:=zH.at_ x (cA hx);obtain ⟨dx,d,kvs,h1,h2,h3,t1,t2⟩:=wc.ex;have tk:ps.take (j+1)=ps.take j++[x]:=by rw[cN,hx];rfl
   refine ⟨t,_,rfl,lW.of (S2.tup hq1),rfl,_,_,rfl,_,_,rfl,rfl,?_⟩;refine ⟨_,rfl,c,dx,_,rfl,h1,rfl,_,rfl,_,rfl,_,_,rfl,rfl,_,rfl,τ,c,m2,_,q,x.2,rfl,S2.gW,wc,uJ,S2.tup Le,by omega,by omega,λH3 m3 S3 N6 Y9 Zs=>?_⟩;refine ⟨_,_,m3,rfl,S2.trans S3,N6,Y9,λi hi=>?_,λi a b=>?_⟩
   ·rw[Zs];unfold wr;rw[if_neg (by omega)];exact Ec i hi
   ·obtain ⟨g1,g2⟩:=IT i a b
    by_cases c1:s1+x.1<=i/\i<s1+x.1+x.2.length
    ·have hv:jD m3 i=f0 (s0+(i-s1)):=by
      rw[Zs];unfold wr;rw[if_pos c1,x2 _ (by omega)];congr 1;omega
     refine ⟨λ_=>hv,λz=>absurd ⟨x,by rw[tk];simp,by omega,by omega⟩ z⟩
    ·have hv:jD m3 i=jD m2 i:=by rw[Zs];unfold wr;rw[if_neg c1]
     rw[hv,tk];refine ⟨λ⟨y,hy,Ce⟩=>g1 ?_,λz=>g2 λ⟨y,hy,Ce⟩=>z ⟨y,cK _ hy,Ce⟩⟩;rcases bG.mp hy with hy|hy
     ·exact ⟨y,hy,Ce⟩
     ·have:y=x:=by simpa using hy
      subst this;exact absurd Ce (by omega)
  ·rintro σ H2 ⟨v4,v5,m2,rfl,S2,wc,uJ,Ec,IT⟩;have C7:ts.length=ps.length:=Paired.length OP;rw[aj,C7,ff] at IT;refine k H2 m2 (S1.trans S2) wc uJ (funext λi=>?_)
   by_cases c1:s1<=i/\i<s1+n
   ·rw[if_pos c1];obtain ⟨g1,g2⟩:=IT i c1.1 c1.2
    by_cases c2:∃x∈ps,x.1<=i-s1/\i-s1<x.1+x.2.length
    ·exact g1 c2
    ·rw[g2 c2];refine fH λz=>c2 ?_;have ei:(((i-s1).toNat:Nat):Int)=i-s1:=by omega
     obtain ⟨x,hx,CY⟩:=zH.cov (i-s1).toNat (by omega) (by rw[ei];exact λe=>z e.symm);rw[ei] at CY;exact ⟨x,hx,CY⟩
   ·rw[if_neg c1];exact Ec i c1
end
end Rm
namespace Rm
open Kg45 (State Run)
abbrev rowOf(r:Run):Nat×Nat:=(r.first,r.pages)
abbrev fB(s:State):List Row:=cV (s.runs.map rowOf)
structure b6(s:State):Prop where
 size:s.size<=16384
 yt:mP (cV s.free)
 fin:∀x,Mem (cV s.free) x->x<s.size
 sQ:∀r∈s.runs,0<r.pages/\r.first+r.pages<=s.size
 dj:s.runs.Pairwise λa b=>a.first+a.pages<=b.first\/b.first+b.pages<=a.first
 fr:∀r∈s.runs,∀x:Int,Mem (cV s.free) x->¬((r.first:Int)<=x/\x<((r.first+r.pages:Nat):Int))
theorem mG{l:List (Nat×Nat)}{q:Nat×Nat}(hq:q∈l){x:Int}(h1:(q.1:Int)<=x)(h2:x<((q.1+q.2:Nat):Int)):Mem (cV l) x:=⟨gQ q,aH hq,h1,h2⟩
theorem nL{l:List (Nat×Nat)}{p n:Nat}(hc:mP (cV l))(hn:0<n)(h:∀x:Int,Mem (cV l) x->¬((p:Int)<=x/\x<((p+n:Nat):Int))):∀q∈l,q.1+q.2<=p\/p+n<=q.1:=by
 intro q hq
 have Le:0<q.2:=by
  have:=hc.ne (gQ q) (aH hq);simp only[gQ] at this;omega
 refine fH λz=>?_;refine h ((max q.1 p:Nat):Int) (mG hq (by omega) (by omega)) ⟨by omega,by omega⟩
theorem b6.vm{s:State}(h:b6 s){x:Nat×Nat}(hx:x∈s.free):0<x.2/\x.1+x.2<=s.size:=by
 have h1:=h.yt.ne (gQ x) (aH hx);simp only[gQ] at h1;have h2:=h.fin ((x.1+x.2:Nat)-1) (mG hx (by omega) (by omega));omega
theorem Gp{l:List (Nat×Nat)}{N:Nat}(hc:mP (cV l))(h:∀x∈l,x.1+x.2<=N):l.length<=N:=by
 have hn:(l.map λx=>(x.1:Int)).Nodup:=by
  have:=hc.pw;have iG:=hc.ne;clear h hc
  induction l with
  |nil=>exact gP
  |cons a l ih=>
   have p:=dI.mp this;refine b9.mpr ⟨λhm=>?_,ih p.2 λr hr=>iG r (aB _ hr)⟩;obtain ⟨b,hb,e⟩:=aq.mp hm;have h1:=p.1 (gQ b) (aH hb);have h2:=iG (gQ a) aJ;simp only[gQ] at h1 h2;have e':(b.1:Int)=a.1:=e;omega
 have:=uq N _ hn (λk hk=>by
  obtain ⟨x,hx,rfl⟩:=aq.mp hk;have h1:=hc.ne (gQ x) (aH hx);simp only[gQ] at h1;have:=h x hx;omega)
 rw[aj] at this;exact this
theorem b6.ku{s:State}(h:b6 s):s.free.length<=16384:=cE (Gp h.yt λx hx=>(h.vm hx).2) h.size
theorem b6.o6{s:State}(h:b6 s):(s.runs.map λr=>(r.first:Int)).Nodup:=by
 have:=h.dj;have iG:=h.sQ;clear h;generalize s.runs=l at this iG
 induction l with
 |nil=>exact gP
 |cons a l ih=>
  have p:=dI.mp this;refine b9.mpr ⟨λhm=>?_,ih p.2 λr hr=>iG r (aB _ hr)⟩;obtain ⟨b,hb,e⟩:=aq.mp hm;have h1:=p.1 b hb;have h2:=iG a aJ;have h3:=iG b (aB _ hb);have e':(b.first:Int)=a.first:=e;omega
theorem b6.t9{s:State}(h:b6 s):s.runs.length<=16384:=by
 have:=uq 16384 _ h.o6 (λk hk=>by
  obtain ⟨r,hr,rfl⟩:=aq.mp hk;have h1:=h.sQ r hr;have:=h.size;omega)
 rw[aj] at this;exact this
theorem zj:∀(rs:List Run) (l:List (Nat×Nat)),mP (cV l)->(∀r∈rs,0<r.pages)->rs.Pairwise (λa b=>a.first+a.pages<=b.first\/b.first+b.pages<=a.first)->
  (∀r∈rs,∀x:Int,Mem (cV l) x->¬((r.first:Int)<=x/\x<((r.first+r.pages:Nat):Int)))->
  mP (cV (rs.foldl (λl r=>bP l (r.first,r.pages)) l))/\∀x,Mem (cV (rs.foldl (λl r=>bP l (r.first,r.pages)) l)) x↔Mem (cV l) x\/Mem (cV (rs.map rowOf)) x
 |[],l,hc,_,_,_=>⟨hc,λx=>by simp [iX]⟩
 |r::rs,l,hc,hn,hd,hf=>by
  have p:=dI.mp hd;have hr:=hn r aJ;obtain ⟨c1,m1⟩:=pO l (r.first,r.pages) hc hr (nL hc hr (hf r aJ))
  obtain ⟨c2,m2⟩:=zj rs (bP l (r.first,r.pages)) c1 (λq hq=>hn q (aB _ hq)) p.2 (λq hq x hx=>by
   have rj:=hn q (aB _ hq);rcases (m1 x).mp hx with hx|hx
   ·exact hf q (aB _ hq) x hx
   ·have:=p.1 q hq;simp only[gQ] at hx;omega)
  refine ⟨c2,λx=>?_⟩;rw[nP,m2 x,m1 x];simp only[cV,aI,mem_cons];rw[or_assoc]
theorem b6.rows{s:State}(h:b6 s):mP (cV s.rows)/\∀x,Mem (cV s.rows) x↔Mem (cV s.free) x\/Mem (fB s) x:=
 zj s.runs s.free h.yt (λr hr=>(h.sQ r hr).1) h.dj h.fr
theorem b6.own{s:State}(h:b6 s){gY:List Row}(hp:gY.Perm (fB s)):jn (cV s.free++gY)=cV s.rows:=by
 obtain ⟨c1,m1⟩:=h.rows
 have Wl:(cV (s.runs.map rowOf)).Pairwise λa b=>a.2<=b.1\/b.2<=a.1:=by
  rw[eU,eU];refine h.dj.imp λq=>?_;simp only[gQ];omega
 have Zu:Dj (cV s.free++gY):=by
  refine gO.mpr ⟨h.yt.pw.imp λq=>.inl (by omega),(hp.symm.pairwise_iff (λ{a b} q=>q.symm)).mp Wl,λa ha b hb=>?_⟩;obtain ⟨q,hq,rfl⟩:=aq.mp ha;obtain ⟨r',m9,rfl⟩:=aq.mp (hp.mem_iff.mp hb);obtain ⟨r,hr,rfl⟩:=aq.mp m9;have:=nL h.yt (h.sQ r hr).1 (h.fr r hr) q hq;simp only[gQ];omega
 obtain ⟨g1,g2⟩:=OO (l:=cV s.free++gY) (λq hq=>by
  rcases bG.mp hq with hq|hq
  ·exact h.yt.ne q hq
  ·obtain ⟨r',m9,rfl⟩:=aq.mp (hp.mem_iff.mp hq);obtain ⟨r,hr,rfl⟩:=aq.mp m9;have:=(h.sQ r hr).1;simp only[gQ];omega) Zu
 exact A4 g1 c1 λx=>by rw[g2 x,m1 x,mem_append,B_ hp]
theorem b6.Az{s:State}(h:b6 s):s.rows.length<=16384:=by
 obtain ⟨c1,m1⟩:=h.rows;refine cE (Gp (N:=s.size) c1 λx hx=>?_) h.size;have h1:=c1.ne (gQ x) (aH hx);simp only[gQ] at h1;rcases (m1 ((x.1+x.2:Nat)-1)).mp (mG hx (by omega) (by omega)) with z|⟨r',m9,z1,z2⟩
 ·have:=h.fin _ z;omega
 ·obtain ⟨r2,AY,rfl⟩:=aq.mp m9;obtain ⟨r,hr,rfl⟩:=aq.mp AY;have:=(h.sQ r hr).2;simp only[gQ] at z2;omega
theorem GX{s:State}{gY:List Row}(hp:gY.Perm (fB s)):(gY.map λq=>q.2-q.1).sum=(((s.runs.map Run.pages).sum:Nat):Int):=by
 have e:(gY.map λq=>q.2-q.1).Perm ((fB s).map λq=>q.2-q.1):=hp.map _
 have e2:∀{l m:List Int},l.Perm m->l.sum=m.sum:=λh=>by
  induction h with
  |nil=>rfl
  |cons x _ ih=>rw[fG,fG,ih]
  |swap x y l=>simp only[fG];omega
  |trans _ _ a b=>exact a.trans b
 rw[e2 e]
 have:∀l:List Run,(((cV (l.map rowOf)).map λq=>q.2-q.1).sum:Int)=(((l.map Run.pages).sum:Nat):Int):=by
  intro l
  induction l with
  |nil=>rfl
  |cons a l ih=>
   simp only[cV,aI,fG,gQ] at ih⊢;rw[ih];omega
 exact this s.runs
theorem b6.owns{s:State}(h:b6 s){p n:Nat}(hn:0<n):me (cV s.rows) p ((p+n:Nat):Int)=s.owns p n:=by
 obtain ⟨c1,m1⟩:=h.rows;have e1:=K2 (l:=cV s.rows) (f:=p) (e:=((p+n:Nat):Int)) (by omega) c1.ne
 have e2:s.owns p n=true↔∃x,Mem (cV s.rows) x/\(p:Int)<=x/\x<((p+n:Nat):Int):=by
  unfold Kg45.State.owns;rw[gv,dG,dG];constructor
  ·rintro (⟨q,hq,z⟩|⟨r,hr,z⟩)
   ·simp only[vV,aC,decide_eq_true_eq] at z;have:=(h.vm hq).1;exact ⟨((max q.1 p:Nat):Int),(m1 _).mpr (.inl (mG hq (by omega) (by omega))),by omega,by omega⟩
   ·simp only[vV,aC,decide_eq_true_eq] at z;have:=(h.sQ r hr).1;exact ⟨((max r.first p:Nat):Int),(m1 _).mpr (.inr (mG (q:=rowOf r) (aH hr) (by show (r.first:Int)<=_;omega) (by show _<((r.first+r.pages:Nat):Int);omega))),by omega,by omega⟩
  ·rintro ⟨x,hx,h1,h2⟩;rcases (m1 x).mp hx with ⟨q',oh,z1,z2⟩|⟨q',oh,z1,z2⟩
   ·obtain ⟨q,hq,rfl⟩:=aq.mp oh;simp only[gQ] at z1 z2;exact .inl ⟨q,hq,by simp only[vV,aC,decide_eq_true_eq];omega⟩
   ·obtain ⟨q2,Le,rfl⟩:=aq.mp oh;obtain ⟨r,hr,rfl⟩:=aq.mp Le;simp only[gQ] at z1 z2;exact .inr ⟨r,hr,by simp only[vV,aC,decide_eq_true_eq];omega⟩
 cases a:me (cV s.rows) p ((p+n:Nat):Int)<;>cases b:s.owns p n
 ·rfl
 ·rw[e1.mpr (e2.mp b)] at a;cases a
 ·rw[e2.mpr (e1.mp a)] at b;cases b
 ·rfl
theorem b6.FI{s:State}(h:b6 s){p n:Nat}(hn:0<n)(ho:s.owns p n=false):∀x,Mem (cV s.rows) x->¬((p:Int)<=x/\x<((p+n:Nat):Int)):=by
 obtain ⟨c1,m1⟩:=h.rows;rw[<-h.owns hn] at ho;intro x hx z;rw[(K2 (l:=cV s.rows) (by omega) c1.ne).mpr ⟨x,hx,z.1,z.2⟩] at ho;cases ho
end Rm
namespace Rm
open Kg45 (State Run)
theorem b6.fresh{a b c:Nat}(h:a<=16384):b6 (h_ a b c):=⟨h,mP.nil,λx hx=>absurd hx iX,(λr hr=>by cases hr),List.Pairwise.nil,(λr hr=>by cases hr)⟩
theorem b6.join{s t:State}(h:b6 s){p n:Nat}(hn:0<n)(hs:t.size=s.size)(hf:t.free=bP s.free (p,n))(Q9:p+n<=s.size)(hr:∀r∈t.runs,0<r.pages/\r.first+r.pages<=s.size)
  (hd:t.runs.Pairwise λa b=>a.first+a.pages<=b.first\/b.first+b.pages<=a.first) (h1:∀x,Mem (cV s.free) x->¬((p:Int)<=x/\x<((p+n:Nat):Int)))
  (h2:∀r∈t.runs,(∀x:Int,Mem (cV s.free) x->¬((r.first:Int)<=x/\x<((r.first+r.pages:Nat):Int)))/\(r.first+r.pages<=p\/p+n<=r.first)):b6 t:=by
 obtain ⟨c1,m1⟩:=pO s.free (p,n) h.yt hn (nL h.yt hn h1);refine ⟨by rw[hs];exact h.size,by rw[hf];exact c1,λx hx=>?_,λr m9=>by rw[hs];exact hr r m9,hd,λr m9 x hx=>?_⟩
 ·rw[hf] at hx;rw[hs];rcases (m1 x).mp hx with hx|hx
  ·exact h.fin x hx
  ·simp only[gQ] at hx;omega
 ·rw[hf] at hx;rcases (m1 x).mp hx with hx|hx
  ·exact (h2 r m9).1 x hx
  ·have:=(h2 r m9).2;simp only[gQ] at hx;omega
theorem b6.less{s t:State}(h:b6 s){p n:Nat}(hn:0<n)(hs:t.size=s.size)(hf:t.free=bw s.free p n)(qm:CK s.free p n)(hr:∀r∈t.runs,0<r.pages/\r.first+r.pages<=s.size)
  (hd:t.runs.Pairwise λa b=>a.first+a.pages<=b.first\/b.first+b.pages<=a.first)
  (h2:∀r∈t.runs,∀x:Int,Mem (cV s.free) x->¬((p:Int)<=x/\x<((p+n:Nat):Int))->¬((r.first:Int)<=x/\x<((r.first+r.pages:Nat):Int))):b6 t:=by
 obtain ⟨c1,m1⟩:=CC h.yt hn qm;refine ⟨by rw[hs];exact h.size,by rw[hf];exact c1,λx hx=>?_,λr m9=>by rw[hs];exact hr r m9,hd,λr m9 x hx=>?_⟩
 ·rw[hf] at hx;rw[hs];exact h.fin x ((m1 x).mp hx).1
 ·rw[hf] at hx;exact h2 r m9 x ((m1 x).mp hx).1 ((m1 x).mp hx).2
theorem ow:∀(l:List Run) (r:Run),(iI l r).Perm (r::l)
 |[],r=>.refl _
 |x::l,r=>by
  unfold iI;split
  ·exact .refl _
  ·exact ((ow l r).cons x).trans (.swap r x l)
theorem Gk{l m:List Run}(h:l.Perm m)(hd:m.Pairwise λa b=>a.first+a.pages<=b.first\/b.first+b.pages<=a.first):l.Pairwise λa b=>a.first+a.pages<=b.first\/b.first+b.pages<=a.first:=
 (h.pairwise_iff (λ{a b} q=>q.symm)).mpr hd
theorem Gj{l:List (Nat×Nat)}{n p:Nat}(h:jQ l n 1=some p):CK l p n:=by
 unfold jQ at h;cases e:l.find? (λx=>decide (mC x.1 1+n<=x.1+x.2)) with
 |none=>rw[e] at h;cases h
 |some x=>
  rw[e] at h;have h':mC x.1 1=p:=by simpa using h
  have al:mC x.1 1=x.1:=by unfold mC;simp
  have h3:=di e;have:=of_decide_eq_true h3;exact ⟨x,bE e,by omega,by omega⟩
theorem CK.mem{l:List (Nat×Nat)}{p n:Nat}(h:CK l p n){x:Int}(h1:(p:Int)<=x)(h2:x<((p+n:Nat):Int)):Mem (cV l) x:=by
 obtain ⟨y,hy,a,b⟩:=h;exact mG hy (by omega) (by omega)
theorem b6.K_{s:State}(h:b6 s){p n:Nat}(qm:CK s.free p n):p+n<=s.size:=by
 obtain ⟨y,hy,a,b⟩:=qm;have:=(h.vm hy).2;omega
theorem b6.taken{s t:State}{n p mark:Nat}(h:b6 s)(hn:0<n)(ht:s.taken n 1 mark=some (t,p)):b6 t/\CK s.free p n/\t={s with free:=bw s.free p n,runs:=iI s.runs ⟨p,n,mark,[]⟩}:=by
 unfold jT at ht;cases e:jQ s.free n 1 with
 |none=>rw[e] at ht;cases ht
 |some q=>
  rw[e] at ht;have UB:({s with free:=bw s.free q n,runs:=iI s.runs ⟨q,n,mark,[]⟩},q)=(t,p):=by simpa using ht
  cases UB;have qm:=Gj e;have hp:=ow s.runs ⟨p,n,mark,[]⟩;have Q9:=h.K_ qm;refine ⟨h.less hn rfl rfl qm (λr hr=>?_) (Gk hp (dI.mpr ⟨λr hr=>?_,h.dj⟩)) (λr hr x hx CY=>?_),qm,rfl⟩
  ·rcases aP.mp (hp.mem_iff.mp hr) with rfl|hr
   ·exact ⟨hn,Q9⟩
   ·exact h.sQ r hr
  ·refine fH λz=>?_;have oZ:=(h.sQ r hr).1;show False;have z':¬(p+n<=r.first\/r.first+r.pages<=p):=z;exact h.fr r hr ((max r.first p:Nat):Int) (qm.mem (by omega) (by omega)) ⟨by omega,by omega⟩
  ·rcases aP.mp (hp.mem_iff.mp hr) with rfl|hr
   ·exact CY
   ·exact h.fr r hr x hx
theorem Qc{s:State}{p:Int}{r:Run}(h:s.run p=some r):r∈s.runs/\(r.first:Int)=p:=by
 unfold GH at h;exact ⟨bE h,by have:=di h;exact eq_of_beq this⟩
theorem b6.Ax{s:State}(h:b6 s){r:Run}(hr:r∈s.runs):s.run (r.first:Int)=some r:=by
 have hn:=h.o6;unfold GH;generalize s.runs=l at hr hn
 induction l with
 |nil=>cases hr
 |cons a l ih=>
  obtain ⟨n1,n2⟩:=b9.mp hn;rw[dm];rcases aP.mp hr with rfl|hr
  ·simp
  ·have:¬((a.first:Int)==(r.first:Int))=true:=λz=>n1 (by have e:(a.first:Int)=r.first:=eq_of_beq z;show (a.first:Int)∈_;rw[e];exact aq.mpr ⟨r,hr,rfl⟩);rw[gh.mpr this];exact ih hr n2
theorem b6.apart{s:State}(h:b6 s){a b:Run}(ha:a∈s.runs)(hb:b∈s.runs)(iG:a.first≠b.first):a.first+a.pages<=b.first\/b.first+b.pages<=a.first:=by
 obtain ⟨i,hi,ei⟩:=nY ha;obtain ⟨j,hj,ej⟩:=nY hb;have pg:=pA.mp h.dj;rcases Nat.lt_trichotomy i j with ij|ij|ij
 ·have:=pg i j hi hj ij;rw[ei,ej] at this;exact this
 ·subst ij;rw[ei] at ej;exact absurd (by rw[ej]) iG
 ·have:=pg j i hj hi ij;rw[ei,ej] at this;exact this.symm
theorem b6.give{s:State}(h:b6 s){r:Run}(hr:r∈s.runs):b6 {s.lessRun r with free:=bP s.free (r.first,r.pages)}:=by
 have oZ:=h.sQ r hr
 have sub:∀q,q∈(s.lessRun r).runs->q∈s.runs/\q.first≠r.first:=λq hq=>by
  obtain ⟨a,b⟩:=bu.mp (show q∈s.runs.filter λx=>x.first !=r.first from hq);exact ⟨a,by simpa using b⟩
 refine h.join (p:=r.first) (n:=r.pages) oZ.1 rfl rfl oZ.2 (λq hq=>h.sQ q (sub q hq).1) (h.dj.sublist dM) (h.fr r hr) (λq hq=>⟨h.fr q (sub q hq).1,?_⟩);have:=h.apart (sub q hq).1 hr (sub q hq).2;omega
theorem lP{s:State}{r q:Run}(h:q∈(s.with_ r).runs):q=r\/(q∈s.runs/\q.first≠r.first):=by
 obtain ⟨x,hx,rfl⟩:=aq.mp (show q∈s.runs.map λx=>if x.first=r.first then r else x from h)
 by_cases c:x.first=r.first
 ·rw[if_pos c];exact .inl rfl
 ·rw[if_neg c];exact .inr ⟨hx,c⟩
theorem EX{s:State}(h:b6 s){r:Run}(N7:∀q∈s.runs,q.first≠r.first->q.first+q.pages<=r.first\/r.first+r.pages<=q.first):
  (s.with_ r).runs.Pairwise λa b=>a.first+a.pages<=b.first\/b.first+b.pages<=a.first:=by
 have hn:=h.o6;have hd:=h.dj;show (s.runs.map λx=>if x.first=r.first then r else x).Pairwise _;clear h;generalize s.runs=l at hn hd N7
 induction l with
 |nil=>exact .nil
 |cons a l ih=>
  obtain ⟨n1,n2⟩:=b9.mp hn;obtain ⟨d1,d2⟩:=dI.mp hd;refine dI.mpr ⟨λy hy=>?_,ih n2 d2 λq hq=>N7 q (aB _ hq)⟩;obtain ⟨x,hx,rfl⟩:=aq.mp hy;have hax:a.first≠x.first:=λe=>n1 (by show (a.first:Int)∈_;rw[e];exact aq.mpr ⟨x,hx,rfl⟩);dsimp only
  by_cases ca:a.first=r.first
  ·rw[if_pos ca,if_neg (by rw[<-ca];exact hax.symm)];have:=N7 x (aB _ hx) (by rw[<-ca];exact hax.symm);omega
  ·rw[if_neg ca]
   by_cases cx:x.first=r.first
   ·rw[if_pos cx];exact N7 a aJ ca
   ·rw[if_neg cx];exact d1 x hx
theorem b6.shrink{s:State}(h:b6 s){r:Run}(hr:r∈s.runs){m:Nat}(hm:0<m)(pX:m<r.pages)(bs:List (Nat×Nat)):
  b6 {s.with_ {r with pages:=m,bytes:=bs} with free:=bP s.free (r.first+m,r.pages-m)}:=by
 have oZ:=h.sQ r hr;refine h.join (p:=r.first+m) (n:=r.pages-m) (by omega) rfl rfl (by omega) (λq hq=>?_) (EX h λq hq iG=>?_) (λx hx z=>h.fr r hr x hx ⟨by omega,by omega⟩) (λq hq=>?_)
 ·rcases lP hq with rfl|⟨hq,_⟩
  ·exact ⟨hm,by show r.first+m<=s.size;omega⟩
  ·exact h.sQ q hq
 ·have Ed:q.first≠r.first:=iG;have:=h.apart hq hr Ed;show q.first+q.pages<=r.first\/r.first+m<=q.first;omega
 ·rcases lP hq with rfl|⟨hq,iG⟩
  ·exact ⟨λx hx z=>h.fr r hr x hx ⟨z.1,by have:=z.2;simp only at this;omega⟩,by show r.first+m<=r.first+m\/_;omega⟩
  ·have Ed:q.first≠r.first:=iG;have:=h.apart hq hr Ed;exact ⟨h.fr q hq,by omega⟩
theorem b6.extend{s:State}(h:b6 s){r:Run}(hr:r∈s.runs){m:Nat}(pX:r.pages<m)(qm:CK s.free (r.first+r.pages) (m-r.pages)):
  b6 {s.with_ {r with pages:=m} with free:=bw s.free (r.first+r.pages) (m-r.pages)}:=by
 have oZ:=h.sQ r hr;have Q9:=h.K_ qm;refine h.less (p:=r.first+r.pages) (n:=m-r.pages) (by omega) rfl rfl qm (λq hq=>?_) (EX h λq hq iG=>?_) (λq hq x hx CY=>?_)
 ·rcases lP hq with rfl|⟨hq,_⟩
  ·exact ⟨by show 0<m;omega,by show r.first+m<=s.size;omega⟩
  ·exact h.sQ q hq
 ·have Ed:q.first≠r.first:=iG;have N7:=h.apart hq hr Ed;have rj:=(h.sQ q hq).1;show q.first+q.pages<=r.first\/r.first+m<=q.first;refine fH λz=>?_;exact h.fr q hq ((max q.first (r.first+r.pages):Nat):Int) (qm.mem (by omega) (by omega)) ⟨by omega,by omega⟩
 ·rcases lP hq with rfl|⟨hq,iG⟩
  ·intro z;have z2:=z.2;simp only at z2;have:=h.fr r hr x hx;have z1:=z.1;simp only at z1;omega
  ·exact h.fr q hq x hx
end Rm
namespace Rm
open Kg45 (State Run Ask)
open Given (Prog)
def d_{σ α β:Type}(p p':Prog σ α β)(rs:List Int)(i:Nat)(qs:List α):Prop:=
 p.played (rs.drop i)=((p'.played (rs.drop (i+qs.length))).1,(p'.played (rs.drop (i+qs.length))).2.1,qs++(p'.played (rs.drop (i+qs.length))).2.2.1,(p'.played (rs.drop (i+qs.length))).2.2.2)
section
variable{σ α β:Type}{p p1 p2:Prog σ α β}{rs:List Int}{i:Nat}{qs V7:List α}
theorem d_.refl:d_ p p rs i []:=rfl
theorem d_.of_eq(h:p=p1):d_ p p1 rs i []:=by subst h;rfl
theorem d_.to(a:d_ p p1 rs i qs)(h:p1=p2):d_ p p2 rs i qs:=h▸a
theorem d_.trans(a:d_ p p1 rs i qs)(b:d_ p1 p2 rs (i+qs.length) V7):d_ p p2 rs i (qs++V7):=by
 unfold d_ at*;rw[a,b,aE,ni,cD]
theorem d_.ask{s:σ}{q:α}{k:σ->Int->Prog σ α β}:d_ (.ask s q k) (k s (rs.getD i 0)) rs i [q]:=by
 unfold d_
 have e1:(rs.drop i).headD 0=rs.getD i 0:=by
  rw[List.headD_eq_head?_getD,List.head?_drop,bA]
 have e2:(rs.drop i).drop 1=rs.drop (i+1):=by rw[oO]
 have h:(Prog.ask s q k).played (rs.drop i)=(((k s ((rs.drop i).headD 0)).played ((rs.drop i).drop 1)).1,((k s ((rs.drop i).headD 0)).played ((rs.drop i).drop 1)).2.1,q::((k s ((rs.drop i).headD 0)).played ((rs.drop i).drop 1)).2.2.1,((k s ((rs.drop i).headD 0)).played ((rs.drop i).drop 1)).2.2.2):=rfl;rw[h,e1,e2];rfl
end
def fS(k:Nat):Nat->State->Nat->State×Nat×List Ask
 |0,s,n=>(s,n,[])
 |g+1,s,n=>match s.free.getLast? with
  |none=>(s,n,[])
  |some x=>if aK s.free-k=0 then (s,n,[]) else
   let m:=min (aK s.free-k) x.2
   let p:=x.1+x.2-m
   let r:=fS k g {s with free:=bw s.free p m,went:=s.went+m} (n+m)
   (r.1,r.2.1,.less p m::r.2.2)
theorem qc{rs:List Int}{k:Nat}:∀(g:Nat) (s:State) (n i:Nat) (f:State->Nat->qV jM),d_ (Kg45.trim k g s n f) (f (fS k g s n).1 (fS k g s n).2.1) rs i (fS k g s n).2.2
 |0,s,n,i,f=>.refl
 |g+1,s,n,i,f=>by
  unfold Kg45.trim fS;dsimp only;cases e:s.free.getLast? with
  |none=>exact .refl
  |some x=>
   dsimp only
   by_cases c:aK s.free-k=0
   ·rw[if_pos c,if_pos c];exact .refl
   ·rw[if_neg c,if_neg c];exact d_.trans (qs:=[_]) .ask (qc g _ _ (i+1) f)
theorem mH{k:Nat}:∀(g:Nat) (s:State) (n:Nat),(fS k g s n).1={s with free:=(fS k g s n).1.free,went:=s.went+((fS k g s n).2.1-n)}/\n<=(fS k g s n).2.1
 |0,s,n=>by simp [fS]
 |g+1,s,n=>by
  unfold fS;cases e:s.free.getLast? with
  |none=>simp
  |some x=>
   dsimp only
   by_cases c:aK s.free-k=0
   ·rw[if_pos c];simp
   ·rw[if_neg c];obtain ⟨h1,h2⟩:=mH (k:=k) g {s with free:=bw s.free (x.1+x.2-min (aK s.free-k) x.2) (min (aK s.free-k) x.2),went:=s.went+min (aK s.free-k) x.2} (n+min (aK s.free-k) x.2);refine ⟨?_,by dsimp only;omega⟩;dsimp only;rw[h1];congr 1;dsimp only;omega
theorem wM{l:List (Nat×Nat)}{x:Nat×Nat}(h:l.getLast?=some x):x∈l:=List.mem_of_getLast? h
theorem EZ{s:State}{x:Nat×Nat}{m:Nat}(h:s.free.getLast?=some x)(hm:m<=x.2):CK s.free (x.1+x.2-m) m:=⟨x,wM h,by omega,by omega⟩
theorem b6.Jo{s:State}(h:b6 s){x:Nat×Nat}{m w:Nat}(hx:s.free.getLast?=some x)(hm:m<=x.2)(h0:0<m):b6 {s with free:=bw s.free (x.1+x.2-m) m,went:=w}:=
 h.less h0 rfl rfl (EZ hx hm) h.sQ h.dj λr hr y hy _=>h.fr r hr y hy
theorem b6.trimmed{k:Nat}:∀(g:Nat) (s:State) (n:Nat),b6 s->b6 (fS k g s n).1
 |0,s,n,h=>h
 |g+1,s,n,h=>by
  unfold fS;cases e:s.free.getLast? with
  |none=>exact h
  |some x=>
   dsimp only
   by_cases c:aK s.free-k=0
   ·rw[if_pos c];exact h
   ·rw[if_neg c];have hx:=(h.vm (wM e)).1;exact b6.trimmed g _ _ (h.Jo e (Nat.min_le_right _ _) (by omega))
theorem Dr{k g n:Nat}{s:State}(h:aK s.free-k=0):fS k g s n=(s,n,[]):=by
 cases g with
 |zero=>rfl
 |succ g=>
  unfold fS;cases e:s.free.getLast? with
  |none=>rfl
  |some x=>dsimp only;rw[if_pos h]
theorem Am:∀{l:List (Nat×Nat)} {x:Nat×Nat},mP (cV (l++[x]))->∀{m:Nat},0<m->m<=x.2->bw (l++[x]) (x.1+x.2-m) m=l++(if m<x.2 then [(x.1,x.2-m)] else []):=by
 intro l x hc m h0 hm;unfold bw;rw[iz]
 have hx:0<x.2:=by
  have:=hc.ne (gQ x) (by simp [cV]);simp only[gQ] at this;omega
 have OX:∀y∈l,y.1+y.2<x.1:=λy hy=>by
  have hp:=hc.pw;rw[cV,aG] at hp;have:=(gO.mp hp).2.2 (gQ y) (aH hy) (gQ x) (by simp);simp only[gQ] at this;omega
 have e1:l.flatMap (λy=>if y.1<=x.1+x.2-m/\x.1+x.2-m+m<=y.1+y.2 then (if y.1<x.1+x.2-m then [(y.1,x.1+x.2-m-y.1)] else [])++(if x.1+x.2-m+m<y.1+y.2 then [(x.1+x.2-m+m,y.1+y.2-(x.1+x.2-m+m))] else []) else [y])=l:=by
  have:∀l':List (Nat×Nat),(∀y∈l',y.1+y.2<x.1)->l'.flatMap (λy=>if y.1<=x.1+x.2-m/\x.1+x.2-m+m<=y.1+y.2 then (if y.1<x.1+x.2-m then [(y.1,x.1+x.2-m-y.1)] else [])++(if x.1+x.2-m+m<y.1+y.2 then [(x.1+x.2-m+m,y.1+y.2-(x.1+x.2-m+m))] else []) else [y])=l':=by
   intro l'
   induction l' with
   |nil=>intro _;rfl
   |cons a l' ih=>
    intro hf;have ha:=hf a aJ;rw[dQ,if_neg (by omega),ih λy hy=>hf y (aB _ hy)];rfl
  exact this l OX
 rw[e1];congr 1;rw[dQ,xg,fR,if_pos (by omega),if_neg (show¬x.1+x.2-m+m<x.1+x.2 by omega),fR]
 by_cases c:m<x.2
 ·rw[if_pos c,if_pos (by omega)];congr 2;omega
 ·rw[if_neg c,if_neg (by omega)]
theorem zS(l m:List (Nat×Nat)):aK (l++m)=aK l+aK m:=by unfold aK;rw[aG,List.sum_append]
theorem zd{s:State}(h:b6 s){x:Nat×Nat}{k m:Nat}(hx:s.free.getLast?=some x)(he:m=min (aK s.free-k) x.2)(h0:0<m):
  aK (bw s.free (x.1+x.2-m) m)+m=aK s.free/\((bw s.free (x.1+x.2-m) m).length<s.free.length\/aK (bw s.free (x.1+x.2-m) m)-k=0):=by
 have es:s.free=s.free.dropLast++[x]:=by
  obtain ⟨l,hl⟩:=Ba.mp hx;rw[hl];simp
 have hc:=h.yt;generalize s.free.dropLast=l at es;rw[es] at hc he⊢;have CY:aK (l++[x])=aK l+x.2:=by rw[zS];simp [aK]
 rw[CY] at he⊢;rw[Am hc h0 (by omega),zS]
 by_cases c:m<x.2
 ·rw[if_pos c];have:aK [(x.1,x.2-m)]=x.2-m:=by simp [aK]
  rw[this];refine ⟨by omega,.inr (by omega)⟩
 ·rw[if_neg c];have:aK ([]:List (Nat×Nat))=0:=rfl;rw[this];refine ⟨by omega,.inl (by simp)⟩
end Rm
namespace Rm
open PySem L2
open Kg45 (Run)
abbrev PS:=Kg45.State
def pf(s:PS)(f r:Addr):List (Str×V):=[("size",.int s.size),("chunk",.int s.chunk),("spare",.int s.spare),("free",.ref f),("runs",.ref r),("asked",.int s.asked),("refused",.int s.refused),("came",.int s.came),("given_back",.int s.went),("most_owned",.int s.peak)]
def nV(H:Hp)(mk:Int->Int):Int->V->Int->Prop:=λk v e=>∃t,v=.ref t/\H t=some (.tup [.int e,.int (mk k)])
theorem nV.mono{H H':Hp}{mk:Int->Int}(f:∀t xs,H t=some (.tup xs)->H' t=some (.tup xs))(k:Int)(v:V)(p:Int)(h:nV H mk k v p):nV H' mk k v p:=let ⟨t,e,q⟩:=h;⟨t,e,f _ _ q⟩
structure fQ(A:gI)(H:Hp)(τ:Tg)(p:Addr)(mk:Int->Int)(s:PS):Prop where
 ex:∃dx f r kvs gY,H p=some (.ins (A.cl .aM) dx (pf s f r))/\kF H f (cV s.free)/\H r=some (.dK kvs)/\gy (nV H mk) kvs gY/\gY.Perm (fB s)/\τ p=.pages/\τ f=.free/\τ r=.runs
theorem kF.step{H H':Hp}{τ τ':Tg}{S:Tag->Prop}{l:Addr}{rs:List Row}{t:Tag}(h:kF H l rs)(s:dS S τ τ' H H')(ht:τ l=t)(n:¬S t):kF H' l rs:=
 let ⟨as,h1,h2⟩:=h;⟨as,s.kp ht n h1,h2.mono λ_ _=>s.tup⟩
theorem kF.same{H H':Hp}{l:Addr}{rs:List Row}(h:kF H l rs)(s:cY H H'):kF H' l rs:=let ⟨as,h1,h2⟩:=h;⟨as,s _ _ h1,h2.mono λ_ _=>s _ _⟩
section
variable{P:Program}{w:World}{K:au}{mg:Str->Option Value}{base:Heap}{A:gI}
theorem fQ.step{H H':Hp}{τ τ':Tg}{p:Addr}{mk:Int->Int}{s:PS}{S:Tag->Prop}(h:fQ A H τ p mk s)(st:dS S τ τ' H H')(n1:¬S .pages)(n2:¬S .free)(n3:¬S .runs):fQ A H' τ' p mk s:=by
 obtain ⟨dx,f,r,kvs,gY,h1,h2,h3,h4,h5,t1,t2,t3⟩:=h.ex;obtain ⟨as,hf,hp⟩:=id h2;exact ⟨dx,f,r,kvs,gY,st.kp t1 n1 h1,h2.step st t2 n2,st.kp t3 n3 h3,h4.imp (nV.mono λ_ _=>st.tup),h5,st.tg t1 h1,st.tg t2 hf,st.tg t3 h3⟩
theorem fQ.same{H H':Hp}{τ:Tg}{p:Addr}{mk:Int->Int}{s:PS}(h:fQ A H τ p mk s)(st:cY H H'):fQ A H' τ p mk s:=by
 obtain ⟨dx,f,r,kvs,gY,h1,h2,h3,h4,h5,t1,t2,t3⟩:=h.ex;exact ⟨dx,f,r,kvs,gY,st _ _ h1,h2.same st,st _ _ h3,h4.imp (nV.mono λ_ _=>st _ _),h5,t1,t2,t3⟩
theorem rP{s:PS}{gY:List Row}(h:gY.Perm (fB s)):gY.length=s.runs.length:=by rw[h.length_eq];simp
def Jv(A:gI):Sp:=λvs H Q _=>∃(τ:Tg) (p:Addr) (mk:Int->Int) (s:PS),vs=[.ref p]/\fQ A H τ p mk s/\b6 s/\∀H',cY H H'->Q (.int (((s.runs.map Run.pages).sum:Nat):Int)) H'
theorem M7:bF ["self","first","run"] ["self"] (aY (Fn.st .kI)):=fs
theorem jX{H H':Hp}{d:Addr}{od:Obj}{u:HO}(hd:H d=some u)(h:cY (upd H d (.nG od u)) H'):cY H (upd H' d u):=λb o e=>by
 by_cases hb:b=d
 ·subst hb;rw[hd] at e;cases e;exact ak
 ·rw[az hb];exact h _ _ (by rw[az hb];exact e)
theorem Cb{H:Hp}{d:Addr}{od:Obj}{kvs:List (Key×V)}(hd:H d=some (.dK kvs)){t:Addr}{xs:List V}(e:H t=some (.tup xs)):upd H d (.nG od (.dK kvs)) t=some (.tup xs):=by
 rw[az (mh e hd (by intro z;cases z))];exact e
theorem kU{H:Hp}{d:Addr}{od:Obj}{kvs:List (Key×V)}(hd:H d=some (.dK kvs)){t C dx:Addr}{xs:List (Str×V)}(e:H t=some (.ins C dx xs)):upd H d (.nG od (.dK kvs)) t=some (.ins C dx xs):=by
 rw[az (mh e hd (by intro z;cases z))];exact e
theorem u9(T:Txt A K mg):dU P w K mg base pq 1 (A.f .kI) (A.fd .kI) ["self"] (Jv A):=by
 refine (T.fn .kI).ok M7 (λvs H Q E h=>?_) (λgX B outer s H vs Q E hr h=>?_)
 ·obtain ⟨τ,p,mk,s,rfl,_⟩:=h;rfl
 ·obtain ⟨τ,p,mk,s,rfl,⟨dx,f,r,kvs,gY,h1,h2,h3,h4,h5,t1,t2,t3⟩,cI,k⟩:=h
  refine ⟨_,aF (bT (cF (A2 rfl) rfl T.mK.sum lF (aa (Fq (vF (own:=[("first",1),("run",2)]) (g:=Oa K 2 (yj (sY 1) (yj (sY 2) Ob))) rfl M7.nd (uf (bz (pv 0) rfl)) (jz rfl)
   (λ_ _ _ _ _=>qh rfl (gm (dB (i:=1) M7.nd rfl (bh rfl) (hf:=sO rfl)) (gm (dB (i:=2) M7.nd rfl (bh rfl) (hf:=sO rfl)) nB))) (λ_ _ _ _ _=>nv)
   (λ_ _ _ _ _=>bW gj (eY (r:=DK K) ir (pv 2) bq (λ_ _=>rfl)) (pv 1)))) aA))),?_⟩
  refine ⟨r,.dK kvs,h3,trivial,λod=>?_⟩;have C7:=rP h5;have Cg:=cI.t9;refine ⟨_,rfl,p,_,dx,_,_,rfl,kU h3 h1,T.cls .aM,T.na .aM "runs" (by decide),rfl,r,od,kvs,rfl,ak,λD hD=>HH (λi=>(gY[i]?).map λq=>V.int (q.2-q.1)) (by rw[h4.len];omega) hD ak ?_ ?_⟩
  ·rintro i k' v t H2 R N hi b ht h;obtain ⟨⟨k1,e1⟩,hq,hk,t',rfl,UB⟩:=h4.get hi;obtain rfl:k'=aW k1:=hk;have s4:=aX (o:=.tup [kV (aW k1),.ref t']) ht;have hR:=(h _ s4).1 _ (by rw[hq];rfl);refine ⟨t,_,rfl,lW.of ak,rfl,_,_,rfl,_,_,rfl,rfl,rfl,yes (lg ?_)⟩;exact ⟨_,rfl,t',_,_,_,rfl,rfl,lW.of (s4 _ _ (b _ _ (Cb h3 UB))),rfl,_,rfl,_,_,rfl,rfl,hR⟩
  ·intro H' s2 Rl;refine ⟨s2 _ _ ak,?_⟩;have s3:=jX h3 s2;have nD:D≠r:=λz=>by rw[z,ak] at hD;cases hD
   refine ⟨D,gY.map (λq:Row=>q.2-q.1),rfl,.of ?_,?_⟩
   ·rw[az nD,Rl,h4.len,gR gY (λq=>V.int (q.2-q.1)) _ (λi x hx=>by rw[hx];rfl),ay];rfl
   ·rw[GX h5];exact k _ s3
end
end Rm
namespace Rm
open PySem L2
open Kg45 (Run)
theorem HG{g:TG}{tt:TT}{te:TE}{vs:List Nat}{σ:St}{H:Hp}{D d:Addr}{Qd:Hp->Prop}{o:Obj}{kvs:List (Key×V)}(rows:List Row)(hlr:rows.length=kvs.length)(hn:kvs.length<=1000000)(hD:H D=none)(hl:H d=some (.nG o (.dK kvs)))
  (hs:∀(i:Nat) k v t (q:Row) H2 (R:VK) (N:Hp->Prop),kvs[i]?=some (k,v)->rows[i]?=some q->cY H H2->H2 t=none->(∀H4 a,cY H2 H4->mF H4 a q->R (.ref a) H4)->
   g (.ref t) (wipe σ vs) (upd H2 t (.tup [kV k,v])) λσ2 H4=>wipe σ2 vs=wipe σ vs/\tt σ2 H4 λb H5=>if b=true then te σ2 H5 R else N H5)
  (hd:∀H',cY H H'->kF H' D rows->Qd H'):
  ∃W:Nat->Nat->Hp->Prop,(∃m,W 0 m (upd H D (.lst [])))/\∀i m H,W i m H->
   ((L6 d o kvs).stop i H/\Qd H)\/((L6 d o kvs).go i H/\∃Nx:Hp->Prop,(∀H',Nx H'->∃m',m'<m/\W (i+1) m' H')/\∀x H',(L6 d o kvs).GI i H x H'->g x (wipe σ vs) H' λσ2 H2=>wipe σ2 vs=wipe σ vs/\tt σ2 H2 λb H3=>
    if b=true then te σ2 H3 λy H4=>∃acc,H4 D=some (.lst acc)/\acc.length<sizeLine/\Nx (upd H4 D (.lst (acc++[y]))) else Nx H3):=by
 refine ⟨λi m H2=>m=kvs.length-i/\i<=kvs.length/\cY H H2/\kF H2 D (rows.take i),⟨kvs.length,by simp,bH _,aX hD,[],ak,.nil⟩,?_⟩;rintro i m H2 ⟨rfl,hi,s2,as,h2,hp⟩;have vO:=hp.len;rw[bS] at vO
 by_cases pX:i<kvs.length
 ·refine .inr ⟨⟨s2 _ _ hl,pX⟩,λH'=>cY H H'/\kF H' D (rows.take (i+1)),λH' p'=>⟨kvs.length-(i+1),by omega,rfl,pX,p'⟩,λx H3 y=>?_⟩;obtain ⟨t,k,v,e1,e2,e3,e4⟩:=y;subst e2 e4;have hq:rows[i]?=some (rows[i]'(by omega)):=cM (by omega);refine hs i k v t _ H2 _ _ e1 hq s2 e3 λH4 a s4 YV=>⟨_,s4 _ _ h2,?_,?_,as++[a],?_,?_⟩
  ·rw[aj];exact big (by omega)
  ·intro b o e;rw[az (aQ e hD)];exact s4 _ _ (s2 _ _ e)
  ·rw[ak,aG];rfl
  ·rw[cN,hq];have Vg:=s4 _ _ h2;have nt:∀x xs,H4 x=some (.tup xs)->upd H4 D (.lst (as.map V.ref++[V.ref a])) x=some (.tup xs):=λx xs e=>by rw[az (mh e Vg (by intro z;cases z))];exact e
   exact Pairs.snoc (hp.mono λx xs e=>nt _ _ (s4 _ _ e)) (nt _ _ YV)
 ·have e:i=kvs.length:=by omega
  subst e;refine .inl ⟨⟨s2 _ _ hl,aL _⟩,hd H2 s2 ⟨as,h2,?_⟩⟩;rw[<-hlr,ff] at hp;exact hp
section
variable{P:Program}{w:World}{K:au}{mg:Str->Option Value}{base:Heap}{A:gI}
def Pq(A:gI):Sp:=λvs H Q _=>∃(τ:Tg) (p:Addr) (mk:Int->Int) (s:PS),vs=[.ref p]/\fQ A H τ p mk s/\b6 s/\∀H' l,cY H H'->H l=none->kF H' l (cV s.rows)->Q (.ref l) H'
theorem M8:bF ["self","first","run"] ["self"] (aY (Fn.st .iW)):=fs
theorem Fy(T:Txt A K mg):dU P w K mg base pq 2 (A.f .iW) (A.fd .iW) ["self"] (Pq A):=by
 refine (T.fn .iW).ok M8 (λvs H Q E h=>?_) (λgX B outer s H vs Q E hr h=>?_)
 ·obtain ⟨τ,p,mk,s,rfl,_⟩:=h;rfl
 ·obtain ⟨τ,p,mk,s,rfl,⟨dx,f,r,kvs,gY,h1,h2,h3,h4,h5,t1,t2,t3⟩,cI,k⟩:=h;have C7:=rP h5;have Cg:=cI.t9;have U7:=cI.ku;obtain ⟨fs,hf,Gd⟩:=id h2;have Zp:fs.length=s.free.length:=by have:=Gd.len;simpa using this
  refine ⟨_,aF (bT (dh (zq (T.fn .jL) T.mK) hr rfl (T.o_ .jL rfl) (T.fn .jL).kp (T.bn .jL) .nil c_ (aa (bW oX (bz (pv 0) rfl) (Fq (vF (own:=[("first",1),("run",2)]) (g:=Oa K 2 (yj (sY 1) (yj (sY 2) Ob))) rfl M8.nd (uf (bz (pv 0) rfl)) (jz rfl)
   (λ_ _ _ _ _=>qh rfl (gm (dB (i:=1) M8.nd rfl (bh rfl) (hf:=sO rfl)) (gm (dB (i:=2) M8.nd rfl (bh rfl) (hf:=sO rfl)) nB))) (λ_ _ _ _ _=>nv)
   (λ_ _ _ _ _=>k_ (aa (pv 1) (aa (eY (r:=DK K) ir (pv 2) bq (λ_ _=>rfl)) aA)))))) aA))),?_⟩
  refine ⟨_,rfl,p,_,dx,_,_,rfl,h1,T.cls .aM,T.na .aM "free" (by decide),rfl,?_⟩;refine ⟨r,.dK kvs,h3,trivial,λod=>?_⟩;refine ⟨_,rfl,p,_,dx,_,_,rfl,kU h3 h1,T.cls .aM,T.na .aM "runs" (by decide),rfl,r,od,kvs,rfl,ak,λD hD=>HG gY h4.len.symm (by rw[h4.len];omega) hD ak ?_ ?_⟩
  ·rintro i k' v t q H2 R N hi hq b ht h;obtain ⟨q',oh,hk,t',rfl,UB⟩:=h4.get hi;obtain rfl:q'=q:=bC (oh.symm.trans hq);subst hk;have s4:=aX (o:=.tup [kV (aW q'.1),.ref t']) ht;refine ⟨t,_,rfl,lW.of ak,rfl,_,_,rfl,_,_,rfl,rfl,rfl,yes (lg ?_)⟩;refine ⟨_,rfl,_,rfl,t',_,_,_,rfl,rfl,lW.of (s4 _ _ (b _ _ (Cb h3 UB))),rfl,(by show 2<=sizeLine;decide),λa ha=>?_⟩;exact h _ a (s4.trans (aX ha)) ak
  ·rintro H' s2 ⟨as,Rl,hDp⟩;refine ⟨s2 _ _ ak,?_⟩;have s3:=jX h3 s2;have nD:D≠r:=λz=>by rw[z,ak] at hD;cases hD
   have hD0:H D=none:=by rw[az nD] at hD;exact hD
   have OU:upd H' r (.dK kvs) D=some (.lst (as.map V.ref)):=by rw[az nD];exact Rl
   have AY:=s2 _ _ (ak (H:=H) (a:=r) (o:=.nG od (.dK kvs)));have ZM:Pairs (upd H' r (.dK kvs)) as gY:=hDp.mono λx xs e=>by rw[az (mh e AY (by intro z;cases z))];exact e
   have has:as.length=gY.length:=hDp.len;refine ⟨f,D,_,_,rfl,rfl,s3 _ _ hf,OU,?_,λl hl=>?_⟩
   ·rw[aj,aj];exact dR (big (by omega))
   refine ⟨l,cV s.free++gY,rfl,⟨fs++as,by rw[ak,aG],Pairs.append ((Gd.mono λ_ _=>s3 _ _).mono λx xs e=>aX hl _ _ e) (ZM.mono λx xs e=>aX hl _ _ e)⟩,?_,λH5 l' s5 HS lC=>?_⟩
   ·rw[aE,aj];omega
   rw[cI.own h5] at lC;refine k H5 l' (s3.trans ((aX hl).trans s5)) ?_ lC;exact (s3.trans (aX hl)).free HS
def uE:Tag->Prop
 |.pages=>True
 |_=>False
theorem fQ.wF{H:Hp}{τ:Tg}{p dx f r f':Addr}{kvs:List (Key×V)}{gY:List Row}{mk:Int->Int}{s:PS}{fr:List (Nat×Nat)}(al:Al τ H)(h1:H p=some (.ins (A.cl .aM) dx (pf s f r)))(h3:H r=some (.dK kvs))(h4:gy (nV H mk) kvs gY)(h5:gY.Perm (fB s))(t1:τ p=.pages)(t3:τ r=.runs)
  (hf:kF H f' (cV fr)) (tf:τ f'=.free):
  dS uE τ τ H (upd H p (.ins (A.cl .aM) dx (pf {s with free:=fr} f' r)))/\fQ A (upd H p (.ins (A.cl .aM) dx (pf {s with free:=fr} f' r))) τ p mk {s with free:=fr}:=by
 have S:dS uE τ τ H (upd H p (.ins (A.cl .aM) dx (pf {s with free:=fr} f' r))):=.put id al h1 (by rw[t1];trivial) oY;exact ⟨S,dx,f',r,kvs,gY,ak,hf.step S tf id,S.kp t3 id h3,h4.imp (nV.mono λ_ _=>S.tup),h5,t1,tf,t3⟩
def Pp(A:gI):Sp:=λvs H Q _=>∃(τ:Tg) (p:Addr) (mk:Int->Int) (s:PS) (a n:Nat),vs=[.ref p,.int a,.int ((a+n:Nat):Int)]/\Al τ H/\fQ A H τ p mk s/\mP (cV s.free)/\s.free.length<=16384/\0<n/\(∀q∈s.free,q.1+q.2<=a\/a+n<=q.1)/\
 ∀H' τ',dS uE τ τ' H H'->fQ A H' τ' p mk {s with free:=bP s.free (a,n)}->Q .kq H'
theorem Xe:bF ["self","first","end"] ["self","first","end"] (aY (Fn.st .gZ)):=fs
theorem AM(T:Txt A K mg):dU P w K mg base pq 2 (A.f .gZ) (A.fd .gZ) ["self","first","end"] (Pp A):=by
 refine (T.fn .gZ).ok Xe (λvs H Q E h=>?_) (λgX B outer s H vs Q E hr h=>?_)
 ·obtain ⟨τ,p,mk,s,a,n,rfl,_⟩:=h;rfl
 ·obtain ⟨τ,p,mk,s,a,n,rfl,al,⟨dx,f,r,kvs,gY,h1,h2,h3,h4,h5,t1,t2,t3⟩,ZC,U7,hn,N7,k⟩:=h;obtain ⟨fs,hf,Gd⟩:=id h2;have Zp:fs.length=s.free.length:=by have:=Gd.len;simpa using this
  refine ⟨_,aF (fU (pv 0) (dh (zq (T.fn .jL) T.mK) hr rfl (T.o_ .jL rfl) (T.fn .jL).kp (T.bn .jL) .nil c_ (aa (bW oX (bz (pv 0) rfl) (fy (aa (k_ (aa (pv 1) (aa (pv 2) aA))) aA))) aA)) rfl),?_⟩;refine ⟨_,rfl,p,_,dx,_,_,rfl,h1,T.cls .aM,T.na .aM "free" (by decide),rfl,?_⟩;refine ⟨_,rfl,_,rfl,(by show 2<=sizeLine;decide),λt ht=>⟨(by show 1<=sizeLine;decide),λl1 nF=>?_⟩⟩;have s2:cY H (upd (upd H t (.tup [.int a,.int ((a+n:Nat):Int)])) l1 (.lst [.ref t])):=(aX ht).trans (aX nF);have ntl:t≠l1:=λz=>by rw[<-z,ak] at nF;cases nF
  have YV:mF (upd (upd H t (.tup [.int a,.int ((a+n:Nat):Int)])) l1 (.lst [.ref t])) t (gQ (a,n)):=by
   show upd _ _ _ t=_;rw[az ntl,ak];rfl
  refine ⟨f,l1,_,_,rfl,rfl,s2 _ _ hf,ak,?_,λl2 tV=>?_⟩
  ·rw[aj];exact dR (big (by simp;omega))
  have s3:=s2.trans (aX (o:=.lst (fs.map V.ref++[.ref t])) tV);refine ⟨l2,cV s.free++[gQ (a,n)],rfl,⟨fs++[t],by rw[ak,aG];rfl,Pairs.snoc (Gd.mono λ_ _=>s3 _ _) (aX tV _ _ YV)⟩,?_,λH5 l' s5 HS lC=>?_⟩
  ·rw[aE,aj];simp;omega
  rw[HN ZC hn N7] at lC;have s6:cY H H5:=s3.trans s5;have HR:H l'=none:=s3.free HS;obtain ⟨as,NY,Zb⟩:=id lC;have S6:dS uE τ (gi τ l' .free) H H5:=(dS.same id al s6).tag HR NY mE .free;have Pn:=S6.tg t1 h1;have Pk:=S6.tg t3 h3;refine ⟨_,rfl,p,_,dx,_,rfl,s6 _ _ h1,T.cls .aM,T.na .aM "free" (by decide),(by show 10<1000;decide),?_⟩;obtain ⟨S7,P7⟩:=fQ.wF (A:=A) (f':=l') (fr:=bP s.free (a,n)) S6.gW (s6 _ _ h1) (s6 _ _ h3) (h4.imp (nV.mono λ_ _=>s6 _ _)) h5 Pn Pk lC eV;exact k _ _ (S6.trans S7) P7
end
end Rm
namespace Rm
open PySem L2
def TP:Tag->Prop
 |.asks|.pages|.runs=>True
 |_=>False
theorem uE.tp(t:Tag)(h:uE t):TP t:=by cases t<;>first|exact h|trivial
theorem TA.tp(t:Tag)(h:TA t):TP t:=by cases t<;>first|exact h|trivial
def EB:Tag->Prop
 |.runs=>True
 |_=>False
theorem EB.tp(t:Tag)(h:EB t):TP t:=by cases t<;>first|exact h|trivial
section
variable{P:Program}{w:World}{K:au}{mg:Str->Option Value}{base:Heap}{A:gI}
theorem sj{s:PS}{gY:List Row}(cI:b6 s)(h5:gY.Perm (fB s)){r:e_}(hr:r∈s.runs):bM gY (r.first:Int)=some ((r.first+r.pages:Nat):Int):=by
 have hn:(gY.map (·.1)).Nodup:=by
  have e:((fB s).map (·.1)).Nodup:=by
   have:=cI.o6;have e2:(fB s).map (·.1)=s.runs.map λr=>(r.first:Int):=by rw[ay,ay];rfl
   rw[e2];exact this
  exact (h5.map _).nodup_iff.mpr e
 exact d7 hn (h5.mem_iff.mpr (aq.mpr ⟨rowOf r,aH hr,rfl⟩))
def Pr(A:gI):Sp:=λvs H Q _=>∃(τ:Tg) (p:Addr) (mk:Int->Int) (s:PS) (r:e_),vs=[.ref p,.int r.first]/\fQ A H τ p mk s/\b6 s/\r∈s.runs/\mk r.first=0/\Q (.int ((r.first+r.pages:Nat):Int)) H
theorem Tn:bF ["self","first","run"] ["self","first"] (aY (Fn.st .fN)):=fs
theorem Fz(T:Txt A K mg):dU P w K mg base (l8 P w) 1 (A.f .fN) (A.fd .fN) ["self","first"] (Pr A):=by
 refine rT (T.fn .fN) Tn (λvs H Q E h=>?_) (λgX B outer s H vs Q E hr h=>?_)
 ·obtain ⟨τ,p,mk,s,r,rfl,_⟩:=h;rfl
 ·obtain ⟨τ,p,mk,s,r,rfl,⟨dx,f,rr,kvs,gY,h1,h2,h3,h4,h5,t1,t2,t3⟩,cI,OR,Ef,k⟩:=h;have hu:=jJ hr;obtain ⟨v,hv,t,rfl,ht⟩:=h4.here (sj cI h5 OR);have g1:=mL.k (k:=aW (r.first:Int)) h3;rw[hv] at g1;rw[Ef] at ht
  refine ⟨_,ao (bY (i:=2) Tn.nd rfl (bh rfl) (ig hu (bz (pv 0) rfl) (pv 1) (λ_ _=>rfl)))<|
   ao (fC (pH (bW Qq (eY ir (pv 2) bq (λ_ _=>rfl)) (pk 4 T)) (λ_=>rfl)) (aF (nS rfl tH (T.exc .tZ) rfl (T.FO .tZ))) cZ)<|
   aF (bT (eY ir (pv 2) bq (λ_ _=>rfl))),?_⟩
  refine ⟨_,rfl,p,_,dx,_,_,rfl,h1,T.cls .aM,T.na .aM "runs" (by decide),rfl,_,rfl,rr,_,rfl,g1,?_⟩;refine ⟨_,rfl,t,_,_,_,rfl,rfl,lW.of ht,rfl,_,_,rfl,rfl,false,(show false=(Builtin.bitAnd 0 4 !=0) by decide+kernel),mJ ?_⟩;exact ⟨_,rfl,t,_,_,_,rfl,rfl,lW.of ht,rfl,k⟩
theorem fQ.AD{H:Hp}{τ:Tg}{p dx f r t:Addr}{kvs:List (Key×V)}{gY:List Row}{mk mk':Int->Int}{s s':PS}{k e:Int}(al:Al τ H)(h1:H p=some (.ins (A.cl .aM) dx (pf s f r)))(h2:kF H f (cV s.free))(h3:H r=some (.dK kvs))(h4:gy (nV H mk) kvs gY)(t1:τ p=.pages)(t2:τ f=.free)(t3:τ r=.runs)
  (ht:H t=some (.tup [.int e,.int (mk' k)])) (Ef:∀x,x≠k->mk' x=mk x) (hs:pf s' f r=pf s f r) (hf:s'.free=s.free) (hp:(dY gY k e).Perm (fB s')):
  dS EB τ τ H (upd H r (.dK (putK kvs (aW k) (.ref t))))/\fQ A (upd H r (.dK (putK kvs (aW k) (.ref t)))) τ p mk' s':=by
 have S:dS EB τ τ H (upd H r (.dK (putK kvs (aW k) (.ref t)))):=.put id al h3 (by rw[t3];trivial) oB;refine ⟨S,dx,f,r,_,_,by rw[hs];exact S.kp t1 id h1,by rw[hf];exact h2.step S t2 id,ak,h4.put ⟨t,rfl,S.tup ht⟩ λk' v' x' _ iG ⟨t',e',q⟩=>⟨t',e',by rw[Ef k' iG];exact S.tup q⟩,hp,t1,t2,t3⟩
def MD(A:gI):Sp:=λvs H Q _=>∃(τ:Tg) (p:Addr) (mk:Int->Int) (s:PS) (r:e_),vs=[.ref p,.int r.first,.int 0]/\Al τ H/\fQ A H τ p mk s/\b6 s/\r∈s.runs/\
 ∀H',dS EB τ τ H H'->fQ A H' τ p (λx=>if x=(r.first:Int) then 0 else mk x) s->Q .kq H'
theorem Xf:bF ["self","first","new_mark"] ["self","first","new_mark"] (aY (Fn.st .qx)):=fs
theorem Np{α:Type}{m:List (Int×α)}{k:Int}{x:α}(hn:(m.map (·.1)).Nodup)(h:bM m k=some x):dY m k x=m:=by
 rw[iD h];refine (aN λq hq=>?_).trans (kH m)
 by_cases c:q.1=k
 ·rw[if_pos c];have:bM m q.1=some q.2:=d7 hn hq;rw[c,h] at this;cases this;rfl
 ·rw[if_neg c];rfl
theorem Ni{s:PS}{gY:List Row}(cI:b6 s)(h5:gY.Perm (fB s)):(gY.map (·.1)).Nodup:=by
 have e:((fB s).map (·.1)).Nodup:=by
  have e2:(fB s).map (·.1)=s.runs.map λr=>(r.first:Int):=by rw[ay,ay];rfl
  rw[e2];exact cI.o6
 exact (h5.map _).nodup_iff.mpr e
theorem Kq(T:Txt A K mg):dU P w K mg base (l8 P w) 2 (A.f .qx) (A.fd .qx) ["self","first","new_mark"] (MD A):=by
 refine rT (T.fn .qx) Xf (λvs H Q E h=>?_) (λgX B outer s H vs Q E hr h=>?_)
 ·obtain ⟨τ,p,mk,s,r,rfl,_⟩:=h;rfl
 ·obtain ⟨τ,p,mk,s,r,rfl,al,⟨dx,f,rr,kvs,gY,h1,h2,h3,h4,h5,t1,t2,t3⟩,cI,OR,k⟩:=h;have hu:=jJ hr;obtain ⟨v,hv,t,rfl,ht⟩:=h4.here (sj cI h5 OR);have g1:=mL.k (k:=aW (r.first:Int)) h3;rw[hv] at g1
  refine ⟨_,ao (bV (dh (gH T) hr rfl (T.o_ .aS rfl) (T.fn .aS).kp (T.bn .aS) .nil dP (aa (pv 2) (aa bq (aa (pk 7 T) aA)))))<|
   aF (nA hu (bz (pv 0) rfl) (pv 1) (k_ (aa (eY ir (ig hu (bz (pv 0) rfl) (pv 1) (λ_ _=>rfl)) bq (λ_ _=>rfl)) (aa (pv 2) aA))) rfl),?_⟩
  refine ⟨_,rfl,_,_,_,rfl,λ_=>?_,λz=>absurd ⟨by decide,by decide⟩ z⟩;refine ⟨_,rfl,p,_,dx,_,_,rfl,h1,T.cls .aM,T.na .aM "runs" (by decide),rfl,_,rfl,rr,_,rfl,g1,t,_,_,_,rfl,rfl,lW.of ht,rfl,_,rfl,(by show 2<=sizeLine;decide),λa ha=>?_⟩;have sa:=aX (o:=.tup [.int ((r.first+r.pages:Nat):Int),.int 0]) ha;refine ⟨_,rfl,p,_,dx,_,_,rfl,sa _ _ h1,T.cls .aM,T.na .aM "runs" (by decide),rfl,_,rfl,rr,_,rfl,vv.k (k:=aW (r.first:Int)) (sa _ _ h3) (big (by rw[h4.len,rP h5];have:=cI.t9;omega)),?_⟩;have Sa:dS EB τ τ H (upd H a (.tup [.int ((r.first+r.pages:Nat):Int),.int 0])):=.new id al ha
  obtain ⟨S,G⟩:=fQ.AD (A:=A) (s':=s) (mk':=λx=>if x=(r.first:Int) then 0 else mk x) (k:=(r.first:Int)) (e:=((r.first+r.pages:Nat):Int)) Sa.gW (sa _ _ h1) (h2.same sa) (sa _ _ h3) (h4.imp (nV.mono λ_ _=>sa _ _)) t1 t2 t3
   (by rw[if_pos rfl];exact ak) (λx hx=>if_neg hx) rfl rfl (by rw[Np (Ni cI h5) (sj cI h5 OR)];exact h5)
  exact k _ (Sa.trans S) G
def ME(A:gI):Sp:=λvs H Q _=>∃(p dx:Addr) (fs:List (Str×V)) (a b c:Nat),vs=[.ref p,.int a,.int b,.int c]/\H p=some (.ins (A.cl .aM) dx fs)/\(fs=[]\/∃s f r,fs=pf s f r)/\
 ∀H' f' r',H' p=some (.ins (A.cl .aM) dx (pf (h_ a b c) f' r'))->H f'=none->H r'=none->H' f'=some (.lst [])->H' r'=some (.dK [])->(∀b o,H b=some o->b≠p->H' b=some o)->Q .kq H'
theorem Xj:bF ["self","size","chunk","spare"] ["self","size","chunk","spare"] (aY (Fn.st .oq)):=fs
theorem BW(T:Txt A K mg):dU P w K mg base pq 1 (A.f .oq) (A.fd .oq) ["self","size","chunk","spare"] (ME A):=by
 refine (T.fn .oq).ok Xj (λvs H Q E h=>?_) (λgX B outer s H vs Q E hr h=>?_)
 ·obtain ⟨p,dx,fs,a,b,c,rfl,_⟩:=h;rfl
 ·obtain ⟨p,dx,fs,a,b,c,rfl,h1,Zq,k⟩:=h;have C:=T.cls .aM
  refine ⟨_,ao (fU (pv 0) (pv 1) rfl)<|ao (fU (pv 0) (pv 2) rfl)<|ao (fU (pv 0) (pv 3) rfl)<|ao (fU (pv 0) (fy aA) rfl)<|ao (fU (pv 0) pI rfl)<|
   ao (fU (pv 0) bq rfl)<|ao (fU (pv 0) bq rfl)<|ao (fU (pv 0) bq rfl)<|ao (fU (pv 0) bq rfl)<|aF (fU (pv 0) bq rfl),?_⟩
  have N:∀f,f∈j9 .aM->ek K (A.cl .aM) f:=T.na .aM;rcases Zq with rfl|⟨s0,f0,r0,rfl⟩
  all_goals
   refine ⟨_,rfl,_,rfl,p,_,dx,_,rfl,h1,C,N "size" (by decide),aR rfl,?_⟩;refine ⟨_,rfl,_,rfl,p,_,dx,_,rfl,ak,C,N "chunk" (by decide),aR rfl,?_⟩;refine ⟨_,rfl,_,rfl,p,_,dx,_,rfl,ak,C,N "spare" (by decide),aR rfl,?_⟩;refine ⟨bH _,λf' Wt=>?_⟩;have FH:p≠f':=λz=>by rw[<-z,ak] at Wt;cases Wt
   have hf0:H f'=none:=by rw[az FH.symm,az FH.symm,az FH.symm] at Wt;exact Wt
   refine ⟨_,rfl,p,_,dx,_,rfl,(by rw[az FH];exact ak),C,N "free" (by decide),aR rfl,?_⟩;intro r' m9;have HB:p≠r':=λz=>by rw[<-z,ak] at m9;cases m9
   have R0:f'≠r':=λz=>by rw[<-z,az FH.symm,ak] at m9;cases m9
   have oZ:H r'=none:=by rw[az HB.symm,az R0.symm,az HB.symm,az HB.symm,az HB.symm] at m9;exact m9
   refine ⟨_,rfl,p,_,dx,_,rfl,(by rw[az HB];exact ak),C,N "runs" (by decide),aR rfl,?_⟩;refine ⟨_,rfl,p,_,dx,_,rfl,ak,C,N "asked" (by decide),aR rfl,?_⟩;refine ⟨_,rfl,p,_,dx,_,rfl,ak,C,N "refused" (by decide),aR rfl,?_⟩;refine ⟨_,rfl,p,_,dx,_,rfl,ak,C,N "came" (by decide),aR rfl,?_⟩;refine ⟨_,rfl,p,_,dx,_,rfl,ak,C,N "given_back" (by decide),aR rfl,?_⟩;refine ⟨_,rfl,p,_,dx,_,rfl,ak,C,N "most_owned" (by decide),aR rfl,?_⟩;refine k _ f' r' ak hf0 oZ ?_ ?_ λb' o e hb=>?_
   ·rw[az FH.symm,az FH.symm,az FH.symm,az FH.symm,az FH.symm,az FH.symm,az R0,az FH.symm,ak]
   ·rw[az HB.symm,az HB.symm,az HB.symm,az HB.symm,az HB.symm,az HB.symm,ak]
   ·rw[az hb,az hb,az hb,az hb,az hb,az hb,az (aQ e oZ),az hb,az (aQ e hf0),az hb,az hb,az hb];exact e
def MF(A:gI):Sp:=λvs H Q _=>∃(p dx:Addr),vs=[.ref p]/\H p=some (.ins (A.cl .aM) dx [])/\
 ∀H' f' r',H' p=some (.ins (A.cl .aM) dx (pf (h_ 0 1 0) f' r'))->H f'=none->H r'=none->H' f'=some (.lst [])->H' r'=some (.dK [])->(∀b o,H b=some o->b≠p->H' b=some o)->Q .kq H'
theorem Xg:bF ["self"] ["self"] (aY (Fn.st .qy)):=fs
theorem Kr(T:Txt A K mg):dU P w K mg base pq 2 (A.f .qy) (A.fd .qy) ["self"] (MF A):=by
 refine (T.fn .qy).ok Xg (λvs H Q E h=>?_) (λgX B outer s H vs Q E hr h=>?_)
 ·obtain ⟨p,dx,rfl,_⟩:=h;rfl
 ·obtain ⟨p,dx,rfl,h1,k⟩:=h;refine ⟨_,aF (bV (bK (pv 0) (T.cls .aM) (T.me .oq .aM rfl rfl) (BW T) hr (T.bn .oq) .nil c_ (aa bq (aa bq (aa bq aA))))),?_⟩;exact ⟨_,rfl,p,dx,_,rfl,h1,rfl,p,dx,[],0,1,0,rfl,h1,.inl rfl,k⟩
end
end Rm
namespace Rm
open PySem L2
abbrev aO:=Kg46Neutral.askOut
section
variable{P:Program}{w:World}{K:au}{mg:Str->Option Value}{base:Heap}{A:gI}
theorem fQ.xF{H:Hp}{τ:Tg}{p dx f r:Addr}{kvs:List (Key×V)}{gY:List Row}{mk:Int->Int}{s s':PS}(al:Al τ H)(h1:H p=some (.ins (A.cl .aM) dx (pf s f r)))(h2:kF H f (cV s.free))(h3:H r=some (.dK kvs))(h4:gy (nV H mk) kvs gY)(h5:gY.Perm (fB s))(t1:τ p=.pages)(t2:τ f=.free)(t3:τ r=.runs)
  (hf:s'.free=s.free) (hr:s'.runs=s.runs):
  dS uE τ τ H (upd H p (.ins (A.cl .aM) dx (pf s' f r)))/\fQ A (upd H p (.ins (A.cl .aM) dx (pf s' f r))) τ p mk s':=by
 have S:dS uE τ τ H (upd H p (.ins (A.cl .aM) dx (pf s' f r))):=.put id al h1 (by rw[t1];trivial) oY;exact ⟨S,dx,f,r,kvs,gY,ak,by rw[hf];exact h2.step S t2 id,S.kp t3 id h3,h4.imp (nV.mono λ_ _=>S.tup),(by show gY.Perm (cV (s'.runs.map rowOf));rw[hr];exact h5),t1,t2,t3⟩
theorem bB.same{H H':Hp}{τ:Tg}{g:Addr}{rs:List Int}{qs:List (List Int)}(h:bB A H τ g rs qs)(s:cY H H'):bB A H' τ g rs qs:=by
 obtain ⟨dx,r,a,as,h1,h2,h3,h4,t1,t2,t3⟩:=h.ex;exact ⟨dx,r,a,as,s _ _ h1,s _ _ h2,s _ _ h3,h4.mono λ_ _=>s _ _,t1,t2,t3⟩
def MB(A:gI):Sp:=λvs H Q _=>∃(τ:Tg) (p:Addr) (mk:Int->Int) (s:PS) (g:Addr) (rs:List Int) (q0:List (List Int)) (k:Nat),vs=[.ref p,.int k,.ref g]/\Al τ H/\fQ A H τ p mk s/\b6 s/\bB A H τ g rs q0/\q0.length<=900000/\
 ∀H' τ',dS TP τ τ' H H'->fQ A H' τ' p mk (fS k (s.free.length+1) s 0).1->bB A H' τ' g rs (q0++(fS k (s.free.length+1) s 0).2.2.map aO)->Q (.int ((fS k (s.free.length+1) s 0).2.1:Nat)) H'
theorem DB:bF ["self","most","given","before","surplus","highest","end","start"] ["self","most","given"] (aY (Fn.st .m5)):=fs
theorem xR(T:Txt A K mg):dU P w K mg base pq 2 (A.f .m5) (A.fd .m5) ["self","most","given"] (MB A):=by
 refine (T.fn .m5).ok DB (λvs H Q E h=>?_) (λgX B outer s H vs Q E hr h=>?_)
 ·obtain ⟨τ,p,mk,s,g,rs,q0,k,rfl,_⟩:=h;rfl
 ·obtain ⟨τ,p,mk,s,g,rs,q0,k0,rfl,al,v_,cI,hg,rj,k⟩:=h;have C:=T.cls .aM;have N:∀f,f∈j9 .aM->ek K (A.cl .aM) f:=T.na .aM
  refine ⟨_,ao (bY (i:=3) DB.nd rfl (bh rfl) (bz (pv 0) rfl))<|
   ao (bY (i:=4) DB.nd rfl (bh rfl) (bW gj (dh (tO (T.fn .gq) T.mK) hr rfl (T.o_ .gq rfl) (T.fn .gq).kp (T.bn .gq) .nil c_ (aa (bz (pv 0) rfl) aA)) (pv 1)))<|
   ao (rO PassesOwn.never (dz pK (pv 4) bq (dH _))<|
    ao (bY (i:=5) DB.nd rfl (bh rfl) (eY fE (bz (pv 0) rfl) (Fp Ao bq) (λ_ _=>rfl)))<|
    ao (bY (i:=6) DB.nd rfl (bh rfl) (eY ir (pv 5) bq (λ_ _=>rfl)))<|
    ao (bY (i:=7) DB.nd rfl (bh rfl) (cF (kC rfl) rfl T.mK.max eX (aa (eY ir (pv 5) bq (λ_ _=>rfl)) (aa (bW gj (pv 6) (pv 4)) aA))))<|
    ao (fU (pv 0) (dh (tN (T.fn .gn) T.mK) hr rfl (T.o_ .gn rfl) (T.fn .gn).kp (T.bn .gn) .nil c_ (aa (bz (pv 0) rfl) (aa (pv 7) (aa (pv 6) aA)))) rfl)<|
    ao (bV (bK (pv 2) (T.cls .eW) (T.me .oA .eW rfl rfl) (BZ T) hr (T.bn .oA) .nil c_ (aa (pv 7) (aa (bW gj (pv 6) (pv 7)) aA))))<|
    ao (su (pv 0) (bW gj (pv 6) (pv 7)) AU)<|
    aF (xK (i:=4) DB.nd rfl (bh rfl) (bW gj (pv 6) (pv 7)) QI))<|
   aF (bT (bW gj (bz (pv 0) rfl) (pv 3))),?_⟩
  obtain ⟨dx,f,r,kvs,gY,h1,h2,h3,h4,h5,t1,t2,t3⟩:=v_.ex;have U7:=cI.ku;refine ⟨_,rfl,p,_,dx,_,_,rfl,h1,C,N "given_back" (by decide),rfl,?_⟩;refine ⟨_,rfl,p,_,dx,_,_,rfl,h1,C,N "free" (by decide),rfl,f,cV s.free,rfl,h2,by rw[aj];omega,λH1 s1=>⟨_,rfl,_,_,rfl,rfl,?_⟩⟩;rw[uu];have S1:dS TP τ τ H H1:=.same id al s1
  refine ⟨λmm σ H2=>∃(gl n:Nat) (s2:PS) (q2:List iN) (τ2:Tg) (v5 v6 v7:Option V),σ=[some (.ref p),some (.int k0),some (.ref g),some (.int s.went),some (.int ((aK s2.free:Int)-k0)),v5,v6,v7]/\mm=aK s2.free/\
    dS TP τ τ2 H H2/\fQ A H2 τ2 p mk s2/\b6 s2/\bB A H2 τ2 g rs (q0++q2.map aO)/\q2.length+gl=s.free.length+1/\s2.went=s.went+n/\
    fS k0 (s.free.length+1) s 0=((fS k0 gl s2 n).1,(fS k0 gl s2 n).2.1,q2++(fS k0 gl s2 n).2.2)/\(aK s2.free-k0=0\/s2.free.length<gl),
   ⟨_,s.free.length+1,0,s,[],τ,none,none,none,rfl,rfl,S1,v_.same s1,cI,by simpa using hg.same s1,by simp,by simp,by simp,.inr (by omega)⟩,?_⟩
  rintro mm σ H2 ⟨gl,n,s2,q2,τ2,v5,v6,v7,rfl,rfl,S2,Eb,o4,lS,Le,hw2,OQ,a0_⟩;refine ⟨_,rfl,_,_,rfl,rfl,_,rfl,?_⟩;refine iP (λcd=>?_) (λcd=>?_)
  ·have Gb:0<aK s2.free-k0:=by
    have:=of_decide_eq_true cd;omega
   obtain ⟨x,hx⟩:∃x,s2.free.getLast?=some x:=by
    cases e:s2.free.getLast? with
    |some x=>exact ⟨x,rfl⟩
    |none=>
     rw[pB.mp e] at Gb;simp [aK] at Gb
   obtain ⟨OV,rfl⟩:∃OV,gl=OV+1:=⟨gl-1,by omega⟩
   obtain ⟨m,hm⟩:∃m,m=min (aK s2.free-k0) x.2:=⟨_,rfl⟩
   have CY:=(o4.vm (wM hx)).1;have Lg:0<m:=by omega
   have hmx:m<=x.2:=by omega
   obtain ⟨st1,SR⟩:=zd o4 hx hm Lg;have Ci:=o4.Jo (w:=s2.went+m) hx hmx Lg
   have Lc:fS k0 (OV+1) s2 n=((fS k0 OV {s2 with free:=bw s2.free (x.1+x.2-m) m,went:=s2.went+m} (n+m)).1,(fS k0 OV {s2 with free:=bw s2.free (x.1+x.2-m) m,went:=s2.went+m} (n+m)).2.1,.less (x.1+x.2-m) m::(fS k0 OV {s2 with free:=bw s2.free (x.1+x.2-m) m,went:=s2.went+m} (n+m)).2.2):=by
    show (match s2.free.getLast? with|none=>(s2,n,[])|some x=>_)=_;rw[hx];dsimp only;rw[if_neg (by omega),<-hm]
   have Uy:=p8 o4.yt Lg (EZ hx hmx);obtain ⟨dx,f,r,kvs,gY,h1,h2,h3,h4,h5,t1,t2,t3⟩:=Eb.ex;obtain ⟨fs,hf,Gd⟩:=id h2;have UY:(cV s2.free).getLast?=some (gQ x):=by rw[cV,List.getLast?_map,hx];rfl
   obtain ⟨bs,a,rfl,hbs,ha⟩:=Gd.last UY;have Rf:Gv ((bs++[a]).map V.ref) (-1)=some (V.ref a):=by rw[aG];exact CG _ _
   refine ⟨λσ' H'=>∃(τ2:Tg) (v5 v6 v7:Option V),σ'=[some (.ref p),some (.int k0),some (.ref g),some (.int s.went),some (.int ((aK (bw s2.free (x.1+x.2-m) m):Int)-k0)),v5,v6,v7]/\
    dS TP τ τ2 H H'/\fQ A H' τ2 p mk {s2 with free:=bw s2.free (x.1+x.2-m) m,went:=s2.went+m}/\bB A H' τ2 g rs (q0++(q2++[sW (x.1+x.2-m) m]).map aO),?_,?_⟩
   ·rintro σ' H' ⟨τ3,v5,v6,v7,rfl,S3,YS,sR⟩;refine ⟨_,?_,OV,n+m,{s2 with free:=bw s2.free (x.1+x.2-m) m,went:=s2.went+m},q2++[sW (x.1+x.2-m) m],τ3,v5,v6,v7,rfl,rfl,S3,YS,Ci,sR,?_,?_,?_,?_⟩
    ·show aK (bw s2.free (x.1+x.2-m) m)<aK s2.free;omega
    ·rw[aE];simp;omega
    ·show s2.went+m=_;omega
    ·rw[OQ,Lc];simp
    ·show aK (bw s2.free (x.1+x.2-m) m)-k0=0\/(bw s2.free (x.1+x.2-m) m).length<OV;omega
   ·refine ⟨_,rfl,p,_,dx,_,_,rfl,h1,C,N "free" (by decide),rfl,_,rfl,f,_,_,_,rfl,rfl,mY.of hf,Rf,?_⟩;refine ⟨_,rfl,a,_,_,_,rfl,rfl,lW.of ha,rfl,?_⟩;refine ⟨_,rfl,a,_,_,_,rfl,rfl,lW.of ha,rfl,_,rfl,_,rfl,_,_,rfl,rfl,_,_,rfl,?_⟩
    have est:(if ((gQ x).2-((aK s2.free:Int)-k0))>(gQ x).1 then ((gQ x).2-((aK s2.free:Int)-k0)) else (gQ x).1)=((x.1+x.2-m:Nat):Int):=by
     have z1:(gQ x).1=(x.1:Int):=rfl;have z2:(gQ x).2=((x.1+x.2:Nat):Int):=rfl;split<;>omega
    have een:(gQ x).2=((x.1+x.2-m+m:Nat):Int):=by simp only[gQ];omega
    rw[est,een];refine ⟨_,rfl,p,_,dx,_,_,rfl,h1,C,N "free" (by decide),rfl,_,rfl,_,rfl,f,cV s2.free,_,_,rfl,h2,by rw[aj];have:=o4.ku;omega,λH3 l' s3 HS lC=>?_⟩;rw[Uy] at lC;obtain ⟨as,wQ,Za⟩:=id lC;have S3:dS uE τ2 (gi τ2 l' .free) H2 H3:=(dS.same id S2.gW s3).tag HS wQ mE .free;have Pn:=S3.tg t1 h1;have Pk:=S3.tg t3 h3;refine ⟨_,rfl,p,_,dx,_,rfl,s3 _ _ h1,C,N "free" (by decide),aR rfl,?_⟩;obtain ⟨S4,G4⟩:=fQ.wF (A:=A) (f':=l') (fr:=bw s2.free (x.1+x.2-m) m) S3.gW (s3 _ _ h1) (s3 _ _ h3) (h4.imp (nV.mono λ_ _=>s3 _ _)) h5 Pn Pk lC eV;have LZ:=S3.trans S4;have wR:=lS.step LZ id
    change dS uE τ2 _ H2 (upd H3 p (.ins (A.cl .aM) dx (iO "free" (.ref l') (pf s2 f r)))) at LZ
    change bB A (upd H3 p (.ins (A.cl .aM) dx (iO "free" (.ref l') (pf s2 f r)))) _ g rs _ at wR
    change fQ A (upd H3 p (.ins (A.cl .aM) dx (iO "free" (.ref l') (pf s2 f r)))) _ p mk _ at G4
    generalize upd H3 p (.ins (A.cl .aM) dx (iO "free" (.ref l') (pf s2 f r)))=H4 at LZ wR G4;obtain ⟨Vq,gr,ga,gas,Vp,_⟩:=id wR.ex;refine ⟨_,rfl,g,Vq,_,rfl,Vp,rfl,_,rfl,_,rfl,_,rfl,_,_,rfl,rfl,_,g,rs,q0++q2.map aO,_,_,rfl,LZ.gW,wR,?_,λH5 S5 N2=>?_⟩
    ·rw[aE,aj];omega
    have G5:=G4.step S5 id id id;obtain ⟨WD,f5,r5,a2E,rw5,k1,k2,k3,k4,k5,u1,u2,u3⟩:=G5.ex;refine ⟨_,rfl,p,_,WD,_,_,rfl,k1,C,N "given_back" (by decide),rfl,_,rfl,_,rfl,_,_,rfl,rfl,_,_,rfl,rfl,WD,_,k1,aR rfl,?_⟩;obtain ⟨S6,G6⟩:=fQ.xF (A:=A) (s':={s2 with free:=bw s2.free (x.1+x.2-m) m,went:=s2.went+m}) S5.gW k1 k2 k3 k4 k5 u1 u2 u3 rfl rfl;have em:(((x.1+x.2-m+m:Nat):Int)-((x.1+x.2-m:Nat):Int))=(m:Int):=by omega
    have AX:iO "given_back" (V.int ((s2.went:Int)+(((x.1+x.2-m+m:Nat):Int)-((x.1+x.2-m:Nat):Int)))) (pf {s2 with free:=bw s2.free (x.1+x.2-m) m} f5 r5)=pf {s2 with free:=bw s2.free (x.1+x.2-m) m,went:=s2.went+m} f5 r5:=by
     rw[em];rfl
    have Ll:=N2.step S6 id;refine ⟨_,rfl,_,rfl,_,rfl,_,_,rfl,rfl,_,_,rfl,rfl,gi τ2 l' .free,some (V.ref a),some (V.int ((x.1+x.2-m+m:Nat):Int)),some (V.int ((x.1+x.2-m:Nat):Int)),?_,?_,?_,?_⟩
    ·have e4:((aK s2.free:Int)-k0)-(((x.1+x.2-m+m:Nat):Int)-((x.1+x.2-m:Nat):Int))=(aK (bw s2.free (x.1+x.2-m) m):Int)-k0:=by omega
     rw[<-e4];rfl
    ·rw[AX];exact S2.trans (((LZ.mono id uE.tp).trans (S5.mono id TA.tp)).trans (S6.mono id uE.tp))
    ·rw[AX];exact G6
    ·rw[AX]
     have e5:q0++(q2++[sW (x.1+x.2-m) m]).map aO=q0++q2.map aO++[[2,((x.1+x.2-m:Nat):Int),(((x.1+x.2-m+m:Nat):Int)-((x.1+x.2-m:Nat):Int))]]:=by
      rw[em,aG,cD];rfl
     rw[e5];exact Ll
  ·have Gb:aK s2.free-k0=0:=by
    have:¬_:=λz=>cd (decide_eq_true z);omega
   rw[Dr Gb] at OQ;rw[OQ] at k;obtain ⟨dx,f,r,kvs,gY,h1,h2,h3,h4,h5,t1,t2,t3⟩:=Eb.ex;refine ⟨_,rfl,p,_,dx,_,_,rfl,h1,C,N "given_back" (by decide),rfl,_,rfl,_,_,rfl,rfl,?_⟩;have e1:((s2.went:Int)-s.went)=(n:Int):=by omega
   show Q (V.int ((s2.went:Int)-s.went)) H2;rw[e1];exact k H2 τ2 S2 Eb (by simpa using lS)
end
end Rm
namespace Rm
open PySem L2
def fZ(s:PS)(n:Nat)(z:Int):PS×Bool:=
 if z<0\/(s.size:Int)<z+n\/({s with asked:=s.asked+1}:PS).owns z.toNat n=true then ({s with asked:=s.asked+1,refused:=s.refused+1},false)
 else ({s with asked:=s.asked+1,came:=s.came+n,free:=bP s.free (z.toNat,n),peak:=max s.peak (({s with asked:=s.asked+1,came:=s.came+n,free:=bP s.free (z.toNat,n)}:PS).pages)},true)
theorem xU{s:PS}{n:Nat}{rs:List Int}{i:Nat}{k:PS->Bool->qV jM}:d_ (CT s n k) (k (fZ s n (rs.getD i 0)).1 (fZ s n (rs.getD i 0)).2) rs i [.more n]:=by
 have h:=d_.ask (rs:=rs) (i:=i) (s:=some s) (q:=Kg45.Ask.more n) (k:=λh z=>match h with
  |none=>EU none (d8 (-9))
  |some t=>
   let t:={t with asked:=t.asked+1}
   if z<0\/(t.size:Int)<z+n\/t.owns z.toNat n=true then k {t with refused:=t.refused+1} false
   else
    let u:={t with came:=t.came+n,free:=bP t.free (z.toNat,n)}
    k {u with peak:=max u.peak u.pages} true)
 have h2:d_ (CT s n k) _ rs i [.more n]:=h;refine cast (congrArg (λx=>d_ (CT s n k) x rs i [.more n]) ?_) h2;generalize rs.getD i 0=z
 by_cases c:z<0\/(s.size:Int)<z+n\/({s with asked:=s.asked+1}:PS).owns z.toNat n=true
 ·have e:fZ s n z=({s with asked:=s.asked+1,refused:=s.refused+1},false):=if_pos c;rw[e];exact if_pos c
 ·have e:=show fZ s n z=_ from if_neg c
  rw[e];exact if_neg c
theorem pM{s:PS}{n:Nat}{z:Int}(h:b6 s)(hn:0<n):b6 (fZ s n z).1:=by
 unfold fZ;split
 ·exact ⟨h.size,h.yt,h.fin,h.sQ,h.dj,h.fr⟩
 ·rename_i c;simp only[not_or] at c;obtain ⟨c1,c2,c3⟩:=c;have ho:s.owns z.toNat n=false:=gh.mpr c3;have ql:=h.FI hn ho;obtain ⟨_,m1⟩:=h.rows;refine h.join (p:=z.toNat) (n:=n) hn rfl rfl (by omega) h.sQ h.dj (λx hx=>ql x ((m1 x).mpr (.inl hx))) (λr hr=>⟨h.fr r hr,?_⟩);have oZ:=(h.sQ r hr).1;refine fH λq=>?_;exact ql ((max r.first z.toNat:Nat):Int) ((m1 _).mpr (.inr (mG (q:=rowOf r) (aH hr) (by show (r.first:Int)<=_;omega) (by show _<((r.first+r.pages:Nat):Int);omega)))) ⟨by omega,by omega⟩
theorem tP{s:PS}{n:Nat}{z:Int}:(fZ s n z).1.runs=s.runs/\(fZ s n z).1.size=s.size/\(fZ s n z).1.chunk=s.chunk/\(fZ s n z).1.spare=s.spare/\(fZ s n z).1.went=s.went:=by
 unfold fZ;split<;>exact ⟨rfl,rfl,rfl,rfl,rfl⟩
section
variable{P:Program}{w:World}{K:au}{mg:Str->Option Value}{base:Heap}{A:gI}
def SW(A:gI):Sp:=λvs H Q _=>∃(τ:Tg) (p:Addr) (mk:Int->Int) (s:PS) (g:Addr) (rs:List Int) (q0:List (List Int)) (n:Nat),vs=[.ref p,.int n,.ref g]/\Al τ H/\fQ A H τ p mk s/\b6 s/\bB A H τ g rs q0/\q0.length<=900000/\0<n/\
 ∀H' τ',dS TP τ τ' H H'->fQ A H' τ' p mk (fZ s n (rs.getD q0.length 0)).1->bB A H' τ' g rs (q0++[[1,(n:Int)]])->Q (.bl (fZ s n (rs.getD q0.length 0)).2) H'
theorem P5:bF ["self","many","given","first","end"] ["self","many","given"] (aY (Fn.st .g7)):=fs
theorem DT(T:Txt A K mg):dU P w K mg base pq 3 (A.f .g7) (A.fd .g7) ["self","many","given"] (SW A):=by
 refine (T.fn .g7).ok P5 (λvs H Q E h=>?_) (λgX B outer s H vs Q E hr h=>?_)
 ·obtain ⟨τ,p,mk,s,g,rs,q0,n,rfl,_⟩:=h;rfl
 ·obtain ⟨τ,p,mk,s,g,rs,q0,n,rfl,al,v_,cI,hg,rj,hn,k⟩:=h;have C:=T.cls .aM;have N:∀f,f∈j9 .aM->ek K (A.cl .aM) f:=T.na .aM;have kr:i9 1 _:=hr.mono (by decide)
  refine ⟨_,ao (bY (i:=3) P5.nd rfl (bh rfl) (bK (pv 2) (T.cls .eW) (T.me .qK .eW rfl rfl) (KL T) kr (T.bn .qK) .nil c_ (aa (pv 1) aA)))<|
   ao (bY (i:=4) P5.nd rfl (bh rfl) (bW fM (pv 3) (pv 1)))<|
   ao (su (pv 0) bq AU)<|
   ao (fC (PW.pt (J4 (dz rS (pv 3) bq (dH _)) (J4 (dz pK (pv 4) (bz (pv 0) rfl) (dH _)) (J3 (oU (dh (Kw (T.fn .o7) T.mK) kr rfl (T.o_ .o7 rfl) (T.fn .o7).kp (T.bn .o7) .nil c_ (aa (jZ (pv 0) (T.cls .aM) (T.me .iW .aM rfl rfl) (Fy T) hr (T.bn .iW) .nil c_) (aa (pv 3) (aa (pv 4) aA)))))))))
    (ao (su (pv 0) bq AU)<|aF (bT zl)) cZ)<|
   ao (bV (bK (pv 0) (T.cls .aM) (T.me .gZ .aM rfl rfl) (AM T) hr (T.bn .gZ) .nil c_ (aa (pv 3) (aa (pv 4) aA))))<|
   ao (su (pv 0) (pv 1) AU)<|
   ao (fU (pv 0) (cF (kC rfl) rfl T.mK.max eX (aa (bz (pv 0) rfl) (aa (bW fM (dh (tO (T.fn .gq) T.mK) kr rfl (T.o_ .gq rfl) (T.fn .gq).kp (T.bn .gq) .nil c_ (aa (bz (pv 0) rfl) aA)) (jZ (pv 0) (T.cls .aM) (T.me .kI .aM rfl rfl) (u9 T) kr (T.bn .kI) .nil c_)) aA))) rfl)<|
   aF (bT zl),?_⟩
  obtain ⟨Vq,gr,ga,gas,Vp,_⟩:=id hg.ex;obtain ⟨z,hz⟩:∃z,z=rs.getD q0.length 0:=⟨_,rfl⟩
  refine ⟨_,rfl,g,Vq,_,rfl,Vp,rfl,_,rfl,τ,g,rs,q0,_,rfl,al,hg,by omega,λH1 S1 m_=>?_⟩;rw[<-hz] at k⊢;have YT:=v_.step S1 id id id;obtain ⟨dx,f,r,kvs,gY,h1,h2,h3,h4,h5,t1,t2,t3⟩:=YT.ex;refine ⟨_,rfl,_,rfl,_,_,rfl,rfl,?_⟩;refine ⟨_,rfl,p,_,dx,_,_,rfl,h1,C,N "asked" (by decide),rfl,_,_,rfl,rfl,dx,_,h1,aR rfl,?_⟩;obtain ⟨S2,G2⟩:=fQ.xF (A:=A) (s':={s with asked:=s.asked+1}) S1.gW h1 h2 h3 h4 h5 t1 t2 t3 rfl rfl;have lS:=m_.step S2 id;have Su:dS TP τ τ H _:=(S1.mono id TA.tp).trans (S2.mono id uE.tp)
  change dS TP τ τ H (upd H1 p (.ins (A.cl .aM) dx (iO "asked" (.int ((s.asked:Int)+1)) (pf s f r)))) at Su
  change fQ A (upd H1 p (.ins (A.cl .aM) dx (iO "asked" (.int ((s.asked:Int)+1)) (pf s f r)))) _ p mk _ at G2
  change bB A (upd H1 p (.ins (A.cl .aM) dx (iO "asked" (.int ((s.asked:Int)+1)) (pf s f r)))) _ g rs _ at lS
  generalize upd H1 p (.ins (A.cl .aM) dx (iO "asked" (.int ((s.asked:Int)+1)) (pf s f r)))=H2 at Su G2 lS;have o4:b6 {s with asked:=s.asked+1}:=⟨cI.size,cI.yt,cI.fin,cI.sQ,cI.dj,cI.fr⟩
  obtain ⟨dx,f,r,kvs,gY,h1,h2,h3,h4,h5,t1,t2,t3⟩:=G2.ex
  have fail:∀(H3:Hp) (D:Ends),D.rt=Q->cY H2 H3->z<0\/(s.size:Int)<z+n\/({s with asked:=s.asked+1}:PS).owns z.toNat n=true->
    Jq (Fc K (l7 0) (tC (.int 1)) T5 "refused") (yQ (tC (.bl false))) D [some (.ref p),some (.int n),some (.ref g),some (.int z),some (.int (z+n))] H3:=by
   intro H3 D hD s3 c;have e:fZ s n z=({s with asked:=s.asked+1,refused:=s.refused+1},false):=if_pos c;rw[e] at k;have S3:dS uE τ τ H2 H3:=.same id Su.gW s3;refine ⟨_,rfl,p,_,dx,_,_,rfl,s3 _ _ h1,C,N "refused" (by decide),rfl,_,_,rfl,rfl,dx,_,s3 _ _ h1,aR rfl,?_⟩;obtain ⟨S4,G4⟩:=fQ.xF (A:=A) (s':={s with asked:=s.asked+1,refused:=s.refused+1}) S3.gW (s3 _ _ h1) (h2.same s3) (s3 _ _ h3) (h4.imp (nV.mono λ_ _=>s3 _ _)) h5 t1 t2 t3 rfl rfl;show D.rt _ _;rw[hD];exact k _ _ (Su.trans ((S3.trans S4).mono id uE.tp)) G4 ((lS.step S3 id).step S4 id)
  refine ⟨_,rfl,_,_,rfl,rfl,_,rfl,?_⟩;refine iP (λc1=>?_) (λc1=>?_)
  ·exact lg (fail H2 _ rfl (.refl _) (.inl (of_decide_eq_true c1)))
  have A5:¬z<0:=λq=>c1 (decide_eq_true q);refine ⟨_,rfl,_,rfl,p,_,dx,_,_,rfl,h1,C,N "size" (by decide),rfl,_,_,rfl,rfl,_,rfl,?_⟩;refine iP (λc2=>?_) (λc2=>?_)
  ·exact lg (fail H2 _ rfl (.refl _) (.inr (.inl (of_decide_eq_true c2))))
  have Io:¬(s.size:Int)<z+n:=λq=>c2 (decide_eq_true q);refine ⟨_,rfl,p,dx,_,rfl,h1,rfl,τ,p,mk,_,rfl,G2,o4,λH3 l s3 hl lC=>?_⟩;obtain ⟨m,hm⟩:∃m:Nat,z=m:=⟨z.toNat,by omega⟩
  have hzn:z+n=((m+n:Nat):Int):=by omega
  have YX:=o4.owns (p:=m) hn;refine ⟨_,rfl,_,rfl,l,_,z,z+n,rfl,lC,by rw[aj];have:=o4.Az;omega,λH4 s4=>?_⟩
  have e1:((cV ({s with asked:=s.asked+1}:PS).rows).any λr=>decide (r.1<z+n)&&decide (z<r.2))=({s with asked:=s.asked+1}:PS).owns z.toNat n:=by
   rw[hzn,hm,aU,<-YX];rfl
  rw[e1];refine ⟨_,rfl,?_⟩;have V4:=s3.trans s4;refine iP (λc3=>?_) (λc3=>?_)
  ·exact fail H4 _ rfl V4 (.inr (.inr c3))
  have c3':=gh.mpr c3
  have cn:¬(z<0\/(s.size:Int)<z+n\/({s with asked:=s.asked+1}:PS).owns z.toNat n=true):=by
   rintro (q|q|q)
   ·exact A5 q
   ·exact Io q
   ·exact c3 q
  have e:=show fZ s n z=_ from if_neg cn
  rw[e] at k;have ez:z.toNat=m:=by omega
  rw[ez] at k c3';have S4:dS uE τ τ H2 H4:=.same id Su.gW V4;have ql:=o4.FI hn c3';obtain ⟨_,m1⟩:=o4.rows;have N7:=nL (p:=m) (n:=n) o4.yt hn (λx hx=>ql x ((m1 x).mpr (.inl hx)));refine ⟨_,rfl,p,dx,_,rfl,V4 _ _ h1,rfl,_,rfl,_,rfl,τ,p,mk,{s with asked:=s.asked+1},m,n,(by show [V.ref p,V.int z,V.int (z+n)]=_;rw[hzn,hm]),S4.gW,G2.same V4,o4.yt,o4.ku,hn,N7,λH5 τ5 S5 G5=>?_⟩;have N2:=(lS.step S4 id).step S5 id;have S05:=Su.trans ((S4.trans S5).mono id uE.tp);obtain ⟨dx,f,r,kvs,gY,h1,h2,h3,h4,h5,t1,t2,t3⟩:=G5.ex;refine ⟨_,rfl,p,_,dx,_,_,rfl,h1,C,N "came" (by decide),rfl,_,rfl,_,_,rfl,rfl,dx,_,h1,aR rfl,?_⟩;obtain ⟨S6,G6⟩:=fQ.xF (A:=A) (s':={s with asked:=s.asked+1,came:=s.came+n,free:=bP s.free (m,n)}) S5.gW h1 h2 h3 h4 h5 t1 t2 t3 rfl rfl;have Ll:=N2.step S6 id
  change dS uE τ5 τ5 H5 (upd H5 p (.ins (A.cl .aM) dx (iO "came" (.int ((s.came:Int)+n)) (pf {s with asked:=s.asked+1,free:=bP s.free (m,n)} f r)))) at S6
  change fQ A (upd H5 p (.ins (A.cl .aM) dx (iO "came" (.int ((s.came:Int)+n)) (pf {s with asked:=s.asked+1,free:=bP s.free (m,n)} f r)))) _ p mk _ at G6
  change bB A (upd H5 p (.ins (A.cl .aM) dx (iO "came" (.int ((s.came:Int)+n)) (pf {s with asked:=s.asked+1,free:=bP s.free (m,n)} f r)))) _ g rs _ at Ll
  generalize upd H5 p (.ins (A.cl .aM) dx (iO "came" (.int ((s.came:Int)+n)) (pf {s with asked:=s.asked+1,free:=bP s.free (m,n)} f r)))=H6 at S6 G6 Ll
  have UP:b6 {s with asked:=s.asked+1,came:=s.came+n,free:=bP s.free (m,n)}:=by
   have:=pM (z:=z) cI hn;rw[e,ez] at this;exact ⟨this.size,this.yt,this.fin,this.sQ,this.dj,this.fr⟩
  obtain ⟨dx,f,r,kvs,gY,h1,h2,h3,h4,h5,t1,t2,t3⟩:=G6.ex;refine ⟨_,rfl,p,_,dx,_,_,rfl,h1,C,N "most_owned" (by decide),rfl,_,rfl,p,_,dx,_,_,rfl,h1,C,N "free" (by decide),rfl,f,_,rfl,h2,by rw[aj];have:=UP.ku;omega,λH7 s7=>?_⟩;refine ⟨_,rfl,p,dx,_,rfl,s7 _ _ h1,rfl,τ5,p,mk,_,rfl,G6.same s7,UP,λH8 s8=>⟨_,_,rfl,rfl,_,_,rfl,?_⟩⟩;have RW:=s7.trans s8;have S8:dS uE τ5 τ5 H6 H8:=.same id S6.gW RW;rw[uu]
  have epk:(if (aK (bP s.free (m,n)):Int)+(((s.runs.map jU).sum:Nat):Int)>(s.peak:Int) then (aK (bP s.free (m,n)):Int)+(((s.runs.map jU).sum:Nat):Int) else (s.peak:Int))=((max s.peak (({s with asked:=s.asked+1,came:=s.came+n,free:=bP s.free (m,n)}:PS).pages):Nat):Int):=by
   unfold Di;dsimp only;split<;>omega
  refine ⟨_,rfl,p,_,dx,_,rfl,RW _ _ h1,C,N "most_owned" (by decide),aR rfl,?_⟩;obtain ⟨S9,G9⟩:=fQ.xF (A:=A) (s':={s with asked:=s.asked+1,came:=s.came+n,free:=bP s.free (m,n),peak:=max s.peak (({s with asked:=s.asked+1,came:=s.came+n,free:=bP s.free (m,n)}:PS).pages)}) S8.gW (RW _ _ h1) (h2.same RW) (RW _ _ h3) (h4.imp (nV.mono λ_ _=>RW _ _)) h5 t1 t2 t3 rfl rfl
  have AX:iO "most_owned" (.int (if (aK (bP s.free (m,n)):Int)+(((s.runs.map jU).sum:Nat):Int)>(s.peak:Int) then (aK (bP s.free (m,n)):Int)+(((s.runs.map jU).sum:Nat):Int) else (s.peak:Int))) (pf {s with asked:=s.asked+1,came:=s.came+n,free:=bP s.free (m,n)} f r)=pf {s with asked:=s.asked+1,came:=s.came+n,free:=bP s.free (m,n),peak:=max s.peak (({s with asked:=s.asked+1,came:=s.came+n,free:=bP s.free (m,n)}:PS).pages)} f r:=by
   rw[epk];rfl
  refine k _ τ5 ?_ ?_ ?_
  ·refine S05.trans ((S6.trans (S8.trans ?_)).mono id uE.tp);rw[<-AX] at S9;exact S9
  ·rw[<-AX] at G9;exact G9
  ·have:=(Ll.step S8 id).step S9 id;rw[<-AX] at this;exact this
end
end Rm
namespace Rm
open PySem L2
def kW(s:PS)(n:Nat)(rs:List Int)(i:Nat):PS×List iN:=
 if (fZ s (max s.chunk n) (rs.getD i 0)).2=true then ((fZ s (max s.chunk n) (rs.getD i 0)).1,[.more (max s.chunk n)])
 else if n<s.chunk then ((fZ (fZ s (max s.chunk n) (rs.getD i 0)).1 n (rs.getD (i+1) 0)).1,[.more (max s.chunk n),.more n])
 else ((fZ s (max s.chunk n) (rs.getD i 0)).1,[.more (max s.chunk n)])
def iT(s:PS)(n:Nat)(rs:List Int)(i:Nat):PS×Option Nat×List iN:=match s.taken n 1 4 with
 |some x=>(x.1,some x.2,[])
 |none=>match (kW s n rs i).1.taken n 1 4 with
  |some x=>(x.1,some x.2,(kW s n rs i).2)
  |none=>((kW s n rs i).1,none,(kW s n rs i).2)
theorem w6{s:PS}{n:Nat}{rs:List Int}{i:Nat}(h:b6 s)(hn:0<n):b6 (kW s n rs i).1:=by
 unfold kW;split
 ·exact pM h (by omega)
 ·split
  ·exact pM (pM h (by omega)) hn
  ·exact pM h (by omega)
theorem z_{s:PS}{n:Nat}{rs:List Int}{i:Nat}:(kW s n rs i).1.runs=s.runs/\(kW s n rs i).1.size=s.size/\(kW s n rs i).1.chunk=s.chunk/\(kW s n rs i).1.spare=s.spare/\(kW s n rs i).1.went=s.went:=by
 obtain ⟨a1,a2,a3,a4,a5⟩:=tP (s:=s) (n:=max s.chunk n) (z:=rs.getD i 0);unfold kW;split
 ·exact ⟨a1,a2,a3,a4,a5⟩
 ·split
  ·obtain ⟨b1,b2,b3,b4,b5⟩:=tP (s:=(fZ s (max s.chunk n) (rs.getD i 0)).1) (n:=n) (z:=rs.getD (i+1) 0);exact ⟨b1.trans a1,b2.trans a2,b3.trans a3,b4.trans a4,b5.trans a5⟩
  ·exact ⟨a1,a2,a3,a4,a5⟩
theorem xV{s:PS}{n:Nat}{z:Int}(h:(fZ s n z).2=false):(fZ s n z).1.free=s.free:=by
 unfold fZ at*;split
 ·rfl
 ·rename_i c;rw[if_neg c] at h;cases h
theorem xo{s t:PS}{n:Nat}(hf:t.free=s.free)(h:s.taken n 1 4=none):t.taken n 1 4=none:=by
 unfold jT at*;rw[hf];cases e:jQ s.free n 1 with
 |none=>rfl
 |some p=>rw[e] at h;cases h
theorem xq{s:PS}{n:Nat}{rs:List Int}{i:Nat}(hn:1<=n/\n<=16384):
  d_ (gG (some s) (.take n 0 4)) (.done (some (iT s n rs i).1) (d8 (match (iT s n rs i).2.1 with|some p=>(p:Int)|none=> -7))) rs i (iT s n rs i).2.2:=by
 have e0:gG (some s) (.take n 0 4)=(match s.taken n 1 4 with|some x=>.done (some x.1) (d8 x.2)|none=>Kg45.seek n 1 4 (Jh s.chunk n 0) s):=by
  have c:¬((bO (n:Int) 1 16384&&(bO 0 0 10&&bO 4 0 7))=false):=by
   have:bO (n:Int) 1 16384=true:=by unfold bO;simp;omega
   rw[this]
   decide
  show (if (bO (n:Int) 1 16384&&(bO 0 0 10&&bO 4 0 7))=false then _ else _)=_;rw[if_neg c];rfl
 rw[e0];unfold iT;cases e1:s.taken n 1 4 with
 |some x=>exact .refl
 |none=>
  dsimp only
  have ew:Jh s.chunk n 0=max s.chunk n::(if n<s.chunk then [n] else []):=by
   unfold Jh;have:n+2^0-1=n:=by omega
   simp only[this];split<;>simp
  rw[ew];show d_ (CT s (max s.chunk n) _) _ rs i _
  have h1:=xU (s:=s) (n:=max s.chunk n) (rs:=rs) (i:=i) (k:=λt came=>if came=false then Kg45.seek n 1 4 (if n<s.chunk then [n] else []) t else match t.taken n 1 4 with
   |some x=>.done (some x.1) (d8 x.2)
   |none=>.done (some t) (d8 (-7)))
  unfold kW;cases c1:(fZ s (max s.chunk n) (rs.getD i 0)).2 with
  |true=>
   rw[c1] at h1;rw[if_pos rfl];dsimp only;cases e2:(fZ s (max s.chunk n) (rs.getD i 0)).1.taken n 1 4 with
   |some x=>exact h1.to (by rw[if_neg (by decide),e2])
   |none=>exact h1.to (by rw[if_neg (by decide),e2])
  |false=>
   rw[c1] at h1;rw[if_neg (show¬(false=true) by decide)];have f1:=xV c1
   by_cases c2:n<s.chunk
   ·simp only[if_pos c2];rw[if_pos rfl,if_pos c2] at h1
    have h2:=xU (s:=(fZ s (max s.chunk n) (rs.getD i 0)).1) (n:=n) (rs:=rs) (i:=i+1) (k:=λt came=>if came=false then Kg45.seek n 1 4 [] t else match t.taken n 1 4 with
     |some x=>.done (some x.1) (d8 x.2)
     |none=>.done (some t) (d8 (-7)))
    have h3:=d_.trans h1 (V7:=[_]) h2;cases c3:(fZ (fZ s (max s.chunk n) (rs.getD i 0)).1 n (rs.getD (i+1) 0)).2 with
    |true=>
     rw[c3] at h3;cases e2:(fZ (fZ s (max s.chunk n) (rs.getD i 0)).1 n (rs.getD (i+1) 0)).1.taken n 1 4 with
     |some x=>simp only[e2];exact h3.to (by rw[if_neg (by decide),e2])
     |none=>simp only[e2];exact h3.to (by rw[if_neg (by decide),e2])
    |false=>
     rw[c3] at h3;have f2:=xV c3;simp only[xo (f2.trans f1) e1];exact h3.to (by rw[if_pos rfl];rfl)
   ·simp only[if_neg c2];rw[if_pos rfl,if_neg c2] at h1;simp only[xo f1 e1];exact h1.to rfl
theorem Bw{s:PS}{n:Nat}{rs:List Int}{i:Nat}(h:b6 s)(hn:0<n):b6 (iT s n rs i).1:=by
 unfold iT;cases e1:s.taken n 1 4 with
 |some x=>exact (h.taken hn e1).1
 |none=>
  dsimp only;cases e2:(kW s n rs i).1.taken n 1 4 with
  |some x=>exact ((w6 h hn).taken hn e2).1
  |none=>exact w6 h hn
section
variable{P:Program}{w:World}{K:au}{mg:Str->Option Value}{base:Heap}{A:gI}
def Js(s:PS):List Int:=[(s.pages:Int),aK s.free,(s.runs.map jU).sum,s.asked,s.refused,s.came,s.went,s.peak]
def MC(A:gI):Sp:=λvs H Q _=>∃(τ:Tg) (p:Addr) (mk:Int->Int) (s:PS),vs=[.ref p]/\fQ A H τ p mk s/\b6 s/\∀H' l,cY H H'->H l=none->H' l=some (.lst ((Js s).map V.int))->Q (.ref l) H'
theorem M6:bF ["self","free","taken","counted"] ["self"] (aY (Fn.st .qw)):=fs
theorem Kp(T:Txt A K mg):dU P w K mg base pq 2 (A.f .qw) (A.fd .qw) ["self"] (MC A):=by
 refine (T.fn .qw).ok M6 (λvs H Q E h=>?_) (λgX B outer s H vs Q E hr h=>?_)
 ·obtain ⟨τ,p,mk,s,rfl,_⟩:=h;rfl
 ·obtain ⟨τ,p,mk,s,rfl,v_,cI,k⟩:=h;obtain ⟨dx,f,r,kvs,gY,h1,h2,h3,h4,h5,t1,t2,t3⟩:=id v_.ex;have C:=T.cls .aM;have N:∀f,f∈j9 .aM->ek K (A.cl .aM) f:=T.na .aM
  refine ⟨_,ao (bY (i:=1) M6.nd rfl (bh rfl) (dh (tO (T.fn .gq) T.mK) hr rfl (T.o_ .gq rfl) (T.fn .gq).kp (T.bn .gq) .nil c_ (aa (bz (pv 0) rfl) aA)))<|
   ao (bY (i:=2) M6.nd rfl (bh rfl) (jZ (pv 0) (T.cls .aM) (T.me .kI .aM rfl rfl) (u9 T) hr (T.bn .kI) .nil c_))<|
   ao (bY (i:=3) M6.nd rfl (bh rfl) (fy (aa (bz (pv 0) rfl) (aa (bz (pv 0) rfl) (aa (bz (pv 0) rfl) (aa (bz (pv 0) rfl) (aa (bz (pv 0) rfl) aA)))))))<|
   aF (bT (bW oX (fy (aa (bW fM (pv 1) (pv 2)) (aa (pv 1) (aa (pv 2) aA)))) (pv 3))),?_⟩
  refine ⟨_,rfl,p,_,dx,_,_,rfl,h1,C,N "free" (by decide),rfl,f,_,rfl,h2,by rw[aj];have:=cI.ku;omega,λH1 s1=>?_⟩;refine ⟨_,rfl,p,dx,_,rfl,s1 _ _ h1,rfl,τ,p,mk,s,rfl,v_.same s1,cI,λH2 s2=>?_⟩;have V5:=s1.trans s2;have Co:=V5 _ _ h1;refine ⟨_,rfl,p,_,dx,_,_,rfl,Co,C,N "asked" (by decide),rfl,_,rfl,p,_,dx,_,_,rfl,Co,C,N "refused" (by decide),rfl,_,rfl,p,_,dx,_,_,rfl,Co,C,N "came" (by decide),rfl,_,rfl,p,_,dx,_,_,rfl,Co,C,N "given_back" (by decide),rfl,_,rfl,p,_,dx,_,_,rfl,Co,C,N "most_owned" (by decide),rfl,(by show 5<=sizeLine;decide),λl1 nF=>?_⟩;have s3:=V5.trans (aX (o:=.lst [.int s.asked,.int s.refused,.int s.came,.int s.went,.int s.peak]) nF);refine ⟨_,rfl,_,rfl,_,_,rfl,rfl,_,rfl,_,rfl,(by show 3<=sizeLine;decide),λl2 tV=>?_⟩;refine ⟨_,rfl,l2,l1,_,_,rfl,rfl,ak,aX tV _ _ ak,(by show 8<=sizeLine;decide),λl3 wQ=>?_⟩;refine k _ l3 ((s3.trans (aX tV)).trans (aX wQ)) ((s3.trans (aX tV)).free wQ) ?_;rw[ak,uu];rfl
def Pu(A:gI):Sp:=λvs H Q _=>∃(τ:Tg) (p:Addr) (mk:Int->Int) (s:PS) (g:Addr) (rs:List Int) (q0:List (List Int)) (n:Nat),vs=[.ref p,.int n,.int 1,.ref g]/\Al τ H/\fQ A H τ p mk s/\b6 s/\bB A H τ g rs q0/\q0.length<=800000/\0<n/\
 ∀H' τ',dS TP τ τ' H H'->fQ A H' τ' p mk (kW s n rs q0.length).1->bB A H' τ' g rs (q0++(kW s n rs q0.length).2.map aO)->Q .kq H'
theorem TF:bF ["self","many","multiple","given","enough"] ["self","many","multiple","given"] (aY (Fn.st .kY)):=fs
theorem Nv(T:Txt A K mg):dU P w K mg base pq 4 (A.f .kY) (A.fd .kY) ["self","many","multiple","given"] (Pu A):=by
 refine (T.fn .kY).ok TF (λvs H Q E h=>?_) (λgX B outer s H vs Q E hr h=>?_)
 ·obtain ⟨τ,p,mk,s,g,rs,q0,n,rfl,_⟩:=h;rfl
 ·obtain ⟨τ,p,mk,s,g,rs,q0,n,rfl,al,v_,cI,hg,rj,hn,k⟩:=h;have C:=T.cls .aM;have N:∀f,f∈j9 .aM->ek K (A.cl .aM) f:=T.na .aM
  refine ⟨_,ao (bY (i:=4) TF.nd rfl (bh rfl) (bW gj (bW fM (pv 1) (pv 2)) bq))<|
   ao (fC (oU (bK (pv 0) (T.cls .aM) (T.me .g7 .aM rfl rfl) (DT T) hr (T.bn .g7) .nil c_ (aa (cF (kC rfl) rfl T.mK.max eX (aa (bz (pv 0) rfl) (aa (pv 4) aA))) (aa (pv 3) aA)))) (aF AG) cZ)<|
   ao (fC (PW.pt (AB (dz pK (bz (pv 0) rfl) (pv 4) (dH _)) (wG (oU (bK (pv 0) (T.cls .aM) (T.me .g7 .aM rfl rfl) (DT T) hr (T.bn .g7) .nil c_ (aa (pv 4) (aa (pv 3) aA))))))) (aF AG) cZ)<|
   aF (fC (dz pK (pv 2) bq (dH _)) (aF (bV (bK (pv 0) (T.cls .aM) (T.me .g7 .aM rfl rfl) (DT T) hr (T.bn .g7) .nil c_ (aa (pv 1) (aa (pv 3) aA))))) cZ),?_⟩
  obtain ⟨dx,f,r,kvs,gY,h1,h2,h3,h4,h5,t1,t2,t3⟩:=id v_.ex;refine ⟨_,rfl,_,rfl,_,_,rfl,rfl,_,_,rfl,rfl,?_⟩;have en:((n:Int)+1-1)=n:=by omega
  have emx:(if ((n:Int)+1-1)>(s.chunk:Int) then ((n:Int)+1-1) else (s.chunk:Int))=((max s.chunk n:Nat):Int):=by split<;>omega
  refine ⟨_,rfl,p,dx,_,rfl,h1,rfl,_,rfl,p,_,dx,_,_,rfl,h1,C,N "chunk" (by decide),rfl,_,rfl,_,_,rfl,_,rfl,τ,p,mk,s,g,rs,q0,max s.chunk n,by rw[emx];rfl,al,v_,cI,hg,by omega,by omega,λH1 τ1 S1 G1 m_=>?_⟩;refine ⟨_,rfl,?_⟩;cases c1:(fZ s (max s.chunk n) (rs.getD q0.length 0)).2 with
  |true=>
   refine lg ?_;have e:kW s n rs q0.length=((fZ s (max s.chunk n) (rs.getD q0.length 0)).1,[.more (max s.chunk n)]):=by unfold kW;rw[c1,if_pos rfl]
   rw[e] at k;exact k H1 τ1 S1 G1 m_
  |false=>
   refine mJ ?_;obtain ⟨dx,f,r,kvs,gY,h1,h2,h3,h4,h5,t1,t2,t3⟩:=id G1.ex;have ech:(fZ s (max s.chunk n) (rs.getD q0.length 0)).1.chunk=s.chunk:=tP.2.2.1;refine ⟨_,rfl,p,_,dx,_,_,rfl,h1,C,N "chunk" (by decide),rfl,_,rfl,_,_,rfl,rfl,_,rfl,?_⟩
   have fin:∀(D:Ends) (H3:Hp) (τ3:Tg),D.nx=(λ_ H'=>Q .kq H')->dS TP τ τ3 H H3->fQ A H3 τ3 p mk (kW s n rs q0.length).1->bB A H3 τ3 g rs (q0++(kW s n rs q0.length).2.map aO)->∀a:TS,
     SM (E1 (Pc (J2 λi j=>V.bl (decide (j<i))) (l7 2) (tC (.int 1)))) a Ox D [some (.ref p),some (.int n),some (.int 1),some (.ref g),some (.int ((n:Int)+1-1))] H3:=by
    intro D H3 τ3 hD S3 G3 sR a;refine ⟨_,rfl,_,_,rfl,rfl,_,rfl,mJ ?_⟩;show D.nx _ _;rw[hD];exact k H3 τ3 S3 G3 sR
   refine iP (λc2=>?_) (λc2=>?_)
   ·have Io:n<s.chunk:=by
     have:=of_decide_eq_true c2;rw[ech] at this;omega
    have HQ:=pM (z:=rs.getD q0.length 0) cI (show 0<max s.chunk n by omega);refine ⟨_,rfl,p,dx,_,rfl,h1,rfl,_,rfl,_,rfl,τ1,p,mk,_,g,rs,_,n,(by show [V.ref p,V.int ((n:Int)+1-1),V.ref g]=_;rw[en]),S1.gW,G1,HQ,m_,by rw[aE];simp;omega,hn,λH2 τ2 S2 G2 lS=>?_⟩;have el:(q0++[[1,((max s.chunk n:Nat):Int)]]).length=q0.length+1:=by simp
    rw[el] at G2⊢;have e:kW s n rs q0.length=((fZ (fZ s (max s.chunk n) (rs.getD q0.length 0)).1 n (rs.getD (q0.length+1) 0)).1,[.more (max s.chunk n),.more n]):=by unfold kW;rw[c1,if_neg (by decide),if_pos Io]
    have U6:bB A H2 τ2 g rs (q0++(kW s n rs q0.length).2.map aO):=by
     rw[e];rw[cD] at lS;exact lS
    refine ⟨_,rfl,?_⟩;refine iP (λc3=>?_) (λc3=>?_)
    ·exact k H2 τ2 (S1.trans S2) (by rw[e];exact G2) U6
    ·exact fin _ H2 τ2 rfl (S1.trans S2) (by rw[e];exact G2) U6 _
   ·have Io:¬n<s.chunk:=λz=>c2 (decide_eq_true (by rw[ech];omega));have e:kW s n rs q0.length=((fZ s (max s.chunk n) (rs.getD q0.length 0)).1,[.more (max s.chunk n)]):=by unfold kW;rw[c1,if_neg (by decide),if_neg Io]
    refine mJ ?_;exact fin _ H1 τ1 rfl S1 (by rw[e];exact G1) (by rw[e];exact m_) _
theorem Nf{s:PS}{n p:Nat}(cI:b6 s)(hn:0<n)(qm:CK s.free p n){gY:List Row}(h5:gY.Perm (fB s))(m:Nat):
  bM gY (p:Int)=none/\(dY gY (p:Int) ((p+n:Nat):Int)).Perm (fB {s with free:=bw s.free p n,runs:=iI s.runs ⟨p,n,m,[]⟩}):=by
 have ql:bM gY (p:Int)=none:=by
  rw[lz];intro hm;obtain ⟨q,hq,e⟩:=aq.mp hm;obtain ⟨r',m9,rfl⟩:=aq.mp (h5.mem_iff.mp hq);obtain ⟨r,hr,rfl⟩:=aq.mp m9;have e':(r.first:Int)=p:=e;exact cI.fr r hr (p:Int) (qm.mem (by omega) (by omega)) ⟨by omega,by have:=(cI.sQ r hr).1;omega⟩
 refine ⟨ql,?_⟩;rw[iU ql]
 have e1:(fB {s with free:=bw s.free p n,runs:=iI s.runs ⟨p,n,m,[]⟩}).Perm (gQ (p,n)::fB s):=by
  show (cV ((iI s.runs ⟨p,n,m,[]⟩).map rowOf)).Perm _;exact ((ow s.runs ⟨p,n,m,[]⟩).map rowOf).map gQ
 refine (mO.trans ?_).trans e1.symm;exact h5.cons _
def E5(A:gI):Sp:=λvs H Q E=>∃(τ:Tg) (p:Addr) (mk:Int->Int) (s:PS) (g:Addr) (rs:List Int) (q0:List (List Int)) (n:Nat) (m:Int),vs=[.ref p,.int n,.int 0,.int m,.ref g]/\Al τ H/\fQ A H τ p mk s/\b6 s/\bB A H τ g rs q0/\q0.length<=800000/\0<n/\0<=m/\m<=7/\
 (¬n<=16384->E (.ref (A.ex .b7)) none H)/\
 (n<=16384->∀H' τ' a,(iT s n rs q0.length).2.1=some a->dS TP τ τ' H H'->fQ A H' τ' p (λx=>if x=(a:Int) then m else mk x) (iT s n rs q0.length).1->bB A H' τ' g rs (q0++(iT s n rs q0.length).2.2.map aO)->Q (.int (a:Nat)) H')/\
 (n<=16384->∀H' τ',(iT s n rs q0.length).2.1=none->dS TP τ τ' H H'->fQ A H' τ' p mk (iT s n rs q0.length).1->bB A H' τ' g rs (q0++(iT s n rs q0.length).2.2.map aO)->E (.ref (A.ex .dg)) none H')
theorem M5:bF ["self","many","exponent","mark","given","multiple","first"] ["self","many","exponent","mark","given"] (aY (Fn.st .m6)):=fs
def oN:Option Nat->V
 |none=>.kq
 |some z=>.int (z:Nat)
theorem FP(s:PS)(n:Nat):loV (lp (cV s.free) n 1)=oN (jQ s.free n 1):=by
 have e:lp (cV s.free) n 1=(jQ s.free n 1).map λp=>(p:Int):=FQ n 1 (by decide) s.free;rw[e];cases jQ s.free n 1<;>rfl
theorem Ko(T:Txt A K mg):dU P w K mg base (l8 P w) 5 (A.f .m6) (A.fd .m6) ["self","many","exponent","mark","given"] (E5 A):=by
 refine rT (T.fn .m6) M5 (λvs H Q E h=>?_) (λgX B outer sh H vs Q E hr h=>?_)
 ·obtain ⟨τ,p,mk,s,g,rs,q0,n,m,rfl,_⟩:=h;rfl
 ·obtain ⟨τ,p,mk,s,g,rs,q0,n,m,rfl,al,v_,cI,hg,rj,hn,Lg,Y8,kE,kQ,kN⟩:=h;have C:=T.cls .aM;have N:∀f,f∈j9 .aM->ek K (A.cl .aM) f:=T.na .aM;have kr:i9 1 _:=hr.mono (by decide);have hu:=jJ hr
  have TL:∃tl,A6 (qt (l8 P w) P w K mg base ["self","many","exponent","mark","given","multiple","first"] (Fn.qual .m6) (aY (Fn.st .m6)) (A.f .m6) gX B outer sh H E) ((oE (Fn.st .m6)).drop 6) tl/\
    ∀(s2:PS) (τ2:Tg) (H2:Hp) (qs:List iN),n<=16384->dS TP τ τ2 H H2->fQ A H2 τ2 p mk s2->b6 s2->bB A H2 τ2 g rs (q0++qs.map aO)->
     iT s n rs q0.length=(match s2.taken n 1 4 with|some x=>(x.1,some x.2,qs)|none=>(s2,none,qs))->
     tl {nx:=λ_ H'=>Q .kq H',rt:=Q} [some (.ref p),some (.int n),some (.int 0),some (.int m),some (.ref g),some (.int 1),some (oN (jQ s2.free n 1))] H2:=by
   refine ⟨_,ao (fC (uZ (DR (pv 6))) (aF (nS rfl tH (T.exc .dg) rfl (T.FO .dg))) cZ)<|
    ao (fU (pv 0) (dh (tN (T.fn .gn) T.mK) kr rfl (T.o_ .gn rfl) (T.fn .gn).kp (T.bn .gn) .nil c_ (aa (bz (pv 0) rfl) (aa (pv 6) (aa (bW fM (pv 6) (pv 1)) aA)))) rfl)<|
    ao (nA hu (bz (pv 0) rfl) (pv 6) (k_ (aa (bW fM (pv 6) (pv 1)) (aa (pv 3) aA))) rfl)<|
    aF (bT (pv 6)),?_⟩
   intro s2 τ2 H2 qs C0 S2 G2 o4 lS Wi;have kQ:=kQ C0;have kN:=kN C0;refine ⟨_,rfl,_,rfl,?_⟩;cases ef:jQ s2.free n 1 with
   |none=>
    refine lg ?_;have e2:s2.taken n 1 4=none:=by unfold jT;rw[ef];rfl
    rw[e2] at Wi;rw[Wi] at kN;exact kN H2 τ2 rfl S2 G2 lS
   |some a=>
    refine mJ ?_;have e2:s2.taken n 1 4=some ({s2 with free:=bw s2.free a n,runs:=iI s2.runs ⟨a,n,4,[]⟩},a):=by unfold jT;rw[ef];rfl
    rw[e2] at Wi;rw[Wi] at kQ;have qm:=Gj ef;obtain ⟨dx,f,r,kvs,gY,h1,h2,h3,h4,h5,t1,t2,t3⟩:=G2.ex;have Uy:=p8 o4.yt hn qm;refine ⟨_,rfl,p,_,dx,_,_,rfl,h1,C,N "free" (by decide),rfl,_,rfl,_,rfl,_,rfl,_,_,rfl,rfl,f,cV s2.free,_,_,rfl,h2,by rw[aj];have:=o4.ku;omega,λH3 l' s3 HS lC=>?_⟩;have ean:((a:Int)+n)=((a+n:Nat):Int):=by omega
    rw[ean,Uy] at lC;obtain ⟨as,wQ,Za⟩:=id lC;have S3:dS uE τ2 (gi τ2 l' .free) H2 H3:=(dS.same id S2.gW s3).tag HS wQ mE .free;have Pn:=S3.tg t1 h1;have Pk:=S3.tg t3 h3;refine ⟨_,rfl,p,_,dx,_,rfl,s3 _ _ h1,C,N "free" (by decide),aR rfl,?_⟩;obtain ⟨S4,G4⟩:=fQ.wF (A:=A) (f':=l') (fr:=bw s2.free a n) S3.gW (s3 _ _ h1) (s3 _ _ h3) (h4.imp (nV.mono λ_ _=>s3 _ _)) h5 Pn Pk lC eV;have LZ:=S3.trans S4;have wR:=lS.step LZ id
    change dS uE τ2 _ H2 (upd H3 p (.ins (A.cl .aM) dx (iO "free" (.ref l') (pf s2 f r)))) at LZ
    change bB A (upd H3 p (.ins (A.cl .aM) dx (iO "free" (.ref l') (pf s2 f r)))) _ g rs _ at wR
    change fQ A (upd H3 p (.ins (A.cl .aM) dx (iO "free" (.ref l') (pf s2 f r)))) _ p mk _ at G4
    generalize upd H3 p (.ins (A.cl .aM) dx (iO "free" (.ref l') (pf s2 f r)))=H4 at LZ wR G4;obtain ⟨dx,f,r,kvs,gY,h1,h2,h3,h4,h5,t1,t2,t3⟩:=G4.ex;refine ⟨_,rfl,_,rfl,_,_,rfl,rfl,_,rfl,(by show 2<=sizeLine;decide),λtt htt=>?_⟩;have st:=aX (o:=.tup [.int ((a:Int)+n),.int m]) htt;have ZP:gY.Perm (fB s2):=h5;obtain ⟨q1,q2⟩:=Nf o4 hn qm ZP 4;refine ⟨_,rfl,p,_,dx,_,_,rfl,st _ _ h1,C,N "runs" (by decide),rfl,_,rfl,r,_,rfl,vv.k (k:=aW (a:Int)) (st _ _ h3) (big (by rw[h4.len,rP ZP];have:=o4.t9;omega)),?_⟩;have St:dS EB (gi τ2 l' .free) (gi τ2 l' .free) H4 (upd H4 tt (.tup [.int ((a:Int)+n),.int m])):=.new id LZ.gW htt
    obtain ⟨S6,G6⟩:=fQ.AD (A:=A) (s':={s2 with free:=bw s2.free a n,runs:=iI s2.runs ⟨a,n,4,[]⟩}) (mk':=λx=>if x=(a:Int) then m else mk x) (k:=(a:Int)) (e:=((a+n:Nat):Int)) St.gW (st _ _ h1) (h2.same st) (st _ _ h3) (h4.imp (nV.mono λ_ _=>st _ _)) t1 t2 t3
     (by rw[if_pos rfl,<-ean];exact ak) (λx hx=>if_neg hx) rfl rfl q2
    have S46:=St.trans S6;exact ⟨_,rfl,kQ _ _ a rfl (S2.trans ((LZ.mono id uE.tp).trans (S46.mono id EB.tp))) G6 (wR.step S46 id)⟩
  obtain ⟨tl,Lc,Cf⟩:=TL
  refine ⟨_,ao (bV (dh (gH T) kr rfl (T.o_ .aS rfl) (T.fn .aS).kp (T.bn .aS) .nil dP (aa (pv 1) (aa bq (aa (pk 16384 T) aA)))))<|
   ao (bV (dh (gH T) kr rfl (T.o_ .aS rfl) (T.fn .aS).kp (T.bn .aS) .nil dP (aa (pv 2) (aa bq (aa (pk 10 T) aA)))))<|
   ao (bV (dh (gH T) kr rfl (T.o_ .aS rfl) (T.fn .aS).kp (T.bn .aS) .nil dP (aa (pv 3) (aa bq (aa (pk 7 T) aA)))))<|
   ao (bY (i:=5) M5.nd rfl (bh rfl) (bW Kg bq (pv 2)))<|
   ao (bY (i:=6) M5.nd rfl (bh rfl) (dh (zp (T.fn .fk) T.mK) kr rfl (T.o_ .fk rfl) (T.fn .fk).kp (T.bn .fk) .nil c_ (aa (bz (pv 0) rfl) (aa (pv 1) (aa (pv 5) aA)))))<|
   ao (fC (uZ (DR (pv 6)))
    (ao (bV (bK (pv 0) (T.cls .aM) (T.me .kY .aM rfl rfl) (Nv T) hr (T.bn .kY) .nil c_ (aa (pv 1) (aa (pv 5) (aa (pv 4) aA)))))<|
     aF (bY (i:=6) M5.nd rfl (bh rfl) (dh (zp (T.fn .fk) T.mK) kr rfl (T.o_ .fk rfl) (T.fn .fk).kp (T.bn .fk) .nil c_ (aa (bz (pv 0) rfl) (aa (pv 1) (aa (pv 5) aA)))))) cZ) Lc,?_⟩
  obtain ⟨dx,f,r,kvs,gY,h1,h2,h3,h4,h5,t1,t2,t3⟩:=id v_.ex;refine ⟨_,rfl,_,_,_,rfl,λc=>?_,λc=>kE (λz=>c ⟨by omega,by omega⟩)⟩;have C0:n<=16384:=by omega
  refine ⟨_,rfl,_,_,_,rfl,λ_=>?_,λz=>absurd ⟨by decide,by decide⟩ z⟩;refine ⟨_,rfl,_,_,_,rfl,λ_=>?_,λz=>absurd ⟨Lg,Y8⟩ z⟩;refine ⟨_,rfl,_,_,rfl,rfl,⟨by decide,by decide,by decide⟩,?_⟩;refine ⟨_,rfl,p,_,dx,_,_,rfl,h1,C,N "free" (by decide),rfl,_,rfl,_,rfl,f,cV s.free,(n:Int),1,rfl,h2,by decide,by decide,?_⟩;rw[FP];refine ⟨_,rfl,_,rfl,?_⟩;cases ef:jQ s.free n 1 with
  |some a=>
   refine mJ ?_
   have:=Cf s τ H [] C0 (.refl id al) v_ cI (by simpa using hg) (by
    have e2:s.taken n 1 4=some ({s with free:=bw s.free a n,runs:=iI s.runs ⟨a,n,4,[]⟩},a):=by unfold jT;rw[ef];rfl
    unfold iT;rw[e2])
   rw[ef] at this;exact this
  |none=>
   refine lg ?_;refine ⟨_,rfl,p,dx,_,rfl,h1,rfl,_,rfl,_,rfl,_,rfl,τ,p,mk,s,g,rs,q0,n,rfl,al,v_,cI,hg,rj,hn,λH1 τ1 S1 G1 m_=>?_⟩;obtain ⟨dx,f,r,kvs,gY,h1,h2,h3,h4,h5,t1,t2,t3⟩:=id G1.ex;refine ⟨_,rfl,p,_,dx,_,_,rfl,h1,C,N "free" (by decide),rfl,_,rfl,_,rfl,f,cV (kW s n rs q0.length).1.free,(n:Int),1,rfl,h2,by decide,by decide,?_⟩;rw[FP]
   exact Cf _ τ1 H1 _ C0 S1 G1 (w6 cI hn) m_ (by
    have e2:s.taken n 1 4=none:=by unfold jT;rw[ef];rfl
    unfold iT;rw[e2]
    all_goals (dsimp only;cases (kW s n rs q0.length).1.taken n 1 4<;>rfl))
end
end Rm
namespace Rm
open PySem L2
theorem Ig{s:PS}{gY:List Row}(h5:gY.Perm (fB s))(r:e_):(jj gY (r.first:Int)).Perm (fB (s.lessRun r)):=by
 have e:fB (s.lessRun r)=(fB s).filter λq=>decide (q.1≠(r.first:Int)):=by
  show cV ((s.runs.filter λx=>x.first !=r.first).map rowOf)=(cV (s.runs.map rowOf)).filter _
  induction s.runs with
  |nil=>rfl
  |cons a l ih=>
   rw[bU]
   by_cases c:a.first=r.first
   ·rw[if_neg (by simp [c])];simp only[cV,aI];rw[bU,if_neg (by simp [gQ,c])];exact ih
   ·rw[if_pos (by simp [c])];simp only[cV,aI];rw[bU,if_pos (by simp only[gQ];exact decide_eq_true (by omega))];exact congrArg _ ih
 rw[e];exact h5.filter _
theorem zb{s:PS}{gY:List Row}(cI:b6 s)(h5:gY.Perm (fB s)){r r':e_}(hr:r∈s.runs)(hf:r'.first=r.first):(dY gY (r.first:Int) ((r.first+r'.pages:Nat):Int)).Perm (fB (s.with_ r')):=by
 rw[iD (sj cI h5 hr)]
 have e:fB (s.with_ r')=(fB s).map λq=>if q.1=(r.first:Int) then (q.1,((r.first+r'.pages:Nat):Int)) else q:=by
  show cV ((s.runs.map λx=>if x.first=r'.first then r' else x).map rowOf)=(cV (s.runs.map rowOf)).map _;simp only[cV,ay];refine aN λx _=>?_;show gQ (rowOf (if x.first=r'.first then r' else x))=if (gQ (rowOf x)).1=(r.first:Int) then ((gQ (rowOf x)).1,((r.first+r'.pages:Nat):Int)) else gQ (rowOf x)
  by_cases c:x.first=r.first
  ·rw[if_pos (by rw[hf];exact c),if_pos (by show (x.first:Int)=r.first;omega)];show ((r'.first:Int),((r'.first+r'.pages:Nat):Int))=((x.first:Int),((r.first+r'.pages:Nat):Int))
   rw[hf,c]
  ·rw[if_neg (by rw[hf];exact c),if_neg (by show¬(x.first:Int)=r.first;omega)]
 rw[e];exact h5.map _
section
variable{P:Program}{w:World}{K:au}{mg:Str->Option Value}{base:Heap}{A:gI}
def yV(s:PS)(r:e_):PS:={s.lessRun r with free:=bP s.free (r.first,r.pages)}
def gM(s:PS)(r:e_):PS×Nat×List iN:=fS s.spare ((yV s r).free.length+1) (yV s r) 0
theorem uT{k:Nat}:∀(g:Nat) (s:PS) (n:Nat),(fS k g s n).2.2.length<=g
 |0,s,n=>aL _
 |g+1,s,n=>by
  unfold fS;cases e:s.free.getLast? with
  |none=>exact bH _
  |some x=>
   dsimp only;split
   ·exact bH _
   ·rw[bL];have:=uT g {s with free:=bw s.free (x.1+x.2-min (aK s.free-k) x.2) (min (aK s.free-k) x.2),went:=s.went+min (aK s.free-k) x.2} (n+min (aK s.free-k) x.2) (k:=k);omega
theorem yh{s:PS}{r:e_}(h:b6 s)(hr:r∈s.runs):b6 (gM s r).1/\(gM s r).2.2.length<=16385:=by
 have h1:=h.give hr;have h2:=h1.ku;exact ⟨h1.trimmed _ _ _,cE (uT _ _ _) (by show (yV s r).free.length+1<=_;unfold yV;omega)⟩
def MG(A:gI):Sp:=λvs H Q _=>∃(τ:Tg) (p:Addr) (mk:Int->Int) (s:PS) (g:Addr) (rs:List Int) (q0:List (List Int)) (r:e_),vs=[.ref p,.int r.first,.ref g]/\Al τ H/\fQ A H τ p mk s/\b6 s/\bB A H τ g rs q0/\q0.length<=900000/\r∈s.runs/\mk r.first=0/\
 ∀H' τ',dS TP τ τ' H H'->fQ A H' τ' p mk (gM s r).1->bB A H' τ' g rs (q0++(gM s r).2.2.map aO)->Q (.int (r.pages:Nat)) H'
theorem Tr:bF ["self","first","given","end"] ["self","first","given"] (aY (Fn.st .qz)):=fs
theorem Ku(T:Txt A K mg):dU P w K mg base (l8 P w) 3 (A.f .qz) (A.fd .qz) ["self","first","given"] (MG A):=by
 refine rT (T.fn .qz) Tr (λvs H Q E h=>?_) (λgX B outer sh H vs Q E hr h=>?_)
 ·obtain ⟨τ,p,mk,s,g,rs,q0,r,rfl,_⟩:=h;rfl
 ·obtain ⟨τ,p,mk,s,g,rs,q0,rr,rfl,al,v_,cI,hg,rj,vN,Ef,k⟩:=h;have C:=T.cls .aM;have N:∀f,f∈j9 .aM->ek K (A.cl .aM) f:=T.na .aM;have kr:i9 1 _:=hr.mono (by decide)
  refine ⟨_,ao (bY (i:=3) Tr.nd rfl (bh rfl) (bK (pv 0) (T.cls .aM) (T.me .fN .aM rfl rfl) (Fz T) kr (T.bn .fN) .nil dP (aa (pv 1) aA)))<|
   ao (bV (xO (bz (pv 0) rfl) (pv 1) ⟨rfl,rfl,rfl,rfl⟩))<|
   ao (bV (bK (pv 0) (T.cls .aM) (T.me .gZ .aM rfl rfl) (AM T) hr (T.bn .gZ) .nil c_ (aa (pv 1) (aa (pv 3) aA))))<|
   ao (bV (bK (pv 0) (T.cls .aM) (T.me .m5 .aM rfl rfl) (xR T) hr (T.bn .m5) .nil c_ (aa (bz (pv 0) rfl) (aa (pv 2) aA))))<|
   aF (bT (bW gj (pv 3) (pv 1))),?_⟩
  obtain ⟨dx,f,r,kvs,gY,h1,h2,h3,h4,h5,t1,t2,t3⟩:=id v_.ex;refine ⟨_,rfl,p,dx,_,rfl,h1,rfl,_,rfl,τ,p,mk,s,rr,rfl,v_,cI,vN,Ef,?_⟩;obtain ⟨v,hv,t,rfl,ht⟩:=h4.here (sj cI h5 vN);refine ⟨_,rfl,p,_,dx,_,_,rfl,h1,C,N "runs" (by decide),rfl,r,rfl,.inl ⟨_,.inl h3⟩,_,rfl,kvs,aW (rr.first:Int),_,h3,rfl,hv,?_⟩;have S1:dS EB τ τ H (upd H r (.dK (mq kvs (aW (rr.first:Int))))):=.put id al h3 (by rw[t3];trivial) oB
  have G1:fQ A (upd H r (.dK (mq kvs (aW (rr.first:Int))))) τ p mk (s.lessRun rr):=
   ⟨dx,f,r,_,_,S1.kp t1 id h1,h2.step S1 t2 id,ak,h4.drop λk' v' x' _ _=>nV.mono (λ_ _=>S1.tup) k' v' x',Ig h5 rr,t1,t2,t3⟩
  have m_:=hg.step S1 id;generalize upd H r (.dK (mq kvs (aW (rr.first:Int))))=H1 at S1 G1 m_;obtain ⟨dx,f,r,kvs,gY,h1,h2,h3,h4,h5,t1,t2,t3⟩:=id G1.ex;refine ⟨_,rfl,p,dx,_,rfl,h1,rfl,_,rfl,_,rfl,τ,p,mk,s.lessRun rr,rr.first,rr.pages,rfl,S1.gW,G1,cI.yt,cI.ku,(cI.sQ rr vN).1,nL cI.yt (cI.sQ rr vN).1 (cI.fr rr vN),λH2 τ2 S2 G2=>?_⟩;have lS:=m_.step S2 id;have S02:=(S1.mono id EB.tp).trans (S2.mono id uE.tp);obtain ⟨dx,f,r,kvs,gY,h1,h2,h3,h4,h5,t1,t2,t3⟩:=id G2.ex;refine ⟨_,rfl,p,dx,_,rfl,h1,rfl,_,rfl,p,_,dx,_,_,rfl,h1,C,N "spare" (by decide),rfl,_,rfl,τ2,p,mk,yV s rr,g,rs,q0,s.spare,rfl,S2.gW,G2,cI.give vN,lS,rj,λH3 τ3 S3 G3 sR=>?_⟩;refine ⟨_,rfl,_,rfl,_,_,rfl,rfl,?_⟩;have e:(((rr.first+rr.pages:Nat):Int)-(rr.first:Int))=(rr.pages:Int):=by omega
  show Q (V.int (((rr.first+rr.pages:Nat):Int)-(rr.first:Int))) H3;rw[e];exact k H3 τ3 (S02.trans S3) G3 sR
def rL(s:PS)(r:e_)(m:Nat):PS:={s.with_ {r with pages:=m,bytes:=dD r.bytes 0 (m*dZ)} with free:=bP s.free (r.first+m,r.pages-m)}
def jt(s:PS)(r:e_)(m:Nat):PS×Nat×List iN:=fS s.spare ((rL s r m).free.length+1) (rL s r m) 0
def grown(s:PS)(r:e_)(m:Nat):PS:={s.with_ {r with pages:=m} with free:=bw s.free (r.first+r.pages) (m-r.pages)}
def E6(A:gI):Sp:=λvs H Q E=>∃(τ:Tg) (p:Addr) (mk:Int->Int) (s:PS) (g:Addr) (rs:List Int) (q0:List (List Int)) (r:e_) (m:Nat),vs=[.ref p,.int r.first,.int m,.ref g]/\Al τ H/\fQ A H τ p mk s/\b6 s/\bB A H τ g rs q0/\q0.length<=900000/\r∈s.runs/\mk r.first=0/\m≠r.pages/\0<m/\
 (16384<m->E (.ref (A.ex .b7)) none H)/\
 (m<=16384->m<r.pages->∀H' τ',dS TP τ τ' H H'->fQ A H' τ' p mk (jt s r m).1->bB A H' τ' g rs (q0++(jt s r m).2.2.map aO)->Q (.int (m:Nat)) H')/\
 (m<=16384->r.pages<m->CK s.free (r.first+r.pages) (m-r.pages)->∀H' τ',dS TP τ τ' H H'->fQ A H' τ' p mk (grown s r m)->bB A H' τ' g rs q0->Q (.int (m:Nat)) H')/\
 (m<=16384->r.pages<m->¬CK s.free (r.first+r.pages) (m-r.pages)->∀H',cY H H'->E (.ref (A.ex .dg)) none H')
theorem P4:bF ["self","first","many","given","end","goal"] ["self","first","many","given"] (aY (Fn.st .m8)):=fs
theorem Sw{s:PS}{a n:Nat}:(cV s.free).any (λr=>decide (r.1<=(a:Int))&&decide (((a+n:Nat):Int)<=r.2))=true↔CK s.free a n:=by
 rw[dG];constructor
 ·rintro ⟨r,hr,q⟩;obtain ⟨x,hx,rfl⟩:=aq.mp hr;rw[aC] at q;have q1:(x.1:Int)<=a:=of_decide_eq_true q.1;have q2:((a+n:Nat):Int)<=((x.1+x.2:Nat):Int):=of_decide_eq_true q.2;exact ⟨x,hx,by omega,by omega⟩
 ·rintro ⟨x,hx,h1,h2⟩;refine ⟨gQ x,aH hx,?_⟩;rw[aC];exact ⟨decide_eq_true (show (x.1:Int)<=a by omega),decide_eq_true (show ((a+n:Nat):Int)<=((x.1+x.2:Nat):Int) by omega)⟩
theorem Ks(T:Txt A K mg):dU P w K mg base (l8 P w) 3 (A.f .m8) (A.fd .m8) ["self","first","many","given"] (E6 A):=by
 refine rT (T.fn .m8) P4 (λvs H Q E h=>?_) (λgX B outer sh H vs Q E hr h=>?_)
 ·obtain ⟨τ,p,mk,s,g,rs,q0,r,m,rfl,_⟩:=h;rfl
 ·obtain ⟨τ,p,mk,s,g,rs,q0,rr,m,rfl,al,v_,cI,hg,rj,vN,Ef,hmp,Lg,kE,kS,kG,kN⟩:=h;have C:=T.cls .aM;have N:∀f,f∈j9 .aM->ek K (A.cl .aM) f:=T.na .aM;have kr:i9 1 _:=hr.mono (by decide);have hu:=jJ hr;have IQ:=cI.sQ rr vN
  have TL:∃tl,A6 (qt (l8 P w) P w K mg base ["self","first","many","given","end","goal"] (Fn.qual .m8) (aY (Fn.st .m8)) (A.f .m8) gX B outer sh H E) ((oE (Fn.st .m8)).drop 4) tl/\
    ∀(H2:Hp),cY H H2->m<=16384->(rr.pages<m->CK s.free (rr.first+rr.pages) (m-rr.pages))->
     tl {nx:=λ_ H'=>Q .kq H',rt:=Q} [some (.ref p),some (.int rr.first),some (.int m),some (.ref g),some (.int ((rr.first+rr.pages:Nat):Int)),some (.int ((rr.first:Int)+m))] H2:=by
   refine ⟨_,ao (nA hu (bz (pv 0) rfl) (pv 1) (k_ (aa (pv 5) (aa (eY ir (ig hu (bz (pv 0) rfl) (pv 1) (λ_ _=>rfl)) bq (λ_ _=>rfl)) aA))) rfl)<|
    ao (fC (dz rS (pv 5) (pv 4) (dH _))
     (ao (bV (bK (pv 0) (T.cls .aM) (T.me .gZ .aM rfl rfl) (AM T) hr (T.bn .gZ) .nil c_ (aa (pv 5) (aa (pv 4) aA))))<|
      aF (bV (bK (pv 0) (T.cls .aM) (T.me .m5 .aM rfl rfl) (xR T) hr (T.bn .m5) .nil c_ (aa (bz (pv 0) rfl) (aa (pv 3) aA)))))
     (aF (fU (pv 0) (dh (tN (T.fn .gn) T.mK) kr rfl (T.o_ .gn rfl) (T.fn .gn).kp (T.bn .gn) .nil c_ (aa (bz (pv 0) rfl) (aa (pv 4) (aa (pv 5) aA)))) rfl)))<|
    aF (bT (pv 2)),?_⟩
   intro H2 s2 uJ qm;have kS:=kS uJ;have kG:=kG uJ;have S2:dS TP τ τ H H2:=.same id al s2;have Eb:=v_.same s2;have lS:=hg.same s2;obtain ⟨dx,f,r,kvs,gY,h1,h2,h3,h4,h5,t1,t2,t3⟩:=id Eb.ex;obtain ⟨v,hv,t,rfl,ht⟩:=h4.here (sj cI h5 vN);have g1:=mL.k (k:=aW (rr.first:Int)) h3;rw[hv] at g1;have eg:((rr.first:Int)+m)=((rr.first+m:Nat):Int):=by omega
   rw[eg];refine ⟨_,rfl,_,rfl,p,_,dx,_,_,rfl,h1,C,N "runs" (by decide),rfl,_,rfl,r,_,rfl,g1,t,_,_,_,rfl,rfl,lW.of ht,rfl,(by show 2<=sizeLine;decide),λa ha=>?_⟩;have sa:=aX (o:=.tup [.int ((rr.first+m:Nat):Int),.int (mk rr.first)]) ha;have Sa:dS EB τ τ H2 (upd H2 a (.tup [.int ((rr.first+m:Nat):Int),.int (mk rr.first)])):=.new id S2.gW ha;refine ⟨_,rfl,p,_,dx,_,_,rfl,sa _ _ h1,C,N "runs" (by decide),rfl,_,rfl,r,_,rfl,vv.k (k:=aW (rr.first:Int)) (sa _ _ h3) (big (by rw[h4.len,rP h5];have:=cI.t9;omega)),?_⟩
   by_cases c:m<rr.pages
   ·obtain ⟨S3,G3⟩:=fQ.AD (A:=A) (s':=s.with_ {rr with pages:=m,bytes:=dD rr.bytes 0 (m*dZ)}) (mk':=mk) (k:=(rr.first:Int)) (e:=((rr.first+m:Nat):Int)) Sa.gW (sa _ _ h1) (h2.same sa) (sa _ _ h3) (h4.imp (nV.mono λ_ _=>sa _ _)) t1 t2 t3
     ak (λx hx=>rfl) rfl rfl (zb cI h5 (r':={rr with pages:=m,bytes:=dD rr.bytes 0 (m*dZ)}) vN rfl)
    have RO:=S2.trans ((Sa.trans S3).mono id EB.tp);have sR:=(lS.step Sa id).step S3 id;generalize upd (upd H2 a (.tup [.int ((rr.first+m:Nat):Int),.int (mk rr.first)])) r (.dK (putK kvs (aW (rr.first:Int)) (.ref a)))=H3 at G3 RO sR;refine ⟨_,rfl,_,rfl,_,_,rfl,rfl,_,rfl,?_⟩;rw[decide_eq_true (show ((rr.first+m:Nat):Int)<((rr.first+rr.pages:Nat):Int) by omega)];refine lg ?_;obtain ⟨dx,f,r,kvs,gY,h1,h2,h3,h4,h5,t1,t2,t3⟩:=id G3.ex
    refine ⟨_,rfl,p,dx,_,rfl,h1,rfl,_,rfl,_,rfl,τ,p,mk,_,rr.first+m,rr.pages-m,(by show [V.ref p,V.int ((rr.first+m:Nat):Int),V.int ((rr.first+rr.pages:Nat):Int)]=_;rw[show rr.first+m+(rr.pages-m)=rr.first+rr.pages by omega]),RO.gW,G3,cI.yt,cI.ku,by omega,
     nL cI.yt (by omega) (λx hx z=>cI.fr rr vN x hx ⟨by omega,by omega⟩),λH4 τ4 S4 G4=>?_⟩
    have wR:=sR.step S4 id;have S04:=RO.trans (S4.mono id uE.tp);obtain ⟨dx,f,r,kvs,gY,h1,h2,h3,h4,h5,t1,t2,t3⟩:=id G4.ex;refine ⟨_,rfl,p,dx,_,rfl,h1,rfl,_,rfl,p,_,dx,_,_,rfl,h1,C,N "spare" (by decide),rfl,_,rfl,τ4,p,mk,rL s rr m,g,rs,q0,s.spare,rfl,S4.gW,G4,cI.shrink vN Lg c _,wR,rj,λH5 τ5 S5 G5 N2=>?_⟩;exact ⟨_,rfl,kS c H5 τ5 (S04.trans S5) G5 N2⟩
   ·have c':rr.pages<m:=by omega
    have qm:=qm c'
    obtain ⟨S3,G3⟩:=fQ.AD (A:=A) (s':=s.with_ {rr with pages:=m}) (mk':=mk) (k:=(rr.first:Int)) (e:=((rr.first+m:Nat):Int)) Sa.gW (sa _ _ h1) (h2.same sa) (sa _ _ h3) (h4.imp (nV.mono λ_ _=>sa _ _)) t1 t2 t3
     ak (λx hx=>rfl) rfl rfl (zb cI h5 (r':={rr with pages:=m}) vN rfl)
    have RO:=S2.trans ((Sa.trans S3).mono id EB.tp);have sR:=(lS.step Sa id).step S3 id;generalize upd (upd H2 a (.tup [.int ((rr.first+m:Nat):Int),.int (mk rr.first)])) r (.dK (putK kvs (aW (rr.first:Int)) (.ref a)))=H3 at G3 RO sR;refine ⟨_,rfl,_,rfl,_,_,rfl,rfl,_,rfl,?_⟩;rw[decide_eq_false (show¬((rr.first+m:Nat):Int)<((rr.first+rr.pages:Nat):Int) by omega)];refine mJ ?_;obtain ⟨dx,f,r,kvs,gY,h1,h2,h3,h4,h5,t1,t2,t3⟩:=id G3.ex;have Uy:=p8 cI.yt (show 0<m-rr.pages by omega) qm;refine ⟨_,rfl,p,_,dx,_,_,rfl,h1,C,N "free" (by decide),rfl,_,rfl,_,rfl,f,cV s.free,_,_,rfl,h2,by rw[aj];have:=cI.ku;omega,λH4 l' s4 HS lC=>?_⟩;rw[show ((rr.first+m:Nat):Int)=((rr.first+rr.pages+(m-rr.pages):Nat):Int) by omega,Uy] at lC;obtain ⟨as,Sg,a3f⟩:=id lC;have S4:dS uE τ (gi τ l' .free) H3 H4:=(dS.same id RO.gW s4).tag HS Sg mE .free;have Pn:=S4.tg t1 h1;have Pk:=S4.tg t3 h3;refine ⟨_,rfl,p,_,dx,_,rfl,s4 _ _ h1,C,N "free" (by decide),aR rfl,?_⟩;obtain ⟨S5,G5⟩:=fQ.wF (A:=A) (f':=l') (fr:=bw s.free (rr.first+rr.pages) (m-rr.pages)) S4.gW (s4 _ _ h1) (s4 _ _ h3) (h4.imp (nV.mono λ_ _=>s4 _ _)) h5 Pn Pk lC eV;exact ⟨_,rfl,kG c' qm _ _ (RO.trans ((S4.trans S5).mono id uE.tp)) G5 (sR.step (S4.trans S5) id)⟩
  obtain ⟨tl,Lc,Cf⟩:=TL
  refine ⟨_,ao (bV (dh (gH T) kr rfl (T.o_ .aS rfl) (T.fn .aS).kp (T.bn .aS) .nil dP (aa (pv 2) (aa bq (aa (pk 16384 T) aA)))))<|
   ao (bY (i:=4) P4.nd rfl (bh rfl) (bK (pv 0) (T.cls .aM) (T.me .fN .aM rfl rfl) (Fz T) kr (T.bn .fN) .nil dP (aa (pv 1) aA)))<|
   ao (bY (i:=5) P4.nd rfl (bh rfl) (bW fM (pv 1) (pv 2)))<|
   ao (fC (PW.pt (AB (dz pK (pv 5) (pv 4) (dH _)) (wG (AF (oU (dh (Hu (T.fn .i_) T.mK) kr rfl (T.o_ .i_ rfl) (T.fn .i_).kp (T.bn .i_) .nil c_ (aa (bz (pv 0) rfl) (aa (pv 4) (aa (pv 5) aA))))))))) (aF (nS rfl tH (T.exc .dg) rfl (T.FO .dg))) cZ) Lc,?_⟩
  obtain ⟨dx,f,r,kvs,gY,h1,h2,h3,h4,h5,t1,t2,t3⟩:=id v_.ex;refine ⟨_,rfl,_,_,_,rfl,λc=>?_,λc=>kE (fH λz=>c ⟨by omega,by omega⟩)⟩;have uJ:m<=16384:=by omega
  refine ⟨_,rfl,p,dx,_,rfl,h1,rfl,_,rfl,τ,p,mk,s,rr,rfl,v_,cI,vN,Ef,?_⟩;refine ⟨_,rfl,_,rfl,_,_,rfl,rfl,?_⟩;refine ⟨_,rfl,_,rfl,_,_,rfl,rfl,_,rfl,?_⟩;refine iP (λc1=>?_) (λc1=>?_)
  ·have A5:rr.pages<m:=by
    have:=of_decide_eq_true c1;omega
   refine ⟨_,rfl,p,_,dx,_,_,rfl,h1,C,N "free" (by decide),rfl,_,rfl,_,rfl,f,cV s.free,_,_,rfl,h2,by rw[aj];have:=cI.ku;omega,λH2 s2=>?_⟩;have hw:=Sw (s:=s) (a:=rr.first+rr.pages) (n:=m-rr.pages);rw[show ((rr.first+rr.pages+(m-rr.pages):Nat):Int)=(rr.first:Int)+m by omega] at hw;refine ⟨_,rfl,?_⟩;refine iP (λc2=>?_) (λc2=>?_)
   ·refine kN uJ A5 (λz=>?_) H2 s2;have hz:=hw.mpr z;have Io:(!((cV s.free).any λr=>decide (r.1<=((rr.first+rr.pages:Nat):Int))&&decide ((rr.first:Int)+m<=r.2)))=true:=c2;rw[hz] at Io;cases Io
   ·refine Cf H2 s2 uJ λ_=>hw.mp ?_;have Io:¬(!((cV s.free).any λr=>decide (r.1<=((rr.first+rr.pages:Nat):Int))&&decide ((rr.first:Int)+m<=r.2)))=true:=c2;cases z:((cV s.free).any λr=>decide (r.1<=((rr.first+rr.pages:Nat):Int))&&decide ((rr.first:Int)+m<=r.2)) with
    |true=>rfl
    |false=>rw[z] at Io;exact absurd rfl Io
  ·refine mJ (Cf H (.refl _) uJ λz=>absurd (decide_eq_true ?_) c1);show ((rr.first+rr.pages:Nat):Int)<(rr.first:Int)+m;omega
end
end Rm
namespace Rm
open PySem L2
theorem yw{rs:List Int}{h:mT}{p:qV jM}:∀(l:List (Nat×Nat)) (i:Nat),d_ (Kg45.backAll l h p) p rs i (l.map λx=>sW x.1 x.2)
 |[],i=>.refl
 |x::l,i=>d_.trans (qs:=[_]) (.ask) (yw l (i+1))
section
variable{P:Program}{w:World}{K:au}{mg:Str->Option Value}{base:Heap}{A:gI}
def mV(s:PS):List iN:=s.rows.map λx=>.less x.1 x.2
def inR(a b c:Int):Prop:=(1<=a/\a<=16384)/\(1<=b/\b<=1024)/\0<=c/\c<=16384
def Jw(A:gI):Sp:=λvs H Q E=>∃(τ:Tg) (p:Addr) (mk:Int->Int) (s:PS) (g:Addr) (rs:List Int) (q0:List (List Int)) (a b c:Int),vs=[.ref p,.int a,.int b,.int c,.ref g]/\Al τ H/\fQ A H τ p mk s/\b6 s/\bB A H τ g rs q0/\q0.length<=900000/\
 (¬inR a b c->E (.ref (A.ex .b7)) none H)/\
 (inR a b c->∀H' τ',dS TP τ τ' H H'->(∀mk',fQ A H' τ' p mk' (h_ a.toNat b.toNat c.toNat))->bB A H' τ' g rs (q0++(mV s).map aO)->Q .kq H')
theorem PX:bF ["self","size","chunk","spare","given","first","end"] ["self","size","chunk","spare","given"] (aY (Fn.st .mU)):=fs
theorem Hv(T:Txt A K mg):dU P w K mg base (l8 P w) 3 (A.f .mU) (A.fd .mU) ["self","size","chunk","spare","given"] (Jw A):=by
 refine rT (T.fn .mU) PX (λvs H Q E h=>?_) (λgX B outer sh H vs Q E hr h=>?_)
 ·obtain ⟨τ,p,mk,s,g,rs,q0,a,b,c,rfl,_⟩:=h;rfl
 ·obtain ⟨τ,p,mk,s,g,rs,q0,a,b,c,rfl,al,v_,cI,hg,rj,kE,kQ⟩:=h;have kr:i9 1 _:=hr.mono (by decide)
  refine ⟨_,ao (bV (dh (gH T) kr rfl (T.o_ .aS rfl) (T.fn .aS).kp (T.bn .aS) .nil dP (aa (pv 1) (aa bq (aa (pk 16384 T) aA)))))<|
   ao (bV (dh (gH T) kr rfl (T.o_ .aS rfl) (T.fn .aS).kp (T.bn .aS) .nil dP (aa (pv 2) (aa bq (aa (pk 1024 T) aA)))))<|
   ao (bV (dh (gH T) kr rfl (T.o_ .aS rfl) (T.fn .aS).kp (T.bn .aS) .nil dP (aa (pv 3) (aa bq (aa (pk 16384 T) aA)))))<|
   ao (jY PassesOwn.leaving rfl (iV (jZ (pv 0) (T.cls .aM) (T.me .iW .aM rfl rfl) (Fy T) hr (T.bn .iW) .nil c_)) (qh rfl (gm (dB (i:=5) PX.nd rfl (bh rfl)) (gm (dB (i:=6) PX.nd rfl (bh rfl)) nB)))
    (aF (bV (bK (pv 4) (T.cls .eW) (T.me .oA .eW rfl rfl) (BZ T) kr (T.bn .oA) .nil c_ (aa (pv 5) (aa (bW gj (pv 6) (pv 5)) aA))))))<|
   aF (bV (bK (pv 0) (T.cls .aM) (T.me .oq .aM rfl rfl) (BW T) kr (T.bn .oq) .nil c_ (aa (pv 1) (aa (pv 2) (aa (pv 3) aA))))),?_⟩
  refine ⟨_,rfl,_,_,_,rfl,λc1=>?_,λz=>kE λq=>z q.1⟩;refine ⟨_,rfl,_,_,_,rfl,λc2=>?_,λz=>kE λq=>z q.2.1⟩;refine ⟨_,rfl,_,_,_,rfl,λc3=>?_,λz=>kE λq=>z q.2.2⟩;have kQ:=kQ ⟨c1,c2,c3⟩;obtain ⟨dx,f,r,kvs,gY,h1,h2,h3,h4,h5,t1,t2,t3⟩:=id v_.ex;refine ⟨_,rfl,p,dx,_,rfl,h1,rfl,τ,p,mk,s,rfl,v_,cI,λH1 l s1 hl ⟨as,nF,Zb⟩=>?_⟩;have S1:dS TA τ τ H H1:=.same id al s1;have tl:τ l=.other:=al.fresh hl;have Cg:=cI.Az;have has:as.length=s.rows.length:=by have:=Zb.len;simpa using this
  refine ⟨l,rfl,⟨_,.of nF⟩,j8 (K:=K) (a:=l) (xs:=as.map V.ref) (λi σ H2=>∃(v5 v6:Option V),σ=[some (.ref p),some (.int a),some (.int b),some (.int c),some (.ref g),v5,v6]/\dS TA τ τ H1 H2/\bB A H2 τ g rs (q0++((mV s).take i).map aO))
   ⟨none,none,rfl,.refl id S1.gW,by simpa using hg.same s1⟩ (λi σ H2 _ ⟨_,_,_,S2,_⟩=>.of (S2.kp tl id nF)) ?_ ?_⟩
  ·rintro i y σ H2 hi ⟨v5,v6,rfl,S2,lS⟩;obtain ⟨t,ht,rfl⟩:=lQ hi;obtain ⟨q,hq,YM⟩:=Zb.get ht
   obtain ⟨x,hx,rfl⟩:∃x,s.rows[i]?=some x/\gQ x=q:=by
    rw[cV,cu] at hq;cases e:s.rows[i]? with
    |none=>rw[e] at hq;cases hq
    |some x=>rw[e] at hq;exact ⟨x,rfl,bC hq⟩
   obtain ⟨Vq,gr,ga,gas,Vp,_⟩:=id lS.ex;refine ⟨t,_,rfl,lW.of (S2.tup YM),rfl,_,_,rfl,_,_,rfl,rfl,?_⟩;refine ⟨_,rfl,g,Vq,_,rfl,Vp,rfl,_,rfl,_,rfl,_,rfl,_,_,rfl,rfl,τ,g,rs,_,_,_,rfl,S2.gW,lS,?_,λH3 S3 sR=>⟨_,_,rfl,S2.trans S3,?_⟩⟩
   ·have N1:i<as.length:=(bR.mp ht).1;rw[aE,aj,bS];omega
   ·have e1:(mV s)[i]?=some (.less x.1 x.2):=by unfold mV;rw[cu,hx];rfl
    rw[cN,e1,aG,<-cD];have e2:(gQ x).2-(gQ x).1=(x.2:Int):=by simp only[gQ];omega
    have U5:bB A H3 τ g rs (q0++((mV s).take i).map aO++[[2,(gQ x).1,(gQ x).2-(gQ x).1]]):=sR;rw[e2] at U5;exact U5
  ·rintro σ H2 ⟨v5,v6,rfl,S2,lS⟩;have C7:(mV s).take (as.map V.ref).length=mV s:=b8 (by unfold mV;rw[aj,aj];omega);rw[C7] at lS;have Eb:=(v_.same s1).step S2 id id id;obtain ⟨dx,f,r,kvs,gY,h1,h2,h3,h4,h5,t1,t2,t3⟩:=id Eb.ex;refine ⟨_,rfl,p,dx,_,rfl,h1,rfl,_,rfl,_,rfl,_,rfl,p,dx,_,a.toNat,b.toNat,c.toNat,?_,h1,.inr ⟨s,f,r,rfl⟩,λH3 f' r' g1 g2 g3 g4 g5 g6=>?_⟩
   ·show [V.ref p,V.int a,V.int b,V.int c]=_;rw[show ((a.toNat:Nat):Int)=a by omega,show ((b.toNat:Nat):Int)=b by omega,show ((c.toNat:Nat):Int)=c by omega]
   ·have Wc:f'≠p:=(aQ h1 g2).symm;have nrp:r'≠p:=(aQ h1 g3).symm;have R0:f'≠r':=mh g4 g5 (by intro z;cases z)
    have S3:dS uE τ (gi (gi τ f' .free) r' .runs) H2 H3:=by
     refine ⟨id,S2.gW,λb' yd=>?_,λb' o e n=>g6 b' o e λz=>n (by rw[z,t1];trivial),λb' o e=>?_,λb' o e=>?_⟩
     ·by_cases z1:b'=r'
      ·subst z1;exact ⟨_,g5,oB⟩
      ·rw[cT z1] at yd
       by_cases z2:b'=f'
       ·subst z2;exact ⟨_,g4,mE⟩
       ·rw[cT z2] at yd
        by_cases z3:b'=p
        ·subst z3;exact ⟨_,g1,oY⟩
        ·obtain ⟨o,e,q⟩:=S2.gW b' yd;exact ⟨o,g6 _ _ e z3,q⟩
     ·rw[cT (aQ e g3),cT (aQ e g2)]
     ·by_cases z3:b'=p
      ·subst z3;exact ⟨_,g1⟩
      ·exact ⟨o,g6 _ _ e z3⟩
    refine kQ H3 _ ((S1.mono id TA.tp).trans ((S2.mono id TA.tp).trans (S3.mono id uE.tp))) (λmk'=>?_) (lS.step S3 id);refine ⟨dx,f',r',[],[],g1,⟨[],g4,.nil⟩,g5,.nil,.refl _,?_,?_,eV⟩
    ·rw[cT nrp.symm,cT Wc.symm];exact t1
    ·rw[cT R0,eV]
end
end Rm
namespace Rm
open PySem L2
structure lD where
 size:Nat
 room:Nat
 run:Nat
 con:Addr
def bf(b:lD):List (Str×V):=[("size",.int b.size),("room",.int b.room),("run",.int b.run),("content",.ref b.con)]
def hf(p hd sd:Addr):List (Str×V):=[("pages",.ref p),("held",.ref hd),("small_runs",.ref sd)]
structure HC where
 qY:Int->Int
 pg:PS
 held:List (Int×lD)
 small:List (Int×List Int)
def mZ(A:gI)(H:Hp)(τ:Tg):Int->V->lD->Prop:=λk v b=>∃a dx,v=.ref a/\H a=some (.ins (A.cl .bD) dx (bf b))/\τ a=.rm k
def CI(H:Hp)(τ:Tg):Int->V->List Int->Prop:=λk v l=>∃a,v=.ref a/\H a=some (.lst (l.map V.int))/\τ a=.sl k
structure eB(A:gI)(H:Hp)(τ:Tg)(h:Addr)(c:HC):Prop where
 ex:∃dx p hd sd kh ks,H h=some (.ins (A.cl .aD) dx (hf p hd sd))/\τ h=.nU/\fQ A H τ p c.qY c.pg/\H hd=some (.dK kh)/\gy (mZ A H τ) kh c.held/\τ hd=.held/\H sd=some (.dK ks)/\gy (CI H τ) ks c.small/\τ sd=.smalls
section
variable{P:Program}{w:World}{K:au}{mg:Str->Option Value}{base:Heap}{A:gI}
theorem mZ.step{H H':Hp}{τ τ':Tg}{S:Tag->Prop}(s:dS S τ τ' H H')(n:∀k,¬S (.rm k))(k:Int)(v:V)(b:lD)(h:mZ A H τ k v b):mZ A H' τ' k v b:=
 let ⟨a,dx,e,h1,t⟩:=h;⟨a,dx,e,s.kp t (n k) h1,s.tg t h1⟩
theorem CI.step{H H':Hp}{τ τ':Tg}{S:Tag->Prop}(s:dS S τ τ' H H')(n:∀k,¬S (.sl k))(k:Int)(v:V)(b:List Int)(h:CI H τ k v b):CI H' τ' k v b:=
 let ⟨a,e,h1,t⟩:=h;⟨a,e,s.kp t (n k) h1,s.tg t h1⟩
theorem mZ.same{H H':Hp}{τ:Tg}(s:cY H H')(k:Int)(v:V)(b:lD)(h:mZ A H τ k v b):mZ A H' τ k v b:=let ⟨a,dx,e,h1,t⟩:=h;⟨a,dx,e,s _ _ h1,t⟩
theorem CI.same{H H':Hp}{τ:Tg}(s:cY H H')(k:Int)(v:V)(b:List Int)(h:CI H τ k v b):CI H' τ k v b:=let ⟨a,e,h1,t⟩:=h;⟨a,e,s _ _ h1,t⟩
theorem eB.same{H H':Hp}{τ:Tg}{h:Addr}{c:HC}(x:eB A H τ h c)(s:cY H H'):eB A H' τ h c:=by
 obtain ⟨dx,p,hd,sd,kh,ks,h1,t1,h2,h3,h4,t3,h5,h6,t5⟩:=x.ex;exact ⟨dx,p,hd,sd,kh,ks,s _ _ h1,t1,h2.same s,s _ _ h3,h4.imp (mZ.same s),t3,s _ _ h5,h6.imp (CI.same s),t5⟩
theorem eB.pages{H H':Hp}{τ τ':Tg}{h:Addr}{c:HC}{mk:Int->Int}{pg:PS}{dx p hd sd:Addr}{kh ks:List (Key×V)}(s:dS TP τ τ' H H')(h1:H h=some (.ins (A.cl .aD) dx (hf p hd sd)))(t1:τ h=.nU)(h3:H hd=some (.dK kh))(h4:gy (mZ A H τ) kh c.held)(t3:τ hd=.held)(h5:H sd=some (.dK ks))(h6:gy (CI H τ) ks c.small)(t5:τ sd=.smalls)
  (g:fQ A H' τ' p mk pg):eB A H' τ' h {c with qY:=mk,pg:=pg}:=
 ⟨dx,p,hd,sd,kh,ks,s.kp t1 id h1,s.tg t1 h1,g,s.kp t3 id h3,h4.imp (mZ.step s λ_=>id),s.tg t3 h3,s.kp t5 id h5,h6.imp (CI.step s λ_=>id),s.tg t5 h5⟩
def MZ(A:gI):Sp:=λvs H Q _=>∃(x dx:Addr) (n z r:Nat),vs=[.ref x,.int n,.int z,.int r]/\H x=some (.ins (A.cl .bD) dx [])/\
 ∀(H':Hp) (c cx d:Addr),H' x=some (.ins (A.cl .bD) dx (bf ⟨n,z,r,c⟩))->H' c=some (.ins (A.cl .bQ) cx (cf d))->H' d=some (.dK [])->H c=none->H d=none->(∀b o,H b=some o->b≠x->H' b=some o)->Q .kq H'
theorem Xy:bF ["self","size","room","run"] ["self","size","room","run"] (aY (Fn.st .oG)):=fs
theorem B0(T:Txt A K mg):dU P w K mg base pq 3 (A.f .oG) (A.fd .oG) ["self","size","room","run"] (MZ A):=by
 refine (T.fn .oG).ok Xy (λvs H Q E h=>?_) (λgX B outer sh H vs Q E hr h=>?_)
 ·obtain ⟨x,dx,n,z,r,rfl,_⟩:=h;rfl
 ·obtain ⟨x,dx,n,z,r,rfl,h1,k⟩:=h;have C:=T.cls .bD;have N:∀f,f∈j9 .bD->ek K (A.cl .bD) f:=T.na .bD;refine ⟨_,ao (fU (pv 0) (pv 1) rfl)<|ao (fU (pv 0) (pv 2) rfl)<|ao (fU (pv 0) (pv 3) rfl)<|aF (fU (pv 0) (xN (T.R8 .qN .bQ rfl rfl) (KQ T) hr rfl (T.R9 .bQ) (T.bn .qN) .nil c_) rfl),?_⟩;refine ⟨_,rfl,_,rfl,x,_,dx,_,rfl,h1,C,N "size" (by decide),aR rfl,?_⟩;refine ⟨_,rfl,_,rfl,x,_,dx,_,rfl,ak,C,N "room" (by decide),aR rfl,?_⟩;refine ⟨_,rfl,_,rfl,x,_,dx,_,rfl,ak,C,N "run" (by decide),aR rfl,?_⟩;intro c cx nc We nec;have Mc:x≠c:=λz=>by rw[<-z,ak] at nc;cases nc
  have Uc:x≠cx:=λz=>by rw[<-z,ak] at We;cases We
  have Mm:H c=none:=by rw[az Mc.symm,az Mc.symm,az Mc.symm] at nc;exact nc
  have ZA:H cx=none:=by rw[az Uc.symm,az Uc.symm,az Uc.symm] at We;exact We
  refine ⟨c,cx,rfl,ak,λH2 d g1 g2 g3 g4=>⟨rfl,?_⟩⟩;have Qu:x≠d:=λz=>by rw[<-z,az Mc,az Uc,ak] at g2;cases g2
  have OL:c≠d:=λz=>by rw[<-z,ak] at g2;cases g2
  have X_:cx≠d:=λz=>by rw[<-z,az nec,ak] at g2;cases g2
  have hd0:H d=none:=by rw[az OL.symm,az X_.symm,az Qu.symm,az Qu.symm,az Qu.symm] at g2;exact g2
  have CY:=g4 x _ (by rw[az Mc,az Uc];exact ak) Mc;refine ⟨_,rfl,x,_,dx,_,rfl,CY,C,N "content" (by decide),aR rfl,?_⟩;refine k _ c cx d ak (by rw[az Mc.symm];exact g1) (by rw[az Qu.symm];exact g3) Mm hd0 λb o e hb=>?_;rw[az hb];exact g4 b o (by rw[az (aQ e Mm),az (aQ e ZA),az hb,az hb,az hb];exact e) (aQ e Mm)
def JI(A:gI):Sp:=λvs H Q _=>∃(x dx:Addr) (b:lD),vs=[.ref x]/\H x=some (.ins (A.cl .bD) dx (bf b))/\Q (.bl (decide (32768<b.room))) H
theorem Xz:bF ["self"] ["self"] (aY (Fn.st .i8)):=fs
theorem zA(T:Txt A K mg):dU P w K mg base pq 1 (A.f .i8) (A.fd .i8) ["self"] (JI A):=by
 refine (T.fn .i8).ok Xz (λvs H Q E h=>?_) (λgX B outer sh H vs Q E hr h=>?_)
 ·obtain ⟨x,dx,b,rfl,_⟩:=h;rfl
 ·obtain ⟨x,dx,b,rfl,h1,k⟩:=h;refine ⟨_,aF (bT (nE pK (bz (pv 0) rfl) (pk 32768 T) (dH _))),?_⟩;refine ⟨_,rfl,x,_,dx,_,_,rfl,h1,T.cls .bD,T.na .bD "room" (by decide),rfl,_,_,rfl,rfl,?_⟩;have e:decide ((32768:Int)<(b.room:Int))=decide (32768<b.room):=decide_eq_decide.mpr (by omega);show Q (V.bl (decide ((32768:Int)<(b.room:Int)))) H;rw[e];exact k
def HeldAt(A:gI)(H:Hp)(τ:Tg)(h:Addr)(k:Int)(a:Addr):Prop:=∃dx p hd sd kh,H h=some (.ins (A.cl .aD) dx (hf p hd sd))/\τ h=.nU/\H hd=some (.dK kh)/\τ hd=.held/\nQ kh (aW k)=some (.ref a)
theorem HeldAt.step{H H':Hp}{τ τ':Tg}{S:Tag->Prop}{h a:Addr}{k:Int}(x:HeldAt A H τ h k a)(s:dS S τ τ' H H')(n1:¬S .nU)(n2:¬S .held):HeldAt A H' τ' h k a:=by
 obtain ⟨dx,p,hd,sd,kh,h1,t1,h2,t2,e⟩:=x;exact ⟨dx,p,hd,sd,kh,s.kp t1 n1 h1,s.tg t1 h1,s.kp t2 n2 h2,s.tg t2 h2,e⟩
def Tc(A:gI):Sp:=λvs H Q E=>∃(τ:Tg) (h:Addr) (c:HC) (k:Int),vs=[.ref h,.int k]/\eB A H τ h c/\(bM c.held k=none->E (.ref (A.ex .dO)) none H)/\
 (∀b a dx,bM c.held k=some b->H a=some (.ins (A.cl .bD) dx (bf b))->τ a=.rm k->HeldAt A H τ h k a->Q (.ref a) H)
theorem Xq:bF ["self","place"] ["self","place"] (aY (Fn.st .g8)):=fs
theorem DW(T:Txt A K mg):dU P w K mg base (l8 P w) 1 (A.f .g8) (A.fd .g8) ["self","place"] (Tc A):=by
 refine rT (T.fn .g8) Xq (λvs H Q E h=>?_) (λgX B outer sh H vs Q E hr h=>?_)
 ·obtain ⟨τ,h,c,k,rfl,_⟩:=h;rfl
 ·obtain ⟨τ,h,c,n,rfl,⟨dx,p,hd,sd,kh,ks,h1,t1,h2,h3,h4,t3,h5,h6,t5⟩,kE,kQ⟩:=h;have hu:=jJ hr
  refine ⟨_,ao (fC (uZ (zo hu (pv 1) (bz (pv 0) rfl))) (aF (nS rfl tH (T.exc .dO) rfl (T.FO .dO))) cZ)<|
   aF (bT (ig hu (bz (pv 0) rfl) (pv 1) (λ_ _=>rfl))),?_⟩
  refine ⟨_,rfl,_,rfl,h,_,dx,_,_,rfl,h1,T.cls .aD,T.na .aD "held" (by decide),rfl,hd,_,rfl,mL.k (k:=aW n) h3,_,rfl,?_⟩;rcases h4.val n with ⟨e1,e2⟩|⟨b,v,e1,e2,a,bx,rfl,ha,ta⟩
  ·rw[e2];exact lg (kE e1)
  ·have g1:=mL.k (k:=aW n) h3;rw[e2] at g1⊢;refine mJ ?_;exact ⟨_,rfl,h,_,dx,_,_,rfl,h1,T.cls .aD,T.na .aD "held" (by decide),rfl,_,rfl,hd,_,rfl,g1,kQ b a bx e1 ha ta ⟨dx,p,hd,sd,kh,h1,t1,h3,t3,e2⟩⟩
def MJ(A:gI):Sp:=λvs H Q E=>∃(τ:Tg) (h:Addr) (c:HC) (k:Int),vs=[.ref h,.int k]/\eB A H τ h c/\(bM c.held k=none->E (.ref (A.ex .dO)) none H)/\
 (∀b,bM c.held k=some b->∀H' t,cY H H'->H' t=some (.tup [.int b.size,.int b.room])->Q (.ref t) H')
theorem Tp:bF ["self","place","block"] ["self","place"] (aY (Fn.st .qD)):=fs
theorem KA(T:Txt A K mg):dU P w K mg base (l8 P w) 2 (A.f .qD) (A.fd .qD) ["self","place"] (MJ A):=by
 refine rT (T.fn .qD) Tp (λvs H Q E h=>?_) (λgX B outer sh H vs Q E hr h=>?_)
 ·obtain ⟨τ,h,c,k,rfl,_⟩:=h;rfl
 ·obtain ⟨τ,h,c,n,rfl,hh,kE,kQ⟩:=h;obtain ⟨dx,p,hd,sd,kh,ks,h1,t1,h2,h3,h4,t3,h5,h6,t5⟩:=id hh.ex
  refine ⟨_,ao (bY (i:=2) Tp.nd rfl (bh rfl) (bK (pv 0) (T.cls .aD) (T.me .g8 .aD rfl rfl) (DW T) hr (T.bn .g8) .nil dP (aa (pv 1) aA)))<|
   aF (bT (k_ (aa (bz (pv 2) rfl) (aa (bz (pv 2) rfl) aA)))),?_⟩
  refine ⟨_,rfl,h,dx,_,rfl,h1,rfl,_,rfl,τ,h,c,n,rfl,hh,kE,λb a bx e1 ha ta _=>?_⟩;refine ⟨_,rfl,a,_,bx,_,_,rfl,ha,T.cls .bD,T.na .bD "size" (by decide),rfl,_,rfl,a,_,bx,_,_,rfl,ha,T.cls .bD,T.na .bD "room" (by decide),rfl,(by show 2<=sizeLine;decide),λt ht=>?_⟩;exact kQ b e1 _ t (aX ht) ak
def hasB(at_:Int):Int×lD->Bool:=λq=>decide (q.1<=at_)&&decide (at_<q.1+q.2.size)
def JA(A:gI):Sp:=λvs H Q E=>∃(τ:Tg) (h:Addr) (c:HC) (at_:Int),vs=[.ref h,.int at_]/\eB A H τ h c/\(c.held.find? (hasB at_)=none->∀H',cY H H'->E (.ref (A.ex .dO)) none H')/\
 (∀q,c.held.find? (hasB at_)=some q->∀H',cY H H'->Q (.int q.1) H')
theorem P0:bF ["self","at","place","block"] ["self","at"] (aY (Fn.st .lT)):=fs
theorem zu(T:Txt A K mg):dU P w K mg base (l8 P w) 1 (A.f .lT) (A.fd .lT) ["self","at"] (JA A):=by
 refine rT (T.fn .lT) P0 (λvs H Q E h=>?_) (λgX B outer sh H vs Q E hr h=>?_)
 ·obtain ⟨τ,h,c,k,rfl,_⟩:=h;rfl
 ·obtain ⟨τ,h,c,at_,rfl,hh,kE,kQ⟩:=h;obtain ⟨dx,p,hd,sd,kh,ks,h1,t1,h2,h3,h4,t3,h5,h6,t5⟩:=id hh.ex
  refine ⟨_,ao (ue (jY PassesOwn.leaving rfl (uf (bz (pv 0) rfl)) (qh rfl (gm (dB (i:=2) P0.nd rfl (bh rfl)) (gm (dB (i:=3) P0.nd rfl (bh rfl)) nB)))
    (aF (fC (J5 Fx rS (pv 2) (pv 1) (bW fM (pv 2) (bz (pv 3) rfl))) (aF (bT (pv 2))) cZ))))<|
   aF (nS rfl tH (T.exc .dO) rfl (T.FO .dO)),?_⟩
  refine ⟨hd,.dK kh,h3,trivial,λod=>?_⟩
  refine ⟨_,rfl,h,_,dx,_,_,rfl,kU h3 h1,T.cls .aD,T.na .aD "held" (by decide),rfl,hd,od,kh,rfl,ak,zO (λi σ H2=>∃(v2 v3:Option V),σ=[some (.ref h),some (.int at_),v2,v3]/\cY (upd H hd (.nG od (.dK kh))) H2/\∀q∈c.held.take i,hasB at_ q=false)
   ⟨none,none,rfl,.refl _,λq hq=>by simp at hq⟩ (λi σ H2 ⟨_,_,_,b,_⟩=>b _ _ ak) ?_ ?_⟩
  ·rintro i kk v t σ H2 hi ht ⟨v2,v3,rfl,b,ql⟩;obtain ⟨q,hq,hk,a,bx,rfl,ha,ta⟩:=h4.get hi;subst hk;have s3:=b.trans (aX (o:=.tup [kV (aW q.1),.ref a]) ht)
   have stop:hasB at_ q=false->∀y∈c.held.take (i+1),hasB at_ y=false:=λz y hy=>by
    rw[cN,hq] at hy;rcases bG.mp hy with hy|hy
    ·exact ql y hy
    ·have:y=q:=by simpa using hy
     subst this;exact z
   refine ⟨t,_,rfl,lW.of ak,rfl,_,_,rfl,_,_,rfl,rfl,?_⟩;refine ⟨_,rfl,_,rfl,_,_,rfl,rfl,_,rfl,?_⟩;refine iP (λc1=>?_) (λc1=>?_)
   ·refine ⟨_,rfl,_,rfl,a,_,bx,_,_,rfl,s3 _ _ (kU h3 ha),T.cls .bD,T.na .bD "size" (by decide),rfl,_,_,rfl,rfl,_,_,rfl,rfl,_,rfl,?_⟩;refine iP (λc2=>?_) (λc2=>?_)
    ·refine ⟨_,rfl,s3 _ _ ak,kQ q (wX ql hq ?_) _ (jX h3 s3)⟩;unfold hasB;rw[c1,c2];rfl
    ·refine ⟨_,_,rfl,s3,stop ?_⟩;unfold hasB;rw[gh.mpr c2,tG]
   ·refine ⟨_,rfl,mJ ⟨_,_,rfl,s3,stop ?_⟩⟩;unfold hasB;rw[gh.mpr c1,oS]
  ·rintro σ H2 ⟨v2,v3,rfl,b,ql⟩;refine ⟨b _ _ ak,?_⟩;refine kE (dW.mpr λq hq=>?_) _ (jX h3 b);rw[ql q (by rw[h4.len,ff];exact hq)];exact cW
def PK(A:gI):Sp:=λvs H Q E=>∃(τ:Tg) (h:Addr) (c:HC) (at_ n:Int),vs=[.ref h,.int at_,.int n]/\eB A H τ h c/\(c.held.map (·.1)).Nodup/\
 ((∀q,c.held.find? (hasB at_)=some q->¬at_+n<=q.1+q.2.size)->∀H',cY H H'->E (.ref (A.ex .dO)) none H')/\
 (∀q,c.held.find? (hasB at_)=some q->at_+n<=q.1+q.2.size->∀H',cY H H'->Q (.int q.1) H')
theorem Tq:bF ["self","at","many","place"] ["self","at","many"] (aY (Fn.st .fO)):=fs
theorem wJ(T:Txt A K mg):dU P w K mg base (l8 P w) 2 (A.f .fO) (A.fd .fO) ["self","at","many"] (PK A):=by
 refine rT (T.fn .fO) Tq (λvs H Q E h=>?_) (λgX B outer sh H vs Q E hr h=>?_)
 ·obtain ⟨τ,h,c,k,_,rfl,_⟩:=h;rfl
 ·obtain ⟨τ,h,c,at_,n,rfl,hh,lu,kE,kQ⟩:=h;have hu:=jJ hr;obtain ⟨dx,p,hd,sd,kh,ks,h1,t1,h2,h3,h4,t3,h5,h6,t5⟩:=id hh.ex
  refine ⟨_,ao (bY (i:=3) Tq.nd rfl (bh rfl) (bK (pv 0) (T.cls .aD) (T.me .lT .aD rfl rfl) (zu T) hr (T.bn .lT) .nil dP (aa (pv 1) aA)))<|
   ao (fC (dz pK (bW fM (pv 1) (pv 2)) (bW fM (pv 3) (bz (ig hu (bz (pv 0) rfl) (pv 3) (λ_ _=>rfl)) rfl)) (dH _)) (aF (nS rfl tH (T.exc .dO) rfl (T.FO .dO))) cZ)<|
   aF (bT (pv 3)),?_⟩
  refine ⟨_,rfl,h,dx,_,rfl,h1,rfl,_,rfl,τ,h,c,at_,rfl,hh,λe H2 s2=>kE (λq z=>by rw[e] at z;cases z) H2 s2,λq e H2 s2=>?_⟩;have QL:bM c.held q.1=some q.2:=d7 lu (bE e);obtain ⟨v,hv,a,bx,rfl,ha,ta⟩:=h4.here QL;have g1:=mL.k (k:=aW q.1) (s2 _ _ h3);rw[hv] at g1;refine ⟨_,rfl,_,rfl,_,_,rfl,rfl,_,rfl,_,rfl,h,_,dx,_,_,rfl,s2 _ _ h1,T.cls .aD,T.na .aD "held" (by decide),rfl,_,rfl,hd,_,rfl,g1,a,_,bx,_,_,rfl,s2 _ _ ha,T.cls .bD,T.na .bD "size" (by decide),rfl,_,_,rfl,rfl,_,_,rfl,rfl,_,rfl,?_⟩;refine iP (λc1=>?_) (λc1=>?_)
  ·refine kE (λq' z=>?_) H2 s2;rw[e] at z;cases z;have:q.1+(q.2.size:Int)<at_+n:=of_decide_eq_true c1;omega
  ·have:¬q.1+(q.2.size:Int)<at_+n:=λz=>c1 (decide_eq_true z);exact ⟨_,rfl,kQ q e (by omega) H2 s2⟩
def pY(c:HC)(z r:Int):List Int:=(Bd z r).filter λx=>(bM c.held x).isNone
def E7(A:gI):Sp:=λvs H Q _=>∃(τ:Tg) (h:Addr) (c:HC) (z r:Int),vs=[.ref h,.int z,.int r]/\eB A H τ h c/\z∈aV/\∀H' l,cY H H'->H l=none->H' l=some (.lst ((pY c z r).map V.int))->Q (.ref l) H'
theorem P1:bF ["self","small","run","place"] ["self","small","run"] (aY (Fn.st .eZ)):=fs
theorem xS(T:Txt A K mg):dU P w K mg base pq 3 (A.f .eZ) (A.fd .eZ) ["self","small","run"] (E7 A):=by
 refine (T.fn .eZ).ok P1 (λvs H Q E h=>?_) (λgX B outer sh H vs Q E hr h=>?_)
 ·obtain ⟨τ,h,c,z,r,rfl,_⟩:=h;rfl
 ·obtain ⟨τ,h,c,z,r,rfl,hh,hz,k⟩:=h;have hu:=jJ hr;obtain ⟨dx,p,hd,sd,kh,ks,h1,t1,h2,h3,h4,t3,h5,h6,t5⟩:=id hh.ex;have US:=(kM hz).2.2.1;have v9:(Bd z r).length<=256:=by unfold Bd;simpa using US
  refine ⟨_,aF (bT (vF (own:=[("place",3)]) (tt:=tB (E3 (l7 3) (By K (l7 0) "held"))) rfl P1.nd (iV (dh (Kn T) hr rfl (T.o_ .d9 rfl) (T.fn .d9).kp (T.bn .d9) .nil c_ (aa (pv 1) (aa (pv 2) aA)))) (jz rfl)
   (λ_ _ _ _ _=>dB (i:=3) P1.nd rfl (bh rfl)) (λ_ _ _ _ _=>AE (uZ (zo hu (pv 3) (bz (pv 0) rfl)))) (λ_ _ _ _ _=>pv 3))),?_⟩
  refine ⟨_,rfl,_,rfl,z,r,rfl,hz,λH1 l s1 hl nF=>?_⟩;refine ⟨l,rfl,⟨_,.of nF⟩,λD hD=>pN (K:=K) (a:=l) (xs:=(Bd z r).map V.int) (λi=>((Bd z r)[i]?).bind λx=>if (bM c.held x).isNone then some (V.int x) else none) (by rw[aj];omega) hD (.of nF) ?_ ?_⟩
  ·rintro i y H2 R N hi b Q8;obtain ⟨x,hx,rfl⟩:=ints_get hi;have s2:=s1.trans b;have e0:((Bd z r)[i]?).bind (λx=>if (bM c.held x).isNone then some (V.int x) else none)=if (bM c.held x).isNone then some (V.int x) else none:=by rw[hx];rfl
   have hR:=Q8 H2 (.refl _);rw[e0] at hR;refine ⟨rfl,?_⟩;refine ⟨_,rfl,_,rfl,h,_,dx,_,_,rfl,s2 _ _ h1,T.cls .aD,T.na .aD "held" (by decide),rfl,hd,_,rfl,mL.k (k:=aW x) (s2 _ _ h3),_,rfl,?_⟩;rcases h4.val x with ⟨e1,e2⟩|⟨b',v,e1,e2,_⟩
   ·rw[e2];rw[e1] at hR;exact lg ⟨_,rfl,hR.1 _ rfl⟩
   ·rw[e2];rw[e1] at hR;exact mJ (hR.2 rfl)
  ·intro H' s2 h';refine k H' D (s1.trans s2) (s1.free hD) (h'.trans ?_);rw[aj,mD (Bd z r) (λx=>if (bM c.held x).isNone then some (V.int x) else none) _ (λi x hx=>by rw[hx];rfl)];unfold pY;congr 2;generalize Bd z r=l
   induction l with
   |nil=>rfl
   |cons a l ih=>
    rw[fu,bU];cases (bM c.held a).isNone with
    |true=>simp only[if_true,aI];rw[ih]
    |false=>simp only[lO,if_false];exact ih
def Pe(A:gI)(K:au):TT:=λσ H Q=>Bx (A.cl .aD) "free_places" (E7 A) [] E0 (l7 0) (l_ (l7 1) (l_ (l7 2) yR)) σ H λx H'=>∃k,RL K x H' k/\Q k H'
def j4(c:HC)(z:Int)(l:List Int):List Int:=l.filter λr=> !(pY c z r).isEmpty
def MM(A:gI):Sp:=λvs H Q _=>∃(τ:Tg) (h:Addr) (c:HC) (z:Int) (l:List Int),vs=[.ref h,.int z]/\eB A H τ h c/\z∈aV/\bM c.small z=some l/\l.length<=100000/\∀H' a,cY H H'->H a=none->H' a=some (.lst ((j4 c z l).map V.int))->Q (.ref a) H'
theorem PZ:bF ["self","small","run"] ["self","small"] (aY (Fn.st .gK)):=fs
theorem BX(T:Txt A K mg):dU P w K mg base pq 4 (A.f .gK) (A.fd .gK) ["self","small"] (MM A):=by
 refine (T.fn .gK).ok PZ (λvs H Q E h=>?_) (λgX B outer sh H vs Q E hr h=>?_)
 ·obtain ⟨τ,h,c,z,l,rfl,_⟩:=h;rfl
 ·obtain ⟨τ,h,c,z,l,rfl,hh,hz,hl,hlen,k⟩:=h;have hu:=jJ hr;obtain ⟨dx,p,hd,sd,kh,ks,h1,t1,h2,h3,h4,t3,h5,h6,t5⟩:=id hh.ex;obtain ⟨v,hv,a,rfl,ha,ta⟩:=h6.here hl;have g1:=mL.k (k:=aW z) h5;rw[hv] at g1
  refine ⟨_,aF (bT (vF (own:=[("run",2)]) (tt:=Pe A K) rfl PZ.nd (iV (ig hu (bz (pv 0) rfl) (pv 1) (λ_ _=>rfl))) (jz rfl)
   (λ_ _ _ _ _=>dB (i:=2) PZ.nd rfl (bh rfl)) (λ_ _ _ _ _=>AE (pH (bK (pv 0) (T.cls .aD) (T.me .eZ .aD rfl rfl) (xS T) hr (T.bn .eZ) .nil c_ (aa (pv 1) (aa (pv 2) aA))) (λ_=>rfl))) (λ_ _ _ _ _=>pv 2))),?_⟩
  refine ⟨_,rfl,h,_,dx,_,_,rfl,h1,T.cls .aD,T.na .aD "small_runs" (by decide),rfl,_,rfl,sd,_,rfl,g1,a,rfl,⟨_,.of ha⟩,λD hD=>pN (K:=K) (a:=a) (xs:=l.map V.int) (λi=>(l[i]?).bind λx=>if (pY c z x).isEmpty then none else some (V.int x)) (by rw[aj];omega) hD (.of ha) ?_ ?_⟩
  ·rintro i y H2 R N hi b Q8;obtain ⟨x,hx,rfl⟩:=ints_get hi;have e0:(l[i]?).bind (λx=>if (pY c z x).isEmpty then none else some (V.int x))=if (pY c z x).isEmpty then none else some (V.int x):=by rw[hx];rfl
   refine ⟨rfl,?_⟩;refine ⟨_,rfl,h,dx,_,rfl,b _ _ h1,rfl,_,rfl,_,rfl,τ,h,c,z,x,rfl,hh.same b,hz,λH3 l3 s3 wQ Lj=>?_⟩;have hR:=Q8 H3 s3;rw[e0] at hR;refine ⟨_,.inl ⟨_,.of Lj,rfl⟩,?_⟩;have ei:(((pY c z x).map V.int).isEmpty)=(pY c z x).isEmpty:=by cases pY c z x<;>rfl
   rw[ei];cases e1:(pY c z x).isEmpty with
   |true=>
    rw[e1] at hR;exact mJ (hR.2 rfl)
   |false=>
    rw[e1] at hR;exact lg ⟨_,rfl,hR.1 _ rfl⟩
  ·intro H' s2 h';refine k H' D s2 hD (h'.trans ?_);rw[aj,mD l (λx=>if (pY c z x).isEmpty then none else some (V.int x)) _ (λi x hx=>by rw[hx];rfl)];unfold j4;congr 2;clear k hl hlen h' ha hv g1
   induction l with
   |nil=>rfl
   |cons b l ih=>
    rw[fu,bU];cases (pY c z b).isEmpty with
    |true=>simp only[if_true,Bool.not_true,lO,if_false];exact ih
    |false=>simp only[Bool.not_false,if_true,lO,if_false,aI];rw[ih]
def gw(c:HC)(z r:Int):Bool:=decide ((pY c z r).length=(Bd z r).length)
def JC(A:gI):Sp:=λvs H Q _=>∃(τ:Tg) (h:Addr) (c:HC) (z r:Int),vs=[.ref h,.int z,.int r]/\eB A H τ h c/\z∈aV/\∀H',cY H H'->Q (.bl (gw c z r)) H'
theorem Xp:bF ["self","small","run"] ["self","small","run"] (aY (Fn.st .iZ)):=fs
theorem zw(T:Txt A K mg):dU P w K mg base pq 4 (A.f .iZ) (A.fd .iZ) ["self","small","run"] (JC A):=by
 refine (T.fn .iZ).ok Xp (λvs H Q E h=>?_) (λgX B outer sh H vs Q E hr h=>?_)
 ·obtain ⟨τ,h,c,z,r,rfl,_⟩:=h;rfl
 ·obtain ⟨τ,h,c,z,r,rfl,hh,hz,k⟩:=h;obtain ⟨dx,p,hd,sd,kh,ks,h1,t1,h2,h3,h4,t3,h5,h6,t5⟩:=id hh.ex
  refine ⟨_,aF (bT (nE lA (cF cQ rfl T.mK.len cH (aa (bK (pv 0) (T.cls .aD) (T.me .eZ .aD rfl rfl) (xS T) hr (T.bn .eZ) .nil c_ (aa (pv 1) (aa (pv 2) aA))) aA))
   (cF cQ rfl T.mK.len cH (aa (dh (Kn T) (hr.mono (by decide)) rfl (T.o_ .d9 rfl) (T.fn .d9).kp (T.bn .d9) .nil c_ (aa (pv 1) (aa (pv 2) aA))) aA)) (dH _))),?_⟩
  refine ⟨_,rfl,h,dx,_,rfl,h1,rfl,_,rfl,_,rfl,τ,h,c,z,r,rfl,hh,hz,λH1 l1 s1 nF Zh=>?_⟩;refine ⟨l1,_,rfl,.inl (.of Zh),_,rfl,_,rfl,z,r,rfl,hz,λH2 l2 s2 tV Zg=>?_⟩;refine ⟨l2,_,rfl,.inl (.of Zg),rfl,?_⟩
  have e:decide (V.int (((pY c z r).map V.int).length:Int)=V.int (((Bd z r).map V.int).length:Int))=gw c z r:=by
   unfold gw;rw[aj,aj];refine decide_eq_decide.mpr ⟨λq=>?_,λq=>by rw[q]⟩;have:=V.int.inj q;omega
  show Q (V.bl (decide (V.int (((pY c z r).map V.int).length:Int)=V.int (((Bd z r).map V.int).length:Int)))) H2;rw[e];exact k H2 (s1.trans s2)
def Px(A:gI):Sp:=λvs H Q _=>∃(τ:Tg) (h:Addr) (c:HC) (z r:Int) (l:List Int),vs=[.ref h,.int z,.int r]/\eB A H τ h c/\z∈aV/\bM c.small z=some l/\l.length<=100000/\∀H',cY H H'->Q (.bl (gw c z r&&decide (1<(j4 c z l).length))) H'
theorem Xm:bF ["self","small","run"] ["self","small","run"] (aY (Fn.st .gS)):=fs
theorem Ny(T:Txt A K mg):dU P w K mg base pq 5 (A.f .gS) (A.fd .gS) ["self","small","run"] (Px A):=by
 refine (T.fn .gS).ok Xm (λvs H Q E h=>?_) (λgX B outer sh H vs Q E hr h=>?_)
 ·obtain ⟨τ,h,c,z,r,l,rfl,_⟩:=h;rfl
 ·obtain ⟨τ,h,c,z,r,l,rfl,hh,hz,hl,hlen,k⟩:=h;obtain ⟨dx,p,hd,sd,kh,ks,h1,t1,h2,h3,h4,t3,h5,h6,t5⟩:=id hh.ex;refine ⟨_,aF (bT (AK (bK (pv 0) (T.cls .aD) (T.me .iZ .aD rfl rfl) (zw T) hr (T.bn .iZ) .nil c_ (aa (pv 1) (aa (pv 2) aA))) (AI (nE pK (cF cQ rfl T.mK.len cH (aa (bK (pv 0) (T.cls .aD) (T.me .gK .aD rfl rfl) (BX T) hr (T.bn .gK) .nil c_ (aa (pv 1) aA)) aA)) bq (dH _))))),?_⟩;refine ⟨_,rfl,h,dx,_,rfl,h1,rfl,_,rfl,_,rfl,τ,h,c,z,r,rfl,hh,hz,λH1 s1=>?_⟩;refine ⟨_,rfl,?_⟩;cases e1:gw c z r with
  |false=>
   rw[e1] at k;exact mJ (k H1 s1)
  |true=>
   rw[e1] at k;refine lg ?_;refine ⟨_,rfl,h,dx,_,rfl,s1 _ _ h1,rfl,_,rfl,τ,h,c,z,l,rfl,hh.same s1,hz,hl,hlen,λH2 a s2 ha ha'=>?_⟩;refine ⟨a,_,rfl,.inl (.of ha'),_,_,rfl,rfl,?_⟩
   have e:decide ((1:Int)<(((j4 c z l).map V.int).length:Int))=decide (1<(j4 c z l).length):=by
    rw[aj];exact decide_eq_decide.mpr (by omega)
   show Q (V.bl (decide ((1:Int)<(((j4 c z l).map V.int).length:Int)))) H2;rw[e];simpa using k H2 (s1.trans s2)
end
end Rm
namespace Rm
open PySem L2
def jI(c:HC)(n:Nat)(m:Int)(rs:List Int)(i:Nat):HC×Option Nat×List iN:=
 if n<=16384 then ({c with qY:=λx=>if (iT c.pg n rs i).2.1=some x.toNat/\0<=x then m else c.qY x,pg:=(iT c.pg n rs i).1},(iT c.pg n rs i).2) else (c,none,[])
def TD:Tag->Prop
 |.asks|.pages|.runs|.held|.smalls|.sl _=>True
 |_=>False
theorem TP.td(t:Tag)(h:TP t):TD t:=by cases t<;>first|exact h|trivial
def lB(l:List Int):List Int:=l.mergeSort λa b=>decide (a<=b)
theorem x9{l m:List Int}(p:m.Perm l)(h:m.Pairwise (·<=·)):m=lB l:=by
 have h2:(lB l).Pairwise (·<=·):=by
  have:=jq (le:=λa b:Int=>decide (a<=b)) (λa b c h1 h2=>by simp only[decide_eq_true_eq] at*;omega) (λa b=>by simp only[gv,decide_eq_true_eq];omega) l;exact this.imp λh=>of_decide_eq_true h
 exact (p.trans (iy l _).symm).eq_of_pairwise (λa b _ _ h1 h2=>Int.le_antisymm h1 h2) h h2
section
variable{P:Program}{w:World}{K:au}{mg:Str->Option Value}{base:Heap}{A:gI}
def Py(A:gI):Sp:=λvs H Q E=>∃(τ:Tg) (h:Addr) (c:HC) (g:Addr) (rs:List Int) (q0:List (List Int)) (n:Nat) (m:Int),vs=[.ref h,.int n,.int m,.ref g]/\Al τ H/\eB A H τ h c/\b6 c.pg/\bB A H τ g rs q0/\q0.length<=700000/\0<n/\0<=m/\m<=7/\
 (∀H' τ' a,(jI c n m rs q0.length).2.1=some a->dS TD τ τ' H H'->eB A H' τ' h (jI c n m rs q0.length).1->bB A H' τ' g rs (q0++(jI c n m rs q0.length).2.2.map aO)->Q (.int (a:Nat)) H')/\
 (∀H' τ' o,(jI c n m rs q0.length).2.1=none->dS TD τ τ' H H'->eB A H' τ' h (jI c n m rs q0.length).1->bB A H' τ' g rs (q0++(jI c n m rs q0.length).2.2.map aO)->E (.ref (A.ex .dg)) o H')
theorem Xn:bF ["self","pages","mark","given"] ["self","pages","mark","given"] (aY (Fn.st .iY)):=fs
theorem FD(T:Txt A K mg):dU P w K mg base (l8 P w) 6 (A.f .iY) (A.fd .iY) ["self","pages","mark","given"] (Py A):=by
 refine rT (T.fn .iY) Xn (λvs H Q E h=>?_) (λgX B outer sh H vs Q E hr h=>?_)
 ·obtain ⟨τ,h,c,g,rs,q0,n,m,rfl,_⟩:=h;rfl
 ·obtain ⟨τ,h,c,g,rs,q0,n,m,rfl,al,hh,cI,hg,rj,hn,Lg,Y8,kQ,kE⟩:=h;obtain ⟨dx,p,hd,sd,kh,ks,h1,t1,h2,h3,h4,t3,h5,h6,t5⟩:=id hh.ex;obtain ⟨zm,XS,pr,RY,RX,Fo,_⟩:=id h2.ex
  refine ⟨_,aF (DL (tb:=λE'=>yQ (Bx (A.cl .aM) "take" (E5 A) [] E' (By K (l7 0) "pages") (l_ (l7 1) (l_ (tC (.int 0)) (l_ (l7 2) (l_ (l7 3) yR)))))) ⟨rfl,rfl,rfl⟩ (λE' pn E2 hp=>aF (bT (bK (bz (pv 0) rfl) (T.cls .aM) (T.me .m6 .aM rfl rfl) (Ko T) hr (T.bn .m6) .nil hp (aa (pv 1) (aa bq (aa (pv 2) (aa (pv 3) aA)))))))
   (J_ ⟨rfl,rfl,rfl⟩ (T.exc .b7) rfl (T.FO .b7) (T.exc .dg) rfl (T.FO .dg) (J' ⟨rfl,rfl,rfl⟩ Ei) Mv)),?_⟩
  refine ⟨_,rfl,h,_,dx,_,_,rfl,h1,T.cls .aD,T.na .aD "pages" (by decide),rfl,p,zm,_,rfl,Fo,rfl,_,rfl,_,rfl,_,rfl,τ,p,c.qY,c.pg,g,rs,q0,n,m,rfl,al,h2,cI,hg,by omega,hn,Lg,Y8,?_,?_,?_⟩
  ·intro z;have e:jI c n m rs q0.length=(c,none,[]):=if_neg z;rw[e] at kE;refine ⟨A.ex .b7,rfl,T.exc .b7,?_⟩;rw[if_pos rfl];exact ⟨rfl,kE H τ _ rfl (.refl id al) hh (by simpa using hg)⟩
  ·intro z H' τ' a ea S G Lm;have e:jI c n m rs q0.length=_:=if_pos z;rw[e] at kQ;refine kQ H' τ' a ea (S.mono id TP.td) (eB.pages (A:=A) (c:=c) S h1 t1 h3 h4 t3 h5 h6 t5 ?_) Lm
   have em:(λx:Int=>if (iT c.pg n rs q0.length).2.1=some x.toNat/\0<=x then m else c.qY x)=λx=>if x=(a:Int) then m else c.qY x:=by
    funext x;rw[ea]
    by_cases hx:x=(a:Int)
    ·subst hx;rw[if_pos ⟨by simp,by omega⟩,if_pos rfl]
    ·rw[if_neg λq=>hx (by have:=bC q.1;omega),if_neg hx]
   rw[em];exact G
  ·intro z H' τ' ea S G Lm;have e:jI c n m rs q0.length=_:=if_pos z;rw[e] at kE;refine ⟨A.ex .dg,rfl,T.exc .dg,?_⟩;rw[if_neg (show¬A.ex .dg=A.ex .b7 from λq=>by have:=T.Vs _ _ q;cases this)];refine kE H' τ' _ ea (S.mono id TP.td) (eB.pages (A:=A) (c:=c) S h1 t1 h3 h4 t3 h5 h6 t5 ?_) Lm
   have em:(λx:Int=>if (iT c.pg n rs q0.length).2.1=some x.toNat/\0<=x then m else c.qY x)=c.qY:=by
    funext x;rw[ea,if_neg λq=>nomatch q.1]
   rw[em];exact G
theorem xW{H H2:Hp}{τ:Tg}{x dx c cx d:Addr}{b:lD}{k:Int}(al:Al τ H)(nx:H x=none)(Uh:H dx=none)(R5:dx≠x)(hb:b.con=c)
  (g1:H2 x=some (.ins (A.cl .bD) dx (bf b))) (g2:H2 c=some (.ins (A.cl .bQ) cx (cf d))) (g3:H2 d=some (.dK []))
  (g4:upd (upd H dx (.own x)) x (.ins (A.cl .bD) dx []) c=none) (g5:upd (upd H dx (.own x)) x (.ins (A.cl .bD) dx []) d=none) (g6:∀b o,upd (upd H dx (.own x)) x (.ins (A.cl .bD) dx []) b=some o->b≠x->H2 b=some o):
  cY H H2/\dS TD τ (gi (gi (gi τ x (.rm k)) c (.con c)) d (.DQ c)) H H2/\mZ A H2 (gi (gi (gi τ x (.rm k)) c (.con c)) d (.DQ c)) k (.ref x) b/\fP A H2 (gi (gi (gi τ x (.rm k)) c (.con c)) d (.DQ c)) c []/\H c=none:=by
 have s:cY H H2:=cY.made nx Uh g6;have Mc:x≠c:=λz=>by rw[<-z,ak] at g4;cases g4
 have Qu:x≠d:=λz=>by rw[<-z,ak] at g5;cases g5
 have ndc:dx≠c:=λz=>by rw[<-z,az R5,ak] at g4;cases g4
 have ndd:dx≠d:=λz=>by rw[<-z,az R5,ak] at g5;cases g5
 have OL:c≠d:=mh g2 g3 (by intro z;cases z);have hc:H c=none:=by rw[az Mc.symm,az ndc.symm] at g4;exact g4
 have hd:H d=none:=by rw[az Qu.symm,az ndd.symm] at g5;exact g5
 have S:dS TD τ (gi (gi (gi τ x (.rm k)) c (.con c)) d (.DQ c)) H H2:=(((dS.same id al s).tag nx g1 oY _).tag hc g2 oY _).tag hd g3 oB _;refine ⟨s,S,⟨x,dx,rfl,g1,?_⟩,⟨cx,d,[],g2,g3,.nil,?_,eV⟩,hc⟩
 ·rw[cT Qu,cT Mc,eV]
 ·rw[cT OL,eV]
theorem eB.T7{H:Hp}{τ:Tg}{h dx p hd sd:Addr}{kh ks:List (Key×V)}{c:HC}{k:Int}{v:V}{b:lD}(al:Al τ H)(h1:H h=some (.ins (A.cl .aD) dx (hf p hd sd)))(t1:τ h=.nU)(h2:fQ A H τ p c.qY c.pg)(h3:H hd=some (.dK kh))(h4:gy (mZ A H τ) kh c.held)(t3:τ hd=.held)(h5:H sd=some (.dK ks))(h6:gy (CI H τ) ks c.small)(t5:τ sd=.smalls)(r:mZ A H τ k v b):
  dS TD τ τ H (upd H hd (.dK (putK kh (aW k) v)))/\eB A (upd H hd (.dK (putK kh (aW k) v))) τ h {c with held:=dY c.held k b}/\(∀c2 m,fP A H τ c2 m->fP A (upd H hd (.dK (putK kh (aW k) v))) τ c2 m)/\(∀g rs qs,bB A H τ g rs qs->bB A (upd H hd (.dK (putK kh (aW k) v))) τ g rs qs):=by
 have S1:dS (λt=>t=.held) τ τ H (upd H hd (.dK (putK kh (aW k) v))):=.put (λz=>nomatch z) al h3 t3 oB
 refine ⟨S1.mono id λt e=>by subst e;trivial,⟨dx,p,hd,sd,_,ks,S1.kp t1 (λz=>nomatch z) h1,t1,h2.step S1 (λz=>nomatch z) (λz=>nomatch z) (λz=>nomatch z),ak,h4.put (mZ.step S1 (λ_ z=>nomatch z) _ _ _ r) λk' v' x' _ _=>mZ.step S1 (λ_ z=>nomatch z) k' v' x',t3,S1.kp t5 (λz=>nomatch z) h5,h6.imp (CI.step S1 λ_ z=>nomatch z),t5⟩,
  λc2 m x=>x.step S1 (λz=>nomatch z) (λz=>nomatch z),λg rs qs x=>x.step S1 (λz=>nomatch z)⟩
theorem mZ.th{H H':Hp}{τ τ':Tg}(s:cY H H')(e:∀b o,H b=some o->τ' b=τ b)(k:Int)(v:V)(b:lD)(h:mZ A H τ k v b):mZ A H' τ' k v b:=let ⟨a,dx,ev,h1,t⟩:=h;⟨a,dx,ev,s _ _ h1,(e _ _ h1).trans t⟩
theorem eB.ext{H H':Hp}{τ τ':Tg}{h:Addr}{c:HC}(x:eB A H τ h c)(s:cY H H')(e:∀b o,H b=some o->τ' b=τ b):eB A H' τ' h c:=by
 obtain ⟨dx,p,hd,sd,kh,ks,h1,t1,h2,h3,h4,t3,h5,h6,t5⟩:=x.ex;obtain ⟨zm,f,r,kvs,gY,p1,⟨as,p2,p2'⟩,p3,p4,p5,u1,u2,u3⟩:=h2.ex;refine ⟨dx,p,hd,sd,kh,ks,s _ _ h1,(e _ _ h1).trans t1,⟨zm,f,r,kvs,gY,s _ _ p1,⟨as,s _ _ p2,p2'.mono λ_ _=>s _ _⟩,s _ _ p3,p4.imp (nV.mono λ_ _=>s _ _),p5,(e _ _ p1).trans u1,(e _ _ p2).trans u2,(e _ _ p3).trans u3⟩,s _ _ h3,h4.imp (mZ.th s e),(e _ _ h3).trans t3,s _ _ h5,h6.imp λk v l ⟨a,ev,q,t⟩=>⟨a,ev,s _ _ q,(e _ _ q).trans t⟩,(e _ _ h5).trans t5⟩
theorem bB.ext{H H':Hp}{τ τ':Tg}{g:Addr}{rs:List Int}{qs:List (List Int)}(h:bB A H τ g rs qs)(s:cY H H')(e:∀b o,H b=some o->τ' b=τ b):bB A H' τ' g rs qs:=by
 obtain ⟨dx,r,a,as,h1,h2,h3,h4,t1,t2,t3⟩:=h.ex;exact ⟨dx,r,a,as,s _ _ h1,s _ _ h2,s _ _ h3,h4.mono λ_ _=>s _ _,(e _ _ h1).trans t1,(e _ _ h2).trans t2,(e _ _ h3).trans t3⟩
def bZ(n:Nat):Nat:=(n+4095)/4096
def NR(c:HC)(n:Nat)(rs:List Int)(i:Nat):HC×Option (Int×Nat×Nat)×List iN:=((jI c (bZ n) 0 rs i).1,(jI c (bZ n) 0 rs i).2.1.map (λ(a:Nat)=>((a:Int)*4096,bZ n*4096,a)),(jI c (bZ n) 0 rs i).2.2)
def RS(A:gI)(H:Hp)(τ:Tg)(h:Addr)(g:Addr)(rs:List Int)(q0:List (List Int))(n:Nat)(y:HC×Option (Int×Nat×Nat)×List iN)(Q:VK)(E:XK):Prop:=
 (∀H' τ' p z r cn,y.2.1=some (p,z,r)->dS TD τ τ' H H'->eB A H' τ' h {y.1 with held:=dY y.1.held p ⟨n,z,r,cn⟩}->fP A H' τ' cn []->H cn=none->bB A H' τ' g rs (q0++y.2.2.map aO)->Q (.int p) H')/\
 (∀H' τ' o,y.2.1=none->dS TD τ τ' H H'->eB A H' τ' h y.1->bB A H' τ' g rs (q0++y.2.2.map aO)->E (.ref (A.ex .dg)) o H')
def JB(A:gI):Sp:=λvs H Q E=>∃(τ:Tg) (h:Addr) (c:HC) (g:Addr) (rs:List Int) (q0:List (List Int)) (n:Nat),vs=[.ref h,.int n,.ref g]/\Al τ H/\eB A H τ h c/\b6 c.pg/\bB A H τ g rs q0/\q0.length<=700000/\0<n/\c.held.length<=1000/\
 RS A H τ h g rs q0 n ((jI c (bZ n) 0 rs q0.length).1,(jI c (bZ n) 0 rs q0.length).2.1.map (λ(a:Nat)=>((a:Int)*4096,bZ n*4096,a)),(jI c (bZ n) 0 rs q0.length).2.2) Q E
theorem M_:bF ["self","size","given","pages","run","place"] ["self","size","given"] (aY (Fn.st .iQ)):=fs
theorem zh(c:HC)(n:Nat)(m:Int)(rs:List Int)(i:Nat):(jI c n m rs i).1.held=c.held/\(jI c n m rs i).1.small=c.small:=by
 unfold jI;split<;>exact ⟨rfl,rfl⟩
theorem Hx(T:Txt A K mg):dU P w K mg base (l8 P w) 7 (A.f .iQ) (A.fd .iQ) ["self","size","given"] (JB A):=by
 refine rT (T.fn .iQ) M_ (λvs H Q E h=>?_) (λgX B outer sh H vs Q E hr h=>?_)
 ·obtain ⟨τ,h,c,g,rs,q0,n,rfl,_⟩:=h;rfl
 ·obtain ⟨τ,h,c,g,rs,q0,n,rfl,al,hh,cI,hg,rj,hn,hlen,kQ,kE⟩:=h;have hu:=jJ hr;have kr:i9 1 _:=hr.mono (by decide);have Wk:i9 4 _:=hr.mono (by decide);obtain ⟨dx,p,hd,sd,kh,ks,h1,t1,h2,h3,h4,t3,h5,h6,t5⟩:=id hh.ex
  refine ⟨_,ao (bY (i:=3) M_.nd rfl (bh rfl) (dh (vG T) kr rfl (T.o_ .fY rfl) (T.fn .fY).kp (T.bn .fY) .nil c_ (aa (pv 1) aA)))<|
   ao (bY (i:=4) M_.nd rfl (bh rfl) (bK (pv 0) (T.cls .aD) (T.me .iY .aD rfl rfl) (FD T) hr (T.bn .iY) .nil dP (aa (pv 3) (aa bq (aa (pv 2) aA)))))<|
   ao (bY (i:=5) M_.nd rfl (bh rfl) (bW lR (pv 4) (pk 4096 T)))<|
   ao (nA hu (bz (pv 0) rfl) (pv 5) (AJ (T.R8 .oG .bD rfl rfl) (B0 T) Wk rfl (T.R9 .bD) (T.bn .oG) .nil c_ (aa (pv 1) (aa (bW lR (pv 3) (pk 4096 T)) (aa (pv 4) aA)))) rfl)<|
   aF (bT (pv 5)),?_⟩
  refine ⟨_,rfl,_,rfl,?_⟩;have ZU:(((n:Int)+4096-1)/4096)=((bZ n:Nat):Int):=by unfold bZ;omega
  have YQ:0<bZ n:=by unfold bZ;omega
  rw[ZU];refine ⟨_,rfl,h,dx,_,rfl,h1,rfl,_,rfl,_,rfl,τ,h,c,g,rs,q0,bZ n,0,rfl,al,hh,cI,hg,rj,YQ,by decide,by decide,λH1 τ1 a ea S1 G1 m_=>?_,λH1 τ1 o ea S1 G1 m_=>kE H1 τ1 o (by rw[ea];rfl) S1 G1 m_⟩;obtain ⟨dx,p,hd,sd,kh,ks,h1,t1,h2,h3,h4,t3,h5,h6,t5⟩:=id G1.ex;refine ⟨_,rfl,_,_,rfl,rfl,.inr ⟨by decide,by decide⟩,?_⟩;refine ⟨_,rfl,_,rfl,_,_,rfl,rfl,.inr ⟨by decide,by decide⟩,_,rfl,?_⟩;intro x bx nx Ul R5;refine ⟨x,bx,n,bZ n*4096,a,?_,ak,λH2 cn cx d g1 g2 g3 g4 g5 g6=>⟨rfl,?_⟩⟩
  ·show [V.ref x,V.int n,V.int ((bZ n:Int)*4096),V.int a]=_;rw[show ((bZ n:Int)*4096)=((bZ n*4096:Nat):Int) by omega]
  obtain ⟨s2,S2,B2,C2,Mm⟩:=xW (A:=A) (k:=(a:Int)*4096) (b:=⟨n,bZ n*4096,a,cn⟩) S1.gW nx Ul R5 rfl g1 g2 g3 g4 g5 g6;have G2:=G1.ext s2 S2.ext;have lS:=m_.ext s2 S2.ext;obtain ⟨dx,p,hd,sd,kh,ks,h1,t1,h2,h3,h4,t3,h5,h6,t5⟩:=id G2.ex;refine ⟨_,rfl,h,_,dx,_,_,rfl,h1,T.cls .aD,T.na .aD "held" (by decide),rfl,_,rfl,hd,_,rfl,vv.k (k:=aW ((a:Int)*4096)) h3 (big (by rw[h4.len,(zh c (bZ n) 0 rs q0.length).1];omega)),?_⟩;obtain ⟨S3,G3,C3,sR⟩:=eB.T7 (A:=A) (k:=(a:Int)*4096) S2.gW h1 t1 h2 h3 h4 t3 h5 h6 t5 B2;exact ⟨_,rfl,kQ _ _ _ _ _ cn (by rw[ea];rfl) (S1.trans (S2.trans S3)) G3 (C3 _ _ C2) (S1.free Mm) (sR _ _ _ lS)⟩
def vg(c:HC)(z:Int)(l:List Int)(rs:List Int)(i:Nat):HC×Option (Int×Nat×Nat)×List iN:=match j4 c z l with
 |r::_=>(c,(pY c z r).head?.map λp=>(p,z.toNat,r.toNat),[])
 |[]=>match (jI c (rp z).toNat 4 rs i).2.1 with
  |some a=>({(jI c (rp z).toNat 4 rs i).1 with small:=dY c.small z (lB (l++[(a:Int)]))},(pY c z a).head?.map λp=>(p,z.toNat,a),(jI c (rp z).toNat 4 rs i).2.2)
  |none=>((jI c (rp z).toNat 4 rs i).1,none,(jI c (rp z).toNat 4 rs i).2.2)
def Jz(A:gI):Sp:=λvs H Q E=>∃(τ:Tg) (h:Addr) (c:HC) (g:Addr) (rs:List Int) (q0:List (List Int)) (n:Nat) (z:Int) (l:List Int),vs=[.ref h,.int n,.int z,.ref g]/\Al τ H/\eB A H τ h c/\b6 c.pg/\bB A H τ g rs q0/\q0.length<=700000/\c.held.length<=1000/\c.small.length<=1000/\
 z∈aV/\bM c.small z=some l/\l.length<=90000/\(∀r∈l,0<=r)/\(∀a:Nat,(jI c (rp z).toNat 4 rs q0.length).2.1=some a->pY c z a≠[])/\
 RS A H τ h g rs q0 n (vg c z l rs q0.length) Q E
theorem M9:bF ["self","size","small","given","runs","place"] ["self","size","small","given"] (aY (Fn.st .fX)):=fs
theorem eB.BQ{H:Hp}{τ:Tg}{h dx p hd sd a:Addr}{kh ks:List (Key×V)}{c:HC}{z:Int}{l:List Int}(al:Al τ H)(h1:H h=some (.ins (A.cl .aD) dx (hf p hd sd)))(t1:τ h=.nU)(h2:fQ A H τ p c.qY c.pg)(h3:H hd=some (.dK kh))(h4:gy (mZ A H τ) kh c.held)(t3:τ hd=.held)(h5:H sd=some (.dK ks))(h6:gy (CI H τ) ks c.small)(t5:τ sd=.smalls)(ha:H a=some (.lst (l.map V.int)))(ta:τ a=.sl z):
  dS TD τ τ H (upd H sd (.dK (putK ks (aW z) (.ref a))))/\eB A (upd H sd (.dK (putK ks (aW z) (.ref a)))) τ h {c with small:=dY c.small z l}/\(∀g rs qs,bB A H τ g rs qs->bB A (upd H sd (.dK (putK ks (aW z) (.ref a)))) τ g rs qs):=by
 have S1:dS (λt=>t=.smalls) τ τ H (upd H sd (.dK (putK ks (aW z) (.ref a)))):=.put (λz=>nomatch z) al h5 t5 oB
 refine ⟨S1.mono id λt e=>by subst e;trivial,⟨dx,p,hd,sd,kh,_,S1.kp t1 (λz=>nomatch z) h1,t1,h2.step S1 (λz=>nomatch z) (λz=>nomatch z) (λz=>nomatch z),S1.kp t3 (λz=>nomatch z) h3,h4.imp (mZ.step S1 λ_ z=>nomatch z),t3,ak,h6.put ⟨a,rfl,S1.kp ta (λz=>nomatch z) ha,ta⟩ λk' v' x' _ _=>CI.step S1 (λ_ z=>nomatch z) k' v' x',t5⟩,
  λg rs qs x=>x.step S1 (λz=>nomatch z)⟩
theorem Cq{c c':HC}(h:c'.held=c.held)(z r:Int):pY c' z r=pY c z r:=by unfold pY;rw[h]
theorem Hw(T:Txt A K mg):dU P w K mg base (l8 P w) 7 (A.f .fX) (A.fd .fX) ["self","size","small","given"] (Jz A):=by
 refine rT (T.fn .fX) M9 (λvs H Q E h=>?_) (λgX B outer sh H vs Q E hr h=>?_)
 ·obtain ⟨τ,h,c,g,rs,q0,n,z,l,rfl,_⟩:=h;rfl
 ·obtain ⟨τ,h,c,g,rs,q0,n,z,l,rfl,al,hh,cI,hg,rj,hlen,YG,hz,hl,UX,HR,HW,kQ,kE⟩:=h;have hu:=jJ hr;have kr:i9 1 _:=hr.mono (by decide);have UI:i9 3 _:=hr.mono (by decide);have Wk:i9 4 _:=hr.mono (by decide);obtain ⟨⟨z0,z1,r1,r2,_⟩,_,n1,n2,n3⟩:=kM hz;have zN:((z.toNat:Nat):Int)=z:=by omega
  have TL:∃tl,A6 (qt (l8 P w) P w K mg base ["self","size","small","given","runs","place"] (Fn.qual .fX) (aY (Fn.st .fX)) (A.f .fX) gX B outer sh H E) ((oE (Fn.st .fX)).drop 2) tl/\
    ∀(H2:Hp) (τ2:Tg) (c2:HC) (rl:Addr) (r:Nat) (rest:List V) (qs:List iN),dS TD τ τ2 H H2->eB A H2 τ2 h c2->c2.held=c.held->bB A H2 τ2 g rs (q0++qs.map aO)->H2 rl=some (.lst (.int r::rest))->pY c z r≠[]->
     vg c z l rs q0.length=(c2,(pY c z r).head?.map (λp=>(p,z.toNat,r)),qs)->
     tl {nx:=λ_ H'=>Q .kq H',rt:=Q} [some (.ref h),some (.int n),some (.int z),some (.ref g),some (.ref rl),none] H2:=by
   refine ⟨_,ao (bY (i:=5) M9.nd rfl (bh rfl) (eY fE (bK (pv 0) (T.cls .aD) (T.me .eZ .aD rfl rfl) (xS T) UI (T.bn .eZ) .nil c_ (aa (pv 2) (aa (eY fE (pv 4) bq (λ_ _=>rfl)) aA))) bq (λ_ _=>rfl)))<|
    ao (nA hu (bz (pv 0) rfl) (pv 5) (AJ (T.R8 .oG .bD rfl rfl) (B0 T) Wk rfl (T.R9 .bD) (T.bn .oG) .nil c_ (aa (pv 1) (aa (pv 2) (aa (eY fE (pv 4) bq (λ_ _=>rfl)) aA)))) rfl)<|
    aF (bT (pv 5)),?_⟩
   intro H2 τ2 c2 rl r rest qs S2 G2 eh lS Cg iG ely;rw[ely] at kQ;obtain ⟨dx,p,hd,sd,kh,ks,h1,t1,h2,h3,h4,t3,h5,h6,t5⟩:=id G2.ex;refine ⟨_,rfl,h,dx,_,rfl,h1,rfl,_,rfl,_,rfl,rl,_,_,_,rfl,rfl,.of Cg,at_of (j:=0) rfl rfl,τ2,h,c2,z,r,rfl,G2,hz,λH3 l3 s3 wQ Lj=>?_⟩;rw[Cq eh] at Lj
   obtain ⟨pl,ps,ep⟩:∃pl ps,pY c z r=pl::ps:=by
    cases e:pY c z r with
    |nil=>exact absurd e iG
    |cons a b=>exact ⟨a,b,rfl⟩
   rw[ep] at Lj kQ;refine ⟨l3,_,_,_,rfl,rfl,.of Lj,at_of (j:=0) rfl rfl,?_⟩;have S3:dS TD τ2 τ2 H2 H3:=.same id S2.gW s3;refine ⟨_,rfl,_,rfl,_,rfl,rl,_,_,_,rfl,rfl,.of (s3 _ _ Cg),at_of (j:=0) rfl rfl,?_⟩;intro x bx nx Ul R5;refine ⟨x,bx,n,z.toNat,r,?_,ak,λH4 cn cx d g1 g2 g3 g4 g5 g6=>⟨rfl,?_⟩⟩
   ·show [V.ref x,V.int n,V.int z,V.int r]=_;rw[zN]
   obtain ⟨s4,S4,B4,C4,Mm⟩:=xW (A:=A) (k:=pl) (b:=⟨n,z.toNat,r,cn⟩) S3.gW nx Ul R5 rfl g1 g2 g3 g4 g5 g6;have G4:=(G2.same s3).ext s4 S4.ext;have wR:=(lS.same s3).ext s4 S4.ext;obtain ⟨dx,p,hd,sd,kh,ks,h1,t1,h2,h3,h4,t3,h5,h6,t5⟩:=id G4.ex;refine ⟨_,rfl,h,_,dx,_,_,rfl,h1,T.cls .aD,T.na .aD "held" (by decide),rfl,_,rfl,hd,_,rfl,vv.k (k:=aW pl) h3 (big (by rw[h4.len,eh];omega)),?_⟩;obtain ⟨S5,G5,C5,N2⟩:=eB.T7 (A:=A) (k:=pl) S4.gW h1 t1 h2 h3 h4 t3 h5 h6 t5 B4;exact ⟨_,rfl,kQ _ _ _ _ _ cn rfl (S2.trans (S3.trans (S4.trans S5))) G5 (C5 _ _ C4) (S2.free (S3.free Mm)) (N2 _ _ _ wR)⟩
  obtain ⟨tl,Lc,Cf⟩:=TL
  refine ⟨_,ao (bY (i:=4) M9.nd rfl (bh rfl) (bK (pv 0) (T.cls .aD) (T.me .gK .aD rfl rfl) (BX T) Wk (T.bn .gK) .nil c_ (aa (pv 2) aA)))<|
   ao (fC (AF (pH (pv 4) (λ_=>rfl)))
    (ao (bY (i:=4) M9.nd rfl (bh rfl) (fy (aa (bK (pv 0) (T.cls .aD) (T.me .iY .aD rfl rfl) (FD T) hr (T.bn .iY) .nil dP (aa (dh (OJ T) kr rfl (T.o_ .e8 rfl) (T.fn .e8).kp (T.bn .e8) .nil c_ (aa (pv 2) aA)) (aa (pk 4 T) (aa (pv 3) aA)))) aA)))<|
     aF (nA hu (bz (pv 0) rfl) (pv 2) (cF Er rfl T.mK.sorted nO (aa (bW oX (ig hu (bz (pv 0) rfl) (pv 2) (λ_ _=>rfl)) (pv 4)) aA)) rfl)) cZ) Lc,?_⟩
  obtain ⟨dx,p,hd,sd,kh,ks,h1,t1,h2,h3,h4,t3,h5,h6,t5⟩:=id hh.ex;refine ⟨_,rfl,h,dx,_,rfl,h1,rfl,_,rfl,τ,h,c,z,l,rfl,hh,hz,hl,by omega,λH1 a1 s1 wU N9=>?_⟩;have S1:dS TD τ τ H H1:=.same id al s1;refine ⟨_,rfl,_,.inl ⟨_,.of N9,rfl⟩,?_⟩;cases eo:j4 c z l with
  |cons r rest=>
   rw[eo] at N9;refine mJ ?_
   have oZ:0<=r/\pY c z r≠[]:=by
    have hm:r∈j4 c z l:=by rw[eo];exact aJ
    unfold j4 at hm;obtain ⟨q1,q2⟩:=bu.mp hm;refine ⟨HR r q1,λe=>?_⟩;rw[e] at q2;cases q2
   have rN:((r.toNat:Nat):Int)=r:=by omega
   refine Cf H1 τ c a1 r.toNat (rest.map V.int) [] S1 (hh.same s1) rfl (by simpa using hg.same s1) (by rw[rN];exact N9) (by rw[rN];exact oZ.2) ?_;unfold vg;rw[eo,rN]
  |nil=>
   rw[eo] at N9;refine lg ?_;have YL:rp z=(((rp z).toNat:Nat):Int):=by omega
   refine ⟨_,rfl,h,dx,_,rfl,s1 _ _ h1,rfl,_,rfl,z,rfl,hz,_,rfl,τ,h,c,g,rs,q0,(rp z).toNat,4,(by show [V.ref h,V.int (rp z),V.int 4,V.ref g]=_;rw[<-YL]),S1.gW,hh.same s1,cI,hg.same s1,rj,by omega,by decide,by decide,λH2 τ2 a ea S2 G2 lS=>?_,λH2 τ2 o ea S2 G2 lS=>?_⟩
   rotate_left
   ·have el:vg c z l rs q0.length=((jI c (rp z).toNat 4 rs q0.length).1,none,(jI c (rp z).toNat 4 rs q0.length).2.2):=by unfold vg;rw[eo,ea]
    rw[el] at kE;exact kE H2 τ2 o rfl (S1.trans S2) G2 lS
   ·have el:vg c z l rs q0.length=({(jI c (rp z).toNat 4 rs q0.length).1 with small:=dY c.small z (lB (l++[(a:Int)]))},(pY c z a).head?.map (λp=>(p,z.toNat,a)),(jI c (rp z).toNat 4 rs q0.length).2.2):=by unfold vg;rw[eo,ea]
    obtain ⟨eh,es⟩:=zh c (rp z).toNat 4 rs q0.length;refine ⟨(by show 1<=sizeLine;decide),λrl Cg=>?_⟩;have s3:=aX (o:=.lst [.int a]) Cg;have G3:=G2.same s3;have S3:dS TD τ2 τ2 H2 (upd H2 rl (.lst [.int a])):=.same id S2.gW s3;obtain ⟨dx,p,hd,sd,kh,ks,h1,t1,h2,h3,h4,t3,h5,h6,t5⟩:=id G3.ex;have HS:bM (jI c (rp z).toNat 4 rs q0.length).1.small z=some l:=by rw[es];exact hl
    obtain ⟨v,hv,gW,rfl,vO,tal⟩:=h6.here HS;have gg:=mL.k (k:=aW z) h5;rw[hv] at gg;refine ⟨_,rfl,h,_,dx,_,_,rfl,h1,T.cls .aD,T.na .aD "small_runs" (by decide),rfl,_,rfl,sd,_,rfl,gg,_,rfl,gW,rl,_,_,rfl,rfl,vO,ak,?_,λl4 Sg=>?_⟩
    ·rw[aj];exact dR (big (by simp;omega))
    have s4:=aX (o:=.lst (l.map V.int++[.int a])) Sg;refine ⟨l4,l++[(a:Int)],rfl,.of (by rw[ak,aG];rfl),λCV l5 pm pw NY=>?_⟩;have ZV:=x9 pm pw;subst ZV;have s5:=aX (o:=.lst ((lB (l++[(a:Int)])).map V.int)) NY;have V3:=s4.trans s5;have S5:dS TD τ2 (gi τ2 l5 (.sl z)) (upd H2 rl (.lst [.int a])) _:=(dS.same id S3.gW V3).tag (s4.free NY) ak mE (.sl z);have G5:=G3.ext V3 S5.ext;have N2:=((lS.same s3).ext V3 S5.ext)
    obtain ⟨dx,p,hd,sd,kh,ks,h1,t1,h2,h3,h4,t3,h5,h6,t5⟩:=id G5.ex;refine ⟨_,rfl,h,_,dx,_,_,rfl,h1,T.cls .aD,T.na .aD "small_runs" (by decide),rfl,_,rfl,sd,_,rfl,vv.k (k:=aW z) h5 (big (by rw[h6.len,es];omega)),?_⟩;obtain ⟨S6,G6,Ll⟩:=eB.BQ (A:=A) (z:=z) (l:=lB (l++[(a:Int)])) S5.gW h1 t1 h2 h3 h4 t3 h5 h6 t5 ak eV;rw[es] at G6;refine Cf _ _ _ rl a [] _ (S1.trans (S2.trans (S3.trans (S5.trans S6)))) G6 eh (Ll _ _ _ N2) ?_ (HW a ea) el
    have WO:gi τ2 l5 (.sl z) rl=.other:=by
     rw[cT (λq=>by rw[<-q] at NY;rw[s4 _ _ ak] at NY;cases NY)];exact S2.gW.fresh Cg
    exact S6.kp WO id (V3 _ _ ak)
end
end Rm
namespace Rm
open PySem L2
structure VG(c:HC):Prop where
 nd:(c.small.map (·.1)).Nodup
 len:c.small.length<=1000
 at_:∀z∈aV,∃l,bM c.small z=some l/\l.length<=90000/\∀r∈l,0<=r
theorem gy.chg{α:Type}{R R':Int->V->α->Prop}{kvs:List (Key×V)}{m:List (Int×α)}{k:Int}{x0 x:α}(h:gy R kvs m)(hn:(m.map (·.1)).Nodup)(e:bM m k=some x0)(f:∀v,nQ kvs (aW k)=some v->R k v x0->R' k v x)(f':∀k' v' x',k'≠k->R k' v' x'->R' k' v' x'):gy R' kvs (dY m k x):=by
 rw[iD e];unfold gy at*
 induction h with
 |nil=>exact .nil
 | @cons p q l1 l2 a t ih=>
  obtain ⟨n1,n2⟩:=b9.mp hn;rw[aI]
  by_cases c:q.1=k
  ·rw[jh c] at e;cases e
   have qX:l2.map (λq=>if q.1=k then (q.1,x) else q)=l2:=by
    refine (aN λy hy=>?_).trans (kH l2);rw[if_neg λz=>n1 (by show q.1∈_;rw[c,<-z];exact aq.mpr ⟨y,hy,rfl⟩)];rfl
   rw[qX,if_pos c];refine .cons ⟨a.1,?_⟩ (gy.mono (R:=R) t λk' v' x' hm r=>f' k' v' x' (λz=>n1 (by show q.1∈_;rw[c,<-z];exact aq.mpr ⟨_,hm,rfl⟩)) r);have r:=a.2;rw[c] at r;show R' q.1 p.2 x;rw[c];exact f _ (rF (a.1.trans (by rw[c]))) r
  ·rw[if_neg c];have e2:nQ (p::l1) (aW k)=nQ l1 (aW k):=rG (by rw[a.1];exact yc c);rw[iS c] at e;rw[e2] at f;exact .cons ⟨a.1,f' _ _ _ c a.2⟩ (ih n2 e f)
def gA(c:HC)(n:Nat)(m:Int)(rs:List Int)(i:Nat):HC×Option (Int×Nat×Nat)×List iN:=match nR n m with
 |none=>NR c n rs i
 |some z=>vg c z ((bM c.small z).getD []) rs i
section
variable{P:Program}{w:World}{K:au}{mg:Str->Option Value}{base:Heap}{A:gI}
def PD(A:gI):Sp:=λvs H Q E=>∃(τ:Tg) (h:Addr) (c:HC) (g:Addr) (rs:List Int) (q0:List (List Int)) (n:Nat) (m:Int),vs=[.ref h,.int n,.int m,.ref g]/\Al τ H/\eB A H τ h c/\b6 c.pg/\VG c/\bB A H τ g rs q0/\q0.length<=700000/\c.held.length<=1000/\0<m/\(nR n m=none->0<n)/\
 (∀z∈aV,∀a:Nat,(jI c (rp z).toNat 4 rs q0.length).2.1=some a->pY c z a≠[])/\RS A H τ h g rs q0 n (gA c n m rs q0.length) Q E
theorem To:bF ["self","size","multiple","given","small"] ["self","size","multiple","given"] (aY (Fn.st .uw)):=fs
theorem FE(T:Txt A K mg):dU P w K mg base (l8 P w) 8 (A.f .uw) (A.fd .uw) ["self","size","multiple","given"] (PD A):=by
 refine rT (T.fn .uw) To (λvs H Q E h=>?_) (λgX B outer sh H vs Q E hr h=>?_)
 ·obtain ⟨τ,h,c,g,rs,q0,n,m,rfl,_⟩:=h;rfl
 ·obtain ⟨τ,h,c,g,rs,q0,n,m,rfl,al,hh,cI,Wj,hg,rj,hlen,hm,Wo,HW,kL⟩:=h;obtain ⟨dx,p,hd,sd,kh,ks,h1,t1,h2,h3,h4,t3,h5,h6,t5⟩:=id hh.ex
  refine ⟨_,ao (bY (i:=4) To.nd rfl (bh rfl) (dh (xQ T) (hr.mono (by decide)) rfl (T.o_ .g9 rfl) (T.fn .g9).kp (T.bn .g9) .nil c_ (aa (pv 1) (aa (pv 2) aA))))<|
   ao (fC (uZ (DR (pv 4))) (aF (bT (bK (pv 0) (T.cls .aD) (T.me .iQ .aD rfl rfl) (Hx T) hr (T.bn .iQ) .nil dP (aa (pv 1) (aa (pv 3) aA))))) cZ)<|
   aF (bT (bK (pv 0) (T.cls .aD) (T.me .fX .aD rfl rfl) (Hw T) hr (T.bn .fX) .nil dP (aa (pv 1) (aa (pv 4) (aa (pv 3) aA))))),?_⟩
  refine ⟨_,rfl,_,rfl,n,m,rfl,hm,?_⟩;refine ⟨_,rfl,_,rfl,?_⟩;cases ez:nR n m with
  |none=>
   refine lg ?_;have e:gA c n m rs q0.length=NR c n rs q0.length:=by unfold gA;rw[ez]
   rw[e] at kL;exact ⟨_,rfl,h,dx,_,rfl,h1,rfl,_,rfl,_,rfl,τ,h,c,g,rs,q0,n,rfl,al,hh,cI,hg,rj,Wo ez,hlen,kL⟩
  |some z=>
   refine mJ ?_;have hz:z∈aV:=bE ez;obtain ⟨l,hl,nF,HR⟩:=Wj.at_ z hz;have e:gA c n m rs q0.length=vg c z l rs q0.length:=by unfold gA;rw[ez];dsimp only;rw[hl];rfl
   rw[e] at kL;exact ⟨_,rfl,h,dx,_,rfl,h1,rfl,_,rfl,_,rfl,_,rfl,τ,h,c,g,rs,q0,n,z,l,rfl,al,hh,cI,hg,rj,hlen,Wj.len,hz,hl,nF,HR,HW z hz,kL⟩
def gU(c:HC)(r:e_):HC:={c with qY:=λx=>if x=(r.first:Int) then 0 else c.qY x,pg:=(gM c.pg r).1}
def SY(A:gI):Sp:=λvs H Q _=>∃(τ:Tg) (h:Addr) (c:HC) (g:Addr) (rs:List Int) (q0:List (List Int)) (r:e_),vs=[.ref h,.int r.first,.ref g]/\Al τ H/\eB A H τ h c/\b6 c.pg/\bB A H τ g rs q0/\q0.length<=900000/\r∈c.pg.runs/\
 ∀H' τ',dS TP τ τ' H H'->eB A H' τ' h (gU c r)->bB A H' τ' g rs (q0++(gM c.pg r).2.2.map aO)->Q .kq H'
theorem W_:bF ["self","run","given"] ["self","run","given"] (aY (Fn.st .jK)):=fs
theorem Ky(T:Txt A K mg):dU P w K mg base (l8 P w) 4 (A.f .jK) (A.fd .jK) ["self","run","given"] (SY A):=by
 refine rT (T.fn .jK) W_ (λvs H Q E h=>?_) (λgX B outer sh H vs Q E hr h=>?_)
 ·obtain ⟨τ,h,c,g,rs,q0,r,rfl,_⟩:=h;rfl
 ·obtain ⟨τ,h,c,g,rs,q0,rr,rfl,al,hh,cI,hg,rj,vN,k⟩:=h;obtain ⟨dx,p,hd,sd,kh,ks,h1,t1,h2,h3,h4,t3,h5,h6,t5⟩:=id hh.ex;obtain ⟨zm,XS,pr,RY,RX,Fo,_⟩:=id h2.ex;have N:∀f,f∈j9 .aD->ek K (A.cl .aD) f:=T.na .aD
  refine ⟨_,ao (bV (bK (bz (pv 0) rfl) (T.cls .aM) (T.me .qx .aM rfl rfl) (Kq T) (hr.mono (by decide)) (T.bn .qx) .nil dP (aa (pv 1) (aa bq aA))))<|
   aF (bV (bK (bz (pv 0) rfl) (T.cls .aM) (T.me .qz .aM rfl rfl) (Ku T) hr (T.bn .qz) .nil dP (aa (pv 1) (aa (pv 2) aA)))),?_⟩
  refine ⟨_,rfl,h,_,dx,_,_,rfl,h1,T.cls .aD,N "pages" (by decide),rfl,p,zm,_,rfl,Fo,rfl,_,rfl,τ,p,c.qY,c.pg,rr,rfl,al,h2,cI,vN,λH1 S1 G1=>?_⟩;have m_:=hg.step S1 id;have zI:eB A H1 τ h {c with qY:=λx=>if x=(rr.first:Int) then 0 else c.qY x}:=eB.pages (A:=A) (c:=c) (S1.mono id EB.tp) h1 t1 h3 h4 t3 h5 h6 t5 G1;obtain ⟨dx,p',hd,sd,kh,ks,h1,t1,h2,h3,h4,t3,h5,h6,t5⟩:=id zI.ex;obtain ⟨zm,XS,pr,RY,RX,Fo,_⟩:=id h2.ex;refine ⟨_,rfl,h,_,dx,_,_,rfl,h1,T.cls .aD,N "pages" (by decide),rfl,p',zm,_,rfl,Fo,rfl,_,rfl,_,rfl,τ,p',_,c.pg,g,rs,q0,rr,rfl,S1.gW,h2,cI,m_,rj,vN,if_pos rfl,λH2 τ2 S2 G2 lS=>?_⟩;exact k H2 τ2 ((S1.mono id EB.tp).trans S2) (eB.pages (A:=A) (c:=c) S2 h1 t1 h3 h4 t3 h5 h6 t5 G2) lS
def IW(c:HC)(z:Int)(l:List Int)(r:e_):HC:={gU c r with small:=dY c.small z (l.erase (r.first:Int))}
def Pw(A:gI):Sp:=λvs H Q _=>∃(τ:Tg) (h:Addr) (c:HC) (g:Addr) (rs:List Int) (q0:List (List Int)) (r:e_) (z:Int) (l:List Int),vs=[.ref h,.int z,.int r.first,.ref g]/\Al τ H/\eB A H τ h c/\b6 c.pg/\bB A H τ g rs q0/\q0.length<=900000/\r∈c.pg.runs/\(c.small.map (·.1)).Nodup/\bM c.small z=some l/\(r.first:Int)∈l/\
 ∀H' τ',dS TD τ τ' H H'->eB A H' τ' h (IW c z l r)->bB A H' τ' g rs (q0++(gM c.pg r).2.2.map aO)->Q .kq H'
theorem Xa:bF ["self","small","run","given"] ["self","small","run","given"] (aY (Fn.st .fj)):=fs
theorem FA(T:Txt A K mg):dU P w K mg base (l8 P w) 5 (A.f .fj) (A.fd .fj) ["self","small","run","given"] (Pw A):=by
 refine rT (T.fn .fj) Xa (λvs H Q E h=>?_) (λgX B outer sh H vs Q E hr h=>?_)
 ·obtain ⟨τ,h,c,g,rs,q0,r,z,l,rfl,_⟩:=h;rfl
 ·obtain ⟨τ,h,c,g,rs,q0,rr,z,l,rfl,al,hh,cI,hg,rj,vN,lu,hl,Cg,k⟩:=h;have hu:=jJ hr;obtain ⟨dx,p,hd,sd,kh,ks,h1,t1,h2,h3,h4,t3,h5,h6,t5⟩:=id hh.ex;obtain ⟨v,hv,a,rfl,ha,ta⟩:=h6.here hl;have gg:=mL.k (k:=aW z) h5;rw[hv] at gg
  refine ⟨_,ao (bV (pJ cJ y_ PySem.F.type_list_remove DY (ig hu (bz (pv 0) rfl) (pv 1) (λ_ _=>rfl)) (aa (pv 2) aA)))<|
   aF (bV (bK (pv 0) (T.cls .aD) (T.me .jK .aD rfl rfl) (Ky T) hr (T.bn .jK) .nil dP (aa (pv 2) (aa (pv 3) aA)))),?_⟩
  refine ⟨_,rfl,h,_,dx,_,_,rfl,h1,T.cls .aD,T.na .aD "small_runs" (by decide),rfl,_,rfl,sd,_,rfl,gg,.inl ⟨rfl,_,.of ha⟩,_,rfl,a,l,_,rfl,rfl,ha,Cg,?_⟩;have S1:dS (λt=>t=.sl z) τ τ H (upd H a (.lst ((l.erase (rr.first:Int)).map V.int))):=.put (λz=>nomatch z) al ha ta mE
  have zI:eB A (upd H a (.lst ((l.erase (rr.first:Int)).map V.int))) τ h {c with small:=dY c.small z (l.erase (rr.first:Int))}:=by
   refine ⟨dx,p,hd,sd,kh,ks,S1.kp t1 (λz=>nomatch z) h1,t1,h2.step S1 (λz=>nomatch z) (λz=>nomatch z) (λz=>nomatch z),S1.kp t3 (λz=>nomatch z) h3,h4.imp (mZ.step S1 λ_ z=>nomatch z),t3,S1.kp t5 (λz=>nomatch z) h5,h6.chg lu hl (λv ev _=>?_) λk' v' x' hk ⟨a',e1,e2,e3⟩=>⟨a',e1,S1.kp e3 (λz=>hk (Tag.sl.inj z)) e2,e3⟩,t5⟩;rw[hv] at ev;cases ev;exact ⟨a,rfl,ak,ta⟩
  have m_:=hg.step S1 (λz=>nomatch z);have Mt:dS TD τ τ H (upd H a (.lst ((l.erase (rr.first:Int)).map V.int))):=S1.mono id λt e=>by subst e;trivial
  generalize upd H a (.lst ((l.erase (rr.first:Int)).map V.int))=H1 at zI m_ Mt;obtain ⟨dx,p,hd,sd,kh,ks,h1,t1,h2,h3,h4,t3,h5,h6,t5⟩:=id zI.ex;exact ⟨_,rfl,h,dx,_,rfl,h1,rfl,_,rfl,_,rfl,τ,h,_,g,rs,q0,rr,rfl,Mt.gW,zI,cI,m_,rj,vN,λH2 τ2 S2 G2 lS=>k H2 τ2 (Mt.trans (S2.mono id TP.td)) G2 lS⟩
def kO(c:HC)(k:Int):HC:={c with held:=jj c.held k}
def jm(c:HC)(k:Int)(b:lD)(r:e_)(l:List Int):HC×List iN:=
 if 32768<b.room then (gU (kO c k) r,(gM c.pg r).2.2)
 else if (gw (kO c k) b.room b.run&&decide (1<(j4 (kO c k) b.room l).length))=true then (IW (kO c k) b.room l r,(gM c.pg r).2.2)
 else (kO c k,[])
structure L8(c:HC)(b:lD)(r:e_)(l:List Int):Prop where
 run:r∈c.pg.runs
 at_:r.first=b.run
 sm:¬32768<b.room->(b.room:Int)∈aV/\bM c.small b.room=some l/\(b.run:Int)∈l/\l.length<=90000
def MQ(A:gI):Sp:=λvs H Q _=>∃(τ:Tg) (h:Addr) (c:HC) (g:Addr) (rs:List Int) (q0:List (List Int)) (k:Int) (b:lD) (r:e_) (l:List Int),vs=[.ref h,.int k,.ref g]/\Al τ H/\eB A H τ h c/\b6 c.pg/\(c.small.map (·.1)).Nodup/\bB A H τ g rs q0/\q0.length<=900000/\bM c.held k=some b/\L8 c b r l/\
 ∀H' τ',dS TD τ τ' H H'->eB A H' τ' h (jm c k b r l).1->bB A H' τ' g rs (q0++(jm c k b r l).2.map aO)->Q .kq H'
theorem Tw:bF ["self","place","given","block"] ["self","place","given"] (aY (Fn.st .oz)):=fs
theorem BY(T:Txt A K mg):dU P w K mg base (l8 P w) 6 (A.f .oz) (A.fd .oz) ["self","place","given"] (MQ A):=by
 refine rT (T.fn .oz) Tw (λvs H Q E h=>?_) (λgX B outer sh H vs Q E hr h=>?_)
 ·obtain ⟨τ,h,c,g,rs,q0,k,b,r,l,rfl,_⟩:=h;rfl
 ·obtain ⟨τ,h,c,g,rs,q0,n,b,rr,l,rfl,al,hh,cI,lu,hg,rj,hb,⟨vN,qB,Wj⟩,k⟩:=h;have CB:=T.cls .bD;have NB:∀f,f∈j9 .bD->ek K (A.cl .bD) f:=T.na .bD;obtain ⟨dx,p,hd,sd,kh,ks,h1,t1,h2,h3,h4,t3,h5,h6,t5⟩:=id hh.ex;obtain ⟨v,hv,a,bx,rfl,ha,ta⟩:=h4.here hb
  refine ⟨_,ao (bY (i:=3) Tw.nd rfl (bh rfl) (xO (bz (pv 0) rfl) (pv 1) ⟨rfl,rfl,rfl,rfl⟩))<|
   aF (fC (oU (jZ (pv 3) (T.cls .bD) (T.me .i8 .bD rfl rfl) (zA T) (hr.mono (by decide)) (T.bn .i8) .nil c_))
    (aF (bV (bK (pv 0) (T.cls .aD) (T.me .jK .aD rfl rfl) (Ky T) (hr.mono (by decide)) (T.bn .jK) .nil dP (aa (bz (pv 3) rfl) (aa (pv 2) aA)))))
    (aF (fC (oU (bK (pv 0) (T.cls .aD) (T.me .gS .aD rfl rfl) (Ny T) hr (T.bn .gS) .nil c_ (aa (bz (pv 3) rfl) (aa (bz (pv 3) rfl) aA))))
     (aF (bV (bK (pv 0) (T.cls .aD) (T.me .fj .aD rfl rfl) (FA T) hr (T.bn .fj) .nil dP (aa (bz (pv 3) rfl) (aa (bz (pv 3) rfl) (aa (pv 2) aA)))))) cZ))),?_⟩
  refine ⟨_,rfl,h,_,dx,_,_,rfl,h1,T.cls .aD,T.na .aD "held" (by decide),rfl,hd,rfl,.inl ⟨_,.inl h3⟩,_,rfl,kh,aW n,_,h3,rfl,hv,?_⟩;have S1:dS (λt=>t=.held) τ τ H (upd H hd (.dK (mq kh (aW n)))):=.put (λz=>nomatch z) al h3 t3 oB
  have zI:eB A (upd H hd (.dK (mq kh (aW n)))) τ h (kO c n):=
   ⟨dx,p,hd,sd,_,ks,S1.kp t1 (λz=>nomatch z) h1,t1,h2.step S1 (λz=>nomatch z) (λz=>nomatch z) (λz=>nomatch z),ak,h4.drop λk' v' x' _ _=>mZ.step S1 (λ_ z=>nomatch z) k' v' x',t3,S1.kp t5 (λz=>nomatch z) h5,h6.imp (CI.step S1 λ_ z=>nomatch z),t5⟩
  have m_:=hg.step S1 (λz=>nomatch z);have wU:=S1.kp ta (λz=>nomatch z) ha;have Mt:dS TD τ τ H (upd H hd (.dK (mq kh (aW n)))):=S1.mono id λt e=>by subst e;trivial
  generalize upd H hd (.dK (mq kh (aW n)))=H1 at zI m_ wU Mt;obtain ⟨dx,p,hd,sd,kh,ks,h1,t1,h2,h3,h4,t3,h5,h6,t5⟩:=id zI.ex;refine ⟨_,rfl,a,bx,_,rfl,wU,rfl,a,bx,b,rfl,wU,_,rfl,?_⟩;refine iP (λc1=>?_) (λc1=>?_)
  ·have A5:=of_decide_eq_true c1;have e:jm c n b rr l=(gU (kO c n) rr,(gM c.pg rr).2.2):=if_pos A5;rw[e] at k;refine ⟨_,rfl,h,dx,_,rfl,h1,rfl,_,rfl,a,_,bx,_,_,rfl,wU,CB,NB "run" (by decide),rfl,_,rfl,τ,h,kO c n,g,rs,q0,rr,?_,Mt.gW,zI,cI,m_,rj,vN,λH2 τ2 S2 G2 lS=>k H2 τ2 (Mt.trans (S2.mono id TP.td)) G2 lS⟩;show [V.ref h,V.int b.run,V.ref g]=_;rw[qB]
  ·have A5:¬32768<b.room:=λz=>c1 (decide_eq_true z);obtain ⟨hz,hl,Cg,UX⟩:=Wj A5;refine ⟨_,rfl,h,dx,_,rfl,h1,rfl,_,rfl,a,_,bx,_,_,rfl,wU,CB,NB "room" (by decide),rfl,_,rfl,a,_,bx,_,_,rfl,wU,CB,NB "run" (by decide),rfl,τ,h,kO c n,b.room,b.run,l,rfl,zI,hz,hl,by omega,λH2 s2=>?_⟩;have S2:dS TD τ τ H1 H2:=.same id Mt.gW s2;refine ⟨_,rfl,?_⟩;refine iP (λc2=>?_) (λc2=>?_)
   ·have e:jm c n b rr l=(IW (kO c n) b.room l rr,(gM c.pg rr).2.2):=(if_neg A5).trans (if_pos c2);rw[e] at k;refine ⟨_,rfl,h,dx,_,rfl,s2 _ _ h1,rfl,_,rfl,a,_,bx,_,_,rfl,s2 _ _ wU,CB,NB "room" (by decide),rfl,_,rfl,a,_,bx,_,_,rfl,s2 _ _ wU,CB,NB "run" (by decide),rfl,_,rfl,τ,h,kO c n,g,rs,q0,rr,(b.room:Int),l,?_,S2.gW,zI.same s2,cI,m_.same s2,rj,vN,lu,hl,by rw[qB];exact Cg,λH3 τ3 S3 G3 sR=>k H3 τ3 (Mt.trans (S2.trans S3)) G3 sR⟩;show [V.ref h,V.int b.room,V.int b.run,V.ref g]=_;rw[qB]
   ·have e:jm c n b rr l=(kO c n,[]):=(if_neg A5).trans (if_neg c2);rw[e] at k;exact k H2 τ (Mt.trans S2) (zI.same s2) (by simpa using m_.same s2)
def TH:Tag->Prop
 |.asks|.pages|.runs|.rm _=>True
 |_=>False
theorem TP.th(t:Tag)(h:TP t):TH t:=by cases t<;>first|exact h|trivial
def Mf(l:List (Nat×Nat))(p n:Nat):Bool:=l.any λx=>decide (x.1<=p/\p+n<=x.1+x.2)
theorem wN{l:List (Nat×Nat)}{p n:Nat}:Mf l p n=true↔CK l p n:=by
 unfold Mf CK;rw[dG];exact ⟨λ⟨x,h,q⟩=>⟨x,h,of_decide_eq_true q⟩,λ⟨x,h,q⟩=>⟨x,h,decide_eq_true q⟩⟩
def rM(c:HC)(k:Int)(b:lD)(m:Nat):List (Int×lD):=dY c.held k {b with room:=m*4096}
def CU(c:HC)(k:Int)(b:lD)(r:e_)(m:Nat):HC×Bool×List iN:=
 if m*4096=b.room then (c,true,[])
 else if 16384<m then (c,false,[])
 else if m<r.pages then ({c with pg:=(jt c.pg r m).1,held:=rM c k b m},true,(jt c.pg r m).2.2)
 else if Mf c.pg.free (r.first+r.pages) (m-r.pages)=true then ({c with pg:=grown c.pg r m,held:=rM c k b m},true,[])
 else (c,false,[])
def S_(A:gI):Sp:=λvs H Q _=>∃(τ:Tg) (h:Addr) (c:HC) (g:Addr) (rs:List Int) (q0:List (List Int)) (k:Int) (b:lD) (r:e_) (a bx:Addr) (m:Nat),vs=[.ref h,.ref a,.int m,.ref g]/\Al τ H/\eB A H τ h c/\b6 c.pg/\(c.held.map (·.1)).Nodup/\bB A H τ g rs q0/\q0.length<=900000/\0<m/\
 bM c.held k=some b/\H a=some (.ins (A.cl .bD) bx (bf b))/\τ a=.rm k/\HeldAt A H τ h k a/\r∈c.pg.runs/\r.first=b.run/\b.room=r.pages*4096/\c.qY b.run=0/\
 ∀H' τ',dS TH τ τ' H H'->eB A H' τ' h (CU c k b r m).1->bB A H' τ' g rs (q0++(CU c k b r m).2.2.map aO)->Q (.bl (CU c k b r m).2.1) H'
theorem Xd:bF ["self","block","pages","given"] ["self","block","pages","given"] (aY (Fn.st .jw)):=fs
theorem eB.setB{H:Hp}{τ:Tg}{h a bx:Addr}{c:HC}{k:Int}{b b':lD}(al:Al τ H)(x:eB A H τ h c)(lu:(c.held.map (·.1)).Nodup)(hb:bM c.held k=some b)(ha:H a=some (.ins (A.cl .bD) bx (bf b)))(ta:τ a=.rm k)
  (hv:HeldAt A H τ h k a):
  dS (λt=>t=.rm k) τ τ H (upd H a (.ins (A.cl .bD) bx (bf b')))/\eB A (upd H a (.ins (A.cl .bD) bx (bf b'))) τ h {c with held:=dY c.held k b'}:=by
 obtain ⟨dx,p,hd,sd,kh,ks,h1,t1,h2,h3,h4,t3,h5,h6,t5⟩:=id x.ex;have S1:dS (λt=>t=.rm k) τ τ H (upd H a (.ins (A.cl .bD) bx (bf b'))):=.put (λz=>nomatch z) al ha ta oY;refine ⟨S1,dx,p,hd,sd,kh,ks,S1.kp t1 (λz=>nomatch z) h1,t1,h2.step S1 (λz=>nomatch z) (λz=>nomatch z) (λz=>nomatch z),S1.kp t3 (λz=>nomatch z) h3,h4.chg lu hb (λv ev _=>?_) (λk' v' x' hk ⟨a',e1,e0,e2,e3⟩=>⟨a',e1,e0,S1.kp e3 (λz=>hk (Tag.rm.inj z)) e2,e3⟩),t3,S1.kp t5 (λz=>nomatch z) h5,h6.imp (CI.step S1 λ_ z=>nomatch z),t5⟩;obtain ⟨Vw,p',Lo,sd',kh',g1,_,g2,_,e⟩:=hv;rw[h1] at g1
 obtain rfl:hd=Lo:=by
  have:=(HO.ins.inj (bC g1)).2.2;have:=congrArg (λl=>jA (Str.ofString "held") l) this;exact V.ref.inj (bC this)
 rw[h3] at g2;cases g2;rw[e] at ev;cases ev;exact ⟨a,bx,rfl,ak,ta⟩
theorem Qt(T:Txt A K mg):dU P w K mg base (l8 P w) 4 (A.f .jw) (A.fd .jw) ["self","block","pages","given"] (S_ A):=by
 refine rT (T.fn .jw) Xd (λvs H Q E h=>?_) (λgX B outer sh H vs Q E hr h=>?_)
 ·obtain ⟨τ,h,c,g,rs,q0,k,b,r,a,bx,m,rfl,_⟩:=h;rfl
 ·obtain ⟨τ,h,c,g,rs,q0,n,b,rr,a,bx,m,rfl,al,hh,cI,lu,hg,rj,hm,hb,ha,ta,hv,vN,qB,UH,Ef,k⟩:=h;have CB:=T.cls .bD;have NB:∀f,f∈j9 .bD->ek K (A.cl .bD) f:=T.na .bD;obtain ⟨dx,p,hd,sd,kh,ks,h1,t1,h2,h3,h4,t3,h5,h6,t5⟩:=id hh.ex;obtain ⟨zm,XS,pr,RY,RX,Fo,_⟩:=id h2.ex
  refine ⟨_,ao (fC (dz lA (bW lR (pv 2) (pk 4096 T)) (bz (pv 1) rfl) (dH _)) (aF (bT zl)) cZ)<|
   ao (DL (tb:=λE'=>OA (Bx (A.cl .aM) "grow" (E6 A) [] E' (By K (l7 0) "pages") (l_ (By K (l7 1) "run") (l_ (l7 2) (l_ (l7 3) yR))))) ⟨rfl,rfl,rfl⟩
    (λE' pn E2 hp=>aF (bV (bK (bz (pv 0) rfl) (T.cls .aM) (T.me .m8 .aM rfl rfl) (Ks T) hr (T.bn .m8) .nil hp (aa (bz (pv 1) rfl) (aa (pv 2) (aa (pv 3) aA))))))
    (ug (ts:=yQ (tC (.bl false))) ⟨rfl,rfl,rfl⟩ (T.exc .b7) rfl (T.FO .b7) (λe=>aF (bT zl)) (ug (ts:=yQ (tC (.bl false))) ⟨rfl,rfl,rfl⟩ (T.exc .dg) rfl (T.FO .dg) (λe=>aF (bT zl)) (J' ⟨rfl,rfl,rfl⟩ Ei))))<|
   ao (fU (pv 1) (bW lR (pv 2) (pk 4096 T)) rfl)<|
   aF (bT zl),?_⟩
  refine ⟨_,rfl,_,_,rfl,rfl,.inr ⟨by decide,by decide⟩,_,rfl,a,_,bx,_,_,rfl,ha,CB,NB "room" (by decide),rfl,rfl,_,rfl,?_⟩;refine iP (λc1=>?_) (λc1=>?_)
  ·have A5:m*4096=b.room:=by
    have:(m:Int)*4096=(b.room:Int):=V.int.inj (of_decide_eq_true c1);omega
   have e:CU c n b rr m=(c,true,[]):=if_pos A5;rw[e] at k;exact k H τ (.refl id al) hh (by simpa using hg)
  have A5:¬m*4096=b.room:=λz=>c1 (decide_eq_true (congrArg V.int (by omega)))
  have fin:∀(iE:PS) (H1:Hp) (τ1:Tg) (qs:List iN),dS TP τ τ1 H H1->fQ A H1 τ1 p c.qY iE->bB A H1 τ1 g rs (q0++qs.map aO)->CU c n b rr m=({c with pg:=iE,held:=rM c n b m},true,qs)->
    Jq (TJ K (l7 1) (Pc (rI Ou λi j=>.int (i*j)) (l7 2) (tC (.int 4096))) "room") (yQ (tC (.bl true))) {nx:=λx H'=>Q V.kq H',rt:=Q} [some (.ref h),some (.ref a),some (.int m),some (.ref g)] H1:=by
   intro iE H1 τ1 qs S1 G1 m_ e;rw[e] at k;have zI:=eB.pages (A:=A) (c:=c) S1 h1 t1 h3 h4 t3 h5 h6 t5 G1;have wU:=S1.kp ta id ha;have SG:=S1.tg ta ha;have hv1:=hv.step S1 id id;refine ⟨_,rfl,_,_,rfl,rfl,.inr ⟨by decide,by decide⟩,_,rfl,a,_,bx,_,rfl,wU,CB,NB "room" (by decide),aR rfl,?_⟩;obtain ⟨S2,G2⟩:=eB.setB (A:=A) (b':={b with room:=m*4096}) S1.gW zI lu hb wU SG hv1
   have AX:iO "room" (V.int ((m:Int)*4096)) (bf b)=bf {b with room:=m*4096}:=by
    have:((m:Int)*4096)=((m*4096:Nat):Int):=by omega
    rw[this];rfl
   show Q (.bl true) (upd H1 a (.ins (A.cl .bD) bx (iO "room" (V.int ((m:Int)*4096)) (bf b))));rw[AX];exact k _ τ1 ((S1.mono id TP.th).trans (S2.mono id λt e=>by subst e;trivial)) G2 (m_.step S2 (λz=>nomatch z))
  refine ⟨_,rfl,h,_,dx,_,_,rfl,h1,T.cls .aD,T.na .aD "pages" (by decide),rfl,p,zm,_,rfl,Fo,rfl,_,rfl,a,_,bx,_,_,rfl,ha,CB,NB "run" (by decide),rfl,_,rfl,_,rfl,τ,p,c.qY,c.pg,g,rs,q0,rr,m,?_,al,h2,cI,hg,rj,vN,by rw[qB];exact Ef,?_,hm,?_,?_,?_,?_⟩
  ·show [V.ref p,V.int b.run,V.int m,V.ref g]=_;rw[qB]
  ·intro z;exact A5 (by rw[UH,z])
  ·intro z;have e:CU c n b rr m=(c,false,[]):=(if_neg A5).trans (if_pos z);rw[e] at k;refine ⟨A.ex .b7,rfl,T.exc .b7,?_⟩;rw[if_pos rfl];exact k H τ (.refl id al) hh (by simpa using hg)
  ·intro z z2 H1 τ1 S1 G1 m_;exact fin _ H1 τ1 _ S1 G1 m_ ((if_neg A5).trans ((if_neg (by omega)).trans (if_pos z2)))
  ·intro z z2 z3 H1 τ1 S1 G1 m_;exact fin _ H1 τ1 [] S1 G1 (by simpa using m_) ((if_neg A5).trans ((if_neg (by omega)).trans ((if_neg (by omega)).trans (if_pos (wN.mpr z3)))))
  ·intro z z2 z3 H1 s1;have e:CU c n b rr m=(c,false,[]):=(if_neg A5).trans ((if_neg (by omega)).trans ((if_neg (by omega)).trans (if_neg λq=>z3 (wN.mp q))));rw[e] at k;refine ⟨A.ex .dg,rfl,T.exc .dg,?_⟩;rw[if_neg (show¬A.ex .dg=A.ex .b7 from λq=>by have:=T.Vs _ _ q;cases this)];refine ⟨A.ex .dg,rfl,T.exc .dg,?_⟩;rw[if_pos rfl];exact k H1 τ (.same id al s1) (hh.same s1) (by simpa using hg.same s1)
end
end Rm
namespace Rm
open Kg45 (State Run Ask)
open Given (Prog)
open PySem (Addr)
abbrev BQ:cR->mT->cR:=λh p=>h.map λt=>{t with pages:=p}
abbrev Lx:cR->mT:=λh=>h.bind tY
theorem qa{β:Type}{s:bg}{F:cR->jM->Prog cR Ask β}:∀(q:qV jM) (p0:mT) (l:List Int),((q.within BQ Lx id (some {s with pages:=p0})).andThen F).played l=
  (((F (some {s with pages:=(q.played l).1}) (q.played l).2.1).played (q.played l).2.2.2).1,((F (some {s with pages:=(q.played l).1}) (q.played l).2.1).played (q.played l).2.2.2).2.1,(q.played l).2.2.1++((F (some {s with pages:=(q.played l).1}) (q.played l).2.1).played (q.played l).2.2.2).2.2.1,((F (some {s with pages:=(q.played l).1}) (q.played l).2.1).played (q.played l).2.2.2).2.2.2)
 |.done h a,p0,l=>rfl
 |.ask h q k,p0,l=>by
  have ih:=qa (s:=s) (F:=F) (k h (l.headD 0)) h (l.drop 1);show (((Prog.within BQ Lx id (some {s with pages:=h}) (k h (l.headD 0))).andThen F).played (l.drop 1)|>λx=>(x.1,x.2.1,q::x.2.2.1,x.2.2.2))=_;rw[ih];rfl
theorem i7{s:bg}{c:Kg45.Call}{f:bg->jM->fL cX}{h':mT}{a:jM}{rs:List Int}{i:Nat}{qs:List Ask}(h:d_ (gG s.pages c) (.done h' a) rs i qs):d_ (lN s c f) (f {s with pages:=h'} a) rs i qs:=by
 unfold d_ at*
 have e:lN s c f=((gG s.pages c).within BQ Lx id (some {s with pages:=s.pages})).andThen λh a=>match h with
  |none=>.done none (aZ (-9))
  |some t=>f t a:=rfl
 rw[e,qa,h];show _=_;have e2:(Prog.done h' a:qV jM).played (rs.drop (i+qs.length))=(h',a,[],rs.drop (i+qs.length)):=rfl;rw[e2];simp
theorem SQ:aV=Jd.map (λ(n:Nat)=>(n:Int)):=by decide+kernel
theorem Hg:Jd.length=40:=by decide+kernel
theorem Ar{k:Nat}(h:k<40):((ai k:Nat):Int)∈aV:=by
 have:∀k,k<40->((ai k:Nat):Int)∈aV:=by decide+kernel
 exact this k h
theorem Jr{j k:Nat}(hj:j<40)(hk:k<40)(h:ai j=ai k):j=k:=by
 have:∀j,j<40->∀k,k<40->ai j=ai k->j=k:=by decide+kernel
 exact this j hj k hk h
theorem vD{k:Nat}(h:k<40):0<ai k/\ai k<=32768:=by
 have:=(kM (Ar h)).1;omega
theorem FF{z:Int}(h:z∈aV):∃k,k<40/\z=(ai k:Nat):=by
 have:∀z∈aV,∃k,k<40/\z=(ai k:Nat):=by decide+kernel
 exact this z h
theorem LG(l:List Nat)(p:Nat->Bool):l.find? p=(l.findIdx? p).map λk=>l.getD k 0:=by
 induction l with
 |nil=>rfl
 |cons a l ih=>
  rw[dm,List.findIdx?_cons];cases h:p a with
  |true=>rfl
  |false=>
   simp only[cond_false,lO,if_false];rw[ih];cases List.findIdx? p l<;>rfl
theorem t7(n a:Nat):nR n (a:Int)=(fz (max n 1) a).map λk=>((ai k:Nat):Int):=by
 have e1:nR n (a:Int)=(Jd.find? λz=>decide (max n 1<=z)&&z%a==0).map λ(z:Nat)=>(z:Int):=by
  unfold nR;rw[SQ,Ai];congr 1
  have:∀(l:List Nat),(∀z∈l,0<z)->l.find? ((λz:Int=>decide ((n:Int)<=z)&&decide (z%(a:Int)=0))∘λ(z:Nat)=>(z:Int))=l.find? λz=>decide (max n 1<=z)&&z%a==0:=by
   intro l hl
   induction l with
   |nil=>rfl
   |cons x l ih=>
    rw[dm,dm];have hx:=hl x aJ
    have e:((λz:Int=>decide ((n:Int)<=z)&&decide (z%(a:Int)=0))∘λ(z:Nat)=>(z:Int)) x=(decide (max n 1<=x)&&x%a==0):=by
     show (decide ((n:Int)<=(x:Int))&&decide ((x:Int)%(a:Int)=0))=_;congr 1
     ·exact decide_eq_decide.mpr (by omega)
     ·rw[show (x%a==0)=decide (x%a=0) from rfl];refine decide_eq_decide.mpr ?_;rw[<-Int.natCast_emod];omega
    rw[e,ih λz hz=>hl z (aB _ hz)]
  exact this _ (by decide+kernel)
 rw[e1,LG,Option.map_map];rfl
theorem DA{n a k:Nat}(h:fz n a=some k):k<40:=by
 unfold fz at h;have:=(List.findIdx?_eq_some_iff_findIdx_eq.mp h).1;rw[Hg] at this;exact this
theorem xD{n a k:Nat}(h:fz n a=some k):n<=ai k:=by
 unfold fz at h;obtain ⟨h1,h2,_⟩:=List.findIdx?_eq_some_iff_getElem.mp h;simp only[aC,decide_eq_true_eq] at h2;unfold ai;rw[bA,cM h1];exact h2.1
theorem t8{n e:Nat}(he:e<=12)(h:fz n (2^e)=none):32768<n:=by
 unfold fz at h;rw[List.findIdx?_eq_none_iff] at h;have h1:=h 32768 (by decide+kernel)
 have h2:32768%2^e=0:=by
  have:∀e,e<13->32768%2^e=0:=by decide
  exact this e (by omega)
 rw[h2] at h1;simp only[sP,decide_eq_false_iff_not] at h1;rcases h1 with h1|h1
 ·omega
 ·cases h1
theorem Qv{k:Nat}:np ((ai k:Nat):Int)=cg (ai k)*4096/ai k:=by
 unfold np rp;rw[aU]
 have:((cg (ai k):Int)*4096/(ai k:Int))=((cg (ai k)*4096/ai k:Nat):Int):=by
  rw[Int.natCast_ediv];rfl
 rw[this,aU]
theorem sE(r:bN):np ((ai r.kind:Nat):Int)=r.places:=Qv
abbrev BR:=Int×Nat×Nat×Nat
def br(q:Int×lD):BR:=(q.1,q.2.size,q.2.room,q.2.run)
def jN(r:bN)(i:Nat):Int:=((r.page*4096+i*ai r.kind:Nat):Int)
def sS(r:bN):List BR:=r.used.map λu=>(jN r u.1,u.2,ai r.kind,r.page)
def vn(g:dX):BR:=(((g.page*4096:Nat):Int),g.size,g.pages*4096,g.page)
def flat(S:bg):List BR:=S.smalls.flatMap sS++S.greats.map vn
def uX(r:bN):Nat×Nat:=(r.page,cg (ai r.kind))
def vE(g:dX):Nat×Nat:=(g.page,g.pages)
def gx(s:State)(a:Nat):Nat:=((s.holding (a:Int)).map λr=>r.byte (oR r (a:Int))).getD 0
structure Rel(c:HC)(m:Addr->iJ)(S:bg):Prop where
 pg:S.pages=some c.pg
 ok:b6 c.pg
 yT:∀r∈c.pg.runs,r.mark=4
 lu:(c.held.map (·.1)).Nodup
 perm:(c.held.map br).Perm (flat S)
 snd:(c.small.map (·.1)).Nodup
 xC:c.small.length<=40
 sat:∀k,k<40->∃l,bM c.small (ai k:Nat)=some l/\l.Pairwise (·<·)/\∀x:Int,x∈l↔∃r∈S.smalls,r.kind=k/\x=r.page
 kind:∀r∈S.smalls,r.kind<40
 used:∀r∈S.smalls,(r.used.map (·.1)).Nodup/\∀u∈r.used,u.1<r.places/\u.2<=ai r.kind
 great:∀g∈S.greats,8<g.pages/\c.qY g.page=0/\g.size<=g.pages*4096
 runs:(c.pg.runs.map rowOf).Perm (S.smalls.map uX++S.greats.map vE)
 pc:∀q∈c.held,kD (m q.2.con)
 tW:∀q∈c.held,∀i:Nat,jD (m q.2.con) i=if i<q.2.size then ((gx c.pg (q.1.toNat+i):Nat):Int) else 0
 lo:∀q∈c.held,∀i:Int,jD (m q.2.con) i<=255
section
variable{c:HC}{m:Addr->iJ}{S:bg}
theorem Rel.rR(R:Rel c m S):((S.smalls.map uX++S.greats.map vE).map (·.1)).Nodup:=by
 have h:=R.ok.o6;have e:(c.pg.runs.map λr=>(r.first:Int))=((c.pg.runs.map rowOf).map (·.1)).map λ(n:Nat)=>(n:Int):=by rw[ay,ay];rfl
 rw[e] at h
 have h2:((c.pg.runs.map rowOf).map (·.1)).Nodup:=by
  unfold uP at*;rw[eU] at h;exact h.imp λWw e=>Ww (by rw[e])
 exact ((R.runs.map (·.1)).nodup_iff).mp h2
theorem jE{α β:Type}{l:List α}{f:α->β}(h:(l.map f).Nodup){a b:α}(ha:a∈l)(hb:b∈l)(e:f a=f b):a=b:=by
 induction l with
 |nil=>cases ha
 |cons x l ih=>
  obtain ⟨n1,n2⟩:=b9.mp h;rcases aP.mp ha with ea|Wy<;>rcases aP.mp hb with eb|Ls
  ·exact ea.trans eb.symm
  ·exact absurd (by rw[<-ea,e];exact aH Ls) n1
  ·exact absurd (by rw[<-eb,<-e];exact aH Wy) n1
  ·exact ih n2 Wy Ls
theorem Rel.nK(R:Rel c m S){r r':bN}(h:r∈S.smalls)(h':r'∈S.smalls)(e:r.page=r'.page):r=r':=by
 have:=R.rR;rw[aG,ay] at this;exact jE (f_.mp this).1 h h' e
theorem Rel.pR(R:Rel c m S){r r':dX}(h:r∈S.greats)(h':r'∈S.greats)(e:r.page=r'.page):r=r':=by
 have:=R.rR;rw[aG,ay,ay] at this;exact jE (f_.mp this).2.1 h h' e
theorem Rel.apart(R:Rel c m S){r:bN}{g:dX}(h:r∈S.smalls)(h':g∈S.greats):r.page≠g.page:=by
 have:=R.rR;rw[aG,ay,ay] at this;exact (f_.mp this).2.2 _ (aH (f:=(λx:Nat×Nat=>x.1)∘uX) h) _ (aH (f:=(λx:Nat×Nat=>x.1)∘vE) h')
theorem Rel.DH(R:Rel c m S){r:bN}(h:r∈S.smalls):∃q∈c.pg.runs,q.first=r.page/\q.pages=cg (ai r.kind):=by
 have:uX r∈c.pg.runs.map rowOf:=R.runs.mem_iff.mpr (cK _ (aH h));obtain ⟨q,hq,e⟩:=aq.mp this;exact ⟨q,hq,congrArg GC e,congrArg Prod.snd e⟩
theorem Rel.Ng(R:Rel c m S){r:dX}(h:r∈S.greats):∃q∈c.pg.runs,q.first=r.page/\q.pages=r.pages:=by
 have:vE r∈c.pg.runs.map rowOf:=R.runs.mem_iff.mpr (cG _ (aH h));obtain ⟨q,hq,e⟩:=aq.mp this;exact ⟨q,hq,congrArg GC e,congrArg Prod.snd e⟩
theorem DO{r:bN}(hk:r.kind<40){i:Nat}(h:i<r.places):jN r i+ai r.kind<=(((r.page+cg (ai r.kind))*4096:Nat):Int):=by
 unfold jN;unfold Kg46.Small.places at h;obtain ⟨h0,_⟩:=vD hk
 have h1:(i+1)*ai r.kind<=cg (ai r.kind)*4096:=by
  have:=Nat.div_mul_le_self (cg (ai r.kind)*a_) (ai r.kind);exact cE (dc _ h) this
 rw[jG] at h1;rw[jG];omega
theorem Rel.inRun(R:Rel c m S){x:BR}(h:x∈flat S):∃q∈c.pg.runs,q.first=x.2.2.2/\((q.first*4096:Nat):Int)<=x.1/\x.1+x.2.2.1<=(((q.first+q.pages)*4096:Nat):Int)/\x.2.1<=x.2.2.1:=by
 rcases bG.mp h with h|h
 ·obtain ⟨r,hr,hx⟩:=dF.mp h;obtain ⟨u,hu,rfl⟩:=aq.mp hx;obtain ⟨q,hq,e1,e2⟩:=R.DH hr;have hf:=DO (R.kind r hr) ((R.used r hr).2 u hu).1;refine ⟨q,hq,e1,?_,?_,((R.used r hr).2 u hu).2⟩
  ·show _<=jN r u.1;unfold jN;rw[e1];omega
  ·rw[e1,e2];exact hf
 ·obtain ⟨g,hg,rfl⟩:=aq.mp h;obtain ⟨q,hq,e1,e2⟩:=R.Ng hg;refine ⟨q,hq,e1,?_,?_,(R.great g hg).2.2⟩
  ·show _<=((g.page*4096:Nat):Int)
   rw[e1];omega
  ·show ((g.page*4096:Nat):Int)+((g.pages*4096:Nat):Int)<=_;rw[e1,e2,jG];omega
theorem Rel.dj(R:Rel c m S){x y:BR}(hx:x∈flat S)(hy:y∈flat S)(iG:x.1≠y.1):x.1+x.2.2.1<=y.1\/y.1+y.2.2.1<=x.1:=by
 by_cases AW:x.2.2.2=y.2.2.2
 ·rcases bG.mp hx with h|h<;>rcases bG.mp hy with h'|h'
  ·obtain ⟨r,hr,NS⟩:=dF.mp h;obtain ⟨u,hu,rfl⟩:=aq.mp NS;obtain ⟨r',m9,Ux⟩:=dF.mp h';obtain ⟨u',YA,rfl⟩:=aq.mp Ux;have:r=r':=R.nK hr m9 AW;subst this;show jN r u.1+(ai r.kind:Nat)<=jN r u'.1\/jN r u'.1+(ai r.kind:Nat)<=jN r u.1;have Ed:u.1≠u'.1:=λe=>iG (by show jN r u.1=jN r u'.1;rw[e]);unfold jN;rcases Nat.lt_or_gt_of_ne Ed with hl|hl
   ·have:(u.1+1)*ai r.kind<=u'.1*ai r.kind:=dc _ hl;rw[jG] at this;omega
   ·have:(u'.1+1)*ai r.kind<=u.1*ai r.kind:=dc _ hl;rw[jG] at this;omega
  ·obtain ⟨r,hr,NS⟩:=dF.mp h;obtain ⟨u,hu,rfl⟩:=aq.mp NS;obtain ⟨g,hg,rfl⟩:=aq.mp h';exact absurd AW (R.apart hr hg)
  ·obtain ⟨r,hr,NS⟩:=dF.mp h';obtain ⟨u,hu,rfl⟩:=aq.mp NS;obtain ⟨g,hg,rfl⟩:=aq.mp h;exact absurd AW.symm (R.apart hr hg)
  ·obtain ⟨g,hg,rfl⟩:=aq.mp h;obtain ⟨g',Lm,rfl⟩:=aq.mp h';have:g=g':=R.pR hg Lm AW;subst this;exact absurd rfl iG
 ·obtain ⟨q,hq,e1,e2,e3,_⟩:=R.inRun hx;obtain ⟨q',oh,e1',Rw,WC,_⟩:=R.inRun hy;have:=R.ok.apart hq oh (λe=>AW (by rw[<-e1,<-e1',e]));rcases this with h|h
  ·left;have:(q.first+q.pages)*4096<=q'.first*4096:=dc _ h;omega
  ·right;have:(q'.first+q'.pages)*4096<=q.first*4096:=dc _ h;omega
theorem Rel.mem(R:Rel c m S){q:Int×lD}(h:q∈c.held):br q∈flat S:=R.perm.mem_iff.mp (aH h)
theorem Rel.vc(R:Rel c m S){x:BR}(h:x∈flat S):∃b,bM c.held x.1=some b/\x=(x.1,b.size,b.room,b.run):=by
 obtain ⟨q,hq,e⟩:=aq.mp (R.perm.mem_iff.mpr h);refine ⟨q.2,?_,?_⟩
 ·rw[<-e];exact d7 R.lu hq
 ·rw[<-e];rfl
theorem Rel.nn(R:Rel c m S){q:Int×lD}(h:q∈c.held):0<=q.1:=by
 obtain ⟨r,_,_,h2,_⟩:=R.inRun (R.mem h);have:(((r.first*4096:Nat)):Int)<=q.1:=h2;omega
def bk(b:Jg):Int×Nat×Nat:=((b.place:Int),b.size,b.room)
def qk(q:Int×lD):Int×Nat×Nat:=(q.1,q.2.size,q.2.room)
theorem Rel.blocks(R:Rel c m S):(S.blocks.map bk).Perm (c.held.map qk):=by
 have h1:(c.held.map qk).Perm ((flat S).map λx=>(x.1,x.2.1,x.2.2.1)):=by
  have:=R.perm.map (λx:BR=>(x.1,x.2.1,x.2.2.1));rw[ay] at this;exact this
 refine ((iy _ _).map bk).trans (List.Perm.trans (.of_eq ?_) h1.symm);unfold flat;rw[aG,aG,qQ,qQ,ay,ay];congr 1;congr 1;funext r;unfold CS sS;rw[ay,ay];rfl
theorem Rel.block(R:Rel c m S)(p:Int):S.block p=(bM c.held p).map λb=>⟨p.toNat,b.size,b.room⟩:=by
 unfold Kg46.State.block;cases e:S.blocks.find? λb=>(b.place:Int)==p with
 |none=>
  cases e2:bM c.held p with
  |none=>rfl
  |some b=>
   have:qk (p,b)∈S.blocks.map bk:=R.blocks.mem_iff.mpr (aH (eN e2));obtain ⟨b',hb,eb⟩:=aq.mp this;have h3:=dW.mp e b' hb;have:(b'.place:Int)=p:=congrArg GC eb;rw[this] at h3;simp at h3
 |some b'=>
  have hb:=bE e;have hp:(b'.place:Int)=p:=by simpa using di e
  have:bk b'∈c.held.map qk:=R.blocks.mem_iff.mp (aH hb);obtain ⟨q,hq,eq⟩:=aq.mp this;have e1:q.1=p:=(congrArg GC eq).trans hp;have e2:=d7 R.lu hq;rw[e1] at e2;rw[e2];have f1:q.2.size=b'.size:=congrArg (λx=>x.2.1) eq;have f2:q.2.room=b'.room:=congrArg (λx=>x.2.2) eq;show some b'=some ⟨p.toNat,q.2.size,q.2.room⟩;rw[f1,f2,<-hp,aU]
theorem Rel.ZI(R:Rel c m S){q q':Int×lD}(h:q∈c.held)(h':q'∈c.held){a:Int}(p1:q.1<=a/\a<q.1+q.2.size)(p2:q'.1<=a/\a<q'.1+q'.2.size):q=q':=by
 by_cases e:q.1=q'.1
 ·exact jE R.lu h h' e
 ·exfalso;obtain ⟨_,_,_,_,_,s1⟩:=R.inRun (R.mem h);obtain ⟨_,_,_,_,_,s2⟩:=R.inRun (R.mem h');have s1':q.2.size<=q.2.room:=s1;have s2':q'.2.size<=q'.2.room:=s2;have:=R.dj (R.mem h) (R.mem h') e;have d:q.1+(q.2.room:Int)<=q'.1\/q'.1+(q'.2.room:Int)<=q.1:=this;omega
theorem Rel.holding(R:Rel c m S){a:Int}{n:Nat}(hn:0<n):S.holding a n=match c.held.find? (hasB a) with
  |some q=>if a+n<=q.1+q.2.size then some ⟨q.1.toNat,q.2.size,q.2.room⟩ else none
  |none=>none:=by
 unfold Kg46.State.holding
 have toH:∀b∈S.blocks,∃q∈c.held,(b.place:Int)=q.1/\b.size=q.2.size/\b.room=q.2.room:=λb hb=>by
  obtain ⟨q,hq,eq⟩:=aq.mp (R.blocks.mem_iff.mp (aH hb));exact ⟨q,hq,(congrArg (λx=>x.1) eq).symm,(congrArg (λx=>x.2.1) eq).symm,(congrArg (λx=>x.2.2) eq).symm⟩
 cases e:S.blocks.find? λb=>decide ((b.place:Int)<=a)&&decide (a+n<=(b.place:Int)+b.size) with
 |some b=>
  have hp:=di e;simp only[aC,decide_eq_true_eq] at hp;obtain ⟨q,hq,e1,e2,e3⟩:=toH b (bE e);cases f:c.held.find? (hasB a) with
  |none=>
   have:=dW.mp f q hq;unfold hasB at this;simp only[aC,decide_eq_true_eq] at this;exact absurd ⟨by omega,by omega⟩ this
  |some q'=>
   have NW:=di f;unfold hasB at NW;simp only[aC,decide_eq_true_eq] at NW;have:q=q':=R.ZI hq (bE f) (a:=a) ⟨by omega,by omega⟩ NW;subst this;dsimp only;rw[if_pos (by omega),<-e1,<-e2,<-e3,aU]
 |none=>
  cases f:c.held.find? (hasB a) with
  |none=>rfl
  |some q=>
   dsimp only;have NW:=di f;unfold hasB at NW;simp only[aC,decide_eq_true_eq] at NW;have hq:=bE f;obtain ⟨b,hb,eb⟩:=aq.mp (R.blocks.mem_iff.mpr (aH (f:=qk) hq));have e1:(b.place:Int)=q.1:=congrArg (λx=>x.1) eb;have e2:b.size=q.2.size:=congrArg (λx=>x.2.1) eb;have:=dW.mp e b hb;simp only[aC,decide_eq_true_eq] at this;rw[if_neg λz=>this ⟨by omega,by omega⟩]
end
end Rm
namespace Rm
open Kg45 (State Run Ask)
open Given (Prog)
open PySem (Addr)
theorem Bq:∀(b:List Nat) (k at_ i:Nat),(((b.zipIdx k).filter λx=>x.1 !=0).map λx=>(at_+x.2,x.1)).find? (λx=>x.1==i)=if at_+k<=i/\i<at_+k+b.length/\b.getD (i-(at_+k)) 0≠0 then some (i,b.getD (i-(at_+k)) 0) else none
 |[],k,at_,i=>by simp
 |y::b,k,at_,i=>by
  have ih:=Bq b (k+1) at_ i;rw[List.zipIdx_cons,bU]
  by_cases hy:y=0
  ·subst hy;rw[if_neg (by simp),ih]
   by_cases hi:i=at_+k
   ·subst hi;rw[if_neg (by omega),if_neg (by simp)]
   ·by_cases c:at_+(k+1)<=i/\i<at_+(k+1)+b.length
    ·have e:i-(at_+k)=(i-(at_+(k+1)))+1:=by omega
     have eg:(0::b).getD (i-(at_+k)) 0=b.getD (i-(at_+(k+1))) 0:=by rw[e];rfl
     rw[eg]
     by_cases c2:b.getD (i-(at_+(k+1))) 0≠0
     ·rw[if_pos ⟨c.1,c.2,c2⟩,if_pos ⟨by omega,by simp only[bL];omega,c2⟩]
     ·rw[if_neg λz=>c2 z.2.2,if_neg λz=>c2 z.2.2]
    ·rw[if_neg λz=>c ⟨z.1,z.2.1⟩,if_neg λz=>c ⟨by omega,by have:=z.2.1;simp only[bL] at this;omega⟩]
  ·rw[if_pos (by simpa using hy),aI,dm]
   by_cases hi:i=at_+k
   ·subst hi;have:((at_+k,y).1==at_+k)=true:=by simp
    rw[this];rw[if_pos ⟨aL _,by simp,by simpa using hy⟩];simp
   ·have:((at_+k,y).1==i)=false:=by simp;omega
    rw[this,ih]
    by_cases c:at_+(k+1)<=i/\i<at_+(k+1)+b.length
    ·have e:i-(at_+k)=(i-(at_+(k+1)))+1:=by omega
     have eg:(y::b).getD (i-(at_+k)) 0=b.getD (i-(at_+(k+1))) 0:=by rw[e];rfl
     rw[eg]
     by_cases c2:b.getD (i-(at_+(k+1))) 0≠0
     ·rw[if_pos ⟨c.1,c.2,c2⟩,if_pos ⟨by omega,by simp only[bL];omega,c2⟩]
     ·rw[if_neg λz=>c2 z.2.2,if_neg λz=>c2 z.2.2]
    ·rw[if_neg λz=>c ⟨z.1,z.2.1⟩,if_neg λz=>c ⟨by omega,by have:=z.2.1;simp only[bL] at this;omega⟩]
theorem Ew(l:List (Nat×Nat))(at_:Nat)(b:List Nat)(i:Nat):jC (jg l at_ b) i=if at_<=i/\i<at_+b.length then b.getD (i-at_) 0 else jC l i:=by
 unfold jC jg;rw[List.find?_append,Bq b 0 at_ i,Nat.add_zero]
 by_cases c:at_<=i/\i<at_+b.length
 ·rw[if_pos c]
  by_cases c2:b.getD (i-at_) 0≠0
  ·rw[if_pos ⟨c.1,c.2,c2⟩];rfl
  ·rw[if_neg λz=>c2 z.2.2]
   have hn:(l.filter λx=>decide (x.1<at_)||decide (at_+b.length<=x.1)).find? (λx=>x.1==i)=none:=by
    rw[dW];intro x hx z;have:=(bu.mp hx).2;simp only[gv,decide_eq_true_eq] at this;have z':x.1=i:=by simpa using z
    omega
   rw[hn];simp only[Option.or_none,Option.map_none,vR];omega
 ·rw[if_neg c,if_neg λz=>c ⟨z.1,z.2.1⟩]
  have:(l.filter λx=>decide (x.1<at_)||decide (at_+b.length<=x.1)).find? (λx=>x.1==i)=l.find? λx=>x.1==i:=by
   rw[List.find?_filter];congr 1;funext x
   by_cases hx:x.1=i
   ·have:(decide (x.1<at_)||decide (at_+b.length<=x.1))=true:=by simp;omega
    rw[this,hx];simp
   ·simp [hx]
  rw[this];rfl
structure tu(s s':State):Prop where
 eq:s'={s with runs:=s'.runs}
 rows:s'.runs.map (λr=>(r.first,r.pages,r.mark))=s.runs.map λr=>(r.first,r.pages,r.mark)
theorem tu.refl{s:State}:tu s s:=⟨rfl,rfl⟩
theorem tu.trans{s t u:State}(a:tu s t)(b:tu t u):tu s u:=⟨by rw[b.eq,a.eq],b.rows.trans a.rows⟩
theorem tu.rowOf{s s':State}(h:tu s s'):s'.runs.map rowOf=s.runs.map rowOf:=by
 have:=congrArg (oM λx:Nat×Nat×Nat=>(x.1,x.2.1)) h.rows;rw[ay,ay] at this;exact this
theorem tu.mem{s s':State}(h:tu s s'){r:Run}(hr:r∈s'.runs):∃q∈s.runs,q.first=r.first/\q.pages=r.pages/\q.mark=r.mark:=by
 have:(r.first,r.pages,r.mark)∈s.runs.map λr=>(r.first,r.pages,r.mark):=by rw[<-h.rows];exact aH (f:=λr:Run=>(r.first,r.pages,r.mark)) hr
 obtain ⟨q,hq,e⟩:=aq.mp this;exact ⟨q,hq,congrArg (·.1) e,congrArg (·.2.1) e,congrArg (·.2.2) e⟩
theorem tu.Um{s s':State}(h:tu s s'){r:Run}(hr:r∈s.runs):∃q∈s'.runs,q.first=r.first/\q.pages=r.pages/\q.mark=r.mark:=by
 have:(r.first,r.pages,r.mark)∈s'.runs.map λr=>(r.first,r.pages,r.mark):=by rw[h.rows];exact aH (f:=λr:Run=>(r.first,r.pages,r.mark)) hr
 obtain ⟨q,hq,e⟩:=aq.mp this;exact ⟨q,hq,congrArg (·.1) e,congrArg (·.2.1) e,congrArg (·.2.2) e⟩
theorem b6.wK{s s':State}(h:b6 s)(e1:s'.size=s.size)(e2:s'.free=s.free)(e3:s'.runs.map Rm.rowOf=s.runs.map Rm.rowOf):b6 s':=by
 have mem:∀r∈s'.runs,∃q∈s.runs,q.first=r.first/\q.pages=r.pages:=λr hr=>by
  have:Rm.rowOf r∈s.runs.map Rm.rowOf:=by rw[<-e3];exact aH hr
  obtain ⟨q,hq,e⟩:=aq.mp this;exact ⟨q,hq,congrArg (·.1) e,congrArg (·.2) e⟩
 refine ⟨by rw[e1];exact h.size,by rw[e2];exact h.yt,by rw[e2,e1];exact h.fin,λr hr=>?_,?_,λr hr x hx=>?_⟩
 ·obtain ⟨q,hq,f1,f2⟩:=mem r hr;rw[e1,<-f1,<-f2];exact h.sQ q hq
 ·have h1:(s.runs.map Rm.rowOf).Pairwise λa b=>a.1+a.2<=b.1\/b.1+b.2<=a.1:=eU.mpr h.dj;rw[<-e3] at h1;exact eU.mp h1
 ·obtain ⟨q,hq,f1,f2⟩:=mem r hr;rw[e2] at hx;rw[<-f1,<-f2];exact h.fr q hq x hx
theorem tu.ok{s s':State}(h:tu s s')(o:b6 s):b6 s':=o.wK (by rw[h.eq]) (by rw[h.eq]) h.rowOf
theorem b6.kB{s:State}(h:b6 s){a b:Run}(ha:a∈s.runs)(hb:b∈s.runs)(e:a.first=b.first):a=b:=
 jE h.o6 ha hb (by rw[e])
theorem b6.hold{s:State}(h:b6 s){r:Run}(hr:r∈s.runs){a:Nat}(h1:r.first*4096<=a)(h2:a<(r.first+r.pages)*4096):s.holding (a:Int)=some r:=by
 unfold nu;cases e:s.runs.find? λr=>decide (((r.first*dZ:Nat):Int)<=(a:Int))&&decide ((a:Int)<(((r.first+r.pages)*dZ:Nat):Int)) with
 |none=>
  have:=dW.mp e r hr;rw[aC,decide_eq_true_eq,decide_eq_true_eq] at this;have h3:((r.first*4096:Nat):Int)<=(a:Int):=by omega
  have h4:(a:Int)<(((r.first+r.pages)*4096:Nat):Int):=by omega
  exact absurd ⟨h3,h4⟩ this
 |some q=>
  have hq:=bE e;have hp:=di e;rw[aC,decide_eq_true_eq,decide_eq_true_eq] at hp;have h3:((q.first*4096:Nat):Int)<=(a:Int):=hp.1;have h4:(a:Int)<(((q.first+q.pages)*4096:Nat):Int):=hp.2
  by_cases c:q.first=r.first
  ·rw[h.kB hq hr c]
  ·rcases h.apart hq hr c with z|z
   ·have:=dc 4096 z;omega
   ·have:=dc 4096 z;omega
theorem wO{s:State}{a:Nat}{r:Run}(h:s.holding (a:Int)=some r):r∈s.runs/\r.first*4096<=a/\a<(r.first+r.pages)*4096:=by
 have hp:=di h;rw[aC,decide_eq_true_eq,decide_eq_true_eq] at hp;have h3:((r.first*4096:Nat):Int)<=(a:Int):=hp.1;have h4:(a:Int)<(((r.first+r.pages)*4096:Nat):Int):=hp.2;exact ⟨bE h,by omega,by omega⟩
theorem sH{r:Run}{a:Nat}:oR r (a:Int)=a-r.first*4096:=by
 unfold oR dZ;omega
theorem LS{s:State}(f:Run->Run)(hf:∀r,(f r).first=r.first/\(f r).pages=r.pages)(a:Nat):gx {s with runs:=s.runs.map f} a=((s.holding (a:Int)).map λr=>(f r).byte (a-r.first*4096)).getD 0:=by
 unfold gx
 have:nu {s with runs:=s.runs.map f} (a:Int)=(s.holding (a:Int)).map f:=by
  unfold nu;rw[Ai];congr 2;funext r;show (decide (((((f r).first*dZ:Nat):Int)<=a))&&decide ((a:Int)<((((f r).first+(f r).pages)*dZ:Nat):Int)))=_;rw[(hf r).1,(hf r).2]
 rw[this];cases s.holding (a:Int) with
 |none=>rfl
 |some r=>
  show (f r).byte (oR (f r) a)=(f r).byte (a-r.first*4096);rw[sH,(hf r).1]
theorem iC{s:State}{a:Nat}:gx s a=((s.holding (a:Int)).map λr=>r.byte (a-r.first*4096)).getD 0:=by
 unfold gx;cases s.holding (a:Int) with
 |none=>rfl
 |some r=>show r.byte (oR r a)=_;rw[sH];rfl
theorem Jl(s:State)(r:Run):s.with_ r={s with runs:=s.runs.map λx=>if x.first=r.first then r else x}:=rfl
theorem XR{s:State}{r:Run}{a:Nat}{b:List Nat}(cI:b6 s)(hr:r∈s.runs)(h1:r.first*4096<=a)(h2:a+b.length<=(r.first+r.pages)*4096)(hb:b≠[])(ye:∀x∈b,x<=255)(hm:r.mark=4):
  ∃s',(dJ (some s) (.put (a:Int) (some b))).1=some s'/\tu s s'/\∀x,gx s' x=if a<=x/\x<a+b.length then b.getD (x-a) 0 else gx s x:=by
 have hlen:0<b.length:=IE.mpr hb;refine ⟨s.with_ {r with bytes:=jg r.bytes (a-r.first*4096) b},?_,⟨rfl,?_⟩,λx=>?_⟩
 ·unfold dJ
  have e:gG (some s) (.put (a:Int) (some b))=.done (some (s.with_ {r with bytes:=jg r.bytes (a-r.first*4096) b})) (d8 0):=by
   have Rg:¬((b.any λx=>decide (255<x))=true):=by
    rw[dG];rintro ⟨x,hx,z⟩;have:=ye x hx;simp only[decide_eq_true_eq] at z;omega
   show (if (b.any λx=>decide (255<x))=true then _ else _)=_;rw[if_neg Rg,cI.hold hr h1 (by omega)];show (if r.pages*dZ<oR r a+b.length then _ else if (Ak r.mark 1||Ak r.mark 2)=true then _ else _)=_;rw[sH,if_neg (by unfold dZ;rw[jG] at h2;omega),hm,if_neg (by decide)]
  rw[e]
 ·show (s.runs.map λx=>if x.first=r.first then {r with bytes:=jg r.bytes (a-r.first*4096) b} else x).map (λr=>(r.first,r.pages,r.mark))=_;rw[ay];refine aN λx hx=>?_;show (λr:Run=>(r.first,r.pages,r.mark)) (if x.first=r.first then _ else x)=_;split
  ·rename_i c;rw[cI.kB hx hr c]
  ·rfl
 ·rw[Jl]
  have uJ:∀x:Run,x∈s.runs->(λx:Run=>if x.first=r.first then ({r with bytes:=jg r.bytes (a-r.first*4096) b}:Run) else x) x=(λx:Run=>if x.first=r.first/\x.pages=r.pages then ({x with bytes:=jg r.bytes (a-r.first*4096) b}:Run) else x) x:=λx hx=>by
   dsimp only
   by_cases c:x.first=r.first
   ·have:=cI.kB hx hr c;subst this;rw[if_pos rfl,if_pos ⟨rfl,rfl⟩]
   ·rw[if_neg c,if_neg λz=>c z.1]
  show gx {s with runs:=s.runs.map λx:Run=>if x.first=r.first then ({r with bytes:=jg r.bytes (a-r.first*4096) b}:Run) else x} x=_;rw[aN uJ,LS _ (λx=>by split<;>exact ⟨rfl,rfl⟩),iC];cases e:s.holding (x:Int) with
  |none=>
   rw[if_neg λz=>?_]
   ·rfl
   ·rw[cI.hold hr (by omega) (by omega)] at e;cases e
  |some q=>
   obtain ⟨hq,q1,q2⟩:=wO e
   by_cases c:q.first=r.first
   ·have:=cI.kB hq hr c;subst this;show (if _ then _ else _:Run).byte _=_;rw[if_pos ⟨rfl,rfl⟩];show jC (jg q.bytes (a-q.first*4096) b) (x-q.first*4096)=_;rw[Ew]
    by_cases c2:a<=x/\x<a+b.length
    ·rw[if_pos ⟨by omega,by omega⟩,if_pos c2];congr 1;omega
    ·rw[if_neg (by omega),if_neg c2];rfl
   ·show (if _ then _ else _:Run).byte _=_;rw[if_neg λz=>c z.1,if_neg λz=>?_]
    ·rfl
    ·rcases cI.apart hq hr c with y|y
     ·have:=dc 4096 y;omega
     ·have:=dc 4096 y;omega
def O2(s:State)(a n:Nat):Prop:=∃r∈s.runs,r.first*4096<=a/\a+n<=(r.first+r.pages)*4096/\r.mark=4
theorem O2.sm{s s':State}{a n:Nat}(h:O2 s a n)(e:tu s s'):O2 s' a n:=by
 obtain ⟨r,hr,h1,h2,h3⟩:=h;obtain ⟨q,hq,f1,f2,f3⟩:=e.Um hr;exact ⟨q,hq,by rw[f1];exact h1,by rw[f1,f2];exact h2,by rw[f3];exact h3⟩
theorem BS{s:State}{a:Nat}{b:List Nat}(cI:b6 s)(qm:O2 s a b.length)(ye:∀x∈b,x<=255):
  ∃s',lM (some s) a b=some s'/\tu s s'/\∀x,gx s' x=if a<=x/\x<a+b.length then b.getD (x-a) 0 else gx s x:=by
 have key:∀K,K<=(b.length+4095)/4096->∃s',((bX K).map λi=>(4096*i,(b.drop (4096*i)).take 4096)).foldl (λh x=>(dJ h (.put ((a+x.1:Nat):Int) (some x.2))).1) (some s)=some s'/\tu s s'/\∀x,gx s' x=if a<=x/\x<a+min (4096*K) b.length then b.getD (x-a) 0 else gx s x:=by
  intro K
  induction K with
  |zero=>intro _;exact ⟨s,rfl,.refl,λx=>by rw[if_neg (by omega)]⟩
  |succ K ih=>
   intro hK;obtain ⟨s1,e1,W7,b1⟩:=ih (by omega);rw[sf,aG,List.foldl_append,e1];have pX:4096*K<b.length:=by omega
   have hl:((b.drop (4096*K)).take 4096).length=min 4096 (b.length-4096*K):=by rw[bS,b_]
   obtain ⟨r,hr,g1,g2,g3⟩:=qm.sm W7;obtain ⟨s2,e2,Td,b2⟩:=XR (a:=a+4096*K) (b:=(b.drop (4096*K)).take 4096) (W7.ok cI) hr (by omega) (by rw[hl];omega) (λz=>by rw[z] at hl;simp at hl;omega) (λx hx=>ye x (tE (jc hx))) g3;refine ⟨s2,e2,W7.trans Td,λx=>?_⟩;rw[b2,hl,b1]
   by_cases c:a+4096*K<=x/\x<a+4096*K+min 4096 (b.length-4096*K)
   ·rw[if_pos c,if_pos ⟨by omega,by omega⟩];rw[bA,Bo (by omega),lK,bA];congr 2;omega
   ·rw[if_neg c]
    by_cases c2:a<=x/\x<a+min (4096*K) b.length
    ·rw[if_pos c2,if_pos ⟨by omega,by omega⟩]
    ·rw[if_neg c2,if_neg (by omega)]
 obtain ⟨s',e,sm,h⟩:=key _ (aL _);refine ⟨s',e,sm,λx=>?_⟩;rw[h];have:min (4096*((b.length+4095)/4096)) b.length=b.length:=by omega
 rw[this]
theorem Jm(p:mT)(a n:Nat):oQ p a n=lM p a (bJ n 0):=by
 unfold oQ lM Kg46.pieces;rw[List.foldl_map,eu];congr 1;funext h i;dsimp only;congr 4;rw[List.drop_replicate,List.take_replicate]
theorem Br{s:State}{a n:Nat}(cI:b6 s)(qm:O2 s a n):∃s',oQ (some s) a n=some s'/\tu s s'/\∀x,gx s' x=if a<=x/\x<a+n then 0 else gx s x:=by
 rw[Jm];obtain ⟨s',e,sm,h⟩:=BS (b:=bJ n 0) cI (by rw[eu];exact qm) (λx hx=>by rw[(Ja.mp hx).2];omega);refine ⟨s',e,sm,λx=>?_⟩;rw[h,eu]
 by_cases c:a<=x/\x<a+n
 ·rw[if_pos c,if_pos c,bA,lZ];split<;>rfl
 ·rw[if_neg c,if_neg c]
theorem yu{s:State}{a n:Nat}(cI:b6 s)(qm:O2 s a n):fK (some s) a n=(bX n).map λj=>gx s (a+j):=by
 obtain ⟨r,hr,h1,h2,h3⟩:=qm
 have key:∀K,K<=(n+4095)/4096->((bX K).flatMap λi=>((dJ (some s) (.get ((a+4096*i:Nat):Int) ((min 4096 (n-4096*i):Nat):Int))).2.out.map jV))=(bX (min (4096*K) n)).map λj=>gx s (a+j):=by
  intro K
  induction K with
  |zero=>intro _;simp
  |succ K ih=>
   intro hK;rw[sf,iz,ih (by omega)];have pX:4096*K<n:=by omega
   have e:gG (some s) (.get ((a+4096*K:Nat):Int) ((min 4096 (n-4096*K):Nat):Int))=.done (some s) ⟨0,(bX (min 4096 (n-4096*K))).map λj=>(r.byte (a+4096*K-r.first*4096+j):Int)⟩:=by
    have hw:¬(bO ((min 4096 (n-4096*K):Nat):Int) 0 4096=false):=by unfold bO;simp;omega
    show (if bO ((min 4096 (n-4096*K):Nat):Int) 0 4096=false then _ else _)=_;rw[if_neg hw,cI.hold hr (by omega) (by omega)];show (if r.pages*dZ<oR r ((a+4096*K:Nat):Int)+((min 4096 (n-4096*K):Nat):Int).toNat then _ else if Ak r.mark 2=true then _ else _)=_;rw[sH,aU,if_neg (by unfold dZ;rw[jG] at h2;omega),h3,if_neg (by decide)]
   have e2:(dJ (some s) (.get ((a+4096*K:Nat):Int) ((min 4096 (n-4096*K):Nat):Int))).2.out=(bX (min 4096 (n-4096*K))).map λj=>(r.byte (a+4096*K-r.first*4096+j):Int):=by
    unfold dJ;rw[e]
   rw[List.flatMap_singleton,e2,ay];have e3:min (4096*(K+1)) n=min (4096*K) n+min 4096 (n-4096*K):=by omega
   have e4:min (4096*K) n=4096*K:=by omega
   rw[e3,e4,List.range_add,aG,ay];congr 1;refine aN λj hj=>?_;have Q5:=e9.mp hj;show (r.byte (a+4096*K-r.first*4096+j):Int).toNat=gx s (a+(4096*K+j));rw[iC,cI.hold hr (by omega) (by omega),aU];show _=r.byte _;congr 1;omega
 unfold fK;rw[key _ (aL _)];congr 2;omega
end Rm
namespace Rm
open Kg45 (State Run Ask)
open Given (Prog)
open PySem (Addr)
section
variable{c:HC}{m:Addr->iJ}{S:bg}
theorem Rel.JQ(R:Rel c m S){x:BR}(h:x∈flat S):0<x.2.2.1:=by
 rcases bG.mp h with h|h
 ·obtain ⟨r,hr,hx⟩:=dF.mp h;obtain ⟨u,hu,rfl⟩:=aq.mp hx;exact (vD (R.kind r hr)).1
 ·obtain ⟨g,hg,rfl⟩:=aq.mp h;have:=(R.great g hg).1;show 0<g.pages*4096;omega
theorem T8(r:bN)(i:Nat):((r.page*4096:Nat):Int)<=jN r i:=by unfold jN;omega
theorem Rel.KS(R:Rel c m S){x:BR}(hx:x∈flat S){r:bN}(hr:r∈S.smalls)(e:x.2.2.2=r.page):∃u∈r.used,x=(jN r u.1,u.2,ai r.kind,r.page):=by
 rcases bG.mp hx with h|h
 ·obtain ⟨r',m9,NS⟩:=dF.mp h;obtain ⟨u,hu,rfl⟩:=aq.mp NS;have:r'=r:=R.nK m9 hr e;subst this;exact ⟨u,hu,rfl⟩
 ·obtain ⟨g,hg,rfl⟩:=aq.mp h;exact absurd e.symm (R.apart hr hg)
theorem Rel.yl(R:Rel c m S){r:bN}(hr:r∈S.smalls){i:Nat}(hi:i<r.places)(hf:∀u∈r.used,u.1≠i){x:BR}(hx:x∈flat S):x.1+x.2.2.1<=jN r i\/jN r i+ai r.kind<=x.1:=by
 by_cases e:x.2.2.2=r.page
 ·obtain ⟨u,hu,rfl⟩:=R.KS hx hr e;show jN r u.1+(ai r.kind:Nat)<=jN r i\/jN r i+(ai r.kind:Nat)<=jN r u.1;have iG:=hf u hu;unfold jN;rcases Nat.lt_or_gt_of_ne iG with hl|hl
  ·have:(u.1+1)*ai r.kind<=i*ai r.kind:=dc _ hl;rw[jG] at this;omega
  ·have:(i+1)*ai r.kind<=u.1*ai r.kind:=dc _ hl;rw[jG] at this;omega
 ·obtain ⟨q,hq,e1,e2,e3,_⟩:=R.inRun hx;obtain ⟨q',oh,f1,f2⟩:=R.DH hr;have hf:=DO (R.kind r hr) hi;have hl:=T8 r i;rcases R.ok.apart hq oh (λz=>e (by rw[<-e1,<-f1,z])) with h|h
  ·left;have:=dc 4096 h;rw[f1] at this;omega
  ·right;have:=dc 4096 h;rw[f1,f2] at this;omega
theorem Rel.Ge(R:Rel c m S){r:bN}(hr:r∈S.smalls){i:Nat}(hi:i<r.places):(bM c.held (jN r i)).isNone= !(r.used.any λu=>u.1==i):=by
 cases e:r.used.any λu=>u.1==i with
 |true=>
  obtain ⟨u,hu,h⟩:=dG.mp e;have h':u.1=i:=by simpa using h
  have hm:((jN r u.1,u.2,ai r.kind,r.page):BR)∈flat S:=cK _ (dF.mpr ⟨r,hr,aq.mpr ⟨u,hu,rfl⟩⟩);obtain ⟨b,hb,_⟩:=R.vc hm;rw[h'] at hb;have yd:bM c.held (jN r i)=some b:=hb;rw[yd];rfl
 |false=>
  have hf:∀u∈r.used,u.1≠i:=λu hu z=>by
   rw[kj] at e;exact e u hu (by simpa using z)
  cases hv:bM c.held (jN r i) with
  |none=>rfl
  |some b=>
   exfalso;have hx:=R.mem (eN hv);have h1:=R.yl hr hi hf hx;have h2:=R.JQ hx;have h3:=(vD (R.kind r hr)).1;have:(br (jN r i,b)).1=jN r i:=rfl;rw[this] at h1;omega
theorem Rel.LA(R:Rel c m S){r:bN}(hr:r∈S.smalls):pY c (ai r.kind:Nat) (r.page:Nat)=((bX r.places).filter λi=> !(r.used.any λu=>u.1==i)).map (jN r):=by
 unfold pY Bd;rw[sE,List.filter_map]
 have e1:(λ(i:Nat)=>((r.page:Nat):Int)*4096+(i:Int)*((ai r.kind:Nat):Int))=jN r:=by
  funext i;unfold jN;rw[Int.natCast_add,Int.natCast_mul,Int.natCast_mul];rfl
 rw[e1];congr 1;refine ki λi hi=>?_;exact R.Ge hr (e9.mp hi)
theorem Lz{n:Nat}{l:List (Nat×Nat)}(hn:(l.map (·.1)).Nodup)(hl:∀u∈l,u.1<n):((bX n).filter λi=> !(l.any λu=>u.1==i)).length+l.length=n:=by
 have h1:=(List.filter_append_perm (λi=>l.any λu=>u.1==i) (bX n)).length_eq
 have h2:((bX n).filter λi=>l.any λu=>u.1==i).Perm (l.map (·.1)):=by
  refine (oK ((w_).filter _) hn).mpr λa=>?_;rw[bu,aq,dG,e9];constructor
  ·rintro ⟨_,u,hu,e⟩;exact ⟨u,hu,by simpa using e⟩
  ·rintro ⟨u,hu,rfl⟩;exact ⟨hl u hu,u,hu,by simp⟩
 rw[aE,h2.length_eq,aj,kg] at h1;omega
theorem Rel.Gg(R:Rel c m S){r:bN}(hr:r∈S.smalls):(pY c (ai r.kind:Nat) (r.page:Nat)).length+r.used.length=r.places:=by
 rw[R.LA hr,aj];exact Lz (R.used r hr).1 λu hu=>((R.used r hr).2 u hu).1
theorem Rel.yk(R:Rel c m S){r:bN}(hr:r∈S.smalls):(pY c (ai r.kind:Nat) (r.page:Nat)).isEmpty=r.full:=by
 have h:=R.Gg hr;unfold uQ;cases e:pY c (ai r.kind:Nat) (r.page:Nat) with
 |nil=>rw[e] at h;simp at h;simp;omega
 |cons a l=>rw[e] at h;simp at h;simp;omega
theorem Rel.sJ(R:Rel c m S){r:bN}(hr:r∈S.smalls):gw c (ai r.kind:Nat) (r.page:Nat)=decide (r.used=[]):=by
 have h:=R.Gg hr;unfold gw;have e:(Bd (ai r.kind:Nat) (r.page:Nat)).length=r.places:=by unfold Bd;rw[aj,kg,sE]
 rw[e];refine decide_eq_decide.mpr ⟨λz=>?_,λz=>?_⟩
 ·exact CN.mp (by omega)
 ·rw[z] at h;simpa using h
theorem Rel.ym(R:Rel c m S){r:bN}(hr:r∈S.smalls)(hf:r.full=false):(pY c (ai r.kind:Nat) (r.page:Nat)).head?=some (jN r r.free)/\r.free<r.places/\∀u∈r.used,u.1≠r.free:=by
 have h:=R.yk hr;rw[hf] at h;rw[R.LA hr] at h⊢;rw[List.head?_map,List.head?_filter];unfold Kg46.Small.free;cases e:(bX r.places).find? λi=> !(r.used.any λu=>u.1==i) with
 |none=>
  exfalso;rw[dW] at e;have:(bX r.places).filter (λi=> !(r.used.any λu=>u.1==i))=[]:=rC.mpr λa ha=>e a ha;rw[this] at h;cases h
 |some i=>
  have h1:=di e;have h2:=e9.mp (bE e);refine ⟨rfl,h2,λu hu z=>?_⟩;simp only[pW] at h1;rw[kj] at h1;exact h1 u hu (by simpa using z)
theorem sF:∀(l:List bN) (y:bN),∃w,l.foldl (λb x=>match b with
  |none=>some x
  |some y=>if x.page<y.page then some x else b) (some y)=some w/\(w=y\/w∈l)/\w.page<=y.page/\∀x∈l,w.page<=x.page
 |[],y=>⟨y,rfl,.inl rfl,aL _,λx h=>by cases h⟩
 |a::l,y=>by
  rw[nP];dsimp only
  by_cases h:a.page<y.page
  ·rw[if_pos h];obtain ⟨w,e,h1,h2,h3⟩:=sF l a;refine ⟨w,e,.inr ?_,by omega,λx hx=>?_⟩
   ·rcases h1 with rfl|h1
    ·exact aJ
    ·exact aB _ h1
   ·rcases aP.mp hx with rfl|hx
    ·exact h2
    ·exact h3 x hx
  ·rw[if_neg h];obtain ⟨w,e,h1,h2,h3⟩:=sF l y;refine ⟨w,e,h1.imp id (aB _),h2,λx hx=>?_⟩;rcases aP.mp hx with rfl|hx
   ·omega
   ·exact h3 x hx
theorem Ca{l:List bN}(h:l6 l=none):l=[]:=by
 cases l with
 |nil=>rfl
 |cons a l=>
  obtain ⟨w,e,_⟩:=sF l a;have:l6 (a::l)=some w:=e;rw[this] at h;cases h
theorem vH{l:List bN}{w:bN}(h:l6 l=some w):w∈l/\∀x∈l,w.page<=x.page:=by
 cases l with
 |nil=>cases h
 |cons a l=>
  obtain ⟨w',e,h1,h2,h3⟩:=sF l a;have:l6 (a::l)=some w':=e;rw[this] at h;cases h;refine ⟨?_,λx hx=>?_⟩
  ·rcases h1 with rfl|h1
   ·exact aJ
   ·exact aB _ h1
  ·rcases aP.mp hx with rfl|hx
   ·exact h2
   ·exact h3 x hx
theorem Rel.BV(R:Rel c m S){k:Nat}{l:List Int}(hl:∀x:Int,x∈l↔∃r∈S.smalls,r.kind=k/\x=r.page)(x:Int):x∈j4 c (ai k:Nat) l↔∃r∈S.smalls.filter (λr=>r.kind==k&& !r.full),x=r.page:=by
 unfold j4;rw[bu,hl x];constructor
 ·rintro ⟨⟨r,hr,hk,rfl⟩,h⟩;subst hk;rw[R.yk hr] at h;exact ⟨r,bu.mpr ⟨hr,by simpa using h⟩,rfl⟩
 ·rintro ⟨r,kr,rfl⟩;obtain ⟨AY,h⟩:=bu.mp kr;simp only[aC,beq_iff_eq] at h;obtain ⟨hk,h⟩:=h;subst hk;exact ⟨⟨r,AY,rfl,rfl⟩,by rw[R.yk AY];exact h⟩
theorem Rel.lowest(R:Rel c m S){k:Nat}{l:List Int}(hs:l.Pairwise (·<·))(hl:∀x:Int,x∈l↔∃r∈S.smalls,r.kind=k/\x=r.page):
  match j4 c (ai k:Nat) l with
  |[]=>l6 (S.smalls.filter λr=>r.kind==k&& !r.full)=none
  |x::_=>∃r∈S.smalls,r.kind=k/\r.full=false/\x=r.page/\l6 (S.smalls.filter λr=>r.kind==k&& !r.full)=some r:=by
 have hm:=R.BV hl;have QS:(j4 c (ai k:Nat) l).Pairwise (·<·):=hs.sublist dM;cases e:j4 c (ai k:Nat) l with
 |nil=>
  dsimp only;cases e2:l6 (S.smalls.filter λr=>r.kind==k&& !r.full) with
  |none=>rfl
  |some r=>
   have:=(hm r.page).mpr ⟨r,(vH e2).1,rfl⟩;rw[e] at this;cases this
 |cons x rest=>
  dsimp only;rw[e] at hm QS;cases e2:l6 (S.smalls.filter λr=>r.kind==k&& !r.full) with
  |none=>
   have h0:=Ca e2;obtain ⟨r,hr,_⟩:=(hm x).mp aJ;rw[h0] at hr;cases hr
  |some r=>
   obtain ⟨h1,h2⟩:=vH e2;obtain ⟨r0,oZ,hx⟩:=(hm x).mp aJ;have g1:=h2 r0 oZ
   have g2:x<=(r.page:Int):=by
    have:=(hm (r.page:Int)).mpr ⟨r,h1,rfl⟩;rcases aP.mp this with z|z
    ·omega
    ·have:=(dI.mp QS).1 _ z;omega
   have hpe:r.page=r0.page:=by omega
   obtain ⟨q1,q2⟩:=bu.mp h1;simp only[aC,beq_iff_eq,pW] at q2;exact ⟨r,q1,q2.1,q2.2,by omega,rfl⟩
theorem qA:∀(l:List (Nat×Nat)) (u:Nat×Nat),(gu l u).Perm (u::l)
 |[],u=>.refl _
 |x::l,u=>by
  unfold gu;split
  ·exact .refl _
  ·exact ((qA l u).cons x).trans (.swap _ _ _)
theorem uY{α β:Type}{key:α->Nat}{f:α->List β}{r r':α}:∀{l:List α},(l.map key).Nodup->r∈l->((l.map λy=>if key y=key r then r' else y).flatMap f++f r).Perm (l.flatMap f++f r')
 |[],_,h=>by cases h
 |a::l,hn,h=>by
  obtain ⟨n1,n2⟩:=b9.mp hn;rw[aI,dQ,dQ]
  by_cases e:key a=key r
  ·rw[if_pos e]
   have hra:r=a:=by
    rcases aP.mp h with h|h
    ·exact h
    ·exact absurd (by rw[e];exact aH h) n1
   subst hra
   have:l.map (λy=>if key y=key r then r' else y)=l:=by
    refine (aN λy hy=>?_).trans (kH l);rw[if_neg λz=>n1 (by rw[<-z];exact aH hy)];rfl
   rw[this];exact mO.trans ((mO.append_left _).trans (.of_eq (cD _ _ _).symm))
  ·rw[if_neg e];have h':=(aP.mp h).resolve_left λz=>e (by rw[z]);have ih:=uY (r':=r') (f:=f) n2 h';rw[cD,cD];exact ih.append_left _
end
end Rm
namespace Rm
open Kg45 (State Run Ask)
open Given (Prog)
open PySem (Addr)
def qW(m:Addr->iJ)(x:Addr)(p:iJ):Addr->iJ:=λy=>if y=x then p else m y
theorem fD{m:Addr->iJ}{x:Addr}{p:iJ}:qW m x p x=p:=if_pos rfl
theorem ic{m:Addr->iJ}{x y:Addr}{p:iJ}(h:y≠x):qW m x p y=m y:=if_neg h
def Be(r:bN):Nat×Nat:=(r.page,r.kind)
theorem J7{l l':List bN}(h:l'.map Be=l.map Be){k:Nat}{x:Int}:(∃r∈l',r.kind=k/\x=r.page)↔∃r∈l,r.kind=k/\x=r.page:=by
 have key:∀{l l':List bN},l'.map Be=l.map Be->(∃r∈l',r.kind=k/\x=r.page)->∃r∈l,r.kind=k/\x=r.page:=λ{l l'} h ⟨r,hr,h1,h2⟩=>by
  have:Be r∈l.map Be:=by rw[<-h];exact aH hr
  obtain ⟨q,hq,e⟩:=aq.mp this;have e1:q.page=r.page:=congrArg (·.1) e;have e2:q.kind=r.kind:=congrArg (·.2) e;exact ⟨q,hq,by rw[e2];exact h1,by rw[e1];exact h2⟩
 exact ⟨key h,key h.symm⟩
theorem OI{l l':List bN}(h:l'.map Be=l.map Be):l'.map uX=l.map uX:=by
 have:=congrArg (oM λx:Nat×Nat=>(x.1,cg (ai x.2))) h;rw[ay,ay] at this;exact this
section
variable{c:HC}{m:Addr->iJ}{S:bg}
theorem Rel.xP(R:Rel c m S):(S.smalls.map jr).Nodup:=by
 have:=R.rR;rw[aG,ay] at this;exact (f_.mp this).1
theorem Rel.lP(R:Rel c m S){r r' y:bN}(hr:r∈S.smalls)(h:y∈S.smalls.map λx=>if x.page=r.page then r' else x):y=r'\/(y∈S.smalls/\y.page≠r.page):=by
 obtain ⟨x,hx,rfl⟩:=aq.mp h
 by_cases e:x.page=r.page
 ·rw[if_pos e];exact .inl rfl
 ·rw[if_neg e];exact .inr ⟨hx,e⟩
theorem Rel.EV(R:Rel c m S){r r':bN}(hr:r∈S.smalls)(e1:r'.page=r.page)(e2:r'.kind=r.kind):(S.smalls.map λx=>if x.page=r.page then r' else x).map Be=S.smalls.map Be:=by
 rw[ay];refine aN λx hx=>?_;show Be (if x.page=r.page then r' else x)=Be x
 by_cases e:x.page=r.page
 ·rw[if_pos e,R.nK hx hr e];unfold Be;rw[e1,e2]
 ·rw[if_neg e]
theorem Rel.inR(R:Rel c m S){r:bN}(hr:r∈S.smalls){i n:Nat}(hi:i<r.places)(hn:n<=ai r.kind):O2 c.pg (r.page*4096+i*ai r.kind) n:=by
 obtain ⟨q,hq,e1,e2⟩:=R.DH hr;have hf:=DO (R.kind r hr) hi;unfold jN at hf;refine ⟨q,hq,by rw[e1];omega,?_,R.yT q hq⟩;rw[e1,e2];omega
theorem Rel.placed(R:Rel c m S){r:bN}(hr:r∈S.smalls)(hf:r.full=false){n:Nat}(hn:n<=ai r.kind):
  bM c.held (jN r r.free)=none/\((S.placed r n).2:Int)=jN r r.free/\∃iE,tu c.pg iE/\∀cn,(∀q∈c.held,q.2.con≠cn)->Rel {c with pg:=iE,held:=dY c.held (jN r r.free) ⟨n,ai r.kind,r.page,cn⟩} (qW m cn []) (S.placed r n).1:=by
 obtain ⟨hh,HW,Zo⟩:=R.ym hr hf
 have ql:bM c.held (jN r r.free)=none:=by
  have:=R.Ge hr HW;have h2:(r.used.any λu=>u.1==r.free)=false:=kj.mpr λu hu z=>Zo u hu (by simpa using z);rw[h2] at this;cases e:bM c.held (jN r r.free) with
  |none=>rfl
  |some b=>rw[e] at this;cases this
 obtain ⟨iE,e,sm,HY⟩:=Br (s:=c.pg) (a:=r.page*4096+r.free*ai r.kind) (n:=n) R.ok (R.inR hr HW hn)
 have eS:S.placed r n=({S.withSmall {r with used:=gu r.used (r.free,n)} with pages:=some iE},r.page*4096+r.free*ai r.kind):=by
  show (({S.withSmall {r with used:=gu r.used (r.free,n)} with pages:=oQ S.pages (r.page*4096+r.free*ai r.kind) n}:bg),_)=_;rw[R.pg,e];rfl
 refine ⟨ql,by rw[eS];rfl,iE,sm,λcn rY=>?_⟩;rw[eS];have T9:=R.EV (r':={r with used:=gu r.used (r.free,n)}) hr rfl rfl;have ip:=qA r.used (r.free,n);have am:=λ(x:BR) (hx:x∈flat S)=>R.yl hr HW Zo hx
 constructor
 ·rfl
 ·exact sm.ok R.ok
 ·intro q hq;obtain ⟨q',oh,_,_,e3⟩:=sm.mem hq;rw[<-e3];exact R.yT q' oh
 ·exact j6 R.lu
 ·show ((dY c.held (jN r r.free) _).map br).Perm _;rw[iU ql,aG];have p1:=uY (key:=jr) (f:=sS) (r':={r with used:=gu r.used (r.free,n)}) R.xP hr
  have p2:(sS {r with used:=gu r.used (r.free,n)}).Perm ((jN r r.free,n,ai r.kind,r.page)::sS r):=by
   unfold sS;exact (ip.map _)
  have p3:((S.smalls.map λy=>if y.page=r.page then {r with used:=gu r.used (r.free,n)} else y).flatMap sS).Perm ((jN r r.free,n,ai r.kind,r.page)::S.smalls.flatMap sS):=by
   have h3:=p1.trans (p2.append_left _);have h4:(S.smalls.flatMap sS++(jN r r.free,n,ai r.kind,r.page)::sS r).Perm (((jN r r.free,n,ai r.kind,r.page)::S.smalls.flatMap sS)++sS r):=mS;exact (Ah _).mp (h3.trans h4)
  show (c.held.map br++[br (jN r r.free,⟨n,ai r.kind,r.page,cn⟩)]).Perm (_++S.greats.map vn);exact ((R.perm.append_right _).trans mO).trans ((p3.symm).append_right _)
 ·exact R.snd
 ·exact R.xC
 ·intro k hk;obtain ⟨l,h1,h2,h3⟩:=R.sat k hk;exact ⟨l,h1,h2,λx=>(h3 x).trans (J7 T9).symm⟩
 ·intro y hy;rcases R.lP hr hy with rfl|⟨hy,_⟩
  ·exact R.kind r hr
  ·exact R.kind y hy
 ·intro y hy;rcases R.lP hr hy with rfl|⟨hy,_⟩
  ·obtain ⟨u1,u2⟩:=R.used r hr;refine ⟨?_,λu hu=>?_⟩
   ·show ((gu r.used (r.free,n)).map (·.1)).Nodup;rw[(ip.map (·.1)).nodup_iff];refine b9.mpr ⟨λz=>?_,u1⟩;obtain ⟨u,hu,e⟩:=aq.mp z;exact Zo u hu e
   ·rcases aP.mp (ip.mem_iff.mp hu) with rfl|hu
    ·exact ⟨HW,hn⟩
    ·exact u2 u hu
  ·exact R.used y hy
 ·exact R.great
 ·show (iE.runs.map rowOf).Perm ((S.smalls.map λy=>if y.page=r.page then {r with used:=gu r.used (r.free,n)} else y).map uX++_);rw[sm.rowOf,OI T9];exact R.runs
 ·intro q hq;rcases iF hq with rfl|⟨hq,_⟩
  ·rw[fD];exact .nil
  ·rw[ic (rY q hq)];exact R.pc q hq
 ·intro q hq i;rcases iF hq with rfl|⟨hq,_⟩
  ·rw[fD,um];show 0=if i<n then _ else 0
   by_cases hi:i<n
   ·rw[if_pos hi];show (0:Int)=((gx iE ((jN r r.free).toNat+i):Nat):Int)
    rw[HY,if_pos (by unfold jN;omega)];rfl
   ·rw[if_neg hi]
  ·rw[ic (rY q hq),R.tW q hq i]
   by_cases hi:i<q.2.size
   ·rw[if_pos hi,if_pos hi];show _=((gx iE (q.1.toNat+i):Nat):Int)
    rw[HY,if_neg λz=>?_];have d:=am _ (R.mem hq);obtain ⟨_,_,_,_,_,s1⟩:=R.inRun (R.mem hq);have s1':q.2.size<=q.2.room:=s1;have n1:=R.nn hq;have d':q.1+(q.2.room:Int)<=jN r r.free\/jN r r.free+(ai r.kind:Int)<=q.1:=d;unfold jN at d';omega
   ·rw[if_neg hi,if_neg hi]
 ·intro q hq i;rcases iF hq with rfl|⟨hq,_⟩
  ·rw[fD,um];decide
  ·rw[ic (rY q hq)];exact R.lo q hq i
theorem vM(s:List Run)(r:Run):(iI s r).Perm (r::s):=ow s r
theorem tK{s t:State}{n a i:Nat}{rs:List Int}{qs:List Ask}(cI:b6 s)(hn:0<n)(h:iT s n rs i=(t,some a,qs)):b6 t/\t.runs.Perm (⟨a,n,4,[]⟩::s.runs):=by
 have h0:=Bw (rs:=rs) (i:=i) cI hn;rw[h] at h0;refine ⟨h0,?_⟩;unfold iT at h;cases e1:s.taken n 1 4 with
 |some x=>
  rw[e1] at h;obtain ⟨_,_,e⟩:=cI.taken hn (t:=x.1) (p:=x.2) e1;cases h;rw[e];exact vM _ _
 |none=>
  rw[e1] at h;dsimp only at h;cases e2:(kW s n rs i).1.taken n 1 4 with
  |some x=>
   rw[e2] at h;obtain ⟨_,_,e⟩:=(w6 (rs:=rs) (i:=i) cI hn).taken hn (t:=x.1) (p:=x.2) e2;cases h;rw[e];show (iI (kW s n rs i).1.runs _).Perm _;rw[(z_ (s:=s) (n:=n) (rs:=rs) (i:=i)).1];exact vM _ _
  |none=>rw[e2] at h;cases h
theorem xr{s t:State}{n i:Nat}{rs:List Int}{qs:List Ask}(cI:b6 s)(hn:0<n)(h:iT s n rs i=(t,none,qs)):b6 t/\t.runs=s.runs:=by
 have h0:=Bw (rs:=rs) (i:=i) cI hn;rw[h] at h0;refine ⟨h0,?_⟩;unfold iT at h;cases e1:s.taken n 1 4 with
 |some x=>rw[e1] at h;cases h
 |none=>
  rw[e1] at h;dsimp only at h;cases e2:(kW s n rs i).1.taken n 1 4 with
  |some x=>rw[e2] at h;cases h
  |none=>
   rw[e2] at h;cases h;exact (z_ (s:=s) (n:=n) (rs:=rs) (i:=i)).1
theorem Ip{s t:State}(h:t.runs=s.runs)(x:Nat):gx t x=gx s x:=by
 unfold gx nu;rw[h]
theorem CD{s t:State}{a n:Nat}(hs:b6 s)(ht:b6 t)(h:t.runs.Perm (⟨a,n,4,[]⟩::s.runs))(x:Nat):gx t x=gx s x:=by
 rw[iC,iC];cases e:s.holding (x:Int) with
 |some q=>
  obtain ⟨hq,h1,h2⟩:=wO e;rw[ht.hold (h.mem_iff.mpr (aB _ hq)) h1 h2]
 |none=>
  cases e2:t.holding (x:Int) with
  |none=>rfl
  |some q=>
   obtain ⟨hq,h1,h2⟩:=wO e2;rcases aP.mp (h.mem_iff.mp hq) with rfl|hq
   ·rfl
   ·rw[hs.hold hq h1 h2] at e;cases e
theorem new_apart{s t:State}{a n:Nat}(ht:b6 t)(h:t.runs.Perm (⟨a,n,4,[]⟩::s.runs)){q:Run}(hq:q∈s.runs):q.first+q.pages<=a\/a+n<=q.first:=by
 have hd:=Gk h.symm ht.dj;have:=(dI.mp hd).1 q hq;exact this.symm
theorem Rel.DP(R:Rel c m S){t:State}{mk:Int->Int}(ht:b6 t)(e:t.runs=c.pg.runs)(Ef:∀g∈S.greats,mk g.page=0):Rel {c with qY:=mk,pg:=t} m {S with pages:=some t}:=
 ⟨rfl,ht,by show ∀r∈t.runs,_;rw[e];exact R.yT,R.lu,R.perm,R.snd,R.xC,R.sat,R.kind,R.used,λg hg=>⟨(R.great g hg).1,Ef g hg,(R.great g hg).2.2⟩,by show (t.runs.map rowOf).Perm _;rw[e];exact R.runs,R.pc,
  λq hq i=>by show _=if i<q.2.size then ((gx t (q.1.toNat+i):Nat):Int) else 0;rw[Ip e];exact R.tW q hq i,R.lo⟩
theorem zG{l:List Int}{x:Int}:x∈lB l↔x∈l:=(iy l _).mem_iff
theorem K9{l:List Int}(h:l.Nodup):(lB l).Pairwise (·<·):=by
 have h2:(lB l).Pairwise (·<=·):=by
  have:=jq (le:=λa b:Int=>decide (a<=b)) (λa b c h1 h2=>by simp only[decide_eq_true_eq] at*;omega) (λa b=>by simp only[gv,decide_eq_true_eq];omega) l;exact this.imp λh=>of_decide_eq_true h
 have h3:(lB l).Nodup:=((iy l _).nodup_iff).mpr h;exact (h2.and h3).imp λ⟨a,b⟩=>by omega
theorem Rel.AN(R:Rel c m S){t:State}{a n:Nat}(ht:b6 t)(h:t.runs.Perm (⟨a,n,4,[]⟩::c.pg.runs))(hn:0<n):(∀r∈S.smalls,r.page≠a)/\∀g∈S.greats,g.page≠a:=by
 have ap:∀q∈c.pg.runs,q.first≠a:=λq hq z=>by
  have h1:=new_apart ht h hq;have h2:=(R.ok.sQ q hq).1;omega
 refine ⟨λr hr z=>?_,λg hg z=>?_⟩
 ·obtain ⟨q,hq,e,_⟩:=R.DH hr;exact ap q hq (e.trans z)
 ·obtain ⟨q,hq,e,_⟩:=R.Ng hg;exact ap q hq (e.trans z)
theorem Rel.KZ(R:Rel c m S){t:State}{a k:Nat}{mk:Int->Int}{l:List Int}(hk:k<40)(hl:bM c.small (ai k:Nat)=some l)(ht:b6 t)(h:t.runs.Perm (⟨a,cg (ai k),4,[]⟩::c.pg.runs))(Ef:∀g∈S.greats,mk g.page=0):
  Rel {c with qY:=mk,pg:=t,small:=dY c.small (ai k:Nat) (lB (l++[(a:Int)]))} m {S with pages:=some t,smalls:=S.smalls++[⟨a,k,[]⟩]}:=by
 have hn:0<cg (ai k):=by
  have:=(kM (Ar hk)).1.2.2.1;unfold rp at this;rw[aU] at this;omega
 obtain ⟨X0,np2⟩:=R.AN ht h hn;constructor
 ·rfl
 ·exact ht
 ·intro q hq;rcases aP.mp (h.mem_iff.mp hq) with rfl|hq
  ·rfl
  ·exact R.yT q hq
 ·exact R.lu
 ·show (c.held.map br).Perm ((S.smalls++[(⟨a,k,[]⟩:bN)]).flatMap sS++S.greats.map vn);rw[iz];have:([⟨a,k,[]⟩]:List bN).flatMap sS=[]:=rfl;rw[this,fR];exact R.perm
 ·exact j6 R.snd
 ·show (dY c.small _ _).length<=40;rw[iD hl,aj];exact R.xC
 ·intro j hj;show ∃l',bM (dY c.small _ _) _=some l'/\_;rw[fW]
  by_cases e:(ai j:Int)=(ai k:Nat)
  ·have ZX:j=k:=Jr hj hk (by omega);subst ZX;rw[if_pos rfl];obtain ⟨l0,h1,h2,h3⟩:=R.sat j hj;rw[hl] at h1;cases h1;refine ⟨_,rfl,K9 ?_,λx=>?_⟩
   ·refine f_.mpr ⟨h2.imp λh e=>by omega,b9.mpr ⟨by simp,gP⟩,λx hx y hy e=>?_⟩;obtain ⟨r,hr,_,ex⟩:=(h3 x).mp hx;have:y=(a:Int):=by simpa using hy
    exact X0 r hr (by omega)
   ·rw[zG,bG,h3 x];constructor
    ·rintro (⟨r,hr,h4,h5⟩|h4)
     ·exact ⟨r,cK _ hr,h4,h5⟩
     ·exact ⟨_,cG _ aJ,rfl,by simpa using h4⟩
    ·rintro ⟨r,hr,h4,h5⟩;rcases bG.mp hr with hr|hr
     ·exact .inl ⟨r,hr,h4,h5⟩
     ·have:r=⟨a,j,[]⟩:=by simpa using hr
      subst this;exact .inr (by simpa using h5)
  ·rw[if_neg e];obtain ⟨l0,h1,h2,h3⟩:=R.sat j hj;refine ⟨l0,h1,h2,λx=>(h3 x).trans ⟨λ⟨r,hr,h4,h5⟩=>⟨r,cK _ hr,h4,h5⟩,λ⟨r,hr,h4,h5⟩=>?_⟩⟩;rcases bG.mp hr with hr|hr
   ·exact ⟨r,hr,h4,h5⟩
   ·have:r=⟨a,k,[]⟩:=by simpa using hr
    subst this;exact absurd (by rw[<-h4]) e
 ·intro r hr;rcases bG.mp hr with hr|hr
  ·exact R.kind r hr
  ·have:r=⟨a,k,[]⟩:=by simpa using hr
   subst this;exact hk
 ·intro r hr;rcases bG.mp hr with hr|hr
  ·exact R.used r hr
  ·have:r=⟨a,k,[]⟩:=by simpa using hr
   subst this;exact ⟨gP,λu hu=>by cases hu⟩
 ·intro g hg;exact ⟨(R.great g hg).1,Ef g hg,(R.great g hg).2.2⟩
 ·show (t.runs.map rowOf).Perm ((S.smalls++[(⟨a,k,[]⟩:bN)]).map uX++S.greats.map vE);refine (h.map rowOf).trans ?_;rw[aG,cD];refine ((R.runs.cons _).trans ?_);exact mS.symm
 ·exact R.pc
 ·intro q hq i;show _=if i<q.2.size then ((gx t (q.1.toNat+i):Nat):Int) else 0
  rw[CD R.ok ht h];exact R.tW q hq i
 ·exact R.lo
theorem Rel.K0(R:Rel c m S){t:State}{a k n:Nat}{mk:Int->Int}(hk:8<k)(hn:n<=k*4096)(ht:b6 t)(h:t.runs.Perm (⟨a,k,4,[]⟩::c.pg.runs))(Ef:∀g∈S.greats,mk g.page=0)(Y7:mk a=0):
  bM c.held ((a:Int)*4096)=none/\∀cn,(∀q∈c.held,q.2.con≠cn)->Rel {c with qY:=mk,pg:=t,held:=dY c.held ((a:Int)*4096) ⟨n,k*4096,a,cn⟩} (qW m cn []) {S with pages:=some t,greats:=S.greats++[⟨a,k,n⟩]}:=by
 have ql:bM c.held ((a:Int)*4096)=none:=by
  cases e:bM c.held ((a:Int)*4096) with
  |none=>rfl
  |some b=>
   exfalso;have hx:=R.mem (eN e);obtain ⟨q,hq,e1,e2,e3,_⟩:=R.inRun hx;have h0:=R.JQ hx;have Rw:((q.first*4096:Nat):Int)<=(a:Int)*4096:=e2;have WC:(a:Int)*4096+(b.room:Int)<=(((q.first+q.pages)*4096:Nat):Int):=e3;have h0':0<b.room:=h0;have:=new_apart ht h hq;omega
 refine ⟨ql,λcn rY=>?_⟩;constructor
 ·rfl
 ·exact ht
 ·intro q hq;rcases aP.mp (h.mem_iff.mp hq) with rfl|hq
  ·rfl
  ·exact R.yT q hq
 ·exact j6 R.lu
 ·show ((dY c.held _ _).map br).Perm (S.smalls.flatMap sS++(S.greats++[_]).map vn);rw[iU ql,aG,aG,<-cD];refine R.perm.append ?_;refine .of_eq ?_;show [br ((a:Int)*4096,_)]=[vn ⟨a,k,n⟩]
  unfold br vn;have:((a:Int)*4096)=((a*4096:Nat):Int):=by omega
  rw[this]
 ·exact R.snd
 ·exact R.xC
 ·exact R.sat
 ·exact R.kind
 ·exact R.used
 ·intro g hg;rcases bG.mp hg with hg|hg
  ·exact ⟨(R.great g hg).1,Ef g hg,(R.great g hg).2.2⟩
  ·have:g=⟨a,k,n⟩:=by simpa using hg
   subst this;exact ⟨hk,Y7,hn⟩
 ·show (t.runs.map rowOf).Perm (S.smalls.map uX++(S.greats++[(⟨a,k,n⟩:dX)]).map vE);refine (h.map rowOf).trans ?_;rw[aG,<-cD];refine ((R.runs.cons _).trans ?_);exact (List.perm_append_singleton _ _).symm
 ·intro q hq;rcases iF hq with rfl|⟨hq,_⟩
  ·rw[fD];exact .nil
  ·rw[ic (rY q hq)];exact R.pc q hq
 ·intro q hq i;rcases iF hq with rfl|⟨hq,_⟩
  ·rw[fD,um];show 0=if i<n then ((gx t (((a:Int)*4096).toNat+i):Nat):Int) else 0
   by_cases hi:i<n
   ·rw[if_pos hi,iC,ht.hold (r:=⟨a,k,4,[]⟩) (h.mem_iff.mpr aJ) (by show a*4096<=_;omega) (by show _<(a+k)*4096;omega)];rfl
   ·rw[if_neg hi]
  ·rw[ic (rY q hq),R.tW q hq i];show _=if i<q.2.size then ((gx t (q.1.toNat+i):Nat):Int) else 0
   rw[CD R.ok ht h]
 ·intro q hq i;rcases iF hq with rfl|⟨hq,_⟩
  ·rw[fD,um];decide
  ·rw[ic (rY q hq)];exact R.lo q hq i
theorem Rel.JK(R:Rel c m S):VG c:=by
 refine ⟨R.snd,cE R.xC (by decide),λz hz=>?_⟩;obtain ⟨k,hk,rfl⟩:=FF hz;obtain ⟨l,h1,h2,h3⟩:=R.sat k hk
 have h4:∀x∈l,0<=x/\x<(16384:Nat):=λx hx=>by
  obtain ⟨r,hr,_,rfl⟩:=(h3 x).mp hx;obtain ⟨q,hq,e1,e2⟩:=R.DH hr;have:=R.ok.sQ q hq;have:=R.ok.size;omega
 have:=uq 16384 l (h2.imp λh e=>by omega) h4;exact ⟨l,h1,by omega,λr hr=>(h4 r hr).1⟩
theorem Rel.NK(R:Rel c m S){t:State}{a n:Nat}(ht:b6 t)(h:t.runs.Perm (⟨a,n,4,[]⟩::c.pg.runs)){x:Int}(h1:(a:Int)*4096<=x)(h2:x<((a+n:Nat):Int)*4096):bM c.held x=none:=by
 cases e:bM c.held x with
 |none=>rfl
 |some b=>
  exfalso;have hx:=R.mem (eN e);obtain ⟨q,hq,e1,e2,e3,_⟩:=R.inRun hx;have h0:0<b.room:=R.JQ hx;have Rw:((q.first*4096:Nat):Int)<=x:=e2;have WC:x+(b.room:Int)<=(((q.first+q.pages)*4096:Nat):Int):=e3;have:=new_apart ht h hq;omega
theorem rpN{k:Nat}:(rp ((ai k:Nat):Int)).toNat=cg (ai k):=by
 unfold rp;rw[aU,aU]
theorem rp1{k:Nat}(hk:k<40):1<=cg (ai k)/\cg (ai k)<=64:=by
 have h:=(kM (Ar hk)).1;have e:rp ((ai k:Nat):Int)=(cg (ai k):Int):=by unfold rp;rw[aU]
 omega
theorem Rel.zB(R:Rel c m S){rs:List Int}{i:Nat}:∀z∈aV,∀a:Nat,(jI c (rp z).toNat 4 rs i).2.1=some a->pY c z a≠[]:=by
 intro z hz a ha;obtain ⟨k,hk,rfl⟩:=FF hz;rw[rpN] at ha;obtain ⟨p1,p2⟩:=rp1 hk;have e:jI c (cg (ai k)) 4 rs i=_:=if_pos (by omega);rw[e] at ha;generalize hT:iT c.pg (cg (ai k)) rs i=T at ha;obtain ⟨t,o,qs⟩:=T;cases ha;obtain ⟨ht,hp⟩:=tK R.ok (by omega) hT;obtain ⟨_,_,f1,f2,f3⟩:=kM (Ar hk);intro z;unfold pY Bd at z;rw[rC] at z;refine z ((a:Int)*4096+((0:Nat):Int)*((ai k:Nat):Int)) (aq.mpr ⟨0,e9.mpr f2,rfl⟩) ?_;rw[R.NK ht hp (by omega) (by have:=(vD hk).1;omega)];rfl
theorem u7{n:Nat}(hn:0<n):jP n=bZ n:=by
 unfold jP bZ a_;omega
theorem Rel.take(R:Rel c m S){n e:Nat}(he:e<=12){rs:List Int}{i:Nat}(f:bg->Option Nat->fL cX):
  (gA c n ((2^e:Nat):Int) rs i).1.held=c.held/\
  ((∃S',(gA c n ((2^e:Nat):Int) rs i).2.1=none/\d_ (qT S n e f) (f S' none) rs i (gA c n ((2^e:Nat):Int) rs i).2.2/\Rel (gA c n ((2^e:Nat):Int) rs i).1 m S')\/
  ∃p z r S' iE,(gA c n ((2^e:Nat):Int) rs i).2.1=some (p,z,r)/\0<=p/\bM c.held p=none/\d_ (qT S n e f) (f S' (some p.toNat)) rs i (gA c n ((2^e:Nat):Int) rs i).2.2/\tu (gA c n ((2^e:Nat):Int) rs i).1.pg iE/\
   ∀cn,(∀q∈c.held,q.2.con≠cn)->Rel {(gA c n ((2^e:Nat):Int) rs i).1 with pg:=iE,held:=dY (gA c n ((2^e:Nat):Int) rs i).1.held p ⟨n,z,r,cn⟩} (qW m cn []) S'):=by
 have hsz:=t7 n (2^e);cases hk:fz (max n 1) (2^e) with
 |some k=>
  rw[hk] at hsz;have zE:=DA hk;have hnk:n<=ai k:=by have:=xD hk;omega
  obtain ⟨l,h1,h2,h3⟩:=R.sat k zE
  have el:gA c n ((2^e:Nat):Int) rs i=vg c (ai k:Nat) l rs i:=by
   unfold gA;rw[hsz];show vg c _ ((bM c.small _).getD []) rs i=_;rw[h1];rfl
  rw[el];have Lh:=R.lowest h2 h3;unfold vg;unfold qT;rw[hk];cases eo:j4 c (ai k:Nat) l with
  |cons x rest=>
   rw[eo] at Lh;obtain ⟨r,hr,rk,rf,rx,low⟩:=Lh;subst rk;obtain ⟨g1,g2,iE,g3,g4⟩:=R.placed hr rf hnk;have hh:=(R.ym hr rf).1;rw[rx];dsimp only;rw[hh];refine ⟨rfl,.inr ⟨_,_,_,(S.placed r n).1,iE,rfl,?_,g1,?_,g3,?_⟩⟩
   ·unfold jN;omega
   ·rw[low];exact .of_eq (by show f _ (some (S.placed r n).2)=_;rw[<-g2,aU])
   ·intro cn rY;have:=g4 cn rY;rw[show ((ai r.kind:Nat):Int).toNat=ai r.kind from aU _,show ((r.page:Nat):Int).toNat=r.page from aU _];exact this
  |nil=>
   rw[eo] at Lh;dsimp only at Lh⊢;obtain ⟨p1,p2⟩:=rp1 zE;rw[rpN];have er:jI c (cg (ai k)) 4 rs i=_:=if_pos (by omega);have pl:=xq (s:=c.pg) (n:=cg (ai k)) (rs:=rs) (i:=i) ⟨p1,by omega⟩;rw[er];generalize hT:iT c.pg (cg (ai k)) rs i=T at pl⊢;obtain ⟨t,o,qs⟩:=T;rw[<-R.pg] at pl;rw[Lh]
   have Qk:=i7 (f:=λt a=>if a.value<0 then f t none else
    f (({t with smalls:=t.smalls++[⟨a.value.toNat,k,[]⟩]}:bg).placed ⟨a.value.toNat,k,[]⟩ n).1 (some (({t with smalls:=t.smalls++[⟨a.value.toNat,k,[]⟩]}:bg).placed ⟨a.value.toNat,k,[]⟩ n).2)) pl
   cases o with
   |none=>
    obtain ⟨ht,IQ⟩:=xr R.ok (by omega) hT;refine ⟨rfl,.inl ⟨{S with pages:=some t},rfl,?_,?_⟩⟩
    ·exact Qk.to (by dsimp only;rw[if_pos (by decide)])
    ·refine R.DP ht IQ λg hg=>?_;show (if (none:Option Nat)=some _/\_ then _ else _)=_;rw[if_neg λq=>nomatch q.1];exact (R.great g hg).2.1
   |some a=>
    obtain ⟨ht,IQ⟩:=tK R.ok (by omega) hT
    have R1:=R.KZ (mk:=λx:Int=>if (some a:Option Nat)=some x.toNat/\0<=x then 4 else c.qY x) zE h1 ht IQ λg hg=>by
     have iG:=(R.AN ht IQ (by omega)).2 g hg;rw[if_neg λq=>iG (by have:=bC q.1;omega)];exact (R.great g hg).2.1
    have kr:(⟨a,k,[]⟩:bN)∈S.smalls++[⟨a,k,[]⟩]:=cG _ aJ
    have U8:(⟨a,k,[]⟩:bN).full=false:=by
     have:=(kM (Ar zE)).2.2.2.1;rw[sE ⟨a,k,[]⟩] at this;unfold uQ;simp only[decide_eq_false_iff_not];show¬_<=0;omega
    obtain ⟨g1,g2,iE,g3,g4⟩:=R1.placed kr U8 hnk;have hh:(pY c (ai k:Nat) a).head?=_:=(R1.ym kr U8).1;refine ⟨rfl,.inr ?_⟩;dsimp only;rw[hh];refine ⟨_,_,_,(({S with pages:=some t,smalls:=S.smalls++[⟨a,k,[]⟩]}:bg).placed ⟨a,k,[]⟩ n).1,iE,rfl,?_,g1,?_,g3,?_⟩
    ·unfold jN;omega
    ·refine Qk.to ?_;dsimp only;rw[if_neg (by show¬((a:Int)<0);omega)];have ea:(d8 (a:Int)).value.toNat=a:=aU a;rw[ea];show f _ (some _)=f _ (some _);rw[<-g2,aU]
    ·intro cn rY;have:=g4 cn rY;rw[show ((ai k:Nat):Int).toNat=ai k from aU _];exact this
 |none=>
  rw[hk] at hsz;have hn:32768<n:=by have:=t8 he hk;omega
  have el:gA c n ((2^e:Nat):Int) rs i=NR c n rs i:=by
   unfold gA;rw[hsz];rfl
  rw[el];unfold NR;have YU:8<bZ n:=by unfold bZ;omega
  have Y5:n<=bZ n*4096:=by unfold bZ;omega
  have et:qT S n e f=lN S (.take (bZ n) 0 4) λt a=>if a.value<0 then f t none else f {t with greats:=t.greats++[⟨a.value.toNat,bZ n,n⟩]} (some (a.value.toNat*4096)):=by
   unfold qT;rw[hk];dsimp only;have:Kg46.pageE e=0:=by unfold Kg46.pageE;omega
   rw[this,u7 (by omega)];rfl
  rw[et]
  by_cases hle:bZ n<=16384
  ·have er:jI c (bZ n) 0 rs i=_:=if_pos hle;have pl:=xq (s:=c.pg) (n:=bZ n) (rs:=rs) (i:=i) ⟨by omega,hle⟩;rw[er];generalize hT:iT c.pg (bZ n) rs i=T at pl⊢;obtain ⟨t,o,qs⟩:=T;rw[<-R.pg] at pl;have Qk:=i7 (f:=λt a=>if a.value<0 then f t none else f {t with greats:=t.greats++[⟨a.value.toNat,bZ n,n⟩]} (some (a.value.toNat*4096))) pl;cases o with
   |none=>
    obtain ⟨ht,IQ⟩:=xr R.ok (by omega) hT;refine ⟨rfl,.inl ⟨{S with pages:=some t},rfl,?_,?_⟩⟩
    ·exact Qk.to (by dsimp only;rw[if_pos (by decide)])
    ·refine R.DP ht IQ λg hg=>?_;show (if (none:Option Nat)=some _/\_ then _ else _)=_;rw[if_neg λq=>nomatch q.1];exact (R.great g hg).2.1
   |some a=>
    obtain ⟨ht,IQ⟩:=tK R.ok (by omega) hT
    obtain ⟨g1,g2⟩:=R.K0 (n:=n) (mk:=λx:Int=>if (some a:Option Nat)=some x.toNat/\0<=x then 0 else c.qY x) YU Y5 ht IQ (λg hg=>by
     have iG:=(R.AN ht IQ (by omega)).2 g hg;rw[if_neg λq=>iG (by have:=bC q.1;omega)];exact (R.great g hg).2.1) (by rw[if_pos ⟨by simp,by omega⟩])
    refine ⟨rfl,.inr ⟨_,_,_,{S with pages:=some t,greats:=S.greats++[⟨a,bZ n,n⟩]},t,rfl,?_,g1,?_,.refl,λcn rY=>g2 cn rY⟩⟩
    ·show (0:Int)<=(a:Int)*4096;omega
    ·refine Qk.to ?_;dsimp only;rw[if_neg (by show¬((a:Int)<0);omega)];have ea:(d8 (a:Int)).value.toNat=a:=aU a;rw[ea];congr 2
  ·have er:jI c (bZ n) 0 rs i=(c,none,[]):=if_neg hle;rw[er]
   have e0:gG S.pages (.take (bZ n) 0 4)=.done (some c.pg) (d8 (-8)):=by
    rw[R.pg]
    have cw:(bO ((bZ n:Nat):Int) 1 16384&&(bO 0 0 10&&bO 4 0 7))=false:=by
     have:bO ((bZ n:Nat):Int) 1 16384=false:=by unfold bO;simp;omega
     rw[this];rfl
    show (if (bO ((bZ n:Nat):Int) 1 16384&&(bO 0 0 10&&bO 4 0 7))=false then _ else _)=_;rw[if_pos cw]
   refine ⟨rfl,.inl ⟨{S with pages:=some c.pg},rfl,?_,?_⟩⟩
   ·have Qk:=i7 (rs:=rs) (i:=i) (f:=λt a=>if a.value<0 then f t none else f {t with greats:=t.greats++[⟨a.value.toNat,bZ n,n⟩]} (some (a.value.toNat*4096))) (.of_eq e0);exact Qk.to (by dsimp only;rw[if_pos (by decide)])
   ·rw[<-R.pg];exact R
end
end Rm
namespace Rm
open Kg45 (State Run Ask)
open Given (Prog)
open PySem (Addr)
theorem j_{α:Type}{key:α->Nat}{a:α}:∀{l:List α},(l.map key).Nodup->a∈l->l.Perm (a::l.filter λx=>key x !=key a)
 |[],_,h=>by cases h
 |b::l,hn,h=>by
  obtain ⟨n1,n2⟩:=b9.mp hn;rw[bU]
  by_cases e:key b=key a
  ·have:b=a:=by
    rcases aP.mp h with h|h
    ·exact h.symm
    ·exact absurd (by rw[e];exact aH h) n1
   subst this;rw[if_neg (by simp)]
   have:l.filter (λx=>key x !=key b)=l:=n_.mpr λx hx=>by
    simp only[bne_iff_ne,ne_eq];intro z;exact n1 (by rw[<-z];exact aH hx)
   rw[this]
  ·rw[if_pos (by simpa using e)];have h':=(aP.mp h).resolve_left λz=>e (by rw[z]);exact ((j_ n2 h').cons b).trans (.swap _ _ _)
theorem yp{α:Type}{m:List (Int×α)}{k:Int}{x:α}(hn:(m.map (·.1)).Nodup)(h:bM m k=some x):m.Perm ((k,x)::jj m k):=by
 induction m with
 |nil=>cases h
 |cons q l ih=>
  obtain ⟨n1,n2⟩:=b9.mp hn;unfold jj;rw[bU]
  by_cases e:q.1=k
  ·rw[jh e] at h;cases h;rw[if_neg (by simpa using e)]
   have:l.filter (λq=>decide (q.1≠k))=l:=n_.mpr λx hx=>by
    simp only[ne_eq,decide_not,pW,decide_eq_false_iff_not];intro z;exact n1 (by show q.1∈_;rw[e,<-z];exact aH (f:=λx:Int×α=>x.1) hx)
   rw[this,<-e]
  ·rw[iS e] at h;rw[if_pos (by simpa using e)];exact ((ih n2 h).cons q).trans (.swap _ _ _)
theorem tL{s:State}{r:Run}(cI:b6 s)(hr:r∈s.runs)(k:Nat)(hk:k<=7):(dJ (some s) (.mark (r.first:Nat) (k:Nat))).1=some (s.with_ {r with mark:=k}):=by
 unfold dJ
 have e:gG (some s) (.mark (r.first:Nat) (k:Nat))=.done (some (s.with_ {r with mark:=k})) (d8 0):=by
  have cw:¬(bO (k:Nat) 0 7=false):=by unfold bO;simp;omega
  show (if bO (k:Nat) 0 7=false then _ else _)=_;rw[if_neg cw,cI.Ax hr];show Prog.done (some (s.with_ {r with mark:=(k:Int).toNat})) _=_;rw[aU]
 rw[e]
theorem EW{s:State}{r:Run}(cI:b6 s)(hr:r∈s.runs)(k:Nat):b6 (s.with_ {r with mark:=k}):=by
 refine cI.wK rfl rfl ?_;show (s.runs.map λx=>if x.first=r.first then {r with mark:=k} else x).map rowOf=_;rw[ay];refine aN λx hx=>?_;show rowOf (if x.first=r.first then _ else x)=_;split
 ·rename_i c;rw[cI.kB hx hr c]
 ·rfl
theorem t6{s:State}{r:Run}(hr:r∈s.runs)(r':Run)(h:r'.first=r.first):r'∈(s.with_ r').runs:=by
 show r'∈s.runs.map λx=>if x.first=r'.first then r' else x
 exact aq.mpr ⟨r,hr,by rw[if_pos h.symm]⟩
theorem GN{s:State}{r r':Run}(h:r'.first=r.first):(s.with_ r').lessRun r'=s.lessRun r:=by
 unfold Kg45.State.lessRun jS;dsimp only;congr 1;rw[h]
 induction s.runs with
 |nil=>rfl
 |cons a l ih=>
  rw[aI,bU,bU]
  by_cases e:a.first=r.first
  ·rw[if_pos e,if_neg (by simp [h]),if_neg (by simp [e])];exact ih
  ·rw[if_neg e,if_pos (by simpa using e),if_pos (by simpa using e),ih]
theorem o5{S:bg}{s:State}{r:Run}(hp:S.pages=some s)(cI:b6 s)(hr:r∈s.runs){f:bg->fL cX}{rs:List Int}{i:Nat}:d_ (Dg S r.first f) (f {S with pages:=some (gM s r).1}) rs i (gM s r).2.2:=by
 unfold Dg
 have e1:(dJ S.pages (.mark (r.first:Nat) 0)).1=some (s.with_ {r with mark:=0}):=by
  rw[hp];exact tL cI hr 0 (by decide)
 rw[e1];have HQ:=EW cI hr 0;have kr:=t6 hr {r with mark:=0} rfl
 have e2:gG (some (s.with_ {r with mark:=0})) (.give (r.first:Nat))=Dh (yV s r) s.spare λt _=>.done (some t) (d8 r.pages):=by
  have:=HQ.Ax kr
  show (match (s.with_ {r with mark:=0}).run (r.first:Nat) with
   |none=>_
   |some r=>_)=_
  rw[this];show (if Ak 0 4=true then _ else _)=_;rw[if_neg (by decide)];have wl:=GN (s:=s) (r:=r) (r':={r with mark:=0}) rfl;dsimp only;rw[wl];rfl
 have p1:d_ (gG (some (s.with_ {r with mark:=0})) (.give (r.first:Nat))) (.done (some (gM s r).1) (d8 r.pages)) rs i (gM s r).2.2:=by
  rw[e2];exact qc _ _ _ _ _
 exact i7 (s:={S with pages:=some (s.with_ {r with mark:=0})}) (f:=λt _=>f t) p1
theorem tR(s:State)(r:Run):(gM s r).1.runs=s.runs.filter λx=>x.first !=r.first:=by
 unfold gM;rw[(mH _ _ _).1];rfl
section
variable{c:HC}{m:Addr->iJ}{S:bg}
theorem Rel.where_(R:Rel c m S){k:Int}{b:lD}(h:bM c.held k=some b):
  (∃r∈S.smalls,∃u∈r.used,k=jN r u.1/\b.size=u.2/\b.room=ai r.kind/\b.run=r.page/\¬32768<b.room)\/
  ∃g∈S.greats,k=((g.page*4096:Nat):Int)/\b.size=g.size/\b.room=g.pages*4096/\b.run=g.page/\32768<b.room:=by
 have hx:=R.mem (eN h);rcases bG.mp hx with h1|h1
 ·obtain ⟨r,hr,hx⟩:=dF.mp h1;obtain ⟨u,hu,e⟩:=aq.mp hx;have e3:b.room=ai r.kind:=(congrArg (·.2.2.1) e).symm;exact .inl ⟨r,hr,u,hu,(congrArg (·.1) e).symm,(congrArg (·.2.1) e).symm,e3,(congrArg (·.2.2.2) e).symm,by have:=(vD (R.kind r hr)).2;omega⟩
 ·obtain ⟨g,hg,e⟩:=aq.mp h1;have e3:b.room=g.pages*4096:=(congrArg (·.2.2.1) e).symm;exact .inr ⟨g,hg,(congrArg (·.1) e).symm,(congrArg (·.2.1) e).symm,e3,(congrArg (·.2.2.2) e).symm,by have:=(R.great g hg).1;omega⟩
theorem Rel.LU(R:Rel c m S){k:Int}{b:lD}(h:bM c.held k=some b):∃r,r∈c.pg.runs/\r.first=b.run/\L8 c b r ((bM c.small b.room).getD [])/\(32768<b.room->b.room=r.pages*4096/\c.qY b.run=0):=by
 rcases R.where_ h with ⟨r,hr,u,hu,e1,e2,e3,e4,e5⟩|⟨g,hg,e1,e2,e3,e4,e5⟩
 ·obtain ⟨q,hq,f1,f2⟩:=R.DH hr;obtain ⟨l,h1,h2,h3⟩:=R.sat r.kind (R.kind r hr);have hv:bM c.small (b.room:Int)=some l:=by rw[e3];exact h1
  refine ⟨q,hq,by rw[e4];exact f1,⟨hq,by rw[e4];exact f1,λ_=>?_⟩,λz=>absurd z e5⟩;rw[hv];obtain ⟨l',g1,g2,g3⟩:=R.JK.at_ _ (Ar (R.kind r hr));rw[h1] at g1;cases g1;exact ⟨by rw[e3];exact Ar (R.kind r hr),rfl,(h3 _).mpr ⟨r,hr,rfl,by rw[e4]⟩,g2⟩
 ·obtain ⟨q,hq,f1,f2⟩:=R.Ng hg;refine ⟨q,hq,by rw[e4];exact f1,⟨hq,by rw[e4];exact f1,λz=>absurd e5 z⟩,λ_=>⟨by rw[e3,f2],by rw[e4];exact (R.great g hg).2.1⟩⟩
theorem zV{s t:State}{r:Run}(hs:b6 s)(ht:b6 t)(e:t.runs=s.runs.filter λx=>x.first !=r.first):(∀x q,q∈s.runs->q.first≠r.first->q.first*4096<=x->x<(q.first+q.pages)*4096->gx t x=gx s x)/\∀x,gx t x=gx s x\/gx t x=0:=by
 constructor
 ·intro x q hq iG h1 h2;rw[iC,iC,hs.hold hq h1 h2,ht.hold (by rw[e];exact bu.mpr ⟨hq,by simpa using iG⟩) h1 h2]
 ·intro x;rw[iC,iC];cases h:t.holding (x:Int) with
  |none=>exact .inr rfl
  |some q=>
   obtain ⟨hq,h1,h2⟩:=wO h;rw[e] at hq;rw[hs.hold (bu.mp hq).1 h1 h2];exact .inl rfl
theorem Rel.Ic(R:Rel c m S){k:Int}{b:lD}(h:bM c.held k=some b){g:dX}(hg:g∈S.greats)(hk:k=((g.page*4096:Nat):Int)){r:Run}(hr:r∈c.pg.runs)(qB:r.first=g.page):
  Rel (gU (kO c k) r) m {S with greats:=S.greats.filter (λx=>x.page !=g.page),pages:=some (gM c.pg r).1}:=by
 have ht:=(yh R.ok hr).1;have er:=tR c.pg r;obtain ⟨b1,b2⟩:=zV (r:=r) R.ok ht er
 have lu:(S.greats.map EL).Nodup:=by
  have:=R.rR;rw[aG,ay,ay] at this;exact (f_.mp this).2.1
 have gp:=j_ (key:=EL) lu hg
 have hx:br (k,b)=vn g:=by
  have hm:=R.mem (eN h);obtain ⟨b',yd,e'⟩:=R.vc (x:=vn g) (cG _ (aH hg));have:(vn g).1=k:=hk.symm;rw[this] at yd e';rw[h] at yd;cases yd;exact e'.symm
 constructor
 ·rfl
 ·exact ht
 ·intro q hq;rw[show (gU (kO c k) r).pg.runs=c.pg.runs.filter λx=>x.first !=r.first from er] at hq;exact R.yT q (bu.mp hq).1
 ·exact rV R.lu
 ·show ((jj c.held k).map br).Perm (S.smalls.flatMap sS++(S.greats.filter λx=>x.page !=g.page).map vn);have p1:=((yp R.lu h).map br).symm.trans R.perm;have p2:(flat S).Perm (vn g::(S.smalls.flatMap sS++(S.greats.filter λx=>x.page !=g.page).map vn)):=((gp.map vn).append_left _).trans mS;have p3:=p1.trans p2;rw[aI,hx] at p3;exact (tD _).mp p3
 ·exact R.snd
 ·exact R.xC
 ·exact R.sat
 ·exact R.kind
 ·exact R.used
 ·intro g' Lm;have:=R.great g' (bu.mp Lm).1;refine ⟨this.1,?_,this.2.2⟩;show (if (g'.page:Int)=(r.first:Int) then 0 else c.qY g'.page)=0;split
  ·rfl
  ·exact this.2.1
 ·show ((gM c.pg r).1.runs.map rowOf).Perm (S.smalls.map uX++(S.greats.filter λx=>x.page !=g.page).map vE);rw[er]
  have N4:(c.pg.runs.map Run.first).Nodup:=by
   have:=R.ok.o6;unfold uP at*;rw[eU] at this⊢;exact this.imp λh e=>h (by rw[e])
  have p0:=j_ (key:=Run.first) N4 hr;have p1:=(p0.map rowOf).symm.trans R.runs;have p2:(S.smalls.map uX++S.greats.map vE).Perm (vE g::(S.smalls.map uX++(S.greats.filter λx=>x.page !=g.page).map vE)):=((gp.map vE).append_left _).trans mS;have p3:=p1.trans p2
  have e0:rowOf r=vE g:=by
   have:vE g∈c.pg.runs.map rowOf:=R.runs.mem_iff.mpr (cG _ (aH hg));obtain ⟨q,hq,e⟩:=aq.mp this;have e1:q.first=g.page:=congrArg (·.1) e;rw[<-e,R.ok.kB hq hr (e1.trans qB.symm)]
  rw[aI,e0] at p3;exact (tD _).mp p3
 ·intro q hq;exact R.pc q (ji.mp hq).1
 ·intro q hq i;obtain ⟨hq,iG⟩:=ji.mp hq;rw[R.tW q hq i];show _=if i<q.2.size then ((gx (gM c.pg r).1 (q.1.toNat+i):Nat):Int) else 0
  by_cases hi:i<q.2.size
  ·rw[if_pos hi,if_pos hi];obtain ⟨q',oh,f1,f2,f3,f4⟩:=R.inRun (R.mem hq);have f2':((q'.first*4096:Nat):Int)<=q.1:=f2;have f3':q.1+(q.2.room:Int)<=(((q'.first+q'.pages)*4096:Nat):Int):=f3;have f4':q.2.size<=q.2.room:=f4
   have Q0:q'.first≠r.first:=λz=>by
    have z':q.2.run=g.page:=by rw[<-qB,<-z];exact f1.symm
    rcases R.where_ (d7 R.lu hq) with ⟨r0,oZ,_,_,_,_,_,e4,_⟩|⟨g0,Sh,e1,_,_,e4,_⟩
    ·exact R.apart oZ hg (e4.symm.trans z')
    ·have:=R.pR Sh hg (e4.symm.trans z');subst this;exact iG (e1.trans hk.symm)
   rw[b1 _ q' oh Q0 (by omega) (by omega)]
  ·rw[if_neg hi,if_neg hi]
 ·intro q hq;exact R.lo q (ji.mp hq).1
theorem Rel.Ih(R:Rel c m S){k:Int}{b:lD}(h:bM c.held k=some b){r:bN}(hr:r∈S.smalls){u:Nat×Nat}(hu:u∈r.used)(hk:k=jN r u.1):
  Rel (kO c k) m (S.withSmall {r with used:=r.used.filter λu=>((r.page*a_+u.1*ai r.kind:Nat)) !=k.toNat}):=by
 have ef:(r.used.filter λu=>((r.page*a_+u.1*ai r.kind:Nat)) !=k.toNat)=r.used.filter λx=>x.1 !=u.1:=by
  refine ki λx hx=>?_;rw[hk];unfold jN;rw[aU];have h0:=(vD (R.kind r hr)).1
  by_cases e:x.1=u.1
  ·rw[e];simp [a_]
  ·have:x.1*ai r.kind≠u.1*ai r.kind:=λz=>e (Nat.eq_of_mul_eq_mul_right h0 z);have e1:(x.1 !=u.1)=true:=by simpa using e
   rw[e1];simp only[bne_iff_ne,ne_eq,a_];omega
 rw[ef];have T9:=R.EV (r':={r with used:=r.used.filter λx=>x.1 !=u.1}) hr rfl rfl;have up:=j_ (key:=λx:Nat×Nat=>x.1) (R.used r hr).1 hu
 have hx:br (k,b)=(jN r u.1,u.2,ai r.kind,r.page):=by
  have hm:=R.mem (eN h);obtain ⟨b',yd,e'⟩:=R.vc (x:=(jN r u.1,u.2,ai r.kind,r.page)) (cK _ (dF.mpr ⟨r,hr,aq.mpr ⟨u,hu,rfl⟩⟩));dsimp only at yd;rw[<-hk,h] at yd;cases yd;rw[e'];dsimp only;rw[<-hk];rfl
 constructor
 ·exact R.pg
 ·exact R.ok
 ·exact R.yT
 ·exact rV R.lu
 ·show ((jj c.held k).map br).Perm ((S.smalls.map λy=>if y.page=r.page then {r with used:=r.used.filter λx=>x.1 !=u.1} else y).flatMap sS++S.greats.map vn);have p1:=((yp R.lu h).map br).symm.trans R.perm;have q1:=uY (key:=jr) (f:=sS) (r':={r with used:=r.used.filter λx=>x.1 !=u.1}) R.xP hr
  have q2:(sS r).Perm ((jN r u.1,u.2,ai r.kind,r.page)::sS {r with used:=r.used.filter λx=>x.1 !=u.1}):=by
   unfold sS;exact (up.map _)
  have q3:(S.smalls.flatMap sS).Perm ((jN r u.1,u.2,ai r.kind,r.page)::(S.smalls.map λy=>if y.page=r.page then {r with used:=r.used.filter λx=>x.1 !=u.1} else y).flatMap sS):=by
   have h3:=q1.symm.trans (q2.append_left _);have h4:=h3.trans mS;exact (Ah _).mp h4
  have p3:=p1.trans (q3.append_right _);rw[aI,hx] at p3;exact (tD _).mp p3
 ·exact R.snd
 ·exact R.xC
 ·intro j hj;obtain ⟨l,h1,h2,h3⟩:=R.sat j hj;exact ⟨l,h1,h2,λx=>(h3 x).trans (J7 T9).symm⟩
 ·intro y hy;rcases R.lP hr hy with rfl|⟨hy,_⟩
  ·exact R.kind r hr
  ·exact R.kind y hy
 ·intro y hy;rcases R.lP hr hy with rfl|⟨hy,_⟩
  ·obtain ⟨u1,u2⟩:=R.used r hr;exact ⟨u1.sublist (dM.map _),λx hx=>u2 x (bu.mp hx).1⟩
  ·exact R.used y hy
 ·exact R.great
 ·show (c.pg.runs.map rowOf).Perm ((S.smalls.map λy=>if y.page=r.page then {r with used:=r.used.filter λx=>x.1 !=u.1} else y).map uX++_);rw[OI T9];exact R.runs
 ·intro q hq;exact R.pc q (ji.mp hq).1
 ·intro q hq i;exact R.tW q (ji.mp hq).1 i
 ·intro q hq;exact R.lo q (ji.mp hq).1
theorem Rel.zM(R:Rel c m S){r0:bN}(oZ:r0∈S.smalls)(hu:r0.used=[]){r:Run}(hr:r∈c.pg.runs)(qB:r.first=r0.page){l:List Int}(hl:bM c.small (ai r0.kind:Nat)=some l):
  Rel (IW c (ai r0.kind:Nat) l r) m {S with smalls:=S.smalls.filter (λx=>x.page !=r0.page),pages:=some (gM c.pg r).1}:=by
 have ht:=(yh R.ok hr).1;have er:=tR c.pg r;obtain ⟨b1,b2⟩:=zV (r:=r) R.ok ht er;have sp:=j_ (key:=jr) R.xP oZ;constructor
 ·rfl
 ·exact ht
 ·intro q hq;rw[show (IW c (ai r0.kind:Nat) l r).pg.runs=c.pg.runs.filter λx=>x.first !=r.first from er] at hq;exact R.yT q (bu.mp hq).1
 ·exact R.lu
 ·show (c.held.map br).Perm ((S.smalls.filter λx=>x.page !=r0.page).flatMap sS++S.greats.map vn);have p2:=(sp.flatMap_right sS)
  rw[dQ] at p2;have:sS r0=[]:=by unfold sS;rw[hu];rfl
  rw[this,lG] at p2;exact R.perm.trans (p2.append_right _)
 ·exact j6 R.snd
 ·show (dY c.small _ _).length<=40;rw[iD hl,aj];exact R.xC
 ·intro j hj;show ∃l',bM (dY c.small _ _) _=some l'/\_;rw[fW];have zE:=R.kind r0 oZ
  by_cases e:(ai j:Int)=(ai r0.kind:Nat)
  ·have ZX:j=r0.kind:=Jr hj zE (by omega);subst ZX;rw[if_pos rfl];obtain ⟨l0,h1,h2,h3⟩:=R.sat r0.kind zE;rw[hl] at h1;cases h1;have Wg:l.Nodup:=h2.imp λh e=>by omega
   refine ⟨_,rfl,h2.sublist List.erase_sublist,λx=>?_⟩;rw[Wg.mem_erase_iff,h3 x];constructor
   ·rintro ⟨iG,q,hq,h4,h5⟩;refine ⟨q,bu.mpr ⟨hq,?_⟩,h4,h5⟩;simp only[bne_iff_ne,ne_eq];intro z;exact iG (by rw[h5,qB,z])
   ·rintro ⟨q,hq,h4,h5⟩;obtain ⟨hq,iG⟩:=bu.mp hq;simp only[bne_iff_ne,ne_eq] at iG;exact ⟨λz=>iG (by omega),q,hq,h4,h5⟩
  ·rw[if_neg e];obtain ⟨l0,h1,h2,h3⟩:=R.sat j hj;refine ⟨l0,h1,h2,λx=>(h3 x).trans ⟨λ⟨q,hq,h4,h5⟩=>⟨q,bu.mpr ⟨hq,?_⟩,h4,h5⟩,λ⟨q,hq,h4,h5⟩=>⟨q,(bu.mp hq).1,h4,h5⟩⟩⟩;simp only[bne_iff_ne,ne_eq];intro z;have:=R.nK hq oZ z;subst this;exact e (by rw[h4])
 ·intro y hy;exact R.kind y (bu.mp hy).1
 ·intro y hy;exact R.used y (bu.mp hy).1
 ·intro g hg;have:=R.great g hg;refine ⟨this.1,?_,this.2.2⟩;show (if (g.page:Int)=(r.first:Int) then 0 else c.qY g.page)=0;split
  ·rfl
  ·exact this.2.1
 ·show ((gM c.pg r).1.runs.map rowOf).Perm ((S.smalls.filter λx=>x.page !=r0.page).map uX++S.greats.map vE);rw[er]
  have N4:(c.pg.runs.map Run.first).Nodup:=by
   have:=R.ok.o6;unfold uP at*;rw[eU] at this⊢;exact this.imp λh e=>h (by rw[e])
  have p0:=j_ (key:=Run.first) N4 hr;have p1:=(p0.map rowOf).symm.trans R.runs;have p2:(S.smalls.map uX++S.greats.map vE).Perm (uX r0::((S.smalls.filter λx=>x.page !=r0.page).map uX++S.greats.map vE)):=(sp.map uX).append_right _;have p3:=p1.trans p2
  have e0:rowOf r=uX r0:=by
   have:uX r0∈c.pg.runs.map rowOf:=R.runs.mem_iff.mpr (cK _ (aH oZ));obtain ⟨q,hq,e⟩:=aq.mp this;have e1:q.first=r0.page:=congrArg (·.1) e;rw[<-e,R.ok.kB hq hr (e1.trans qB.symm)]
  rw[aI,e0] at p3;exact (tD _).mp p3
 ·exact R.pc
 ·intro q hq i;rw[R.tW q hq i];show _=if i<q.2.size then ((gx (gM c.pg r).1 (q.1.toNat+i):Nat):Int) else 0
  by_cases hi:i<q.2.size
  ·rw[if_pos hi,if_pos hi];obtain ⟨q',oh,f1,f2,f3,f4⟩:=R.inRun (R.mem hq);have f2':((q'.first*4096:Nat):Int)<=q.1:=f2;have f3':q.1+(q.2.room:Int)<=(((q'.first+q'.pages)*4096:Nat):Int):=f3;have f4':q.2.size<=q.2.room:=f4
   have Q0:q'.first≠r.first:=λz=>by
    obtain ⟨u,YA,_⟩:=R.KS (R.mem hq) oZ (by rw[<-qB,<-z];exact f1.symm);rw[hu] at YA;cases YA
   rw[b1 _ q' oh Q0 (by omega) (by omega)]
  ·rw[if_neg hi,if_neg hi]
 ·exact R.lo
end
end Rm
namespace Rm
open Kg45 (State Run Ask)
open Given (Prog)
open PySem (Addr)
theorem O9{L:List Int}{a:Int}(hn:L.Nodup)(ha:a∈L):1<L.length↔∃b∈L,b≠a:=by
 cases L with
 |nil=>cases ha
 |cons x L=>
  cases L with
  |nil=>
   have:a=x:=by simpa using ha
   subst this;simp
  |cons y L=>
   obtain ⟨n1,_⟩:=b9.mp hn;simp only[bL];refine ⟨λ_=>?_,λ_=>by omega⟩
   by_cases e:x=a
   ·exact ⟨y,by simp,λz=>n1 (by rw[e,<-z];simp)⟩
   ·exact ⟨x,by simp,e⟩
section
variable{c:HC}{m:Addr->iJ}{S:bg}
theorem Rel.sG(R:Rel c m S){k:Int}{b:lD}(h:bM c.held k=some b){g:dX}(hg:g∈S.greats)(hk:k=((g.page*4096:Nat):Int)):32768<b.room/\b.size=g.size/\b.room=g.pages*4096/\b.run=g.page:=by
 obtain ⟨b',yd,e'⟩:=R.vc (x:=vn g) (cG _ (aH hg));have Ls:bM c.held ((g.page*4096:Nat):Int)=some b':=yd;rw[<-hk,h] at Ls;cases Ls;have e1:g.size=b.size:=congrArg (·.2.1) e';have e2:g.pages*4096=b.room:=congrArg (·.2.2.1) e';have e3:g.page=b.run:=congrArg (·.2.2.2) e';exact ⟨by have:=(R.great g hg).1;omega,e1.symm,e2.symm,e3.symm⟩
theorem Rel.isSmall(R:Rel c m S){k:Int}{b:lD}(h:bM c.held k=some b){r:bN}(hr:r∈S.smalls){u:Nat×Nat}(hu:u∈r.used)(hk:k=jN r u.1):b.run=r.page:=by
 obtain ⟨b',yd,e'⟩:=R.vc (x:=(jN r u.1,u.2,ai r.kind,r.page)) (cK _ (dF.mpr ⟨r,hr,aq.mpr ⟨u,hu,rfl⟩⟩));dsimp only at yd;rw[<-hk,h] at yd;cases yd;exact (congrArg (·.2.2.2) e').symm
theorem Rel.give(R:Rel c m S){k:Int}{b:lD}(h:bM c.held k=some b){r:Run}(hr:r∈c.pg.runs)(qB:r.first=b.run)(f:bg->fL cX){rs:List Int}{i:Nat}:
  ∃S',d_ (qU S k.toNat f) (f S') rs i (jm c k b r ((bM c.small b.room).getD [])).2/\Rel (jm c k b r ((bM c.small b.room).getD [])).1 m S':=by
 have k0:0<=k:=R.nn (eN h);rcases R.where_ h with ⟨r0,oZ,u,hu,e1,e2,e3,e4,e5⟩|⟨g,hg,e1,e2,e3,e4,e5⟩
 ·have UU:S.greats.find? (λg=>g.page*a_==k.toNat)=none:=by
   rw[dW];intro g hg z;have z':g.page*4096=k.toNat:=by simpa [a_] using z
   exact e5 (R.sG h hg (by omega)).1
  have Zq:S.smalls.find? (λr=>r.blocks.any λb=>b.place==k.toNat)=some r0:=by
   cases e:S.smalls.find? (λr=>r.blocks.any λb=>b.place==k.toNat) with
   |none=>
    exfalso;have:=dW.mp e r0 oZ;refine this (dG.mpr ⟨_,aq.mpr ⟨u,hu,rfl⟩,?_⟩);show (r0.page*a_+u.1*ai r0.kind==k.toNat)=true;rw[e1];unfold jN;rw[aU];exact beq_self_eq_true _
   |some r1=>
    have kr:=bE e;obtain ⟨bb,Lr,z⟩:=dG.mp (di (p:=λr:bN=>r.blocks.any λb=>b.place==k.toNat) e);obtain ⟨u1,hu1,rfl⟩:=aq.mp Lr;have z':r1.page*4096+u1.1*ai r1.kind=k.toNat:=by simpa [a_] using z
    have:=R.isSmall h kr hu1 (by unfold jN;omega);rw[R.nK kr oZ (this.symm.trans e4)]
  obtain ⟨q,hq⟩:∃q:bN,q={r0 with used:=r0.used.filter λu=>((r0.page*a_+u.1*ai r0.kind:Nat)) !=k.toNat}:=⟨_,rfl⟩
  have R1:Rel (kO c k) m (S.withSmall q):=by rw[hq];exact R.Ih h oZ hu e1
  obtain ⟨l,h1,h2,h3⟩:=R.sat r0.kind (R.kind r0 oZ);have hl:bM c.small (b.room:Int)=some l:=by rw[e3];exact h1
  rw[hl];show ∃S',d_ _ _ rs i (jm c k b r l).2/\Rel (jm c k b r l).1 m S'
  have eg:qU S k.toNat f=if q.used=[]/\((S.withSmall q).smalls.any λx=>x.kind==q.kind&&(x.page !=q.page&& !x.full))=true then Dg {S.withSmall q with smalls:=(S.withSmall q).smalls.filter λx=>x.page !=q.page} q.page f else f (S.withSmall q):=by
   unfold qU;rw[UU];dsimp only;rw[Zq,hq]
  rw[eg];have qp:q.page=r0.page:=by rw[hq]
  have qk:q.kind=r0.kind:=by rw[hq]
  have Bf:q∈(S.withSmall q).smalls:=by
   show q∈S.smalls.map λx=>if x.page=q.page then q else x
   exact aq.mpr ⟨r0,oZ,by rw[if_pos qp.symm]⟩
  have eE:gw (kO c k) b.room b.run=decide (q.used=[]):=by
   have:=R1.sJ Bf;rw[qk,qp] at this;rw[e3,e4];exact this
  have YJ:=R1.sat r0.kind (R.kind r0 oZ);obtain ⟨l',g1,g2,g3⟩:=YJ;have:bM (kO c k).small (ai r0.kind:Nat)=some l:=h1;rw[this] at g1;cases g1
  have eO:q.used=[]->(decide (1<(j4 (kO c k) b.room l).length)=((S.withSmall q).smalls.any λx=>x.kind==q.kind&&(x.page !=q.page&& !x.full))):=λIM=>by
   have om:=R1.BV g3
   have T6:q.full=false:=by
    have:=(kM (Ar (R.kind r0 oZ))).2.2.2.1;rw[<-qk,sE q] at this;unfold uQ;rw[IM];simp only[decide_eq_false_iff_not,yJ];omega
   have hqo:(q.page:Int)∈j4 (kO c k) (ai r0.kind:Nat) l:=(om _).mpr ⟨q,bu.mpr ⟨Bf,by rw[qk,T6];simp⟩,rfl⟩;have lu:(j4 (kO c k) (ai r0.kind:Nat) l).Nodup:=(g2.sublist dM).imp λh e=>by omega
   have t2:=O9 lu hqo;rw[e3];refine lH.mpr ?_;rw[decide_eq_true_eq,t2,dG];constructor
   ·rintro ⟨x,hx,iG⟩;obtain ⟨y,hy,rfl⟩:=(om x).mp hx;obtain ⟨hy,Ce⟩:=bu.mp hy;simp only[aC,beq_iff_eq] at Ce;refine ⟨y,hy,?_⟩;simp only[aC,beq_iff_eq,bne_iff_ne,ne_eq];exact ⟨Ce.1.trans qk.symm,λz=>iG (by rw[z]),Ce.2⟩
   ·rintro ⟨y,hy,Ce⟩;simp only[aC,beq_iff_eq,bne_iff_ne,ne_eq] at Ce;refine ⟨y.page,(om _).mpr ⟨y,bu.mpr ⟨hy,by rw[Ce.2.2,Ce.1,qk];simp⟩,rfl⟩,λz=>Ce.2.1 (by omega)⟩
  by_cases IM:q.used=[]
  ·have eO':=eO IM;cases ha:(S.withSmall q).smalls.any λx=>x.kind==q.kind&&(x.page !=q.page&& !x.full) with
   |true=>
    rw[if_pos ⟨IM,rfl⟩]
    have ed:jm c k b r l=(IW (kO c k) b.room l r,(gM c.pg r).2.2):=by
     unfold jm;rw[if_neg e5,if_pos (by rw[eE,eO',ha,decide_eq_true IM];rfl)]
    rw[ed];have hrq:r.first=q.page:=by rw[qB,e4,qp]
    have R2:=R1.zM Bf IM (r:=r) hr hrq (l:=l) (by rw[qk];exact h1);rw[qk,<-e3] at R2;refine ⟨_,?_,R2⟩;have:=o5 (S:={S.withSmall q with smalls:=(S.withSmall q).smalls.filter λx=>x.page !=q.page}) (s:=c.pg) (r:=r) R.pg R.ok hr (f:=f) (rs:=rs) (i:=i);rw[hrq] at this;exact this
   |false=>
    rw[if_neg λz=>nomatch z.2]
    have ed:jm c k b r l=(kO c k,[]):=by
     unfold jm;rw[if_neg e5,if_neg (by rw[eE,eO',ha];simp)]
    rw[ed];exact ⟨_,.refl,R1⟩
  ·rw[if_neg λz=>IM z.1]
   have ed:jm c k b r l=(kO c k,[]):=by
    unfold jm;rw[if_neg e5,if_neg (by rw[eE,decide_eq_false IM];simp)]
   rw[ed];exact ⟨_,.refl,R1⟩
 ·have hfg:S.greats.find? (λg=>g.page*a_==k.toNat)=some g:=by
   cases e:S.greats.find? (λg=>g.page*a_==k.toNat) with
   |none=>
    have:=dW.mp e g hg;rw[e1,aU] at this;simp [a_] at this
   |some g'=>
    have Lm:=bE e;have z:g'.page*4096=k.toNat:=by simpa [a_] using di e
    rw[R.pR Lm hg (by omega)]
  have ed:∀l,jm c k b r l=(gU (kO c k) r,(gM c.pg r).2.2):=λl=>if_pos e5;rw[ed];unfold qU;rw[hfg];dsimp only;have hrg:r.first=g.page:=qB.trans e4;refine ⟨_,?_,R.Ic h hg e1 hr hrg⟩;have:=o5 (S:={S with greats:=S.greats.filter λx=>x.page !=g.page}) (s:=c.pg) (r:=r) R.pg R.ok hr (f:=f) (rs:=rs) (i:=i);rw[hrg] at this;exact this
end
theorem nI:∀(l:List (Nat×Nat)) (r:Nat×Nat),aK (bP l r)=aK l+r.2
 |[],r=>by simp [bP,aK]
 |x::l,r=>by
  unfold bP;have c1:∀(a:Nat×Nat) (l:List (Nat×Nat)),aK (a::l)=a.2+aK l:=λa l=>by unfold aK;rw[aI,fG]
  split
  ·rw[c1,c1];omega
  ·split
   ·rw[c1,c1];dsimp only;omega
   ·split
    ·rw[nI l,c1];dsimp only;omega
    ·rw[c1,nI l,c1];omega
theorem rJ{k:Nat}:∀(g:Nat) (s:State) (n:Nat),b6 s->(fS k g s n).2.2.length+aK (fS k g s n).1.free<=aK s.free
 |0,s,n,h=>by simp [fS]
 |g+1,s,n,h=>by
  unfold fS;cases e:s.free.getLast? with
  |none=>simp
  |some x=>
   dsimp only
   by_cases c:aK s.free-k=0
   ·rw[if_pos c];simp
   ·rw[if_neg c];have hx0:=(h.vm (wM e)).1;have h0:0<min (aK s.free-k) x.2:=by omega
    have st:=(zd h e rfl h0).1;have ih:=rJ (k:=k) g {s with free:=bw s.free (x.1+x.2-min (aK s.free-k) x.2) (min (aK s.free-k) x.2),went:=s.went+min (aK s.free-k) x.2} (n+min (aK s.free-k) x.2) (h.Jo e (by omega) h0);dsimp only at ih⊢;rw[bL];omega
theorem Cp{s:State}{r:Run}(h:b6 s)(hr:r∈s.runs):(gM s r).2.2.length+(gM s r).1.pages<=s.pages:=by
 have h1:=rJ (k:=s.spare) ((yV s r).free.length+1) (yV s r) 0 (h.give hr);have e1:aK (yV s r).free=aK s.free+r.pages:=nI _ _
 have N4:(s.runs.map Run.first).Nodup:=by
  have:=h.o6;unfold uP at*;rw[eU] at this⊢;exact this.imp λh e=>h (by rw[e])
 have p0:=((j_ (key:=Run.first) N4 hr).map Run.pages).sum_nat;rw[aI,fG] at p0;unfold Di;rw[tR];have Co:(gM s r).2.2.length+aK (gM s r).1.free<=aK (yV s r).free:=h1;omega
theorem zT:∀{l:List (Nat×Nat)} {N lo:Nat},mP (cV l)->(∀x∈l,lo<=x.1/\x.1+x.2<=N)->lo<=N->lo+aK l<=N
 |[],N,lo,_,_,h=>by simpa [aK] using h
 |a::l,N,lo,hc,hb,h=>by
  have p:=dI.mp hc.pw;have ha:=hb a aJ;have iG:=hc.ne (gQ a) aJ;simp only[gQ] at iG;have c1:aK (a::l)=a.2+aK l:=by unfold aK;rw[aI,fG]
  have ih:=zT (l:=l) (N:=N) (lo:=a.1+a.2) ⟨p.2,λr hr=>hc.ne r (aB _ hr)⟩ (λx hx=>?_) ha.2
  ·omega
  ·have h1:=p.1 (gQ x) (aH hx);simp only[gQ] at h1;exact ⟨by omega,(hb x (aB _ hx)).2⟩
theorem xG:∀(rs:List Run) (l:List (Nat×Nat)),aK (rs.foldl (λl r=>bP l (r.first,r.pages)) l)=aK l+(rs.map Run.pages).sum
 |[],l=>by simp
 |r::rs,l=>by
  rw[nP,xG rs,nI,aI,fG];dsimp only;omega
theorem b6.Fv{s:State}(h:b6 s):s.pages<=16384:=by
 have e:aK s.rows=s.pages:=xG s.runs s.free;obtain ⟨hc,hm⟩:=h.rows;have:=zT (l:=s.rows) (N:=s.size) (lo:=0) hc (λx hx=>⟨bH _,?_⟩) (bH _)
 ·have:=h.size;omega
 ·have iG:=hc.ne (gQ x) (aH hx);simp only[gQ] at iG;have hx1:Mem (cV s.rows) ((x.1+x.2:Nat)-1:Int):=mG hx (by omega) (by omega);rcases (hm _).mp hx1 with z|⟨r,hr,z1,z2⟩
  ·have:=h.fin _ z;omega
  ·obtain ⟨q,hq,rfl⟩:=aq.mp hr;obtain ⟨r0,oZ,rfl⟩:=aq.mp hq;have:=(h.sQ r0 oZ).2;simp only[gQ,Rm.rowOf] at z2;omega
end Rm
namespace Rm
open Kg45 (State Run Ask)
open Given (Prog)
open PySem (Addr)
theorem Nq{p:iJ}(h:kD p){x:Int}(hx:x<0):jD p x=0:=by
 unfold jD;cases e:bM p (x/4096) with
 |none=>rfl
 |some q=>have:=(h.ok _ (eN e)).1;exfalso;dsimp only at this;omega
theorem Ft{p:iJ}(h:kD p){x:Int}(hx:1073741824<=x):jD p x=0:=by
 unfold jD;cases e:bM p (x/4096) with
 |none=>rfl
 |some q=>have:=(h.ok _ (eN e)).2.1;exfalso;dsimp only at this;omega
section
variable{c:HC}{m:Addr->iJ}{S:bg}
def JO(k:Int)(n z:Nat):BR->BR:=λx=>if x.1=k then (x.1,n,z,x.2.2.2) else x
theorem Qi(lu:(c.held.map (·.1)).Nodup){k:Int}{b:lD}(h:bM c.held k=some b){n z:Nat}{cn:Addr}:(dY c.held k ⟨n,z,b.run,cn⟩).map br=(c.held.map br).map (JO k n z):=by
 rw[iD h,ay,ay];refine aN λq hq=>?_;show br (if q.1=k then (q.1,_) else q)=JO k n z (br q);unfold JO
 by_cases e:q.1=k
 ·rw[if_pos e,if_pos (show (br q).1=k from e)]
  have:q.2=b:=by
   have:=d7 lu hq;rw[e,h] at this;exact (bC this).symm
  unfold br;rw[this]
 ·rw[if_neg e,if_neg (show¬(br q).1=k from e)]
theorem Rel.TR(R:Rel c m S){k:Int}{b:lD}(h:bM c.held k=some b){S':bg}{iE:State}{n z:Nat}{p':iJ}
  (e1:S'.pages=some iE) (cI:b6 iE) (hm4:∀r∈iE.runs,r.mark=4) (U7:flat S'=(flat S).map (JO k n z)) (Mi:S'.smalls.map Be=S.smalls.map Be)
  (hus:∀y∈S'.smalls,(y.used.map (·.1)).Nodup/\∀u∈y.used,u.1<y.places/\u.2<=ai y.kind) (IU:∀g∈S'.greats,8<g.pages/\c.qY g.page=0/\g.size<=g.pages*4096)
  (IQ:(iE.runs.map rowOf).Perm (S'.smalls.map uX++S'.greats.map vE)) (AZ:kD p') (yE:jD p'=bl (jD (m b.con)) n 1073741824) (uv:∀q∈c.held,q.1≠k->q.2.con≠b.con)
  (ZG:∀q∈c.held,q.1≠k->∀i:Nat,i<q.2.size->gx iE (q.1.toNat+i)=gx c.pg (q.1.toNat+i)) (ZF:∀i:Nat,i<n->gx iE (k.toNat+i)=if i<b.size then gx c.pg (k.toNat+i) else 0):
  Rel {c with pg:=iE,held:=dY c.held k ⟨n,z,b.run,b.con⟩} (qW m b.con p') S':=by
 have hb:=eN h;constructor
 ·exact e1
 ·exact cI
 ·exact hm4
 ·exact j6 R.lu
 ·show ((dY c.held k ⟨n,z,b.run,b.con⟩).map br).Perm (flat S');rw[Qi R.lu h,U7];exact R.perm.map _
 ·exact R.snd
 ·exact R.xC
 ·intro j hj;obtain ⟨l,h1,h2,h3⟩:=R.sat j hj;exact ⟨l,h1,h2,λx=>(h3 x).trans (J7 Mi).symm⟩
 ·intro y hy;have:Be y∈S.smalls.map Be:=by rw[<-Mi];exact aH hy
  obtain ⟨r,hr,e⟩:=aq.mp this;have e2:r.kind=y.kind:=congrArg (·.2) e;rw[<-e2];exact R.kind r hr
 ·exact hus
 ·exact IU
 ·exact IQ
 ·intro q hq;rcases iF hq with rfl|⟨hq,iG⟩
  ·rw[fD];exact AZ
  ·rw[ic (uv q hq iG)];exact R.pc q hq
 ·intro q hq i;rcases iF hq with rfl|⟨hq,iG⟩
  ·rw[fD,yE];show bl _ _ _ _=if i<n then ((gx iE (k.toNat+i):Nat):Int) else 0
   unfold bl;have Lr:=R.tW _ hb i;have ZH:jD (m b.con) i=if i<b.size then ((gx c.pg (k.toNat+i):Nat):Int) else 0:=Lr
   by_cases hi:i<n
   ·rw[if_neg (by omega),if_pos hi,ZH,ZF i hi];split<;>rfl
   ·rw[if_neg hi]
    by_cases IT:(i:Int)<1073741824
    ·rw[if_pos ⟨by omega,IT⟩]
    ·rw[if_neg (by omega)];exact Ft (R.pc _ hb) (by omega)
  ·rw[ic (uv q hq iG),R.tW q hq i];show _=if i<q.2.size then ((gx iE (q.1.toNat+i):Nat):Int) else 0
   by_cases hi:i<q.2.size
   ·rw[if_pos hi,if_pos hi,ZG q hq iG i hi]
   ·rw[if_neg hi,if_neg hi]
 ·intro q hq i;rcases iF hq with rfl|⟨hq,iG⟩
  ·rw[fD,yE];unfold bl;split
   ·decide
   ·exact R.lo _ hb i
  ·rw[ic (uv q hq iG)];exact R.lo q hq i
theorem Rel.fits(R:Rel c m S){k:Int}{b:lD}(h:bM c.held k=some b):0<=k/\b.size<=b.room/\k+b.room<=67108864/\∃r∈c.pg.runs,r.first=b.run/\r.mark=4/\r.first*4096<=k.toNat/\k.toNat+b.room<=(r.first+r.pages)*4096:=by
 obtain ⟨q,hq,e1,e2,e3,e4⟩:=R.inRun (R.mem (eN h));have Rw:((q.first*4096:Nat):Int)<=k:=e2;have WC:k+(b.room:Int)<=(((q.first+q.pages)*4096:Nat):Int):=e3;have:=(R.ok.sQ q hq).2;have:=R.ok.size;exact ⟨by omega,e4,by omega,q,hq,e1,R.yT q hq,by omega,by omega⟩
theorem yf{t:State}{a o n:Nat}(cI:b6 t)(qm:o<n->O2 t (a+o) (n-o)):∃iE,(if o<n then oQ (some t) (a+o) (n-o) else some t)=some iE/\tu t iE/\∀x,gx iE x=if a+o<=x/\x<a+n then 0 else gx t x:=by
 by_cases c:o<n
 ·rw[if_pos c];obtain ⟨s',e,sm,h⟩:=Br cI (qm c);refine ⟨s',e,sm,λx=>?_⟩;rw[h]
  by_cases c2:a+o<=x/\x<a+n
  ·rw[if_pos c2,if_pos ⟨c2.1,by omega⟩]
  ·rw[if_neg c2,if_neg (by omega)]
 ·rw[if_neg c];exact ⟨t,rfl,.refl,λx=>by rw[if_neg (by omega)]⟩
theorem tu.yT{s t:State}(h:tu s t)(hm:∀r∈s.runs,r.mark=4):∀r∈t.runs,r.mark=4:=λr hr=>by
 obtain ⟨q,hq,_,_,e⟩:=h.mem hr;rw[<-e];exact hm q hq
theorem Ay{k:Int}{n z:Nat}{x:BR}(h:x.1≠k):JO k n z x=x:=if_neg h
theorem pS{α β:Type}{f g:α->List β}:∀{l:List α},(∀x∈l,f x=g x)->l.flatMap f=l.flatMap g
 |[],_=>rfl
 |a::l,h=>by rw[dQ,dQ,h a aJ,pS λx hx=>h x (aB _ hx)]
theorem Rel.x_(R:Rel c m S){k:Int}{b:lD}(h:bM c.held k=some b){r:bN}(hr:r∈S.smalls){u:Nat×Nat}(hu:u∈r.used)(hk:jN r u.1=k):b.size=u.2/\b.room=ai r.kind/\b.run=r.page:=by
 obtain ⟨b',yd,e'⟩:=R.vc (x:=(jN r u.1,u.2,ai r.kind,r.page)) (cK _ (dF.mpr ⟨r,hr,aq.mpr ⟨u,hu,rfl⟩⟩));dsimp only at yd;rw[hk,h] at yd;cases yd;exact ⟨(congrArg (·.2.1) e').symm,(congrArg (·.2.2.1) e').symm,(congrArg (·.2.2.2) e').symm⟩
theorem Rel.other(R:Rel c m S){k:Int}{b:lD}(h:bM c.held k=some b){q:Int×lD}(hq:q∈c.held)(iG:q.1≠k){i:Nat}(hi:i<q.2.size):q.1.toNat+i<k.toNat\/k.toNat+b.room<=q.1.toNat+i:=by
 have d:=R.dj (R.mem hq) (R.mem (eN h)) iG;have d':q.1+(q.2.room:Int)<=k\/k+(b.room:Int)<=q.1:=d;obtain ⟨k0,_⟩:=R.fits h;obtain ⟨q0,hs,_⟩:=R.fits (d7 R.lu hq);omega
theorem Rel.sized(R:Rel c m S){k:Int}{b:lD}(h:bM c.held k=some b){n:Nat}(hn:n<=b.room)(uv:∀q∈c.held,q.1≠k->q.2.con≠b.con):
  ∃iE,tu c.pg iE/\∀p',kD p'->jD p'=bl (jD (m b.con)) n 1073741824->Rel {c with pg:=iE,held:=dY c.held k ⟨n,b.room,b.run,b.con⟩} (qW m b.con p') (S.sized ⟨k.toNat,b.size,b.room⟩ n):=by
 obtain ⟨k0,YF,_,r,hr,qB,hm,kr,AY⟩:=R.fits h;obtain ⟨iE,e,sm,HY⟩:=yf (t:=c.pg) (a:=k.toNat) (o:=b.size) (n:=n) R.ok (λpX=>⟨r,hr,by omega,by omega,hm⟩)
 have eS:S.sized ⟨k.toNat,b.size,b.room⟩ n={S.with_ k.toNat n with pages:=some iE}:=by
  show ({S.with_ k.toNat n with pages:=if b.size<n then oQ S.pages (k.toNat+b.size) (n-b.size) else S.pages}:bg)=_;rw[R.pg,e]
 refine ⟨iE,sm,λp' AZ yE=>?_⟩;rw[eS]
 have pl:∀(y:bN) (u:Nat×Nat),(y.page*a_+u.1*ai y.kind=k.toNat)↔jN y u.1=k:=λy u=>by
  unfold jN;show y.page*4096+_=_↔_;omega
 have gl:∀g:dX,(g.page*a_=k.toNat)↔((g.page*4096:Nat):Int)=k:=λg=>by
  show g.page*4096=_↔_;omega
 refine R.TR h (S':={S.with_ k.toNat n with pages:=some iE}) (iE:=iE) rfl (sm.ok R.ok) (sm.yT R.yT) ?_ ?_ ?_ ?_ ?_ AZ yE uv ?_ ?_
 ·show (S.smalls.map _).flatMap sS++(S.greats.map _).map vn=(S.smalls.flatMap sS++S.greats.map vn).map _;rw[aG,xh,qQ,ay,ay];congr 1
  ·refine pS λy hy=>?_;show (y.used.map _).map _=(y.used.map _).map _;rw[ay,ay];refine aN λu hu=>?_;show (λu:Nat×Nat=>((jN y u.1,u.2,ai y.kind,y.page):BR)) (if y.page*a_+u.1*ai y.kind=k.toNat then (u.1,n) else u)=JO k n b.room (jN y u.1,u.2,ai y.kind,y.page)
   by_cases e:jN y u.1=k
   ·rw[if_pos ((pl y u).mpr e)];unfold JO;rw[if_pos e,(R.x_ h hy hu e).2.1]
   ·rw[if_neg λz=>e ((pl y u).mp z),Ay e]
  ·refine aN λg hg=>?_;show vn (if g.page*a_=k.toNat then {g with size:=n} else g)=JO k n b.room (vn g)
   by_cases e:((g.page*4096:Nat):Int)=k
   ·rw[if_pos ((gl g).mpr e)];unfold JO;rw[if_pos (show (vn g).1=k from e),(R.sG h hg e.symm).2.2.1];rfl
   ·rw[if_neg λz=>e ((gl g).mp z),Ay (show (vn g).1≠k from e)]
 ·show (S.smalls.map _).map Be=_;rw[ay];rfl
 ·intro y hy;obtain ⟨y0,Uw,rfl⟩:=aq.mp hy;obtain ⟨u1,u2⟩:=R.used y0 Uw;refine ⟨?_,λu hu=>?_⟩
  ·show ((y0.used.map λu=>if y0.page*a_+u.1*ai y0.kind=k.toNat then (u.1,n) else u).map λx:Nat×Nat=>x.1).Nodup
   have:(y0.used.map λu=>if y0.page*a_+u.1*ai y0.kind=k.toNat then (u.1,n) else u).map (·.1)=y0.used.map (·.1):=by
    rw[ay];refine aN λu hu=>?_;show (if _ then (u.1,n) else u).1=u.1;split<;>rfl
   rw[this];exact u1
  ·obtain ⟨u0,IM,rfl⟩:=aq.mp hu;dsimp only;split
   ·rename_i e;refine ⟨(u2 u0 IM).1,?_⟩;show n<=ai y0.kind;rw[<-(R.x_ h Uw IM ((pl y0 u0).mp e)).2.1];exact hn
   ·exact u2 u0 IM
 ·intro g hg;obtain ⟨g0,Sh,rfl⟩:=aq.mp hg;have m_:=R.great g0 Sh;split
  ·rename_i e;refine ⟨m_.1,m_.2.1,?_⟩;show n<=g0.pages*4096;rw[<-(R.sG h Sh ((gl g0).mp e).symm).2.2.1];exact hn
  ·exact m_
 ·show (iE.runs.map rowOf).Perm ((S.smalls.map _).map uX++(S.greats.map _).map vE);rw[sm.rowOf,ay,ay]
  have:(S.greats.map (vE∘λg=>if g.page*a_=k.toNat then {g with size:=n} else g))=S.greats.map vE:=by
   refine aN λg hg=>?_;show vE (if _ then _ else _)=_;split<;>rfl
  rw[this];exact R.runs
 ·intro q hq iG i hi;rw[HY,if_neg λz=>?_];have:=R.other h hq iG hi;omega
 ·intro i hi;rw[HY]
  by_cases IT:i<b.size
  ·rw[if_neg (by omega),if_pos IT]
  ·rw[if_pos (by omega),if_neg IT]
theorem Rel.Nj(R:Rel c m S){k:Int}{b:lD}(h:bM c.held k=some b){g:dX}(hg:g∈S.greats)(hk:k=((g.page*4096:Nat):Int)){r:Run}(hr:r∈c.pg.runs)(qB:r.first=g.page){t:State}{M n:Nat}{B:List (Nat×Nat)}
  (ht:b6 t) (OQ:t.runs=c.pg.runs.map λx=>if x.first=r.first then {r with pages:=M,bytes:=B} else x) (hB:∀i,i<r.pages*4096->i<M*4096->jC B i=r.byte i) (hM:8<M) (hn:n<=M*4096) (uv:∀q∈c.held,q.1≠k->q.2.con≠b.con):
  ∃iE,tu t iE/\∀p',kD p'->jD p'=bl (jD (m b.con)) n 1073741824->Rel {c with pg:=iE,held:=dY c.held k ⟨n,M*4096,b.run,b.con⟩} (qW m b.con p')
   (je {S with pages:=some t,greats:=S.greats.map λ(g:dX)=>if g.page*a_=k.toNat then {g with pages:=M} else g} ⟨k.toNat,b.size,b.room⟩ n):=by
 obtain ⟨g1,g2,g3,g4⟩:=R.sG h hg hk
 have m9:({r with pages:=M,bytes:=B}:Run)∈t.runs:=by
  rw[OQ];exact aq.mpr ⟨r,hr,by rw[if_pos rfl]⟩
 have m4:∀x∈t.runs,x.mark=4:=λx hx=>by
  rw[OQ] at hx;obtain ⟨y,hy,rfl⟩:=aq.mp hx;split
  ·exact R.yT r hr
  ·exact R.yT y hy
 have rp:r.pages=g.pages:=by
  obtain ⟨q,hq,e1,e2⟩:=R.Ng hg;rw[R.ok.kB hr hq (qB.trans e1.symm)];exact e2
 have kN:k.toNat=r.first*4096:=by rw[qB];omega
 have gs:=(R.great g hg).2.2;obtain ⟨iE,e,sm,HY⟩:=yf (t:=t) (a:=k.toNat) (o:=b.size) (n:=n) ht (λpX=>⟨_,m9,by show r.first*4096<=_;omega,by show _<=(r.first+M)*4096;omega,R.yT r hr⟩);refine ⟨iE,sm,λp' AZ yE=>?_⟩
 have eS:je {S with pages:=some t,greats:=S.greats.map λ(g:dX)=>if g.page*a_=k.toNat then {g with pages:=M} else g} ⟨k.toNat,b.size,b.room⟩ n
   ={tX {S with pages:=some t,greats:=S.greats.map λ(g:dX)=>if g.page*a_=k.toNat then {g with pages:=M} else g} k.toNat n with pages:=some iE}:=by
  show ({tX _ k.toNat n with pages:=if b.size<n then oQ (some t) (k.toNat+b.size) (n-b.size) else some t}:bg)=_;rw[e]
 rw[eS]
 have nos:∀y∈S.smalls,∀u∈y.used,¬y.page*a_+u.1*ai y.kind=k.toNat:=λy hy u hu z=>by
  have z':jN y u.1=k:=by
   unfold jN;have:y.page*4096+u.1*ai y.kind=k.toNat:=z;omega
  have:=(R.x_ h hy hu z').2.2;exact R.apart hy hg (by rw[<-this,g4])
 have Sy:∀y∈S.smalls,({y with used:=y.used.map λu=>if y.page*a_+u.1*ai y.kind=k.toNat then (u.1,n) else u}:bN)=y:=λy hy=>by
  have:y.used.map (λu=>if y.page*a_+u.1*ai y.kind=k.toNat then (u.1,n) else u)=y.used:=by
   refine (aN λu hu=>?_).trans (kH _);rw[if_neg (nos y hy u hu)];rfl
  rw[this]
 have esm:(S.smalls.map λy=>{y with used:=y.used.map λu=>if y.page*a_+u.1*ai y.kind=k.toNat then (u.1,n) else u})=S.smalls:=(aN Sy).trans (kH _)
 have egr:((S.greats.map λ(g:dX)=>if g.page*a_=k.toNat then {g with pages:=M} else g).map λg=>if g.page*a_=k.toNat then {g with size:=n} else g)=S.greats.map λg=>if g.page*4096=k.toNat then ⟨g.page,M,n⟩ else g:=by
  rw[ay];refine aN λy hy=>?_;show (if (if y.page*a_=k.toNat then ({y with pages:=M}:dX) else y).page*a_=k.toNat then _ else _)=_
  by_cases z:y.page*4096=k.toNat
  ·have z':y.page*a_=k.toNat:=z;rw[if_pos z',if_pos (show ({y with pages:=M}:dX).page*a_=k.toNat from z),if_pos z];simp only[if_pos z']
  ·have z':¬y.page*a_=k.toNat:=z;rw[if_neg z',if_neg z',if_neg z]
 have eS2:({tX {S with pages:=some t,greats:=S.greats.map λ(g:dX)=>if g.page*a_=k.toNat then {g with pages:=M} else g} k.toNat n with pages:=some iE}:bg)=⟨some iE,S.smalls,S.greats.map λg=>if g.page*4096=k.toNat then ⟨g.page,M,n⟩ else g⟩:=by
  show (⟨some iE,S.smalls.map _,(S.greats.map _).map _⟩:bg)=_;rw[esm,egr]
 rw[eS2];have gk:∀y∈S.greats,y.page*4096=k.toNat->y=g:=λy hy z=>R.pR hy hg (by omega);refine R.TR h (iE:=iE) rfl (sm.ok ht) (sm.yT m4) ?_ rfl R.used ?_ ?_ AZ yE uv ?_ ?_
 ·show S.smalls.flatMap sS++(S.greats.map _).map vn=(S.smalls.flatMap sS++S.greats.map vn).map _;rw[aG,ay,ay];congr 1
  ·refine ((aN λx hx=>?_).trans (kH _)).symm;obtain ⟨y,hy,NS⟩:=dF.mp hx;obtain ⟨u,hu,rfl⟩:=aq.mp NS;refine Ay λz=>nos y hy u hu ?_;have z':jN y u.1=k:=z;unfold jN at z';show y.page*4096+_=_;omega
  ·refine aN λy hy=>?_;show vn (if y.page*4096=k.toNat then ⟨y.page,M,n⟩ else y)=JO k n (M*4096) (vn y)
   by_cases z:y.page*4096=k.toNat
   ·rw[if_pos z];unfold JO;rw[if_pos (show (vn y).1=k from (show ((y.page*4096:Nat):Int)=k by omega))];rfl
   ·rw[if_neg z,Ay (show ((y.page*4096:Nat):Int)≠k by omega)]
 ·intro y hy;obtain ⟨y0,Uw,rfl⟩:=aq.mp hy;split
  ·exact ⟨hM,(R.great y0 Uw).2.1,hn⟩
  ·exact R.great y0 Uw
 ·show (iE.runs.map rowOf).Perm (S.smalls.map uX++(S.greats.map _).map vE);rw[sm.rowOf,OQ,ay,ay]
  have e1:c.pg.runs.map (rowOf∘λx=>if x.first=r.first then {r with pages:=M,bytes:=B} else x)=(c.pg.runs.map rowOf).map λx=>if x.1=r.first then (x.1,M) else x:=by
   rw[ay];refine aN λx hx=>?_;show rowOf (if x.first=r.first then _ else x)=if x.first=r.first then _ else _
   by_cases z:x.first=r.first
   ·rw[if_pos z,if_pos z,<-z]
   ·rw[if_neg z,if_neg z]
  rw[e1]
  have e2:S.smalls.map uX++S.greats.map (vE∘λg=>if g.page*4096=k.toNat then ⟨g.page,M,n⟩ else g)=(S.smalls.map uX++S.greats.map vE).map λx=>if x.1=r.first then (x.1,M) else x:=by
   rw[aG,ay,ay];congr 1
   ·refine aN λy hy=>?_;show uX y=if y.page=r.first then _ else _
    rw[if_neg λz=>R.apart hy hg (z.trans qB)]
   ·refine aN λy hy=>?_;show vE (if y.page*4096=k.toNat then _ else y)=if y.page=r.first then _ else _
    by_cases z:y.page*4096=k.toNat
    ·rw[if_pos z,if_pos (by omega)];rfl
    ·rw[if_neg z,if_neg (by omega)]
  rw[e2];exact R.runs.map _
 ·intro q hq iG i hi;obtain ⟨k0,hs,_,r1,kr,f1,f2,f3,f4⟩:=R.fits (d7 R.lu hq)
  have UW:r1.first≠r.first:=λz=>by
   rcases R.where_ (d7 R.lu hq) with ⟨r0,oZ,_,_,_,_,_,e4,_⟩|⟨g0,Sh,e1,_,_,e4,_⟩
   ·exact R.apart oZ hg (by rw[<-e4,<-f1,z,qB])
   ·have:=R.pR Sh hg (by rw[<-e4,<-f1,z,qB]);subst this;exact iG (e1.trans hk.symm)
  have UJ:r1∈t.runs:=by
   rw[OQ];exact aq.mpr ⟨r1,kr,by rw[if_neg UW]⟩
  have ap:=ht.apart UJ m9 UW;rw[HY,if_neg λz=>?_,iC,iC,R.ok.hold kr (by omega) (by omega),ht.hold UJ (by omega) (by omega)];have ap':r1.first+r1.pages<=r.first\/r.first+M<=r1.first:=ap;omega
 ·intro i hi;rw[HY]
  by_cases IT:i<b.size
  ·rw[if_neg (by omega),if_pos IT,iC,iC,R.ok.hold hr (by omega) (by omega),ht.hold m9 (by show r.first*4096<=_;omega) (by show _<(r.first+M)*4096;omega)];show jC B (k.toNat+i-r.first*4096)=r.byte (k.toNat+i-r.first*4096);exact hB _ (by omega) (by omega)
  ·rw[if_pos (by omega),if_neg IT]
end
end Rm
namespace Rm
open Kg45 (State Run Ask)
open Given (Prog)
open PySem (Addr)
theorem uR{s:State}{a b:Run}(h:a.first=b.first):(s.with_ a).with_ b=s.with_ b:=by
 unfold jS;dsimp only;rw[ay];congr 1;refine aN λx hx=>?_;show (if (if x.first=a.first then a else x).first=b.first then b else (if x.first=a.first then a else x))=_
 by_cases e:x.first=b.first
 ·rw[if_pos (e.trans h.symm),if_pos h,if_pos e]
 ·have e':¬x.first=a.first:=λz=>e (z.trans h);rw[if_neg e',if_neg e]
theorem GL{s:State}{r:Run}(cI:b6 s)(hr:r∈s.runs):s.with_ r=s:=by
 unfold jS
 have:s.runs.map (λx=>if x.first=r.first then r else x)=s.runs:=by
  refine (aN λx hx=>?_).trans (kH _);split
  ·rename_i c;exact (cI.kB hx hr c).symm
  ·rfl
 rw[this]
theorem xm{k:Nat}:∀(g:Nat) (s:State) (n:Nat) (R:List Run),fS k g {s with runs:=R} n=({(fS k g s n).1 with runs:=R},(fS k g s n).2)
 |0,s,n,R=>rfl
 |g+1,s,n,R=>by
  unfold fS;dsimp only;cases e:s.free.getLast? with
  |none=>rfl
  |some x=>
   dsimp only
   by_cases c:aK s.free-k=0
   ·rw[if_pos c,if_pos c]
   ·rw[if_neg c,if_neg c];have ih:=xm (k:=k) g {s with free:=bw s.free (x.1+x.2-min (aK s.free-k) x.2) (min (aK s.free-k) x.2),went:=s.went+min (aK s.free-k) x.2} (n+min (aK s.free-k) x.2) R;dsimp only at ih;rw[ih]
def zL(s:State)(r:Run)(M:Nat):State×Bool×List Ask:=
 if 16384<M then (s,false,[]) else if M<r.pages then ((jt s r M).1,true,(jt s r M).2.2) else if Mf s.free (r.first+r.pages) (M-r.pages)=true then (grown s r M,true,[]) else (s,false,[])
theorem b6.Mf{s:State}(h:b6 s){r:Run}(hr:r∈s.runs){n:Nat}(hn:0<n):(s.free.any λx=>decide (x.1=r.first+r.pages/\n<=x.2))=Rm.Mf s.free (r.first+r.pages) n:=by
 unfold Rm.Mf;rw[lH,dG,dG];constructor
 ·rintro ⟨x,hx,z⟩;have z':=of_decide_eq_true z;exact ⟨x,hx,decide_eq_true ⟨by omega,by omega⟩⟩
 ·rintro ⟨x,hx,z⟩;have z':=of_decide_eq_true z;refine ⟨x,hx,decide_eq_true ⟨?_,?_⟩⟩
  ·by_cases e:x.1=r.first+r.pages
   ·exact e
   ·exfalso;have hp:=(h.sQ r hr).1;exact h.fr r hr ((r.first+r.pages:Nat)-1:Int) (mG hx (by omega) (by omega)) ⟨by omega,by omega⟩
  ·by_cases e:x.1=r.first+r.pages
   ·omega
   ·exfalso;have hp:=(h.sQ r hr).1;exact h.fr r hr ((r.first+r.pages:Nat)-1:Int) (mG hx (by omega) (by omega)) ⟨by omega,by omega⟩
theorem ve{T:State}{q:Run}(cI:b6 T)(hq:q∈T.runs):(dJ (some T) (.mark (q.first:Nat) 4)).1=some (T.with_ {q with mark:=4}):=tL cI hq 4 (by decide)
theorem yg{S:bg}{s:State}{r:Run}(hp:S.pages=some s)(cI:b6 s)(hr:r∈s.runs)(h4:r.mark=4){M:Nat}(hM:0<M)(iG:M≠r.pages)(F:bg->jM->fL cX){rs:List Int}{i:Nat}:
  ∃T a,d_ (lN {S with pages:=(dJ S.pages (.mark (r.first:Nat) 0)).1} (.grow (r.first:Nat) (M:Nat)) F) (F {S with pages:=some T} a) rs i (zL s r M).2.2/\(dJ (some T) (.mark (r.first:Nat) 4)).1=some (zL s r M).1/\(a.value<0↔(zL s r M).2.1=false):=by
 have e1:(dJ S.pages (.mark (r.first:Nat) 0)).1=some (s.with_ {r with mark:=0}):=by
  rw[hp];exact tL cI hr 0 (by decide)
 rw[e1];have HQ:=EW cI hr 0;have kr:=t6 hr {r with mark:=0} rfl
 have back:(dJ (some (s.with_ {r with mark:=0})) (.mark (r.first:Nat) 4)).1=some s:=by
  have:=ve HQ kr;dsimp only at this;rw[this,uR (s:=s) (a:={r with mark:=0}) (b:={r with mark:=4}) rfl];have:({first:=r.first,pages:=r.pages,mark:=4,bytes:=r.bytes}:Run)=r:=by rw[<-h4]
  rw[this,GL cI hr]
 unfold zL
 by_cases c1:16384<M
 ·rw[if_pos c1]
  have e2:gG (some (s.with_ {r with mark:=0})) (.grow (r.first:Nat) (M:Nat))=.done (some (s.with_ {r with mark:=0})) (d8 (-8)):=by
   have cw:bO (M:Nat) 1 16384=false:=by unfold bO;simp;omega
   show (if bO (M:Nat) 1 16384=false then _ else _)=_;rw[if_pos cw]
  exact ⟨_,_,i7 (s:={S with pages:=some (s.with_ {r with mark:=0})}) (.of_eq e2),back,by simp [d8]⟩
 ·rw[if_neg c1]
  have e2:gG (some (s.with_ {r with mark:=0})) (.grow (r.first:Nat) (M:Nat))=if M<=r.pages then Dh {s.with_ {r with mark:=0,pages:=M,bytes:=dD r.bytes 0 (M*dZ)} with free:=bP s.free (r.first+M,r.pages-M)} s.spare (λt _=>.done (some t) (d8 M)) else if (s.free.any λx=>decide (x.1=r.first+r.pages/\M-r.pages<=x.2))=true then .done (some {s.with_ {r with mark:=0,pages:=M} with free:=bw s.free (r.first+r.pages) (M-r.pages)}) (d8 M) else .done (some (s.with_ {r with mark:=0})) (d8 (-7)):=by
   have cw:¬(bO (M:Nat) 1 16384=false):=by unfold bO;simp;omega
   show (if bO (M:Nat) 1 16384=false then _ else _)=_;rw[if_neg cw];have:=HQ.Ax kr
   show (match (s.with_ {r with mark:=0}).run (r.first:Nat) with
    |none=>_
    |some r=>_)=_
   rw[this];show (if Ak 0 4=true then _ else _)=_;rw[if_neg (by decide)];dsimp only;rw[aU]
   by_cases c2:M<=r.pages
   ·rw[if_pos c2,if_pos c2,if_neg iG,uR (s:=s) (a:={r with mark:=0}) (b:={r with mark:=0,pages:=M,bytes:=dD r.bytes 0 (M*dZ)}) rfl];rfl
   ·rw[if_neg c2,if_neg c2,uR (s:=s) (a:={r with mark:=0}) (b:={r with mark:=0,pages:=M}) rfl];rfl
  by_cases c2:M<r.pages
  ·rw[if_pos c2];rw[if_pos (by omega)] at e2;have e3:({s.with_ {r with mark:=0,pages:=M,bytes:=dD r.bytes 0 (M*dZ)} with free:=bP s.free (r.first+M,r.pages-M)}:State)={rL s r M with runs:=(s.with_ {r with mark:=0,pages:=M,bytes:=dD r.bytes 0 (M*dZ)}).runs}:=rfl
   have p1:d_ (gG (some (s.with_ {r with mark:=0})) (.grow (r.first:Nat) (M:Nat))) (.done (some {(jt s r M).1 with runs:=(s.with_ {r with mark:=0,pages:=M,bytes:=dD r.bytes 0 (M*dZ)}).runs}) (d8 M)) rs i (jt s r M).2.2:=by
    rw[e2,e3];have:=qc (rs:=rs) (k:=s.spare) ((rL s r M).free.length+1) {rL s r M with runs:=(s.with_ {r with mark:=0,pages:=M,bytes:=dD r.bytes 0 (M*dZ)}).runs} 0 i (λt _=>.done (some t) (d8 M));rw[xm] at this;exact this
   refine ⟨_,_,i7 (s:={S with pages:=some (s.with_ {r with mark:=0})}) p1,?_,by simp [d8]⟩;have YH:=cI.shrink hr hM c2 (dD r.bytes 0 (M*dZ));have o4:b6 (jt s r M).1:=b6.trimmed _ _ _ YH
   have Ga:(jt s r M).1.runs=(s.with_ {r with pages:=M,bytes:=dD r.bytes 0 (M*dZ)}).runs:=by
    unfold jt;rw[(mH _ _ _).1];rfl
   have Ci:b6 {(jt s r M).1 with runs:=(s.with_ {r with mark:=0,pages:=M,bytes:=dD r.bytes 0 (M*dZ)}).runs}:=by
    refine o4.wK rfl rfl ?_;rw[Ga];show (s.runs.map _).map rowOf=(s.runs.map _).map rowOf;rw[ay,ay];refine aN λx hx=>?_;show rowOf (if x.first=r.first then _ else x)=rowOf (if x.first=r.first then _ else x);split<;>rfl
   have hm:({r with mark:=0,pages:=M,bytes:=dD r.bytes 0 (M*dZ)}:Run)∈({(jt s r M).1 with runs:=(s.with_ {r with mark:=0,pages:=M,bytes:=dD r.bytes 0 (M*dZ)}).runs}:State).runs:=t6 hr _ rfl;have mb:=ve Ci hm;dsimp only at mb⊢;rw[mb];congr 1
   have e5:∀(T:State) (R R':List Run) (q:Run),(R.map λx=>if x.first=q.first then q else x)=R'->T.runs=R'->jS {T with runs:=R} q=T:=λT R R' q h1 h2=>by
    unfold jS;dsimp only;rw[h1,<-h2]
   refine e5 (jt s r M).1 _ _ _ ?_ Ga;show ((s.runs.map _).map _)=s.runs.map _;rw[ay];refine aN λx hx=>?_;show (if (if x.first=r.first then _ else x:Run).first=r.first then _ else _)=if x.first=r.first then _ else x
   by_cases e:x.first=r.first
   ·rw[if_pos e,if_pos rfl,if_pos e,h4]
   ·rw[if_neg e,if_neg e,if_neg e]
  ·rw[if_neg c2];rw[if_neg (by omega),cI.Mf hr (by omega)] at e2
   by_cases c3:Rm.Mf s.free (r.first+r.pages) (M-r.pages)=true
   ·rw[if_pos c3];rw[if_pos c3] at e2;refine ⟨_,_,i7 (s:={S with pages:=some (s.with_ {r with mark:=0})}) (.of_eq e2),?_,by simp [d8]⟩;have Zt:=cI.extend hr (show r.pages<M by omega) (wN.mp c3)
    have Ci:b6 ({s.with_ {r with mark:=0,pages:=M} with free:=bw s.free (r.first+r.pages) (M-r.pages)}:State):=by
     refine Zt.wK rfl rfl ?_;show (s.runs.map _).map rowOf=(s.runs.map _).map rowOf;rw[ay,ay];refine aN λx hx=>?_;show rowOf (if x.first=r.first then _ else x)=rowOf (if x.first=r.first then _ else x);split<;>rfl
    have hm:({r with mark:=0,pages:=M}:Run)∈({s.with_ {r with mark:=0,pages:=M} with free:=bw s.free (r.first+r.pages) (M-r.pages)}:State).runs:=t6 hr _ rfl;have mb:=ve Ci hm;dsimp only at mb⊢;rw[mb];congr 1;unfold grown jS;dsimp only;congr 1;rw[ay];refine aN λx hx=>?_;show (if (if x.first=r.first then _ else x:Run).first=r.first then _ else _)=if x.first=r.first then _ else x
    by_cases e:x.first=r.first
    ·rw[if_pos e,if_pos rfl,if_pos e,h4]
    ·rw[if_neg e,if_neg e,if_neg e]
   ·rw[if_neg c3];rw[if_neg c3] at e2;exact ⟨_,_,i7 (s:={S with pages:=some (s.with_ {r with mark:=0})}) (.of_eq e2),back,by simp [d8]⟩
theorem Ex(l:List (Nat×Nat))(hi i:Nat)(h:i<hi):jC (dD l 0 hi) i=jC l i:=by
 unfold jC dD;congr 1;rw[Ai]
 have e:((l.filter λx=>decide (0<=x.1)&&decide (x.1<hi)).find? ((λx:Nat×Nat=>x.1==i)∘λx=>(x.1-0,x.2)))=l.find? λx=>x.1==i:=by
  rw[List.find?_filter];congr 1;funext x
  by_cases hx:x.1=i
  ·simp [hx,h]
  ·simp [hx]
 rw[e,Option.map_map];rfl
theorem Ia{s:State}{r:Run}{M:Nat}(cI:b6 s)(hr:r∈s.runs)(hM:0<M)(iG:M≠r.pages)(h:(zL s r M).2.1=true):b6 (zL s r M).1/\∃B,(zL s r M).1.runs=s.runs.map (λx=>if x.first=r.first then {r with pages:=M,bytes:=B} else x)/\∀i,i<r.pages*4096->i<M*4096->jC B i=r.byte i:=by
 unfold zL at*
 by_cases c1:16384<M
 ·rw[if_pos c1] at h;cases h
 ·rw[if_neg c1] at h⊢
  by_cases c2:M<r.pages
  ·rw[if_pos c2];refine ⟨b6.trimmed _ _ _ (cI.shrink hr hM c2 (dD r.bytes 0 (M*dZ))),dD r.bytes 0 (M*dZ),?_,λi _ h2=>Ex _ _ _ h2⟩;unfold jt;rw[(mH _ _ _).1];rfl
  ·rw[if_neg c2] at h⊢
   by_cases c3:Rm.Mf s.free (r.first+r.pages) (M-r.pages)=true
   ·rw[if_pos c3];exact ⟨cI.extend hr (show r.pages<M by omega) (wN.mp c3),r.bytes,rfl,λi _ _=>rfl⟩
   ·rw[if_neg c3] at h;cases h
theorem H_{s:State}{r:Run}{M:Nat}(h:(zL s r M).2.1=false):zL s r M=(s,false,[]):=by
 unfold zL at*;split
 ·rfl
 ·rename_i c1;rw[if_neg c1] at h;split
  ·rename_i c2;rw[if_pos c2] at h;cases h
  ·rename_i c2;rw[if_neg c2] at h;split
   ·rename_i c3;rw[if_pos c3] at h;cases h
   ·rfl
end Rm
namespace Rm
open Kg45 (State Run Ask)
open Given (Prog)
open PySem (Addr)
def wu(c:HC)(k:Int)(b:lD)(r:Run)(n:Nat):HC×Bool×List Ask:=
 if 32768<b.room then (if 32768<n then CU c k b r (bZ n) else (c,false,[])) else (c,decide (nR n 16=some (b.room:Int)),[])
theorem zk{α:Type}{l:List (Int×α)}{k:Int}{x y z:α}(h:bM l k=some z):dY (dY l k x) k y=dY l k y:=by
 rw[iD (m:=dY l k x) (y:=x) (by rw[fW,if_pos rfl]),iD h,iD h,ay];refine aN λq hq=>?_;show (if (if q.1=k then (q.1,x) else q).1=k then ((if q.1=k then (q.1,x) else q).1,y) else (if q.1=k then (q.1,x) else q))=_
 by_cases e:q.1=k
 ·rw[if_pos e,if_pos e,if_pos e]
 ·rw[if_neg e,if_neg e]
theorem E4{c:HC}{k:Int}{b:lD}{r:Run}{M:Nat}(iG:¬M*4096=b.room):CU c k b r M=({c with pg:=(zL c.pg r M).1,held:=if (zL c.pg r M).2.1=true then rM c k b M else c.held},(zL c.pg r M).2):=by
 unfold CU zL;rw[if_neg iG];split
 ·rfl
 ·split
  ·rfl
  ·split<;>rfl
section
variable{c:HC}{m:Addr->iJ}{S:bg}
theorem Rel.qX(R:Rel c m S){k:Int}{b:lD}(h:bM c.held k=some b){r:Run}(hr:r∈c.pg.runs)(qB:r.first=b.run)(OR:32768<b.room->b.room=r.pages*4096){n:Nat}(hn:n<=1073741824)(uv:∀q∈c.held,q.1≠k->q.2.con≠b.con){rs:List Int}{i:Nat}(hs:(wu c k b r n).2.1=true):
  ∃S' iE b1,d_ (bI (some S) (.resize k n)) (.done (some S') (aZ k)) rs i (wu c k b r n).2.2/\tu (wu c k b r n).1.pg iE/\bM (wu c k b r n).1.held k=some b1/\b1.con=b.con/\b1.run=b.run/\
   ∀p',kD p'->jD p'=bl (jD (m b.con)) n 1073741824->Rel {(wu c k b r n).1 with pg:=iE,held:=dY (wu c k b r n).1.held k ⟨n,b1.room,b1.run,b1.con⟩} (qW m b.con p') S':=by
 have k0:=(R.fits h).1;have Rb:S.block k=some ⟨k.toNat,b.size,b.room⟩:=by rw[R.block,h];rfl
 have hw:¬(cP (n:Int) 0 iA=false):=by unfold cP iA;simp;omega
 have e0:bI (some S) (.resize k n)=if b.room<=32768/\(S.greats.any λg=>g.page*a_==k.toNat)=false then (if (fz (max n 1) 16).map ai=some b.room then .done (some (S.sized ⟨k.toNat,b.size,b.room⟩ n)) (aZ k) else g_ S ⟨k.toNat,b.size,b.room⟩ n)
   else if n<=32768 then g_ S ⟨k.toNat,b.size,b.room⟩ n else if jP n*a_=b.room then .done (some (S.sized ⟨k.toNat,b.size,b.room⟩ n)) (aZ k)
   else lN {S with pages:=(dJ S.pages (.mark (k.toNat/a_:Nat) 0)).1} (.grow (k.toNat/a_:Nat) (jP n)) λt a=>
     if a.value<0 then g_ {t with pages:=(dJ t.pages (.mark (k.toNat/a_:Nat) 4)).1} ⟨k.toNat,b.size,b.room⟩ n else .done (some (je {t with pages:=(dJ t.pages (.mark (k.toNat/a_:Nat) 4)).1,greats:=(t.greats.map λ(g:dX)=>if g.page*a_=k.toNat then {g with pages:=jP n} else g)} ⟨k.toNat,b.size,b.room⟩ n)) (aZ k):=by
  show (if cP (n:Int) 0 iA=false then _ else _)=_;rw[if_neg hw,Rb];rfl
 rw[e0];unfold wu at hs⊢;rcases R.where_ h with ⟨r0,oZ,u,hu,e1,e2,e3,e4,e5⟩|⟨g,hg,e1,e2,e3,e4,e5⟩
 ·have UU:(S.greats.any λg=>g.page*a_==k.toNat)=false:=by
   rw[kj];intro g hg z;have z':g.page*4096=k.toNat:=by simpa [a_] using z
   exact e5 (R.sG h hg (by omega)).1
  rw[if_neg e5] at hs⊢;have IP:=of_decide_eq_true hs;rw[if_pos ⟨by omega,UU⟩]
  have hsz:(fz (max n 1) 16).map ai=some b.room:=by
   have:=t7 n 16;rw[show ((16:Nat):Int)=16 from rfl,IP] at this;cases e:fz (max n 1) 16 with
   |none=>rw[e] at this;cases this
   |some j=>
    rw[e] at this;have h2:(b.room:Int)=((ai j:Nat):Int):=bC this;show some (ai j)=some b.room;congr 1;omega
  rw[if_pos hsz]
  have hnr:n<=b.room:=by
   cases e:fz (max n 1) 16 with
   |none=>rw[e] at hsz;cases hsz
   |some j=>
    rw[e] at hsz;have:=xD e;have:ai j=b.room:=bC hsz;omega
  obtain ⟨iE,sm,hR⟩:=R.sized h hnr uv;exact ⟨_,iE,b,.refl,sm,h,rfl,rfl,hR⟩
 ·have IU:¬(b.room<=32768/\(S.greats.any λg=>g.page*a_==k.toNat)=false):=λz=>absurd z.1 (by omega);rw[if_neg IU];rw[if_pos e5] at hs⊢
  by_cases C0:32768<n
  ·rw[if_pos C0] at hs⊢;rw[if_neg (by omega),u7 (by omega)];have YU:8<bZ n:=by unfold bZ;omega
   have Y5:n<=bZ n*4096:=by unfold bZ;omega
   by_cases yU:bZ n*4096=b.room
   ·rw[if_pos (show bZ n*a_=b.room from yU)];have es:CU c k b r (bZ n)=(c,true,[]):=if_pos yU;rw[es];obtain ⟨iE,sm,hR⟩:=R.sized h (n:=n) (by omega) uv;exact ⟨_,iE,b,.refl,sm,h,rfl,rfl,hR⟩
   ·rw[if_neg (show¬bZ n*a_=b.room from yU)];have es:=E4 (c:=c) (k:=k) (r:=r) yU;rw[es] at hs⊢;have IP:(zL c.pg r (bZ n)).2.1=true:=hs;have iG:bZ n≠r.pages:=λz=>yU (by rw[OR e5,z])
    have hdiv:k.toNat/a_=r.first:=by
     rw[qB,e4,e1,aU];exact Nat.mul_div_cancel _ (by decide)
    rw[hdiv]
    obtain ⟨T,a,pl,hT,ha⟩:=yg (S:=S) R.pg R.ok hr (R.yT r hr) (M:=bZ n) (by omega) iG (λt a=>
     if a.value<0 then g_ {t with pages:=(dJ t.pages (.mark (r.first:Nat) 4)).1} ⟨k.toNat,b.size,b.room⟩ n else .done (some (je {t with pages:=(dJ t.pages (.mark (r.first:Nat) 4)).1,greats:=(t.greats.map λ(g:dX)=>if g.page*a_=k.toNat then {g with pages:=bZ n} else g)} ⟨k.toNat,b.size,b.room⟩ n)) (aZ k)) (rs:=rs) (i:=i)
    obtain ⟨f1,B,f2,f3⟩:=Ia R.ok hr (by omega) iG IP;obtain ⟨iE,sm,hR⟩:=R.Nj h hg e1 hr (qB.trans e4) f1 f2 f3 YU Y5 uv;have hna:¬a.value<0:=λz=>by rw[ha.mp z] at IP;cases IP
    refine ⟨je {S with pages:=some (zL c.pg r (bZ n)).1,greats:=S.greats.map λ(g:dX)=>if g.page*a_=k.toNat then {g with pages:=bZ n} else g} ⟨k.toNat,b.size,b.room⟩ n,iE,{b with room:=bZ n*4096},pl.to ?_,sm,?_,rfl,rfl,λp' AZ yE=>?_⟩
    ·dsimp only;rw[if_neg hna,hT]
    ·show bM (if (zL c.pg r (bZ n)).2.1=true then rM c k b (bZ n) else c.held) k=_;rw[if_pos IP];unfold rM;rw[fW,if_pos rfl]
    ·have:=hR p' AZ yE;show Rel {c with pg:=iE,held:=dY (if (zL c.pg r (bZ n)).2.1=true then rM c k b (bZ n) else c.held) k ⟨n,bZ n*4096,b.run,b.con⟩} _ _;rw[if_pos IP];unfold rM;rw[zk h];exact this
  ·rw[if_neg C0] at hs;cases hs
theorem Rel.ZR(R:Rel c m S){k:Int}{b:lD}(h:bM c.held k=some b){r:Run}(hr:r∈c.pg.runs)(qB:r.first=b.run)(OR:32768<b.room->b.room=r.pages*4096){n:Nat}(hn:n<=1073741824){rs:List Int}{i:Nat}(hs:(wu c k b r n).2.1=false):
  wu c k b r n=(c,false,[])/\d_ (bI (some S) (.resize k n)) (g_ S ⟨k.toNat,b.size,b.room⟩ n) rs i []:=by
 have k0:=(R.fits h).1;have Rb:S.block k=some ⟨k.toNat,b.size,b.room⟩:=by rw[R.block,h];rfl
 have hw:¬(cP (n:Int) 0 iA=false):=by unfold cP iA;simp;omega
 have e0:bI (some S) (.resize k n)=if b.room<=32768/\(S.greats.any λg=>g.page*a_==k.toNat)=false then (if (fz (max n 1) 16).map ai=some b.room then .done (some (S.sized ⟨k.toNat,b.size,b.room⟩ n)) (aZ k) else g_ S ⟨k.toNat,b.size,b.room⟩ n)
   else if n<=32768 then g_ S ⟨k.toNat,b.size,b.room⟩ n else if jP n*a_=b.room then .done (some (S.sized ⟨k.toNat,b.size,b.room⟩ n)) (aZ k)
   else lN {S with pages:=(dJ S.pages (.mark (k.toNat/a_:Nat) 0)).1} (.grow (k.toNat/a_:Nat) (jP n)) λt a=>
     if a.value<0 then g_ {t with pages:=(dJ t.pages (.mark (k.toNat/a_:Nat) 4)).1} ⟨k.toNat,b.size,b.room⟩ n else .done (some (je {t with pages:=(dJ t.pages (.mark (k.toNat/a_:Nat) 4)).1,greats:=(t.greats.map λ(g:dX)=>if g.page*a_=k.toNat then {g with pages:=jP n} else g)} ⟨k.toNat,b.size,b.room⟩ n)) (aZ k):=by
  show (if cP (n:Int) 0 iA=false then _ else _)=_;rw[if_neg hw,Rb];rfl
 rw[e0];unfold wu at hs⊢;rcases R.where_ h with ⟨r0,oZ,u,hu,e1,e2,e3,e4,e5⟩|⟨g,hg,e1,e2,e3,e4,e5⟩
 ·have UU:(S.greats.any λg=>g.page*a_==k.toNat)=false:=by
   rw[kj];intro g hg z;have z':g.page*4096=k.toNat:=by simpa [a_] using z
   exact e5 (R.sG h hg (by omega)).1
  rw[if_neg e5] at hs⊢;have IP:¬nR n 16=some (b.room:Int):=of_decide_eq_false hs;rw[if_pos ⟨by omega,UU⟩]
  have hsz:¬(fz (max n 1) 16).map ai=some b.room:=λz=>IP (by
   have:=t7 n 16;rw[show ((16:Nat):Int)=16 from rfl] at this;rw[this];cases e:fz (max n 1) 16 with
   |none=>rw[e] at z;cases z
   |some j=>
    rw[e] at z;have:ai j=b.room:=bC z;show some ((ai j:Nat):Int)=_;rw[this])
  rw[if_neg hsz];exact ⟨by rw[show decide (nR (n:Int) 16=some (b.room:Int))=false from hs],.refl⟩
 ·have IU:¬(b.room<=32768/\(S.greats.any λg=>g.page*a_==k.toNat)=false):=λz=>absurd z.1 (by omega);rw[if_neg IU];rw[if_pos e5] at hs⊢
  by_cases C0:32768<n
  ·rw[if_pos C0] at hs⊢;rw[if_neg (by omega),u7 (by omega)]
   by_cases yU:bZ n*4096=b.room
   ·have es:CU c k b r (bZ n)=(c,true,[]):=if_pos yU;rw[es] at hs;cases hs
   ·rw[if_neg (show¬bZ n*a_=b.room from yU)];have es:=E4 (c:=c) (k:=k) (r:=r) yU;rw[es] at hs⊢;have IP:(zL c.pg r (bZ n)).2.1=false:=hs;have iG:bZ n≠r.pages:=λz=>yU (by rw[OR e5,z])
    have hdiv:k.toNat/a_=r.first:=by
     rw[qB,e4,e1,aU];exact Nat.mul_div_cancel _ (by decide)
    rw[hdiv]
    obtain ⟨T,a,pl,hT,ha⟩:=yg (S:=S) R.pg R.ok hr (R.yT r hr) (M:=bZ n) (by unfold bZ;omega) iG (λt a=>
     if a.value<0 then g_ {t with pages:=(dJ t.pages (.mark (r.first:Nat) 4)).1} ⟨k.toNat,b.size,b.room⟩ n else .done (some (je {t with pages:=(dJ t.pages (.mark (r.first:Nat) 4)).1,greats:=(t.greats.map λ(g:dX)=>if g.page*a_=k.toNat then {g with pages:=bZ n} else g)} ⟨k.toNat,b.size,b.room⟩ n)) (aZ k)) (rs:=rs) (i:=i)
    have hf:=H_ IP;rw[hf] at pl hT⊢;refine ⟨rfl,pl.to ?_⟩;dsimp only;rw[if_pos (ha.mpr IP),hT];have:({S with pages:=some c.pg}:bg)=S:=by rw[<-R.pg]
    show g_ {S with pages:=some c.pg} _ _=_;rw[this]
  ·rw[if_neg C0] at hs⊢;rw[if_pos (by omega)];exact ⟨rfl,.refl⟩
theorem Rel.wrote(R:Rel c m S){k:Int}{b:lD}(h:bM c.held k=some b){o:Nat}{row:List Nat}(hl:o+row.length<=b.size)(ye:∀x∈row,x<=255)(uv:∀q∈c.held,q.1≠k->q.2.con≠b.con):
  ∃iE,lM S.pages (k.toNat+o) row=some iE/\tu c.pg iE/\∀p',kD p'->(∀x:Int,jD p' x=if (o:Int)<=x/\x<(o:Int)+row.length then ((row.getD (x-o).toNat 0:Nat):Int) else jD (m b.con) x)->Rel {c with pg:=iE} (qW m b.con p') {S with pages:=some iE}:=by
 obtain ⟨k0,YF,_,r,hr,qB,hm,kr,AY⟩:=R.fits h;obtain ⟨iE,e,sm,HY⟩:=BS (s:=c.pg) (a:=k.toNat+o) (b:=row) R.ok ⟨r,hr,by omega,by omega,hm⟩ ye;refine ⟨iE,by rw[R.pg];exact e,sm,λp' AZ yE=>?_⟩;have hb:=eN h;constructor
 ·rfl
 ·exact sm.ok R.ok
 ·exact sm.yT R.yT
 ·exact R.lu
 ·exact R.perm
 ·exact R.snd
 ·exact R.xC
 ·exact R.sat
 ·exact R.kind
 ·exact R.used
 ·exact R.great
 ·show (iE.runs.map rowOf).Perm _;rw[sm.rowOf];exact R.runs
 ·intro q hq
  by_cases e:q.1=k
  ·have:q=(k,b):=jE R.lu hq hb e;subst this;rw[fD];exact AZ
  ·rw[ic (uv q hq e)];exact R.pc q hq
 ·intro q hq i;show _=if i<q.2.size then ((gx iE (q.1.toNat+i):Nat):Int) else 0
  by_cases e:q.1=k
  ·have:q=(k,b):=jE R.lu hq hb e;subst this;rw[fD,yE];show _=if i<b.size then ((gx iE (k.toNat+i):Nat):Int) else 0
   have Lr:jD (m b.con) i=if i<b.size then ((gx c.pg (k.toNat+i):Nat):Int) else 0:=R.tW _ hb i
   rw[HY,Lr]
   by_cases c1:o<=i/\i<o+row.length
   ·rw[if_pos (by omega),if_pos (by omega),if_pos (by omega)];congr 2;omega
   ·rw[if_neg (show¬((o:Int)<=(i:Int)/\(i:Int)<(o:Int)+(row.length:Int)) by omega),if_neg (show¬(k.toNat+o<=k.toNat+i/\k.toNat+i<k.toNat+o+row.length) by omega)]
  ·rw[ic (uv q hq e),R.tW q hq i]
   by_cases hi:i<q.2.size
   ·rw[if_pos hi,if_pos hi,HY,if_neg λz=>?_];have:=R.other h hq e hi;omega
   ·rw[if_neg hi,if_neg hi]
 ·intro q hq i
  by_cases e:q.1=k
  ·have:q=(k,b):=jE R.lu hq hb e;subst this;rw[fD,yE];split
   ·rw[bA];cases e2:row[(i-o).toNat]? with
    |none=>decide
    |some x=>
     have:=ye x (cA e2);show ((x:Nat):Int)<=255;omega
   ·exact R.lo _ hb i
  ·rw[ic (uv q hq e)];exact R.lo q hq i
def vw(m:Addr->iJ)(q:Int×lD):Int×Nat×Nat×Nat×iJ:=(q.1,q.2.size,q.2.room,q.2.run,m q.2.con)
theorem Rel.congr(R:Rel c m S){c':HC}{m':Addr->iJ}(h1:c'.qY=c.qY)(h2:c'.pg=c.pg)(h3:c'.small=c.small)(h4:c'.held.map (vw m')=c.held.map (vw m)):Rel c' m' S:=by
 have mem:∀q∈c'.held,∃q0∈c.held,vw m q0=vw m' q:=λq hq=>by
  have:vw m' q∈c.held.map (vw m):=by rw[<-h4];exact aH hq
  exact aq.mp this
 constructor
 ·rw[h2];exact R.pg
 ·rw[h2];exact R.ok
 ·rw[h2];exact R.yT
 ·have:=congrArg (oM λx:Int×Nat×Nat×Nat×iJ=>x.1) h4;rw[ay,ay] at this;show (c'.held.map ((λx:Int×Nat×Nat×Nat×iJ=>x.1)∘vw m')).Nodup;rw[this];exact R.lu
 ·have:=congrArg (oM λx:Int×Nat×Nat×Nat×iJ=>((x.1,x.2.1,x.2.2.1,x.2.2.2.1):BR)) h4;rw[ay,ay] at this;show (c'.held.map ((λx:Int×Nat×Nat×Nat×iJ=>((x.1,x.2.1,x.2.2.1,x.2.2.2.1):BR))∘vw m')).Perm _;rw[this];exact R.perm
 ·rw[h3];exact R.snd
 ·rw[h3];exact R.xC
 ·rw[h3];exact R.sat
 ·exact R.kind
 ·exact R.used
 ·rw[h1];exact R.great
 ·rw[h2];exact R.runs
 ·intro q hq;obtain ⟨q0,rj,e⟩:=mem q hq;have e5:m q0.2.con=m' q.2.con:=congrArg (·.2.2.2.2) e;rw[<-e5];exact R.pc q0 rj
 ·intro q hq i;obtain ⟨q0,rj,e⟩:=mem q hq;have e1:q0.1=q.1:=congrArg (·.1) e;have e2:q0.2.size=q.2.size:=congrArg (·.2.1) e;have e5:m q0.2.con=m' q.2.con:=congrArg (·.2.2.2.2) e;rw[<-e5,<-e1,<-e2,h2];exact R.tW q0 rj i
 ·intro q hq i;obtain ⟨q0,rj,e⟩:=mem q hq;have e5:m q0.2.con=m' q.2.con:=congrArg (·.2.2.2.2) e;rw[<-e5];exact R.lo q0 rj i
theorem En{c:HC}{H':List (Int×lD)}{k:Int}{b:lD}{r:Run}{l:List Int}(hk:∀x,(bM H' x).isNone=(bM c.held x).isNone):jm {c with held:=H'} k b r l=({(jm c k b r l).1 with held:=jj H' k},(jm c k b r l).2):=by
 have ef:∀z r,pY (kO {c with held:=H'} k) z r=pY (kO c k) z r:=λz r=>by
  unfold pY kO;refine ki λx hx=>?_;dsimp only;rw[p_,p_];split
  ·rfl
  ·exact hk x
 have ee:∀z r,gw (kO {c with held:=H'} k) z r=gw (kO c k) z r:=λz r=>by unfold gw;rw[ef]
 have eo:∀z l,j4 (kO {c with held:=H'} k) z l=j4 (kO c k) z l:=λz l=>by
  unfold j4;refine ki λx hx=>?_;rw[ef]
 unfold jm;rw[ee,eo];split
 ·rfl
 ·split<;>rfl
theorem qo{c:HC}{k:Int}{b:lD}{r:Run}{l:List Int}:(jm c k b r l).1.held=jj c.held k:=by
 unfold jm;split
 ·rfl
 ·split<;>rfl
theorem vo{α:Type}{l:List (Int×α)}{p k:Int}{x:α}(h:p≠k):jj (l++[(p,x)]) k=jj l k++[(p,x)]:=by
 unfold jj;rw[Jc];congr 1;rw[bU,if_pos (by simpa using h)];rfl
theorem Rel.move(R:Rel c m S){k:Int}{b:lD}(h:bM c.held k=some b){n:Nat}(uv:∀q∈c.held,q.1≠k->q.2.con≠b.con){rs:List Int}{i:Nat}:
  (gA c n 16 rs i).1.held=c.held/\
  ((∃S',(gA c n 16 rs i).2.1=none/\d_ (g_ S ⟨k.toNat,b.size,b.room⟩ n) (.done (some S') (aZ (-7))) rs i (gA c n 16 rs i).2.2/\Rel (gA c n 16 rs i).1 m S')\/
  ∃p z rr,(gA c n 16 rs i).2.1=some (p,z,rr)/\0<=p/\p≠k/\bM c.held p=none/\∀cn,(∀q∈c.held,q.2.con≠cn)->∃Hr r,tu (gA c n 16 rs i).1.pg Hr/\b6 Hr/\((gA c n 16 rs i).1.small.map (·.1)).Nodup/\
   L8 {(gA c n 16 rs i).1 with pg:=Hr,held:=dY c.held p ⟨n,z,rr,b.con⟩} b r ((bM (gA c n 16 rs i).1.small b.room).getD [])/\
   ∀p',kD p'->jD p'=bl (jD (m b.con)) n 1073741824->∃S',d_ (g_ S ⟨k.toNat,b.size,b.room⟩ n) (.done (some S') (aZ p)) rs i ((gA c n 16 rs i).2.2++(jm {(gA c n 16 rs i).1 with pg:=Hr,held:=dY c.held p ⟨n,z,rr,b.con⟩} k b r ((bM (gA c n 16 rs i).1.small b.room).getD [])).2)/\
    Rel (jm {(gA c n 16 rs i).1 with pg:=Hr,held:=dY c.held p ⟨n,z,rr,b.con⟩} k b r ((bM (gA c n 16 rs i).1.small b.room).getD [])).1 (qW m b.con p') S'):=by
 obtain ⟨k0,YF,_,r0,oZ,a2Z,Lg,kr,AY⟩:=R.fits h;have hb:=eN h
 have hold:fK S.pages k.toNat (min b.size n)=(bX (min b.size n)).map λj=>gx c.pg (k.toNat+j):=by
  rw[R.pg];exact yu R.ok ⟨r0,oZ,by omega,by omega,Lg⟩
 have Lr:∀i:Nat,jD (m b.con) i=if i<b.size then ((gx c.pg (k.toNat+i):Nat):Int) else 0:=λi=>R.tW _ hb i
 have em:g_ S ⟨k.toNat,b.size,b.room⟩ n=qT S n 4 λt p=>match p with
  |none=>.done (some t) (aZ (-7))
  |some q=>qU {t with pages:=lM t.pages q (fK S.pages k.toNat (min b.size n))} k.toNat λu=>.done (some u) (aZ q):=rfl
 rw[em]
 obtain ⟨eh,ht⟩:=R.take (n:=n) (e:=4) (by decide) (rs:=rs) (i:=i) (λt p=>match p with
  |none=>.done (some t) (aZ (-7))
  |some q=>qU {t with pages:=lM t.pages q (fK S.pages k.toNat (min b.size n))} k.toNat λu=>.done (some u) (aZ q))
 have e16:(((2^4:Nat)):Int)=16:=rfl;rw[e16] at eh ht;refine ⟨eh,?_⟩;rcases ht with ⟨S',h1,h2,h3⟩|⟨p,z,rr,S1,iE,h1,YW,CZ,h2,h3,h4⟩
 ·exact .inl ⟨S',h1,h2,h3⟩
 ·have Mi:p≠k:=λz=>by rw[z,h] at CZ;cases CZ
  refine .inr ⟨p,z,rr,h1,YW,Mi,CZ,λcn rY=>?_⟩;have R2:=h4 cn rY;rw[eh] at R2;have Lb:bM (dY c.held p ⟨n,z,rr,cn⟩) p=some ⟨n,z,rr,cn⟩:=by rw[fW,if_pos rfl]
  have hlen:(fK S.pages k.toNat (min b.size n)).length=min b.size n:=by rw[hold];simp
  have HY:∀j:Nat,j<b.size->gx c.pg (k.toNat+j)<=255:=λj hj=>by
   have h5:=R.lo _ hb j;have h6:=Lr j;rw[if_pos hj] at h6;have ZP:jD (m b.con) j<=255:=h5;omega
  obtain ⟨Hr,e2,Td,w2⟩:=R2.wrote (k:=p) (b:=⟨n,z,rr,cn⟩) Lb (o:=0) (row:=fK S.pages k.toNat (min b.size n)) (by rw[hlen];show 0+_<=n;omega) (λx hx=>by
   rw[hold] at hx;obtain ⟨j,hj,rfl⟩:=aq.mp hx;exact HY j (by have:=e9.mp hj;omega)) (λq hq iG=>by
   rcases iF hq with rfl|⟨hq,_⟩
   ·exact absurd rfl iG
   ·exact rY q hq)
  have V9:b6 Hr:=Td.ok R2.ok;have UA:∀x:lD,bM (dY c.held p x) k=some b:=λx=>by rw[fW,if_neg Mi.symm];exact h
  obtain ⟨rA,hrA,hfA,⟨b1,b2,b3⟩,_⟩:=R2.LU (UA _);obtain ⟨r,hr,g1,g2,g3⟩:=Td.Um hrA;have hrb:r.first=b.run:=g1.trans hfA;refine ⟨Hr,r,h3.trans Td,V9,R2.snd,⟨hr,hrb,λz=>b3 z⟩,λp' AZ yE=>?_⟩
  have R3:=w2 p' AZ λx=>by
   rw[yE];show bl (jD (m b.con)) n 1073741824 x=if ((0:Nat):Int)<=x/\x<((0:Nat):Int)+_ then _ else jD (qW m cn [] cn) x
   rw[fD,um,hlen,hold];unfold bl
   by_cases x0:x<0
   ·rw[if_neg (by omega),if_neg (by omega)];exact Nq (R.pc _ hb) x0
   ·obtain ⟨j,rfl⟩:=cS (show 0<=x by omega);rw[Lr j]
    by_cases hj:j<min b.size n
    ·rw[if_neg (by omega),if_pos (by omega),if_pos (by omega)];rw[bA,cu,nZ (by omega)];show _=((gx c.pg (k.toNat+((j:Int)-((0:Nat):Int)).toNat):Nat):Int)
     congr 3
    ·rw[if_neg (show¬(((0:Nat):Int)<=(j:Int)/\(j:Int)<((0:Nat):Int)+((min b.size n:Nat):Int)) by omega)]
     by_cases Zm:(n:Int)<=(j:Int)/\(j:Int)<1073741824
     ·rw[if_pos Zm]
     ·rw[if_neg Zm]
      by_cases Zl:j<b.size
      ·rw[if_pos Zl];have:=Ft (R.pc _ hb) (x:=(j:Int)) (by omega);have h6:=Lr j;rw[if_pos Zl] at h6;rw[<-h6];exact this
      ·rw[if_neg Zl]
  obtain ⟨S',pl,R4⟩:=R3.give (k:=k) (b:=b) (UA _) (r:=r) hr hrb (λu=>.done (some u) (aZ p.toNat)) (rs:=rs) (i:=i+(gA c n 16 rs i).2.2.length)
  have Wm:∀x,(bM (dY c.held p ⟨n,z,rr,b.con⟩) x).isNone=(bM (dY c.held p ⟨n,z,rr,cn⟩) x).isNone:=λx=>by
   rw[fW,fW];split<;>rfl
  have ed:=En (c:={(gA c n 16 rs i).1 with pg:=Hr,held:=dY c.held p ⟨n,z,rr,cn⟩}) (H':=dY c.held p ⟨n,z,rr,b.con⟩) (k:=k) (b:=b) (r:=r) (l:=(bM (gA c n 16 rs i).1.small b.room).getD []) Wm;dsimp only at ed;rw[ed];refine ⟨S',?_,?_⟩
  ·refine h2.trans ?_;have e3:lM S1.pages p.toNat (fK S.pages k.toNat (min b.size n))=some Hr:=e2;have e4:(p.toNat:Int)=p:=by omega
   rw[e4] at pl;dsimp only;rw[e3,e4];exact pl
  ·refine R4.congr rfl rfl rfl ?_;rw[qo];show (jj (dY c.held p ⟨n,z,rr,b.con⟩) k).map _=(jj (dY c.held p ⟨n,z,rr,cn⟩) k).map _;rw[iU CZ,iU CZ,vo Mi,vo Mi,aG,aG];congr 1
   ·refine aN λq hq=>?_;obtain ⟨hq,iG⟩:=ji.mp hq;unfold vw;rw[ic (uv q hq iG),ic (rY q hq),ic (rY q hq)]
   ·show [vw _ (p,_)]=[vw _ (p,_)]
    unfold vw;dsimp only;rw[fD,fD]
end
end Rm
namespace Rm
open Kg45 (State Run Ask)
open Given (Prog)
open PySem (Addr)
def BH(c:HC)(z r:Int):HC×List Ask:=if gw c z r=true then (match c.pg.run r with
 |some q=>(IW c z ((bM c.small z).getD []) q,(gM c.pg q).2.2)
 |none=>(c,[])) else (c,[])
def pG(z:Int):List Int->HC->HC×List Ask
 |[],c=>(c,[])
 |r::l,c=>((pG z l (BH c z r).1).1,(BH c z r).2++(pG z l (BH c z r).1).2)
def sr:List Int->HC->HC×List Ask
 |[],c=>(c,[])
 |z::zs,c=>((sr zs (pG z ((bM c.small z).getD []) c).1).1,(pG z ((bM c.small z).getD []) c).2++(sr zs (pG z ((bM c.small z).getD []) c).1).2)
theorem JT{c:HC}{z r:Int}:(BH c z r).1.held=c.held:=by
 unfold BH;split
 ·split<;>rfl
 ·rfl
theorem Em{c c':HC}(h:c'.held=c.held)(z r:Int):gw c' z r=gw c z r:=by
 unfold gw;rw[Cq h]
def Mb(S:bg)(k:Nat):List Nat:=(((jB S k).filter λr=>r.used==[]).map jr).mergeSort
section
variable{m:Addr->iJ}
theorem Rel.trR{c:HC}{S:bg}(R:Rel c m S){r:bN}(hr:r∈S.smalls):
  ∃q l,q∈c.pg.runs/\q.first=r.page/\c.pg.run (r.page:Nat)=some q/\bM c.small (ai r.kind:Nat)=some l/\((r.page:Nat):Int)∈l/\l.length<=90000/\
   BH c (ai r.kind:Nat) (r.page:Nat)=if gw c (ai r.kind:Nat) (r.page:Nat)=true then (IW c (ai r.kind:Nat) l q,(gM c.pg q).2.2) else (c,[]):=by
 obtain ⟨q,hq,e1,e2⟩:=R.DH hr;obtain ⟨l,h1,h2,h3⟩:=R.sat r.kind (R.kind r hr);have AW:c.pg.run (r.page:Nat)=some q:=by rw[<-e1];exact R.ok.Ax hq
 obtain ⟨l',g1,g2,g3⟩:=R.JK.at_ _ (Ar (R.kind r hr));rw[h1] at g1;cases g1;refine ⟨q,l,hq,e1,AW,h1,(h3 _).mpr ⟨r,hr,rfl,rfl⟩,g2,?_⟩;unfold BH;rw[AW,h1];rfl
theorem Rel.VS{k:Nat}(hk:k<40)(f:bg->fL cX)(rest:List Nat){rs:List Int}:∀(l:List Int) {c:HC} {S:bg} (R:Rel c m S) (i:Nat),l.Nodup->(∀x∈l,∃r∈S.smalls,r.kind=k/\x=r.page)->
  ∃S',d_ (rD ((l.filter (gw c (ai k:Nat))).map jV++rest) S f) (rD rest S' f) rs i (pG (ai k:Nat) l c).2/\Rel (pG (ai k:Nat) l c).1 m S'/\(∀j,j≠k->jB S' j=jB S j)/\(pG (ai k:Nat) l c).2.length+(pG (ai k:Nat) l c).1.pg.pages<=c.pg.pages/\(pG (ai k:Nat) l c).1.held=c.held
 |[],c,S,R,i,_,_=>⟨S,.refl,R,λ_ _=>rfl,by simp [pG],rfl⟩
 |x::l,c,S,R,i,hn,hx=>by
  obtain ⟨n1,n2⟩:=b9.mp hn;obtain ⟨r,hr,rk,rfl⟩:=hx x aJ;subst rk;obtain ⟨q,l0,hq,e1,AW,h1,hm,UX,et⟩:=R.trR hr;unfold pG;rw[bU];cases ee:gw c (ai r.kind:Nat) (r.page:Nat) with
  |false=>
   rw[ee] at et;rw[if_neg (by decide)] at et⊢;rw[et];obtain ⟨S',p1,p2,p3,p4,p5⟩:=Rel.VS hk f rest l R i n2 (λy hy=>hx y (aB _ hy));exact ⟨S',by simpa using p1,p2,p3,by simpa using p4,p5⟩
  |true=>
   rw[ee] at et;rw[if_pos rfl] at et⊢;rw[et];dsimp only
   have hu:r.used=[]:=by
    have:=R.sJ hr;rw[ee] at this;exact of_decide_eq_true this.symm
   have R1:=R.zM hr hu hq e1 h1;have pl:=o5 (S:={S with smalls:=S.smalls.filter λx=>x.page !=r.page}) (s:=c.pg) (r:=q) R.pg R.ok hq (f:=λt=>rD ((l.filter (gw c (ai r.kind:Nat))).map jV++rest) t f) (rs:=rs) (i:=i);have hh:(IW c (ai r.kind:Nat) l0 q).held=c.held:=rfl;have ef:l.filter (gw (IW c (ai r.kind:Nat) l0 q) (ai r.kind:Nat))=l.filter (gw c (ai r.kind:Nat)):=ki λy hy=>Em hh _ _
   obtain ⟨S',p1,p2,p3,p4,p5⟩:=Rel.VS hk f rest l R1 (i+(gM c.pg q).2.2.length) n2 (λy hy=>by
    obtain ⟨r',m9,k',rfl⟩:=hx y (aB _ hy);refine ⟨r',bu.mpr ⟨m9,?_⟩,k',rfl⟩;simp only[bne_iff_ne,ne_eq];intro z;exact n1 (by rw[<-z];exact hy))
   rw[ef] at p1;refine ⟨S',?_,p2,λj hj=>(p3 j hj).trans ?_,?_,p5.trans hh⟩
   ·rw[aI,qS,aU];rw[e1] at pl;exact pl.trans p1
   ·unfold jB;show (S.smalls.filter λx=>x.page !=r.page).filter _=_;rw[List.filter_filter];refine ki λy hy=>?_
    by_cases Ce:y.kind=j
    ·have:y.page≠r.page:=λz=>hj (by rw[<-Ce,R.nK hy hr z]);simp [Ce,this]
    ·simp [Ce]
   ·have gc:=Cp R.ok hq;have p4':(pG (ai r.kind:Nat) l (IW c (ai r.kind:Nat) l0 q)).2.length+(pG (ai r.kind:Nat) l (IW c (ai r.kind:Nat) l0 q)).1.pg.pages<=(gM c.pg q).1.pages:=p4;rw[aE];omega
theorem Rel.Qo{c:HC}{S:bg}(R:Rel c m S){k:Nat}{l:List Int}(hk:k<40)(h2:l.Pairwise (·<·))(h3:∀x:Int,x∈l↔∃r∈S.smalls,r.kind=k/\x=r.page):(l.filter (gw c (ai k:Nat))).map jV=Mb S k:=by
 have Wm:∀x∈l,0<=x:=λx hx=>by obtain ⟨r,_,_,rfl⟩:=(h3 x).mp hx;omega
 have s1:((l.filter (gw c (ai k:Nat))).map jV).Pairwise (·<·):=by
  rw[eU];have h4:=h2.sublist (dM (p:=gw c (ai k:Nat)) (l:=l));refine vB (λ{a b} ha hb h=>?_) h4;have:=Wm a (bu.mp ha).1;have:=Wm b (bu.mp hb).1;omega
 have s2:(Mb S k).Pairwise (·<=·):=by
  have:=jq (le:=λa b:Nat=>decide (a<=b)) (λa b c h1 h2=>by simp only[decide_eq_true_eq] at*;omega) (λa b=>by simp only[gv,decide_eq_true_eq];omega) (((jB S k).filter λr=>r.used==[]).map jr);exact this.imp λh=>of_decide_eq_true h
 have nd2:(Mb S k).Nodup:=by
  refine ((iy _ _).nodup_iff).mpr ?_;exact R.xP.sublist ((dM.trans dM).map _)
 have nd1:((l.filter (gw c (ai k:Nat))).map jV).Nodup:=s1.imp λh e=>by omega
 refine ((oK nd1 nd2).mpr λa=>?_).eq_of_pairwise (λa b _ _ h1 h2=>Nat.le_antisymm h1 h2) (s1.imp λh=>dR h) s2;unfold Mb;rw[(iy _ _).mem_iff,aq,aq];constructor
 ·rintro ⟨x,hx,rfl⟩;obtain ⟨hx,he⟩:=bu.mp hx;obtain ⟨r,hr,rk,rfl⟩:=(h3 x).mp hx;subst rk;rw[R.sJ hr] at he;refine ⟨r,bu.mpr ⟨bu.mpr ⟨hr,by simp⟩,?_⟩,by rw[aU]⟩;rw[of_decide_eq_true he];rfl
 ·rintro ⟨r,hr,rfl⟩;obtain ⟨kr,hu⟩:=bu.mp hr;obtain ⟨AY,rk⟩:=bu.mp kr;have rk':r.kind=k:=by simpa using rk
  subst rk';refine ⟨(r.page:Nat),bu.mpr ⟨(h3 _).mpr ⟨r,AY,rfl,rfl⟩,?_⟩,aU _⟩;rw[R.sJ AY];exact decide_eq_true (by simpa using hu)
theorem Rel.WQ(f:bg->fL cX){rs:List Int}:∀(ks:List Nat) {c:HC} {S:bg} (R:Rel c m S) (i:Nat),ks.Nodup->(∀k∈ks,k<40)->
  ∃S',d_ (rD (ks.flatMap (Mb S)) S f) (f S') rs i (sr (ks.map λk=>((ai k:Nat):Int)) c).2/\Rel (sr (ks.map λk=>((ai k:Nat):Int)) c).1 m S'/\(sr (ks.map λk=>((ai k:Nat):Int)) c).2.length+(sr (ks.map λk=>((ai k:Nat):Int)) c).1.pg.pages<=c.pg.pages
 |[],c,S,R,i,_,_=>⟨S,.refl,R,by simp [sr]⟩
 |k::ks,c,S,R,i,hn,hk=>by
  obtain ⟨n1,n2⟩:=b9.mp hn;have zE:=hk k aJ;obtain ⟨l,h1,h2,h3⟩:=R.sat k zE;obtain ⟨S1,p1,p2,p3,p4,_⟩:=Rel.VS zE f (ks.flatMap (Mb S)) l R i (rs:=rs) (h2.imp λh e=>by omega) (λx hx=>(h3 x).mp hx);rw[R.Qo zE h2 h3] at p1
  have e:ks.flatMap (Mb S)=ks.flatMap (Mb S1):=pS λj hj=>by
   unfold Mb;rw[p3 j λz=>n1 (by rw[<-z];exact hj)]
  rw[e] at p1;rw[aI];unfold sr;rw[h1];simp only[Option.getD_some];obtain ⟨S',q1,q2,q3⟩:=Rel.WQ f ks p2 (i+(pG (ai k:Nat) l c).2.length) n2 (λj hj=>hk j (aB _ hj)) (rs:=rs);refine ⟨S',?_,q2,?_⟩
  ·rw[dQ,e];exact p1.trans q1
  ·rw[aE];omega
theorem xu:aV=(bX 40).map λk=>((ai k:Nat):Int):=by decide+kernel
def Ov(c:HC):HC:={c with pg:=(fS 0 (c.pg.free.length+1) c.pg 0).1}
def SA(c:HC):List Ask:=(fS 0 (c.pg.free.length+1) c.pg 0).2.2
def ze(c:HC):HC×List Ask:=(Ov (sr aV c).1,(sr aV c).2++SA (sr aV c).1)
theorem EY{S:bg}{s:State}(h:S.pages=some s):oj S=(s.went:Int):=by
 unfold oj;rw[h];rfl
theorem Ds(s:State):gG (some s) (.trim 0)=Dh s 0 λt n=>.done (some t) (d8 n):=rfl
theorem Rel.Sz{c:HC}{S:bg}(R:Rel c m S){rs:List Int}{i:Nat}(F:bg->jM->fL cX)(hF:∀t a b,F t a=F t b):d_ (lN S (.trim 0) F) (F {S with pages:=some (Ov c).pg} (d8 0)) rs i (SA c)/\Rel (Ov c) m {S with pages:=some (Ov c).pg}/\(SA c).length<=c.pg.pages:=by
 have p2:d_ (gG S.pages (.trim 0)) (.done (some (Ov c).pg) (d8 (fS 0 (c.pg.free.length+1) c.pg 0).2.1)) rs i (SA c):=by
  rw[R.pg,Ds];exact qc _ _ _ _ _
 have ok:=R.ok.trimmed (k:=0) (c.pg.free.length+1) _ 0;have tc:=rJ (k:=0) (c.pg.free.length+1) c.pg 0 R.ok;have kp:=(mH (k:=0) (c.pg.free.length+1) c.pg 0).1;refine ⟨(i7 p2).to (hF _ _ _),?_,?_⟩
 ·exact R.DP (mk:=c.qY) ok (by rw[kp]) λg hg=>(R.great g hg).2.1
 ·have:c.pg.pages=aK c.pg.free+(c.pg.runs.map Run.pages).sum:=rfl;unfold SA;omega
theorem GV(S:bg):bI (some S) .trim=rD ((bX 40).flatMap (Mb S)) S (λt=>lN t (.trim 0) λu _=>.done (some u) (aZ (oj u-oj S))):=rfl
theorem Rel.trim{c:HC}{S:bg}(R:Rel c m S){rs:List Int}{i:Nat}:∃S',d_ (bI (some S) .trim) (.done (some S') (aZ (((ze c).1.pg.went:Int)-c.pg.went))) rs i (ze c).2/\Rel (ze c).1 m S'/\(ze c).2.length<=16384/\(sr aV c).2.length<=16384:=by
 obtain ⟨S1,p1,R1,p3⟩:=Rel.WQ (λt=>lN t (.trim 0) λu _=>.done (some u) (aZ (oj u-oj S))) (bX 40) R i w_ (λk hk=>e9.mp hk) (rs:=rs);rw[<-xu] at p1 R1 p3;rw[GV];unfold ze;generalize sr aV c=X at p1 R1 p3⊢;obtain ⟨c1,qs⟩:=X;dsimp only at p1 R1 p3⊢;have hp:=R.ok.Fv;obtain ⟨q1,q2,q3⟩:=R1.Sz (rs:=rs) (i:=i+qs.length) (λu _=>.done (some u) (aZ (oj u-oj S))) (λ_ _ _=>rfl);refine ⟨{S1 with pages:=some (Ov c1).pg},?_,q2,?_,?_⟩
 ·refine (p1.trans q1).to ?_;rw[EY R.pg,EY (S:={S1 with pages:=some (Ov c1).pg}) rfl]
 ·rw[aE];omega
 ·omega
end
end Rm
namespace Rm
open Kg45 (State Run Ask)
open Given (Prog)
open PySem (Addr)
section
variable{c:HC}{m:Addr->iJ}{S:bg}
def K5(c:HC)(p:Int):List Int:=[p,(((bM c.held p).map λb=>((b.size:Nat):Int)).getD 0)]
theorem Rel.keys(R:Rel c m S):lB (c.held.map (·.1))=S.blocks.map λb=>(b.place:Int):=by
 have p:(S.blocks.map λb=>(b.place:Int)).Perm (c.held.map (·.1)):=by
  have:=R.blocks.map (λx:Int×Nat×Nat=>x.1);rw[ay,ay] at this;exact this
 refine (x9 p ?_).symm;rw[eU];have:=jq (le:=yD) (λa b c h1 h2=>by unfold yD at*;simp only[decide_eq_true_eq] at*;omega) (λa b=>by unfold yD;simp only[gv,decide_eq_true_eq];omega) ((S.smalls.flatMap CS)++(S.greats.map λ(g:dX)=>(⟨g.page*a_,g.size,g.pages*a_⟩:Jg)));refine List.Pairwise.imp (λ{a b} h=>?_) this;unfold yD at h;have:=of_decide_eq_true h;omega
theorem Rel.K5(R:Rel c m S){b:Jg}(h:b∈S.blocks):Rm.K5 c b.place=[(b.place:Int),(b.size:Int)]:=by
 obtain ⟨q,hq,e⟩:=aq.mp (R.blocks.mem_iff.mp (aH h));have e1:q.1=(b.place:Int):=congrArg (·.1) e;have e2:q.2.size=b.size:=congrArg (·.2.1) e;unfold Rm.K5;rw[<-e1,d7 R.lu hq];show [q.1,((q.2.size:Nat):Int)]=_;rw[e2,e1]
theorem Rel.listed(R:Rel c m S)(a n:Nat):(((lB (c.held.map (·.1))).drop a).take n).flatMap (Rm.K5 c)=((S.blocks.drop a).take n).flatMap λb=>[(b.place:Int),(b.size:Int)]:=by
 rw[R.keys,<-List.map_drop,<-Bm,xh];exact pS λb hb=>R.K5 (tE (jc hb))
theorem Rel.count(R:Rel c m S):S.blocks.length=c.held.length:=by
 have:=R.blocks.length_eq;rw[aj,aj] at this;exact this
theorem Ek(S:bg):(flat S).map (λx=>x.2.2.1)=(S.smalls.flatMap λr=>bJ r.used.length (ai r.kind))++S.greats.map λg=>g.pages*4096:=by
 unfold flat;rw[aG,qQ,ay];congr 1;refine pS λr _=>?_;unfold sS;rw[ay];exact List.map_const' ..
theorem Rel.rooms(R:Rel c m S):(c.held.map λq=>q.2.room).Perm ((S.smalls.flatMap λr=>bJ r.used.length (ai r.kind))++S.greats.map λg=>g.pages*4096):=by
 rw[<-Ek];have:=R.perm.map (λx:BR=>x.2.2.1);rw[ay] at this;exact this
theorem Cy{k z:Nat}:∀{l:List bN},(∀r∈l,ai r.kind=z↔r.kind=k)->(l.flatMap λr=>bJ r.used.length (ai r.kind)).count z=((l.filter λr=>r.kind==k).map λr=>r.used.length).sum
 |[],_=>rfl
 |r::l,h=>by
  rw[dQ,List.count_append,List.count_replicate,Cy λx hx=>h x (aB _ hx),bU];have hr:=h r aJ
  by_cases e:r.kind=k
  ·rw[if_pos (by simpa using hr.mpr e),if_pos (by simpa using e),aI,fG]
  ·rw[if_neg (by simpa using λz=>e (hr.mp z)),if_neg (by simpa using e),Nat.zero_add]
theorem Rel.Rz(R:Rel c m S){k:Nat}(hk:k<40):(c.held.map λq=>q.2.room).count (ai k)=((jB S k).map λr=>r.used.length).sum:=by
 rw[R.rooms.count_eq,List.count_append,Cy (k:=k) λr hr=>⟨λe=>Jr (R.kind r hr) hk e,λe=>by rw[e]⟩]
 have:(S.greats.map λg=>g.pages*4096).count (ai k)=0:=by
  rw[List.count_eq_zero];intro z;obtain ⟨g,hg,e⟩:=aq.mp z;have:=(R.great g hg).1;have:=(vD hk).2;omega
 rw[this];rfl
theorem Rel.TQ(R:Rel c m S){k:Nat}{l:List Int}(h2:l.Pairwise (·<·))(h3:∀x:Int,x∈l↔∃r∈S.smalls,r.kind=k/\x=r.page):l.length=(jB S k).length:=by
 have p:l.Perm ((jB S k).map λr=>(r.page:Int)):=by
  refine (oK (h2.imp λh e=>by omega) ?_).mpr λx=>?_
  ·have h:=R.xP.sublist ((dM (p:=λr:bN=>r.kind==k) (l:=S.smalls)).map jr);unfold uP at h⊢;rw[eU] at h⊢;exact h.imp λh e=>h (by omega)
  ·rw[h3,aq];constructor
   ·rintro ⟨r,hr,rk,rfl⟩;exact ⟨r,bu.mpr ⟨hr,by simpa using rk⟩,rfl⟩
   ·rintro ⟨r,hr,rfl⟩;obtain ⟨hr,rk⟩:=bu.mp hr;exact ⟨r,hr,by simpa using rk,rfl⟩
 rw[p.length_eq,aj]
theorem Rel.RA(R:Rel c m S):((c.held.map λq=>q.2.room).filter λz=>decide (32768<z)).length=S.greats.length:=by
 rw[(R.rooms.filter _).length_eq,Jc,aE]
 have e1:(S.smalls.flatMap λr=>bJ r.used.length (ai r.kind)).filter (λz=>decide (32768<z))=[]:=by
  rw[rC];intro z hz;obtain ⟨r,hr,hz⟩:=dF.mp hz;rw[(Ja.mp hz).2];have:=(vD (R.kind r hr)).2;simp only[decide_eq_true_eq];omega
 have e2:(S.greats.map λg=>g.pages*4096).filter (λz=>decide (32768<z))=S.greats.map λg=>g.pages*4096:=by
  rw[n_];intro z hz;obtain ⟨g,hg,rfl⟩:=aq.mp hz;have:=(R.great g hg).1;simp only[decide_eq_true_eq];omega
 rw[e1,e2,aj];simp
def Ik(c:HC):List Int:=(aV.flatMap λz=>[((((bM c.small z).getD []).length:Nat):Int),(((c.held.map λq=>((q.2.room:Nat):Int)).count z:Nat):Int)])++[((((c.held.map λq=>q.2.room).filter λz=>decide (32768<z)).length:Nat):Int)]
theorem count_cast{l:List Nat}{z:Nat}:(l.map λ(n:Nat)=>(n:Int)).count (z:Int)=l.count z:=by
 induction l with
 |nil=>rfl
 |cons a l ih=>
  rw[aI,List.count_cons,List.count_cons,ih];congr 1
  by_cases e:a=z
  ·subst e;simp
  ·rw[if_neg (show¬(((a:Int)==(z:Int))=true) by simp only[beq_iff_eq];omega),if_neg (show¬((a==z)=true) by simpa using e)]
theorem xw{α:Type}(l:List α)(f:α->Nat):(l.map λr=>(f r:Int)).sum=(((l.map f).sum:Nat):Int):=by
 induction l with
 |nil=>rfl
 |cons a l ih=>rw[aI,aI,fG,fG,ih,Int.natCast_add]
theorem Rel.counts(R:Rel c m S):bI (some S) .counts=.done (some S) ⟨0,Ik c⟩:=by
 show Prog.done (some S) (⟨0,((bX 40).flatMap λk=>[((jB S k).length:Int),((jB S k).map λr=>(r.used.length:Int)).sum])++[(S.greats.length:Int)]⟩:cX)=_;congr 2;unfold Ik;rw[R.RA,xu,xh];congr 1;refine pS λk hk=>?_;have zE:=e9.mp hk;obtain ⟨l,h1,h2,h3⟩:=R.sat k zE;rw[h1];have e:(c.held.map λq=>((q.2.room:Nat):Int))=(c.held.map λq=>q.2.room).map λ(n:Nat)=>(n:Int):=by rw[ay];rfl
 rw[e,count_cast,R.Rz zE];show _=[((l.length:Nat):Int),_]
 rw[R.TQ h2 h3,xw]
def GZ(c:HC):List Int:=[(c.held.length:Int),(((c.held.map λq=>q.2.size).sum:Nat):Int),(((c.held.map λq=>q.2.room).sum:Nat):Int),(((c.pg.runs.map Run.pages).sum:Nat):Int)*4096]++Js c.pg
theorem Rel.sums(R:Rel c m S):bI (some S) .sums=.done (some S) ⟨0,GZ c⟩:=by
 have e1:=R.count
 have e2:(S.blocks.map ER).sum=(c.held.map λq=>q.2.size).sum:=by
  have:=(R.blocks.map (λx:Int×Nat×Nat=>x.2.1)).sum_nat;rw[ay,ay] at this;exact this
 have e3:(S.blocks.map ES).sum=(c.held.map λq=>q.2.room).sum:=by
  have:=(R.blocks.map (λx:Int×Nat×Nat=>x.2.2)).sum_nat;rw[ay,ay] at this;exact this
 have e4:((S.smalls.map λr=>cg (ai r.kind)*a_).sum+(S.greats.map λg=>g.pages*a_).sum)=(c.pg.runs.map Run.pages).sum*4096:=by
  have h:=(R.runs.map (λx:Nat×Nat=>x.2)).sum_nat;rw[ay,aG,ay,ay,List.sum_append] at h
  have hm:∀(α:Type) (l:List α) (f:α->Nat),(l.map λx=>f x*4096).sum=(l.map f).sum*4096:=λα l f=>by
   induction l with
   |nil=>rfl
   |cons a l ih=>rw[aI,aI,fG,fG,ih,jG]
  have h1:=hm _ S.smalls λr=>cg (ai r.kind);have h2:=hm _ S.greats λg=>g.pages;have h3:((S.smalls.map ((λx:Nat×Nat=>x.2)∘uX)).sum)=(S.smalls.map λr=>cg (ai r.kind)).sum:=rfl;have h4:((S.greats.map ((λx:Nat×Nat=>x.2)∘vE)).sum)=(S.greats.map λg=>g.pages).sum:=rfl;have h5:((c.pg.runs.map ((λx:Nat×Nat=>x.2)∘rowOf)).sum)=(c.pg.runs.map Run.pages).sum:=rfl;have h6:(S.smalls.map λr=>cg (ai r.kind)*a_).sum=(S.smalls.map λr=>cg (ai r.kind)*4096).sum:=rfl;have h7:(S.greats.map λg=>g.pages*a_).sum=(S.greats.map λg=>g.pages*4096).sum:=rfl;omega
 show Prog.done (some S) (⟨0,[(S.blocks.length:Int),((S.blocks.map ER).sum:Nat),((S.blocks.map ES).sum:Nat),(((S.smalls.map λr=>cg (ai r.kind)*a_).sum+(S.greats.map λg=>g.pages*a_).sum:Nat):Int)]++(dJ S.pages .sums).2.out⟩:cX)=_;rw[e1,e2,e3,e4,R.pg];congr 2
end
end Rm
namespace Rm
open PySem L2
section
variable{P:Program}{w:World}{K:au}{mg:Str->Option Value}{base:Heap}{A:gI}
theorem eB.VX{H:Hp}{τ:Tg}{h:Addr}{c:HC}{iE:PS}(x:eB A H τ h c)(s:tu c.pg iE):eB A H τ h {c with pg:=iE}:=by
 obtain ⟨dx,p,hd,sd,kh,ks,h1,t1,h2,h3,h4,t3,h5,h6,t5⟩:=x.ex;obtain ⟨zm,f,r,kvs,gY,p1,p2,p3,p4,p5,u1,u2,u3⟩:=h2.ex;refine ⟨dx,p,hd,sd,kh,ks,h1,t1,⟨zm,f,r,kvs,gY,?_,?_,p3,p4,?_,u1,u2,u3⟩,h3,h4,t3,h5,h6,t5⟩
 ·show H p=some (.ins _ _ (pf iE f r));rw[s.eq];exact p1
 ·show kF H f (cV iE.free);rw[s.eq];exact p2
 ·show gY.Perm (cV (iE.runs.map rowOf));rw[s.rowOf];exact p5
structure ja(A:gI)(H:Hp)(τ:Tg)(h:Addr)(c:HC)(m:Addr->iJ):Prop where
 hs:eB A H τ h c
 con:∀q∈c.held,fP A H τ q.2.con (m q.2.con)
 cd:(c.held.map λq=>q.2.con).Nodup
theorem ja.OY{H:Hp}{τ:Tg}{h:Addr}{c:HC}{m:Addr->iJ}(x:ja A H τ h c m){k:Int}{b:lD}(hb:bM c.held k=some b):∀q∈c.held,q.1≠k->q.2.con≠b.con:=λq hq iG e=>iG (by
 have:=jE x.cd hq (eN hb) e;rw[this])
theorem ja.same{H H':Hp}{τ:Tg}{h:Addr}{c:HC}{m:Addr->iJ}(x:ja A H τ h c m)(s:cY H H'):ja A H' τ h c m:=⟨x.hs.same s,λq hq=>(x.con q hq).same s,x.cd⟩
theorem fP.live{H:Hp}{τ:Tg}{c:Addr}{p:iJ}(x:fP A H τ c p):H c≠none:=by
 obtain ⟨dx,d,kvs,h1,_⟩:=x.ex;rw[h1];exact λz=>nomatch z
theorem qe{c:Addr}:¬TD (.con c):=id
theorem qd{c:Addr}:¬TD (.DQ c):=id
theorem Dv{c:Addr}:¬TH (.con c):=id
theorem Du{c:Addr}:¬TH (.DQ c):=id
def PJ(A:gI):Sp:=λvs H Q _=>∃(τ:Tg) (h:Addr) (c:HC) (g:Addr) (rs:List Int) (q0:List (List Int)) (k:Int) (b:lD) (r:e_) (a bx:Addr) (n:Nat),vs=[.ref h,.ref a,.int n,.ref g]/\Al τ H/\eB A H τ h c/\b6 c.pg/\(c.held.map (·.1)).Nodup/\bB A H τ g rs q0/\q0.length<=900000/\
 bM c.held k=some b/\H a=some (.ins (A.cl .bD) bx (bf b))/\τ a=.rm k/\HeldAt A H τ h k a/\r∈c.pg.runs/\r.first=b.run/\(32768<b.room->b.room=r.pages*4096/\c.qY b.run=0)/\
 ∀H' τ',dS TH τ τ' H H'->eB A H' τ' h (wu c k b r n).1->bB A H' τ' g rs (q0++(wu c k b r n).2.2.map aO)->Q (.bl (wu c k b r n).2.1) H'
theorem Xv:bF ["self","block","size","given"] ["self","block","size","given"] (aY (Fn.st .jx)):=fs
theorem NF(T:Txt A K mg):dU P w K mg base (l8 P w) 5 (A.f .jx) (A.fd .jx) ["self","block","size","given"] (PJ A):=by
 refine rT (T.fn .jx) Xv (λvs H Q E h=>?_) (λgX B outer sh H vs Q E hr h=>?_)
 ·obtain ⟨τ,h,c,g,rs,q0,k,b,r,a,bx,n,rfl,_⟩:=h;rfl
 ·obtain ⟨τ,h,c,g,rs,q0,k0,b,rr,a,bx,n,rfl,al,hh,cI,lu,hg,rj,hb,ha,ta,hv,vN,qB,IU,k⟩:=h;have CB:=T.cls .bD;have NB:∀f,f∈j9 .bD->ek K (A.cl .bD) f:=T.na .bD;obtain ⟨dx,p,hd,sd,kh,ks,h1,t1,h2,h3,h4,t3,h5,h6,t5⟩:=id hh.ex
  refine ⟨_,ao (fC (AF (oU (jZ (pv 1) (T.cls .bD) (T.me .i8 .bD rfl rfl) (zA T) (hr.mono (by decide)) (T.bn .i8) .nil c_)))
    (aF (bT (nE lA (dh (xQ T) (hr.mono (by decide)) rfl (T.o_ .g9 rfl) (T.fn .g9).kp (T.bn .g9) .nil c_ (aa (pv 2) (aa (pk 16 T) aA))) (bz (pv 1) rfl) (dH _)))) cZ)<|
   aF (bT (AK (nE pK (pv 2) (pk 32768 T) (dH _)) (AI (bK (pv 0) (T.cls .aD) (T.me .jw .aD rfl rfl) (Qt T) hr (T.bn .jw) .nil dP (aa (pv 1) (aa (dh (vG T) (hr.mono (by decide)) rfl (T.o_ .fY rfl) (T.fn .fY).kp (T.bn .fY) .nil c_ (aa (pv 2) aA)) (aa (pv 3) aA))))))),?_⟩
  refine ⟨_,rfl,a,bx,_,rfl,ha,rfl,a,bx,b,rfl,ha,_,rfl,?_⟩
  by_cases c1:32768<b.room
  ·rw[decide_eq_true c1];refine mJ ?_;refine ⟨_,rfl,_,_,rfl,rfl,_,rfl,?_⟩;have ec:wu c k0 b rr n=if 32768<n then CU c k0 b rr (bZ n) else (c,false,[]):=if_pos c1
   by_cases c2:32768<n
   ·rw[if_pos c2] at ec;rw[ec] at k;have ed:decide ((32768:Int)<(n:Int))=true:=decide_eq_true (by omega);show if decide ((32768:Int)<(n:Int))=true then _ else _
    rw[ed];refine lg ?_;have ZU:(((n:Int)+4096-1)/4096)=((bZ n:Nat):Int):=by unfold bZ;omega
    refine ⟨_,rfl,h,dx,_,rfl,h1,rfl,_,rfl,_,rfl,_,rfl,?_⟩;rw[ZU];exact ⟨_,rfl,τ,h,c,g,rs,q0,k0,b,rr,a,bx,bZ n,rfl,al,hh,cI,lu,hg,rj,by unfold bZ;omega,hb,ha,ta,hv,vN,qB,(IU c1).1,(IU c1).2,k⟩
   ·rw[if_neg c2] at ec;rw[ec] at k;have ed:decide ((32768:Int)<(n:Int))=false:=decide_eq_false (by omega);show if decide ((32768:Int)<(n:Int))=true then _ else _
    rw[ed];exact mJ (k H τ (.refl id al) hh (by simpa using hg))
  ·rw[decide_eq_false c1];refine lg ?_;have ec:wu c k0 b rr n=(c,decide (nR n 16=some (b.room:Int)),[]):=if_neg c1;rw[ec] at k;refine ⟨_,rfl,n,16,rfl,by decide,_,rfl,a,_,bx,_,_,rfl,ha,CB,NB "room" (by decide),rfl,?_⟩;have k':=k H τ (.refl id al) hh (by simpa using hg);dsimp only at k';cases ez:nR n 16 with
   |none=>
    rw[ez] at k';exact ⟨rfl,k'⟩
   |some z=>
    rw[ez] at k';refine ⟨rfl,?_⟩;have e:decide (V.int z=V.int (b.room:Int))=decide (some z=some (b.room:Int)):=decide_eq_decide.mpr ⟨λq=>by rw[V.int.inj q],λq=>by rw[bC q]⟩;show Q (.bl (decide (V.int z=V.int (b.room:Int)))) H;rw[e];exact k'
end
end Rm
namespace Rm
open PySem L2
theorem GY{s:PS}{n:Nat}{rs:List Int}{i:Nat}:(iT s n rs i).2.2.length<=2:=by
 have ha:(kW s n rs i).2.length<=2:=by
  unfold kW;split
  ·simp
  ·split<;>simp
 unfold iT;split
 ·simp
 ·split<;>exact ha
theorem BF{c:HC}{n:Nat}{k:Int}{rs:List Int}{i:Nat}:(jI c n k rs i).2.2.length<=2:=by
 unfold jI;split
 ·exact GY
 ·simp
theorem rX{c:HC}{n:Nat}{k:Int}{rs:List Int}{i:Nat}:(gA c n k rs i).2.2.length<=2:=by
 unfold gA;split
 ·exact BF
 ·unfold vg;split
  ·simp
  ·split<;>exact BF
theorem zQ{c:HC}{k:Int}{b:lD}{r:e_}{l:List Int}(h:b6 c.pg)(hr:r∈c.pg.runs):(jm c k b r l).2.length<=16385:=by
 have:=(yh h hr).2;unfold jm;split
 ·exact this
 ·split
  ·exact this
  ·simp
theorem qg{α:Type}{l:List (Int×α)}{k:Int}{x y:α}:dY (dY l k x) k y=dY l k y:=by
 cases h:bM l k with
 |some z=>exact zk h
 |none=>
  have hv:bM (dY l k x) k=some x:=by rw[fW,if_pos rfl]
  rw[iD hv,iU h,iU h,aG];congr 1
  ·refine (aN λq hq=>?_).trans (kH _);rw[if_neg λe=>(lz.mp h) (by rw[<-e];exact aH hq)];rfl
  ·simp
def TZ:Tag->Prop
 |.other=>False
 |_=>True
theorem TZ.of{T:Tag->Prop}(h:¬T .other)(t:Tag)(z:T t):TZ t:=by cases t<;>first|exact absurd z h|trivial
section
variable{P:Program}{w:World}{K:au}{mg:Str->Option Value}{base:Heap}{A:gI}
theorem dS.tz{T:Tag->Prop}{τ τ':Tg}{H H':Hp}(s:dS T τ τ' H H'):dS TZ τ τ' H H':=s.mono id (TZ.of s.no)
theorem eB.step{H H':Hp}{τ τ':Tg}{h:Addr}{c:HC}{T:Tag->Prop}(x:eB A H τ h c)(s:dS T τ τ' H H')(n1:¬T .nU)(n2:¬T .pages)(n3:¬T .free)(n4:¬T .runs)(n5:¬T .held)(n6:¬T .smalls)(n7:∀k,¬T (.rm k))(n8:∀k,¬T (.sl k)):eB A H' τ' h c:=by
 obtain ⟨dx,p,hd,sd,kh,ks,h1,t1,h2,h3,h4,t3,h5,h6,t5⟩:=x.ex;exact ⟨dx,p,hd,sd,kh,ks,s.kp t1 n1 h1,s.tg t1 h1,h2.step s n2 n3 n4,s.kp t3 n5 h3,h4.imp (mZ.step s n7),s.tg t3 h3,s.kp t5 n6 h5,h6.imp (CI.step s n8),s.tg t5 h5⟩
theorem eB.Jt{H H':Hp}{τ τ':Tg}{h:Addr}{c:HC}{cn:Addr}(x:eB A H τ h c)(s:dS (TC cn) τ τ' H H'):eB A H' τ' h c:=
 x.step s (λz=>nomatch z) (λz=>nomatch z) (λz=>nomatch z) (λz=>nomatch z) (λz=>nomatch z) (λz=>nomatch z) (λ_ z=>nomatch z) (λ_ z=>nomatch z)
theorem eB.obj{H:Hp}{τ:Tg}{h:Addr}{c:HC}{k:Int}{b:lD}(x:eB A H τ h c)(e:bM c.held k=some b):∃a bx dx p hd sd kh,H h=some (.ins (A.cl .aD) dx (hf p hd sd))/\mL H hd (.int k) (some (.ref a))/\H hd=some (.dK kh)/\H a=some (.ins (A.cl .bD) bx (bf b))/\τ a=.rm k/\HeldAt A H τ h k a:=by
 obtain ⟨dx,p,hd,sd,kh,ks,h1,t1,h2,h3,h4,t3,h5,h6,t5⟩:=x.ex;obtain ⟨v,hv,a,bx,rfl,ha,ta⟩:=h4.here e;have g1:=mL.k (k:=aW k) h3;rw[hv] at g1;exact ⟨a,bx,dx,p,hd,sd,kh,h1,g1,h3,ha,ta,dx,p,hd,sd,kh,h1,t1,h3,t3,hv⟩
def Done(A:gI)(H:Hp)(τ:Tg)(h g:Addr)(rs:List Int)(n0:Nat)(p:fL cX)(a:cX)(H':Hp):Prop:=
 ∃τ' c' m' S' qs,dS TZ τ τ' H H'/\ja A H' τ' h c' m'/\Rel c' m' S'/\c'.held.length<=n0+1/\bB A H' τ' g rs (oM aO qs)/\qs.length<=40000/\d_ p (.done (some S') a) rs 0 qs
theorem vj{H:Hp}{τ:Tg}{h:Addr}{c:HC}{m:Addr->iJ}{cn:Addr}(x:ja A H τ h c m)(hc:H cn=none):∀q∈c.held,q.2.con≠cn:=λq hq e=>(x.con q hq).live (by rw[e];exact hc)
def MN(A:gI):Sp:=λvs H Q E=>∃(τ:Tg) (h:Addr) (c:HC) (m:Addr->iJ) (S:bg) (g:Addr) (rs:List Int) (k:Int) (b:lD) (n:Nat),vs=[.ref h,.int k,.int n,.ref g]/\Al τ H/\ja A H τ h c m/\Rel c m S/\c.held.length<=900/\bB A H τ g rs []/\bM c.held k=some b/\n<=1073741824/\
 (∀H' a,Done A H τ h g rs c.held.length (g_ S ⟨k.toNat,b.size,b.room⟩ n) (aZ a) H'->Q (.int a) H')/\(∀H' o,Done A H τ h g rs c.held.length (g_ S ⟨k.toNat,b.size,b.room⟩ n) (aZ (-7)) H'->E (.ref (A.ex .dg)) o H')
theorem PY:bF ["self","place","size","given","goal","other"] ["self","place","size","given"] (aY (Fn.st .qG)):=fs
theorem szn{n:Nat}{e:Nat}(he:e<=12)(h:nR n ((2^e:Nat):Int)=none):0<n:=by
 rw[t7] at h;cases e1:fz (max n 1) (2^e) with
 |none=>have:=t8 he e1;omega
 |some k=>rw[e1] at h;cases h
theorem KG(T:Txt A K mg):dU P w K mg base (l8 P w) 9 (A.f .qG) (A.fd .qG) ["self","place","size","given"] (MN A):=by
 refine rT (T.fn .qG) PY (λvs H Q E h=>?_) (λgX B outer sh H vs Q E hr h=>?_)
 ·obtain ⟨τ,h,c,m,S,g,rs,k,b,n,rfl,_⟩:=h;rfl
 ·obtain ⟨τ,h,c,m,S,g,rs,k,b,n,rfl,al,F,R,hlen,hg,hb,hn,kQ,kE⟩:=h;have hu:=jJ hr;have CB:=T.cls .bD;have NB:∀f,f∈j9 .bD->ek K (A.cl .bD) f:=T.na .bD;have CH:=T.cls .aD;have NH:∀f,f∈j9 .aD->ek K (A.cl .aD) f:=T.na .aD;obtain ⟨eh,mv⟩:=R.move hb (n:=n) (F.OY hb) (rs:=rs) (i:=0)
  refine ⟨_,ao (bY (i:=4) PY.nd rfl (bh rfl) (bK (pv 0) (T.cls .aD) (T.me .uw .aD rfl rfl) (FE T) hr (T.bn .uw) .nil dP (aa (pv 2) (aa (pk 16 T) (aa (pv 3) aA)))))<|
   ao (bY (i:=5) PY.nd rfl (bh rfl) (ig hu (bz (pv 0) rfl) (pv 4) (λ_ _=>rfl)))<|
   ao (fU (pv 5) (bz (ig hu (bz (pv 0) rfl) (pv 1) (λ_ _=>rfl)) rfl) rfl)<|
   ao (bV (bK (bz (pv 5) rfl) (T.cls .bQ) (T.me .kJ .bQ rfl rfl) (u_ T) (hr.mono (by decide)) (T.bn .kJ) .nil c_ (aa (pv 2) (aa (pk 1073741824 T) aA))))<|
   ao (bV (bK (pv 0) (T.cls .aD) (T.me .oz .aD rfl rfl) (BY T) (hr.mono (by decide)) (T.bn .oz) .nil dP (aa (pv 1) (aa (pv 3) aA))))<|
   aF (bT (pv 4)),?_⟩
  obtain ⟨dx,p0,hd,sd,kh,ks,h1,_⟩:=id F.hs.ex;refine ⟨_,rfl,h,dx,_,rfl,h1,rfl,_,rfl,_,rfl,τ,h,c,g,rs,[],n,16,rfl,al,F.hs,R.ok,R.JK,hg,by simp,by omega,by decide,λz=>szn (e:=4) (by decide) z,R.zB,?_,?_⟩
  ·intro H1 τ1 p z r cn ey S1 G1 C1 rY m_;have El:(gA c n 16 rs 0).2.1=some (p,z,r):=ey;rcases mv with ⟨_,en,_⟩|⟨p',z',r',Rq,YW,Mi,CZ,mv⟩
   ·rw[en] at El;cases El
   rw[Rq] at El;cases El;obtain ⟨Hr,rr,sm,V9,W5,bi,fin⟩:=mv cn (vj F rY)
   have G1':eB A H1 τ1 h {(gA c n 16 rs 0).1 with held:=dY c.held p ⟨n,z,r,cn⟩}:=by
    have:eB A H1 τ1 h {(gA c n 16 rs 0).1 with held:=dY (gA c n 16 rs 0).1.held p ⟨n,z,r,cn⟩}:=G1;rw[eh] at this;exact this
   have hvp:bM (dY c.held p ⟨n,z,r,cn⟩) p=some ⟨n,z,r,cn⟩:=by rw[fW,if_pos rfl]
   have UA:∀x:lD,bM (dY c.held p x) k=some b:=λx=>by rw[fW,if_neg Mi.symm];exact hb
   obtain ⟨a,bx,WE,p1,C8,sd1,kh1,OT,dg1,_,wU,SG,Wz⟩:=G1'.obj (k:=p) hvp;obtain ⟨a2,bx2,Rx,p2,hd2,Th,Yk,hH2,dg2,_,Wy,ta2,_⟩:=G1'.obj (k:=k) (UA _);refine ⟨_,rfl,h,_,WE,_,_,rfl,OT,CH,NH "held" (by decide),rfl,_,rfl,C8,_,rfl,dg1,?_⟩;refine ⟨_,rfl,h,_,Rx,_,_,rfl,hH2,CH,NH "held" (by decide),rfl,_,rfl,hd2,_,rfl,dg2,a2,_,bx2,_,_,rfl,Wy,CB,NB "content" (by decide),rfl,_,rfl,a,_,bx,_,rfl,wU,CB,NB "content" (by decide),aR rfl,?_⟩;obtain ⟨S2,G2⟩:=eB.setB (A:=A) (b':=⟨n,z,r,b.con⟩) S1.gW G1' (j6 R.lu) hvp wU SG Wz;have cC:fP A H1 τ1 b.con (m b.con):=(F.con _ (eN hb)).step S1 qe qd;show Jq _ _ _ _ (upd H1 a (.ins (A.cl .bD) bx (bf ⟨n,z,r,b.con⟩)));have lS:=m_.step S2 (λz=>nomatch z);have c2:fP A (upd H1 a (.ins (A.cl .bD) bx (bf ⟨n,z,r,b.con⟩))) τ1 b.con (m b.con):=cC.step S2 (λz=>nomatch z) (λz=>nomatch z);have N8:upd H1 a (.ins (A.cl .bD) bx (bf ⟨n,z,r,b.con⟩)) a=some (.ins (A.cl .bD) bx (bf ⟨n,z,r,b.con⟩)):=ak;generalize upd H1 a (.ins (A.cl .bD) bx (bf ⟨n,z,r,b.con⟩))=H2 at S2 G2 lS c2 N8⊢;dsimp only at G2;rw[qg] at G2;obtain ⟨cx,cd,WH,Lq,_⟩:=id c2.ex;refine ⟨_,rfl,a,_,bx,_,_,rfl,N8,CB,NB "content" (by decide),rfl,b.con,cx,_,rfl,Lq,rfl,_,rfl,τ1,b.con,m b.con,n,1073741824,rfl,S2.gW,c2,R.pc _ (eN hb),by omega,λH3 m' S3 C3 XX e3=>?_⟩;obtain ⟨S',pl,R'⟩:=fin m' XX e3;have G3:=(G2.Jt S3).VX (iE:=Hr) sm;have sR:=lS.step S3 (λz=>nomatch z);obtain ⟨Oe,p3,Va,W8,Yj,ks3,Sm,_⟩:=id G3.ex;refine ⟨_,rfl,h,Oe,_,rfl,Sm,rfl,_,rfl,_,rfl,τ1,h,_,g,rs,_,k,b,rr,_,rfl,S3.gW,G3,V9,W5,sR,?_,UA _,bi,λH4 τ4 S4 G4 wR=>?_⟩
   ·have:=rX (c:=c) (n:=n) (k:=16) (rs:=rs) (i:=0);show (([]:List (List Int))++oM aO (gA c n 16 rs 0).2.2).length<=900000;rw[lG,aj];omega
   refine ⟨_,rfl,kQ H4 p ⟨τ4,_,qW m b.con m',S',_,(S1.tz).trans ((S2.tz).trans ((S3.tz).trans (S4.tz))),⟨G4,?_,?_⟩,R',?_,?_,?_,pl⟩⟩
   ·intro q hq;rw[qo] at hq;obtain ⟨hq,iG⟩:=ji.mp hq;have oh:q∈dY c.held p ⟨n,z,r,b.con⟩:=hq;rcases iF oh with rfl|⟨hq,US⟩
    ·show fP A H4 τ4 b.con (qW m b.con m' b.con);rw[fD];exact C3.step S4 qe qd
    ·have rY:=F.OY hb q hq iG;rw[ic rY];exact ((((F.con q hq).step S1 qe qd).step S2 (λz=>nomatch z) (λz=>nomatch z)).step S3 (λz=>nomatch z) (λz=>rY (Tag.DQ.inj z))).step S4 qe qd
   ·rw[qo];show ((jj (dY c.held p ⟨n,z,r,b.con⟩) k).map λq=>q.2.con).Nodup;rw[iU CZ,vo Mi,aG];refine f_.mpr ⟨F.cd.sublist (dM.map _),b9.mpr ⟨by simp,gP⟩,λx hx y hy e=>?_⟩;obtain ⟨q,hq,rfl⟩:=aq.mp hx;obtain ⟨hq,iG⟩:=ji.mp hq;have:y=b.con:=by simpa using hy
    exact F.OY hb q hq iG (e.trans this)
   ·rw[qo];exact cE zR uc
   ·rw[aG];exact wR
   ·rw[aE];have:=rX (c:=c) (n:=n) (k:=16) (rs:=rs) (i:=0);have:=zQ (k:=k) (b:=b) (l:=(bM (gA c n 16 rs 0).1.small b.room).getD []) (c:={(gA c n 16 rs 0).1 with pg:=Hr,held:=dY c.held p ⟨n,z,r,b.con⟩}) V9 bi.run;omega
  ·intro H1 τ1 o ey S1 G1 m_;have El:(gA c n 16 rs 0).2.1=none:=ey;rcases mv with ⟨S',en,pl,R'⟩|⟨p',z',r',Rq,_⟩
   rotate_left
   ·rw[Rq] at El;cases El
   refine kE H1 o ⟨τ1,_,m,S',_,S1.tz,⟨G1,λq hq=>?_,?_⟩,R',?_,?_,?_,pl⟩
   ·have oh:q∈(gA c n 16 rs 0).1.held:=hq;rw[eh] at oh;exact (F.con q oh).step S1 qe qd
   ·show ((gA c n 16 rs 0).1.held.map _).Nodup;rw[eh];exact F.cd
   ·show (gA c n 16 rs 0).1.held.length<=_;rw[eh];omega
   ·exact m_
   ·have:=rX (c:=c) (n:=n) (k:=16) (rs:=rs) (i:=0);omega
theorem Done.stop{H H':Hp}{τ:Tg}{h g:Addr}{rs:List Int}{c:HC}{m:Addr->iJ}{S:bg}{p:fL cX}{a:cX}(al:Al τ H)(s:cY H H')(F:ja A H τ h c m)(R:Rel c m S)(hg:bB A H τ g rs [])(e:p=.done (some S) a):Done A H τ h g rs c.held.length p a H':=
 ⟨τ,c,m,S,[],.same id al s,F.same s,R,jF _,hg.same s,bH _,.of_eq e⟩
theorem HJ{H H1:Hp}{τ τ1:Tg}{h cn:Addr}{c y:HC}{m:Addr->iJ}{p:Int}{n z r:Nat}(F:ja A H τ h c m)(S1:dS TD τ τ1 H H1)(eh:y.held=c.held)(CZ:bM c.held p=none)(rY:H cn=none)(G:eB A H1 τ1 h {y with held:=dY y.held p ⟨n,z,r,cn⟩})(C:fP A H1 τ1 cn []){iE:PS}(sm:tu y.pg iE):
  ja A H1 τ1 h {y with pg:=iE,held:=dY y.held p ⟨n,z,r,cn⟩} (qW m cn []):=by
 have fc:=vj F rY;refine ⟨G.VX sm,λq hq=>?_,?_⟩
 ·have oh:q∈dY y.held p ⟨n,z,r,cn⟩:=hq;rw[eh] at oh;rcases iF oh with rfl|⟨hq,_⟩
  ·show fP A H1 τ1 cn (qW m cn [] cn);rw[fD];exact C
  ·rw[ic (fc q hq)];exact (F.con q hq).step S1 qe qd
 ·show ((dY y.held p ⟨n,z,r,cn⟩).map λq=>q.2.con).Nodup;rw[eh,iU CZ,aG];refine f_.mpr ⟨F.cd,b9.mpr ⟨by simp,gP⟩,λx hx y hy e=>?_⟩;obtain ⟨q,hq,rfl⟩:=aq.mp hx;have:y=cn:=by simpa using hy
  exact fc q hq (e.trans this)
def MK(A:gI):Sp:=λvs H Q E=>∃(τ:Tg) (h:Addr) (c:HC) (m:Addr->iJ) (S:bg) (g:Addr) (rs:List Int) (n e:Int),vs=[.ref h,.int n,.int e,.ref g]/\Al τ H/\ja A H τ h c m/\Rel c m S/\c.held.length<=900/\bB A H τ g rs []/\
 (∀H' a,Done A H τ h g rs c.held.length (bI (some S) (.take n e)) (aZ a) H'->Q (.int a) H')/\(∀H' o,Done A H τ h g rs c.held.length (bI (some S) (.take n e)) (aZ (-8)) H'->E (.ref (A.ex .b7)) o H')/\
 (∀H' o,Done A H τ h g rs c.held.length (bI (some S) (.take n e)) (aZ (-7)) H'->E (.ref (A.ex .dg)) o H')
theorem Xb:bF ["self","size","exponent","given"] ["self","size","exponent","given"] (aY (Fn.st .qE)):=fs
theorem Jk{x lo hi:Int}:cP x lo hi=true↔lo<=x/\x<=hi:=by unfold cP;simp
theorem jv{x lo hi:Int}:cP x lo hi=false↔¬(lo<=x/\x<=hi):=by rw[<-Jk];simp
theorem KC(T:Txt A K mg):dU P w K mg base (l8 P w) 9 (A.f .qE) (A.fd .qE) ["self","size","exponent","given"] (MK A):=by
 refine rT (T.fn .qE) Xb (λvs H Q E h=>?_) (λgX B outer sh H vs Q E hr h=>?_)
 ·obtain ⟨τ,h,c,m,S,g,rs,n,e,rfl,_⟩:=h;rfl
 ·obtain ⟨τ,h,c,m,S,g,rs,n,e,rfl,al,F,R,hlen,hg,kQ,kR,kE⟩:=h
  refine ⟨_,ao (bV (dh (gH T) (hr.mono (by decide)) rfl (T.o_ .aS rfl) (T.fn .aS).kp (T.bn .aS) .nil dP (aa (pv 1) (aa bq (aa (pk 1073741824 T) aA)))))<|
   ao (bV (dh (gH T) (hr.mono (by decide)) rfl (T.o_ .aS rfl) (T.fn .aS).kp (T.bn .aS) .nil dP (aa (pv 2) (aa (pk 4 T) (aa (pk 12 T) aA)))))<|
   aF (bT (bK (pv 0) (T.cls .aD) (T.me .uw .aD rfl rfl) (FE T) hr (T.bn .uw) .nil dP (aa (pv 1) (aa (bW Kg bq (pv 2)) (aa (pv 3) aA))))),?_⟩
  have out:¬((0<=n/\n<=1073741824)/\4<=e/\e<=12)->bI (some S) (.take n e)=.done (some S) (aZ (-8)):=λz=>by
   have cw:(cP n 0 iA&&cP e 4 12)=false:=by
    rw[sP,jv,jv];unfold iA;omega
   show (if (cP n 0 iA&&cP e 4 12)=false then _ else _)=_;rw[if_pos cw]
  refine ⟨_,rfl,n,0,1073741824,rfl,λb1=>?_,λb1=>kR H none (.stop al (.refl _) F R hg (out λz=>b1 z.1))⟩;refine ⟨_,rfl,e,4,12,rfl,λb2=>?_,λb2=>kR H none (.stop al (.refl _) F R hg (out λz=>b2 z.2))⟩;obtain ⟨N,rfl⟩:=cS b1.1;obtain ⟨X,rfl⟩:=cS (show 0<=e by omega);obtain ⟨dx,p0,hd,sd,kh,ks,h1,_⟩:=id F.hs.ex
  have es:bI (some S) (.take (N:Int) (X:Int))=qT S N X λt p=>match p with
    |some q=>.done (some t) (aZ q)
    |none=>.done (some t) (aZ (-7)):=by
   have cw:¬(cP (N:Int) 0 iA&&cP (X:Int) 4 12)=false:=by
    rw[sP,jv,jv];unfold iA;omega
   show (if (cP (N:Int) 0 iA&&cP (X:Int) 4 12)=false then _ else _)=_;rw[if_neg cw];rfl
  obtain ⟨eh,tk⟩:=R.take (n:=N) (e:=X) (by omega) (rs:=rs) (i:=0) (λt p=>match p with
    |some q=>.done (some t) (aZ q)
    |none=>.done (some t) (aZ (-7)))
  rw[<-es] at tk;have ep:(1:Int)*2^(X:Int).toNat=((2^X:Nat):Int):=by rw[aU,Int.one_mul,Int.natCast_pow];rfl
  refine ⟨_,rfl,h,dx,_,rfl,h1,rfl,_,rfl,_,rfl,_,_,rfl,rfl,⟨by omega,by omega,by decide⟩,?_⟩;refine ⟨_,rfl,τ,h,c,g,rs,[],N,((2^X:Nat):Int),(by show [V.ref h,V.int (N:Int),V.int (1*2^(X:Int).toNat),V.ref g]=_;rw[ep]),al,F.hs,R.ok,R.JK,hg,by simp,by omega,by exact_mod_cast Nat.two_pow_pos X,λz=>szn (e:=X) (by omega) z,R.zB,?_,?_⟩
  ·intro H1 τ1 p z r cn ey S1 G1 C1 rY m_;have El:(gA c N ((2^X:Nat):Int) rs 0).2.1=some (p,z,r):=ey;rcases tk with ⟨_,en,_⟩|⟨p',z',r',S',iE,Rq,YW,CZ,pl,sm,hR⟩
   ·rw[en] at El;cases El
   rw[Rq] at El;cases El;have e0:((p.toNat:Nat):Int)=p:=by omega
   dsimp only at pl;rw[e0] at pl;refine kQ H1 p ⟨τ1,_,_,S',_,S1.tz,HJ F S1 eh CZ rY G1 C1 sm,hR cn (vj F rY),?_,m_,?_,pl⟩
   ·show (dY (gA c N ((2^X:Nat):Int) rs 0).1.held p _).length<=_;rw[eh];exact uc
   ·exact cE rX (by decide)
  ·intro H1 τ1 o ey S1 G1 m_;have El:(gA c N ((2^X:Nat):Int) rs 0).2.1=none:=ey;rcases tk with ⟨S',en,pl,R'⟩|⟨p',z',r',_,_,Rq,_⟩
   rotate_left
   ·rw[Rq] at El;cases El
   refine kE H1 o ⟨τ1,_,m,S',_,S1.tz,⟨G1,λq hq=>?_,?_⟩,R',?_,m_,?_,pl⟩
   ·have oh:q∈(gA c N ((2^X:Nat):Int) rs 0).1.held:=hq;rw[eh] at oh;exact (F.con q oh).step S1 qe qd
   ·show ((gA c N ((2^X:Nat):Int) rs 0).1.held.map _).Nodup;rw[eh];exact F.cd
   ·show (gA c N ((2^X:Nat):Int) rs 0).1.held.length<=_;rw[eh];omega
   ·exact cE rX (by decide)
def MP(A:gI):Sp:=λvs H Q E=>∃(τ:Tg) (h:Addr) (c:HC) (m:Addr->iJ) (S:bg) (g:Addr) (rs:List Int) (k:Int),vs=[.ref h,.int k,.ref g]/\Al τ H/\ja A H τ h c m/\Rel c m S/\bB A H τ g rs []/\
 (∀H' a,Done A H τ h g rs c.held.length (bI (some S) (.give k)) (aZ a) H'->Q (.int a) H')/\(∀H' o,Done A H τ h g rs c.held.length (bI (some S) (.give k)) (aZ (-5)) H'->E (.ref (A.ex .dO)) o H')
theorem Tt:bF ["self","place","given","block"] ["self","place","given"] (aY (Fn.st .qI)):=fs
theorem KI(T:Txt A K mg):dU P w K mg base (l8 P w) 7 (A.f .qI) (A.fd .qI) ["self","place","given"] (MP A):=by
 refine rT (T.fn .qI) Tt (λvs H Q E h=>?_) (λgX B outer sh H vs Q E hr h=>?_)
 ·obtain ⟨τ,h,c,m,S,g,rs,k,rfl,_⟩:=h;rfl
 ·obtain ⟨τ,h,c,m,S,g,rs,k,rfl,al,F,R,hg,kQ,kE⟩:=h;have CB:=T.cls .bD;have NB:∀f,f∈j9 .bD->ek K (A.cl .bD) f:=T.na .bD
  refine ⟨_,ao (bY (i:=3) Tt.nd rfl (bh rfl) (bK (pv 0) (T.cls .aD) (T.me .g8 .aD rfl rfl) (DW T) (hr.mono (by decide)) (T.bn .g8) .nil dP (aa (pv 1) aA)))<|
   ao (bV (bK (pv 0) (T.cls .aD) (T.me .oz .aD rfl rfl) (BY T) hr (T.bn .oz) .nil dP (aa (pv 1) (aa (pv 2) aA))))<|
   aF (bT (bz (pv 3) rfl)),?_⟩
  obtain ⟨dx,p0,hd,sd,kh,ks,h1,_⟩:=id F.hs.ex;have eb:=R.block k
  have es:bI (some S) (.give k)=match S.block k with
    |none=>.done (some S) (aZ (-5))
    |some b=>qU S b.place λt=>.done (some t) (aZ b.size):=rfl
  rw[eb] at es;refine ⟨_,rfl,h,dx,_,rfl,h1,rfl,_,rfl,τ,h,c,k,rfl,F.hs,λhn=>?_,λb a bx hb ha ta hv=>?_⟩
  ·rw[hn] at es;exact kE H none (.stop al (.refl _) F R hg es)
  ·rw[hb] at es;obtain ⟨r,kr,qB,bi,_⟩:=R.LU hb;obtain ⟨S',pl,R'⟩:=R.give hb kr qB (λt=>.done (some t) (aZ (b.size:Nat))) (rs:=rs) (i:=0);refine ⟨_,rfl,h,dx,_,rfl,h1,rfl,_,rfl,_,rfl,τ,h,c,g,rs,[],k,b,r,_,rfl,al,F.hs,R.ok,R.snd,hg,by simp,hb,bi,λH1 τ1 S1 G1 m_=>?_⟩;refine ⟨_,rfl,a,_,bx,_,_,rfl,S1.kp ta id ha,CB,NB "size" (by decide),rfl,kQ H1 b.size ⟨τ1,_,m,S',_,S1.tz,⟨G1,λq hq=>?_,?_⟩,R',?_,m_,?_,?_⟩⟩
   ·rw[qo] at hq;exact (F.con q (ji.mp hq).1).step S1 qe qd
   ·rw[qo];exact F.cd.sublist (dM.map _)
   ·rw[qo];have:=zR (m:=c.held) (k:=k);omega
   ·have:=zQ (k:=k) (b:=b) (l:=(bM c.small b.room).getD []) R.ok kr;omega
   ·rw[es];exact pl
def Pz(A:gI):Sp:=λvs H Q E=>∃(τ:Tg) (h:Addr) (c:HC) (m:Addr->iJ) (S:bg) (g:Addr) (rs:List Int) (k n:Int),vs=[.ref h,.int k,.int n,.ref g]/\Al τ H/\ja A H τ h c m/\Rel c m S/\c.held.length<=900/\bB A H τ g rs []/\
 (∀H' a,Done A H τ h g rs c.held.length (bI (some S) (.resize k n)) (aZ a) H'->Q (.int a) H')/\(∀H' o,Done A H τ h g rs c.held.length (bI (some S) (.resize k n)) (aZ (-8)) H'->E (.ref (A.ex .b7)) o H')/\
 (∀H' o,Done A H τ h g rs c.held.length (bI (some S) (.resize k n)) (aZ (-7)) H'->E (.ref (A.ex .dg)) o H')/\(∀H' o,Done A H τ h g rs c.held.length (bI (some S) (.resize k n)) (aZ (-5)) H'->E (.ref (A.ex .dO)) o H')
theorem Tj:bF ["self","place","size","given","block"] ["self","place","size","given"] (aY (Fn.st .kZ)):=fs
theorem uz{c:HC}{k:Int}{b:lD}{r:e_}{n:Nat}(h:bM c.held k=some b):(wu c k b r n).1.held=c.held\/∃z,(wu c k b r n).1.held=dY c.held k {b with room:=z}:=by
 unfold wu;split
 ·split
  ·unfold CU;split
   ·exact .inl rfl
   ·split
    ·exact .inl rfl
    ·split
     ·exact .inr ⟨_,rfl⟩
     ·split
      ·exact .inr ⟨_,rfl⟩
      ·exact .inl rfl
  ·exact .inl rfl
 ·exact .inl rfl
theorem MA{c:HC}{k:Int}{b:lD}{r:e_}{M:Nat}(h:b6 c.pg)(hr:r∈c.pg.runs)(hM:0<M):(CU c k b r M).2.2.length<=16385:=by
 unfold CU;split
 ·simp
 ·split
  ·simp
  ·split
   ·rename_i pX;have h1:=(h.shrink hr hM pX (dD r.bytes 0 (M*dZ))).ku;exact cE (uT _ _ _) (by show (rL c.pg r M).free.length+1<=_;unfold rL;omega)
   ·split<;>simp
theorem Ol{c:HC}{k:Int}{b:lD}{r:e_}{n:Nat}(h:b6 c.pg)(hr:r∈c.pg.runs):(wu c k b r n).2.2.length<=16385:=by
 unfold wu;split
 ·split
  ·rename_i h2;exact MA h hr (by unfold bZ;omega)
  ·simp
 ·simp
theorem HeldAt.uniq{H:Hp}{τ:Tg}{h a a':Addr}{k:Int}(x:HeldAt A H τ h k a)(y:HeldAt A H τ h k a'):a=a':=by
 obtain ⟨dx,p,hd,sd,kh,h1,_,h3,_,e⟩:=x;obtain ⟨Vw,p',Lo,sd',kh',g1,_,g2,_,e'⟩:=y;rw[h1] at g1
 obtain rfl:hd=Lo:=by
  have:=(HO.ins.inj (bC g1)).2.2;have:=congrArg (λl=>jA (Str.ofString "held") l) this;exact V.ref.inj (bC this)
 rw[h3] at g2;cases g2;rw[e] at e';exact V.ref.inj (bC e')
theorem Nz(T:Txt A K mg):dU P w K mg base (l8 P w) 10 (A.f .kZ) (A.fd .kZ) ["self","place","size","given"] (Pz A):=by
 refine rT (T.fn .kZ) Tj (λvs H Q E h=>?_) (λgX B outer sh H vs Q E hr h=>?_)
 ·obtain ⟨τ,h,c,m,S,g,rs,k,n,rfl,_⟩:=h;rfl
 ·obtain ⟨τ,h,c,m,S,g,rs,k,n,rfl,al,F,R,hlen,hg,kQ,kR,kP,kE⟩:=h;have CB:=T.cls .bD;have NB:∀f,f∈j9 .bD->ek K (A.cl .bD) f:=T.na .bD
  refine ⟨_,ao (bV (dh (gH T) (hr.mono (by decide)) rfl (T.o_ .aS rfl) (T.fn .aS).kp (T.bn .aS) .nil dP (aa (pv 2) (aa bq (aa (pk 1073741824 T) aA)))))<|
   ao (bY (i:=4) Tj.nd rfl (bh rfl) (bK (pv 0) (T.cls .aD) (T.me .g8 .aD rfl rfl) (DW T) (hr.mono (by decide)) (T.bn .g8) .nil dP (aa (pv 1) aA)))<|
   ao (fC (AF (oU (bK (pv 0) (T.cls .aD) (T.me .jx .aD rfl rfl) (NF T) (hr.mono (by decide)) (T.bn .jx) .nil dP (aa (pv 4) (aa (pv 2) (aa (pv 3) aA))))))
    (aF (bT (bK (pv 0) (T.cls .aD) (T.me .qG .aD rfl rfl) (KG T) hr (T.bn .qG) .nil dP (aa (pv 1) (aa (pv 2) (aa (pv 3) aA)))))) cZ)<|
   ao (fU (pv 4) (pv 2) rfl)<|
   ao (bV (bK (bz (pv 4) rfl) (T.cls .bQ) (T.me .kJ .bQ rfl rfl) (u_ T) (hr.mono (by decide)) (T.bn .kJ) .nil c_ (aa (pv 2) (aa (pk 1073741824 T) aA))))<|
   aF (bT (pv 1)),?_⟩
  have out:¬(0<=n/\n<=1073741824)->bI (some S) (.resize k n)=.done (some S) (aZ (-8)):=λz=>by
   have cw:cP n 0 iA=false:=by
    rw[jv];unfold iA;omega
   show (if cP n 0 iA=false then _ else _)=_;rw[if_pos cw]
  refine ⟨_,rfl,n,0,1073741824,rfl,λb1=>?_,λb1=>kR H none (.stop al (.refl _) F R hg (out b1))⟩;obtain ⟨N,rfl⟩:=cS b1.1;obtain ⟨dx,p0,hd,sd,kh,ks,h1,_⟩:=id F.hs.ex;refine ⟨_,rfl,h,dx,_,rfl,h1,rfl,_,rfl,τ,h,c,k,rfl,F.hs,λhn=>?_,λb a bx hb ha ta hv=>?_⟩
  ·refine kE H none (.stop al (.refl _) F R hg ?_)
   have cw:¬cP (N:Int) 0 iA=false:=by
    rw[jv];unfold iA;omega
   show (if cP (N:Int) 0 iA=false then _ else _)=_;rw[if_neg cw,R.block k,hn];rfl
  ·obtain ⟨r,kr,qB,bi,IU⟩:=R.LU hb;refine ⟨_,rfl,h,dx,_,rfl,h1,rfl,_,rfl,_,rfl,_,rfl,τ,h,c,g,rs,[],k,b,r,a,bx,N,rfl,al,F.hs,R.ok,R.lu,hg,by simp,hb,ha,ta,hv,kr,qB,IU,λH1 τ1 S1 G1 m_=>?_⟩;refine ⟨_,rfl,?_⟩;cases hs:(wu c k b r N).2.1 with
   |false=>
    refine lg ?_;obtain ⟨ec,pl0⟩:=R.ZR hb kr qB (λz=>(IU z).1) (n:=N) (by omega) (rs:=rs) (i:=0) hs;rw[ec] at G1 m_;have F1:ja A H1 τ1 h c m:=⟨G1,λq hq=>(F.con q hq).step S1 Dv Du,F.cd⟩
    have Zn:bB A H1 τ1 g rs []:=by simpa using m_
    obtain ⟨WE,p1,C8,sd1,kh1,ks1,OT,_⟩:=id G1.ex
    have lift:∀H' x,Done A H1 τ1 h g rs c.held.length (g_ S ⟨k.toNat,b.size,b.room⟩ N) x H'->Done A H τ h g rs c.held.length (bI (some S) (.resize k (N:Int))) x H':=λH' x ⟨τ',c',m',S',qs,s1,s2,s3,s4,s5,s6,s7⟩=>
     ⟨τ',c',m',S',qs,(S1.tz).trans s1,s2,s3,s4,s5,s6,by have:=pl0.trans (V7:=qs) s7;simpa using this⟩
    exact ⟨_,rfl,h,WE,_,rfl,OT,rfl,_,rfl,_,rfl,_,rfl,τ1,h,c,m,S,g,rs,k,b,N,rfl,S1.gW,F1,R,hlen,Zn,hb,by omega,λH' x d=>kQ H' x (lift _ _ d),λH' o d=>kP H' o (lift _ _ d)⟩
   |true=>
    refine mJ ?_;obtain ⟨S',iE,b2,pl,sm,Ls,ZY,ern,fin⟩:=R.qX hb kr qB (λz=>(IU z).1) (n:=N) (by omega) (F.OY hb) (rs:=rs) (i:=0) hs
    have U1:((wu c k b r N).1.held.map (·.1)).Nodup:=by
     rcases uz (r:=r) (n:=N) hb with e|⟨z,e⟩
     ·rw[e];exact R.lu
     ·rw[e];exact j6 R.lu
    obtain ⟨a1,Iq,WE,p1,C8,sd1,kh1,OT,dg1,_,wU,SG,Wz⟩:=G1.obj Ls;have ea:a1=a:=Wz.uniq (hv.step S1 id id);subst ea;have cC:fP A H1 τ1 b.con (m b.con):=(F.con _ (eN hb)).step S1 Dv Du;refine ⟨_,rfl,_,rfl,a1,_,Iq,_,rfl,wU,CB,NB "size" (by decide),aR rfl,?_⟩;obtain ⟨S2,G2⟩:=eB.setB (A:=A) (b':=⟨N,b2.room,b2.run,b2.con⟩) S1.gW G1 U1 Ls wU SG Wz;show Jq _ _ _ _ (upd H1 a1 (.ins (A.cl .bD) Iq (bf ⟨N,b2.room,b2.run,b2.con⟩)));have lS:=m_.step S2 (λz=>nomatch z);have c2:fP A (upd H1 a1 (.ins (A.cl .bD) Iq (bf ⟨N,b2.room,b2.run,b2.con⟩))) τ1 b.con (m b.con):=cC.step S2 (λz=>nomatch z) (λz=>nomatch z);have N8:upd H1 a1 (.ins (A.cl .bD) Iq (bf ⟨N,b2.room,b2.run,b2.con⟩)) a1=some (.ins (A.cl .bD) Iq (bf ⟨N,b2.room,b2.run,b.con⟩)):=by rw[<-ZY];exact ak
    generalize upd H1 a1 (.ins (A.cl .bD) Iq (bf ⟨N,b2.room,b2.run,b2.con⟩))=H2 at S2 G2 lS c2 N8⊢;obtain ⟨cx,cd,WH,Lq,_⟩:=id c2.ex;refine ⟨_,rfl,a1,_,Iq,_,_,rfl,N8,CB,NB "content" (by decide),rfl,b.con,cx,_,rfl,Lq,rfl,_,rfl,τ1,b.con,m b.con,N,1073741824,rfl,S2.gW,c2,R.pc _ (eN hb),by omega,λH3 m' S3 C3 XX e3=>?_⟩;have R':=fin m' XX e3;have G3:=(G2.Jt S3).VX (iE:=iE) sm;have sR:=lS.step S3 (λz=>nomatch z)
    have Eg:∀q,q∈dY (wu c k b r N).1.held k ⟨N,b2.room,b2.run,b2.con⟩->q=(k,⟨N,b2.room,b2.run,b2.con⟩)\/(q∈c.held/\q.1≠k):=λq hq=>by
     rcases uz (r:=r) (n:=N) hb with e|⟨z,e⟩
     ·rw[e] at hq;exact iF hq
     ·rw[e,qg] at hq;exact iF hq
    refine ⟨_,rfl,kQ H3 k ⟨τ1,_,_,S',_,(S1.tz).trans ((S2.tz).trans (S3.tz)),⟨G3,λq hq=>?_,?_⟩,R',?_,sR,?_,pl⟩⟩
    ·rcases Eg q hq with rfl|⟨hq,iG⟩
     ·show fP A H3 τ1 b2.con (qW m b.con m' b2.con);rw[ZY,fD];exact C3
     ·have rY:=F.OY hb q hq iG;rw[ic rY];exact (((F.con q hq).step S1 Dv Du).step S2 (λz=>nomatch z) (λz=>nomatch z)).step S3 (λz=>nomatch z) (λz=>rY (Tag.DQ.inj z))
    ·show ((dY (wu c k b r N).1.held k ⟨N,b2.room,b2.run,b2.con⟩).map λq=>q.2.con).Nodup
     have e1:∀z y:Nat,(dY c.held k ⟨y,z,b2.run,b2.con⟩).map (λq=>q.2.con)=c.held.map λq=>q.2.con:=λz y=>by
      rw[iD hb,ay];refine aN λq hq=>?_;show (if q.1=k then (q.1,(⟨y,z,b2.run,b2.con⟩:lD)) else q).2.con=_;split
      ·rename_i e;have:q=(k,b):=jE R.lu hq (eN hb) e;rw[this];exact ZY
      ·rfl
     rcases uz (r:=r) (n:=N) hb with e|⟨z,e⟩
     ·rw[e,e1];exact F.cd
     ·rw[e,qg,e1];exact F.cd
    ·show (dY (wu c k b r N).1.held k ⟨N,b2.room,b2.run,b2.con⟩).length<=_;rcases uz (r:=r) (n:=N) hb with e|⟨z,e⟩
     ·rw[e];exact uc
     ·rw[e,qg];exact uc
    ·exact cE (Ol R.ok kr) (by decide)
end
end Rm
namespace Rm
open PySem L2
theorem BK{z r:Int}{l:List Int}{c:HC}:pG z (r::l) c=((pG z l (BH c z r).1).1,(BH c z r).2++(pG z l (BH c z r).1).2):=rfl
theorem BO{z:Int}{zs:List Int}{c:HC}:sr (z::zs) c=((sr zs (pG z ((bM c.small z).getD []) c).1).1,(pG z ((bM c.small z).getD []) c).2++(sr zs (pG z ((bM c.small z).getD []) c).1).2):=rfl
theorem BI{z r:Int}:∀{l:List Int} {c:HC},pG z (l++[r]) c=((BH (pG z l c).1 z r).1,(pG z l c).2++(BH (pG z l c).1 z r).2)
 |[],c=>by simp [pG]
 |a::l,c=>by
  rw[qS,BK,BK,BI];simp
theorem BL{z:Int}:∀{l:List Int} {c:HC},sr (l++[z]) c=((pG z ((bM (sr l c).1.small z).getD []) (sr l c).1).1,(sr l c).2++(pG z ((bM (sr l c).1.small z).getD []) (sr l c).1).2)
 |[],c=>by simp [sr]
 |a::l,c=>by
  rw[qS,BO,BO,BL];simp
theorem JU{z y:Int}:∀(l1:List Int) {c:HC} {l0:List Int},bM c.small z=some l0->y∈l0->y∉l1->∃l',bM (pG z l1 c).1.small z=some l'/\y∈l'
 |[],c,l0,h,hy,_=>⟨l0,h,hy⟩
 |r::l,c,l0,h,hy,hn=>by
  show ∃l',bM (pG z l (BH c z r).1).1.small z=some l'/\y∈l';have iG:y≠r:=λe=>hn (by rw[e];exact aJ);have Wn:y∉l:=λe=>hn (aB _ e)
  have key:∃l',bM (BH c z r).1.small z=some l'/\y∈l':=by
   unfold BH;split
   ·cases e:c.pg.run r with
    |none=>exact ⟨l0,h,hy⟩
    |some q=>
     have hq:=(Qc e).2;refine ⟨l0.erase (q.first:Int),?_,(List.mem_erase_of_ne (by rw[hq];exact iG)).mpr hy⟩;show bM (dY c.small z (((bM c.small z).getD []).erase (q.first:Int))) z=_;rw[fW,if_pos rfl,h];rfl
   ·exact ⟨l0,h,hy⟩
  obtain ⟨l',h',Ux⟩:=key;exact JU l h' Ux Wn
theorem FJ{l:List Int}(h:l.Nodup){j:Nat}{x:Int}(e:l[j]?=some x):x∉l.take j:=by
 have h1:l=l.take j++x::l.drop (j+1):=by
  have hj:=(bR.mp e)
  obtain ⟨hj,e2⟩:=hj;rw[<-e2];simp
 rw[h1] at h;intro z;exact (f_.mp h).2.2 x z x aJ rfl
section
variable{P:Program}{w:World}{K:au}{mg:Str->Option Value}{base:Heap}{A:gI}
def MI(A:gI):Sp:=λvs H Q E=>∃(τ:Tg) (h:Addr) (c:HC) (m:Addr->iJ) (S:bg) (g:Addr) (rs:List Int),vs=[.ref h,.ref g]/\Al τ H/\ja A H τ h c m/\Rel c m S/\bB A H τ g rs []/\
 (∀H' a,Done A H τ h g rs c.held.length (bI (some S) .trim) (aZ a) H'->Q (.int a) H')
theorem M4:bF ["self","given","before","small","run"] ["self","given"] (aY (Fn.st .qC)):=fs
theorem Rel.pre{c:HC}{m:Addr->iJ}{S:bg}(R:Rel c m S)(i:Nat):∃S',Rel (sr (aV.take i) c).1 m S'/\(sr (aV.take i) c).2.length+(sr (aV.take i) c).1.pg.pages<=c.pg.pages:=by
 obtain ⟨S',_,h1,h2⟩:=Rel.WQ (λt=>.done (some t) (aZ 0)) ((bX 40).take i) R 0 ((w_).sublist (vS _ _)) (λk hk=>e9.mp (jc hk)) (rs:=[]);rw[Bm,<-xu] at h1 h2;exact ⟨S',h1,h2⟩
theorem BJ{z:Int}:∀(l:List Int) {c:HC},(pG z l c).1.held=c.held
 |[],c=>rfl
 |r::l,c=>(BJ l).trans JT
theorem BN:∀(l:List Int) {c:HC},(sr l c).1.held=c.held
 |[],c=>rfl
 |r::l,c=>(BN l).trans (BJ _)
theorem Kz(T:Txt A K mg):dU P w K mg base (l8 P w) 6 (A.f .qC) (A.fd .qC) ["self","given"] (MI A):=by
 refine rT (T.fn .qC) M4 (λvs H Q E h=>?_) (λgX B outer sh H vs Q E hr h=>?_)
 ·obtain ⟨τ,h,c,m,S,g,rs,rfl,_⟩:=h;rfl
 ·obtain ⟨τ,h,c,m,S,g,rs,rfl,al,F,R,hg,kQ⟩:=h;have hu:=jJ hr;have CH:=T.cls .aD;have NH:∀f,f∈j9 .aD->ek K (A.cl .aD) f:=T.na .aD;have CP:=T.cls .aM;have NP:∀f,f∈j9 .aM->ek K (A.cl .aM) f:=T.na .aM
  refine ⟨_,ao (bY (i:=2) M4.nd rfl (bh rfl) (bz (bz (pv 0) rfl) rfl))<|
   ao (jY PassesOwn.leaving rfl (AH (sC (v:=.ref A.sizes) rfl T.Wf rfl)) (dB (i:=3) M4.nd rfl (bh rfl))
    (aF (jY PassesOwn.leaving rfl (iV (sD uC rfl T.mK.list oJ (aa (ig hu (bz (pv 0) rfl) (pv 3) (λ_ _=>rfl)) aA))) (dB (i:=4) M4.nd rfl (bh rfl))
     (aF (fC (oU (bK (pv 0) CH (T.me .iZ .aD rfl rfl) (zw T) (hr.mono (by decide)) (T.bn .iZ) .nil c_ (aa (pv 3) (aa (pv 4) aA))))
      (aF (bV (bK (pv 0) CH (T.me .fj .aD rfl rfl) (FA T) hr (T.bn .fj) .nil dP (aa (pv 3) (aa (pv 4) (aa (pv 1) aA)))))) cZ)))))<|
   ao (bV (bK (bz (pv 0) rfl) CP (T.me .m5 .aM rfl rfl) (xR T) (hr.mono (by decide)) (T.bn .m5) .nil c_ (aa bq (aa (pv 1) aA))))<|
   aF (bT (bW gj (bz (bz (pv 0) rfl) rfl) (pv 2))),?_⟩
  obtain ⟨dx,p0,hd,sd,kh,ks,h1,t1,h2,_⟩:=id F.hs.ex;obtain ⟨zm,pf1,pr1,RY,RX,Fo,_⟩:=id h2.ex;have v9:=R.ok.Fv;refine ⟨_,rfl,h,_,dx,_,_,rfl,h1,CH,NH "pages" (by decide),rfl,p0,_,zm,_,_,rfl,Fo,CP,NP "given_back" (by decide),rfl,?_⟩
  refine ⟨_,rfl,⟨_,T.sz H⟩,wW (K:=K) (a:=A.sizes) (xs:=aV.map V.int) (λi σ H2=>∃(v3 v4:Option V) (τ2:Tg),σ=[some (.ref h),some (.ref g),some (.int c.pg.went),v3,v4]/\dS TD τ τ2 H H2/\
    eB A H2 τ2 h (sr (aV.take i) c).1/\bB A H2 τ2 g rs ((sr (aV.take i) c).2.map aO))
   ⟨none,none,τ,rfl,.refl id al,F.hs,hg⟩ (λi σ H2 _ _=>T.sz H2) ?_ ?_⟩
  ·rintro i y σ H2 hi ⟨v3,v4,τ2,rfl,S2,G2,lS⟩;obtain ⟨z,hz,rfl⟩:=ints_get hi;have Uv:z∈aV:=cA hz;obtain ⟨Si,Ri,bi⟩:=R.pre i;obtain ⟨k,zE,rfl⟩:=FF Uv;obtain ⟨l,nF,tV,wQ⟩:=Ri.sat k zE;have Wg:l.Nodup:=tV.imp λh e=>by omega
   generalize hX:sr (aV.take i) c=X at G2 lS Ri bi nF;obtain ⟨ci,qi⟩:=X;dsimp only at G2 lS Ri bi nF
   have eK:sr (aV.take (i+1)) c=((pG (ai k:Nat) l ci).1,qi++(pG (ai k:Nat) l ci).2):=by
    rw[cN,hz];show sr (aV.take i++[((ai k:Nat):Int)]) c=_;rw[BL,hX];dsimp only;rw[nF];rfl
   obtain ⟨l',gl1,gl2,_⟩:=Ri.JK.at_ _ Uv;rw[nF] at gl1;cases gl1;obtain ⟨Rx,p2,hd2,Th,Yk,ks2,f1,f2,f3,f4,f5,f6,f7,f8,f9⟩:=id G2.ex;obtain ⟨v,hv,gW,rfl,vO,tal⟩:=f8.here nF;have gg:=mL.k (k:=aW ((ai k:Nat):Int)) f7;rw[hv] at gg;refine ⟨_,rfl,h,_,Rx,_,_,rfl,f1,CH,NH "small_runs" (by decide),rfl,_,rfl,Th,_,rfl,gg,gW,_,rfl,.inl (.of vO),λll UX=>?_⟩;have s3:=aX (o:=.lst (l.map V.int)) UX;have S3:dS TD τ2 τ2 H2 (upd H2 ll (.lst (l.map V.int))):=.same id S2.gW s3;have tll:τ2 ll=.other:=S2.gW.fresh UX;have Q3:upd H2 ll (.lst (l.map V.int)) ll=some (.lst (l.map V.int)):=ak;have G3:=G2.same s3;have sR:=lS.same s3;generalize upd H2 ll (.lst (l.map V.int))=H3 at S3 Q3 G3 sR s3⊢
   refine ⟨ll,rfl,⟨_,.of Q3⟩,j8 (K:=K) (a:=ll) (xs:=l.map V.int) (λj σ H4=>∃(v4:Option V) (τ4:Tg),σ=[some (.ref h),some (.ref g),some (.int c.pg.went),some (.int (ai k:Nat)),v4]/\dS TD τ2 τ4 H3 H4/\
     eB A H4 τ4 h (pG (ai k:Nat) (l.take j) ci).1/\bB A H4 τ4 g rs ((qi++(pG (ai k:Nat) (l.take j) ci).2).map aO))
    ⟨v4,τ2,rfl,.refl id S3.gW,G3,by simpa [pG] using sR⟩ (λj σ H4 _ ⟨_,_,_,S4,_⟩=>.of (S4.kp tll id Q3)) ?_ ?_⟩
   ·rintro j y σ H4 hj ⟨v4',τ4,rfl,S4,G4,wR⟩;obtain ⟨x,hx,rfl⟩:=ints_get hj;obtain ⟨Sj,_,Rj,_,bj,_⟩:=Rel.VS zE (λt=>.done (some t) (aZ 0)) [] (l.take j) Ri 0 (rs:=[]) (Wg.sublist (vS _ _)) (λx hx=>(wQ x).mp (jc hx));obtain ⟨lj,Zc,hxj⟩:=JU (y:=x) (l.take j) nF (cA hx) (FJ Wg hx)
    have eL:pG (ai k:Nat) (l.take (j+1)) ci=((BH (pG (ai k:Nat) (l.take j) ci).1 (ai k:Nat) x).1,(pG (ai k:Nat) (l.take j) ci).2++(BH (pG (ai k:Nat) (l.take j) ci).1 (ai k:Nat) x).2):=by
     rw[cN,hx];exact BI
    obtain ⟨lj2,gj1,gj2,gj3⟩:=Rj.sat k zE;rw[Zc] at gj1;cases gj1;obtain ⟨r0,oZ,rk,rfl⟩:=(gj3 x).mp hxj;subst rk;obtain ⟨q,lq,hq,hqf,_,Y_,Y6,hlen,et⟩:=Rj.trR oZ;rw[eL];generalize pG (ai r0.kind:Nat) (l.take j) ci=Y at G4 wR Rj bj Zc hq Y_ et;obtain ⟨cj,qj⟩:=Y;dsimp only at G4 wR Rj bj Zc hq Y_ et⊢;obtain ⟨Ms,p4,IV,Tf,Wh,Yi,e1,_⟩:=id G4.ex;refine ⟨_,rfl,h,Ms,_,rfl,e1,rfl,_,rfl,_,rfl,τ4,h,cj,_,_,rfl,G4,Uv,λH5 s5=>?_⟩;have S5:dS TD τ4 τ4 H4 H5:=.same id S4.gW s5;refine ⟨_,rfl,?_⟩;cases ee:gw cj (ai r0.kind:Nat) (r0.page:Nat) with
    |false=>
     rw[ee,if_neg (by decide)] at et;rw[et];exact mJ ⟨_,τ4,rfl,S4.trans S5,G4.same s5,by simpa using wR.same s5⟩
    |true=>
     rw[ee,if_pos rfl] at et;rw[et];refine lg ?_;refine ⟨_,rfl,h,Ms,_,rfl,s5 _ _ e1,rfl,_,rfl,_,rfl,_,rfl,τ4,h,cj,g,rs,_,q,_,lq,?_,S5.gW,G4.same s5,Rj.ok,wR.same s5,?_,hq,Rj.snd,Y_,by rw[hqf];exact Y6,λH6 τ6 S6 G6 Ll=>⟨_,τ6,rfl,S4.trans (S5.trans S6),G6,?_⟩⟩
     ·rw[hqf];rfl
     ·rw[aj,aE];omega
     ·show bB A H6 τ6 g rs ((qi++(qj++(gM cj.pg q).2.2)).map aO);rw[<-cD,aG];exact Ll
   ·rintro σ H4 ⟨v4',τ4,rfl,S4,G4,wR⟩;rw[aj,ff] at G4 wR;refine ⟨_,_,τ4,rfl,S2.trans (S3.trans S4),?_,?_⟩
    ·rw[eK];exact G4
    ·rw[eK];exact wR
  ·rintro σ H2 ⟨v3,v4,τ2,rfl,S2,G2,lS⟩;obtain ⟨S',pl,R',WI,bl2⟩:=R.trim (rs:=rs) (i:=0);rw[aj,ff] at G2 lS;obtain ⟨S1,R1,_⟩:=R.pre 40;have e40:aV.take 40=aV:=by decide+kernel
   rw[e40] at R1;have U3:(sr aV c).1.held=c.held:=BN _;unfold ze at pl R' WI;generalize sr aV c=X at G2 lS pl R' R1 WI bl2 U3;obtain ⟨c2,q2⟩:=X;dsimp only at G2 lS pl R' R1 WI bl2 U3;obtain ⟨Rx,p2,hd2,Th,Yk,ks2,f1,f2,f3,f4,f5,f6,f7,f8,f9⟩:=id G2.ex;obtain ⟨XU,pf2,pr2,a2f,a2c,ph2,_⟩:=id f3.ex;refine ⟨_,rfl,h,_,Rx,_,_,rfl,f1,CH,NH "pages" (by decide),rfl,p2,XU,_,rfl,ph2,rfl,_,rfl,τ2,p2,c2.qY,c2.pg,g,rs,_,0,rfl,S2.gW,f3,R1.ok,lS,?_,λH3 τ3 S3 G3 sR=>?_⟩
   ·rw[aj];omega
   have G4:eB A H3 τ3 h (Ov c2):=eB.pages (A:=A) (c:=c2) S3 f1 f2 f4 f5 f6 f7 f8 f9 G3;obtain ⟨Ms,p4,IV,Tf,Wh,Yi,e1,_,e3,_⟩:=id G4.ex;obtain ⟨XT,pf4,pr4,a2e,a2b,ph4,_⟩:=id e3.ex;refine ⟨_,rfl,h,_,Ms,_,_,rfl,e1,CH,NH "pages" (by decide),rfl,p4,_,XT,_,_,rfl,ph4,CP,NP "given_back" (by decide),rfl,_,rfl,_,_,rfl,rfl,?_⟩;refine kQ H3 _ ⟨τ3,_,m,S',_,(S2.tz).trans (S3.tz),⟨G4,λq hq=>?_,?_⟩,R',?_,?_,?_,pl⟩
   ·have oh:q∈c2.held:=hq;rw[U3] at oh;exact ((F.con q oh).step S2 qe qd).step S3 id id
   ·show (c2.held.map _).Nodup;rw[U3];exact F.cd
   ·show c2.held.length<=_;rw[U3];omega
   ·rw[aG];exact sR
   ·exact cE WI (by decide)
end
end Rm
namespace Rm
open PySem L2
def c0:HC:=⟨λ_=>0,h_ 0 1 0,[],[]⟩
def lX(c:HC)(m:Addr->iJ):cR->Prop
 |none=>c=c0
 |some S=>Rel c m S
def Te:List (Int×List Int):=aV.map λz=>(z,[])
def cB(a b c:Nat):HC:=⟨λ_=>0,h_ a b c,[],Te⟩
theorem M0{k:Nat}(hk:k<40):bM Te (ai k:Nat)=some []:=by
 have:∀k,k<40->bM Te (ai k:Nat)=some []:=by decide+kernel
 exact this k hk
theorem Rel.fresh{a b c:Nat}{m:Addr->iJ}(ha:a<=16384):Rel (cB a b c) m ⟨some (h_ a b c),[],[]⟩:=by
 constructor
 ·rfl
 ·exact b6.fresh ha
 ·intro r hr;cases hr
 ·exact gP
 ·exact .refl _
 ·show (Te.map (·.1)).Nodup
  decide+kernel
 ·show Te.length<=40
  decide+kernel
 ·intro k hk;refine ⟨[],M0 hk,.nil,λx=>⟨λh=>(nomatch h),λ⟨r,hr,_⟩=>(nomatch hr)⟩⟩
 ·intro r hr;cases hr
 ·intro r hr;cases hr
 ·intro r hr;cases hr
 ·exact .refl _
 ·intro q hq;cases hq
 ·intro q hq;cases hq
 ·intro q hq;cases hq
theorem Bt{S:bg}{q:qV jM}{F:cR->jM->fL cX}{h':mT}{a:jM}{rs:List Int}{i:Nat}{qs:List iN}(h:d_ q (.done h' a) rs i qs):d_ ((q.within BQ Lx id (some S)).andThen F) (F (some {S with pages:=h'}) a) rs i qs:=by
 unfold d_ at*;have e:=qa (s:=S) (F:=F) q S.pages (rs.drop i);rw[show (some S:cR)=some {S with pages:=S.pages} from rfl,e,h];have e2:(EU h' a:qV jM).played (rs.drop (i+qs.length))=(h',a,[],rs.drop (i+qs.length)):=rfl;rw[e2];simp
theorem Gr{s:mT}{a b c:Int}:gG s (.begin_ a b c)=if (bO a 1 16384&&(bO b 1 1024&&bO c 0 16384))=false then .done s (d8 (-8)) else Kg45.backAll ((s.map ET).getD []) s (.done (some (h_ a.toNat b.toNat c.toNat)) (d8 0)):=by
 cases s<;>rfl
theorem FZ{a b c:Int}:(bO a 1 16384&&(bO b 1 1024&&bO c 0 16384))=true↔inR a b c:=by
 unfold bO inR;simp
theorem Gq(hs:cR)(a b c:Int):bI hs (.begin_ a b c)=((gG (hs.bind tY) (.begin_ a b c)).within BQ Lx id hs).andThen λ_ x=>if x.value<0 then .done hs (aZ x.value) else .done (some ⟨some (h_ a.toNat b.toNat c.toNat),[],[]⟩) (aZ 0):=by
 cases hs<;>rfl
theorem Iu{hs:cR}{a b c:Int}(h:¬inR a b c):bI hs (.begin_ a b c)=.done hs (aZ (-8)):=by
 have e:(bO a 1 16384&&(bO b 1 1024&&bO c 0 16384))=false:=by
  rw[<-Bool.not_eq_true,FZ];exact h
 rw[Gq,Gr,if_pos e];rfl
theorem LV{c:HC}{m:Addr->iJ}{hs:cR}(R:lX c m hs){a b d:Int}(h:inR a b d){rs:List Int}{i:Nat}:d_ (bI hs (.begin_ a b d)) (.done (some ⟨some (h_ a.toNat b.toNat d.toNat),[],[]⟩) (aZ 0)) rs i (mV c.pg):=by
 have e:¬(bO a 1 16384&&(bO b 1 1024&&bO d 0 16384))=false:=by
  rw[FZ.mpr h];decide
 rw[Gq,Gr,if_neg e];cases hs with
 |none=>
  have R':c=c0:=R;subst R';exact .of_eq rfl
 |some S=>
  have R':Rel c m S:=R;have pl:=yw (rs:=rs) (h:=S.pages) (p:=.done (some (h_ a.toNat b.toNat d.toNat)) (d8 0)) c.pg.rows i
  have e2:(((some S:cR).bind tY).map ET).getD []=c.pg.rows:=by
   show (S.pages.map _).getD []=_;rw[R'.pg];rfl
  rw[e2];exact Bt pl
section
variable{P:Program}{w:World}{K:au}{mg:Str->Option Value}{base:Heap}{A:gI}
def MO(A:gI):Sp:=λvs H Q _=>∃(h dx:Addr),vs=[.ref h]/\H h=some (.ins (A.cl .aD) dx [])/\
 ∀H' τ',Al τ' H'->eB A H' τ' h c0->(∀b o,H b=some o->b≠h->H' b=some o/\τ' b=.other)->Q .kq H'
theorem Xo:bF ["self"] ["self"] (aY (Fn.st .qH)):=fs
theorem KH(T:Txt A K mg):dU P w K mg base pq 4 (A.f .qH) (A.fd .qH) ["self"] (MO A):=by
 refine (T.fn .qH).ok Xo (λvs H Q E h=>?_) (λgX B outer sh H vs Q E hr h=>?_)
 ·obtain ⟨h,dx,rfl,_⟩:=h;rfl
 ·obtain ⟨h,dx,rfl,h1,k⟩:=h;have C:=T.cls .aD;have N:∀f,f∈j9 .aD->ek K (A.cl .aD) f:=T.na .aD;refine ⟨_,ao (fU (pv 0) (xN (T.R8 .qy .aM rfl rfl) (Kr T) hr rfl (T.R9 .aM) (T.bn .qy) .nil c_) rfl)<|ao (fU (pv 0) pI rfl)<|aF (fU (pv 0) pI rfl),?_⟩;intro p px np XZ nep;have RZ:h≠p:=λz=>by rw[<-z,h1] at np;cases np
  have X7:h≠px:=λz=>by rw[<-z,h1] at XZ;cases XZ
  refine ⟨p,px,rfl,ak,λH2 f r g1 g2 g3 g4 g5 g6=>⟨rfl,?_⟩⟩;have FH:p≠f:=λz=>by rw[<-z,ak] at g2;cases g2
  have HB:p≠r:=λz=>by rw[<-z,ak] at g3;cases g3
  have nhf:h≠f:=λz=>by rw[<-z,az RZ,az X7,h1] at g2;cases g2
  have nhr:h≠r:=λz=>by rw[<-z,az RZ,az X7,h1] at g3;cases g3
  have R0:f≠r:=λz=>by rw[z,g5] at g4;cases g4
  have Q8:H2 h=some (.ins (A.cl .aD) dx []):=g6 h _ (by rw[az RZ,az X7];exact h1) RZ;refine ⟨_,rfl,h,_,dx,_,rfl,Q8,C,N "pages" (by decide),aR rfl,?_⟩;intro d1 C8;have n1:d1≠h:=λz=>by rw[z,ak] at C8;cases C8
  have Zz:H2 d1=none:=by rw[az n1] at C8;exact C8
  refine ⟨_,rfl,h,_,dx,_,rfl,(by rw[az n1.symm];exact ak),C,N "held" (by decide),aR rfl,?_⟩;intro d2 hd2;have n2:d2≠h:=λz=>by rw[z,ak] at hd2;cases hd2
  have Yc:d2≠d1:=λz=>by rw[z,az n1,ak] at hd2;cases hd2
  have Zy:H2 d2=none:=by rw[az n2,az Yc,az n2] at hd2;exact hd2
  refine ⟨_,rfl,h,_,dx,_,rfl,(by rw[az n2.symm];exact ak),C,N "small_runs" (by decide),aR rfl,?_⟩;have ne2:∀{x o},H2 x=some o->x≠d1/\x≠d2:=λ{x o} e=>⟨aQ e Zz,aQ e Zy⟩
  have at2:∀{x o},x≠h->H2 x=some o->∀v:HO,upd (upd (upd (upd (upd H2 h (.ins (A.cl .aD) dx (iO "pages" (.ref p) []))) d1 (.dK [])) h (.ins (A.cl .aD) dx (iO "held" (.ref d1) (iO "pages" (.ref p) [])))) d2 (.dK [])) h v x=some o:=λ{x o} hx e v=>by
   obtain ⟨e1,e2⟩:=ne2 e;rw[az hx,az e2,az hx,az e1,az hx];exact e
  generalize hH:upd (upd (upd (upd (upd H2 h (.ins (A.cl .aD) dx (iO "pages" (.ref p) []))) d1 (.dK [])) h (.ins (A.cl .aD) dx (iO "held" (.ref d1) (iO "pages" (.ref p) [])))) d2 (.dK [])) h _=H3;have a0:H3 h=some (.ins (A.cl .aD) dx (hf p d1 d2)):=by rw[<-hH];exact ak
  have a1:H3 d1=some (.dK []):=by rw[<-hH,az n1,az Yc.symm,az n1,ak]
  have a2:H3 d2=some (.dK []):=by rw[<-hH,az n2,ak]
  have a3:∀{x o},x≠h->H2 x=some o->H3 x=some o:=λ{x o} hx e=>by rw[<-hH];exact at2 hx e _
  have ap:=a3 RZ.symm g1;have af:=a3 nhf.symm g4;have ar:=a3 nhr.symm g5;obtain ⟨X0,np2⟩:=ne2 g1;obtain ⟨nf1,nf2⟩:=ne2 g4;obtain ⟨nr1,nr2⟩:=ne2 g5
  let τ:Tg:=gi (gi (gi (gi (gi (gi (λ_=>.other) h .nU) p .pages) f .free) r .runs) d1 .held) d2 .smalls
  have th:τ h=.nU:=by show gi _ _ _ _=_;rw[cT n2.symm,cT n1.symm,cT nhr,cT nhf,cT RZ,eV]
  have tp:τ p=.pages:=by show gi _ _ _ _=_;rw[cT np2,cT X0,cT HB,cT FH,eV]
  have tf:τ f=.free:=by show gi _ _ _ _=_;rw[cT nf2,cT nf1,cT R0,eV]
  have tr:τ r=.runs:=by show gi _ _ _ _=_;rw[cT nr2,cT nr1,eV]
  have t1:τ d1=.held:=by show gi _ _ _ _=_;rw[cT Yc.symm,eV]
  have t2:τ d2=.smalls:=eV;have SD:∀b,b≠h->b≠p->b≠f->b≠r->b≠d1->b≠d2->τ b=.other:=λb q1 q2 q3 q4 q5 q6=>by show gi _ _ _ _=_;rw[cT q6,cT q5,cT q4,cT q3,cT q2,cT q1]
  refine k H3 τ (λb hb=>?_) ⟨dx,p,d1,d2,[],[],a0,th,⟨px,f,r,[],[],ap,⟨[],af,.nil⟩,ar,.nil,.refl _,tp,tf,tr⟩,a1,.nil,t1,a2,.nil,t2⟩ (λb o e hb=>?_)
  ·by_cases q1:b=h
   ·subst q1;exact ⟨_,a0,oY⟩
   by_cases q2:b=p
   ·subst q2;exact ⟨_,ap,oY⟩
   by_cases q3:b=f
   ·subst q3;exact ⟨_,af,mE⟩
   by_cases q4:b=r
   ·subst q4;exact ⟨_,ar,oB⟩
   by_cases q5:b=d1
   ·subst q5;exact ⟨_,a1,oB⟩
   by_cases q6:b=d2
   ·subst q6;exact ⟨_,a2,oB⟩
   exact absurd (SD b q1 q2 q3 q4 q5 q6) hb
  ·have Yb:b≠p:=aQ e np;have Ul:b≠px:=aQ e XZ;have e1:upd (upd H px (.own p)) p (.ins (A.cl .aM) px []) b=some o:=by rw[az Yb,az Ul];exact e
   have e2:=g6 b o e1 Yb;obtain ⟨m1,m2⟩:=ne2 e2;exact ⟨a3 hb e2,SD b hb Yb (aQ e1 g2) (aQ e1 g3) m1 m2⟩
def Gz(A:gI)(H:Hp)(τ:Tg)(h g:Addr)(rs:List Int)(n0:Nat)(p:fL cX)(a:cX)(H':Hp):Prop:=
 ∃τ' c' m' S' qs,dS TZ τ τ' H H'/\ja A H' τ' h c' m'/\lX c' m' S'/\c'.held.length<=n0+1/\bB A H' τ' g rs (oM aO qs)/\qs.length<=40000/\d_ p (.done S' a) rs 0 qs
def JD(A:gI):Sp:=λvs H Q E=>∃(τ:Tg) (h:Addr) (c:HC) (m:Addr->iJ) (S:cR) (g:Addr) (rs:List Int) (x y z:Int),vs=[.ref h,.int x,.int y,.int z,.ref g]/\Al τ H/\ja A H τ h c m/\lX c m S/\bB A H τ g rs []/\
 (∀H',Gz A H τ h g rs c.held.length (bI S (.begin_ x y z)) (aZ 0) H'->Q .kq H')/\(∀H' o,Gz A H τ h g rs c.held.length (bI S (.begin_ x y z)) (aZ (-8)) H'->E (.ref (A.ex .b7)) o H')
theorem Tz:bF ["self","size","chunk","spare","given","small"] ["self","size","chunk","spare","given"] (aY (Fn.st .mW)):=fs
theorem lX.ok{c:HC}{m:Addr->iJ}{S:cR}(R:lX c m S):b6 c.pg:=by
 cases S with
 |none=>have:c=c0:=R;subst this;exact b6.fresh (by decide)
 |some S=>exact Rel.ok R
theorem JL{i:Nat}{z:Int}(h:aV[i]?=some z):dY ((aV.take i).map λz=>(z,([]:List Int))) z []=(aV.take (i+1)).map λz=>(z,[]):=by
 have lu:aV.Nodup:=by decide+kernel
 have hv:bM ((aV.take i).map λz=>(z,([]:List Int))) z=none:=by
  rw[lz,ay];intro q;obtain ⟨x,hx,e⟩:=aq.mp q;have:x=z:=e;exact FJ lu h (by rw[<-this];exact hx)
 rw[iU hv,cN,h,aG];rfl
theorem Hy(T:Txt A K mg):dU P w K mg base (l8 P w) 4 (A.f .mW) (A.fd .mW) ["self","size","chunk","spare","given"] (JD A):=by
 refine rT (T.fn .mW) Tz (λvs H Q E h=>?_) (λgX B outer sh H vs Q E hr h=>?_)
 ·obtain ⟨τ,h,c,m,S,g,rs,x,y,z,rfl,_⟩:=h;rfl
 ·obtain ⟨τ,h,c,m,S,g,rs,x,y,z,rfl,al,F,R,hg,kQ,kR⟩:=h;have hu:=jJ hr;have CH:=T.cls .aD;have NH:∀f,f∈j9 .aD->ek K (A.cl .aD) f:=T.na .aD
  refine ⟨_,ao (bV (bK (bz (pv 0) rfl) (T.cls .aM) (T.me .mU .aM rfl rfl) (Hv T) hr (T.bn .mU) .nil dP (aa (pv 1) (aa (pv 2) (aa (pv 3) (aa (pv 4) aA))))))<|
   ao (fU (pv 0) pI rfl)<|ao (fU (pv 0) pI rfl)<|
   aF (jY PassesOwn.leaving rfl (AH (sC (v:=.ref A.sizes) rfl T.Wf rfl)) (dB (i:=5) Tz.nd rfl (bh rfl))
    (aF (nA hu (bz (pv 0) rfl) (pv 5) (fy aA) rfl))),?_⟩
  obtain ⟨dx,p,hd,sd,kh,ks,h1,t1,h2,h3,h4,t3,h5,h6,t5⟩:=id F.hs.ex;obtain ⟨zm,pf1,pr1,RY,RX,Fo,_⟩:=id h2.ex;have ok:=R.ok;refine ⟨_,rfl,h,_,dx,_,_,rfl,h1,CH,NH "pages" (by decide),rfl,p,zm,_,rfl,Fo,rfl,_,rfl,_,rfl,_,rfl,_,rfl,τ,p,c.qY,c.pg,g,rs,[],x,y,z,rfl,al,h2,ok,hg,by simp,λb1=>?_,λb1 H1 τ1 S1 G1 m_=>?_⟩
  ·exact kR H none ⟨τ,c,m,S,[],.refl id al,F,R,jF _,hg,bH _,.of_eq (Iu b1)⟩
  ·have zI:=S1.kp t1 id h1;have th1:=S1.tg t1 h1;intro d1 C8;have n1:h≠d1:=aQ zI C8;refine ⟨_,rfl,h,_,dx,_,rfl,(by rw[az n1];exact zI),CH,NH "held" (by decide),aR rfl,?_⟩;intro d2 hd2;have n2:h≠d2:=λq=>by rw[<-q,ak] at hd2;cases hd2
   refine ⟨_,rfl,h,_,dx,_,rfl,(by rw[az n2];exact ak),CH,NH "small_runs" (by decide),aR rfl,?_⟩;have Yd:d1≠d2:=λq=>by rw[<-q,az n1.symm,ak] at hd2;cases hd2
   have Sa:dS (λt=>t=.nU) τ1 (gi τ1 d1 .held) H1 (upd H1 d1 (.dK [])):=.Qy (λz=>nomatch z) S1.gW C8 oB .held;have WS:gi τ1 d1 .held h=.nU:=by rw[cT n1];exact th1
   have Sb:=dS.put (T:=λt=>t=.nU) (o:=.ins (A.cl .aD) dx (hf p d1 sd)) (λz=>nomatch z) Sa.gW (x:=h) (o':=.ins (A.cl .aD) dx (hf p hd sd)) (by rw[az n1];exact zI) WS oY;have Sc:=dS.Qy (T:=λt=>t=.nU) (o:=.dK []) (λz=>nomatch z) Sb.gW hd2 oB .smalls;have WR:gi (gi τ1 d1 .held) d2 .smalls h=.nU:=by rw[cT n2];exact WS
   have Sd:=dS.put (T:=λt=>t=.nU) (o:=.ins (A.cl .aD) dx (hf p d1 d2)) (λz=>nomatch z) Sc.gW (x:=h) (o':=.ins (A.cl .aD) dx (hf p d1 sd)) (by rw[az n2];exact ak) WR oY;have Sx:=Sa.trans (Sb.trans (Sc.trans Sd));have q1:∀v:HO,upd (upd (upd (upd H1 d1 (.dK [])) h v) d2 (.dK [])) h (.ins (A.cl .aD) dx (hf p d1 d2)) d1=some (.dK []):=λv=>by rw[az n1.symm,az Yd,az n1.symm,ak]
   have q2:∀v:HO,upd (upd (upd (upd H1 d1 (.dK [])) h v) d2 (.dK [])) h (.ins (A.cl .aD) dx (hf p d1 d2)) d2=some (.dK []):=λv=>by rw[az n2.symm,ak]
   have G3:eB A _ (gi (gi τ1 d1 .held) d2 .smalls) h ⟨λ_=>0,h_ x.toNat y.toNat z.toNat,[],[]⟩:=
    ⟨dx,p,d1,d2,[],[],ak,WR,(G1 λ_=>0).step Sx (λz=>nomatch z) (λz=>nomatch z) (λz=>nomatch z),q1 _,.nil,by rw[cT Yd,eV],q2 _,.nil,eV⟩
   have sR:=m_.step Sx (λz=>nomatch z);have e1:iO "held" (V.ref d1) (hf p hd sd)=hf p d1 sd:=rfl;have e2:iO "small_runs" (V.ref d2) (hf p d1 sd)=hf p d1 d2:=rfl;rw[e1,e2];generalize upd (upd (upd (upd H1 d1 (.dK [])) h (.ins (A.cl .aD) dx (hf p d1 sd))) d2 (.dK [])) h (.ins (A.cl .aD) dx (hf p d1 d2))=H3 at Sx G3 sR⊢;generalize gi (gi τ1 d1 .held) d2 .smalls=τ3 at Sx G3 sR;clear Sa Sb Sc Sd q1 q2 WS WR
   refine ⟨_,rfl,⟨_,T.sz _⟩,wW (K:=K) (a:=A.sizes) (xs:=aV.map V.int) (λi σ H2=>∃(v5:Option V) (τ2:Tg),σ=[some (.ref h),some (.int x),some (.int y),some (.int z),some (.ref g),v5]/\dS TD τ3 τ2 H3 H2/\
     eB A H2 τ2 h ⟨λ_=>0,h_ x.toNat y.toNat z.toNat,[],(aV.take i).map λz=>(z,[])⟩/\bB A H2 τ2 g rs (([]:List (List Int))++(mV c.pg).map aO))
    ⟨none,τ3,rfl,.refl id Sx.gW,G3,sR⟩ (λi σ H2 _ _=>T.sz H2) ?_ ?_⟩
   ·rintro i v σ H2 hi ⟨v5,τ2,rfl,S2,G2,lS⟩;obtain ⟨zz,hz,rfl⟩:=ints_get hi;refine ⟨bH _,λl hl=>?_⟩;have s3:=aX (o:=.lst []) hl;have S3:dS TD τ2 (gi τ2 l (.sl zz)) H2 (upd H2 l (.lst [])):=.Qy id S2.gW hl mE _;have G4:=G2.ext s3 S3.ext;have wR:=lS.ext s3 S3.ext;obtain ⟨Ms,p4,IV,Tf,Wh,Yi,f1,f2,f3,f4,f5,f6,f7,f8,f9⟩:=id G4.ex
    have hlen:Yi.length<=40:=by
     rw[f8.len];show ((aV.take i).map _).length<=40;rw[aj,bS,xA];omega
    refine ⟨_,rfl,h,_,Ms,_,_,rfl,f1,CH,NH "small_runs" (by decide),rfl,_,rfl,Tf,_,rfl,vv.k (k:=aW zz) f7 (big (by omega)),?_⟩;obtain ⟨S6,G6,Ll⟩:=eB.BQ (A:=A) (z:=zz) (l:=[]) S3.gW f1 f2 f3 f4 f5 f6 f7 f8 f9 ak eV;refine ⟨_,_,rfl,S2.trans (S3.trans S6),?_,Ll _ _ _ wR⟩;rw[<-JL hz];exact G6
   ·rintro σ H2 ⟨v5,τ2,rfl,S2,G2,lS⟩;rw[aj,ff] at G2;obtain ⟨⟨a1,a2⟩,_⟩:=id b1;refine kQ H2 ⟨τ2,cB x.toNat y.toNat z.toNat,m,some ⟨some (h_ x.toNat y.toNat z.toNat),[],[]⟩,mV c.pg,(S1.tz).trans ((Sx.tz).trans S2.tz),⟨G2,λq hq=>(nomatch hq),gP⟩,Rel.fresh (by omega),bH _,lS,?_,LV R b1⟩;unfold mV;rw[aj];exact cE ok.Az (by decide)
end
end Rm
namespace Rm
open PySem L2
def TW:Tag->Prop:=λt=>∃c,t=.DQ c
theorem TW.no:¬TW .other:=λ⟨_,z⟩=>nomatch z
section
variable{P:Program}{w:World}{K:au}{mg:Str->Option Value}{base:Heap}{A:gI}
def nW(A:gI)(H:Hp)(τ:Tg)(h:Addr)(n0:Nat)(p:fL cX)(a:cX)(H':Hp):Prop:=
 ∃c' m' S',dS TW τ τ H H'/\ja A H' τ h c' m'/\Rel c' m' S'/\c'.held.length<=n0+1/\p=.done (some S') a
theorem nW.stop{H H':Hp}{τ:Tg}{h:Addr}{c:HC}{m:Addr->iJ}{S:bg}{p:fL cX}{a:cX}(al:Al τ H)(s:cY H H')(F:ja A H τ h c m)(R:Rel c m S)(e:p=.done (some S) a):nW A H τ h c.held.length p a H':=
 ⟨c,m,S,.same TW.no al s,F.same s,R,jF _,e⟩
theorem ja.wrote{H H':Hp}{τ:Tg}{h:Addr}{c:HC}{m:Addr->iJ}{k:Int}{b:lD}{p':iJ}{iE:PS}(F:ja A H τ h c m)(hb:bM c.held k=some b)(s:dS (TC b.con) τ τ H H')(C:fP A H' τ b.con p')(sm:tu c.pg iE)(lu:(c.held.map (·.1)).Nodup):ja A H' τ h {c with pg:=iE} (qW m b.con p'):=by
 refine ⟨(F.hs.Jt s).VX sm,λq hq=>?_,F.cd⟩;have oh:q∈c.held:=hq
 by_cases e:q.1=k
 ·have:q=(k,b):=jE lu oh (eN hb) e;subst this;rw[fD];exact C
 ·have rY:=F.OY hb q oh e;rw[ic rY];exact (F.con q oh).step s (λz=>nomatch z) (λz=>rY (Tag.DQ.inj z))
theorem dS.tw{c:Addr}{τ τ':Tg}{H H':Hp}(s:dS (TC c) τ τ' H H'):dS TW τ τ' H H':=s.mono TW.no λt e=>⟨c,e⟩
def PB(A:gI):Sp:=λvs H Q E=>∃(τ:Tg) (h:Addr) (c:HC) (m:Addr->iJ) (S:bg) (at_:Int) (l:Addr) (row:List Nat),vs=[.ref h,.int at_,.ref l]/\Al τ H/\ja A H τ h c m/\Rel c m S/\H l=some (.lst (row.map λ(x:Nat)=>V.int x))/\row.length<=4096/\(∀x∈row,x<=255)/\
 (∀H',nW A H τ h c.held.length (bI (some S) (.put at_ (some row))) (aZ 0) H'->Q .kq H')/\(∀H' o,nW A H τ h c.held.length (bI (some S) (.put at_ (some row))) (aZ (-5)) H'->E (.ref (A.ex .dO)) o H')
theorem PV:bF ["self","at","row","byte","place"] ["self","at","row"] (aY (Fn.st .wg)):=fs
theorem NC(T:Txt A K mg):dU P w K mg base (l8 P w) 3 (A.f .wg) (A.fd .wg) ["self","at","row"] (PB A):=by
 refine rT (T.fn .wg) PV (λvs H Q E h=>?_) (λgX B outer sh H vs Q E hr h=>?_)
 ·obtain ⟨τ,h,c,m,S,at_,l,row,rfl,_⟩:=h;rfl
 ·obtain ⟨τ,h,c,m,S,at_,l,row,rfl,al,F,R,hl,hlen,ye,kQ,kE⟩:=h;have hu:=jJ hr;have CH:=T.cls .aD;have NH:∀f,f∈j9 .aD->ek K (A.cl .aD) f:=T.na .aD;have CB:=T.cls .bD;have NB:∀f,f∈j9 .bD->ek K (A.cl .bD) f:=T.na .bD;have kr:i9 1 _:=hr.mono (by decide)
  refine ⟨_,ao (bV (dh (gH T) kr rfl (T.o_ .aS rfl) (T.fn .aS).kp (T.bn .aS) .nil dP (aa (cF cQ rfl T.mK.len cH (aa (pv 2) aA)) (aa bq (aa (pk 4096 T) aA)))))<|
   ao (jY PassesOwn.leaving rfl (iV (pv 2)) (dB (i:=3) PV.nd rfl (bh rfl))
    (aF (bV (dh (gH T) kr rfl (T.o_ .aS rfl) (T.fn .aS).kp (T.bn .aS) .nil dP (aa (pv 3) (aa bq (aa (pk 255 T) aA)))))))<|
   aF (fC (pH (pv 2) (λ_=>rfl))
    (ao (bY (i:=4) PV.nd rfl (bh rfl) (bK (pv 0) CH (T.me .fO .aD rfl rfl) (wJ T) hr (T.bn .fO) .nil dP (aa (pv 1) (aa (cF cQ rfl T.mK.len cH (aa (pv 2) aA)) aA))))<|
     aF (bV (bK (bz (ig hu (bz (pv 0) rfl) (pv 4) (λ_ _=>rfl)) rfl) (T.cls .bQ) (T.me .lU .bQ rfl rfl) (zx T) hr (T.bn .lU) .nil c_ (aa (bW gj (pv 1) (pv 4)) (aa (sD yY rfl T.tup PyProof.Rows.boot_tuple (aa (pv 2) aA)) aA))))) cZ),?_⟩
  have Od:(((row.map λ(x:Nat)=>V.int x).length:Nat):Int)=(row.length:Int):=by rw[aj]
  refine ⟨_,rfl,l,_,rfl,.inl (.of hl),_,0,4096,rfl,λ_=>?_,λz=>absurd (by rw[Od];omega) z⟩
  refine ⟨_,rfl,l,rfl,⟨_,.of hl⟩,j8 (K:=K) (a:=l) (xs:=row.map λ(x:Nat)=>V.int x) (λi σ H2=>∃(v3:Option V),σ=[some (.ref h),some (.int at_),some (.ref l),v3,none]/\H2=H)
   ⟨none,rfl,rfl⟩ (λi σ H2 _ ⟨_,_,e⟩=>by rw[e];exact .of hl) ?_ ?_⟩
  ·rintro i y σ H2 hi ⟨v3,rfl,rfl⟩;rw[cu] at hi;cases ex:row[i]? with
   |none=>rw[ex] at hi;cases hi
   |some x=>
    rw[ex] at hi;cases hi;have:=ye x (cA ex);exact ⟨_,rfl,_,0,255,rfl,λ_=>⟨_,rfl,rfl⟩,λz=>absurd (by omega) z⟩
  ·rintro σ H2 ⟨v3,rfl,rfl⟩;refine ⟨_,rfl,_,.inl ⟨_,.of hl,rfl⟩,?_⟩
   have Rg:¬((row.any λx=>decide (255<x))=true):=by
    rw[dG];rintro ⟨x,hx,z⟩;have:=ye x hx;simp only[decide_eq_true_eq] at z;omega
   have es:bI (some S) (.put at_ (some row))=if row=[] then .done (some S) (aZ 0) else match S.holding at_ row.length with
     |none=>.done (some S) (aZ (-5))
     |some _=>.done (some {S with pages:=lM S.pages at_.toNat row}) (aZ 0):=by
    show (if (row.any λx=>decide (255<x))=true then _ else _)=_;rw[if_neg Rg]
    by_cases z:row=[]
    ·rw[if_pos z,if_pos z]
    ·rw[if_neg z,if_neg z];rfl
   cases row with
   |nil=>
    rw[if_pos rfl] at es;exact mJ (kQ _ (.stop al (.refl _) F R es))
   |cons x0 rest=>
    rw[if_neg (by simp)] at es;refine lg ?_;obtain ⟨dx,p0,hd,sd,kh,ks,h1,_⟩:=id F.hs.ex;have Wo:0<(x0::rest).length:=by simp
    rw[R.holding Wo] at es;generalize (x0::rest)=row at es hl hlen ye kQ kE Od Wo;refine ⟨_,rfl,h,dx,_,rfl,h1,rfl,_,rfl,_,rfl,l,_,rfl,.inl (.of hl),τ,h,c,at_,_,rfl,F.hs,R.lu,λql H3 s3=>?_,λq hq hle H3 s3=>?_⟩
    ·rw[Od] at ql;refine kE H3 none (.stop al s3 F R ?_);rw[es];cases ef:c.held.find? (hasB at_) with
     |none=>rfl
     |some q=>
      dsimp only;rw[if_neg (ql q ef)]
    ·rw[Od] at hle;rw[hq] at es;dsimp only at es;rw[if_pos hle] at es;dsimp only at es;have Bf:=bE hq;have hv:bM c.held q.1=some q.2:=d7 R.lu Bf;have hp:=di hq;unfold hasB at hp;simp only[aC,decide_eq_true_eq] at hp;obtain ⟨q0,qs,qb,_⟩:=R.fits hv;have F3:=F.same s3;have al3:Al τ H3:=(dS.same (T:=TW) TW.no al s3).gW;obtain ⟨a,bx,Oe,p3,Va,W8,Yj,Sm,Z1,_,N8,ta3,_⟩:=F3.hs.obj hv;have c3:=F3.con q Bf;obtain ⟨cx,cd,WH,N6,_⟩:=id c3.ex;refine ⟨_,rfl,h,_,Oe,_,_,rfl,Sm,CH,NH "held" (by decide),rfl,_,rfl,Va,_,rfl,Z1,a,_,bx,_,_,rfl,N8,CB,NB "content" (by decide),rfl,q.2.con,cx,_,rfl,N6,rfl,_,rfl,_,rfl,_,_,rfl,rfl,_,rfl,l,_,rfl,.inl ⟨.of (s3 _ _ hl),λt ht=>?_⟩⟩;have s4:=aX (o:=.tup (row.map λ(x:Nat)=>V.int x)) ht;have e4:(row.map λ(x:Nat)=>V.int (x:Int))=(row.map λ(x:Nat)=>(x:Int)).map V.int:=by rw[ay];rfl
     obtain ⟨o,ho⟩:=cS (show 0<=at_-q.1 by omega);obtain ⟨iE,e5,sm,w5⟩:=R.wrote hv (o:=o) (row:=row) (by omega) ye (F.OY hv);refine ⟨τ,q.2.con,m q.2.con,at_-q.1,t,row.map λ(x:Nat)=>(x:Int),rfl,(dS.same (T:=TW) TW.no al3 s4).gW,c3.same s4,R.pc q Bf,by rw[ak,e4],by omega,by rw[aj];omega,λH5 m' S5 C5 ok5 ec5=>?_⟩;have F5:=(F3.same s4).wrote hv S5 C5 sm R.lu;refine kQ H5 ⟨_,_,_,(dS.same TW.no al (s3.trans s4)).trans S5.tw,F5,w5 m' ok5 (λx=>?_),jF _,?_⟩
     ·rw[ec5,ho];unfold wr;rw[aj]
      by_cases cx:(o:Int)<=x/\x<(o:Int)+(row.length:Int)
      ·rw[if_pos cx,if_pos cx,bA,cu,bA];cases row[(x-(o:Int)).toNat]?<;>rfl
      ·rw[if_neg cx,if_neg cx]
     ·have:at_.toNat=q.1.toNat+o:=by omega
      rw[es,this,e5]
end
end Rm
namespace Rm
open PySem L2
theorem Rel.read{c:HC}{m:Addr->iJ}{S:bg}(R:Rel c m S){k:Int}{b:lD}(h:bM c.held k=some b){o n:Nat}(hl:o+n<=b.size):
  fK S.pages (k.toNat+o) n=(bX n).map λj=>gx c.pg (k.toNat+o+j):=by
 obtain ⟨k0,YF,_,r,hr,qB,hm,kr,AY⟩:=R.fits h;rw[R.pg];exact yu R.ok ⟨r,hr,by omega,by omega,hm⟩
theorem Rel.TU{c:HC}{m:Addr->iJ}{S:bg}(R:Rel c m S){k:Int}{b:lD}(h:bM c.held k=some b){o n:Nat}(hl:o+n<=b.size):
  rd (jD (m b.con)) (o:Int) n=(fK S.pages (k.toNat+o) n).map λ(x:Nat)=>(x:Int):=by
 rw[R.read h hl];unfold rd;rw[ay];refine aN λj hj=>?_;have Q5:=e9.mp hj;have:=R.tW _ (eN h) (o+j);dsimp only at this;rw[if_pos (by omega)] at this;have e:(o:Int)+(j:Int)=((o+j:Nat):Int):=by omega
 rw[e,this];show _=((gx c.pg (k.toNat+o+j):Nat):Int)
 rw[ni]
section
variable{P:Program}{w:World}{K:au}{mg:Str->Option Value}{base:Heap}{A:gI}
def PF(A:gI):Sp:=λvs H Q E=>∃(τ:Tg) (h:Addr) (c:HC) (m:Addr->iJ) (S:bg) (at_ n:Int),vs=[.ref h,.int at_,.int n]/\Al τ H/\ja A H τ h c m/\Rel c m S/\
 (∀H' l (out:List Int),cY H H'->H l=none->H' l=some (.lst (out.map V.int))->out.length<=4096->bI (some S) (.get at_ n)=.done (some S) ⟨0,out⟩->Q (.ref l) H')/\
 (∀H' o,cY H H'->bI (some S) (.get at_ n)=.done (some S) (aZ (-8))->E (.ref (A.ex .b7)) o H')/\
 (∀H' o,cY H H'->bI (some S) (.get at_ n)=.done (some S) (aZ (-5))->E (.ref (A.ex .dO)) o H')
theorem Tu:bF ["self","at","many","place"] ["self","at","many"] (aY (Fn.st .wj)):=fs
theorem ND(T:Txt A K mg):dU P w K mg base (l8 P w) 3 (A.f .wj) (A.fd .wj) ["self","at","many"] (PF A):=by
 refine rT (T.fn .wj) Tu (λvs H Q E h=>?_) (λgX B outer sh H vs Q E hr h=>?_)
 ·obtain ⟨τ,h,c,m,S,at_,n,rfl,_⟩:=h;rfl
 ·obtain ⟨τ,h,c,m,S,at_,n,rfl,al,F,R,kQ,kE,kN⟩:=h;have hu:=jJ hr;have CH:=T.cls .aD;have NH:∀f,f∈j9 .aD->ek K (A.cl .aD) f:=T.na .aD;have CB:=T.cls .bD;have NB:∀f,f∈j9 .bD->ek K (A.cl .bD) f:=T.na .bD;have kr:i9 1 _:=hr.mono (by decide)
  refine ⟨_,ao (bV (dh (gH T) kr rfl (T.o_ .aS rfl) (T.fn .aS).kp (T.bn .aS) .nil dP (aa (pv 2) (aa bq (aa (pk 4096 T) aA)))))<|
   ao (fC (dz lA (pv 2) bq (dH _)) (aF (bT (fy aA))) cZ)<|
   ao (bY (i:=3) Tu.nd rfl (bh rfl) (bK (pv 0) CH (T.me .fO .aD rfl rfl) (wJ T) hr (T.bn .fO) .nil dP (aa (pv 1) (aa (pv 2) aA))))<|
   aF (bT (bK (bz (ig hu (bz (pv 0) rfl) (pv 3) (λ_ _=>rfl)) rfl) (T.cls .bQ) (T.me .qM .bQ rfl rfl) (KO T) hr (T.bn .qM) .nil c_ (aa (bW gj (pv 1) (pv 3)) (aa (pv 2) aA)))),?_⟩
  refine ⟨_,rfl,n,0,4096,rfl,λb1=>?_,λb1=>kE H none (.refl _) ?_⟩
  rotate_left
  ·show (if cP n 0 4096=false then _ else _)=_;rw[if_pos (jv.mpr b1)]
  have es:bI (some S) (.get at_ n)=if n=0 then .done (some S) (aZ 0) else match S.holding at_ n.toNat with
    |none=>.done (some S) (aZ (-5))
    |some _=>.done (some S) ⟨0,(fK S.pages at_.toNat n.toNat).map λ(x:Nat)=>(x:Int)⟩:=by
   show (if cP n 0 4096=false then _ else _)=_;rw[if_neg (λz=>jv.mp z b1)];rfl
  refine ⟨_,rfl,rfl,_,rfl,iP (λz=>?_) (λz=>?_)⟩
  ·have z':n=0:=V.int.inj (of_decide_eq_true z);rw[if_pos z'] at es;exact ⟨bH _,λl hl=>kQ _ l [] (aX hl) hl ak (bH _) es⟩
  ·have z':¬n=0:=λq=>z (decide_eq_true (by rw[q]));rw[if_neg z'] at es;obtain ⟨N,rfl⟩:=cS b1.1;have hN:0<N:=by omega
   obtain ⟨dx,p0,hd,sd,kh,ks,h1,_⟩:=id F.hs.ex;rw[aU,R.holding hN] at es;refine ⟨_,rfl,h,dx,_,rfl,h1,rfl,_,rfl,_,rfl,τ,h,c,at_,N,rfl,F.hs,R.lu,λql H3 s3=>?_,λq hq hle H3 s3=>?_⟩
   ·refine kN H3 none s3 ?_;rw[es];cases ef:c.held.find? (hasB at_) with
    |none=>rfl
    |some q=>
     dsimp only;rw[if_neg (ql q ef)]
   ·rw[hq] at es;dsimp only at es;rw[if_pos hle] at es;dsimp only at es;have Bf:=bE hq;have hv:bM c.held q.1=some q.2:=d7 R.lu Bf;have hp:=di hq;unfold hasB at hp;simp only[aC,decide_eq_true_eq] at hp;obtain ⟨q0,qs,qb,_⟩:=R.fits hv;have F3:=F.same s3;obtain ⟨a,bx,Oe,p3,Va,W8,Yj,Sm,Z1,_,N8,ta3,_⟩:=F3.hs.obj hv;have c3:=F3.con q Bf;obtain ⟨cx,cd,WH,N6,_⟩:=id c3.ex;obtain ⟨o,ho⟩:=cS (show 0<=at_-q.1 by omega);refine ⟨_,rfl,h,_,Oe,_,_,rfl,Sm,CH,NH "held" (by decide),rfl,_,rfl,Va,_,rfl,Z1,a,_,bx,_,_,rfl,N8,CB,NB "content" (by decide),rfl,q.2.con,cx,_,rfl,N6,rfl,_,rfl,_,rfl,_,_,rfl,rfl,_,rfl,?_⟩;refine ⟨τ,q.2.con,m q.2.con,at_-q.1,N,rfl,c3,R.pc q Bf,by omega,λH4 l s4 hl Sg=>?_⟩;refine kQ H4 l _ (s3.trans s4) (s3.free hl) Sg ?_ ?_
    ·unfold rd;rw[aj,kg];omega
    ·rw[es,ho,R.TU hv (by omega)];have:at_.toNat=q.1.toNat+o:=by omega
     rw[this]
def MR(A:gI):Sp:=λvs H Q E=>∃(τ:Tg) (h:Addr) (c:HC) (m:Addr->iJ) (S:bg) (f g n:Int),vs=[.ref h,.int f,.int g,.int n]/\Al τ H/\ja A H τ h c m/\Rel c m S/\
 (∀H',nW A H τ h c.held.length (bI (some S) (.copy f g n)) (aZ 0) H'->Q .kq H')/\
 (∀H' o,nW A H τ h c.held.length (bI (some S) (.copy f g n)) (aZ (-8)) H'->E (.ref (A.ex .b7)) o H')/\
 (∀H' o,nW A H τ h c.held.length (bI (some S) (.copy f g n)) (aZ (-5)) H'->E (.ref (A.ex .dO)) o H')
theorem Na:bF ["self","origin","goal","many","source","target","parts"] ["self","origin","goal","many"] (aY (Fn.st .qJ)):=fs
theorem KJ(T:Txt A K mg):dU P w K mg base (l8 P w) 4 (A.f .qJ) (A.fd .qJ) ["self","origin","goal","many"] (MR A):=by
 refine rT (T.fn .qJ) Na (λvs H Q E h=>?_) (λgX B outer sh H vs Q E hr h=>?_)
 ·obtain ⟨τ,h,c,m,S,f,g,n,rfl,_⟩:=h;rfl
 ·obtain ⟨τ,h,c,m,S,f,g,n,rfl,al,F,R,kQ,kE,kN⟩:=h;have hu:=jJ hr;have CH:=T.cls .aD;have NH:∀f,f∈j9 .aD->ek K (A.cl .aD) f:=T.na .aD;have CB:=T.cls .bD;have NB:∀f,f∈j9 .bD->ek K (A.cl .bD) f:=T.na .bD;have kr:i9 1 _:=hr.mono (by decide);have AY:i9 2 _:=hr.mono (by decide)
  refine ⟨_,ao (bV (dh (gH T) kr rfl (T.o_ .aS rfl) (T.fn .aS).kp (T.bn .aS) .nil dP (aa (pv 3) (aa bq (aa (pk 1048576 T) aA)))))<|
   ao (fC (dz lA (pv 3) bq (dH _)) (aF AG) cZ)<|
   ao (bY (i:=4) Na.nd rfl (bh rfl) (bK (pv 0) CH (T.me .fO .aD rfl rfl) (wJ T) AY (T.bn .fO) .nil dP (aa (pv 1) (aa (pv 3) aA))))<|
   ao (bY (i:=5) Na.nd rfl (bh rfl) (bK (pv 0) CH (T.me .fO .aD rfl rfl) (wJ T) AY (T.bn .fO) .nil dP (aa (pv 2) (aa (pv 3) aA))))<|
   ao (bY (i:=6) Na.nd rfl (bh rfl) (bK (bz (ig hu (bz (pv 0) rfl) (pv 4) (λ_ _=>rfl)) rfl) (T.cls .bQ) (T.me .mX .bQ rfl rfl) (Hz T) kr (T.bn .mX) .nil c_ (aa (bW gj (pv 1) (pv 4)) (aa (pv 3) aA))))<|
   aF (bV (bK (bz (ig hu (bz (pv 0) rfl) (pv 5) (λ_ _=>rfl)) rfl) (T.cls .bQ) (T.me .gT .bQ rfl rfl) (KP T) hr (T.bn .gT) .nil c_ (aa (bW gj (pv 2) (pv 5)) (aa (pv 3) (aa (pv 6) aA))))),?_⟩
  refine ⟨_,rfl,n,0,1048576,rfl,λb1=>?_,λb1=>kE H none (.stop al (.refl _) F R ?_)⟩
  rotate_left
  ·show (if cP n 0 1048576=false then _ else _)=_;rw[if_pos (jv.mpr b1)]
  have es:bI (some S) (.copy f g n)=if n=0 then .done (some S) (aZ 0) else match S.holding f n.toNat,S.holding g n.toNat with
    |some _,some _=>.done (some {S with pages:=lM S.pages g.toNat (fK S.pages f.toNat n.toNat)}) (aZ 0)
    |_,_=>.done (some S) (aZ (-5)):=by
   show (if cP n 0 1048576=false then _ else _)=_;rw[if_neg (λz=>jv.mp z b1)];rfl
  refine ⟨_,rfl,rfl,_,rfl,iP (λz=>?_) (λz=>?_)⟩
  ·have z':n=0:=V.int.inj (of_decide_eq_true z);rw[if_pos z'] at es;exact kQ _ (.stop al (.refl _) F R es)
  have z':¬n=0:=λq=>z (decide_eq_true (by rw[q]));rw[if_neg z'] at es;obtain ⟨N,rfl⟩:=cS b1.1;have hN:0<N:=by omega
  obtain ⟨dx,p0,hd,sd,kh,ks,h1,_⟩:=id F.hs.ex;rw[aU] at es;refine ⟨_,rfl,h,dx,_,rfl,h1,rfl,_,rfl,_,rfl,τ,h,c,f,N,rfl,F.hs,R.lu,λql H3 s3=>?_,λq hq hle H3 s3=>?_⟩
  ·refine kN H3 none (.stop al s3 F R ?_);rw[es,R.holding hN];cases ef:c.held.find? (hasB f) with
   |none=>rfl
   |some q=>
    dsimp only;rw[if_neg (ql q ef)]
  have F3:=F.same s3;obtain ⟨Oe,p03,Va,W8,Yj,ks3,h13,_⟩:=id F3.hs.ex;refine ⟨_,rfl,h,Oe,_,rfl,h13,rfl,_,rfl,_,rfl,τ,h,c,g,N,rfl,F3.hs,R.lu,λql H4 s4=>?_,λq2 Le Ze H4 s4=>?_⟩
  ·refine kN H4 none (.stop al (s3.trans s4) F R ?_)
   have e2:S.holding g N=none:=by
    rw[R.holding hN];cases ef:c.held.find? (hasB g) with
    |none=>rfl
    |some q=>
     dsimp only;rw[if_neg (ql q ef)]
   rw[es,e2];cases S.holding f N<;>rfl
  have e1:∃x,S.holding f N=some x:=by
   rw[R.holding hN,hq];dsimp only;rw[if_pos hle];exact ⟨_,rfl⟩
  have e2:∃x,S.holding g N=some x:=by
   rw[R.holding hN,Le];dsimp only;rw[if_pos Ze];exact ⟨_,rfl⟩
  obtain ⟨x1,e1⟩:=e1;obtain ⟨x2,e2⟩:=e2;rw[e1,e2] at es;dsimp only at es;have XD:=s3.trans s4;have F4:=F.same XD;have al4:Al τ H4:=(dS.same (T:=TW) TW.no al XD).gW;have Bf:=bE hq;have hv:bM c.held q.1=some q.2:=d7 R.lu Bf;have hp:=di hq;unfold hasB at hp;simp only[aC,decide_eq_true_eq] at hp;obtain ⟨q0,qs,qb,_⟩:=R.fits hv;have QW:=bE Le;have Lb:bM c.held q2.1=some q2.2:=d7 R.lu QW;have yE:=di Le;unfold hasB at yE;simp only[aC,decide_eq_true_eq] at yE;obtain ⟨q20,q2s,q2b,_⟩:=R.fits Lb;obtain ⟨a,bx,Ms,p4,IV,Tf,Wh,ZL,Z0,_,Wx,ta4,_⟩:=F4.hs.obj hv;have c4:=F4.con q Bf;obtain ⟨cx,cd,WH,ZE,_⟩:=id c4.ex;obtain ⟨o,ho⟩:=cS (show 0<=f-q.1 by omega);obtain ⟨o2,Ec⟩:=cS (show 0<=g-q2.1 by omega);refine ⟨_,rfl,h,_,Ms,_,_,rfl,ZL,CH,NH "held" (by decide),rfl,_,rfl,IV,_,rfl,Z0,a,_,bx,_,_,rfl,Wx,CB,NB "content" (by decide),rfl,q.2.con,cx,_,rfl,ZE,rfl,_,rfl,_,rfl,_,_,rfl,rfl,_,rfl,?_⟩;refine ⟨τ,q.2.con,m q.2.con,f-q.1,N,rfl,c4,R.pc q Bf,λH5 l ps s5 hl hP _ hPs=>?_⟩;have F5:=F4.same s5;have al5:Al τ H5:=(dS.same (T:=TW) TW.no al4 s5).gW;obtain ⟨a5,bx5,WD,p5,hd5,sd5,kh5,hH5,dg5,_,ha5,ta5,_⟩:=F5.hs.obj Lb;have c5:=F5.con q2 QW;obtain ⟨cx5,cd5,a4h,hc5,_⟩:=id c5.ex;refine ⟨_,rfl,h,_,WD,_,_,rfl,hH5,CH,NH "held" (by decide),rfl,_,rfl,hd5,_,rfl,dg5,a5,_,bx5,_,_,rfl,ha5,CB,NB "content" (by decide),rfl,q2.2.con,cx5,_,rfl,hc5,rfl,_,rfl,_,rfl,_,_,rfl,rfl,_,rfl,_,rfl,?_⟩
  have Vd:∀x∈fK S.pages f.toNat N,x<=255:=λx hx=>by
   have ef:f.toNat=q.1.toNat+o:=by omega
   rw[ef,R.read hv (by omega)] at hx;obtain ⟨j,hj,rfl⟩:=aq.mp hx;have Q5:=e9.mp hj;have b1:=R.tW q Bf (o+j);have b2:=R.lo q Bf ((o+j:Nat):Int);rw[b1,if_pos (by omega),<-ni] at b2;omega
  have Vb:(fK S.pages f.toNat N).length=N:=by
   have ef:f.toNat=q.1.toNat+o:=by omega
   rw[ef,R.read hv (by omega),aj,kg]
  obtain ⟨iE,e5,sm,w5⟩:=R.wrote Lb (o:=o2) (row:=fK S.pages f.toNat N) (by omega) Vd (F.OY Lb);refine ⟨τ,q2.2.con,m q2.2.con,g-q2.1,N,l,ps,jD (m q.2.con),f-q.1,rfl,al5,c5,R.pc q2 QW,hP,?_,hPs,by omega,by omega,λH6 m' S6 C6 ok6 ec6=>?_⟩
  ·exact al4.fresh hl
  have F6:=F5.wrote Lb S6 C6 sm R.lu;refine kQ H6 ⟨_,_,_,(dS.same TW.no al (XD.trans s5)).trans S6.tw,F6,w5 m' ok6 (λx=>?_),jF _,?_⟩
  ·rw[ec6,Vb,Ec];dsimp only
   by_cases cx:(o2:Int)<=x/\x<(o2:Int)+(N:Int)
   ·rw[if_pos cx,if_pos cx];have ef:f.toNat=q.1.toNat+o:=by omega
    obtain ⟨j,hj⟩:=cS (show 0<=x-(o2:Int) by omega);have e7:f-q.1+(x-(o2:Int))=((o+j:Nat):Int):=by omega
    rw[e7,R.tW q Bf,if_pos (by omega),ef,R.read hv (by omega),hj,aU,bA,cu,nZ (by omega)];show ((gx c.pg _:Nat):Int)=((gx c.pg _:Nat):Int)
    rw[ni]
   ·rw[if_neg cx,if_neg cx]
  ·have:g.toNat=q2.1.toNat+o2:=by omega
   rw[es,this,e5]
def Hf(A:gI):Sp:=λvs H Q E=>∃(τ:Tg) (h:Addr) (c:HC) (m:Addr->iJ) (S:bg) (a n:Int),vs=[.ref h,.int a,.int n]/\eB A H τ h c/\Rel c m S/\c.held.length<=100000/\a<=9223372036854775807/\
 (∀H' l (out:List Int),cY H H'->H l=none->H' l=some (.lst (V.int c.held.length::out.map V.int))->out.length<=4096->bI (some S) (.blocks a n)=.done (some S) ⟨c.held.length,out⟩->Q (.ref l) H')/\
 (∀o,bI (some S) (.blocks a n)=.done (some S) (aZ (-8))->E (.ref (A.ex .b7)) o H)
theorem P9:bF ["self","start","most","listed","place"] ["self","start","most"] (aY (Fn.st .k7)):=fs
theorem AO(c:HC):∀l:List Int,(l.flatMap (K5 c)).length=2*l.length
 |[]=>rfl
 |x::l=>by rw[dQ,aE,AO c l];show 2+_=2*(l.length+1);omega
theorem DV(T:Txt A K mg):dU P w K mg base (l8 P w) 2 (A.f .k7) (A.fd .k7) ["self","start","most"] (Hf A):=by
 refine rT (T.fn .k7) P9 (λvs H Q E h=>?_) (λgX B outer sh H vs Q E hr h=>?_)
 ·obtain ⟨τ,h,c,m,S,a,n,rfl,_⟩:=h;rfl
 ·obtain ⟨τ,h,c,m,S,a,n,rfl,hh,R,hlen,ha,kQ,kE⟩:=h;have hu:=jJ hr;have CH:=T.cls .aD;have NH:∀f,f∈j9 .aD->ek K (A.cl .aD) f:=T.na .aD;have CB:=T.cls .bD;have NB:∀f,f∈j9 .bD->ek K (A.cl .bD) f:=T.na .bD
  refine ⟨_,ao (bV (dh (gH T) hr rfl (T.o_ .aS rfl) (T.fn .aS).kp (T.bn .aS) .nil dP (aa (pv 1) (aa bq (aa (pk 9223372036854775807 T) aA)))))<|
   ao (bV (dh (gH T) hr rfl (T.o_ .aS rfl) (T.fn .aS).kp (T.bn .aS) .nil dP (aa (pv 2) (aa bq (aa (pk 1024 T) aA)))))<|
   ao (bY (i:=3) P9.nd rfl (bh rfl) (fy (aa (cF Im rfl T.mK.len cH (aa (bz (pv 0) rfl) aA)) aA)))<|
   ao (jY PassesOwn.leaving rfl (iV (kT Aw (cF (Es rfl) rfl T.mK.sorted nO (aa (bz (pv 0) rfl) aA)) (jf (pv 1)) (jf (bW fM (pv 1) (pv 2))))) (dB (i:=4) P9.nd rfl (bh rfl))
    (aF (bV (pJ cJ gD jb vd (pv 3) (aa (fy (aa (pv 4) (aa (bz (ig hu (bz (pv 0) rfl) (pv 4) (λ_ _=>rfl)) rfl) aA))) aA)))))<|
   aF (bT (pv 3)),?_⟩
  have bad:(a<0\/¬(0<=n/\n<=1024))->bI (some S) (.blocks a n)=.done (some S) (aZ (-8)):=λz=>by
   show (if a<0\/cP n 0 1024=false then _ else _)=_;rw[if_pos (z.imp id jv.mpr)]
  refine ⟨_,rfl,a,0,9223372036854775807,rfl,λb1=>?_,λb1=>kE none (bad (.inl (by omega)))⟩;refine ⟨_,rfl,n,0,1024,rfl,λb2=>?_,λb2=>kE none (bad (.inr b2))⟩
  have es:bI (some S) (.blocks a n)=.done (some S) ⟨c.held.length,(((lB (c.held.map (·.1))).drop a.toNat).take n.toNat).flatMap (K5 c)⟩:=by
   show (if a<0\/cP n 0 1024=false then _ else _)=_;rw[if_neg (λz=>z.elim (λz=>by omega) λz=>jv.mp z b2),R.listed,R.count]
  obtain ⟨dx,p,hd,sd,kh,ks,h1,t1,h2,h3,h4,t3,h5,h6,t5⟩:=id hh.ex;refine ⟨_,rfl,h,_,dx,_,_,rfl,h1,CH,NH "held" (by decide),rfl,hd,kh,rfl,h3,(by show 1<=sizeLine;decide),λl hl=>?_⟩;rw[h4.len];have s1:=aX (o:=.lst [.int (c.held.length:Nat)]) hl;refine ⟨_,rfl,h,_,dx,_,_,rfl,s1 _ _ h1,CH,NH "held" (by decide),rfl,hd,kh,c.held.map (·.1),rfl,s1 _ _ h3,h4.keys,λCV q pm pw hq=>?_⟩;have ZV:=x9 pm pw;subst ZV;have s2:=aX (o:=.lst ((lB (c.held.map (·.1))).map V.int)) hq;generalize Zi:((lB (c.held.map (·.1))).drop a.toNat).take n.toNat=sl at es;refine ⟨_,rfl,a,rfl,_,rfl,_,rfl,_,_,rfl,rfl,_,rfl,q,_,rfl,.of ak,λs hs=>?_⟩
  have Rv:o8 ((lB (c.held.map (·.1))).map V.int) (some a) (some (a+n))=sl.map V.int:=by
   rw[vp (by omega) (by omega),show (a+n-a).toNat=n.toNat by omega,r6,rK,Zi]
  rw[Rv]
  have YG:sl.length<=1024:=by
   rw[<-Zi];exact cE (ID _ _) (by omega)
  have Eg:∀x∈sl,∃b,bM c.held x=some b:=λx hx=>by
   rw[<-Zi] at hx;have hx:=tE (jc hx);rw[zG] at hx;obtain ⟨q,hq,rfl⟩:=aq.mp hx;exact ⟨_,d7 R.lu hq⟩
  have s3:=aX (o:=.lst (sl.map V.int)) hs;have V5:=s1.trans s2;have s03:=V5.trans s3;have hls:l≠s:=aQ (s2 _ _ (ak (o:=HO.lst [.int (c.held.length:Nat)]))) hs;have g1:upd (upd (upd H l (.lst [.int (c.held.length:Nat)])) q (.lst ((lB (c.held.map (·.1))).map V.int))) s (.lst (sl.map V.int)) s=some (.lst (sl.map V.int)):=ak;have g2:upd (upd (upd H l (.lst [.int (c.held.length:Nat)])) q (.lst ((lB (c.held.map (·.1))).map V.int))) s (.lst (sl.map V.int)) l=some (.lst [.int (c.held.length:Nat)]):=s3 _ _ (s2 _ _ ak);generalize upd (upd (upd H l (.lst [.int (c.held.length:Nat)])) q (.lst ((lB (c.held.map (·.1))).map V.int))) s (.lst (sl.map V.int))=H3 at g1 g2 s03 s3⊢
  refine ⟨s,rfl,⟨_,.of g1⟩,j8 (K:=K) (a:=s) (xs:=sl.map V.int) (λi σ H4=>∃(v4:Option V),σ=[some (.ref h),some (.int a),some (.int n),some (.ref l),v4]/\cY H H4/\H4 s=some (.lst (sl.map V.int))/\H4 l=some (.lst (V.int (c.held.length:Nat)::((sl.take i).flatMap (K5 c)).map V.int)))
   ⟨none,rfl,s03,g1,g2⟩ (λi σ H4 _ ⟨_,_,_,e,_⟩=>.of e) ?_ ?_⟩
  ·rintro i y σ H4 hi ⟨v4,rfl,s4,e1,e2⟩;obtain ⟨x,hx,rfl⟩:=ints_get hi;obtain ⟨b,hb⟩:=Eg x (cA hx);obtain ⟨a4,bx,Ms,p4,IV,Tf,Wh,ZL,Z0,_,Wx,ta4,_⟩:=(hh.same s4).obj hb;refine ⟨_,rfl,.inl ⟨rfl,_,.of e2⟩,_,rfl,_,rfl,h,_,Ms,_,_,rfl,ZL,CH,NH "held" (by decide),rfl,_,rfl,IV,_,rfl,Z0,a4,_,bx,_,_,rfl,Wx,CB,NB "size" (by decide),rfl,(by show 2<=sizeLine;decide),λt ht=>?_⟩;have s5:=aX (o:=.lst [.int x,.int (b.size:Nat)]) ht;have NY:=s5 _ _ e2;have eT:sl.take (i+1)=sl.take i++[x]:=by rw[cN,hx];rfl
   have eb:K5 c x=[x,(b.size:Int)]:=by unfold K5;rw[hb];rfl
   have C7:((V.int (c.held.length:Nat)::((sl.take i).flatMap (K5 c)).map V.int)).length+2<=sizeLine:=by
    rw[bL,aj,AO];have:=ID i sl;have:=GF i sl;exact dR (big (by omega))
   refine ⟨l,t,_,_,rfl,rfl,NY,ak,C7,?_⟩;refine ⟨_,rfl,λb' o' e'=>?_,?_,?_⟩
   ·rw[az (aQ e' hl)];exact s5 _ _ (s4 _ _ e')
   ·rw[az hls.symm];exact s5 _ _ e1
   ·rw[ak,eT,iz,dQ,xg,eb,aG];rfl
  ·rintro σ H4 ⟨v4,rfl,s4,e1,e2⟩;rw[aj,ff] at e2;refine ⟨_,rfl,kQ H4 l _ s4 hl e2 ?_ es⟩;rw[AO];omega
def Cz(c:HC)(z:Int):List Int:=[((((bM c.small z).getD []).length:Nat):Int),(((c.held.map λq=>((q.2.room:Nat):Int)).count z:Nat):Int)]
theorem uA(c:HC):∀l:List Int,(l.flatMap (Cz c)).length=2*l.length
 |[]=>rfl
 |x::l=>by rw[dQ,aE,uA c l];show 2+_=2*(l.length+1);omega
theorem Au:aV.length=40:=by decide
theorem LN(c:HC):(Ik c).length=81:=by
 show (aV.flatMap (Cz c)++[_]).length=_;rw[aE,uA,Au];rfl
def ie(c:HC):List Int:=c.held.map λq=>((q.2.room:Nat):Int)
theorem AA(c:HC):((ie c).filter λz=>decide (32768<z)).length=((c.held.map λq=>q.2.room).filter λz=>decide (32768<z)).length:=by
 unfold ie
 induction c.held with
 |nil=>rfl
 |cons q l ih=>
  rw[aI,aI,bU,bU]
  by_cases e:32768<q.2.room
  ·rw[if_pos (by simp only[decide_eq_true_eq];omega),if_pos (by simpa using e),bL,bL,ih]
  ·rw[if_neg (by simp only[decide_eq_true_eq];omega),if_neg (by simpa using e),ih]
def G_(A:gI):Sp:=λvs H Q _=>∃(τ:Tg) (h:Addr) (c:HC) (m:Addr->iJ) (S:bg),vs=[.ref h]/\eB A H τ h c/\Rel c m S/\c.held.length<=100000/\
 (∀H' l,cY H H'->H l=none->H' l=some (.lst ((Ik c).map V.int))->Q (.ref l) H')
theorem DC:bF ["self","block","rooms","counted","small","room","great"] ["self"] (aY (Fn.st .k6)):=fs
theorem DU(T:Txt A K mg):dU P w K mg base pq 1 (A.f .k6) (A.fd .k6) ["self"] (G_ A):=by
 refine (T.fn .k6).ok DC (λvs H Q E h=>?_) (λgX B outer sh H vs Q E hr h=>?_)
 ·obtain ⟨τ,h,c,m,S,rfl,_⟩:=h;rfl
 ·obtain ⟨τ,h,c,m,S,rfl,hh,R,hlen,k⟩:=h;have hu:=jJ hr;have CH:=T.cls .aD;have NH:∀f,f∈j9 .aD->ek K (A.cl .aD) f:=T.na .aD;have CB:=T.cls .bD;have NB:∀f,f∈j9 .bD->ek K (A.cl .bD) f:=T.na .bD;obtain ⟨dx,p,hd,sd,kh,ks,h1,t1,h2,h3,h4,t3,h5,h6,t5⟩:=id hh.ex
  refine ⟨_,ao (ue (ud (i:=2) (own:=[("block",1)]) (te:=By K (l7 1) "room") rfl DC.nd rfl rfl (wD rfl rfl rfl rfl) (u6 (bz (pv 0) rfl)) (jz rfl)
    (λ_ _ _ _ _=>dB (i:=1) DC.nd rfl (bh rfl)) (λ_ _ _ _ _=>nv) (λ_ _ _ _ _=>bz (pv 1) rfl)))<|
   ao (bY (i:=3) DC.nd rfl (bh rfl) (fy aA))<|
   ao (jY PassesOwn.never rfl (AH (sC (v:=.ref A.sizes) rfl T.Wf rfl)) (dB (i:=4) DC.nd rfl (bh rfl))
    (aF (bV (pJ cJ gD jb vd (pv 3) (aa (fy (aa (cF cQ rfl T.mK.len cH (aa (ig hu (bz (pv 0) rfl) (pv 4) (λ_ _=>rfl)) aA)) (aa (pJ cJ PySem.F.slot_list_count PySem.F.type_list_count HD (pv 2) (aa (pv 4) aA)) aA))) aA)))))<|
   ao (ud (i:=6) (own:=[("room",5)]) (tt:=E1 (Pc (J2 λi j=>.bl (decide (j<i))) (l7 5) (tC (.int 32768)))) rfl DC.nd rfl rfl (wD rfl rfl rfl rfl) (iV (pv 2)) (jz rfl)
    (λ_ _ _ _ _=>dB (i:=5) DC.nd rfl (bh rfl)) (λ_ _ _ _ _=>AE (dz pK (pv 5) (pk 32768 T) (dH _))) (λ_ _ _ _ _=>pv 5))<|
   aF (bT (bW oX (pv 3) (fy (aa (cF cQ rfl T.mK.len cH (aa (pv 6) aA)) aA)))),?_⟩
  have el:=h4.len;refine ⟨hd,.dK kh,h3,trivial,λod=>?_⟩;refine ⟨_,rfl,h,_,dx,_,_,rfl,kU h3 h1,CH,NH "held" (by decide),rfl,hd,od,kh,rfl,ak,λD hD=>xY (λi=>(c.held[i]?).map λq=>V.int (q.2.room:Nat)) (by omega) hD ak ?_ ?_⟩
  ·rintro i k' v H2 R N hi b hk;obtain ⟨⟨k1,b1⟩,hq,Q4,a1,Iq,rfl,wU,_⟩:=h4.get hi;have hR:=(hk H2 (.refl _)).1 _ (by rw[hq];rfl);exact ⟨rfl,yes (lg ⟨_,rfl,a1,_,Iq,_,_,rfl,b _ _ (kU h3 wU),CB,NB "room" (by decide),rfl,hR⟩)⟩
  intro H' s2 Rl;refine ⟨s2 _ _ ak,?_⟩;have s3:=jX h3 s2;have nD:D≠hd:=λz=>by rw[z,ak] at hD;cases hD
  have hD0:H D=none:=by rw[az nD] at hD;exact hD
  have OU:upd H' hd (.dK kh) D=some (.lst ((ie c).map V.int)):=by
   rw[az nD,Rl,el,gR c.held (λq=>V.int (q.2.room:Nat)) _ (λi x hx=>by rw[hx];rfl)];unfold ie;rw[ay];rfl
  generalize upd H' hd (.dK kh)=H3 at s3 OU⊢;refine ⟨bH _,λl hl=>?_⟩;have s4:=aX (o:=.lst []) hl;have s04:=s3.trans s4;have HR:=s3.free hl;have hDl:D≠l:=λz=>by rw[<-z,OU] at hl;cases hl
  have g1:=s4 _ _ OU;have g2:upd H3 l (.lst []) l=some (.lst []):=ak;generalize upd H3 l (.lst [])=H4 at s04 g1 g2 s4⊢
  refine ⟨_,rfl,⟨_,T.sz H4⟩,wW (K:=K) (a:=A.sizes) (xs:=aV.map V.int) (λi σ H5=>∃(v1 v4 v5 v6:Option V),σ=[some (.ref h),v1,some (.ref D),some (.ref l),v4,v5,v6]/\cY H H5/\H5 D=some (.lst ((ie c).map V.int))/\H5 l=some (.lst (((aV.take i).flatMap (Cz c)).map V.int)))
   ⟨_,_,_,_,rfl,s04,g1,g2⟩ (λi σ H2 _ _=>T.sz H2) ?_ ?_⟩
  ·rintro i y σ H5 hi ⟨v1,v4,v5,v6,rfl,s5,e1,e2⟩;obtain ⟨z,hz,rfl⟩:=ints_get hi;have Uv:z∈aV:=cA hz;obtain ⟨kz,zE,rfl⟩:=FF Uv;obtain ⟨ll,nF,tV,wQ⟩:=R.sat kz zE;obtain ⟨Rx,p2,hd2,Th,Yk,ks2,f1,f2,f3,f4,f5,f6,f7,f8,f9⟩:=id (hh.same s5).ex;obtain ⟨v,hv,gW,rfl,vO,tal⟩:=f8.here nF;have gg:=mL.k (k:=aW ((ai kz:Nat):Int)) f7;rw[hv] at gg;refine ⟨_,rfl,.inl ⟨rfl,_,.of e2⟩,_,rfl,h,_,Rx,_,_,rfl,f1,CH,NH "small_runs" (by decide),rfl,_,rfl,Th,_,rfl,gg,gW,_,rfl,.inl (.of vO),_,rfl,.inl ⟨rfl,_,.of e1⟩,_,rfl,D,ie c,_,rfl,rfl,.of e1,(by show 2<=sizeLine;decide),λt ht=>?_⟩
   have C7:(((aV.take i).flatMap (Cz c)).map V.int).length+2<=sizeLine:=by
    rw[aj,uA];have:=GF i aV;rw[Au] at this;exact dR (big (by omega))
   have eT:aV.take (i+1)=aV.take i++[((ai kz:Nat):Int)]:=by rw[cN,hz];rfl
   have eb:Cz c ((ai kz:Nat):Int)=[((ll.length:Nat):Int),(((ie c).count ((ai kz:Nat):Int):Nat):Int)]:=by unfold Cz;rw[nF];rfl
   have s6:=aX (o:=.lst [.int ((ll.map V.int).length:Nat),.int ((ie c).count ((ai kz:Nat):Int):Nat)]) ht;refine ⟨l,t,_,_,rfl,rfl,s6 _ _ e2,ak,C7,?_⟩;refine ⟨_,_,_,_,rfl,λb' o' e'=>?_,?_,?_⟩
   ·rw[az (aQ e' HR)];exact s6 _ _ (s5 _ _ e')
   ·rw[az hDl];exact s6 _ _ e1
   ·rw[ak,eT,iz,dQ,xg,eb,aG,aj];rfl
  ·rintro σ H5 ⟨v1,v4,v5,v6,rfl,s5,e1,e2⟩;rw[aj,ff] at e2;have Cg:(ie c).length<=100000:=by unfold ie;rw[aj];exact hlen
   refine ⟨_,rfl,D,rfl,⟨_,.of e1⟩,λG hG=>pN (K:=K) (a:=D) (xs:=(ie c).map V.int) (λi=>((ie c)[i]?).bind λx=>if decide (32768<x)=true then some (V.int x) else none) (by rw[aj];omega) hG (.of e1) ?_ ?_⟩
   ·rintro i y H2 R N hi b Q8;obtain ⟨x,hx,rfl⟩:=ints_get hi;have e0:((ie c)[i]?).bind (λx=>if decide (32768<x)=true then some (V.int x) else none)=if decide (32768<x)=true then some (V.int x) else none:=by rw[hx];rfl
    have hR:=Q8 H2 (.refl _);rw[e0] at hR;refine ⟨rfl,_,rfl,_,_,rfl,rfl,_,rfl,?_⟩;cases ed:decide (32768<x) with
    |true=>
     rw[ed] at hR;exact lg ⟨_,rfl,hR.1 _ rfl⟩
    |false=>
     rw[ed] at hR;exact mJ (hR.2 rfl)
   ·intro H6 s6 hG6;have Qa:=s5.trans s6;have Rw:=s6 _ _ e2
    have eG:(bX ((ie c).map V.int).length).filterMap (λi=>((ie c)[i]?).bind λx=>if decide (32768<x)=true then some (V.int x) else none)=((ie c).filter λz=>decide (32768<z)).map V.int:=by
     rw[aj,mD (ie c) (λx=>if decide (32768<x)=true then some (V.int x) else none) _ (λi x hx=>by rw[hx];rfl)];generalize ie c=rl
     induction rl with
     |nil=>rfl
     |cons a t ih=>
      rw[fu,bU];cases decide (32768<a) with
      |true=>simpa using ih
      |false=>simpa using ih
    rw[eG] at hG6;refine ⟨_,rfl,_,rfl,G,_,rfl,.inl (.of hG6),(by show 1<=sizeLine;decide),λt ht=>?_⟩;have s7:=aX (o:=.lst [V.int ((((ie c).filter λz=>decide (32768<z)).map V.int).length:Nat)]) ht;refine ⟨l,t,_,_,rfl,rfl,s7 _ _ Rw,ak,?_,λr m9=>?_⟩
    ·rw[aj,uA,Au];show 81<=sizeLine
     decide
    ·have s8:=aX (o:=.lst ((aV.flatMap (Cz c)).map V.int++[V.int ((((ie c).filter λz=>decide (32768<z)).map V.int).length:Nat)])) m9;refine k _ r ((Qa.trans s7).trans s8) ((Qa.trans s7).free m9) ?_;rw[ak,aj,AA];show _=some (HO.lst ((aV.flatMap (Cz c)++[_]).map V.int));rw[aG];rfl
def ML(A:gI):Sp:=λvs H Q _=>∃(τ:Tg) (h:Addr) (c:HC) (m:Addr->iJ) (S:bg),vs=[.ref h]/\eB A H τ h c/\Rel c m S/\c.held.length<=100000/\
 (∀H' l,cY H H'->H l=none->H' l=some (.lst ((GZ c).map V.int))->Q (.ref l) H')
theorem Hi:bF ["self","block","sizes","rooms","taken"] ["self"] (aY (Fn.st .qF)):=fs
def uV(c:HC):List Int:=c.held.map λq=>((q.2.size:Nat):Int)
theorem KD(T:Txt A K mg):dU P w K mg base pq 3 (A.f .qF) (A.fd .qF) ["self"] (ML A):=by
 refine (T.fn .qF).ok Hi (λvs H Q E h=>?_) (λgX B outer sh H vs Q E hr h=>?_)
 ·obtain ⟨τ,h,c,m,S,rfl,_⟩:=h;rfl
 ·obtain ⟨τ,h,c,m,S,rfl,hh,R,hlen,k⟩:=h;have CH:=T.cls .aD;have NH:∀f,f∈j9 .aD->ek K (A.cl .aD) f:=T.na .aD;have CP:=T.cls .aM;have CB:=T.cls .bD;have NB:∀f,f∈j9 .bD->ek K (A.cl .bD) f:=T.na .bD
  refine ⟨_,ao (ue (ud (i:=2) (own:=[("block",1)]) (te:=By K (l7 1) "size") rfl Hi.nd rfl rfl (wD rfl rfl rfl rfl) (u6 (bz (pv 0) rfl)) (jz rfl)
    (λ_ _ _ _ _=>dB (i:=1) Hi.nd rfl (bh rfl)) (λ_ _ _ _ _=>nv) (λ_ _ _ _ _=>bz (pv 1) rfl)))<|
   ao (ue (ud (i:=3) (own:=[("block",1)]) (te:=By K (l7 1) "room") rfl Hi.nd rfl rfl (wD rfl rfl rfl rfl) (u6 (bz (pv 0) rfl)) (jz rfl)
    (λ_ _ _ _ _=>dB (i:=1) Hi.nd rfl (bh rfl)) (λ_ _ _ _ _=>nv) (λ_ _ _ _ _=>bz (pv 1) rfl)))<|
   ao (bY (i:=4) Hi.nd rfl (bh rfl) (jZ (bz (pv 0) rfl) CP (T.me .kI .aM rfl rfl) (u9 T) (hr.mono (by decide)) (T.bn .kI) .nil c_))<|
   aF (bT (bW oX (fy (aa (cF cQ rfl T.mK.len cH (aa (pv 2) aA)) (aa (cF (A2 rfl) rfl T.mK.sum lF (aa (pv 2) aA)) (aa (cF (A2 rfl) rfl T.mK.sum lF (aa (pv 3) aA)) (aa (bW lR (pv 4) (pk 4096 T)) aA)))))
    (jZ (bz (pv 0) rfl) CP (T.me .qw .aM rfl rfl) (Kp T) hr (T.bn .qw) .nil c_))),?_⟩
  obtain ⟨dx,p,hd,sd,kh,ks,h1,t1,h2,h3,h4,t3,h5,h6,t5⟩:=id hh.ex;have el:=h4.len;refine ⟨hd,.dK kh,h3,trivial,λod=>?_⟩;refine ⟨_,rfl,h,_,dx,_,_,rfl,kU h3 h1,CH,NH "held" (by decide),rfl,hd,od,kh,rfl,ak,λD hD=>xY (λi=>(c.held[i]?).map λq=>V.int (q.2.size:Nat)) (by omega) hD ak ?_ ?_⟩
  ·rintro i k' v H2 R N hi b hk;obtain ⟨⟨k1,b1⟩,hq,Q4,a1,Iq,rfl,wU,_⟩:=h4.get hi;have hR:=(hk H2 (.refl _)).1 _ (by rw[hq];rfl);exact ⟨rfl,yes (lg ⟨_,rfl,a1,_,Iq,_,_,rfl,b _ _ (kU h3 wU),CB,NB "size" (by decide),rfl,hR⟩)⟩
  intro H' s2 Rl;refine ⟨s2 _ _ ak,?_⟩;have s3:=jX h3 s2;have nD:D≠hd:=λz=>by rw[z,ak] at hD;cases hD
  have hD0:H D=none:=by rw[az nD] at hD;exact hD
  have OU:upd H' hd (.dK kh) D=some (.lst ((uV c).map V.int)):=by
   rw[az nD,Rl,el,gR c.held (λq=>V.int (q.2.size:Nat)) _ (λi x hx=>by rw[hx];rfl)];unfold uV;rw[ay];rfl
  generalize upd H' hd (.dK kh)=H3 at s3 OU⊢;have g1:=s3 _ _ h1;have g3:=s3 _ _ h3;have g4:=h4.imp (mZ.same s3);refine ⟨hd,.dK kh,g3,trivial,λod=>?_⟩;refine ⟨_,rfl,h,_,dx,_,_,rfl,kU g3 g1,CH,NH "held" (by decide),rfl,hd,od,kh,rfl,ak,λD4 Vg=>xY (λi=>(c.held[i]?).map λq=>V.int (q.2.room:Nat)) (by omega) Vg ak ?_ ?_⟩
  ·rintro i k' v H2 R N hi b hk;obtain ⟨⟨k1,b1⟩,hq,Q4,a1,Iq,rfl,wU,_⟩:=g4.get hi;have hR:=(hk H2 (.refl _)).1 _ (by rw[hq];rfl);exact ⟨rfl,yes (lg ⟨_,rfl,a1,_,Iq,_,_,rfl,b _ _ (kU g3 wU),CB,NB "room" (by decide),rfl,hR⟩)⟩
  intro O3 s5 hD5;refine ⟨s5 _ _ ak,?_⟩;have s6:=jX g3 s5;have nD4:D4≠hd:=λz=>by rw[z,ak] at Vg;cases Vg
  have hD6:upd O3 hd (.dK kh) D4=some (.lst ((ie c).map V.int)):=by
   rw[az nD4,hD5,el,gR c.held (λq=>V.int (q.2.room:Nat)) _ (λi x hx=>by rw[hx];rfl)];unfold ie;rw[ay];rfl
  generalize upd O3 hd (.dK kh)=H6 at s6 hD6⊢;have Qa:=s3.trans s6;have f3:=s6 _ _ OU;obtain ⟨zm,pf1,pr1,RY,RX,Fo,_⟩:=id h2.ex;refine ⟨_,rfl,h,_,dx,_,_,rfl,Qa _ _ h1,CH,NH "pages" (by decide),rfl,p,zm,_,rfl,Qa _ _ Fo,rfl,τ,p,c.qY,c.pg,rfl,h2.same Qa,R.ok,λH7 s7=>?_⟩;have s07:=Qa.trans s7;refine ⟨_,rfl,D,_,rfl,.inl (.of (s7 _ _ f3)),_,rfl,D,uV c,rfl,.of (s7 _ _ f3),_,rfl,D4,ie c,rfl,.of (s7 _ _ hD6),_,rfl,_,_,rfl,rfl,.inr ⟨by decide,by decide⟩,(by show 4<=sizeLine;decide),λl hl=>?_⟩;have esz:(uV c).sum=(((c.held.map λq=>q.2.size).sum:Nat):Int):=xw c.held λq=>q.2.size;have ero:(ie c).sum=(((c.held.map λq=>q.2.room).sum:Nat):Int):=xw c.held λq=>q.2.room;have eln:((uV c).map V.int).length=c.held.length:=by unfold uV;rw[aj,aj]
  rw[esz,ero,eln];have s8:=aX (o:=.lst [.int (c.held.length:Nat),.int (((c.held.map λq=>q.2.size).sum:Nat):Int),.int (((c.held.map λq=>q.2.room).sum:Nat):Int),.int ((((c.pg.runs.map jU).sum:Nat):Int)*4096)]) hl;have TN:=s07.trans s8;refine ⟨_,rfl,h,_,dx,_,_,rfl,TN _ _ h1,CH,NH "pages" (by decide),rfl,p,zm,_,rfl,TN _ _ Fo,rfl,τ,p,c.qY,c.pg,rfl,h2.same TN,R.ok,λH9 q s9 hq hq9=>?_⟩;refine ⟨l,q,_,_,rfl,rfl,s9 _ _ ak,hq9,?_,λr m9=>?_⟩
  ·show 12<=sizeLine
   decide
  ·have s10:=TN.trans (s9.trans (aX (o:=.lst ([.int (c.held.length:Nat),.int (((c.held.map λq=>q.2.size).sum:Nat):Int),.int (((c.held.map λq=>q.2.room).sum:Nat):Int),.int ((((c.pg.runs.map jU).sum:Nat):Int)*4096)]++(Js c.pg).map V.int)) m9));refine k _ r s10 ((TN.trans s9).free m9) ?_;rw[ak];unfold GZ;rw[aG];rfl
end
end Rm
namespace Rm
open PySem L2
def Aa:Nat->Nat
 |0=>3|1=>2|2=>1|3=>2|4=>1|5=>1|6=>1|7=>2|8=>3|9=>2|_=>0
def s_(k:Nat)(ns row:List Int):Kg46.Call:=match k with
 |0=>.begin_ (ns.getD 0 0) (ns.getD 1 0) (ns.getD 2 0)
 |1=>.take (ns.getD 0 0) (ns.getD 1 0)
 |2=>.give (ns.getD 0 0)
 |3=>.resize (ns.getD 0 0) (ns.getD 1 0)
 |4=>.told (ns.getD 0 0)
 |5=>.holds (ns.getD 0 0)
 |6=>.put (ns.getD 0 0) (some (row.map jV))
 |7=>.get (ns.getD 0 0) (ns.getD 1 0)
 |8=>.copy (ns.getD 0 0) (ns.getD 1 0) (ns.getD 2 0)
 |9=>.blocks (ns.getD 0 0) (ns.getD 1 0)
 |10=>.counts
 |11=>.sums
 |_=>.trim
structure Iz(k:Nat)(ns row:List Int):Prop where
 le:k<=12
 len:ns.length=Aa k
 top:∀x∈ns,x<=9223372036854775807
 put:k=6->row.length<=4096/\∀x∈row,0<=x/\x<=255
theorem Cd{l:List Int}(h:l.length=1):∃a,l=[a]:=by
 match l,h with
 |[a],_=>exact ⟨a,rfl⟩
theorem Cc{l:List Int}(h:l.length=2):∃a b,l=[a,b]:=by
 match l,h with
 |[a,b],_=>exact ⟨a,b,rfl⟩
theorem NQ{l:List Int}(h:l.length=3):∃a b c,l=[a,b,c]:=by
 match l,h with
 |[a,b,c],_=>exact ⟨a,b,c,rfl⟩
def LW(a:cX):List V:=(a.value::a.out).map V.int
section
variable{P:Program}{w:World}{K:au}{mg:Str->Option Value}{base:Heap}{A:gI}
theorem nW.more{H H' O3:Hp}{τ:Tg}{h:Addr}{n0:Nat}{p:fL cX}{a:cX}(d:nW A H τ h n0 p a H')(s:cY H' O3):nW A H τ h n0 p a O3:=by
 obtain ⟨c',m',S',s1,F,R,l,e⟩:=d;exact ⟨c',m',S',s1.trans (.same TW.no s1.gW s),F.same s,R,l,e⟩
def MH(A:gI):Sp:=λvs H Q E=>∃(τ:Tg) (h:Addr) (c:HC) (m:Addr->iJ) (S:bg) (k:Nat) (ns row:List Int) (nl rl:Addr),vs=[.ref h,.int k,.ref nl,.ref rl]/\Al τ H/\ja A H τ h c m/\Rel c m S/\c.held.length<=900/\4<=k/\k<=11/\Iz k ns row/\H nl=some (.lst (ns.map V.int))/\H rl=some (.lst (row.map V.int))/\
 (∀H' l a,nW A H τ h c.held.length (bI (some S) (s_ k ns row)) a H'->H' l=some (.lst (LW a))->a.out.length<=4096->Q (.ref l) H')/\
 (∀H' o,nW A H τ h c.held.length (bI (some S) (s_ k ns row)) (aZ (-8)) H'->E (.ref (A.ex .b7)) o H')/\
 (∀H' o,nW A H τ h c.held.length (bI (some S) (s_ k ns row)) (aZ (-5)) H'->E (.ref (A.ex .dO)) o H')
theorem Xi:bF ["house","number","numbers","row"] ["house","number","numbers","row"] (aY (Fn.st .cU)):=fs
theorem Kv(T:Txt A K mg):dU P w K mg base (l8 P w) 5 (A.f .cU) (A.fd .cU) ["house","number","numbers","row"] (MH A):=by
 refine rT (T.fn .cU) Xi (λvs H Q E h=>?_) (λgX B outer sh H vs Q E hr h=>?_)
 ·obtain ⟨τ,h,c,m,S,k,ns,row,nl,rl,rfl,_⟩:=h;rfl
 ·obtain ⟨τ,h,c,m,S,k,ns,row,nl,rl,rfl,al,F,R,hlen,Q4,hk2,nH,hn,Mh,kQ,kE,kN⟩:=h;have CH:=T.cls .aD;have kr:i9 1 _:=hr.mono (by decide);have AY:i9 2 _:=hr.mono (by decide);have UI:i9 3 _:=hr.mono (by decide)
  refine ⟨_,ao (fC (dz lA (pv 1) (pk 4 T) (dH _)) (aF (bT (sD uC rfl T.mK.list oJ (aa (bK (pv 0) CH (T.me .qD .aD rfl rfl) (KA T) AY (T.bn .qD) .nil dP (aa (eY fE (pv 2) bq (λ_ _=>rfl)) aA)) aA)))) cZ)<|
   ao (fC (dz lA (pv 1) (pk 5 T) (dH _)) (aF (bT (fy (aa (bK (pv 0) CH (T.me .lT .aD rfl rfl) (zu T) kr (T.bn .lT) .nil dP (aa (eY fE (pv 2) bq (λ_ _=>rfl)) aA)) aA)))) cZ)<|
   ao (fC (dz lA (pv 1) (pk 6 T) (dH _)) (ao (bV (bK (pv 0) CH (T.me .wg .aD rfl rfl) (NC T) UI (T.bn .wg) .nil dP (aa (eY fE (pv 2) bq (λ_ _=>rfl)) (aa (pv 3) aA)))) (aF (bT (fy (aa bq aA))))) cZ)<|
   ao (fC (dz lA (pv 1) (pk 7 T) (dH _)) (aF (bT (bW oX (fy (aa bq aA)) (bK (pv 0) CH (T.me .wj .aD rfl rfl) (ND T) UI (T.bn .wj) .nil dP (aa (eY fE (pv 2) bq (λ_ _=>rfl)) (aa (eY fE (pv 2) bq (λ_ _=>rfl)) aA)))))) cZ)<|
   ao (fC (dz lA (pv 1) (pk 8 T) (dH _)) (ao (bV (bK (pv 0) CH (T.me .qJ .aD rfl rfl) (KJ T) hr (T.bn .qJ) .nil dP (aa (eY fE (pv 2) bq (λ_ _=>rfl)) (aa (eY fE (pv 2) bq (λ_ _=>rfl)) (aa (eY fE (pv 2) bq (λ_ _=>rfl)) aA))))) (aF (bT (fy (aa bq aA))))) cZ)<|
   ao (fC (dz lA (pv 1) (pk 9 T) (dH _)) (aF (bT (bK (pv 0) CH (T.me .k7 .aD rfl rfl) (DV T) AY (T.bn .k7) .nil dP (aa (eY fE (pv 2) bq (λ_ _=>rfl)) (aa (eY fE (pv 2) bq (λ_ _=>rfl)) aA))))) cZ)<|
   ao (fC (dz lA (pv 1) (pk 10 T) (dH _)) (aF (bT (bW oX (fy (aa bq aA)) (jZ (pv 0) CH (T.me .k6 .aD rfl rfl) (DU T) kr (T.bn .k6) .nil c_)))) cZ)<|
   aF (bT (bW oX (fy (aa bq aA)) (jZ (pv 0) CH (T.me .qF .aD rfl rfl) (KD T) UI (T.bn .qF) .nil c_))),?_⟩
  obtain ⟨dx,p0,hd,sd,kh,ks,h1,_⟩:=id F.hs.ex;have no:∀{x:Int},¬(decide (V.int (k:Int)=V.int x)=true)->(k:Int)≠x:=λz q=>z (decide_eq_true (by rw[q]));have ys:∀{x:Int},decide (V.int (k:Int)=V.int x)=true->(k:Int)=x:=λz=>V.int.inj (of_decide_eq_true z);refine ⟨_,rfl,rfl,_,rfl,iP (λz=>?_) (λz4=>?_)⟩
  ·
   obtain rfl:k=4:=by have:=ys z;omega
   obtain ⟨x,rfl⟩:=Cd nH.len
   have es:bI (some S) (.told x)=match S.block x with
    |none=>.done (some S) (aZ (-5))
    |some b=>.done (some S) ⟨b.size,[(b.room:Int)]⟩:=rfl
   rw[R.block] at es;refine ⟨_,rfl,h,dx,_,rfl,h1,rfl,_,rfl,nl,_,_,_,rfl,rfl,.of hn,rfl,τ,h,c,x,rfl,F.hs,λhv=>?_,λb hv H1 t s1 ht=>?_⟩
   ·rw[hv] at es;exact kN H none (.stop al (.refl _) F R es)
   ·rw[hv] at es;refine ⟨t,_,rfl,.inr (.of ht),λl hl=>?_⟩;exact kQ _ l ⟨b.size,[(b.room:Int)]⟩ (.stop al (s1.trans (aX hl)) F R es) ak (by simp)
  have n4:=no z4;refine ⟨_,rfl,rfl,_,rfl,iP (λz=>?_) (λz5=>?_)⟩
  ·
   obtain rfl:k=5:=by have:=ys z;omega
   obtain ⟨x,rfl⟩:=Cd nH.len
   have es:bI (some S) (.holds x)=match S.holding x 1 with
    |none=>.done (some S) (aZ (-5))
    |some b=>.done (some S) (aZ b.place):=rfl
   rw[R.holding (by decide)] at es;refine ⟨_,rfl,h,dx,_,rfl,h1,rfl,_,rfl,nl,_,_,_,rfl,rfl,.of hn,rfl,τ,h,c,x,rfl,F.hs,λhv H1 s1=>?_,λq hq H1 s1=>?_⟩
   ·rw[hv] at es;exact kN H1 none (.stop al s1 F R es)
   ·rw[hq] at es;have hp:=di hq;unfold hasB at hp;simp only[aC,decide_eq_true_eq] at hp;dsimp only at es;rw[if_pos (by omega)] at es;have hv:bM c.held q.1=some q.2:=d7 R.lu (bE hq);have h0:=(R.fits hv).1;have e0:((q.1.toNat:Nat):Int)=q.1:=by omega
    dsimp only at es;rw[e0] at es;exact ⟨(by show 1<=sizeLine;decide),λl hl=>kQ _ l (aZ q.1) (.stop al (s1.trans (aX hl)) F R es) ak (bH _)⟩
  have n5:=no z5;refine ⟨_,rfl,rfl,_,rfl,iP (λz=>?_) (λz6=>?_)⟩
  ·
   obtain rfl:k=6:=by have:=ys z;omega
   obtain ⟨x,rfl⟩:=Cd nH.len;obtain ⟨f1,f2⟩:=nH.put rfl
   have er:row.map V.int=(row.map jV).map λ(x:Nat)=>V.int x:=by
    rw[ay];refine aN λy hy=>?_;show V.int y=V.int ((y.toNat:Nat):Int);rw[Ji (f2 y hy).1]
   rw[er] at Mh;refine ⟨_,rfl,h,dx,_,rfl,h1,rfl,_,rfl,nl,_,_,_,rfl,rfl,.of hn,rfl,_,rfl,τ,h,c,m,S,x,rl,row.map jV,rfl,al,F,R,Mh,by rw[aj];exact f1,λy hy=>?_,λH1 d=>?_,λH1 o d=>kN H1 o d⟩
   ·obtain ⟨y',Ux,rfl⟩:=aq.mp hy;have:=(f2 y' Ux).2;omega
   ·exact ⟨(by show 1<=sizeLine;decide),λl hl=>kQ _ l (aZ 0) (d.more (aX hl)) ak (bH _)⟩
  have n6:=no z6;refine ⟨_,rfl,rfl,_,rfl,iP (λz=>?_) (λz7=>?_)⟩
  ·
   obtain rfl:k=7:=by have:=ys z;omega
   obtain ⟨x,y,rfl⟩:=Cc nH.len;refine ⟨(by show 1<=sizeLine;decide),λl0 HR=>?_⟩;have s0:=aX (o:=.lst [.int 0]) HR;refine ⟨_,rfl,h,dx,_,rfl,s0 _ _ h1,rfl,_,rfl,nl,_,_,_,rfl,rfl,.of (s0 _ _ hn),rfl,_,rfl,nl,_,_,_,rfl,rfl,.of (s0 _ _ hn),rfl,τ,h,c,m,S,x,y,rfl,(dS.same TW.no al s0).gW,F.same s0,R,λH1 l out s1 hl nF ho e=>?_,λH1 o s1 e=>kE H1 o (.stop al (s0.trans s1) F R e),λH1 o s1 e=>kN H1 o (.stop al (s0.trans s1) F R e)⟩;refine ⟨l0,l,_,_,rfl,rfl,s1 _ _ ak,nF,?_,λq hq=>?_⟩
   ·rw[aj];exact dR (big (by show 1+out.length<=_;omega))
   ·exact kQ _ q ⟨0,out⟩ (.stop al ((s0.trans s1).trans (aX hq)) F R e) ak ho
  have n7:=no z7;refine ⟨_,rfl,rfl,_,rfl,iP (λz=>?_) (λz8=>?_)⟩
  ·
   obtain rfl:k=8:=by have:=ys z;omega
   obtain ⟨x,y,u,rfl⟩:=NQ nH.len;refine ⟨_,rfl,h,dx,_,rfl,h1,rfl,_,rfl,nl,_,_,_,rfl,rfl,.of hn,rfl,_,rfl,nl,_,_,_,rfl,rfl,.of hn,rfl,_,rfl,nl,_,_,_,rfl,rfl,.of hn,rfl,τ,h,c,m,S,x,y,u,rfl,al,F,R,λH1 d=>?_,λH1 o d=>kE H1 o d,λH1 o d=>kN H1 o d⟩;exact ⟨(by show 1<=sizeLine;decide),λl hl=>kQ _ l (aZ 0) (d.more (aX hl)) ak (bH _)⟩
  have n8:=no z8;refine ⟨_,rfl,rfl,_,rfl,iP (λz=>?_) (λz9=>?_)⟩
  ·
   obtain rfl:k=9:=by have:=ys z;omega
   obtain ⟨x,y,rfl⟩:=Cc nH.len;refine ⟨_,rfl,h,dx,_,rfl,h1,rfl,_,rfl,nl,_,_,_,rfl,rfl,.of hn,rfl,_,rfl,nl,_,_,_,rfl,rfl,.of hn,rfl,τ,h,c,m,S,x,y,rfl,F.hs,R,by omega,nH.top x (by simp),λH1 l out s1 hl nF ho e=>?_,λo e=>kE H o (.stop al (.refl _) F R e)⟩;exact kQ H1 l ⟨c.held.length,out⟩ (.stop al s1 F R e) nF ho
  have n9:=no z9;refine ⟨_,rfl,rfl,_,rfl,iP (λz=>?_) (λz10=>?_)⟩
  ·
   obtain rfl:k=10:=by have:=ys z;omega
   refine ⟨(by show 1<=sizeLine;decide),λl0 HR=>?_⟩;have s0:=aX (o:=.lst [.int 0]) HR;refine ⟨_,rfl,h,dx,_,rfl,s0 _ _ h1,rfl,τ,h,c,m,S,rfl,F.hs.same s0,R,by omega,λH1 l s1 hl nF=>?_⟩;have Lp:=LN c;refine ⟨l0,l,_,_,rfl,rfl,s1 _ _ ak,nF,?_,λq hq=>?_⟩
   ·rw[aj,Lp];show 82<=sizeLine
    decide
   ·exact kQ _ q ⟨0,Ik c⟩ (.stop al ((s0.trans s1).trans (aX hq)) F R R.counts) ak (by show (Ik c).length<=_;omega)
  ·
   have n10:=no z10;obtain rfl:k=11:=by omega
   refine ⟨(by show 1<=sizeLine;decide),λl0 HR=>?_⟩;have s0:=aX (o:=.lst [.int 0]) HR;refine ⟨_,rfl,h,dx,_,rfl,s0 _ _ h1,rfl,τ,h,c,m,S,rfl,F.hs.same s0,R,by omega,λH1 l s1 hl nF=>?_⟩;have Lp:(GZ c).length=12:=rfl;refine ⟨l0,l,_,_,rfl,rfl,s1 _ _ ak,nF,?_,λq hq=>?_⟩
   ·rw[aj,Lp];show 13<=sizeLine
    decide
   ·exact kQ _ q ⟨0,GZ c⟩ (.stop al ((s0.trans s1).trans (aX hq)) F R R.sums) ak (by show (GZ c).length<=_;omega)
def nX(k:Nat)(A:gI)(H:Hp)(τ:Tg)(h g:Addr)(rs:List Int)(n0:Nat)(p:fL cX)(a:cX)(H':Hp):Prop:=
 ∃τ' c' m' S' qs,(k≠0->S'≠none)/\dS TZ τ τ' H H'/\ja A H' τ' h c' m'/\lX c' m' S'/\c'.held.length<=n0+1/\bB A H' τ' g rs (oM aO qs)/\qs.length<=40000/\d_ p (.done S' a) rs 0 qs
theorem Gz.k0{H H':Hp}{τ:Tg}{h g:Addr}{rs:List Int}{n0:Nat}{p:fL cX}{a:cX}(d:Gz A H τ h g rs n0 p a H'):nX 0 A H τ h g rs n0 p a H':=by
 obtain ⟨τ',c',m',S',qs,s1⟩:=d;exact ⟨τ',c',m',S',qs,λz=>absurd rfl z,s1⟩
theorem Done.o{k:Nat}{H H':Hp}{τ:Tg}{h g:Addr}{rs:List Int}{n0:Nat}{p:fL cX}{a:cX}(d:Done A H τ h g rs n0 p a H'):nX k A H τ h g rs n0 p a H':=by
 obtain ⟨τ',c',m',S',qs,s1,F,R,l,hg,hq,pl⟩:=d;exact ⟨τ',c',m',some S',qs,(λ_ z=>nomatch z),s1,F,R,l,hg,hq,pl⟩
theorem nX.more{k:Nat}{H H' O3:Hp}{τ:Tg}{h g:Addr}{rs:List Int}{n0:Nat}{p:fL cX}{a:cX}(d:nX k A H τ h g rs n0 p a H')(s:cY H' O3):nX k A H τ h g rs n0 p a O3:=by
 obtain ⟨τ',c',m',S',qs,nn,s1,F,R,l,hg,hq,pl⟩:=d;exact ⟨τ',c',m',S',qs,nn,s1.trans (.same s1.no s1.gW s),F.same s,R,l,hg.same s,hq,pl⟩
theorem nW.o{k:Nat}{H H':Hp}{τ:Tg}{h g:Addr}{rs:List Int}{n0:Nat}{p:fL cX}{a:cX}(d:nW A H τ h n0 p a H')(hg:bB A H τ g rs []):nX k A H τ h g rs n0 p a H':=by
 obtain ⟨c',m',S',s1,F,R,l,e⟩:=d;exact ⟨τ,c',m',some S',[],(λ_ z=>nomatch z),s1.tz,F,R,l,hg.step s1 (λ⟨_,z⟩=>nomatch z),bH _,.of_eq e⟩
def OE(A:gI):Sp:=λvs H Q E=>∃(τ:Tg) (h:Addr) (c:HC) (m:Addr->iJ) (S:cR) (k:Nat) (ns row:List Int) (nl rl g:Addr),vs=[.ref h,.int k,.ref nl,.ref rl,.ref g]/\Al τ H/\ja A H τ h c m/\lX c m S/\(k=0\/S≠none)/\c.held.length<=900/\Iz k ns row/\H nl=some (.lst (ns.map V.int))/\H rl=some (.lst (row.map V.int))/\bB A H τ g row []/\
 (∀H' l a,nX k A H τ h g row c.held.length (bI S (s_ k ns row)) a H'->H' l=some (.lst (LW a))->a.out.length<=4096->Q (.ref l) H')/\
 (∀H' o,nX k A H τ h g row c.held.length (bI S (s_ k ns row)) (aZ (-8)) H'->E (.ref (A.ex .b7)) o H')/\
 (∀H' o,nX k A H τ h g row c.held.length (bI S (s_ k ns row)) (aZ (-7)) H'->E (.ref (A.ex .dg)) o H')/\
 (∀H' o,nX k A H τ h g row c.held.length (bI S (s_ k ns row)) (aZ (-5)) H'->E (.ref (A.ex .dO)) o H')
theorem XC:bF ["house","number","numbers","row","given"] ["house","number","numbers","row","given"] (aY (Fn.st .iB)):=fs
theorem KR(T:Txt A K mg):dU P w K mg base (l8 P w) 11 (A.f .iB) (A.fd .iB) ["house","number","numbers","row","given"] (OE A):=by
 refine rT (T.fn .iB) XC (λvs H Q E h=>?_) (λgX B outer sh H vs Q E hr h=>?_)
 ·obtain ⟨τ,h,c,m,S,k,ns,row,nl,rl,g,rfl,_⟩:=h;rfl
 ·obtain ⟨τ,h,c,m,S,k,ns,row,nl,rl,g,rfl,al,F,R,hS,hlen,nH,hn,Mh,hg,kQ,kE,kP,kN⟩:=h;have CH:=T.cls .aD
  refine ⟨_,ao (fC (dz lA (pv 1) (pk 0 T) (dH _)) (ao (bV (bK (pv 0) CH (T.me .mW .aD rfl rfl) (Hy T) (hr.mono (by decide)) (T.bn .mW) .nil dP (aa (eY fE (pv 2) bq (λ_ _=>rfl)) (aa (eY fE (pv 2) bq (λ_ _=>rfl)) (aa (eY fE (pv 2) bq (λ_ _=>rfl)) (aa (pv 4) aA)))))) (aF (bT (fy (aa bq aA))))) cZ)<|
   ao (fC (dz lA (pv 1) (pk 1 T) (dH _)) (aF (bT (fy (aa (bK (pv 0) CH (T.me .qE .aD rfl rfl) (KC T) (hr.mono (by decide)) (T.bn .qE) .nil dP (aa (eY fE (pv 2) bq (λ_ _=>rfl)) (aa (eY fE (pv 2) bq (λ_ _=>rfl)) (aa (pv 4) aA)))) aA)))) cZ)<|
   ao (fC (dz lA (pv 1) (pk 2 T) (dH _)) (aF (bT (fy (aa (bK (pv 0) CH (T.me .qI .aD rfl rfl) (KI T) (hr.mono (by decide)) (T.bn .qI) .nil dP (aa (eY fE (pv 2) bq (λ_ _=>rfl)) (aa (pv 4) aA))) aA)))) cZ)<|
   ao (fC (dz lA (pv 1) (pk 3 T) (dH _)) (aF (bT (fy (aa (bK (pv 0) CH (T.me .kZ .aD rfl rfl) (Nz T) hr (T.bn .kZ) .nil dP (aa (eY fE (pv 2) bq (λ_ _=>rfl)) (aa (eY fE (pv 2) bq (λ_ _=>rfl)) (aa (pv 4) aA)))) aA)))) cZ)<|
   ao (fC (dz lA (pv 1) (pk 12 T) (dH _)) (aF (bT (fy (aa (bK (pv 0) CH (T.me .qC .aD rfl rfl) (Kz T) (hr.mono (by decide)) (T.bn .qC) .nil dP (aa (pv 4) aA)) aA)))) cZ)<|
   aF (bT (dh (Kv T) (hr.mono (by decide)) rfl (T.o_ .cU rfl) (T.fn .cU).kp (T.bn .cU) .nil dP (aa (pv 0) (aa (pv 1) (aa (pv 2) (aa (pv 3) aA)))))),?_⟩
  obtain ⟨dx,p0,hd,sd,kh,ks,h1,_⟩:=id F.hs.ex;have no:∀{x:Int},¬(decide (V.int (k:Int)=V.int x)=true)->(k:Int)≠x:=λz q=>z (decide_eq_true (by rw[q]));have ys:∀{x:Int},decide (V.int (k:Int)=V.int x)=true->(k:Int)=x:=λz=>V.int.inj (of_decide_eq_true z);refine ⟨_,rfl,rfl,_,rfl,iP (λz=>?_) (λz0=>?_)⟩
  ·
   obtain rfl:k=0:=by have:=ys z;omega
   obtain ⟨x,y,u,rfl⟩:=NQ nH.len;refine ⟨_,rfl,h,dx,_,rfl,h1,rfl,_,rfl,nl,_,_,_,rfl,rfl,.of hn,rfl,_,rfl,nl,_,_,_,rfl,rfl,.of hn,rfl,_,rfl,nl,_,_,_,rfl,rfl,.of hn,rfl,_,rfl,τ,h,c,m,S,g,row,x,y,u,rfl,al,F,R,hg,λH1 d=>?_,λH1 o d=>kE H1 o d.k0⟩;exact ⟨(by show 1<=sizeLine;decide),λl hl=>kQ _ l (aZ 0) (d.k0.more (aX hl)) ak (bH _)⟩
  have n0:=no z0
  obtain ⟨S,rfl⟩:∃S',S=some S':=by
   rcases hS with z|z
   ·omega
   ·exact yH.mp z
  have R:Rel c m S:=R;refine ⟨_,rfl,rfl,_,rfl,iP (λz=>?_) (λz1=>?_)⟩
  ·
   obtain rfl:k=1:=by have:=ys z;omega
   obtain ⟨x,y,rfl⟩:=Cc nH.len;refine ⟨_,rfl,h,dx,_,rfl,h1,rfl,_,rfl,nl,_,_,_,rfl,rfl,.of hn,rfl,_,rfl,nl,_,_,_,rfl,rfl,.of hn,rfl,_,rfl,τ,h,c,m,S,g,row,x,y,rfl,al,F,R,hlen,hg,λH1 a d=>?_,λH1 o d=>kE H1 o d.o,λH1 o d=>kP H1 o d.o⟩;exact ⟨(by show 1<=sizeLine;decide),λl hl=>kQ _ l (aZ a) (nX.more d.o (aX hl)) ak (bH _)⟩
  have n1:=no z1;refine ⟨_,rfl,rfl,_,rfl,iP (λz=>?_) (λz2=>?_)⟩
  ·
   obtain rfl:k=2:=by have:=ys z;omega
   obtain ⟨x,rfl⟩:=Cd nH.len;refine ⟨_,rfl,h,dx,_,rfl,h1,rfl,_,rfl,nl,_,_,_,rfl,rfl,.of hn,rfl,_,rfl,τ,h,c,m,S,g,row,x,rfl,al,F,R,hg,λH1 a d=>?_,λH1 o d=>kN H1 o d.o⟩;exact ⟨(by show 1<=sizeLine;decide),λl hl=>kQ _ l (aZ a) (nX.more d.o (aX hl)) ak (bH _)⟩
  have n2:=no z2;refine ⟨_,rfl,rfl,_,rfl,iP (λz=>?_) (λz3=>?_)⟩
  ·
   obtain rfl:k=3:=by have:=ys z;omega
   obtain ⟨x,y,rfl⟩:=Cc nH.len;refine ⟨_,rfl,h,dx,_,rfl,h1,rfl,_,rfl,nl,_,_,_,rfl,rfl,.of hn,rfl,_,rfl,nl,_,_,_,rfl,rfl,.of hn,rfl,_,rfl,τ,h,c,m,S,g,row,x,y,rfl,al,F,R,hlen,hg,λH1 a d=>?_,λH1 o d=>kE H1 o d.o,λH1 o d=>kP H1 o d.o,λH1 o d=>kN H1 o d.o⟩;exact ⟨(by show 1<=sizeLine;decide),λl hl=>kQ _ l (aZ a) (nX.more d.o (aX hl)) ak (bH _)⟩
  have n3:=no z3;refine ⟨_,rfl,rfl,_,rfl,iP (λz=>?_) (λz12=>?_)⟩
  ·
   obtain rfl:k=12:=by have:=ys z;omega
   refine ⟨_,rfl,h,dx,_,rfl,h1,rfl,_,rfl,τ,h,c,m,S,g,row,rfl,al,F,R,hg,λH1 a d=>?_⟩;exact ⟨(by show 1<=sizeLine;decide),λl hl=>kQ _ l (aZ a) (nX.more d.o (aX hl)) ak (bH _)⟩
  have Yd:=no z12;have:=nH.le;exact ⟨_,rfl,_,rfl,_,rfl,_,rfl,τ,h,c,m,S,k,ns,row,nl,rl,rfl,al,F,R,hlen,by omega,by omega,nH,hn,Mh,λH1 l a d hl ho=>kQ H1 l a (d.o hg) hl ho,λH1 o d=>kE H1 o (d.o hg),λH1 o d=>kN H1 o (d.o hg)⟩
def PM(A:gI):Sp:=λvs H Q _=>∃(τ:Tg) (h:Addr) (c:HC) (m:Addr->iJ) (S:cR) (k:Nat) (ns row:List Int) (nl rl g:Addr),vs=[.ref h,.int k,.ref nl,.ref rl,.ref g]/\Al τ H/\ja A H τ h c m/\lX c m S/\(k=0\/S≠none)/\c.held.length<=900/\Iz k ns row/\H nl=some (.lst (ns.map V.int))/\H rl=some (.lst (row.map V.int))/\bB A H τ g row []/\
 (∀H' l a,nX k A H τ h g row c.held.length (bI S (s_ k ns row)) a H'->H' l=some (.lst (LW a))->a.out.length<=4096->Q (.ref l) H')
theorem XA:bF ["house","number","numbers","row","given"] ["house","number","numbers","row","given"] (aY (Fn.st .dw)):=fs
theorem NI(T:Txt A K mg):dU P w K mg base (l8 P w) 12 (A.f .dw) (A.fd .dw) ["house","number","numbers","row","given"] (PM A):=by
 refine rT (T.fn .dw) XA (λvs H Q E h=>?_) (λgX B outer sh H vs Q E hr h=>?_)
 ·obtain ⟨τ,h,c,m,S,k,ns,row,nl,rl,g,rfl,_⟩:=h;rfl
 ·obtain ⟨τ,h,c,m,S,k,ns,row,nl,rl,g,rfl,al,F,R,hS,hlen,nH,hn,Mh,hg,kQ⟩:=h
  refine ⟨_,aF (DL (tb:=λE'=>yQ (OB (OE A) [] E' (l_ (l7 0) (l_ (l7 1) (l_ (l7 2) (l_ (l7 3) (l_ (l7 4) yR))))))) ⟨rfl,rfl,rfl⟩
    (λE' pn E2 hp=>aF (bT (dh (KR T) hr rfl (T.o_ .iB rfl) (T.fn .iB).kp (T.bn .iB) .nil hp (aa (pv 0) (aa (pv 1) (aa (pv 2) (aa (pv 3) (aa (pv 4) aA))))))))
    (ug (ts:=yQ (Mx (l_ (tC (.int (-8))) yR))) ⟨rfl,rfl,rfl⟩ (T.exc .b7) rfl (T.FO .b7) (λe=>aF (bT (fy (aa (pk (-8) T) aA))))
     (ug (ts:=yQ (Mx (l_ (tC (.int (-7))) yR))) ⟨rfl,rfl,rfl⟩ (T.exc .dg) rfl (T.FO .dg) (λe=>aF (bT (fy (aa (pk (-7) T) aA))))
      (ug (ts:=yQ (Mx (l_ (tC (.int (-5))) yR))) ⟨rfl,rfl,rfl⟩ (T.exc .dO) rfl (T.FO .dO) (λe=>aF (bT (fy (aa (pk (-5) T) aA))))
       (J' ⟨rfl,rfl,rfl⟩ Ei))))),?_⟩
  refine ⟨_,rfl,_,rfl,_,rfl,_,rfl,_,rfl,τ,h,c,m,S,k,ns,row,nl,rl,g,rfl,al,F,R,hS,hlen,nH,hn,Mh,hg,λH1 l a d hl ho=>kQ H1 l a d hl ho,λH1 o d=>?_,λH1 o d=>?_,λH1 o d=>?_⟩
  ·refine ⟨A.ex .b7,rfl,T.exc .b7,?_⟩;rw[if_pos rfl];exact ⟨(by show 1<=sizeLine;decide),λl hl=>kQ _ l (aZ (-8)) (d.more (aX hl)) ak (bH _)⟩
  ·refine ⟨A.ex .dg,rfl,T.exc .dg,?_⟩;rw[if_neg (show¬A.ex .dg=A.ex .b7 from λq=>by have:=T.Vs _ _ q;cases this)];refine ⟨A.ex .dg,rfl,T.exc .dg,?_⟩;rw[if_pos rfl];exact ⟨(by show 1<=sizeLine;decide),λl hl=>kQ _ l (aZ (-7)) (d.more (aX hl)) ak (bH _)⟩
  ·refine ⟨A.ex .dO,rfl,T.exc .dO,?_⟩;rw[if_neg (show¬A.ex .dO=A.ex .b7 from λq=>by have:=T.Vs _ _ q;cases this)];refine ⟨A.ex .dO,rfl,T.exc .dO,?_⟩;rw[if_neg (show¬A.ex .dO=A.ex .dg from λq=>by have:=T.Vs _ _ q;cases this)];refine ⟨A.ex .dO,rfl,T.exc .dO,?_⟩;rw[if_pos rfl];exact ⟨(by show 1<=sizeLine;decide),λl hl=>kQ _ l (aZ (-5)) (d.more (aX hl)) ak (bH _)⟩
end
end Rm
namespace Rm
open PySem L2
def jl(S:cR)(k:Nat)(ns row:List Int):cR×List Int:=
 let x:=(bI S (s_ k ns row)).played row
 (x.1,(x.2.2.1.length:Int)::(x.2.2.1.flatMap aO++x.2.1.value::x.2.1.out))
theorem DM{p:fL cX}{S:cR}{a:cX}{rs:List Int}{qs:List Kg46.Ask}(h:d_ p (.done S a) rs 0 qs):p.played rs=(S,a,qs,rs.drop qs.length):=by
 unfold d_ at h;rw[Aj,Nat.zero_add] at h;rw[h];show (S,a,qs++[],_)=_;rw[fR];rfl
theorem LY(q:Kg46.Ask):(aO q).length<=3:=by cases q<;>exact aR rfl
section
variable{P:Program}{w:World}{K:au}{mg:Str->Option Value}{base:Heap}{A:gI}
def W3(A:gI):Sp:=λvs H Q _=>∃(τ:Tg) (h:Addr) (c:HC) (m:Addr->iJ) (S:cR) (k:Nat) (ns row:List Int) (nl rl:Addr),vs=[.ref h,.int k,.ref nl,.ref rl]/\Al τ H/\ja A H τ h c m/\lX c m S/\(k=0\/S≠none)/\c.held.length<=900/\Iz k ns row/\H nl=some (.lst (ns.map V.int))/\H rl=some (.lst (row.map V.int))/\τ rl=.other/\
 (∀H' l τ' c' m',(k≠0->(jl S k ns row).1≠none)->dS TZ τ τ' H H'->ja A H' τ' h c' m'->lX c' m' (jl S k ns row).1->c'.held.length<=c.held.length+1->H' l=some (.lst ((jl S k ns row).2.map V.int))->H l=none->(jl S k ns row).2.length<=124098->Q (.ref l) H')
theorem PR:bF ["house","number","numbers","row","given","answer"] ["house","number","numbers","row"] (aY (Fn.st .fF)):=fs
theorem Km(T:Txt A K mg):dU P w K mg base (l8 P w) 13 (A.f .fF) (A.fd .fF) ["house","number","numbers","row"] (W3 A):=by
 refine rT (T.fn .fF) PR (λvs H Q E h=>?_) (λgX B outer sh H vs Q E hr h=>?_)
 ·obtain ⟨τ,h,c,m,S,k,ns,row,nl,rl,rfl,_⟩:=h;rfl
 ·obtain ⟨τ,h,c,m,S,k,ns,row,nl,rl,rfl,al,F,R,hS,hlen,nH,hn,Mh,WO,kQ⟩:=h
  refine ⟨_,ao (bY (i:=4) PR.nd rfl (bh rfl) (AJ (T.R8 .qL .eW rfl rfl) (KN T) (hr.mono (by decide)) rfl (T.R9 .eW) (T.bn .qL) .nil c_ (aa (pv 3) aA)))<|
   ao (bY (i:=5) PR.nd rfl (bh rfl) (dh (NI T) hr rfl (T.o_ .dw rfl) (T.fn .dw).kp (T.bn .dw) .nil dP (aa (pv 0) (aa (pv 1) (aa (pv 2) (aa (pv 3) (aa (pv 4) aA)))))))<|
   aF (bT (bW oX (jZ (pv 4) (T.cls .eW) (T.me .jy .eW rfl rfl) (NG T) (hr.mono (by decide)) (T.bn .jy) .nil c_) (pv 5))),?_⟩
  refine ⟨_,rfl,?_⟩;intro g dx ng Uh neg;refine ⟨g,rl,dx,rfl,ak,λH2 a g1 g2 g3 g4=>⟨rfl,?_⟩⟩;have Qx:g≠a:=λz=>by rw[<-z,ak] at g2;cases g2
  have X8:dx≠a:=λz=>by rw[<-z,az neg,ak] at g2;cases g2
  have Vf:H a=none:=by rw[az Qx.symm,az X8.symm] at g2;exact g2
  have s2:cY H H2:=λb o e=>g4 b o (by rw[az (aQ e ng),az (aQ e Uh)];exact e) (aQ e ng);have S0:dS (λ_=>False) τ (gi τ a .asks) H H2:=(dS.same (T:=λ_=>False) id al s2).tag Vf g3 mE .asks;have S2:=S0.tz;have F2:ja A H2 (gi τ a .asks) h c m:=⟨F.hs.step S0 id id id id id id (λ_=>id) (λ_=>id),λq hq=>(F.con q hq).step S0 id id,F.cd⟩
  have lS:bB A H2 (gi τ a .asks) g row []:=⟨dx,rl,a,[],g1,s2 _ _ Mh,g3,.nil,by rw[cT Qx];exact al.fresh ng,by rw[cT (aQ Mh Vf)];exact WO,eV⟩
  refine ⟨_,rfl,_,rfl,_,rfl,_,rfl,_,rfl,gi τ a .asks,h,c,m,S,k,ns,row,nl,rl,g,rfl,S2.gW,F2,R,hS,hlen,nH,s2 _ _ hn,s2 _ _ Mh,lS,λH3 l a3 d hl ho=>?_⟩;obtain ⟨τ',c',m',S',qs,nn,s3,F3,R3,wQ,sR,hq,pl⟩:=d;have ep:=DM pl;have e1:(jl S k ns row).1=S':=by unfold jl;rw[ep]
  have e2:(jl S k ns row).2=(qs.length:Int)::(qs.flatMap aO++a3.value::a3.out):=by unfold jl;rw[ep]
  obtain ⟨Oe,r3,as3,asl,k1,k2,_⟩:=id sR.ex;refine ⟨_,rfl,g,Oe,_,rfl,k1,rfl,τ',g,row,qs.map aO,rfl,sR,by rw[aj];omega,λq hq=>?_,λH4 l4 s4 Sg Zf=>?_⟩
  ·obtain ⟨x,_,rfl⟩:=aq.mp hq;exact LY x
  have U7:(qs.flatMap aO).length<=120000:=by
   have:=Cs (qs:=qs.map aO) λq hq=>by
    obtain ⟨x,_,rfl⟩:=aq.mp hq;exact LY x
   rw[aj,<-List.flatMap_def] at this;omega
  have Vt:(((qs.map aO).length:Int)::(qs.map aO).flatten).map V.int++LW a3=(jl S k ns row).2.map V.int:=by
   rw[e2,aj,<-List.flatMap_def];unfold LW;rw[<-aG];rfl
  have C7:(jl S k ns row).2.length<=124098:=by
   rw[e2,bL,aE,bL];omega
  refine ⟨_,rfl,l4,l,_,_,rfl,rfl,Zf,s4 _ _ hl,?_,λp hp=>?_⟩
  ·rw[<-aE,Vt,aj];exact dR (big (by omega))
  rw[Vt];have s5:=s4.trans (aX (o:=.lst ((jl S k ns row).2.map V.int)) hp);refine kQ _ p τ' c' m' (by rw[e1];exact nn) (S2.trans (s3.trans (.same id s3.gW s5))) (F3.same s5) (by rw[e1];exact R3) wQ ak ?_ C7;exact s2.free (s3.free (s4.free hp))
end
end Rm
namespace Rm
open PySem L2
def Ez(k:Nat):Bool:=(sZ.getD k (0,false)).2
inductive Runs:Bool->cR->List Int->Nat->List Int->Prop
 |nil {b:Bool} {S:cR}:Runs b S [] 0 []
 |cons {b:Bool} {S:cR} {k n:Nat} {ns row t out:List Int}:Iz k ns row->(b=false->k=0/\(jl S k ns row).1≠none)->(Ez k=false->row=[])->Runs true (jl S k ns row).1 t n out->
  Runs b S ((k:Int)::(ns++((if Ez k=true then (row.length:Int)::row else [])++t))) (n+1) ((jl S k ns row).2.length::((jl S k ns row).2++out))
theorem zf{σ α β γ:Type}{F:σ->β->IL (Option γ) α cX}{G:Option γ->β->IL (Option γ) α cX}(hG:∀s a l,((G s a).played l).1≠none):∀(q:IL (Option γ) α β) (l:List Int),((q.andThen G).played l).1≠none
 |.done s a,l=>hG s a l
 |.ask s q k,l=>zf (F:=F) hG (k s (l.headD 0)) (l.drop 1)
theorem Ey{S:bg}{ns row:List Int}:(jl (some S) 0 ns row).1≠none:=by
 refine zf (σ:=Unit) (F:=λ_ _=>.done none (aZ 0)) (λs a l=>?_) _ _;split<;>exact λz=>nomatch z
theorem Oc{k:Nat}(h:k<=12):sZ[k]?=some ((Aa k:Int),Ez k):=by
 have:∀k,k<=12->sZ[k]?=some ((Aa k:Int),Ez k):=by decide
 exact this k h
section
variable{P:Program}{w:World}{K:au}{mg:Str->Option Value}{base:Heap}{A:gI}
theorem ja.OG{H:Hp}{τ τ2:Tg}{h:Addr}{c:HC}{m:Addr->iJ}(F:ja A H τ h c m)(e:∀b,τ b≠.other->τ b≠.asks->τ2 b=τ b):ja A H τ2 h c m:=by
 have rt:∀{b:Addr} {t:Tag},τ b=t->t≠.other->t≠.asks->τ2 b=t:=λ{b t} q z1 z2=>by rw[e b (by rw[q];exact z1) (by rw[q];exact z2),q]
 obtain ⟨dx,p,hd,sd,kh,ks,h1,t1,h2,h3,h4,t3,h5,h6,t5⟩:=F.hs.ex;obtain ⟨zm,f,r,kvs,gY,p1,p2,p3,p4,p5,u1,u2,u3⟩:=h2.ex;refine ⟨⟨dx,p,hd,sd,kh,ks,h1,rt t1 (λz=>nomatch z) (λz=>nomatch z),⟨zm,f,r,kvs,gY,p1,p2,p3,p4,p5,rt u1 (λz=>nomatch z) (λz=>nomatch z),rt u2 (λz=>nomatch z) (λz=>nomatch z),rt u3 (λz=>nomatch z) (λz=>nomatch z)⟩,h3,h4.imp λk v x ⟨a,bx,q1,q2,q3⟩=>⟨a,bx,q1,q2,rt q3 (λz=>nomatch z) (λz=>nomatch z)⟩,rt t3 (λz=>nomatch z) (λz=>nomatch z),h5,h6.imp λk v x ⟨a,q1,q2,q3⟩=>⟨a,q1,q2,rt q3 (λz=>nomatch z) (λz=>nomatch z)⟩,rt t5 (λz=>nomatch z) (λz=>nomatch z)⟩,λq hq=>?_,F.cd⟩;obtain ⟨cx,d,kvs,q1,q2,q3,q4,q5⟩:=(F.con q hq).ex;exact ⟨cx,d,kvs,q1,q2,q3,rt q4 (λz=>nomatch z) (λz=>nomatch z),rt q5 (λz=>nomatch z) (λz=>nomatch z)⟩
theorem ja.wr{H:Hp}{τ:Tg}{h l:Addr}{c:HC}{m:Addr->iJ}{xs ys:List V}(al:Al τ H)(F:ja A H τ h c m)(e:H l=some (.lst xs))(t:τ l=.other):Al τ (upd H l (.lst ys))/\ja A (upd H l (.lst ys)) τ h c m:=by
 have F2:ja A H (gi τ l .asks) h c m:=F.OG λb z _=>cT λq=>z (q▸t)
 have Z8:Al (gi τ l .asks) H:=λb z=>by
  by_cases q:b=l
  ·subst q;exact ⟨_,e,mE⟩
  ·rw[cT q] at z;exact al b z
 have S:dS TA (gi τ l .asks) (gi τ l .asks) H (upd H l (.lst ys)):=.put id Z8 e (by rw[eV];trivial) mE;refine ⟨λb z=>?_,?_⟩
 ·have q:b≠l:=λq=>z (q▸t);rw[az q];exact al b z
 ·have F3:ja A (upd H l (.lst ys)) (gi τ l .asks) h c m:=⟨F2.hs.step S id id id id id id (λ_=>id) (λ_=>id),λq hq=>(F2.con q hq).step S id id,F2.cd⟩
  refine F3.OG λb z1 z2=>?_
  by_cases q:b=l
  ·subst q;exact absurd eV z2
  ·rw[cT q]
def yZ(K:au)(H:Hp)(τ:Tg)(a tl:Addr)(l:List Int):Prop:=(∃o,H a=some o/\(o=.lst (l.map V.int)\/∃u,o=.nG u (.lst (l.map V.int)))/\τ a=.other/\a≠tl)\/∀H',mY K H' a (l.map V.int)
theorem yZ.sq{H:Hp}{τ:Tg}{a tl:Addr}{l:List Int}(h:yZ K H τ a tl l):mY K H a (l.map V.int):=by
 rcases h with ⟨o,h1,h2|⟨u,h2⟩,_⟩|h
 ·subst h2;exact .inl (.inl h1)
 ·subst h2;exact .inl (.inr ⟨u,h1⟩)
 ·exact h H
theorem yZ.step{H H':Hp}{τ τ':Tg}{a tl:Addr}{l:List Int}(h:yZ K H τ a tl l)(s:dS TZ τ τ' H H'):yZ K H' τ' a tl l:=by
 rcases h with ⟨o,h1,h2,h3,h4⟩|h
 ·exact .inl ⟨o,s.kp h3 id h1,h2,s.tg h3 h1,h4⟩
 ·exact .inr h
theorem yZ.wr{H:Hp}{τ:Tg}{a tl:Addr}{l:List Int}{o':HO}(h:yZ K H τ a tl l):yZ K (upd H tl o') τ a tl l:=by
 rcases h with ⟨o,h1,h2,h3,h4⟩|h
 ·exact .inl ⟨o,by rw[az h4];exact h1,h2,h3,h4⟩
 ·exact .inr h
def OF(K:au):Sp:=λvs H Q _=>∃(a:Addr) (l out:List Int) (n:Nat),vs=[.ref a]/\mY K H a (l.map V.int)/\Runs false none l n out/\n<=100/\l.length<=16000/\∀H' r,H' r=some (.lst (out.map V.int))->Q (.ref r) H'
theorem vW:bF ["calls","house","told","at","number","form","numbers","row","answer"] ["calls"] (aY (Fn.st .i0)):=fs
structure LoopAt(A:gI)(K:au)(l fin:List Int)(a h tl:Addr)(i:Nat)(H:Hp):Prop where
 ex:∃(τ:Tg) (c:HC) (m:Addr->iJ) (S:cR) (b:Bool) (n:Nat) (out told:List Int),(b=true->S≠none)/\Al τ H/\ja A H τ h c m/\lX c m S/\c.held.length+n<=100/\Runs b S (l.drop i) n out/\i<=l.length/\fin=told++out/\H tl=some (.lst (told.map V.int))/\τ tl=.other/\told.length+n*124099<=12409900/\yZ K H τ a tl l
theorem DX(T:Txt A K mg):dU P w K mg base (l8 P w) 14 (A.f .i0) (A.fd .i0) ["calls"] (OF K):=by
 refine rT (T.fn .i0) vW (λvs H Q E h=>?_) (λgX B outer sh H vs Q E hr h=>?_)
 ·obtain ⟨a,l,out,n,rfl,_⟩:=h;rfl
 ·obtain ⟨a,l,fin,n,rfl,hsq,Ga,hn,hlen,k⟩:=h
  refine ⟨_,ao (bY (i:=1) vW.nd rfl (bh rfl) (xN (T.R8 .qH .aD rfl rfl) (KH T) (hr.mono (by decide)) rfl (T.R9 .aD) (T.bn .qH) .nil c_))<|
   ao (bY (i:=2) vW.nd rfl (bh rfl) (fy aA))<|
   ao (bY (i:=3) vW.nd rfl (bh rfl) bq)<|
   ao (rO PassesOwn.leaving (dz rS (pv 3) (cF cQ rfl T.mK.len cH (aa (pv 0) aA)) (dH _))
    (ao (bY (i:=4) vW.nd rfl (bh rfl) (eY fE (pv 0) (pv 3) (λ_ _=>rfl)))<|
     ao (bY (i:=5) vW.nd rfl (bh rfl) (eY ir (sC (v:=.ref A.sZ) rfl T.mgm rfl) (pv 4) (λ_ _=>rfl)))<|
     ao (bY (i:=6) vW.nd rfl (bh rfl) (kT Aw (pv 0) (jf (bW fM (pv 3) bq)) (jf (bW fM (bW fM (pv 3) bq) (eY ir (pv 5) bq (λ_ _=>rfl))))))<|
     ao (xK (i:=3) vW.nd rfl (bh rfl) (bW fM bq (eY ir (pv 5) bq (λ_ _=>rfl))) AR)<|
     ao (bY (i:=7) vW.nd rfl (bh rfl) (fy aA))<|
     ao (fC (oU (eY ir (pv 5) bq (λ_ _=>rfl)))
      (ao (bY (i:=7) vW.nd rfl (bh rfl) (kT Aw (pv 0) (jf (bW fM (pv 3) bq)) (jf (bW fM (bW fM (pv 3) bq) (eY fE (pv 0) (pv 3) (λ_ _=>rfl))))))<|
       aF (xK (i:=3) vW.nd rfl (bh rfl) (bW fM bq (cF cQ rfl T.mK.len cH (aa (pv 7) aA))) AR)) cZ)<|
     ao (bY (i:=8) vW.nd rfl (bh rfl) (dh (Km T) hr rfl (T.o_ .fF rfl) (T.fn .fF).kp (T.bn .fF) .nil dP (aa (pv 1) (aa (pv 4) (aa (pv 6) (aa (pv 7) aA))))))<|
     ao (bV (pJ cJ gE gC nM (pv 2) (aa (cF cQ rfl T.mK.len cH (aa (pv 8) aA)) aA)))<|
     aF (bV (pJ cJ gD jb vd (pv 2) (aa (pv 8) aA)))))<|
   aF (bT (pv 2)),?_⟩
  intro h dx nh Uh neh;refine ⟨h,dx,rfl,ak,λH1 τ1 gW zI keep=>⟨rfl,?_⟩⟩;refine ⟨bH _,λtl Lc=>?_⟩;have s2:=aX (o:=.lst []) Lc;have Z8:Al τ1 (upd H1 tl (.lst [])):=(dS.same (T:=TZ) id gW s2).gW;have t2:=gW.fresh Lc;have F2:ja A (upd H1 tl (.lst [])) τ1 h c0 (λ_=>[]):=⟨zI.same s2,λq hq=>absurd hq fJ,gP⟩
  have in2:yZ K (upd H1 tl (.lst [])) τ1 a tl l:=by
   rcases hsq with hs|hs
   ·have:∃o,H a=some o/\(o=.lst (l.map V.int)\/∃u,o=.nG u (.lst (l.map V.int))):=by
     rcases hs with hs|⟨u,hs⟩
     ·exact ⟨_,hs,.inl rfl⟩
     ·exact ⟨_,hs,.inr ⟨u,rfl⟩⟩
    obtain ⟨o,ho,Ec⟩:=this;obtain ⟨k1,k2⟩:=keep a o (by rw[az (aQ ho nh),az (aQ ho Uh)];exact ho) (aQ ho nh);exact .inl ⟨o,s2 _ _ k1,Ec,k2,aQ k1 Lc⟩
   ·exact .inr λH'=>.inr hs
  have L0:LoopAt A K l fin a h tl 0 (upd H1 tl (.lst [])):=⟨τ1,c0,λ_=>[],none,false,n,fin,[],(λz=>nomatch z),Z8,F2,rfl,by show 0+n<=100;omega,Ga,bH _,rfl,ak,t2,by show 0+_<=_;omega,in2⟩
  generalize upd H1 tl (.lst [])=H2 at L0;refine ⟨λmm σ H3=>∃(i:Nat) (v4 v5 v6 v7 v8:Option V),σ=[some (.ref a),some (.ref h),some (.ref tl),some (.int i),v4,v5,v6,v7,v8]/\LoopAt A K l fin a h tl i H3/\mm=l.length-i,⟨_,0,none,none,none,none,none,rfl,L0,rfl⟩,?_⟩;rintro mm σ H3 ⟨i,v4,v5,v6,v7,v8,rfl,⟨τ,c,m,S,b,n,out,told,hb,al,F,R,rY,QT,hil,Q_,QN,VQ,a2U,qm⟩,rfl⟩;refine ⟨_,rfl,_,rfl,a,_,rfl,.inl qm.sq,_,_,rfl,rfl,_,rfl,?_⟩;refine iP (λcd=>?_) (λcd=>?_)
  rotate_left
  ·have Ws:¬i<l.length:=λq=>cd (decide_eq_true (by rw[aj];omega));have e0:l.drop i=[]:=List.drop_eq_nil_of_le (by omega);rw[e0] at QT;cases QT;refine ⟨_,rfl,k _ tl ?_⟩;rw[QN,Q_,fR]
  have pX:i<l.length:=by
   have:=of_decide_eq_true cd;rw[aj] at this;omega
  refine ⟨λσ' H'=>∃(i':Nat) (v4 v5 v6 v7 v8:Option V),i<i'/\σ'=[some (.ref a),some (.ref h),some (.ref tl),some (.int i'),v4,v5,v6,v7,v8]/\LoopAt A K l fin a h tl i' H',?_,?_⟩
  ·rintro σ' H' ⟨i',v4,v5,v6,v7,v8,hi,rfl,L⟩;obtain ⟨_,_,_,_,_,_,_,_,_,_,_,_,_,_,q,_⟩:=L.ex;exact ⟨_,by omega,i',v4,v5,v6,v7,v8,rfl,L,rfl⟩
  generalize ed:l.drop i=rest at QT;cases QT with
  |nil=>
   have:=congrArg nj ed;rw[b_] at this;simp at this;omega
  | @cons _ _ kk n1 ns row t Ua nH Ls QU QT=>
   have hS:kk=0\/S≠none:=by
    cases b with
    |true=>exact .inr (hb rfl)
    |false=>exact .inl (Ls rfl).1
   have ON:(kk≠0->(jl S kk ns row).1≠none)->(jl S kk ns row).1≠none:=λnn=>by
    by_cases z:kk=0
    ·cases b with
     |false=>exact (Ls rfl).2
     |true=>
      subst z;obtain ⟨S1,rfl⟩:=yH.mp (hb rfl);exact Ey
    ·exact nn z
   have Zk:=nH.le
   have lk:l[i]?=some (kk:Int):=by
    have:=congrArg (λx=>x[0]?) ed;simpa using this
   have d1:l.drop (i+1)=ns++((if Ez kk=true then (row.length:Int)::row else [])++t):=by
    rw[<-oO,ed];rfl
   have Wn:=nH.len;have tk1:(l.drop (i+1)).take (Aa kk)=ns:=by rw[d1,<-Wn,List.take_left]
   have d2:l.drop (i+(1+Aa kk))=(if Ez kk=true then (row.length:Int)::row else [])++t:=by
    rw[<-ni,<-oO,d1,<-Wn,List.drop_left]
   have hfm:=Oc Zk;have atk:Gv ((bX 13).map λi=>V.ref (A.Cr i)) (kk:Int)=some (V.ref (A.Cr kk)):=uD (by rw[cu,nZ (by omega)];rfl);have ata:Gv (l.map V.int) (i:Int)=some (V.int kk):=uD (by rw[cu,lk];rfl);have ft:∀H',lW K H' (A.Cr kk) [.int (Aa kk:Nat),.bl (Ez kk)]:=λH'=>T.fmi H' kk _ hfm;refine ⟨_,rfl,_,rfl,a,_,_,_,rfl,rfl,qm.sq,ata,?_⟩;refine ⟨_,rfl,A.sZ,_,_,_,rfl,rfl,T.fm H3,atk,?_⟩;refine ⟨_,rfl,_,rfl,_,_,rfl,rfl,_,rfl,_,rfl,_,_,rfl,rfl,_,rfl,A.Cr kk,_,_,_,rfl,rfl,ft H3,rfl,_,_,rfl,rfl,_,rfl,a,_,rfl,qm.sq,λnl Y0=>?_⟩
   have Rv:o8 (l.map V.int) (some ((i:Int)+1)) (some ((i:Int)+1+(Aa kk:Nat)))=ns.map V.int:=by
    rw[vp (by omega) (by omega),r6,rK,show ((i:Int)+1).toNat=i+1 by omega,show ((i:Int)+1+(Aa kk:Nat)-((i:Int)+1)).toNat=Aa kk by omega,tk1]
   rw[Rv];have s4:=aX (o:=.lst (ns.map V.int)) Y0;have UT:upd H3 nl (.lst (ns.map V.int)) nl=some (.lst (ns.map V.int)):=ak;generalize upd H3 nl (.lst (ns.map V.int))=H4 at s4 UT⊢;refine ⟨_,rfl,_,rfl,A.Cr kk,_,_,_,rfl,rfl,ft H4,rfl,_,_,rfl,rfl,_,_,rfl,rfl,?_⟩;have e2:(i:Int)+(1+(Aa kk:Nat))=((i+(1+Aa kk):Nat):Int):=by omega
   dsimp only;rw[e2]
   have hd2:i+(1+Aa kk)<=l.length:=by
    have:=congrArg nj d1;rw[b_,aE] at this;omega
   generalize hj:i+(1+Aa kk)=j at d2 hd2;refine ⟨bH _,λr0 oZ=>?_⟩;have s5:=s4.trans (aX (o:=.lst []) oZ);have QZ:=aX (o:=.lst []) oZ _ _ UT;have hr5:upd H4 r0 (.lst []) r0=some (.lst []):=ak;have tr0:τ r0=.other:=al.fresh (s4.free oZ);generalize upd H4 r0 (.lst [])=H5 at s5 QZ hr5⊢;refine ⟨_,rfl,A.Cr kk,_,_,_,rfl,rfl,ft H5,rfl,_,rfl,?_⟩;have in5:=qm.step (dS.same (T:=TZ) id al s5);cases er:Ez kk with
   |true=>
    rw[er,if_pos rfl] at d2;refine lg ?_
    have lk2:l[j]?=some (row.length:Int):=by
     have:=congrArg (λx=>x[0]?) d2;simpa using this
    have atb:Gv (l.map V.int) (j:Int)=some (V.int (row.length:Nat)):=uD (by rw[cu,lk2];rfl)
    have d3:l.drop (j+1)=row++t:=by
     rw[<-oO,d2];rfl
    refine ⟨_,rfl,_,rfl,_,_,rfl,rfl,_,rfl,_,rfl,_,_,rfl,rfl,_,rfl,_,rfl,a,_,_,_,rfl,rfl,in5.sq,atb,_,_,rfl,rfl,_,rfl,a,_,rfl,in5.sq,λrl Cg=>?_⟩
    have Vv:o8 (l.map V.int) (some ((j:Int)+1)) (some ((j:Int)+1+(row.length:Nat)))=row.map V.int:=by
     rw[vp (by omega) (by omega),r6,rK,show ((j:Int)+1).toNat=j+1 by omega,show ((j:Int)+1+(row.length:Nat)-((j:Int)+1)).toNat=row.length by omega,d3,List.take_left]
    rw[Vv];have s6:=s5.trans (aX (o:=.lst (row.map V.int)) Cg);have Lf:=aX (o:=.lst (row.map V.int)) Cg _ _ QZ;have QV:upd H5 rl (.lst (row.map V.int)) rl=some (.lst (row.map V.int)):=ak;have VT:τ rl=.other:=al.fresh (s5.free Cg);generalize upd H5 rl (.lst (row.map V.int))=H6 at s6 Lf QV⊢;refine ⟨_,rfl,_,rfl,rl,_,rfl,.inl (.of QV),_,_,rfl,rfl,_,_,rfl,rfl,?_⟩;have e3:(j:Int)+(1+(((row.map V.int).length:Nat):Int))=((j+(1+row.length):Nat):Int):=by rw[aj];omega
    dsimp only;rw[e3];have d4:l.drop (j+(1+row.length))=t:=by rw[<-ni,<-oO,d3,List.drop_left]
    have IV:j+(1+row.length)<=l.length:=by
     have:=congrArg nj d3;rw[b_,aE] at this;have:=congrArg nj d2;rw[b_,aE,bL] at this;omega
    have Q7:i<j+(1+row.length):=by omega
    generalize j+(1+row.length)=i6 at d4 IV Q7;have Z7:=(dS.same (T:=TZ) id al s6).gW;have Yv:=qm.step (dS.same (T:=TZ) id al s6);refine ⟨_,rfl,_,rfl,_,rfl,_,rfl,τ,h,c,m,S,kk,ns,row,nl,rl,rfl,Z7,F.same s6,R,hS,by omega,nH,Lf,QV,VT,λH7 p τ7 c7 m7 nn S7 F7 R7 hl7 UM UN C7=>?_⟩;have X5:=ON nn;have Ea:=s6 _ _ QN;have D_:=S7.kp VQ id Ea;have Dq:=S7.tg VQ Ea;have YN:p≠tl:=λz=>by rw[z,Ea] at UN;cases UN
    have Yu:=Yv.step S7;have tb1:told.length<=12409900:=by omega
    refine ⟨_,rfl,.inl ⟨rfl,_,.of D_⟩,_,rfl,p,_,rfl,.inl (.of UM),tl,_,_,rfl,rfl,D_,?_,?_⟩
    ·rw[aj];show _<2^24;omega
    generalize UD:jl S kk ns row=sp at*;obtain ⟨S',o'⟩:=sp;dsimp only at*;obtain ⟨VF,F8⟩:=F7.wr (ys:=told.map V.int++[V.int ((o'.map V.int).length:Nat)]) S7.gW D_ Dq;have Uq:=Yu.wr (o':=.lst (told.map V.int++[V.int ((o'.map V.int).length:Nat)]));have AV:upd H7 tl (.lst (told.map V.int++[V.int ((o'.map V.int).length:Nat)])) tl=some (.lst (told.map V.int++[V.int ((o'.map V.int).length:Nat)])):=ak;have UL:upd H7 tl (.lst (told.map V.int++[V.int ((o'.map V.int).length:Nat)])) p=some (.lst (o'.map V.int)):=by rw[az YN];exact UM
    generalize upd H7 tl (.lst (told.map V.int++[V.int ((o'.map V.int).length:Nat)]))=H8 at VF F8 Uq AV UL⊢;refine ⟨_,rfl,.inl ⟨rfl,_,.of AV⟩,_,rfl,tl,p,_,_,rfl,rfl,AV,UL,?_,?_⟩
    ·rw[aE,aj,aj];show _+1+_<=2^24;omega
    obtain ⟨Z6,F9⟩:=F8.wr (ys:=told.map V.int++[V.int ((o'.map V.int).length:Nat)]++o'.map V.int) VF AV Dq;refine ⟨i6,_,_,_,_,_,Q7,rfl,⟨τ7,c7,m7,S',true,n1,Ua,told++((o'.length:Nat):Int)::o',(λ_=>X5),Z6,F9,R7,by omega,by rw[d4];exact QT,IV,?_,?_,Dq,?_,Uq.wr⟩⟩
    ·rw[Q_,cD];rfl
    ·rw[ak,aG,cD,aj];rfl
    ·rw[aE,bL];omega
   |false=>
    refine mJ ?_;have UG:=QU er;subst UG;rw[er,if_neg (by decide),lG] at d2;have Lf:=QZ;have QV:H5 r0=some (.lst (([]:List Int).map V.int)):=hr5;have s6:=s5;have VT:=tr0;have d4:=d2;have IV:=hd2;have Q7:i<j:=by omega
    generalize j=i6 at d4 IV Q7;generalize H5=H6 at s6 Lf QV⊢;generalize r0=rl at QV VT⊢;have Z7:=(dS.same (T:=TZ) id al s6).gW;have Yv:=qm.step (dS.same (T:=TZ) id al s6);refine ⟨_,rfl,_,rfl,_,rfl,_,rfl,τ,h,c,m,S,kk,ns,[],nl,rl,rfl,Z7,F.same s6,R,hS,by omega,nH,Lf,QV,VT,λH7 p τ7 c7 m7 nn S7 F7 R7 hl7 UM UN C7=>?_⟩;have X5:=ON nn;have Ea:=s6 _ _ QN;have D_:=S7.kp VQ id Ea;have Dq:=S7.tg VQ Ea;have YN:p≠tl:=λz=>by rw[z,Ea] at UN;cases UN
    have Yu:=Yv.step S7;have tb1:told.length<=12409900:=by omega
    refine ⟨_,rfl,.inl ⟨rfl,_,.of D_⟩,_,rfl,p,_,rfl,.inl (.of UM),tl,_,_,rfl,rfl,D_,?_,?_⟩
    ·rw[aj];show _<2^24;omega
    generalize UD:jl S kk ns []=sp at*;obtain ⟨S',o'⟩:=sp;dsimp only at*;obtain ⟨VF,F8⟩:=F7.wr (ys:=told.map V.int++[V.int ((o'.map V.int).length:Nat)]) S7.gW D_ Dq;have Uq:=Yu.wr (o':=.lst (told.map V.int++[V.int ((o'.map V.int).length:Nat)]));have AV:upd H7 tl (.lst (told.map V.int++[V.int ((o'.map V.int).length:Nat)])) tl=some (.lst (told.map V.int++[V.int ((o'.map V.int).length:Nat)])):=ak;have UL:upd H7 tl (.lst (told.map V.int++[V.int ((o'.map V.int).length:Nat)])) p=some (.lst (o'.map V.int)):=by rw[az YN];exact UM
    generalize upd H7 tl (.lst (told.map V.int++[V.int ((o'.map V.int).length:Nat)]))=H8 at VF F8 Uq AV UL⊢;refine ⟨_,rfl,.inl ⟨rfl,_,.of AV⟩,_,rfl,tl,p,_,_,rfl,rfl,AV,UL,?_,?_⟩
    ·rw[aE,aj,aj];show _+1+_<=2^24;omega
    obtain ⟨Z6,F9⟩:=F8.wr (ys:=told.map V.int++[V.int ((o'.map V.int).length:Nat)]++o'.map V.int) VF AV Dq;refine ⟨i6,_,_,_,_,_,Q7,rfl,⟨τ7,c7,m7,S',true,n1,Ua,told++((o'.length:Nat):Int)::o',(λ_=>X5),Z6,F9,R7,by omega,by rw[d4];exact QT,IV,?_,?_,Dq,?_,Uq.wr⟩⟩
    ·rw[Q_,cD];rfl
    ·rw[ak,aG,cD,aj];rfl
    ·rw[aE,bL];omega
end
end Rm
namespace Rm
open Kg46Neutral (whole64 unsigned i64 callOf numbers step asked1 natural long)
theorem w64{x:Int}:whole64 x=true↔-9223372036854775808<=x/\x<=9223372036854775807:=by
 unfold whole64;simp only[aC,decide_eq_true_eq];omega
theorem pQ{x:Int}(h:whole64 x=true):i64 (unsigned 64 x)=x:=by
 rw[w64] at h;unfold i64 unsigned;have e:((2^64:Nat):Int)=18446744073709551616:=by decide
 rw[e];split
 ·omega
 ·omega
theorem xH{e:List Int}(h:e.all (λz=>whole64 z)=true):(((e.map (unsigned 64)++[]).take ((e.length:Int)).toNat).map i64)=e:=by
 rw[fR,aU,b8 (by rw[aj];exact aL _),ay];rw[fh] at h;have:e.map (i64∘unsigned 64)=e.map id:=aN λx hx=>pQ (h x hx);rw[this,kH]
def uU(S:cR)(c:Kg46.Call)(rs:List Int):cR×List Int:=
 let x:=(bI S c).played rs
 (x.1,(x.2.2.1.length:Int)::(x.2.2.1.flatMap aO++x.2.1.value::x.2.1.out))
theorem ko{c:CQ}{cl:Kg46.Call}{rs:List Int}(h:callOf (numbers c)=(cl,rs))(S:cR):step S c=uU S cl rs:=by
 unfold step;rw[h];rfl
theorem Nn{S:cR}{x:Int}{b:Option (List Nat)}{l:List Int}:uU S (.put x b) l=uU S (.put x b) []:=by
 have:∃h a,bI S (.put x b)=.done h a:=by
  cases S with
  |none=>exact ⟨_,_,rfl⟩
  |some S=>
   cases b with
   |none=>exact ⟨_,_,rfl⟩
   |some b=>
    show ∃h a,(if (b.any λx=>decide (255<x))=true then _ else if b=[] then _ else _)=_;split
    ·exact ⟨_,_,rfl⟩
    ·split
     ·exact ⟨_,_,rfl⟩
     ·split<;>exact ⟨_,_,rfl⟩
 obtain ⟨h,a,e⟩:=this;unfold uU;rw[e];rfl
def Good(k:Nat)(ns row:List Int)(c:CQ):Prop:=Iz k ns row/\(Ez k=false->row=[])/\(∀S,step S c=jl S k ns row)/\(c.headD []).headD 9=(k:Int)
theorem jW(S:cR)(k:Nat)(ns row:List Int):jl S k ns row=uU S (s_ k ns row) row:=rfl
section
variable{x y z:Int}{r:List Int}
theorem yO{l:List Int}(h:∀x∈l,whole64 x=true):∀x∈l,x<=9223372036854775807:=λx hx=>(w64.mp (h x hx)).2
theorem good0(h:asked1 [[0,x,y,z,(r.length:Int)],r]=true):Good 0 [x,y,z] r [[0,x,y,z,(r.length:Int)],r]:=by
 have h:(whole64 x&&whole64 y&&whole64 z&&(decide (0<=(r.length:Int))&&decide ((r.length:Int)<=4096))&&(r.all (λ(z:Int)=>whole64 z)&&long r r.length 0 4096))=true:=h;simp only[aC] at h;obtain ⟨⟨⟨⟨h1,h2⟩,h3⟩,_⟩,h5,_⟩:=h;refine ⟨⟨by decide,rfl,yO λq hq=>?_,λz=>nomatch z⟩,(λz=>nomatch z),λS=>?_,rfl⟩
 ·simp only[aP,fJ,or_false] at hq;rcases hq with rfl|rfl|rfl<;>assumption
 ·rw[jW];refine ko ?_ S;show (EO (i64 (unsigned 64 x)) (i64 (unsigned 64 y)) (i64 (unsigned 64 z)),(((r.map (unsigned 64)++[]).take ((r.length:Int)).toNat).map i64))=(EO x y z,r)
  rw[pQ h1,pQ h2,pQ h3,xH h5]
theorem Vo(h:asked1 [[1,x,y,(r.length:Int)],r]=true):Good 1 [x,y] r [[1,x,y,(r.length:Int)],r]:=by
 have h:(whole64 x&&whole64 y&&(decide (0<=(r.length:Int))&&decide ((r.length:Int)<=4096))&&(r.all (λ(z:Int)=>whole64 z)&&long r r.length 0 4096))=true:=h;simp only[aC] at h;obtain ⟨⟨⟨h1,h2⟩,_⟩,h5,_⟩:=h;refine ⟨⟨by decide,rfl,yO λq hq=>?_,λz=>nomatch z⟩,(λz=>nomatch z),λS=>?_,rfl⟩
 ·simp only[aP,fJ,or_false] at hq;rcases hq with rfl|rfl<;>assumption
 ·rw[jW];refine ko ?_ S;show (II (i64 (unsigned 64 x)) (i64 (unsigned 64 y)),(((r.map (unsigned 64)++[]).take ((r.length:Int)).toNat).map i64))=(II x y,r)
  rw[pQ h1,pQ h2,xH h5]
theorem good2(h:asked1 [[2,x,(r.length:Int)],r]=true):Good 2 [x] r [[2,x,(r.length:Int)],r]:=by
 have h:(whole64 x&&(decide (0<=(r.length:Int))&&decide ((r.length:Int)<=4096))&&(r.all (λ(z:Int)=>whole64 z)&&long r r.length 0 4096))=true:=h;simp only[aC] at h;obtain ⟨⟨h1,_⟩,h5,_⟩:=h;refine ⟨⟨by decide,rfl,yO λq hq=>?_,λz=>nomatch z⟩,(λz=>nomatch z),λS=>?_,rfl⟩
 ·simp only[aP,fJ,or_false] at hq;rcases hq with rfl<;>assumption
 ·rw[jW];refine ko ?_ S;show (IJ (i64 (unsigned 64 x)),(((r.map (unsigned 64)++[]).take ((r.length:Int)).toNat).map i64))=(IJ x,r)
  rw[pQ h1,xH h5]
theorem good3(h:asked1 [[3,x,y,(r.length:Int)],r]=true):Good 3 [x,y] r [[3,x,y,(r.length:Int)],r]:=by
 have h:(whole64 x&&whole64 y&&(decide (0<=(r.length:Int))&&decide ((r.length:Int)<=4096))&&(r.all (λ(z:Int)=>whole64 z)&&long r r.length 0 4096))=true:=h;simp only[aC] at h;obtain ⟨⟨⟨h1,h2⟩,_⟩,h5,_⟩:=h;refine ⟨⟨by decide,rfl,yO λq hq=>?_,λz=>nomatch z⟩,(λz=>nomatch z),λS=>?_,rfl⟩
 ·simp only[aP,fJ,or_false] at hq;rcases hq with rfl|rfl<;>assumption
 ·rw[jW];refine ko ?_ S;show (EM (i64 (unsigned 64 x)) (i64 (unsigned 64 y)),(((r.map (unsigned 64)++[]).take ((r.length:Int)).toNat).map i64))=(EM x y,r)
  rw[pQ h1,pQ h2,xH h5]
theorem Vn(h:asked1 [[4,x]]=true):Good 4 [x] [] [[4,x]]:=by
 have h:whole64 x=true:=h;refine ⟨⟨by decide,rfl,yO λq hq=>?_,λz=>nomatch z⟩,(λ_=>rfl),λS=>?_,rfl⟩
 ·simp only[aP,fJ,or_false] at hq;rcases hq with rfl<;>assumption
 ·rw[jW];refine ko ?_ S;show (IG (i64 (unsigned 64 x)),_)=(IG x,[])
  rw[pQ h]
theorem Vm(h:asked1 [[5,x]]=true):Good 5 [x] [] [[5,x]]:=by
 have h:whole64 x=true:=h;refine ⟨⟨by decide,rfl,yO λq hq=>?_,λz=>nomatch z⟩,(λ_=>rfl),λS=>?_,rfl⟩
 ·simp only[aP,fJ,or_false] at hq;rcases hq with rfl<;>assumption
 ·rw[jW];refine ko ?_ S;show (GG (i64 (unsigned 64 x)),_)=(GG x,[])
  rw[pQ h]
theorem Vl(h:asked1 [[6,x,(r.length:Int)],r]=true):Good 6 [x] r [[6,x,(r.length:Int)],r]:=by
 have h:(whole64 x&&whole64 (r.length:Int)&&(r.all (λ(z:Int)=>natural z 8)&&long r r.length 0 4096))=true:=h;simp only[aC] at h;obtain ⟨⟨h1,h2⟩,h5,h6⟩:=h
 have hl:r.length<=4096:=by
  unfold long at h6;have:=of_decide_eq_true h6;split at this<;>omega
 rw[fh] at h5
 have h8:∀q∈r,0<=q/\q<=255:=λq hq=>by
  have:=h5 q hq;unfold natural at this;simp only[aC,decide_eq_true_eq] at this;omega
 refine ⟨⟨by decide,rfl,yO λq hq=>?_,λ_=>⟨hl,h8⟩⟩,(λz=>nomatch z),λS=>?_,rfl⟩
 ·simp only[aP,fJ,or_false] at hq;rcases hq with rfl<;>assumption
 ·rw[jW];show _=uU S (.put x (some (r.map jV))) r;rw[Nn];refine ko ?_ S;show (Je (i64 (unsigned 64 x)) (if 0<=i64 (unsigned 64 (r.length:Int))/\i64 (unsigned 64 (r.length:Int))<=4096 then some ((r.map jV++[]).take (i64 (unsigned 64 (r.length:Int))).toNat) else none),_)=(Je x (some (r.map jV)),[])
  rw[pQ h1,pQ h2,if_pos (by omega),fR,aU,b8 (by rw[aj];exact aL _)]
theorem Vk(h:asked1 [[7,x,y]]=true):Good 7 [x,y] [] [[7,x,y]]:=by
 have h:(whole64 x&&whole64 y)=true:=h;simp only[aC] at h;obtain ⟨h1,h2⟩:=h;refine ⟨⟨by decide,rfl,yO λq hq=>?_,λz=>nomatch z⟩,(λ_=>rfl),λS=>?_,rfl⟩
 ·simp only[aP,fJ,or_false] at hq;rcases hq with rfl|rfl<;>assumption
 ·rw[jW];refine ko ?_ S;show (Jf (i64 (unsigned 64 x)) (i64 (unsigned 64 y)),_)=(Jf x y,[])
  rw[pQ h1,pQ h2]
theorem Vj(h:asked1 [[8,x,y,z]]=true):Good 8 [x,y,z] [] [[8,x,y,z]]:=by
 have h:(whole64 x&&whole64 y&&whole64 z)=true:=h;simp only[aC] at h;obtain ⟨⟨h1,h2⟩,h3⟩:=h;refine ⟨⟨by decide,rfl,yO λq hq=>?_,λz=>nomatch z⟩,(λ_=>rfl),λS=>?_,rfl⟩
 ·simp only[aP,fJ,or_false] at hq;rcases hq with rfl|rfl|rfl<;>assumption
 ·rw[jW];refine ko ?_ S;show (IK (i64 (unsigned 64 x)) (i64 (unsigned 64 y)) (i64 (unsigned 64 z)),_)=(IK x y z,[])
  rw[pQ h1,pQ h2,pQ h3]
theorem Vi(h:asked1 [[9,x,y]]=true):Good 9 [x,y] [] [[9,x,y]]:=by
 have h:(whole64 x&&whole64 y)=true:=h;simp only[aC] at h;obtain ⟨h1,h2⟩:=h;refine ⟨⟨by decide,rfl,yO λq hq=>?_,λz=>nomatch z⟩,(λ_=>rfl),λS=>?_,rfl⟩
 ·simp only[aP,fJ,or_false] at hq;rcases hq with rfl|rfl<;>assumption
 ·rw[jW];refine ko ?_ S;show (EN (i64 (unsigned 64 x)) (i64 (unsigned 64 y)),_)=(EN x y,[])
  rw[pQ h1,pQ h2]
theorem Rp:Good 10 [] [] [[10]]:=⟨⟨by decide,rfl,(λx hx=>nomatch hx),λz=>nomatch z⟩,(λ_=>rfl),(λS=>ko (rs:=[]) rfl S),rfl⟩
theorem Ro:Good 11 [] [] [[11]]:=⟨⟨by decide,rfl,(λx hx=>nomatch hx),λz=>nomatch z⟩,(λ_=>rfl),(λS=>ko (rs:=[]) rfl S),rfl⟩
theorem Rn(h:asked1 [[12,(r.length:Int)],r]=true):Good 12 [] r [[12,(r.length:Int)],r]:=by
 have h:((decide (0<=(r.length:Int))&&decide ((r.length:Int)<=4096))&&(r.all (λ(z:Int)=>whole64 z)&&long r r.length 0 4096))=true:=h;simp only[aC] at h;obtain ⟨_,h5,_⟩:=h;refine ⟨⟨by decide,rfl,(λx hx=>nomatch hx),λz=>nomatch z⟩,(λz=>nomatch z),λS=>?_,rfl⟩;rw[jW];refine ko ?_ S;show (IF,(((r.map (unsigned 64)++[]).take ((r.length:Int)).toNat).map i64))=(IF,r)
 rw[xH h5]
end
end Rm
namespace Rm
open Kg46Neutral (step asked1)
theorem LR{f:Int->Option (Nat×Nat)}{p:Int}{r:List Int}{c:List (List Int)}{t:List Int}(h:sN f (p::r)=some (c,t)):∃n kk xs,f p=some (n,kk)/\n<=r.length/\De kk (r.drop n)=some (xs,t)/\c=(p::r.take n)::xs:=by
 unfold sN at h;dsimp only at h;cases e:f p with
 |none=>rw[e] at h;cases h
 |some q=>
  obtain ⟨n,kk⟩:=q;rw[e] at h;dsimp only at h
  by_cases hl:r.length<n
  ·rw[if_pos hl] at h;cases h
  ·rw[if_neg hl] at h;cases e2:De kk (r.drop n) with
   |none=>rw[e2] at h;cases h
   |some q=>
    obtain ⟨xs,t'⟩:=q;rw[e2] at h;cases h;exact ⟨n,kk,xs,rfl,by omega,e2,rfl⟩
theorem JP{s:List Int}{xs:List (List Int)}{t:List Int}(h:De 1 s=some (xs,t)):∃row,xs=[row]/\s=(row.length:Int)::(row++t):=by
 cases s with
 |nil=>cases h
 |cons n s=>
  have h:(match (if 0<=n/\n.toNat<=s.length then some (s.take n.toNat,s.drop n.toNat) else none) with
   |none=>none
   |some (x,s)=>some ([x],s))=some (xs,t):=h
  by_cases c:0<=n/\n.toNat<=s.length
  ·rw[if_pos c] at h;cases h;refine ⟨_,rfl,?_⟩;rw[EH,bS,lI c.2,Ji c.1]
  ·rw[if_neg c] at h;cases h
theorem Hh{p:Int}{n kk:Nat}(h:ju p=some (n,kk)):∃k:Nat,k<=12/\p=k/\n=Aa k/\kk=if Ez k=true then 1 else 0:=by
 unfold ju at h
 by_cases h0:p=0
 ·subst h0;cases h;exact ⟨0,by decide,rfl,rfl,rfl⟩
 rw[if_neg h0] at h
 by_cases h1:p=1
 ·subst h1;cases h;exact ⟨1,by decide,rfl,rfl,rfl⟩
 rw[if_neg h1] at h
 by_cases h2:p=2
 ·subst h2;cases h;exact ⟨2,by decide,rfl,rfl,rfl⟩
 rw[if_neg h2] at h
 by_cases h3:p=3
 ·subst h3;cases h;exact ⟨3,by decide,rfl,rfl,rfl⟩
 rw[if_neg h3] at h
 by_cases h4:p=4
 ·subst h4;cases h;exact ⟨4,by decide,rfl,rfl,rfl⟩
 rw[if_neg h4] at h
 by_cases h5:p=5
 ·subst h5;cases h;exact ⟨5,by decide,rfl,rfl,rfl⟩
 rw[if_neg h5] at h
 by_cases h6:p=6
 ·subst h6;cases h;exact ⟨6,by decide,rfl,rfl,rfl⟩
 rw[if_neg h6] at h
 by_cases h7:p=7
 ·subst h7;cases h;exact ⟨7,by decide,rfl,rfl,rfl⟩
 rw[if_neg h7] at h
 by_cases h8:p=8
 ·subst h8;cases h;exact ⟨8,by decide,rfl,rfl,rfl⟩
 rw[if_neg h8] at h
 by_cases h9:p=9
 ·subst h9;cases h;exact ⟨9,by decide,rfl,rfl,rfl⟩
 rw[if_neg h9] at h
 by_cases h10:p=10
 ·subst h10;cases h;exact ⟨10,by decide,rfl,rfl,rfl⟩
 rw[if_neg h10] at h
 by_cases h11:p=11
 ·subst h11;cases h;exact ⟨11,by decide,rfl,rfl,rfl⟩
 rw[if_neg h11] at h
 by_cases ZQ:p=12
 ·subst ZQ;cases h;exact ⟨12,by decide,rfl,rfl,rfl⟩
 rw[if_neg ZQ] at h;cases h
theorem Kh{p:Int}{r:List Int}{c:List (List Int)}{t:List Int}(h:sN ju (p::r)=some (c,t))(ha:asked1 (iw c)=true):
  ∃(k:Nat) (ns row:List Int),p::r=(k:Int)::(ns++((if Ez k=true then (row.length:Int)::row else [])++t))/\Good k ns row (iw c):=by
 obtain ⟨n,kk,xs,h1,h2,h3,rfl⟩:=LR h;obtain ⟨k,hk,rfl,rfl,rfl⟩:=Hh h1;have hr:r=r.take (Aa k)++r.drop (Aa k):=(EH _ _).symm;have hl:(r.take (Aa k)).length=Aa k:=by rw[bS];omega
 generalize r.take (Aa k)=ns at hr hl ha;generalize r.drop (Aa k)=s at hr h3;subst hr
 have hx:∃row,(Ez k=true->xs=[row])/\(Ez k=false->xs=[]/\row=[])/\s=(if Ez k=true then (row.length:Int)::row else [])++t:=by
  cases e:Ez k with
  |true=>
   rw[e,if_pos rfl] at h3;obtain ⟨row,q1,q2⟩:=JP h3;exact ⟨row,λ_=>q1,(λz=>nomatch z),q2⟩
  |false=>
   rw[e,if_neg (by decide)] at h3;cases h3;exact ⟨[],(λz=>nomatch z),(λ_=>⟨rfl,rfl⟩),rfl⟩
 obtain ⟨row,x1,x2,rfl⟩:=hx;refine ⟨k,ns,row,rfl,?_⟩
 match k,hk with
 |0,_=>obtain ⟨x,y,z,rfl⟩:=NQ hl;obtain rfl:=x1 rfl;exact good0 ha
 |1,_=>obtain ⟨x,y,rfl⟩:=Cc hl;obtain rfl:=x1 rfl;exact Vo ha
 |2,_=>obtain ⟨x,rfl⟩:=Cd hl;obtain rfl:=x1 rfl;exact good2 ha
 |3,_=>obtain ⟨x,y,rfl⟩:=Cc hl;obtain rfl:=x1 rfl;exact good3 ha
 |4,_=>obtain ⟨x,rfl⟩:=Cd hl;obtain ⟨rfl,rfl⟩:=x2 rfl;exact Vn ha
 |5,_=>obtain ⟨x,rfl⟩:=Cd hl;obtain ⟨rfl,rfl⟩:=x2 rfl;exact Vm ha
 |6,_=>obtain ⟨x,rfl⟩:=Cd hl;obtain rfl:=x1 rfl;exact Vl ha
 |7,_=>obtain ⟨x,y,rfl⟩:=Cc hl;obtain ⟨rfl,rfl⟩:=x2 rfl;exact Vk ha
 |8,_=>obtain ⟨x,y,z,rfl⟩:=NQ hl;obtain ⟨rfl,rfl⟩:=x2 rfl;exact Vj ha
 |9,_=>obtain ⟨x,y,rfl⟩:=Cc hl;obtain ⟨rfl,rfl⟩:=x2 rfl;exact Vi ha
 |10,_=>obtain rfl:=nq hl;obtain ⟨rfl,rfl⟩:=x2 rfl;exact Rp
 |11,_=>obtain rfl:=nq hl;obtain ⟨rfl,rfl⟩:=x2 rfl;exact Ro
 |12,_=>obtain rfl:=nq hl;obtain rfl:=x1 rfl;exact Rn ha
theorem Fd:∀(f:Nat) (b:Bool) (S:cR) (l:List Int) (cs:List (List (List Int))),uL ju f l=some cs->(cs.all λc=>asked1 (iw c))=true->
  (b=false->∀c∈cs.head?,(((iw c).headD []).headD 9=0/\(step S (iw c)).1≠none))->
  Runs b S l cs.length (Dd (Af step S (cs.map iw)))
 |f,b,S,[],cs,h,_,_=>by
  have:cs=[]:=by
   cases f<;>cases h<;>rfl
  subst this;exact .nil
 |0,b,S,p::r,cs,h,_,_=>nomatch h
 |f+1,b,S,p::r,cs,h,ha,hb=>by
  have h:(match sN ju (p::r) with
   |none=>none
   |some (c,t)=>match uL ju f t with
    |none=>none
    |some cs=>some (c::cs))=some cs:=h
  cases e:sN ju (p::r) with
  |none=>rw[e] at h;cases h
  |some q=>
   obtain ⟨c,t⟩:=q;rw[e] at h;dsimp only at h;cases e2:uL ju f t with
   |none=>rw[e2] at h;cases h
   |some Z3=>
    rw[e2] at h;cases h;rw[List.all_cons,aC] at ha;obtain ⟨k,ns,row,e3,g1,g2,g3,g4⟩:=Kh e ha.1;rw[e3];have ih:=Fd f true (jl S k ns row).1 t Z3 e2 ha.2 (λz=>nomatch z);have:=Runs.cons (b:=b) (S:=S) g1 (λz=>?_) g2 ih
    ·have e4:Dd (Af step S ((c::Z3).map iw))=((jl S k ns row).2.length:Int)::((jl S k ns row).2++Dd (Af step (jl S k ns row).1 (Z3.map iw))):=by
      rw[<-g3];rfl
     rw[e4];exact this
    ·obtain ⟨q1,q2⟩:=hb z c rfl;rw[g3] at q2;rw[g4] at q1;exact ⟨by omega,q2⟩
theorem Nd{l:List Int}(h:mR l=true):∃n,n<=100/\Runs false none l n (sM l):=by
 unfold mR at h;unfold sM;unfold PyKg46.calls at h⊢;cases e:uL ju l.length l with
 |none=>rw[e] at h;cases h
 |some cs=>
  rw[e] at h;dsimp only at h⊢;rw[aC] at h;obtain ⟨h1,h2⟩:=h;unfold PyFlat.atMost at h1;have h1:=of_decide_eq_true h1;rw[aj] at h1;unfold Kg46Neutral.asked at h2;simp only[aC] at h2;obtain ⟨_,_,h3,h4⟩:=h2;rw[List.all_map] at h3;refine ⟨cs.length,h1,Fd _ _ _ _ _ e h3 λ_ c hc=>?_⟩;cases cs with
  |nil=>cases hc
  |cons c' cs=>
   cases hc;have h4:(((iw c).headD []).headD 9==0&&(step none (iw c)).2.getLast?==some 0&&((step none (iw c)).1).isSome)=true:=h4;simp only[aC] at h4;obtain ⟨⟨q1,_⟩,q3⟩:=h4;refine ⟨by simpa using q1,λz=>?_⟩;rw[z] at q3;cases q3
end Rm
namespace Rm
open PySem PySem.W
abbrev DI:OpenSpec:=PySem.Challenge.rw_roomhouse_s01_answers
theorem Fg{r:OpenSpec}{as:List WData}(h:r.pre as=true):∃a,Codec.decAll r.args as=some a/\Codec.app r.args r.asked a=true:=by
 unfold OpenSpec.pre at h;split at h
 ·rename_i a e;exact ⟨a,e,h⟩
 ·cases h
theorem J6{r:OpenSpec}{as:List WData}{d:WData}{a:Codec.denoteAll r.args}(e:Codec.decAll r.args as=some a)(h:d=r.ret.enc (Codec.app r.args r.f a)):r.post as d=true:=by
 unfold OpenSpec.post;rw[e];exact same_iff.mpr h
theorem pre_of(as:List WData)(h:DI.pre as=true):∃ns:List Int,as=[.list (ns.map .int)]/\ns.length<=16000/\mR ns=true:=by
 obtain ⟨a,e,h'⟩:=Fg h;obtain ⟨e1,e2⟩:=Codec.encAll_of_decAll DI.args as a e;obtain ⟨ns,u⟩:=a;refine ⟨ns,e1,?_,h'⟩;have e2:(((decide (0<=ns.length)&&decide (ns.length<=16000))&&ns.all (Codec.within (.int (-9223372036854775808) 9223372036854775807)))&&true)=true:=e2;simp only[aC,decide_eq_true_eq] at e2;exact e2.1.1.2
theorem post_of(ns:List Int)(h:DI.pre [.list (ns.map .int)]=true):DI.post [.list (ns.map .int)] (.list ((sM ns).map .int))=true:=by
 obtain ⟨a,e,h'⟩:=Fg h;obtain ⟨e1,e2⟩:=Codec.encAll_of_decAll DI.args _ a e;obtain ⟨ms,u⟩:=a;have e1:[WData.list (ns.map .int)]=[WData.list (ms.map .int)]:=e1
 have e3:ns.map WData.int=ms.map WData.int:=by
  injection e1 with e1 _
  injection e1
 have e4:ns=ms:=(List.map_inj_right (λ_ _ h=>WData.int.inj h)).mp e3;subst e4;exact J6 e rfl
end Rm
namespace Rm
open PySem PySem.W L2
def vP:Option (Option Value)->Addr
 |some (some (.ref a))=>a
 |_=>0
def isRef:Option (Option Value)->Bool
 |some (some (.ref _))=>true
 |_=>false
theorem pP{v:Option (Option Value)}(h:isRef v=true):v=some (some (.ref (vP v))):=by
 unfold isRef at h;split at h
 ·rfl
 ·cases h
def Wb:Option (Option Value)->Bool
 |some none=>true
 |_=>false
theorem KY{v:Option (Option Value)}(h:Wb v=true):v=some none:=by
 unfold Wb at h;split at h
 ·rfl
 ·cases h
def wm(K:Frag)(f:Addr):FuncData:=match K.lookup f with
 |some ⟨_,_,.func fd,_⟩=>fd
 |_=>default
def Lv(K:Frag)(f:Addr):Bool:=match K.lookup f with
 |some ⟨_,_,.func _,_⟩=>true
 |_=>false
theorem Lu{K:Frag}{f:Addr}(h:Lv K f=true):∃oc od sl,K.lookup f=some ⟨oc,od,.func (wm K f),sl⟩:=by
 unfold Lv at h;split at h
 ·rename_i oc od fd sl e;refine ⟨oc,od,sl,?_⟩;unfold wm;rw[e]
 ·cases h
def LO(K:Frag)(k:Kl):Addr:=vP (nsIn K mainGlobals k.nm)
def yX(K:Frag)(d:Fn):Option (Option Value):=match d.own with
 |none=>nsIn K mainGlobals d.nm
 |some k=>findIn K (.ref (LO K k)) d.nm
def GU(K:Frag)(a:Addr):Option (List Value):=match K.lookup a with
 |some ⟨.type "tuple",_,.seq dN _,_⟩=>if dN.size<=sizeLine then some dN.toList else none
 |_=>none
theorem Aq{K:Frag}{a:Addr}{vs:List Value}{xs:List V}(h:GU K a=some vs)(r:Vals xs vs)(H:Hp):lW K H a xs:=by
 unfold GU at h;split at h
 ·rename_i dd dN n sl e;split at h
  ·cases h;exact .inr ⟨_,dN,n,e,rfl,rfl,by assumption,r⟩
  ·cases h
 ·cases h
def FY:List Int->List Value->Bool
 |[],[]=>true
 |n::ns,.int m _::vs=>n==m&&FY ns vs
 |_,_=>false
theorem yb:∀{ns:List Int} {vs:List Value},FY ns vs=true->Vals (ns.map V.int) vs
 |[],[],_=>.nil
 |n::ns,.int m t::vs,h=>by
  simp only[FY,aC,beq_iff_eq] at h;obtain ⟨rfl,h⟩:=h;exact .cons ⟨t,rfl⟩ (yb h)
def Ff(f:Nat->Addr):Nat->List Value->Bool
 |_,[]=>true
 |i,.ref a::vs=>f i==a&&Ff f (i+1) vs
 |_,_=>false
theorem xJ{f:Nat->Addr}:∀{vs:List Value} {i:Nat},Ff f i vs=true->Vals ((List.range' i vs.length).map λi=>V.ref (f i)) vs
 |[],_,_=>.nil
 |.ref a::vs,i,h=>by
  simp only[Ff,aC,beq_iff_eq] at h;obtain ⟨rfl,h⟩:=h;exact .cons rfl (xJ h)
def szA(K:Frag):Addr:=vP (nsIn K mainGlobals "SMALL_SIZES")
def ZT(K:Frag):Addr:=vP (nsIn K mainGlobals "FORMS")
def LD(K:Frag)(i:Nat):Addr:=match (GU K (ZT K)).bind λvs=>vs[i]? with
 |some (.ref a)=>a
 |_=>0
def LC(x:Int×Bool):List Value->Bool
 |[.int m _,.bool b]=>x.1==m&&x.2==b
 |_=>false
theorem Ej{x:Int×Bool}{vs:List Value}(h:LC x vs=true):Vals [.int x.1,.bl x.2] vs:=by
 unfold LC at h;split at h
 ·rename_i m t b;simp only[aC,beq_iff_eq] at h;obtain ⟨h1,h2⟩:=h;rw[h1,h2];exact .cons ⟨t,rfl⟩ (.cons rfl .nil)
 ·cases h
def adr(K:Frag):gI:=⟨λd=>vP (yX K d),λd=>wm K (vP (yX K d)),LO K,λe=>vP (nsIn K mainGlobals e.nm),szA K,ZT K,LD K⟩
def LX:List Kl:=[.eW,.bQ,.aM,.bD,.aD]
def Gw:List Xc:=[.b7,.dg,.tZ,.dO]
def RD(K:Frag)(d:Fn):Bool:=isRef (yX K d)&&(isFn K (.ref (vP (yX K d)))&&(keepIn K (.ref (vP (yX K d)))&&(Lv K (vP (yX K d))&&codeIn K (wm K (vP (yX K d))).code d.qual)))
def VC(K:Frag)(k:Kl):Bool:=isRef (nsIn K mainGlobals k.nm)&&(plainGet K (LO K k) Str.empty&&(hasDictIn K (LO K k)&&(plainOver K (LO K k)&&((match findIn K (.ref (LO K k)) "__setattr__" with
 |some (some (.builtin "object.__setattr__"))=>true
 |_=>false)&&(makesIn K (LO K k)&&(keepIn K (.ref (LO K k))&&(j9 k).all λf=>Wb (findIn K (.ref (LO K k)) f)))))))
def VB(K:Frag)(e:Xc):Bool:=isRef (nsIn K mainGlobals e.nm)&&(Rt K (vP (nsIn K mainGlobals e.nm))&&Gw.all λe'=>vP (nsIn K mainGlobals e.nm) !=vP (nsIn K mainGlobals e'.nm)||decide (e=e'))
def VA(K:Frag)(p:Str×Int):Bool:=match nsIn K mainGlobals p.1 with
 |some (some (.int n _))=>n==p.2
 |_=>false
def RH(K:Frag):Bool:=LX.all (VC K)&&Gw.all (VB K)
def RG(K:Frag):Bool:=consts.all (VA K)&&(["sorted","min","max","any","sum","len","range","list","tuple"]:List Str).all λx=>Wb (nsIn K mainGlobals x)
def RE(K:Frag):Bool:=isRef (nsIn K mainGlobals "SMALL_SIZES")&&(isRef (nsIn K mainGlobals "FORMS")&&((match GU K (szA K) with
 |some vs=>FY aV vs
 |none=>false)&&((match GU K (ZT K) with
 |some vs=>vs.length==13&&Ff (LD K) 0 vs
 |none=>false)&&(bX 13).all λi=>(match GU K (LD K i),sZ[i]? with
 |some vs,some x=>LC x vs
 |_,_=>false))))
theorem Iv(k:Kl):k∈LX:=by cases k<;>simp [LX]
theorem Ab(e:Xc):e∈Gw:=by cases e<;>simp [Gw]
def FdEq(K:Frag)(d:Fn):Prop:=wm K (vP (yX K d))=fnOf d.nm d.qual (A1 d.st) (oE d.st) (aY d.st) .none (wm K (vP (yX K d))).kwdefaults (wm K (vP (yX K d))).doc (wm K (vP (yX K d))).pyModule (wm K (vP (yX K d))).annotations (wm K (vP (yX K d))).code (wm K (vP (yX K d))).closureTuple
theorem QJ(d:Fn)(h:d.Yt=true):d.nm="__init__":=by
 cases d<;>first|rfl|cases h
theorem lookup_mem{x:Str}{n:Int}:∀{l:List (Str×Int)},l.lookup x=some n->(x,n)∈l
 |(y,m)::l,h=>by
  rw[iK] at h;split at h
  ·rename_i e;cases h;have:x=y:=by simpa using e
   subst this;exact aJ
  ·exact aB _ (lookup_mem h)
theorem u1{l:List Value}(h:l.length=1):∃a,l=[a]:=by
 match l,h with
 |[a],_=>exact ⟨a,rfl⟩
theorem u2{l:List Value}(h:l.length=2):∃a b,l=[a,b]:=by
 match l,h with
 |[a,b],_=>exact ⟨a,b,rfl⟩
theorem u3{l:List Value}(h:l.length=3):∃a b c,l=[a,b,c]:=by
 match l,h with
 |[a,b,c],_=>exact ⟨a,b,c,rfl⟩
theorem u4{l:List Value}(h:l.length=4):∃a b c d,l=[a,b,c,d]:=by
 match l,h with
 |[a,b,c,d],_=>exact ⟨a,b,c,d,rfl⟩
theorem u5{l:List Value}(h:l.length=5):∃a b c d e,l=[a,b,c,d,e]:=by
 match l,h with
 |[a,b,c,d,e],_=>exact ⟨a,b,c,d,e,rfl⟩
theorem O8{K:Frag}{h:Heap}{mg:Str->Option Value}(X:K.In h)(G:h.Ns mainGlobals mg)(c1:∀d,RD K d=true)(c2:RH K=true)(c3:RG K=true)(c4:RE K=true)(fe:∀d,FdEq K d):Txt (adr K) K mg:=by
 have c1:∀d,_:=λd=>by
  have:=c1 d;unfold RD at this;simp only[aC] at this;exact this
 unfold RH at c2;rw[aC,fh,fh] at c2;obtain ⟨c2,cx⟩:=c2
 have c2:∀k,_:=λk=>by
  have:=c2 k (Iv k);unfold VC at this;simp only[aC,fh] at this;exact this
 have cx:∀e,_:=λe=>by
  have:=cx e (Ab e);unfold VB at this;simp only[aC,fh] at this;exact this
 unfold RG at c3;rw[aC,fh,fh] at c3;obtain ⟨c3,cn⟩:=c3;have cn:∀x∈(["sorted","min","max","any","sum","len","range","list","tuple"]:List Str),mg x=none:=λx hx=>mg_none_of X G (KY (cn x hx));unfold RE at c4;simp only[aC,fh] at c4;obtain ⟨d1,d2,d3,d4,d5⟩:=c4
 have fn:∀d:Fn,Iw K d.nm d.qual d.st (vP (yX K d)) (wm K (vP (yX K d))):=λd=>by
  obtain ⟨q1,q2,q3,q4,q5⟩:=c1 d;obtain ⟨oc,od,sl,e⟩:=Lu q4;exact ⟨⟨oc,od,_,_,_,_,_,_,sl,fe d,e,q5⟩,q3⟩
 have own:∀(d:Fn) k,d.own=some k->findIn K (.ref (LO K k)) d.nm=some (some (.ref (vP (yX K d)))):=λd k e=>by
  have:=pP (c1 d).1;have e2:yX K d=findIn K (.ref (LO K k)) d.nm:=by unfold yX;rw[e]
  rw[<-e2];exact this
 refine ⟨fn,λd=>?_,λd e=>?_,λd k e _=>⟨own d k e,(c1 d).2.1,(c1 d).2.2.1⟩,λd k e i=>⟨(c2 k).2.2.2.2.2.1,?_,(c1 d).2.1,(c2 k).2.2.2.2.2.2.1⟩,λk=>⟨(c2 k).2.1,(c2 k).2.2.1,(c2 k).2.2.2.1,?_⟩,λk=>mg_of X G (pP (c2 k).1),λk f hf=>KY ((c2 k).2.2.2.2.2.2.2 f hf),λe=>Ru (cx e).2.1,λe=>mg_of X G (pP (cx e).1),λe e' q=>?_,λx n q=>?_,?_,cn _ (by simp),mg_of X G (pP d1),λH=>?_,mg_of X G (pP d2),λH=>?_,λH i x hx=>?_⟩
 ·have F:=fn d
  cases d<;>exact F.binds λ_ _ _ _ _ _ us hl=>by
   first
    |(obtain ⟨a,rfl⟩:=u1 hl;rfl)
    |(obtain ⟨a,b,rfl⟩:=u2 hl;rfl)
    |(obtain ⟨a,b,c,rfl⟩:=u3 hl;rfl)
    |(obtain ⟨a,b,c,d,rfl⟩:=u4 hl;rfl)
    |(obtain ⟨a,b,c,d,e,rfl⟩:=u5 hl;rfl)
 ·have:=pP (c1 d).1;have e2:yX K d=nsIn K mainGlobals d.nm:=by unfold yX;rw[e]
  exact mg_of X G (e2.symm.trans this)
 ·have:=own d k e;rw[QJ d i] at this;exact this
 ·have:=(c2 k).2.2.2.2.1;split at this
  ·assumption
  ·cases this
 ·have:=(cx e).2.2 e' (Ab e');rw[gv] at this;rcases this with z|z
  ·have q:vP (nsIn K mainGlobals e.nm)=vP (nsIn K mainGlobals e'.nm):=q;rw[q] at z;simp at z
  ·exact of_decide_eq_true z
 ·have:=c3 _ (lookup_mem q);unfold VA at this;split at this
  ·rename_i m t e;have:m=n:=by simpa using this
   subst this;exact ⟨_,mg_of X G e,t,rfl⟩
  ·cases this
 ·exact ⟨cn _ (by simp),cn _ (by simp),cn _ (by simp),cn _ (by simp),cn _ (by simp),cn _ (by simp),cn _ (by simp),cn _ (by simp)⟩
 ·split at d3
  ·rename_i vs e;exact Aq e (yb d3) H
  ·cases d3
 ·split at d4
  ·rename_i vs e;rw[aC] at d4;have hl:vs.length=13:=by simpa using d4.1
   have:=xJ d4.2;rw[hl,<-List.range_eq_range'] at this;exact Aq e this H
  ·cases d4
 ·have hi:i<13:=(bR.mp hx).1;have:=d5 i (e9.mpr hi);rw[hx] at this;split at this
  ·rename_i vs x' e1 e2;cases e2;exact Aq e1 (Ej this) H
  ·cases this
theorem walk_all{q:Program}{loose:List Str}{XP:(Str->Option Value)->Heap->Prop}{YP:World->Heap->Prop}{d:DefRec}{K:Params->Frag}(Zv:d.params.defaults=[])(hdn:d.name="answers")
  (hY:∀(w:World) (h:Heap),YP w h->(K w.params).In h)
  (c1:∀p d,RD (K p) d=true) (c2:∀p,RH (K p)=true) (c3:∀p,RG (K p)=true) (c4:∀p,RE (K p)=true) (fe:∀p d,FdEq (K p) d):
  WalkOS q loose XP YP DI d [] (λf vs=>PySem.call f vs):=by
 refine L2.GO (n:=16000) (k:=14) (x:="calls") (CX:=λw=>l8 DI.prog w) (sp:=λw=>OF (K w.params)) (Ma:=λns=>mR ns=true/\ns.length<=16000) (f:=sM)
  (λas h=>?_) post_of (by decide) Zv ⟨rfl,by decide,by decide⟩ hY (λw mg fa h X G e=>?_) (λw H a ns hA _ hS=>?_) (λw H s e s' z=>?_)
 ·obtain ⟨ns,h1,h2,h3⟩:=pre_of as h;exact ⟨ns,h1,h2,h3,h2⟩
 ·have T:=O8 X G (c1 _) (c2 _) (c3 _) (c4 _) (fe _);rw[hdn] at e;have e2:=e.symm.trans (T.o_ .i0 rfl)
  have e3:fa=(adr (K w.params)).f .i0:=by
   injection e2 with e2
   injection e2
  subst e3;refine ⟨(adr (K w.params)).fd .i0,λs u=>?_,λbase _ _=>DX T⟩;obtain ⟨oc,od,kV,doc,pm,an,gX,ct,Qp,r,_⟩:=(T.fn .i0).ex;rw[r];exact .of_eq rfl
 ·obtain ⟨n,hn,hr⟩:=Nd hA.1;exact ⟨a,ns,_,n,rfl,hS,hr,hn,hA.2,λH' r h=>⟨r,rfl,h⟩⟩
 ·obtain ⟨_,_,_,_,_,_,_,_,_,_,_,_,_,z⟩:=z;exact z
end Rm
open PySem PySem.W PyProof.Rows
set_option maxRecDepth 100000 in
set_option maxHeartbeats 0 in
theorem PySem.Challenge.cw_roomhouse_s01_answers_holds : PySem.Challenge.rw_roomhouse_s01_answers.Holds := by
  w_on; k_headS
  (case hw => exact ⟨[.list [.int 0, .int 1, .int 1, .int 0, .int 0]], by decide +kernel, by decide +kernel⟩)
  refine Rm.walk_all rfl rfl (fun w h Y => PySem.W.kIn_of Y) (fun p d => ?_) (fun p => ?_) (fun p => ?_) (fun p => ?_) (fun p d => ?_)
  · cases d <;> kernel_rfl
  · kernel_rfl
  · kernel_rfl
  · kernel_rfl
  · unfold Rm.FdEq
    cases d <;> kernel_rfl
#print axioms PySem.Challenge.cw_roomhouse_s01_answers_holds
