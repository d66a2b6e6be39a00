import PyProof.Rows.All
import Wide.All
import OpenK.AllK
import Wide.FinOn
import PyProof.EqAt
import PyProof.EqKinds
import PyProof.TupleCall
import KE.BitLaws
import KE.KTupSum
import KE.KDictSum
import KE.KSortTupG
import Open.SpecLaws
import KE.OsHead
import KE.OsGo
import KE.KLam
import KE.KSortKeyAny
import PyProof.ZipIter
import KE.KNest
import PyProof.P3In
import PySem.Challenge.RW_glasscartoons_s08_turn
set_option Elab.async false
set_option linter.all false
set_option maxRecDepth 100000
open List renaming length_map->aaA,getElem?_eq_some_iff->aaB,getElem?_eq_getElem->aaE,mem_cons->aaG,getElem?_map->aaH,mem_of_getElem?->aaJ,length_append->aaM,mem_map->aaN,size_toArray->aaP,range->aaT,map_append->aaU,length_cons->aaZ,map_cons->abE,mem_singleton->abF,mem_append->abH,length_take->abJ,getD_eq_getElem?_getD->abN,mem_cons_of_mem->abP,nodup_iff_pairwise_ne->abQ,nodup_cons->abR,mem_range->abT,mem_iff_getElem->abX,take_length->acA,map_map->acC,length_range->acK,getElem?_append_left->acL,pairwise_cons->acP,mem_append_right->acV,lookup_cons->acW,getElem_mem->acX,mem_cons_self->adB,mem_flatMap->adG,mem_filter->adJ,getElem?_range->adK,pairwise_map->adL,find?_eq_none->adN,length_nil->adO,cons_append->adP,idxOf_lt_length_of_mem->adS,lookup->adW,foldl_cons->aeC,append_nil->aeD,zip_cons_cons->aeF,getElem_range->aeG,getElem_map->aeI,any_eq_true->aeJ,nodup_append->aeM,append_assoc->aeN,flatMap_append->aeO,take_of_length_le->aeP,mem_iff_getElem?->aeR,length_replicate->aeS,length_filter_le->aeT,contains_iff_mem->aeU,pairwise_iff_getElem->afA,mem_of_mem_take->afF,range_succ->afG,length->afK,length_drop->afO,mem_filterMap->afP,dropLast_concat_getLast->afQ,take_append_drop->afW,find?_cons->afX,any_eq_false->agA,getElem?_append_right->agB,getElem?_set_ne->agC,mem_take_iff_getElem->agH,all_eq_true->agI,filterMap_cons->agL,map_nil->agM,getElem?_replicate->agR,range_succ_eq_map->agX,pairwise_lt_range->agY,getElem?_set_self->agZ,find?_eq_some_iff_getElem->ahD,pairwise_append->ahL,reverse_append->ahQ,length_reverse->ahR,mem_eraseDups->ahY,getElem_idxOf->ahZ,reverse_cons->aiI,flatMap_cons->aiJ,length_eq_zero_iff->aiN,countP_cons_of_pos->aiO,countP_cons_of_neg->aiP,mem_reverse->aiR,getElem_inj->aiS,ext_getElem->aiT,drop_length->aiU,nil_append->ajF,getElem?_eq_none->ajG,forIn_nil->ajR,mem_map_of_mem->ajV,map_congr_left->ajW,zip_nil_right->akF,getElem?_drop->akG,filter_append->akH,zip_nil_left->akL,getElem_take->akM,getElem_drop->akN,getLast_mem->akS,mem_zipIdx_iff_getElem?->alC,of_mem_zip->alK,length_set->alL,forIn_cons->alM,foldr_cons->alN,perm_ext_iff_of_nodup->alY,replicate->amH,getElem_append_right->amI,getElem?_zip_eq_some->amJ,drop_eq_getElem_cons->amK,getElem_append_left->amO,sum_cons->amS,filter_cons_of_pos->amT,filter_cons_of_neg->amU,any_cons->amV,countP_le_length->anK,reverse_reverse->anV,mem_append_left->anW,getElem_zipIdx->aoC,drop_succ_cons->aoD
open PySem renaming wpAny_bind->aaC,Value->aaF,Shared->aaI,wpAny_pure->aaL,mainGlobals->aaV,FuncData->aaX,sizeLine->abB,starEach->abL,wpAny->abM,Program->abS,boot_len->acB,mem_of_lookup->acI,Around->adE,World->adI,Expr->adX,wpAny_mono->aeE,Stmt->afD,backTo->afI,NameKind->afJ,codeAny_mono->agU,bootBuiltins->ahN,Arguments->aiH,swapsWith->ajB,builtinsNs->akB,wpAny_call->alS,codeAny->amZ,Within->anB
open PySem.Heap renaming get?_push_of_some->aaD,get?_push_size->aaO,lt_size->aaS,size_push->acQ,get?_update_ne->ahS,SameBut->aiA,ExtBut->alO,get?_update_self->anL
open Nat renaming le_refl->aaK,le_trans->abI,zero_le->abO,lt_of_lt_of_le->abV,lt_of_le_of_lt->abY,lt_trichotomy->acE,ne_of_lt->acJ,lt_or_ge->acS,eq_or_lt_of_le->adV,lt_irrefl->adZ,le_of_eq->aeL,le_of_lt->aeW,lt_succ_of_lt->ahA,zero_add->ahE,ne_of_gt->ahF,add_comm->ahG,lt_succ_self->ahK,le_of_succ_le->aiK,min_eq_left->ajI,mul_add->ajY,min_le_right->alA,max_eq_right->alB,lt_trans->anU
open PySem.PassesOwn renaming never->aaQ
open PySem.Value renaming ref->aaR,none->afE,int->afM,type->aiE,bool->amC,str->anA,notImplemented->anJ
open Gla renaming num->aaW,parts->acD,firstAt->acR,ptPlace->acY,within->adM,linePlace->aeA,judgePlan->aeB,edgePts->aeK,lineBelow->aeY,touches->afC,markPlace->afN,turn->afT,frameOk->agN,firstBad->agO,markBelow->agT,chained->ahB,seenFrom->ahH,noneSeen->ahI,numLe->ahV,isOn->aiC,cuts->aiD,twice->aiL,onLines->aiV,inOrder->aiW,turnPlan->ajJ,MAGIC->ajK,crosses->akA,twiceArea->akJ,clear->akK,SMALLEST->akU,LARGEST->alZ,ways->anE,putIn->anX,insideOf->anY
open PySem.Str renaming ofString->aaY
open PySem.W renaming Frag->abA,findIn->afB,keepIn->agE,emptyDict->agP,nsIn->agQ,instObj->aiQ,mg_of->ajN,callWith_K->ajO,CodeHd->ajT,fnOf->akC,codeIn->akQ,plainGet->akY,hasDictIn->amM,plainGet_of->anQ,length_le_weightAllW->aoB
open Int renaming lt_trichotomy->abC,lt_or_le->abW,mul_nonpos_of_nonpos_of_nonneg->acO,mul_nonpos_of_nonneg_of_nonpos->adA,mul_nonneg_of_nonpos_of_nonpos->adQ,mul_nonneg->adT,toNat_natCast->afH,mul_comm->afL,natCast_mul->agS,natCast_add->ahT,mul_eq_zero->ahU,mul_pos_of_neg_of_neg->amP,mul_neg_of_pos_of_neg->amQ,mul_neg_of_neg_of_pos->amR
open Option.some renaming inj->abD,injEq->ahP
open Bool renaming false_ne_true->abG,noConfusion->abU,eq_false_iff->abZ,and_eq_true->acH,eq_iff_iff->adC,false_eq_true->aeV,or_eq_false_iff->agD,false_and->ajS,not_true->akI,false_or->amX,and_eq_false_iff->anP,and_eq_true_iff->anZ
open PySem.F renaming plainAttrs_list->abK,type_list_append->acF,slot_list_append->acG,slot_dict_keyiterator_next->adR,slot_tuple_iterator_next->aeQ,type_list_extend->agF,slot_list_extend->agG,slot_zip_next->agW,args_tuple_iterator_next_1->ajL,entry_tuple_iterator_next->ajQ,slot_list_insert->alH,args_tuple_add_2->alI,args_dict_keyiterator_next_1->alP,plain_list_iadd->alU,entry_tuple_add->alV,args_zip_next_1->alW,entry_dict_keyiterator_next->amA,slot_tuple_add->amE,entry_zip_next->amF,slot_dict_keyiterator_iter->amL
open False renaming elim->acM
open Array renaming getD_eq_getD_getElem?->acN,getElem?_eq_getElem->aeZ,getElem?_toList->afU,length_toList->agJ,getElem?_eq_none->aiY,contains_iff_mem->aiZ,perm_iff_toList_perm->alR,toList->anF,toList_append->aoA,forIn_toList->aoG
open Classical renaming byContradiction->acT,choose_spec->amB,choose->anN
open Ne renaming symm->acU
open PySem.Obj renaming mapSeq->acZ,data_mapFields->aiB,isFreed_of_fields->anT
open Sum renaming inl->adD,inr->alT
open PyProof.Rows renaming seqObj->adF,callWith_type1->aeH,slot_tuple_getitem->agK,listUpdate_at->akX,AllBare->anI
open PySem.Builtin.SmallTypes renaming nextOf->adH,ownedTupleIsFree->adY,ownedTupleHandOut->ahW
open PySem.Heap.SameBut renaming update->adU
open List.cons renaming injEq->aeX
open PySem.Builtin.Slice renaming slicePlaces->afR,sliceAdjust->ahJ,sliceApplied->ajX
open Option renaming map_none->afS,map_some->ajA,none->ajM,isSome_map->akE,isSome_iff_exists->alX,map_eq_none_iff->amN,isSome_some->anS
open PlanNeutral renaming told->afV,bytes->ajH,bytesN->amG,nat->anC
open List.Pairwise renaming imp_of_mem->afY,filter->aiG
open PySem.Builtin.Tuple renaming tupleExact->afZ,tupleCompareSizes->ajE
open PySem.PyData renaming canLayAll0->agV,eqv->akD
open PySem.NameKind renaming free->ahC,cell->alJ
open PySem.Builtin.List renaming listTooLong->ahM
open True renaming intro->ahO
open Prod renaming ext->ahX
open Prod.mk renaming injEq->aiF
open ForInStep renaming yield->aiM
open PySem.Builtin.Dict_items renaming ownsTuple->aiX
open PySem.W.WData renaming weightAll->ajC
open PySem.W.Codec renaming encAll->ajD,inInt_iff->alD,denoteAll->alE
open UInt8 renaming ofNat->ajP
open PySem.Paired renaming length->ajU
open GlaPlans renaming one->ajZ,answer->akO,BYTES->akT,Answer->aoE
open Gla.Plan renaming pt->akP,drawn->akV,joined->aoF
open Sum.inl renaming inj->akR
open PySem.Builtin.Dict renaming showsAll->akW
open Or renaming inl->akZ,inr->anD
open PySem.Builtin renaming bitAnd->alF
open PySem.AutoSeq1 renaming sub_tuple_tuple->alG
open PySem.Calls renaming Name_function_global->alQ,callWith_builtin->amW,evalArgs_plain->anO
open PyProof.Rows.G.TupsOf renaming length->amD
open PySem.Around renaming under->amY,under_plainId->anG,frames_deeper->anH
open PySem.Code renaming isFrame->anM
open PySem.Value.type renaming inj->anR
noncomputable section
theorem ifn {c:Prop}{h:Decidable c}(n:¬c){α:Sort _}{t e:α}:ite c t e=e:=if_neg n
theorem ifp {c:Prop}{h:Decidable c}(n:c){α:Sort _}{t e:α}:ite c t e=t:=if_pos n
theorem dtt {p:Prop}[Decidable p]:(decide p=true)=p:=decide_eq_true_eq
theorem dff {p:Prop}[h:Decidable p]:¬p->decide p=false:=decide_eq_false
theorem dft {p:Prop}[h:Decidable p]:p->decide p=true:=decide_eq_true
theorem szN {n:Nat}(h:n<=500000):n<PySem.sizeLine:=abY h (by decide)
section
namespace L2
open PySem PySem.Spec PyProof.Rows
abbrev Key:=Sum Int Str
def Aoo:Key->aaF->Bool
 | .inl k,v=>Value.isInt k v
 | .inr x,v=>Value.isStrOf x v
def Beu (w:adI):Key->Int
 | .inl k=>hashInt k
 | .inr x=>hashStr w x
theorem Ab5:∀{k:Key} {v:aaF},Aoo k v=true->(∃i t,k=adD i/\v=afM i t)\/(∃x t,k=alT x/\v=anA x t)
 | .inl i,v,h=>by
  obtain⟨t,e⟩:=Value.isInt_shape (k:=i) (v:=v) h;exact .inl ⟨i,t,rfl,e⟩
 | .inr x,v,h=>by
  obtain⟨t,e⟩:=Value.isStrOf_shape (x:=x) (v:=v) h;exact .inr ⟨x,t,rfl,e⟩
theorem Arg (i:Int)(t:Tok):Aoo (.inl i) (.int i t)=true:=by simp[Aoo,Value.isInt]
theorem Arf (x:Str)(t:Tok):Aoo (.inr x) (.str x t)=true:=by simp[Aoo,Value.isStrOf]
theorem Bb4 (a b:Int):decide ((adD a:Key)=adD b)=(a==b):=by
 by_cases e:a=b
 ·subst e;simp
 ·have h:¬(adD a:Key)=adD b:=fun q=>e (akR q);rw[dff h];exact(beq_eq_false_iff_ne.mpr e).symm
theorem Bb1 (a b:Str):decide ((alT a:Key)=alT b)=decide (a=b):=by
 by_cases e:a=b
 ·subst e;simp
 ·have h:¬(alT a:Key)=alT b:=fun q=>e (Sum.inr.inj q);rw[dff h,dff e]
theorem Bb3 (a:Int)(b:Str):decide ((adD a:Key)=alT b)=false:=dff (fun q=>nomatch q)
theorem Bb2 (a:Str)(b:Int):decide ((alT a:Key)=adD b)=false:=dff (fun q=>nomatch q)
def Abg (prog:abS)(w:adI):PySem.KeyKind prog w Key where
 is:=Aoo
 hash:=Beu w
 inj:=fun v a b ha hb=>by
  rcases Ab5 ha with ⟨i,t,rfl,rfl⟩ | ⟨x,t,rfl,rfl⟩
  ·rcases Ab5 hb with ⟨j,u,rfl,e⟩ | ⟨y,u,rfl,e⟩
   ·injection e with e1 _;rw[e1]
   ·exact nomatch e
  ·rcases Ab5 hb with ⟨j,u,rfl,e⟩ | ⟨y,u,rfl,e⟩
   ·exact nomatch e
   ·injection e with e1 _;rw[e1]
 byValue:=fun k v h=>by
  rcases Ab5 h with ⟨i,t,rfl,rfl⟩ | ⟨x,t,rfl,rfl⟩<;>rfl
 pyHash:=fun hv h=>by
  rcases Ab5 hv with ⟨i,t,rfl,rfl⟩ | ⟨x,t,rfl,rfl⟩
  ·exact wpAny_pyHash_int h
  ·exact wpAny_pyHash_str h
 eqBool:=fun hu hv h=>by
  rcases Ab5 hu with ⟨i,t,rfl,rfl⟩ | ⟨x,t,rfl,rfl⟩
  ·rcases Ab5 hv with ⟨j,u,rfl,rfl⟩ | ⟨y,u,rfl,rfl⟩
   ·rw[Bb4]at h;exact wpAny_eqBool_int h
   ·rw[Bb3]at h;exact SeqAt.EqAt.int_str i t y u _ _ _ _ h
  ·rcases Ab5 hv with ⟨j,u,rfl,rfl⟩ | ⟨y,u,rfl,rfl⟩
   ·rw[Bb2]at h;exact SeqAt.EqAt.str_int x t j u _ _ _ _ h
   ·rw[Bb1]at h;exact wpAny_eqBool_str h
 «strs»:=fun k x t v h=>by
  rcases Ab5 h with ⟨i,u,rfl,e⟩ | ⟨y,u,rfl,e⟩
  ·exact nomatch e
  ·injection e with e1 _
   subst e1;cases v<;>rfl
theorem Am7 (prog:abS)(w:adI)(i:Int)(t:Tok):(Abg prog w).is (.inl i) (.int i t)=true:=Arg i t
theorem Am6 (prog:abS)(w:adI)(x:Str)(t:Tok):(Abg prog w).is (.inr x) (.str x t)=true:=Arf x t
inductive V where
 | non | bl (b:Bool) | int (i:Int) | str (x:Str) | byt (b:Array UInt8) | flt (b:UInt64) | ref (a:Addr) | ty (n:String)
 deriving DecidableEq
def RelV:V->aaF->Prop
 | .non,u=>u=afE
 | .bl b,u=>u=amC b
 | .int i,u=>∃t,u=afM i t
 | .str x,u=>∃t,u=anA x t
 | .byt b,u=>∃t,u=Value.bytes b t
 | .flt b,u=>∃t,u=Value.float b t
 | .ref a,u=>u=aaR a
 | .ty n,u=>u=aiE n
abbrev Vals:List V->List aaF->Prop:=Paired RelV
theorem Vals.length {xs:List V}{us:List aaF}(r:Vals xs us):xs.length=us.length:=ajU r
theorem Vals.get:∀{xs:List V} {us:List aaF} {i:Nat} {x:V},Vals xs us->xs[i]?=some x->∃u,us[i]?=some u/\RelV x u
 | _,_,_,_,.nil,e=>by simp at e
 | _,_,0,_,.cons r _,e=>by simp at e;subst e;exact⟨_,rfl,r⟩
 | _,_,i+1,x,.cons _ t,e=>by
  obtain⟨u,h1,h2⟩:=Vals.get (i:=i) (x:=x) t (by simpa using e);exact⟨u,by simpa using h1,h2⟩
theorem Vals.append:∀{xs ys:List V} {us ws:List aaF},Vals xs us->Vals ys ws->Vals (xs++ys) (us++ws)
 | _,_,_,_,.nil,s=>s
 | _,_,_,_,.cons r t,s=>.cons r (Vals.append t s)
theorem Vals.take:∀{xs:List V} {us:List aaF} (n:Nat),Vals xs us->Vals (xs.take n) (us.take n)
 | _,_,0,_=>.nil
 | _,_,_+1,.nil=>.nil
 | _,_,n+1,.cons r t=>.cons r (Vals.take n t)
theorem Vals.drop:∀{xs:List V} {us:List aaF} (n:Nat),Vals xs us->Vals (xs.drop n) (us.drop n)
 | _,_,0,r=>r
 | _,_,_+1,.nil=>.nil
 | _,_,n+1,.cons _ t=>Vals.drop n t
def RelO:Option V->Option aaF->Prop
 | some v,some u=>RelV v u
 | none,none=>True
 | _,_=>False
def KV {κ:Type}:List (κ×V)->List (κ×aaF)->Prop:=Paired fun(p:κ×V) (q:κ×aaF)=>p.1=q.1/\RelV p.2 q.2
def kV:Key->V
 | .inl i=>.int i
 | .inr x=>.str x
inductive HO where
 | lst (xs:List V)
 | tup (xs:List V)
 | dK (kvs:List (Key×V)) | dT (kvs:List (List Key×V))
 | set (S:Int->Bool) (n:Nat)
 | ins (C dx:Addr) (fs:List (Str×V))
 | own (x:Addr)
 | xd (fs:List (Str×V))
 | met (f x:Addr)
 | rng (lo hi:Int)
 | frz (o:Obj) (u:HO)
 | tbl (ps:Array aaF)
 | ext (φ:Heap->Prop)
abbrev Hp:=Addr->Option HO
def upd (H:Hp)(a:Addr)(o:HO):Hp:=fun b=>if b=a then some o else H b
theorem Aa1 {H:Hp}{a:Addr}{o:HO}:upd H a o a=some o:=by unfold upd;rw[ifp rfl]
theorem Aa5 {H:Hp}{a b:Addr}{o:HO}(h:b≠a):upd H a o b=H b:=by unfold upd;rw[ifn h]
theorem Aw7 {H:Hp}{a:Addr}{o u:HO}:upd (upd H a o) a u=upd H a u:=by
 funext b;unfold upd;split<;>rfl
theorem Ac2 {H:Hp}{a b:Addr}{o u:HO}(h:H a=some o)(h':H b=some u)(d:o≠u):a≠b:=by
 intro e;subst e;rw[h]at h';exact d (abD h')
theorem Aa8 {H:Hp}{a b:Addr}{o:HO}(h:H a=some o)(h':H b=none):a≠b:=by
 intro e;subst e;rw[h]at h';cases h'
section
variable (P:abS)(w:adI)
def ObjOk (H:Hp)(h:Heap)(a:Addr):HO->Prop
 | .lst xs=>xs.length<=abB/\∃(its:List aaF) (n:Nat),Vals xs its/\h.get? a=some { cls:=.type "list",data:=.seq its.toArray n }
 | .tup xs=>xs.length<=abB/\∃its:List aaF,Vals xs its/\IsTup h a its.toArray
 | .dK kvs=>kvs.length<=abB/\(a==sysModules)=false/\∃vs,KV kvs vs/\h.DictOf (Abg P w) a vs
 | .dT kvs=>kvs.length<=abB/\(a==sysModules)=false/\∃xs:List (List Key×Addr×aaF),
  Paired (fun(p:List Key×V) (q:List Key×Addr×aaF)=>p.1=q.1/\H q.2.1=some (.tup (p.1.map kV))/\RelV p.2 q.2.2) kvs xs/\
  ∃o es ep,h.get? a=some o/\o.ExactDict/\o.data=.dict es ep/\es.toList=xs.map (entryOfKey (tupleKind (Abg P w)))/\(xs.map (·.1)).Nodup
 | .set S n=>h.SetOf (intKind P w) a S n
 | .ins C dx fs=>H dx=some (.own a)/\fs.length<=1000/\dx≠a/\h.get? a=some (aiQ C dx)/\
  ∃mA,h.Ns1 dx mA/\(∀f,RelO (fs.lookup f) (mA f))/\anB mA (fs.map (·.1))
 | .own _=>∃o,h.get? a=some o
 | .xd fs=>∃mA,h.Ns1 a mA/\∀f,RelO (fs.lookup f) (mA f)
 | .rng lo hi=>∃t u v,h.get? a=some { cls:=.type "range",data:=.fields #[.int lo t,.int hi u,.int 1 v] }
 | .frz o u=>h.get? a=some o/\ObjOk H h a u
 | .tbl ps=>h.get? a=some { cls:=.none,data:=.fields ps }
 | .met f x=>h.get? a=some (W.methodObj (.ref f) (.ref x))
 | .ext φ=>φ h/\(∃o,h.get? a=some o)/\∀h1 h2:Heap,φ h1->(∀o,h1.get? a=some o->h2.get? a=some o)->φ h2
def HOk (H:Hp)(h:Heap):Prop:=∀a o,H a=some o->ObjOk P w H h a o
end
section
variable {P:abS}{w:adI}{H H':Hp}{h h':Heap}{a:Addr}{o:HO}
theorem ObjOk.lt (x:ObjOk P w H h a o):a<h.objs.size:=by
 cases o with
 | lst xs=>obtain⟨_,_,_,_,e⟩:=x;exact aaS e
 | tup xs=>obtain⟨_,_,_,p⟩:=x;exact p.lt
 | dK kvs=>obtain⟨_,_,_,_,o,_,_,e,_⟩:=x;exact aaS e
 | dT kvs=>obtain⟨_,_,_,_,o,_,_,e,_⟩:=x;exact aaS e
 | set S n=>obtain⟨o,_,_,_,e,_⟩:=x;exact aaS e
 | ins C dx fs=>obtain⟨_,_,_,e,_⟩:=x;exact aaS e
 | own y=>obtain⟨_,e⟩:=x;exact aaS e
 | xd fs=>obtain⟨_,⟨_,_,_,e,_⟩,_⟩:=x;exact aaS e
 | rng lo hi=>obtain⟨_,_,_,e⟩:=x;exact aaS e
 | frz ob u=>obtain⟨e,_⟩:=x;exact aaS e
 | tbl ps=>exact aaS (show h.get? a=some _ from x)
 | met f y=>exact aaS (show h.get? a=some _ from x)
 | ext φ=>obtain⟨_,⟨_,e⟩,_⟩:=x;exact aaS e
theorem Paired.mapP {α β:Type}{F G:α->β->Prop}:∀{l₁:List α} {l₂:List β},Paired F l₁ l₂->(∀a b,F a b->G a b)->Paired G l₁ l₂
 | _,_,.nil,_=>.nil
 | _,_,.cons r t,f=>.cons (f _ _ r) (Paired.mapP t f)
theorem ObjOk.stay (x:ObjOk P w H h a o)(k:∀b u,(b=a\/H b=some (.own a))->h.get? b=some u->h'.get? b=some u)
 (ho:∀b,H b=some (.own a)->H' b=some (.own a)) (ht:∀b xs,H b=some (.tup xs)->H' b=some (.tup xs)):ObjOk P w H' h' a o:=by
 induction o with
 | lst xs=>obtain⟨z,its,n,r,e⟩:=x;exact⟨z,its,n,r,k _ _ (.inl rfl) e⟩
 | tup xs=>obtain⟨z,its,r,ob,e,c⟩:=x;exact⟨z,its,r,ob,k _ _ (.inl rfl) e,c⟩
 | dK kvs=>obtain⟨z,y,vs,r,ob,es,ep,e,c⟩:=x;exact⟨z,y,vs,r,ob,es,ep,k _ _ (.inl rfl) e,c⟩
 | dT kvs =>
  obtain⟨z,y,xs,r,ob,es,ep,e,c⟩:=x;exact⟨z,y,xs,Paired.mapP r fun p q z=>⟨z.1,ht _ _ z.2.1,z.2.2⟩,ob,es,ep,k _ _ (.inl rfl) e,c⟩
 | set S n=>obtain⟨ob,es,ep,t,e,c⟩:=x;exact⟨ob,es,ep,t,k _ _ (.inl rfl) e,c⟩
 | ins C dx fs =>
  obtain⟨d,z,ne,e,mA,⟨od,es,ep,e2,c⟩,r⟩:=x;exact⟨ho _ d,z,ne,k _ _ (.inl rfl) e,mA,⟨od,es,ep,k _ _ (.inr d) e2,c⟩,r⟩
 | own y=>obtain⟨ob,e⟩:=x;exact⟨ob,k _ _ (.inl rfl) e⟩
 | xd fs=>obtain⟨mA,⟨od,es,ep,e,c⟩,r⟩:=x;exact⟨mA,⟨od,es,ep,k _ _ (.inl rfl) e,c⟩,r⟩
 | rng lo hi=>obtain⟨t,u,v,e⟩:=x;exact⟨t,u,v,k _ _ (.inl rfl) e⟩
 | frz ob u ih=>obtain⟨e,q⟩:=x;exact⟨k _ _ (.inl rfl) e,ih q⟩
 | tbl ps =>
  have e:h.get? a=some { cls:=.none,data:=.fields ps }:=x;show h'.get? a=some { cls:=.none,data:=.fields ps };exact k a _ (.inl rfl) e
 | met f y =>
  have e:h.get? a=some (W.methodObj (.ref f) (.ref y)):=x;show h'.get? a=some (W.methodObj (.ref f) (.ref y));exact k a _ (.inl rfl) e
 | ext φ=>obtain⟨p,⟨o,e⟩,st⟩:=x;exact⟨st _ _ p fun o q=>k _ _ (.inl rfl) q,⟨o,k _ _ (.inl rfl) e⟩,st⟩
theorem HOk.lt (x:HOk P w H h)(e:H a=some o):a<h.objs.size:=(x a o e).lt
theorem HOk.fresh (x:HOk P w H h)(e:h.objs.size<=a):H a=none:=by
 cases q:H a with
 | none=>rfl
 | some u=>exact absurd (abV (x.lt q) e) (adZ _)
theorem HOk.kept (x:HOk P w H h)(k:∀b u,h.get? b=some u->h'.get? b=some u):HOk P w H h':=fun a o e =>
 (x a o e).stay (fun b u _ q=>k b u q) (fun _ q=>q) fun _ _ q=>q
theorem HOk.laid (x:HOk P w H h)(k:∀b u,h.get? b=some u->h'.get? b=some u)(hp:h.objs.size<=a)(new:ObjOk P w (upd H a o) h' a o):HOk P w (upd H a o) h':=fun b u e=>by
 have hn:=x.fresh hp
 by_cases hb:b=a
 ·subst hb;rw[Aa1]at e;cases e;exact new
 ·rw[Aa5 hb]at e;exact(x b u e).stay (fun c v _ q=>k c v q) (fun c q=>by rw[Aa5 (Aa8 q hn)];exact q) fun c xs q=>by rw[Aa5 (Aa8 q hn)];exact q
end
def Rd (H:Hp)(a:Addr)(u:HO):Prop:=H a=some u\/∃o,H a=some (.frz o u)
theorem Rd.ok {P:abS}{w:adI}{H:Hp}{h:Heap}{a:Addr}{u:HO}(r:Rd H a u)(x:HOk P w H h):ObjOk P w H h a u:=by
 rcases r with r | ⟨o,r⟩
 ·exact x a u r
 ·obtain⟨_,q⟩:=x a _ r;exact q
def Mut:Option HO->Prop
 | some (.lst _)=>True
 | some (.dK _)=>True
 | some (.dT _)=>True
 | some (.set _ _)=>True
 | some (.ins _ _ _)=>True
 | some (.ext _)=>True
 | _=>False
section
variable {P:abS}{w:adI}{H:Hp}{h h':Heap}{x e:Addr}{o':HO}
theorem HOk.write (ok:HOk P w H h)(mu:Mut (H x))(he:e=x\/H e=some (.own x))(k:∀b u,b≠e->h.get? b=some u->h'.get? b=some u)(heo:∃u,h'.get? e=some u)
 (new:ObjOk P w (upd H x o') h' x o'):HOk P w (upd H x o') h':=fun b u q=>by
 have nown:∀c y,H c=some (.own y)->c≠x:=fun c y r z=>by subst z;rw[r]at mu;exact mu
 have ntup:∀c xs,H c=some (.tup xs)->c≠x:=fun c xs r z=>by subst z;rw[r]at mu;exact mu
 by_cases hb:b=x
 ·subst hb;rw[Aa1]at q;cases q;exact new
 ·rw[Aa5 hb]at q
  by_cases hbe:b=e
  ·have q':H b=some (.own x):=by
    rcases he with z | z
    ·exact absurd (hbe.trans z) hb
    ·rw[hbe];exact z
   rw[q]at q';cases q';obtain⟨v,hv⟩:=heo;exact⟨v,by rw[hbe];exact hv⟩
  ·refine(ok b u q).stay (fun c v hc r=>k c v ?_ r) (fun c r=>by rw[Aa5 (nown c b r)];exact r) fun c xs r=>by rw[Aa5 (ntup c xs r)];exact r
   rcases hc with rfl | hc
   ·exact hbe
   ·rintro rfl;rcases he with z | z
    ·exact nown c b hc z
    ·rw[hc]at z;cases z;exact hb rfl
end
structure Un (fs ex:List Addr)(H H':Hp)(h h':Heap):Prop where
 keep:∀b o,h.get? b=some o->H b=none->b∉fs->b∉ex->h'.get? b=some o
 slot:∀b o,h.get? b=some o->H b=none->b∈fs->b∉ex->∃sl,h'.get? b=some { o with slots:=sl }
 free:∀b o,h.get? b=some o->H b=none->b∉ex->H' b=none
 there:∀b o,h.get? b=some o->b∉ex->∃o',h'.get? b=some o'
 tups:∀b xs,H b=some (.tup xs)->H' b=some (.tup xs)
 frzs:∀b o u,H b=some (.frz o u)->H' b=some (.frz o u)
 tbls:∀b ps,H b=some (.tbl ps)->∃more,H' b=some (.tbl (ps++more))
section
variable {fs fs' ex ex':List Addr}{H H1 H2:Hp}{h h1 h2 h':Heap}{a x e:Addr}{o:HO}
theorem Un.any (u:Un fs ex H H1 h h1){b:Addr}{ob:Obj}(q:h.get? b=some ob)(n:H b=none)(hx:b∉ex):∃sl,h1.get? b=some { ob with slots:=sl }:=by
 by_cases hb:b∈fs
 ·exact u.slot b ob q n hb hx
 ·exact⟨ob.slots,u.keep b ob q n hb hx⟩
theorem Un.kept (k:∀b u,h.get? b=some u->h'.get? b=some u):Un fs ex H H h h' :=
 ⟨fun b ob q _ _ _=>k b ob q,fun b ob q _ _ _=>⟨ob.slots,k b ob q⟩,fun _ _ _ n _=>n,fun b ob q _=>⟨ob,k b ob q⟩,fun _ _ q=>q,fun _ _ _ q=>q,fun _ ps q=>⟨#[],by rw[q];simp⟩⟩
theorem Un.refl:Un fs ex H H h h:=Un.kept fun _ _ q=>q
theorem Un.laid (k:∀b u,h.get? b=some u->h'.get? b=some u)(hp:h.objs.size<=a)(hn:H a=none):Un fs ex H (upd H a o) h h' where
 keep:=fun b u q _ _ _=>k b u q
 slot:=fun b u q _ _ _=>⟨u.slots,k b u q⟩
 free:=fun b u q n _=>by rw[Aa5 (acJ (abV (aaS q) hp))];exact n
 there:=fun b u q _=>⟨u,k b u q⟩
 tups:=fun b xs q=>by rw[Aa5 (Aa8 q hn)];exact q
 frzs:=fun b u xs q=>by rw[Aa5 (Aa8 q hn)];exact q
 tbls:=fun b ps q=>⟨#[],by rw[Aa5 (Aa8 q hn),q];simp⟩
theorem Un.write (mu:Mut (H x))(he:e=x\/H e=some (.own x))(k:∀b u,b≠e->h.get? b=some u->h'.get? b=some u)(heo:∃u,h'.get? e=some u):Un fs ex H (upd H x o) h h':=by
 have hx:∀b,H b=none->b≠x:=fun b n z=>by subst z;rw[n]at mu;exact mu
 have hb:∀b,H b=none->b≠e:=fun b n z=>by
  subst z;rcases he with r | r
  ·exact hx b n r
  ·rw[n]at r;cases r
 have hm:∀b u,H b=some u->¬Mut (some u)->b≠x:=fun b u q nm z=>by subst z;rw[q]at mu;exact nm mu
 refine⟨fun b u q n _ _=>k b u (hb b n) q,fun b u q n _ _=>⟨u.slots,k b u (hb b n) q⟩,fun b u q n _=>by rw[Aa5 (hx b n)];exact n,fun b u q _=>?_,
  fun b xs q=>by rw[Aa5 (hm b _ q fun z=>z)];exact q,fun b u xs q=>by rw[Aa5 (hm b _ q fun z=>z)];exact q,fun b ps q=>⟨#[],by rw[Aa5 (hm b _ q fun z=>z),q];simp⟩⟩
 by_cases hbe:b=e
 ·subst hbe;exact heo
 ·exact⟨u,k b u hbe q⟩
end
def trk (h:Heap)(H:Hp):List Addr:=(aaT h.objs.size).filter fun a=>(H a).isSome
def Ap0 (h:Heap)(H:Hp):Heap:=W.hideAll h (trk h H)
theorem Al0 (h:Heap)(H:Hp):(Ap0 h H).objs.size=h.objs.size:=W.hideAll_size _ _
theorem Ano {h:Heap}{H:Hp}{b:Addr}{o:Obj}(e:h.get? b=some o)(n:H b=none):(Ap0 h H).get? b=some o :=
 W.hideAll_get _ e fun hm=>by
  have q:(H b).isSome=true:=(adJ.mp hm).2;rw[n]at q;simp at q
theorem Ar2 {h:Heap}{H:Hp}{b:Addr}{o:Obj}(e:(Ap0 h H).get? b=some o):h.get? b=some o/\H b=none:=by
 have e':h.get? b=some o:=W.of_hideAll (trk h H) e;refine⟨e',?_⟩;cases q:H b with
 | none=>rfl
 | some x =>
  have hm:b∈trk h H:=adJ.mpr ⟨abT.mpr (aaS e'),by simp[q]⟩;have z:(Ap0 h H).get? b=none:=W.hideAll_none (trk h H) hm;rw[z]at e;cases e
structure Mod (K:abA)(mg:Str->Option aaF)(base:Heap):Prop where
 kin:K.In base
 glob:base.Ns aaV mg
 blt:∃mb,base.Ns akB mb/\∀x:Str,x≠"__name__"->mb x=ahN x
 nolimit:base.NoLimit
structure Cx where
 prog:abS
 w:adI
 K:abA
 mg:Str->Option aaF
 base:Heap
 A:adE
 N:List Str
 s_0:aaI
 H_0:Hp
 env:Env
 outer:List Env
 stack:List Env
 ex:List Addr
 fn:Str->Bool
 calm:Bool
 pn:List (Addr×Obj)
 xe:aaF->aaI->Prop
def frs (l:List Env):List Addr:=l.filterMap (·.frame)
abbrev Cx.fs (X:Cx):List Addr:=frs X.outer
def Vis (sc:Scope)(x:Str):Prop:=sc.names.lookup x=some .local \/sc.names.lookup x=some .cell \/sc.names.lookup x=some .free
def Loc (sc:Scope)(x:Str):Prop:=sc.names.lookup x=some .local \/sc.names.lookup x=some .cell
def Aha (env:Env)(h:Heap)(m:Str->Option aaF)(x:Str)(u:aaF):Prop :=
 (env.kindOf x=some .local /\m x=some u)\/((env.kindOf x=some .cell \/env.kindOf x=some .free)/\∃c,env.cells.lookup x=some c/\h.IsCell c (some u))
structure Cx.Ok (X:Cx):Prop where
 mod:Mod X.K X.mg X.base
 kind:X.env.scope.kind=.function
 glob:X.env.globals=aaV
 blt:X.env.builtins=akB
 above:X.s_0.heap.objs.size<=X.env.locals
 inj:∀x y c,X.env.cells.lookup x=some c->X.env.cells.lookup y=some c->x=y
 has:∀x,(X.env.kindOf x=some .cell \/X.env.kindOf x=some .free)->∃c,X.env.cells.lookup x=some c
 cab:∀x c,X.fn x=true->X.env.cells.lookup x=some c->X.s_0.heap.objs.size<=c
 hd:X.calm=true->X.A.handled=none
 frames:X.A.frames=some X.stack
 stk:X.stack=X.outer\/(X.stack=X.env::X.outer/\X.env.frame=some X.env.locals)
 exf:∀b∈X.ex,b≠X.env.locals/\∀x c,X.env.cells.lookup x=some c->c≠b
 bs:∀b o,X.base.get? b=some o->X.s_0.heap.get? b=some o/\X.H_0 b=none
 bsz:X.base.objs.size<=X.s_0.heap.objs.size
 noex:∀b o,X.base.get? b=some o->b∉X.ex
 exfs:∀b∈X.ex,b∉X.fs
 funs:X.s_0.heap.FunFrames X.base X.outer
 frf:∀b∈X.fs,X.H_0 b=none
structure Inv (X:Cx)(p_:List (Addr×Obj))(σ:List (Option V))(H:Hp)(s:aaI):Prop where
 ok:X.Ok
 os:s.os=X.s_0.os
 bare:anI s.gens
 base:Un X.fs X.ex X.H_0 H X.s_0.heap s.heap
 loc:∃m,s.heap.Ns X.env.locals m/\∀(i:Nat) (x:Str) (v:V),X.N[i]?=some x->σ[i]?=some (some v)->Vis X.env.scope x->∃u,RelV v u/\Aha X.env s.heap m x u
 cell:∀x c,X.env.cells.lookup x=some c->∃v,s.heap.IsCell c v
 free:H X.env.locals=none
 freeC:∀x c,X.env.cells.lookup x=some c->H c=none
 pin:∀p∈X.pn++p_,s.heap.get? p.1=some p.2/\H p.1=none/\p.1≠X.env.locals/\p.1∉X.fs/\∀v,p.2.data≠.cell v
 hok:HOk X.prog X.w H s.heap
 len:σ.length=X.N.length
section
variable {X:Cx}{p_:List (Addr×Obj)}{σ:List (Option V)}{H H':Hp}{s:aaI}{h':Heap}
theorem Cx.Ok.nofr (ok:X.Ok){b:Addr}{o:Obj}(e:X.base.get? b=some o):b∉X.fs:=fun hb=>by
 have:=(ok.funs.mem hb).1;rw[e]at this;cases this
theorem Inv.bs (I:Inv X p_ σ H s):∀b o,X.base.get? b=some o->s.heap.get? b=some o/\H b=none:=fun b o e =>
 ⟨I.base.keep b o (I.ok.bs b o e).1 (I.ok.bs b o e).2 (I.ok.nofr e) (I.ok.noex b o e),I.base.free b o (I.ok.bs b o e).1 (I.ok.bs b o e).2 (I.ok.noex b o e)⟩
theorem Inv.bk (I:Inv X p_ σ H s):∀b o,X.base.get? b=some o->s.heap.get? b=some o:=fun b o e=>(I.bs b o e).1
theorem Inv.mod (I:Inv X p_ σ H s):Mod X.K X.mg X.base:=I.ok.mod
theorem Inv.kIn (I:Inv X p_ σ H s):X.K.In s.heap:=I.ok.mod.kin.keeps I.bk
theorem Inv.nolimit (I:Inv X p_ σ H s):s.heap.NoLimit:=I.ok.mod.nolimit.keeps I.bk
theorem Inv.fr (I:Inv X p_ σ H s):∃m,Fr X.base X.env.locals s.heap m :=
 let ⟨m,hn,_⟩:=I.loc
 ⟨m,hn,I.bk,abI I.ok.bsz I.ok.above⟩
theorem Inv.lt (I:Inv X p_ σ H s):X.env.locals<s.heap.objs.size:=let ⟨_,hn,_⟩:=I.loc;hn.lt
theorem Inv.sz (I:Inv X p_ σ H s):X.s_0.heap.objs.size<=s.heap.objs.size:=abI I.ok.above (aeW I.lt)
theorem Inv.nofs (I:Inv X p_ σ H s){a:Addr}(h:s.heap.objs.size<=a):a∉X.fs:=fun hb=>by
 obtain⟨_,o,ho,_⟩:=I.ok.funs.mem hb;exact absurd (abV (aaS ho) (abI I.sz h)) (adZ _)
theorem Inv.cne (I:Inv X p_ σ H s):∀x c,X.env.cells.lookup x=some c->c≠X.env.locals:=fun x c e z=>by
 obtain⟨v,o,ho,hd⟩:=I.cell x c e;obtain⟨m,⟨o',es,ep,ho',hd',_⟩,_⟩:=I.loc;rw[z,ho']at ho;cases ho;rw[hd']at hd;cases hd
theorem Inv.funs (I:Inv X p_ σ H s):s.heap.FunFrames X.base X.outer:=by
 have all:∀(l:List Env),(∀b∈frs l,b∈X.fs)->X.s_0.heap.FunFrames X.base l->s.heap.FunFrames X.base l:=by
  intro l
  induction l with
  | nil=>intro _ _;trivial
  | cons env r ih =>
   intro hs hl;obtain⟨hk,⟨L,o,hf,hn,ho,hd⟩,hr⟩:=hl;have hL:L∈X.fs:=hs L (by unfold frs;rw[agL,hf];exact adB);obtain⟨sl,e⟩:=I.base.slot L o ho (I.ok.frf L hL) hL fun z=>I.ok.exfs L z hL;exact⟨hk,⟨L,_,hf,hn,e,hd⟩,ih (fun b hb=>hs b (by unfold frs;rw[agL,hf];exact abP _ hb)) hr⟩
 exact all X.outer (fun _ hb=>hb) I.ok.funs
theorem Inv.stack (I:Inv X p_ σ H s):s.heap.FunFrames X.base X.stack:=by
 rcases I.ok.stk with e | ⟨e,hf⟩
 ·rw[e];exact I.funs
 ·rw[e];obtain⟨m,hn,_⟩:=I.loc;refine .cons (by rw[I.ok.kind];decide) hf hn ?_ I.funs;exact Heap.get?_none_of_le (abI I.ok.bsz I.ok.above)
theorem Inv.stkSub (I:Inv X p_ σ H s):∀b∈frs X.stack,b∈X.env.locals::X.fs:=fun b hb=>by
 rcases I.ok.stk with e | ⟨e,hf⟩
 ·rw[e]at hb;exact abP _ hb
 ·rw[e]at hb;unfold frs at hb;rw[agL,hf]at hb;exact hb
theorem Inv.stkFree (I:Inv X p_ σ H s):∀b∈frs X.stack,H b=none:=fun b hb=>by
 rcases aaG.mp (I.stkSub b hb)with e | hb
 ·rw[e];exact I.free
 ·obtain⟨_,o,ho,_⟩:=I.ok.funs.mem hb;exact I.base.free b o ho (I.ok.frf b hb) fun z=>I.ok.exfs b z hb
theorem Inv.step {g':Array GenState}{t':Nat}{d':Drawn}{ch:List Addr}(I:Inv X p_ σ H s)
 (hch:∀b∈ch,(b∈X.ex\/X.s_0.heap.objs.size<=b)/\b≠X.env.locals/\(∀x c,X.env.cells.lookup x=some c->c≠b)/\∀p∈X.pn++p_,p.1≠b)
 (keep:∀b o,b≠X.env.locals->b∉X.fs->b∉ch->s.heap.get? b=some o->H b=none->h'.get? b=some o)
 (slot:∀b o,b≠X.env.locals->b∈X.fs->b∉ch->s.heap.get? b=some o->H b=none->∃sl,h'.get? b=some { o with slots:=sl }) (free:∀b o,b∉ch->s.heap.get? b=some o->H b=none->H' b=none)
 (there:∀b o,b∉ch->s.heap.get? b=some o->∃o',h'.get? b=some o')
 (tups:∀b xs,H b=some (.tup xs)->H' b=some (.tup xs)) (frzs:∀b o u,H b=some (.frz o u)->H' b=some (.frz o u)) (tbls:∀b ps,H b=some (.tbl ps)->∃more,H' b=some (.tbl (ps++more)))
 (ns:∀m,s.heap.Ns X.env.locals m->h'.Ns X.env.locals m) (hok:HOk X.prog X.w H' h') (hg:anI g') :
 Inv X p_ σ H' { s with heap:=h',gens:=g',drawn:=d',toks:=t' }:=by
 have neL:∀b o,X.s_0.heap.get? b=some o->b≠X.env.locals:=fun b o e=>acJ (abV (aaS e) I.ok.above);have neC:∀b o,X.s_0.heap.get? b=some o->b∉X.ex->b∉ch:=fun b o e hx hb=>by
  rcases (hch b hb).1 with z | z
  ·exact hx z
  ·exact absurd (abV (aaS e) z) (adZ _)
 have cellK:∀x c,X.env.cells.lookup x=some c->∀v,s.heap.IsCell c v->h'.IsCell c v:=fun x c e v ⟨o,ho,hd⟩=>by
  have nch:c∉ch:=fun z=>(hch c z).2.2.1 x c e rfl
  by_cases hc:c∈X.fs
  ·obtain⟨sl,q⟩:=slot c o (I.cne x c e) hc nch ho (I.freeC x c e);exact⟨_,q,hd⟩
  ·exact⟨o,keep c o (I.cne x c e) hc nch ho (I.freeC x c e),hd⟩
 refine⟨I.ok,I.os,hg,⟨fun b o e n hb hx=>?_,fun b o e n hb hx=>?_,fun b o e n hx=>?_,fun b o e hx=>?_,fun b xs e=>tups b xs (I.base.tups b xs e),fun b o xs e=>frzs b o xs (I.base.frzs b o xs e),fun b ps e=>?_⟩,?_,fun x c e=>?_,?_,fun x c e=>?_,fun p hp=>?_,hok,I.len⟩
 ·exact keep b o (neL b o e) hb (neC b o e hx) (I.base.keep b o e n hb hx) (I.base.free b o e n hx)
 ·obtain⟨sl,e1⟩:=I.base.slot b o e n hb hx;obtain⟨sl',e2⟩:=slot b _ (neL b o e) hb (neC b o e hx) e1 (I.base.free b o e n hx);exact⟨sl',e2⟩
 ·obtain⟨o',e1⟩:=I.base.there b o e hx;exact free b o' (neC b o e hx) e1 (I.base.free b o e n hx)
 ·obtain⟨o',e1⟩:=I.base.there b o e hx;exact there b o' (neC b o e hx) e1
 ·obtain⟨m1,e1⟩:=I.base.tbls b ps e;obtain⟨m2,e2⟩:=tbls b _ e1;exact⟨m1++m2,by rw[e2,Array.append_assoc]⟩
 ·obtain⟨m,hn,hl⟩:=I.loc;refine⟨m,ns m hn,fun i x v e1 e2 e3=>?_⟩;obtain⟨u,r,l⟩:=hl i x v e1 e2 e3;refine⟨u,r,?_⟩;rcases l with l | ⟨k,c,e,z⟩
  ·exact .inl l
  ·exact .inr ⟨k,c,e,cellK x c e _ z⟩
 ·obtain⟨v,z⟩:=I.cell x c e;exact⟨v,cellK x c e v z⟩
 ·obtain⟨m,⟨o,_,_,ho,_⟩,_⟩:=I.loc;exact free _ o (fun z=>(hch _ z).2.1 rfl) ho I.free
 ·obtain⟨v,o,ho,hd⟩:=I.cell x c e;exact free c o (fun z=>(hch c z).2.2.1 x c e rfl) ho (I.freeC x c e)
 ·obtain⟨e,n,ne,nf,d⟩:=I.pin p hp;have nch:p.1∉ch:=fun z=>(hch p.1 z).2.2.2 p hp rfl;exact⟨keep p.1 p.2 ne nf nch e n,free p.1 p.2 nch e n,ne,nf,d⟩
theorem Inv.un {t':Nat}(I:Inv X p_ σ H s)(u:Un X.fs [] H H' s.heap h')(hok:HOk X.prog X.w H' h'):Inv X p_ σ H' { s with heap:=h',toks:=t' }:=by
 obtain⟨m,⟨o,es,ep,ho,r⟩,_⟩:=id I.loc;obtain⟨sl,hL⟩:=u.any ho I.free (by simp)
 exact I.step (g':=s.gens) (d':=s.drawn) (ch:=[]) (fun _ z=>nomatch z) (fun b o _ hb _ e n=>u.keep b o e n hb (by simp)) (fun b o _ hb _ e n=>u.slot b o e n hb (by simp)) (fun b o _ e n=>u.free b o e n (by simp)) (fun b o _ e=>u.there b o e (by simp)) u.tups u.frzs u.tbls (fun m' hm=>by
  obtain⟨o',es',ep',ho',r'⟩:=hm;rw[ho]at ho';cases ho'
  exact⟨_,es',ep',hL,r'⟩) hok I.bare
theorem Inv.call {g':Array GenState}{t':Nat}{d':Drawn}{ch:List Addr}(I:Inv X p_ σ H s)(u:Un (frs X.stack) ch H H' s.heap h')(hok:HOk X.prog X.w H' h')(hg:anI g')
 (hch:∀b∈ch,(b∈X.ex\/X.s_0.heap.objs.size<=b)/\b≠X.env.locals/\(∀x c,X.env.cells.lookup x=some c->c≠b)/\∀p∈X.pn++p_,p.1≠b) :
 Inv X p_ σ H' { s with heap:=h',gens:=g',drawn:=d',toks:=t' }:=by
 obtain⟨m,⟨o,es,ep,ho,r⟩,_⟩:=id I.loc;obtain⟨sl,hL⟩:=u.any ho I.free fun z=>(hch _ z).2.1 rfl
 exact I.step (ch:=ch) hch (fun b o hL hb hc e n=>u.keep b o e n (fun z=>(aaG.mp (I.stkSub b z)).elim hL hb) hc) (fun b o _ _ hc e n=>u.any e n hc) (fun b o hc e n=>u.free b o e n hc) (fun b o hc e=>u.there b o e hc) u.tups u.frzs u.tbls (fun m' hm=>by
  obtain⟨o',es',ep',ho',r'⟩:=hm;rw[ho]at ho';cases ho'
  exact⟨_,es',ep',hL,r'⟩) hok hg
theorem Inv.turned {t':Nat}{it:Addr}(I:Inv X p_ σ H s)(k:∀b o,b≠it->s.heap.get? b=some o->h'.get? b=some o)(hn:H it=none)(hL:it≠X.env.locals)
 (h1:it∈X.ex\/X.s_0.heap.objs.size<=it) (h2:∀x c,X.env.cells.lookup x=some c->c≠it) (h3:∀p∈X.pn++p_,p.1≠it):Inv X p_ σ H { s with heap:=h',toks:=t' }:=by
 have nit:∀b u,H b=some u->b≠it:=fun b u e z=>by rw[z,hn]at e;cases e
 refine I.step (g':=s.gens) (d':=s.drawn) (ch:=[it]) (fun b hb=>?_) (fun b o _ _ hc e _=>k b o (fun z=>hc (by simp[z])) e) (fun b o _ _ hc e _=>⟨o.slots,k b o (fun z=>hc (by simp[z])) e⟩) (fun _ _ _ _ n=>n)
  (fun b o hc e=>⟨o,k b o (fun z=>hc (by simp[z])) e⟩) (fun _ _ e=>e) (fun _ _ _ e=>e) (fun b ps e=>⟨#[],by rw[e];simp⟩) (fun m hm=>?_) (fun b u e=>?_) I.bare
 ·have e:b=it:=by simpa using hb
  subst e;exact⟨h1,hL,h2,h3⟩
 ·obtain⟨o,es,ep,ho,r⟩:=hm;exact⟨o,es,ep,k _ o (acU hL) ho,r⟩
 ·refine(I.hok b u e).stay (fun c v hc q=>k c v ?_ q) (fun _ q=>q) fun _ _ q=>q;rcases hc with z | z
  ·rw[z];exact nit b u e
  ·exact nit c _ z
theorem Inv.tok (I:Inv X p_ σ H s)(t:Nat):Inv X p_ σ H { s with toks:=t }:=I.un (h':=s.heap) (t':=t) Un.refl I.hok
theorem Inv.kept {t':Nat}(I:Inv X p_ σ H s)(k:∀b u,s.heap.get? b=some u->h'.get? b=some u):Inv X p_ σ H { s with heap:=h',toks:=t' }:=I.un (Un.kept k) (I.hok.kept k)
theorem Inv.laid {a:Addr}{o:HO}{t':Nat}(I:Inv X p_ σ H s)(k:∀b u,s.heap.get? b=some u->h'.get? b=some u)(hp:s.heap.objs.size<=a)(new:ObjOk X.prog X.w (upd H a o) h' a o) :
 Inv X p_ σ (upd H a o) { s with heap:=h',toks:=t' }:=I.un (Un.laid k hp (I.hok.fresh hp)) (I.hok.laid k hp new)
theorem Inv.write {x e:Addr}{o:HO}{t':Nat}(I:Inv X p_ σ H s)(mu:Mut (H x))(he:e=x\/H e=some (.own x))(k:∀b u,b≠e->s.heap.get? b=some u->h'.get? b=some u)(heo:∃u,h'.get? e=some u)
 (new:ObjOk X.prog X.w (upd H x o) h' x o):Inv X p_ σ (upd H x o) { s with heap:=h',toks:=t' }:=I.un (Un.write mu he k heo) (I.hok.write mu he k heo new)
theorem Inv.weak {σ':List (Option V)}(I:Inv X p_ σ H s)(hl:σ'.length=σ.length)(w:∀(i:Nat) v,σ'[i]?=some (some v)->σ[i]?=some (some v)):Inv X p_ σ' H s :=
 ⟨I.ok,I.os,I.bare,I.base,let ⟨m,hn,hl'⟩:=I.loc;⟨m,hn,fun i x v e1 e2 e3=>hl' i x v e1 (w i v e2) e3⟩,I.cell,I.free,I.freeC,I.pin,I.hok,hl.trans I.len⟩
theorem Inv.pins_of {pins':List (Addr×Obj)}(I:Inv X p_ σ H s)(h:∀p∈pins',s.heap.get? p.1=some p.2/\H p.1=none/\p.1≠X.env.locals/\p.1∉X.fs/\∀v,p.2.data≠.cell v):Inv X pins' σ H s :=
 ⟨I.ok,I.os,I.bare,I.base,I.loc,I.cell,I.free,I.freeC,fun p hp=>(abH.mp hp).elim (fun z=>I.pin p (anW _ z)) (h p),I.hok,I.len⟩
theorem Aj9 {N:List Str}(hN:N.Nodup){i j:Nat}{x:Str}(a:N[i]?=some x)(b:N[j]?=some x):i=j:=by
 obtain⟨h1,e1⟩:=aaB.mp a;obtain⟨h2,e2⟩:=aaB.mp b;exact(aiS hN).mp (e1.trans e2.symm)
theorem Ak5 {M:Model}{A:adE}{E:aaF->aaI->Prop}{i:Nat}{x:Str}{v:V}{u:aaF}{Q:Unit->aaI->Prop}(I:Inv X p_ σ H s)(hN:X.N.Nodup)(hi:X.N[i]?=some x)(hx:Loc X.env.scope x)(r:RelV v u)
 (h:∀s',Inv X p_ (σ.set i (some v)) H s'->(∃a,aiA a s.heap s'.heap/\(a=X.env.locals\/X.env.cells.lookup x=some a))->Q () s') (hf:X.fn x=true\/X.env.scope.names.lookup x=some .local:=by first | exact .inl rfl | exact .inr rfl | assumption):abM M A (storeName X.env x u) Q E s:=by
 obtain⟨m,hn,hl⟩:=id I.loc;have hcls:(X.env.scope.kind==.class||(X.env.scope.kind==.module&&X.env.locals != X.env.globals))=false:=by rw[I.ok.kind];rfl
 have hiσ:i<σ.length:=by rw[I.len];exact(aaB.mp hi).1
 have cne:=I.cne;have tracked:∀{a:Addr} {h':Heap},(∃o,s.heap.get? a=some o/\H a=none)->aiA a s.heap h'->HOk X.prog X.w H h':=fun {a h'} ha hs b ob e=>by
  obtain⟨_,_,hfree⟩:=ha;refine(I.hok b ob e).stay (fun c w' hc q=>(hs.2 c ?_).trans q) (fun _ q=>q) fun _ _ q=>q;rintro rfl;rcases hc with rfl | hc
  ·rw[hfree]at e;cases e
  ·rw[hfree]at hc;cases hc
 rcases hx with hk | hk
 ·refine wpAny_storeName_local hk hn (fun h' hn' hs=>?_) hcls;obtain⟨oL,_,_,hoL,_⟩:=id hn;refine h _ ⟨I.ok,I.os,I.bare,⟨fun b o e n hb hx=>?_,fun b o e n hb hx=>?_,I.base.free,fun b o e hx=>?_,I.base.tups,I.base.frzs,I.base.tbls⟩,⟨_,hn',fun j y v' e1 e2 e3=>?_⟩,fun y c e=>?_,I.free,I.freeC,fun p hp=>?_,tracked ⟨oL,hoL,I.free⟩ hs,by simpa using I.len⟩ ⟨_,hs,.inl rfl⟩
  ·exact(hs.2 b (acJ (abV (aaS e) I.ok.above))).trans (I.base.keep b o e n hb hx)
  ·obtain⟨sl,e1⟩:=I.base.slot b o e n hb hx;exact⟨sl,(hs.2 b (acJ (abV (aaS e) I.ok.above))).trans e1⟩
  ·obtain⟨o',e1⟩:=I.base.there b o e hx;exact⟨o',(hs.2 b (acJ (abV (aaS e) I.ok.above))).trans e1⟩
  ·by_cases hj:j=i
   ·subst hj;rw[hi]at e1;cases e1;rw[agZ hiσ]at e2;cases e2;exact⟨u,r,.inl ⟨hk,by simp⟩⟩
   ·rw[agC (acU hj)]at e2;obtain⟨u',r',q⟩:=hl j y v' e1 e2 e3;refine⟨u',r',?_⟩;rcases q with ⟨k,e⟩ | ⟨k,c,e,z⟩
    ·refine .inl ⟨k,?_⟩;have:y≠x:=fun e=>hj (Aj9 hN e1 (e ▸ hi));simp[this,e]
    ·exact .inr ⟨k,c,e,z.sameBut hs (cne y c e)⟩
  ·obtain⟨w',z⟩:=I.cell y c e;exact⟨w',z.sameBut hs (cne y c e)⟩
  ·obtain⟨e,n,ne,nf,d⟩:=I.pin p hp;exact⟨(hs.2 p.1 ne).trans e,n,ne,nf,d⟩
 ·have hfn:X.fn x=true:=by
   rcases hf with z | z
   ·exact z
   ·rw[z]at hk;cases hk
  obtain⟨c,hc⟩:=I.ok.has x (.inl hk);obtain⟨w',z⟩:=I.cell x c hc;refine wpAny_storeName_cell I.ok.kind hk hc z (fun h' hc' hs=>?_);obtain⟨oc,hoc,hocd⟩:=id z;refine h { s with heap:=h' } ⟨I.ok,I.os,I.bare,⟨fun b o e n hb hx=>?_,fun b o e n hb hx=>?_,I.base.free,fun b o e hx=>?_,I.base.tups,I.base.frzs,I.base.tbls⟩,⟨m,hn.sameBut hs (acU (cne x c hc)),fun j y v' e1 e2 e3=>?_⟩,fun y c' e=>?_,I.free,I.freeC,fun p hp=>?_,tracked ⟨oc,hoc,I.freeC x c hc⟩ hs,by simpa using I.len⟩ ⟨c,hs,.inr hc⟩
  ·exact(hs.2 b (acJ (abV (aaS e) (I.ok.cab x c hfn hc)))).trans (I.base.keep b o e n hb hx)
  ·obtain⟨sl,e1⟩:=I.base.slot b o e n hb hx;exact⟨sl,(hs.2 b (acJ (abV (aaS e) (I.ok.cab x c hfn hc)))).trans e1⟩
  ·obtain⟨o',e1⟩:=I.base.there b o e hx;exact⟨o',(hs.2 b (acJ (abV (aaS e) (I.ok.cab x c hfn hc)))).trans e1⟩
  ·by_cases hj:j=i
   ·subst hj;rw[hi]at e1;cases e1;rw[agZ hiσ]at e2;cases e2;exact⟨u,r,.inr ⟨.inl hk,c,hc,hc'⟩⟩
   ·rw[agC (acU hj)]at e2;obtain⟨u',r',q⟩:=hl j y v' e1 e2 e3;refine⟨u',r',?_⟩;rcases q with q | ⟨k,c',e,z'⟩
    ·exact .inl q
    ·refine .inr ⟨k,c',e,z'.sameBut hs ?_⟩;rintro rfl;exact hj (Aj9 hN e1 (I.ok.inj _ _ _ e hc ▸ hi))
  ·by_cases hcc:c'=c
   ·subst hcc;exact⟨_,hc'⟩
   ·obtain⟨w2,z2⟩:=I.cell y c' e;exact⟨w2,z2.sameBut hs hcc⟩
  ·obtain⟨e,n,ne,nf,d⟩:=I.pin p hp;refine⟨(hs.2 p.1 ?_).trans e,n,ne,nf,d⟩;intro q;rw[q,hoc]at e;have q':oc=p.2:=abD e;exact d w' (by rw[<-q'];exact hocd)
theorem Ais {M:Model}{A:adE}{E:aaF->aaI->Prop}{i:Nat}{x:Str}{v:V}{u:aaF}{Q:Unit->aaI->Prop}(I:Inv X p_ σ H s)(hN:X.N.Nodup)(hi:X.N[i]?=some x)(hx:Loc X.env.scope x)(r:RelV v u)
 (h:∀s',Inv X p_ (σ.set i (some v)) H s'->Q () s') (hf:X.fn x=true\/X.env.scope.names.lookup x=some .local:=by first | exact .inl rfl | exact .inr rfl | assumption):abM M A (storeName X.env x u) Q E s :=
 Ak5 I hN hi hx r (fun s' I' _=>h s' I') hf
theorem Inv.call' {s':aaI}{ch:List Addr}(I:Inv X p_ σ H s)(ho:s'.os=s.os)(u:Un (frs X.stack) ch H H' s.heap s'.heap)(hok:HOk X.prog X.w H' s'.heap)(hg:anI s'.gens)
 (hch:∀b∈ch,(b∈X.ex\/X.s_0.heap.objs.size<=b)/\b≠X.env.locals/\(∀x c,X.env.cells.lookup x=some c->c≠b)/\∀p∈X.pn++p_,p.1≠b):Inv X p_ σ H' s':=by
 obtain⟨h',g',d',t',o'⟩:=s';have e:o'=s.os:=ho;subst e;exact I.call (g':=g') (t':=t') (d':=d') u hok hg hch
end
abbrev XK:=aaF->Option Addr->Hp->Prop
abbrev St:=List (Option V)
abbrev VK:=V->Hp->Prop
abbrev TE:=St->Hp->VK->Prop
abbrev TT:=St->Hp->(Bool->Hp->Prop)->Prop
abbrev TA:=St->Hp->(List V->Hp->Prop)->Prop
structure Asm where
 nx:St->Hp->Prop
 rt:VK
 bk:St->Hp->Prop:=fun _ _=>False
 ct:St->Hp->Prop:=fun _ _=>False
abbrev TS:=Asm->St->Hp->Prop
def EP (X:Cx)(p_:List (Addr×Obj))(σ:St)(Q:VK)(u:aaF)(s':aaI):Prop:=∃v H',Inv X p_ σ H' s'/\RelV v u/\Q v H'
def TP (X:Cx)(p_:List (Addr×Obj))(σ:St)(Q:Bool->Hp->Prop)(b:Bool)(s':aaI):Prop:=∃H',Inv X p_ σ H' s'/\Q b H'
def AP (X:Cx)(p_:List (Addr×Obj))(σ:St)(Q:List V->Hp->Prop)(us:List aaF)(s':aaI):Prop:=∃vs H',Inv X p_ σ H' s'/\Vals vs us/\Q vs H'
def SP (X:Cx)(p_:List (Addr×Obj))(D:Asm)(f:Flow)(s':aaI):Prop :=
 match f with
 | .next=>∃σ' H',Inv X p_ σ' H' s'/\D.nx σ' H'
 | .brk=>∃σ' H',Inv X p_ σ' H' s'/\D.bk σ' H'
 | .cont=>∃σ' H',Inv X p_ σ' H' s'/\D.ct σ' H'
 | .ret u=>∃v σ' H',Inv X p_ σ' H' s'/\RelV v u/\D.rt v H'
def PE (X:Cx)(e:adX)(t:TE):Prop :=
 ∀(p_:List (Addr×Obj)) (s:aaI) (σ:St) (H:Hp) (Q:VK),Inv X p_ σ H s->t σ H Q->abM (model X.prog X.w) X.A (eval e X.env) (EP X p_ σ Q) X.xe s
def PT (X:Cx)(e:adX)(t:TT):Prop :=
 ∀(p_:List (Addr×Obj)) (s:aaI) (σ:St) (H:Hp) (Q:Bool->Hp->Prop),Inv X p_ σ H s->t σ H Q->abM (model X.prog X.w) X.A (isTrue e X.env (eval e X.env)) (TP X p_ σ Q) X.xe s
def PW (X:Cx)(e:adX)(t:TT):Prop :=
 ∀(whole:Sem aaF) (p_:List (Addr×Obj)) (s:aaI) (σ:St) (H:Hp) (Q:Bool->Hp->Prop),Inv X p_ σ H s->t σ H Q->abM (model X.prog X.w) X.A (isTrue e X.env whole) (TP X p_ σ Q) X.xe s
theorem PW.pt {X:Cx}{e:adX}{t:TT}(h:PW X e t):PT X e t:=h _
def PA (X:Cx)(es:List adX)(t:TA):Prop :=
 ∀(pos:Pos) (p_:List (Addr×Obj)) (s:aaI) (σ:St) (H:Hp) (Q:List V->Hp->Prop),Inv X p_ σ H s->t σ H Q->abM (model X.prog X.w) X.A (spliced (afI pos (abL es X.env))) (AP X p_ σ Q) X.xe s
def PS (X:Cx)(st:afD)(t:TS):Prop :=
 ∀(p_:List (Addr×Obj)) (s:aaI) (σ:St) (H:Hp) (D:Asm),Inv X p_ σ H s->t D σ H->abM (model X.prog X.w) X.A (exec st X.env) (SP X p_ D) X.xe s
def PSs (X:Cx)(st:List afD)(t:TS):Prop :=
 ∀(p_:List (Addr×Obj)) (s:aaI) (σ:St) (H:Hp) (D:Asm),Inv X p_ σ H s->t D σ H->abM (model X.prog X.w) X.A (execs st X.env) (SP X p_ D) X.xe s
theorem thn {α:Type}{t:Sem α}{Q Q':α->aaI->Prop}{M:Model}{A:adE}{E:aaF->aaI->Prop}{s:aaI}(h:abM M A t Q E s)(hQ:∀a s,Q a s->Q' a s):abM M A t Q' E s:=aeE h hQ fun _ _ x=>x
section
variable {X:Cx}
theorem bin {a b:adX}{ta tb:TE}(ha:PE X a ta)(hb:PE X b tb){p_:List (Addr×Obj)}{s:aaI}{σ:St}{H:Hp}{R:V->V->Hp->Prop}(I:Inv X p_ σ H s)(h:ta σ H fun x H1=>tb σ H1 fun y H2=>R x y H2)
 {α:Type} {Q:α->aaI->Prop} {f:aaF->aaF->Sem α}
 (hf:∀v u s2 x y H2,Inv X p_ σ H2 s2->RelV x v->RelV y u->R x y H2->abM (model X.prog X.w) X.A (f v u) Q X.xe s2) :
 abM (model X.prog X.w) X.A (eval a X.env) (fun v s₁=>abM (model X.prog X.w) X.A (eval b X.env) (fun u s₂=>abM (model X.prog X.w) X.A (f v u) Q X.xe s₂) X.xe s₁) X.xe s:=by
 refine thn (ha p_ s σ H _ I h) fun v s1 ⟨x,H1,I1,r1,q1⟩=>?_;refine thn (hb p_ s1 σ H1 _ I1 q1) fun u s2 ⟨y,H2,I2,r2,q2⟩=>?_;exact hf v u s2 x y H2 I2 r1 r2 q2
def Abv (i:Nat):TE:=fun σ H Q=>∃v,σ[i]?=some (some v)/\Q v H
def tC (v:V):TE:=fun _ H Q=>Q v H
theorem Avf {i:Nat}{x:Str}{pos:Pos}(hN:X.N[i]?=some x)(hv:Vis X.env.scope x)(hd:(x==("__debug__" : Str))=false:=by decide)(hcd:(x==("__classdict__" : Str))=false:=by decide):PE X (.Name x pos) (Abv i):=by
 intro p_ s σ H Q I h;obtain⟨v,e,h⟩:=h;obtain⟨m,hn,hl⟩:=I.loc;obtain⟨u,r,l⟩:=hl i x v hN e hv;have fin:EP X p_ σ Q u s:=⟨v,H,I,r,h⟩
 rcases l with ⟨hk,hm⟩ | ⟨hk,c,hc,hcell⟩
 ·exact wpAny_Name (wpAny_loadName_local I.ok.kind hk hn hm fin) hd
 ·rcases hk with hk | hk
  ·exact wpAny_Name (wpAny_loadName_cell I.ok.kind hk hc hcell fin) hd
  ·exact wpAny_Name (wpAny_loadName_free I.ok.kind hk hc hcell fin hcd) hd
theorem Aa7 {i j pos}:PE X (.Constant (.int i) j pos) (tC (.int i)):=fun _ _ _ H _ I h=>wpAny_Constant_int ⟨.int i,H,I.tok _,⟨_,rfl⟩,h⟩
theorem Acs {b j pos}:PE X (.Constant (.bool b) j pos) (tC (.bl b)):=fun _ _ _ H _ I h=>Constant_bool ⟨.bl b,H,I,rfl,h⟩
theorem Acy {j pos}:PE X (.Constant .none j pos) (tC .non):=fun _ _ _ H _ I h=>Constant_none ⟨.non,H,I,rfl,h⟩
def Gl (X:Cx)(x:Str):Prop:=X.env.kindOf x=some .globalImplicit
theorem Aje {E:aaF->aaI->Prop}{p_:List (Addr×Obj)}{s:aaI}{σ:St}{H:Hp}{x:Str}{u:aaF}{pos:Pos}{Q:aaF->aaI->Prop}(I:Inv X p_ σ H s)(hg:Gl X x)(hm:X.mg x=some u)(h:Q u s)
 (hd:(x==("__debug__" : Str))=false:=by decide):abM (model X.prog X.w) X.A (eval (.Name x pos) X.env) Q E s :=
 alQ I.ok.kind hg (Calls.loadGlobal_global (by rw[I.ok.glob];exact I.mod.glob.keeps I.bk) hm h) hd
theorem Agk {E:aaF->aaI->Prop}{p_:List (Addr×Obj)}{s:aaI}{σ:St}{H:Hp}{x:Str}{u:aaF}{pos:Pos}{Q:aaF->aaI->Prop}(I:Inv X p_ σ H s)(hg:Gl X x)(hm:X.mg x=none)(hv:ahN x=some u)(h:Q u s)
 (hn:x≠"__name__":=by decide) (hd:(x==("__debug__" : Str))=false:=by decide):abM (model X.prog X.w) X.A (eval (.Name x pos) X.env) Q E s:=by
 obtain⟨mb,h1,h2⟩:=I.mod.blt;exact alQ I.ok.kind hg (Calls.loadGlobal_builtin (by rw[I.ok.glob];exact I.mod.glob.keeps I.bk) hm (by rw[I.ok.blt];exact h1.keeps I.bk) ((h2 x hn).trans hv) h) hd
theorem Aaq {x:Str}{v:V}{u:aaF}{pos:Pos}(hg:Gl X x)(hm:X.mg x=some u)(r:RelV v u)(hd:(x==("__debug__" : Str))=false:=by decide):PE X (.Name x pos) (tC v) :=
 fun _ _ _ H _ I h=>Aje I hg hm ⟨v,H,I,r,h⟩ hd
variable {a b:adX}{ta tb:TE}{pos:Pos}
def PC (X:Cx)(op:CmpOp)(a b:adX)(t:TE):Prop :=
 ∀(p_:List (Addr×Obj)) (s:aaI) (σ:St) (H:Hp) (Q:VK),Inv X p_ σ H s->t σ H Q->
  abM (model X.prog X.w) X.A (eval a X.env) (fun v s₁=>abM (model X.prog X.w) X.A (eval b X.env) (fun u s₂=>abM (model X.prog X.w) X.A (compareOp op v u) (EP X p_ σ Q) X.xe s₂) X.xe s₁) X.xe s
def tB (t:TE):TT:=fun σ H Q=>t σ H fun x H1=>∃c,x=.bl c/\Q c H1
theorem Ai4 {op:CmpOp}{t:TE}(h:PC X op a b t)(h1:behindInMarks op b=false:=by first | exact nobehind _ (by decide) (by decide) | rfl):PT X (.Compare a [op] [b] pos) (tB t):=by
 intro p_ s σ H Q I hw;refine wpAny_isTrue_Compare1 (thn (h p_ s σ H _ I hw) fun v s1 h1=>thn h1 fun u s2 h2=>thn h2 fun c s3 ⟨x,H1,I1,r1,q1⟩=>?_) h1;obtain⟨d,rfl,q⟩:=q1;cases r1;exact wpAny_truthy_bool ⟨H1,I1,q⟩
theorem Ad6 {e:adX}{t:TE}(h:PE X e t)(he:∀whole,isTrue e X.env whole=(do let v <-whole;standAt e.pos;holding [v] (truthy v)):=by intro _;rfl):PT X e (tB t):=by
 intro p_ s σ H Q I hw;refine isTrue_plain (thn (h p_ s σ H _ I hw) fun v s1 ⟨x,H1,I1,r1,q1⟩=>?_) (he _);obtain⟨d,rfl,q⟩:=q1;cases r1;exact wpAny_truthy_bool ⟨H1,I1,q⟩
variable {tA tB':TT}{rest:List adX}
def Bdl (t u:TT):TT:=fun σ H Q=>t σ H fun c H1=>if c=true then u σ H1 Q else Q false H1
def tOr (t u:TT):TT:=fun σ H Q=>t σ H fun c H1=>if c=true then Q true H1 else u σ H1 Q
def Bdj (t:TT):TT:=fun σ H Q=>t σ H fun c H1=>Q (!c) H1
theorem Adz (ha:PT X a tA):PW X (.BoolOp .And [a] pos) tA:=by
 intro wh p_ s σ H Q I h;refine isTrue_and (thn (ha p_ s σ H Q I h) fun c s1 e=>?_);cases c with
 | true=>exact isTrue_and_nil e
 | false=>exact e
theorem Ai2 (ha:PT X a tA):PW X (.BoolOp .Or [a] pos) tA:=by
 intro wh p_ s σ H Q I h;refine isTrue_or (thn (ha p_ s σ H Q I h) fun c s1 e=>?_);cases c with
 | false=>exact isTrue_or_nil e
 | true=>exact e
theorem Agb (ha:PT X a tA)(hb:PW X (.BoolOp .And (b::rest) pos) tB'):PW X (.BoolOp .And (a::b::rest) pos) (Bdl tA tB'):=by
 intro wh p_ s σ H Q I h;refine isTrue_and (thn (ha p_ s σ H _ I h) fun c s1 ⟨H1,I1,q1⟩=>?_);cases c with
 | true=>exact hb wh p_ s1 σ H1 Q I1 q1
 | false=>exact⟨H1,I1,q1⟩
theorem Aof (ha:PT X a tA)(hb:PW X (.BoolOp .Or (b::rest) pos) tB'):PW X (.BoolOp .Or (a::b::rest) pos) (tOr tA tB'):=by
 intro wh p_ s σ H Q I h;refine isTrue_or (thn (ha p_ s σ H _ I h) fun c s1 ⟨H1,I1,q1⟩=>?_);cases c with
 | true=>exact⟨H1,I1,q1⟩
 | false=>exact hb wh p_ s1 σ H1 Q I1 q1
theorem Aqj (ha:PT X a tA):PT X (.UnaryOp .Not a pos) (Bdj tA):=by
 intro p_ s σ H Q I h;exact isTrue_not (ha p_ s σ H (fun c H1=>Q (!c) H1) I h)
def Bc6 (ta tb:TE):TE:=fun σ H Q=>ta σ H fun x H1=>∃c,x=.bl c/\if c=true then tb σ H1 Q else Q (.bl false) H1
def Bdz (ta tb:TE):TE:=fun σ H Q=>ta σ H fun x H1=>∃c,x=.bl c/\if c=true then Q (.bl true) H1 else tb σ H1 Q
def Bc1 (ta:TE):TE:=fun σ H Q=>ta σ H fun x H1=>∃c,x=.bl c/\Q (.bl (!c)) H1
theorem Avg {op}{t:TE}(h:PE X a t):PE X (.BoolOp op [a] pos) t:=fun p_ s σ H Q I hw=>BoolOp_one (h p_ s σ H Q I hw)
theorem Ba5 (ha:PE X a ta)(hb:PE X (.BoolOp .And (b::rest) pos) tb):PE X (.BoolOp .And (a::b::rest) pos) (Bc6 ta tb):=by
 intro p_ s σ H Q I h;refine BoolOp_and (thn (ha p_ s σ H _ I h) fun v s1 ⟨x,H1,I1,r1,q1⟩=>?_);obtain⟨c,rfl,q1⟩:=q1;cases r1;refine wpAny_truthy_bool ?_;cases c with
 | true=>exact hb p_ s1 σ H1 Q I1 q1
 | false=>exact⟨.bl false,H1,I1,rfl,q1⟩
theorem Bcm (ha:PE X a ta)(hb:PE X (.BoolOp .Or (b::rest) pos) tb):PE X (.BoolOp .Or (a::b::rest) pos) (Bdz ta tb):=by
 intro p_ s σ H Q I h;refine BoolOp_or (thn (ha p_ s σ H _ I h) fun v s1 ⟨x,H1,I1,r1,q1⟩=>?_);obtain⟨c,rfl,q1⟩:=q1;cases r1;refine wpAny_truthy_bool ?_;cases c with
 | false=>exact hb p_ s1 σ H1 Q I1 q1
 | true=>exact⟨.bl true,H1,I1,rfl,q1⟩
theorem Ba0 (ha:PE X a ta):PE X (.UnaryOp .Not a pos) (Bc1 ta):=by
 intro p_ s σ H Q I h;refine UnaryOp_ (thn (ha p_ s σ H _ I h) fun v s1 ⟨x,H1,I1,r1,q1⟩=>?_);obtain⟨c,rfl,q1⟩:=q1;cases r1;exact not_of (wpAny_truthy_bool ⟨.bl (!c),H1,I1,rfl,q1⟩)
def tIf (t:TT)(ta tb:TE):TE:=fun σ H Q=>t σ H fun c H1=>if c=true then ta σ H1 Q else tb σ H1 Q
theorem Ath {c:adX}(hc:PT X c tA)(ha:PE X a ta)(hb:PE X b tb):PE X (.IfExp c a b pos) (tIf tA ta tb):=by
 intro p_ s σ H Q I h;refine wpAny_IfExp (thn (hc p_ s σ H _ I h) fun d s1 ⟨H1,I1,q1⟩=>?_);cases d with
 | true=>exact ha p_ s1 σ H1 Q I1 q1
 | false=>exact hb p_ s1 σ H1 Q I1 q1
end
def SqL (K:abA)(H:Hp)(a:Addr)(xs:List V):Prop :=
 Rd H a (.lst xs)\/
  ∃(o:Obj) (its:Array aaF) (n:Nat),K.lookup a=some o/\o.cls=.type "list"/\o.dict=none/\o.data=.seq its n/\its.size<=abB/\Vals xs its.toList
def SqT (K:abA)(H:Hp)(a:Addr)(xs:List V):Prop :=
 Rd H a (.tup xs)\/
  ∃(o:Obj) (its:Array aaF) (n:Nat),K.lookup a=some o/\o.cls=.type "tuple"/\o.data=.seq its n/\its.size<=abB/\Vals xs its.toList
def Bf5:aaF->Option V
 | .none=>some .non
 | .bool b=>some (.bl b)
 | .int i _=>some (.int i)
 | .str x _=>some (.str x)
 | .bytes b _=>some (.byt b)
 | .float b _=>some (.flt b)
 | .ref a=>some (.ref a)
 | .type n=>some (.ty n)
 | _=>none
theorem RelV.abs {x:V}{u:aaF}(r:RelV x u):Bf5 u=some x:=by
 cases x with
 | non=>cases r;rfl
 | bl _=>cases r;rfl
 | int _=>obtain⟨t,rfl⟩:=r;rfl
 | str _=>obtain⟨t,rfl⟩:=r;rfl
 | byt _=>obtain⟨t,rfl⟩:=r;rfl
 | flt _=>obtain⟨t,rfl⟩:=r;rfl
 | ref _=>cases r;rfl
 | ty _=>cases r;rfl
theorem RelV.inj {x y:V}{u:aaF}(r:RelV x u)(q:RelV y u):x=y:=abD (r.abs.symm.trans q.abs)
theorem Vals.inj:∀{xs ys:List V} {us:List aaF},Vals xs us->Vals ys us->xs=ys
 | _,_,_,.nil,.nil=>rfl
 | _,_,_,.cons r t,.cons r' t'=>by rw[r.inj r',Vals.inj t t']
section
variable {X:Cx}{p_:List (Addr×Obj)}{σ:St}{H:Hp}{s:aaI}{a:Addr}{xs ys:List V}
theorem SqL.of {K:abA}(h:H a=some (.lst xs)):SqL K H a xs:=.inl (.inl h)
theorem SqT.of {K:abA}(h:H a=some (.tup xs)):SqT K H a xs:=.inl (.inl h)
theorem Inv.list (I:Inv X p_ σ H s)(h:SqL X.K H a xs):∃its:List aaF,Vals xs its/\PlainL s.heap a its.toArray/\xs.length<=abB:=by
 rcases h with h | ⟨o,its,n,hk,hc,hd,hs,hz,r⟩
 ·obtain⟨z,its,n,r,e⟩:=h.ok I.hok;exact⟨its,r,⟨_,n,e,rfl,rfl,rfl⟩,z⟩
 ·refine⟨its.toList,r,⟨o,n,I.kIn a o hk,hc,hd,by simpa using hs⟩,?_⟩;have e:=r.length;simp only[agJ]at e;lia
theorem Inv.tuple (I:Inv X p_ σ H s)(h:SqT X.K H a xs):∃its:List aaF,Vals xs its/\IsTup s.heap a its.toArray/\xs.length<=abB:=by
 rcases h with h | ⟨o,its,n,hk,hc,hs,hz,r⟩
 ·obtain⟨z,its,r,p⟩:=h.ok I.hok;exact⟨its,r,p,z⟩
 ·refine⟨its.toList,r,⟨o,I.kIn a o hk,hc,n,by simpa using hs⟩,?_⟩;have e:=r.length;simp only[agJ]at e;lia
theorem Inv.list_inj (I:Inv X p_ σ H s)(h:SqL X.K H a xs)(h':SqL X.K H a ys):xs=ys:=by
 obtain⟨its,r,⟨o,n,e,_,_,d⟩,_⟩:=I.list h;obtain⟨its',r',⟨o',n',e',_,_,d'⟩,_⟩:=I.list h';rw[e]at e';cases e';rw[d]at d';injection d' with d1 _
 have:its=its':=by simpa using congrArg anF d1
 subst this;exact r.inj r'
theorem Inv.tuple_inj (I:Inv X p_ σ H s)(h:SqT X.K H a xs)(h':SqT X.K H a ys):xs=ys:=by
 obtain⟨its,r,⟨o,e,_,n,d⟩,_⟩:=I.tuple h;obtain⟨its',r',⟨o',e',_,n',d'⟩,_⟩:=I.tuple h';rw[e]at e';cases e';rw[d]at d';injection d' with d1 _
 have:its=its':=by simpa using congrArg anF d1
 subst this;exact r.inj r'
end
abbrev Cx.wish (X:Cx)(E:aaF->aaI->Prop):Cx:={ X with xe:=E }
abbrev Cx.nox (X:Cx):Cx:=X.wish fun _ _=>False
theorem Cx.Ok.wish {X:Cx}(ok:X.Ok)(E:aaF->aaI->Prop):(X.wish E).Ok :=
 ⟨ok.mod,ok.kind,ok.glob,ok.blt,ok.above,ok.inj,ok.has,ok.cab,ok.hd,ok.frames,ok.stk,ok.exf,ok.bs,ok.bsz,ok.noex,ok.exfs,ok.funs,ok.frf⟩
theorem Cx.Ok.unwish {X:Cx}{E:aaF->aaI->Prop}(ok:(X.wish E).Ok):X.Ok :=
 ⟨ok.mod,ok.kind,ok.glob,ok.blt,ok.above,ok.inj,ok.has,ok.cab,ok.hd,ok.frames,ok.stk,ok.exf,ok.bs,ok.bsz,ok.noex,ok.exfs,ok.funs,ok.frf⟩
section
variable {X:Cx}{p_:List (Addr×Obj)}{σ:St}{H:Hp}{s:aaI}{E:aaF->aaI->Prop}
theorem Inv.wish (I:Inv X p_ σ H s)(E:aaF->aaI->Prop):Inv (X.wish E) p_ σ H s:=⟨I.ok.wish E,I.os,I.bare,I.base,I.loc,I.cell,I.free,I.freeC,I.pin,I.hok,I.len⟩
theorem Inv.unwish (I:Inv (X.wish E) p_ σ H s):Inv X p_ σ H s:=⟨I.ok.unwish,I.os,I.bare,I.base,I.loc,I.cell,I.free,I.freeC,I.pin,I.hok,I.len⟩
theorem SP.unwish {D:Asm}{f:Flow}{s':aaI}(h:SP (X.wish E) p_ D f s'):SP X p_ D f s':=by
 cases f with
 | next=>obtain⟨σ',H',I,q⟩:=h;exact⟨σ',H',I.unwish,q⟩
 | brk=>obtain⟨σ',H',I,q⟩:=h;exact⟨σ',H',I.unwish,q⟩
 | cont=>obtain⟨σ',H',I,q⟩:=h;exact⟨σ',H',I.unwish,q⟩
 | ret u=>obtain⟨v,σ',H',I,r,q⟩:=h;exact⟨v,σ',H',I.unwish,r,q⟩
theorem PSs.nox {st:List afD}{t:TS}(h:PSs X.nox st t):PSs X st t:=fun p_ s σ H D I hw =>
 aeE (h p_ s σ H D (I.wish _) hw) (fun _ _ q=>q.unwish) fun _ _ z=>acM z
end
section
variable {X:Cx}{st:afD}{rest:List afD}{t u:TS}{e:adX}{te:TE}{pos:Pos}
def App:TS:=fun D σ H=>D.nx σ H
def Bdi (t u:TS):TS:=fun D σ H=>t { D with nx:=u D } σ H
theorem Aag:PSs X [] App:=fun _ _ σ H _ I h=>wpAny_execs_nil ⟨σ,H,I,h⟩
theorem Aa2 (h1:PS X st t)(h2:PSs X rest u):PSs X (st::rest) (Bdi t u):=by
 intro p_ s σ H D I h;refine wpAny_execs_cons (thn (h1 p_ s σ H { D with nx:=u D } I h) fun f s1 q=>?_);cases f with
 | next =>
  obtain⟨σ',H',I',q⟩:=q;exact h2 p_ s1 σ' H' D I' q
 | ret v=>exact q
 | brk=>exact q
 | cont=>exact q
theorem Aa4 (h1:PS X st t):PSs X [st] t:=by
 intro p_ s σ H D I h;refine wpAny_execs_cons (thn (h1 p_ s σ H D I h) fun f s1 q=>?_);cases f with
 | next=>exact wpAny_execs_nil q
 | ret v=>exact q
 | brk=>exact q
 | cont=>exact q
theorem Inv.quiet {p_:List (Addr×Obj)}{σ:St}{H:Hp}{s:aaI}(I:Inv X p_ σ H s):interactive X.env=false:=by simp[interactive,I.ok.kind]
def Aza (te:TE):TS:=fun D σ H=>te σ H fun _ H1=>D.nx σ H1
theorem Abc (he:PE X e te)(hs:ajB e none pos.line X.env=pure false:=by rfl):PS X (.Expr e pos) (Aza te):=by
 intro p_ s σ H D I h;exact wpAny_Expr_any (thn (he p_ s σ H _ I h) fun v s1 ⟨x,H1,I1,r1,q1⟩=>⟨σ,H1,I1,q1⟩) I.quiet hs
def Aso (te:TE):TS:=fun D σ H=>te σ H D.rt
theorem Aa9 (he:PE X e te):PS X (.Return (some e) pos) (Aso te):=by
 intro p_ s σ H D I h;exact wpAny_Return_some (thn (he p_ s σ H _ I h) fun v s1 ⟨x,H1,I1,r1,q1⟩=>⟨x,σ,H1,I1,r1,q1⟩)
def Az9 (c:TT)(t u:TS):TS:=fun D σ H=>c σ H fun b H1=>if b=true then t D σ H1 else u D σ H1
theorem Aav {c:adX}{a b:List afD}{tc:TT}(hc:PT X c tc)(ha:PSs X a t)(hb:PSs X b u):PS X (.If c a b pos) (Az9 tc t u):=by
 intro p_ s σ H D I h;refine wpAny_If (thn (hc p_ s σ H _ I h) fun d s1 ⟨H1,I1,q1⟩=>?_);cases d with
 | true=>exact ha p_ s1 σ H1 D I1 q1
 | false=>exact hb p_ s1 σ H1 D I1 q1
end
abbrev TG:=V->St->Hp->(St->Hp->Prop)->Prop
abbrev TGs:=List V->St->Hp->(St->Hp->Prop)->Prop
def PG (X:Cx)(target:adX)(t:TG):Prop :=
 ∀(p_:List (Addr×Obj)) (s:aaI) (σ:St) (H:Hp) (v:V) (u:aaF) (Q:St->Hp->Prop),Inv X p_ σ H s->RelV v u->t v σ H Q->
  abM (model X.prog X.w) X.A (assign target X.env u) (fun _ s'=>∃σ' H',Inv X p_ σ' H' s'/\Q σ' H') X.xe s
def PGs (X:Cx)(ts:List adX)(t:TGs):Prop :=
 ∀(p_:List (Addr×Obj)) (s:aaI) (σ:St) (H:Hp) (vs:List V) (us:List aaF) (Q:St->Hp->Prop),Inv X p_ σ H s->Vals vs us->t vs σ H Q->
  abM (model X.prog X.w) X.A (assignInOrder ((assignEach ts X.env).map (·.2)) us) (fun _ s'=>∃σ' H',Inv X p_ σ' H' s'/\Q σ' H') X.xe s
abbrev TIp:=V->V->Hp->VK->Prop
def PIp (X:Cx)(op:Operator)(t:TIp):Prop :=
 ∀(p_:List (Addr×Obj)) (s:aaI) (σ:St) (H:Hp) (x y:V) (v u:aaF) (Q:VK),Inv X p_ σ H s->RelV x v->RelV y u->t x y H Q->
  abM (model X.prog X.w) X.A (inplaceOp op v u) (EP X p_ σ Q) X.xe s
section
variable {X:Cx}{pos:Pos}
def Ahq (i:Nat):TG:=fun v σ H Q=>Q (σ.set i (some v)) H
theorem Alv {i:Nat}{x:Str}(hN:X.N.Nodup)(hi:X.N[i]?=some x)(hx:Loc X.env.scope x)(hf:X.fn x=true\/X.env.scope.names.lookup x=some .local:=by first | exact .inl rfl | exact .inr rfl | assumption):PG X (.Name x pos) (Ahq i):=by
 intro p_ s σ H v u Q I r h;exact wpAny_assign_Name (Ais I hN hi hx r (fun s' I'=>⟨_,H,I',h⟩) hf)
def Bd8:TGs:=fun vs σ H Q=>vs=[]/\Q σ H
def Arw (t:TG)(u:TGs):TGs:=fun vs σ H Q=>∃v r,vs=v::r/\t v σ H fun σ' H'=>u r σ' H' Q
theorem Aax:PGs X [] Bd8:=by
 intro p_ s σ H vs us Q I r h;obtain⟨e,h⟩:=h;subst e;cases r;exact assignInOrder_nil ⟨σ,H,I,h⟩
theorem Aab {e:adX}{es:List adX}{t:TG}{u:TGs}(h1:PG X e t)(h2:PGs X es u)
 (hs:(assignEach (e::es) X.env).map (·.2)=assign e X.env::(assignEach es X.env).map (·.2):=by rfl):PGs X (e::es) (Arw t u):=by
 intro p_ s σ H vs us Q I r h;obtain⟨v,vr,e1,h⟩:=h;subst e1;cases r with
 | cons r rr =>
  rw[hs];refine assignInOrder_cons (thn (h1 p_ s σ H _ _ _ I r h) fun _ s1 ⟨σ1,H1,I1,q1⟩=>?_);exact h2 p_ s1 σ1 H1 _ _ Q I1 rr q1
def Bd7 (K:abA)(n:Nat)(t:TGs):TG:=fun v σ H Q=>∃a xs,v=.ref a/\SqT K H a xs/\xs.length=n/\t xs σ H Q
theorem Abi {es:List adX}{k:Nat}{t:TGs}{n:Nat}(hc:X.calm=true)(h:PGs X es t)
 (hn:(assignEach es X.env).length=n:=by rfl) (hst:(assignEach es X.env).findIdx? (·.1)=none:=by rfl):PG X (.Tuple es k pos) (Bd7 X.K n t):=by
 intro p_ s σ H v u Q I r hw;obtain⟨a,xs,e1,hq,hl,hw⟩:=hw;subst e1;cases r;obtain⟨its,rv,ht,hz⟩:=I.tuple hq;refine assign_Tuple_tuple (I.ok.hd hc) ht (by simp[hn,<-hl,rv.length]) hst fun h' hx=>?_;have I1:Inv X p_ σ H { s with heap:=h' }:=I.kept (t':=s.toks) fun b o e=>hx b o (acJ (aaS e)) e;exact h p_ _ σ H xs _ Q I1 (by simpa using rv) hw
def Bc5 (te:TE)(g:TG):TS:=fun D σ H=>te σ H fun x H1=>g x σ H1 D.nx
theorem Ave {i:Nat}{x:Str}{e:adX}{te:TE}{pos':Pos}(hN:X.N.Nodup)(hi:X.N[i]?=some x)(hx:Loc X.env.scope x)(he:PE X e te)(hs:ajB e (some (.Name x pos')) pos.line X.env=pure false:=by rfl)(hf:X.fn x=true\/X.env.scope.names.lookup x=some .local:=by first | exact .inl rfl | exact .inr rfl | assumption) :
 PS X (.Assign [.Name x pos'] e pos) (Bc5 te (Ahq i)):=by
 intro p_ s σ H D I h;refine wpAny_Assign_Name (thn (he p_ s σ H _ I h) fun v s1 ⟨y,H1,I1,r1,q1⟩=>?_) hs;exact Ais I1 hN hi hx r1 (fun s2 I2=>⟨_,H1,I2,q1⟩) hf
def Be5 (i:Nat)(te:TE)(ti:TIp):TS:=fun D σ H=>∃x,σ[i]?=some (some x)/\te σ H fun y H1=>ti x y H1 fun z H2=>D.nx (σ.set i (some z)) H2
theorem An8 {i:Nat}{x:Str}{e:adX}{te:TE}{op:Operator}{ti:TIp}{pos':Pos}(hN:X.N.Nodup)(hi:X.N[i]?=some x)(hx:Loc X.env.scope x)(he:PE X e te)(ho:PIp X op ti)(hf:X.fn x=true\/X.env.scope.names.lookup x=some .local:=by first | exact .inl rfl | exact .inr rfl | assumption) :
 PS X (.AugAssign (.Name x pos') op e pos) (Be5 i te ti):=by
 intro p_ s σ H D I h;obtain⟨v,e1,h⟩:=h;obtain⟨m,hn,hl⟩:=I.loc;have vis:Vis X.env.scope x:=by rcases hx with k | k;exact .inl k;exact .inr (.inl k)
 obtain⟨u,r,l⟩:=hl i x v hi e1 vis;refine wpAny_AugAssign_Name ?_;have go:abM (model X.prog X.w) X.A (eval e X.env) (fun w s₂=>abM (model X.prog X.w) X.A (inplaceOp op u w) (fun r s₃=>abM (model X.prog X.w) X.A (storeName X.env x r) (fun _=>SP X p_ D .next) X.xe s₃) X.xe s₂) X.xe s:=by
  refine thn (he p_ s σ H _ I h) fun w s1 ⟨y,H1,I1,r1,q1⟩=>?_;refine thn (ho p_ s1 σ H1 v y u w _ I1 r r1 q1) fun z s2 ⟨zv,H2,I2,r2,q2⟩=>?_;exact Ais I2 hN hi hx r2 (fun s3 I3=>⟨_,H2,I3,q2⟩) hf
 rcases l with ⟨hk,hm⟩ | ⟨hk,c,hc,hcell⟩
 ·exact wpAny_loadName_local I.ok.kind hk hn hm go
 ·rcases hk with hk | hk
  ·exact wpAny_loadName_cell I.ok.kind hk hc hcell go
  ·rcases hx with k | k
   ·have:X.env.scope.names.lookup x=some .free:=hk;rw[k]at this;cases this
   ·have:X.env.scope.names.lookup x=some .free:=hk;rw[k]at this;cases this
def ipI (f:Int->Int->Int):TIp:=fun x y H Q=>∃i j,x=.int i/\y=.int j/\Q (.int (f i j)) H
theorem Arn:PIp X .Add (ipI fun i j=>i+j):=by
 intro p_ s σ H x y v u Q I r1 r2 h;obtain⟨i,j,e1,e2,q⟩:=h;subst e1;subst e2;obtain⟨t,rfl⟩:=r1;obtain⟨t',rfl⟩:=r2;exact iadd_int ⟨.int _,H,I.tok _,⟨_,rfl⟩,q⟩
theorem Bb9:PIp X .Sub (ipI fun i j=>i-j):=by
 intro p_ s σ H x y v u Q I r1 r2 h;obtain⟨i,j,e1,e2,q⟩:=h;subst e1;subst e2;obtain⟨t,rfl⟩:=r1;obtain⟨t',rfl⟩:=r2;exact isub_int ⟨.int _,H,I.tok _,⟨_,rfl⟩,q⟩
end
section
variable {X:Cx}{pos:Pos}
def Az5 (c:TT)(tb:TS):TS:=fun D σ H=>∃W:Nat->St->Hp->Prop,(∃m,W m σ H)/\∀m σ H,W m σ H->
 c σ H fun b H1=>if b=true then ∃N:St->Hp->Prop,(∀σ' H',N σ' H'->∃m',m'<m/\W m' σ' H')/\tb { D with nx:=N,ct:=N,bk:=D.nx } σ H1 else D.nx σ H1
theorem Aj4 {c:adX}{body:List afD}{tc:TT}{tb:TS}(hp:PassesOwn (model X.prog X.w) X.A X.env X.xe)(hc:PT X c tc)(hb:PSs X body tb):PS X (.While c body [] pos) (Az5 tc tb):=by
 intro p_ s σ H D I h;obtain⟨W,⟨m0,w0⟩,turn⟩:=h;refine wpAny_While (codeAny_whileLoop (fun n s'=>∃σ' H',Inv X p_ σ' H' s'/\W n σ' H') ?_ m0 ⟨σ,H,I,w0⟩);rintro n s1 ⟨σ1,H1,I1,w1⟩;refine wpAny_passesOwn hp (thn (hc p_ s1 σ1 H1 _ I1 (turn n σ1 H1 w1)) fun b s2 ⟨H2,I2,q2⟩=>?_);cases b with
 | true =>
  obtain⟨N,hN,q2⟩:=q2;rw[ifp rfl];refine wpAny_passesOwn hp (thn (hb p_ s2 σ1 H2 _ I2 q2) fun f s3 q3=>?_);cases f with
  | next =>
   obtain⟨σ3,H3,I3,n3⟩:=q3;obtain⟨m',hm,w3⟩:=hN σ3 H3 n3;exact⟨m',hm,σ3,H3,I3,w3⟩
  | cont =>
   obtain⟨σ3,H3,I3,n3⟩:=q3;obtain⟨m',hm,w3⟩:=hN σ3 H3 n3;exact⟨m',hm,σ3,H3,I3,w3⟩
  | brk=>exact q3
  | ret v=>exact q3
 | false =>
  rw[ifn abG];exact wpAny_execs_nil ⟨σ1,H2,I2,q2⟩
end
structure It where
 go:Nat->Hp->Prop
 yld:Nat->Hp->V->Hp->Prop
 stop:Nat->Hp->Prop
def FpOk (X:Cx)(p_:List (Addr×Obj))(H:Hp)(b:Addr):Prop :=
 H b=none/\b≠X.env.locals/\b∉X.fs/\(b∈X.ex\/X.s_0.heap.objs.size<=b)/\(∀x c,X.env.cells.lookup x=some c->c≠b)/\∀p∈X.pn++p_,p.1≠b
theorem Inv.fpOk {X:Cx}{p_:List (Addr×Obj)}{σ:St}{H H':Hp}{s:aaI}{b:Addr}(I:Inv X p_ σ H s)(hb:s.heap.objs.size<=b)(hn:H' b=none):FpOk X p_ H' b:=by
 refine⟨hn,ahF (abV I.lt hb),I.nofs hb,.inr (abI I.sz hb),fun x c e z=>?_,fun p hp z=>?_⟩
 ·obtain⟨v,q⟩:=I.cell x c e;exact absurd (abV q.lt (by rw[z];exact hb)) (adZ _)
 ·exact absurd (abV (aaS (I.pin p hp).1) (by rw[z];exact hb)) (adZ _)
structure Ayt (P:abS)(w:adI)(K:abA)(tg:adX)(J:It)(fp:List Addr)(it:Addr)(tn:Nat->Heap->Prop):Prop where
 mem:it∈fp
 obj:∀i h,tn i h->∀b∈fp,∃o,h.get? b=some o/\∀v,o.data≠.cell v
 keep:∀i h h',tn i h->(∀b∈fp,∀o,h.get? b=some o->h'.get? b=some o)->tn i h'
 item:∀(X:Cx),X.prog=P->X.w=w->X.K=K->X.calm=true->∀(i:Nat) (p_:List (Addr×Obj)) (s:aaI) (σ:St) (H:Hp) (E:aaF->aaI->Prop),Inv X p_ σ H s->(∀b∈fp,FpOk X p_ H b)->tn i s.heap->J.go i H->
  abM (model P w) X.A (pyNext (.ref it)) (fun r s1=>∃u,r=some u/\
   abM (model P w) X.A (letOwnedTupleGo tg (.ref it) u) (fun _ s2=>∃x H',Inv X p_ σ H' s2/\RelV x u/\J.yld i H x H'/\tn (i+1) s2.heap/\∀b∈fp,H' b=none) E s1) E s
 done:∀(X:Cx),X.prog=P->X.w=w->X.K=K->X.calm=true->∀(i:Nat) (p_:List (Addr×Obj)) (s:aaI) (σ:St) (H:Hp) (E:aaF->aaI->Prop),Inv X p_ σ H s->(∀b∈fp,FpOk X p_ H b)->tn i s.heap->J.stop i H->
  abM (model P w) X.A (pyNext (.ref it)) (fun r s1=>r=none/\Inv X p_ σ H s1) E s
 self:∀(A:adE) (i:Nat) (s:aaI) (Q:aaF->aaI->Prop) (E:aaF->aaI->Prop),tn i s.heap->Q (.ref it) s->abM (model P w) A (pyIter (.ref it)) Q E s
abbrev TI:=St->Hp->(It->Hp->Prop)->Prop
def PIE (X:Cx)(p_:List (Addr×Obj))(σ:St)(tg:adX)(R:It->Hp->Prop)(itv:aaF)(s2:aaI):Prop :=
 ∃(it:Addr) (fp:List Addr) (tn:Nat->Heap->Prop) (J:It) (H':Hp),itv=.ref it/\Inv X p_ σ H' s2/\Ayt X.prog X.w X.K tg J fp it tn/\tn 0 s2.heap/\(∀b∈fp,FpOk X p_ H' b)/\R J H'
def PI (X:Cx)(tg iter:adX)(wi:TI):Prop :=
 ∀(p_:List (Addr×Obj)) (s:aaI) (σ:St) (H:Hp) (R:It->Hp->Prop),Inv X p_ σ H s->wi σ H R->
  abM (model X.prog X.w) X.A (eval iter X.env) (fun v s1=>abM (model X.prog X.w) X.A (pyIter v) (PIE X p_ σ tg R) X.xe s1) X.xe s
theorem Ay1 {M:Model}{A:adE}{E:aaF->aaI->Prop}{s:aaI}{tg:adX}{it:Addr}{u:aaF}{o:Obj}{n:String}{vs:Array aaF}{Q:Unit->aaI->Prop}(ho:s.heap.get? it=some o)(hc:o.cls=.type n)(hd:o.data=.fields vs)
 (hn:["enumerate","zip","dict_itemiterator","dict_reverseitemiterator","odict_iterator","itertools.zip_longest","itertools.pairwise"].contains n=false) (hQ:Q () s):abM M A (letOwnedTupleGo tg (.ref it) u) Q E s:=by
 unfold letOwnedTupleGo;cases tg<;>first
  | exact aaL hQ
  | (cases u<;>first
   | exact aaL hQ
   | (refine wpAny_bind (wpAny_load ho ?_)
      rw[hc,hd];show abM M A (if (["enumerate","zip","dict_itemiterator","dict_reverseitemiterator","odict_iterator","itertools.zip_longest","itertools.pairwise"].contains n&&vs[0]?==some (rawInt _))=true then _ else _) Q E s;rw[ifn (by intro h;rw[hn,ajS]at h;cases h)]
      exact aaL hQ))
def Itl (K:abA)(a:Addr):It :=
 ⟨fun i H=>∃xs x,SqL K H a xs/\xs[i]?=some x,fun i H x H'=>H'=H/\∀xs,SqL K H a xs->xs[i]?=some x,fun i H=>∃xs,SqL K H a xs/\xs.length<=i⟩
def Itt (K:abA)(a:Addr):It :=
 ⟨fun i H=>∃xs x,SqT K H a xs/\xs[i]?=some x,fun i H x H'=>H'=H/\∀xs,SqT K H a xs->xs[i]?=some x,fun i H=>∃xs,SqT K H a xs/\xs.length<=i⟩
def Itr (lo:Int)(n:Nat):It:=⟨fun i _=>i<n,fun i H x H'=>H'=H/\x=.int (lo+i),fun i _=>n<=i⟩
theorem Api {P:abS}{w:adI}{K:abA}{tg:adX}(a it:Addr):Ayt P w K tg (Itl K a) [it] it (fun i h=>h.IsListIter it a i) where
 mem:=by simp
 obj:=fun i h st b hb=>by
  have e:b=it:=by simpa using hb
  subst e;obtain⟨o,e,c,d⟩:=st;exact⟨o,e,fun v z=>by rw[d]at z;cases z⟩
 keep:=fun i h h' st k=>st.at fun o e=>k it (by simp) o e
 item:=by
  intro X hP hw hK hc i p_ s σ H E I hf st hg;subst hP hw hK;obtain⟨xs,x,hq,hx⟩:=hg;obtain⟨its,rv,p,hz⟩:=I.list hq;obtain⟨u,hu,ru⟩:=rv.get hx;obtain⟨f0,f1,f2,f3,f4,f5⟩:=hf it (by simp);refine wpAny_pyNext_list_item st p.isList (x:=u) (by simpa using hu) fun h' st' sb=>?_;have I1:Inv X p_ σ H { s with heap:=h' }:=I.turned (t':=s.toks) (fun b o hb e=>(sb.2 b hb).trans e) f0 f1 f3 f4 f5;obtain⟨o,e,c,d⟩:=id st'
  exact⟨u,rfl,Ay1 (s:={ s with heap:=h' }) e c d (by decide) ⟨x,H,I1,ru,⟨rfl,fun ys hy=>by rw[I.list_inj hy hq];exact hx⟩,st',fun b hb=>(hf b hb).1⟩⟩
 done:=by
  intro X hP hw hK hc i p_ s σ H E I hf st hg;subst hP hw hK;obtain⟨xs,hq,hx⟩:=hg;obtain⟨its,rv,p,hz⟩:=I.list hq;obtain⟨f0,f1,f2,f3,f4,f5⟩:=hf it (by simp);have hl:=rv.length;exact wpAny_pyNext_list_end (I.ok.hd hc) st p.isList (by simp;lia) fun h' eb=>⟨rfl,I.turned (t':=s.toks) (fun b o hb e=>eb b o hb e) f0 f1 f3 f4 f5⟩
 self:=fun _ _ _ _ _ st h=>wpAny_pyIter_listiter st h
theorem Ao5 {P:abS}{w:adI}{K:abA}{tg:adX}(a it:Addr):Ayt P w K tg (Itt K a) [it] it (fun i h=>h.IsTupleIter it a i) where
 mem:=by simp
 obj:=fun i h st b hb=>by
  have e:b=it:=by simpa using hb
  subst e;obtain⟨o,e,c,d⟩:=st;exact⟨o,e,fun v z=>by rw[d]at z;cases z⟩
 keep:=fun i h h' st k=>st.at fun o e=>k it (by simp) o e
 item:=by
  intro X hP hw hK hc i p_ s σ H E I hf st hg;subst hP hw hK;obtain⟨xs,x,hq,hx⟩:=hg;obtain⟨its,rv,p,hz⟩:=I.tuple hq;obtain⟨u,hu,ru⟩:=rv.get hx;obtain⟨f0,f1,f2,f3,f4,f5⟩:=hf it (by simp);refine wpAny_pyNext_tuple_item st (show s.heap.IsTuple a its.toArray from p) (x:=u) (by simpa using hu) fun h' st' sb=>?_;have I1:Inv X p_ σ H { s with heap:=h' }:=I.turned (t':=s.toks) (fun b o hb e=>(sb.2 b hb).trans e) f0 f1 f3 f4 f5
  obtain⟨o,e,c,d⟩:=id st';exact⟨u,rfl,Ay1 (s:={ s with heap:=h' }) e c d (by decide) ⟨x,H,I1,ru,⟨rfl,fun ys hy=>by rw[I.tuple_inj hy hq];exact hx⟩,st',fun b hb=>(hf b hb).1⟩⟩
 done:=by
  intro X hP hw hK hc i p_ s σ H E I hf st hg;subst hP hw hK;obtain⟨xs,hq,hx⟩:=hg;obtain⟨its,rv,p,hz⟩:=I.tuple hq;obtain⟨f0,f1,f2,f3,f4,f5⟩:=hf it (by simp);have hl:=rv.length;exact wpAny_pyNext_tuple_end (I.ok.hd hc) st (show s.heap.IsTuple a its.toArray from p) (by simp;lia) fun h' eb=>⟨rfl,I.turned (t':=s.toks) (fun b o hb e=>eb b o hb e) f0 f1 f3 f4 f5⟩
 self:=fun _ _ _ _ _ st h=>wpAny_pyIter_tupleiter st h
theorem Ao6 {P:abS}{w:adI}{K:abA}{tg:adX}(it:Addr)(lo:Int)(n:Nat):Ayt P w K tg (Itr lo n) [it] it (fun i h=>IsRangeIter h it (lo+(i:Nat)*1) ((n:Int)-(i:Nat)) 1) where
 mem:=by simp
 obj:=fun i h st b hb=>by
  have e:b=it:=by simpa using hb
  subst e
  exact⟨_,st,fun v z=>by
   have z':Data.fields _=Data.cell v:=z
   cases z'⟩
 keep:=fun i h h' st k=>k it (by simp) _ st
 item:=by
  intro X hP hw hK hc i p_ s σ H E I hf st hg;subst hP hw hK;obtain⟨f0,f1,f2,f3,f4,f5⟩:=hf it (by simp);have W:=Walks.range (prog:=X.prog) (w:=X.w) (I.ok.hd hc) it lo 1 n;refine W.item i s _ _ hg st fun v h' tk hv st' kk=>?_;obtain⟨t,rfl⟩:=hv;have I1:Inv X p_ σ H { s with heap:=h',toks:=tk }:=I.turned (fun b o hb e=>kk b o (by simpa using hb) e) f0 f1 f3 f4 f5;refine⟨_,rfl,Ay1 (s:={ s with heap:=h',toks:=tk }) (n:="range_iterator") st' rfl rfl (by decide) ⟨.int (lo+i),H,I1,⟨t,?_⟩,⟨rfl,rfl⟩,st',fun b hb=>(hf b hb).1⟩⟩
  rw[Int.mul_one]
 done:=by
  intro X hP hw hK hc i p_ s σ H E I hf st hg;subst hP hw hK;obtain⟨f0,f1,f2,f3,f4,f5⟩:=hf it (by simp);exact wpAny_pyNext_range_end (I.ok.hd hc) st (by have:n<=i:=hg;lia) fun h' eb=>⟨rfl,I.turned (t':=s.toks) (fun b o hb e=>eb b o hb e) f0 f1 f3 f4 f5⟩
 self:=fun _ _ _ _ _ st h=>wpAny_pyIter_rangeiter st h
section
variable {X:Cx}{tg:adX}
def Bd5 (K:abA)(tl:TE):TI:=fun σ H R=>tl σ H fun x H1=>∃a,x=.ref a/\(∃xs,SqL K H1 a xs)/\R (Itl K a) H1
def Bev (K:abA)(tl:TE):TI:=fun σ H R=>tl σ H fun x H1=>∃a,x=.ref a/\(∃xs,SqT K H1 a xs)/\R (Itt K a) H1
theorem Aaw {l:adX}{tl:TE}(hl:PE X l tl):PI X tg l (Bd5 X.K tl):=by
 intro p_ s σ H R I h;refine thn (hl p_ s σ H _ I h) fun v s1 ⟨x,H1,I1,r1,q1⟩=>?_;obtain⟨a,e,⟨xs,hq⟩,q⟩:=q1;subst e;cases r1;obtain⟨its,rv,p,hz⟩:=I1.list hq;refine wpAny_pyIter_list p.isList ?_;refine⟨s1.heap.objs.size,[s1.heap.objs.size],_,_,H1,rfl,I1.kept (t':=s1.toks) fun b o e=>aaD _ e,Api a _,⟨_,aaO _ rfl,rfl,rfl⟩,fun b hb=>?_,q⟩;have e:b=s1.heap.objs.size:=by simpa using hb
 subst e;exact I1.fpOk (aaK _) (I1.hok.fresh (aaK _))
theorem Akn {l:adX}{tl:TE}(hl:PE X l tl):PI X tg l (Bev X.K tl):=by
 intro p_ s σ H R I h;refine thn (hl p_ s σ H _ I h) fun v s1 ⟨x,H1,I1,r1,q1⟩=>?_;obtain⟨a,e,⟨xs,hq⟩,q⟩:=q1;subst e;cases r1;obtain⟨its,rv,p,hz⟩:=I1.tuple hq;refine wpAny_pyIter_tuple (show s1.heap.IsTuple a its.toArray from p) ?_;refine⟨s1.heap.objs.size,[s1.heap.objs.size],_,_,H1,rfl,I1.kept (t':=s1.toks) fun b o e=>aaD _ e,Ao5 a _,⟨_,aaO _ rfl,rfl,rfl⟩,fun b hb=>?_,q⟩
 have e:b=s1.heap.objs.size:=by simpa using hb
 subst e;exact I1.fpOk (aaK _) (I1.hok.fresh (aaK _))
theorem An6 {p_:List (Addr×Obj)}{σ:St}{H:Hp}{s:aaI}{R:It->Hp->Prop}{E:aaF->aaI->Prop}{lo hi:Int}{t u v:Tok}{tk:Nat}(I:Inv X p_ σ H s)(h1 : -(2 ^ 62)<=lo)(h2:lo<2 ^ 62)(h3 : -(2 ^ 62)<=hi)(h4:hi<2 ^ 62)
 (q:R (Itr lo (hi-lo).toNat) H):abM (model X.prog X.w) X.A (pyIter (.ref s.heap.objs.size)) (PIE X p_ σ tg R) E { s with heap:=s.heap.push { cls:=.type "range",data:=.fields #[.int lo t,.int hi u,.int 1 v] },toks:=tk }:=by
 refine wpAny_pyIter_range (IsRange.new ..) (small_one h1 h2 h3 h4) ?_;have I1:Inv X p_ σ H { s with heap:=s.heap.push { cls:=.type "range",data:=.fields #[.int lo t,.int hi u,.int 1 v] },toks:=tk }:=I.kept fun b o e=>aaD _ e
 refine⟨(s.heap.push { cls:=.type "range",data:=.fields #[.int lo t,.int hi u,.int 1 v] }).objs.size,[(s.heap.push { cls:=.type "range",data:=.fields #[.int lo t,.int hi u,.int 1 v] }).objs.size],_,_,H,rfl,
  I1.kept (t':=tk) fun b o e=>aaD _ e,Ao6 _ lo (hi-lo).toNat,?_,fun b hb=>?_,q⟩
 ·have e1:lo+((0:Nat):Int)*1=lo:=by simp
  have e2:(((hi-lo).toNat:Nat):Int)-((0:Nat):Int)=Builtin.Range.rangeSize lo hi 1:=by rw[rangeSize_one];split<;>lia
  show IsRangeIter _ _ (lo+((0:Nat):Int)*1) ((((hi-lo).toNat:Nat):Int)-((0:Nat):Int)) 1;rw[e1,e2];exact aaO _ rfl
 ·have e:b=(s.heap.push { cls:=.type "range",data:=.fields #[.int lo t,.int hi u,.int 1 v] }).objs.size:=by simpa using hb
  subst e;exact I1.fpOk (aaK _) (I1.hok.fresh (aaK _))
def Bd4 (ta:TA):TI:=fun σ H R=>ta σ H fun vs H1=>∃j:Int,vs=[.int j]/\-(2 ^ 62)<=j/\j<2 ^ 62/\R (Itr 0 j.toNat) H1
def Bd3 (ta:TA):TI:=fun σ H R=>ta σ H fun vs H1=>∃i j:Int,vs=[.int i,.int j]/\(-(2 ^ 62)<=i/\i<2 ^ 62/\-(2 ^ 62)<=j/\j<2 ^ 62)/\R (Itr i (j-i).toNat) H1
theorem Abz {a:adX}{ta:TA}{p pos:Pos}(hg:Gl X "range")(hm:X.mg "range" = none)(ha:PA X [a] ta)(hs:abL [a] X.env=[(false,eval a X.env)]:=by rfl):PI X tg (.Call (.Name "range" p) [a] [] pos) (Bd4 ta):=by
 intro p_ s σ H R I h;refine Call_ (Agk I hg hm boot_range (aeH (thn (ha pos p_ s σ H _ I h) fun us s1 ⟨vs,H1,I1,r1,q1⟩=>?_) hs rfl));obtain⟨j,e,q1,q2,q⟩:=q1;subst e;cases r1 with
 | cons r rr =>
  cases rr;obtain⟨t,rfl⟩:=r;exact call_range_1 (An6 I1 (by lia) (by lia) q1 q2 (by simpa using q))
theorem Ako {a b:adX}{ta:TA}{p pos:Pos}(hg:Gl X "range")(hm:X.mg "range" = none)(ha:PA X [a,b] ta)(hs:abL [a,b] X.env=[(false,eval a X.env),(false,eval b X.env)]:=by rfl)(hs2:abL [b] X.env=[(false,eval b X.env)]:=by rfl) :
 PI X tg (.Call (.Name "range" p) [a,b] [] pos) (Bd3 ta):=by
 intro p_ s σ H R I h;refine Call_ (Agk I hg hm boot_range (aeH (thn (ha pos p_ s σ H _ I h) fun us s1 ⟨vs,H1,I1,r1,q1⟩=>?_) (by rw[hs,hs2]) (by rw[hs2];rfl)));obtain⟨i,j,e,⟨q1,q2,q3,q4⟩,q⟩:=q1;subst e;cases r1 with
 | cons r rr =>
  cases rr with
  | cons r' rr =>
   cases rr;obtain⟨t,rfl⟩:=r;obtain⟨t',rfl⟩:=r';exact call_range_2 (An6 I1 q1 q2 q3 q4 q)
def Be1 (wi:TI)(g:TG)(tb:TS):TS:=fun D σ H=>wi σ H fun J H1=>∃W:Nat->Nat->St->Hp->Prop,(∃m,W 0 m σ H1)/\∀i m σ H,W i m σ H->
 (J.stop i H/\D.nx σ H)\/(J.go i H/\∃N:St->Hp->Prop,(∀σ' H',N σ' H'->∃m',m'<m/\W (i+1) m' σ' H')/\∀x H',J.yld i H x H'->g x σ H' fun σ2 H2=>tb { D with nx:=N,ct:=N,bk:=D.nx } σ2 H2)
def Akm (fp:List Addr)(h:Heap):List (Addr×Obj):=fp.filterMap fun b=>(h.get? b).map fun o=>(b,o)
theorem Aey {fp:List Addr}{h:Heap}{b:Addr}{o:Obj}(hb:b∈fp)(e:h.get? b=some o):(b,o)∈Akm fp h:=afP.mpr ⟨b,hb,by rw[e];rfl⟩
theorem Ar1 {fp:List Addr}{h:Heap}{p:Addr×Obj}(hp:p∈Akm fp h):p.1∈fp/\h.get? p.1=some p.2:=by
 obtain⟨b,hb,e⟩:=afP.mp hp;cases q:h.get? b with
 | none=>rw[q]at e;cases e
 | some o =>
  rw[q]at e;have e':(b,o)=p:=abD e;subst e';exact⟨hb,q⟩
theorem Inv.pinned {p_:List (Addr×Obj)}{σ:St}{H:Hp}{s:aaI}{fp:List Addr}(I:Inv X p_ σ H s)(hf:∀b∈fp,FpOk X p_ H b)(ho:∀b∈fp,∃o,s.heap.get? b=some o/\∀v,o.data≠.cell v):Inv X (p_++Akm fp s.heap) σ H s :=
 I.pins_of fun p hp=>(abH.mp hp).elim (fun z=>I.pin p (acV _ z)) fun z=>by
  obtain⟨hb,e⟩:=Ar1 z;obtain⟨f0,f1,f2,_⟩:=hf p.1 hb;obtain⟨o,e',d⟩:=ho p.1 hb;rw[e]at e';cases e';exact⟨e,f0,f1,f2,d⟩
theorem Inv.unpinned {p_ pl:List (Addr×Obj)}{σ:St}{H:Hp}{s:aaI}(I:Inv X (p_++pl) σ H s):Inv X p_ σ H s:=I.pins_of fun p hp=>I.pin p (acV _ (anW _ hp))
theorem Aao {iter:adX}{body:List afD}{wi:TI}{g:TG}{tb:TS}{pos:Pos}(hp:PassesOwn (model X.prog X.w) X.A X.env X.xe)(hc:X.calm=true)(hi:PI X tg iter wi)(hg:PG X tg g)(hb:PSs X body tb)
 (hs:∀x,foldedSetIterable iter X.env x=pure x:=by intro _;rfl):PS X (.For tg iter body [] pos) (Be1 wi g tb):=by
 intro p_ s σ H D I h;refine wpAny_For (thn (hi p_ s σ H _ I h) fun v s1 h1=>thn h1 fun itv s2 h2=>?_) hs;obtain⟨it,fp,tn,J,H2,e,I2,T,st2,f2,W,⟨m0,w0⟩,turn⟩:=h2;subst e;have stat:∀{H':Hp},(∀b∈fp,H' b=none)->∀b∈fp,FpOk X p_ H' b:=fun hn b hb=>⟨hn b hb,(f2 b hb).2⟩
 refine codeAny_forLoop_any (fun n s'=>∃i σ' H',Inv X p_ σ' H' s'/\tn i s'.heap/\(∀b∈fp,H' b=none)/\W i n σ' H') ?_ m0 ⟨0,σ,H2,I2,st2,fun b hb=>(f2 b hb).1,w0⟩;rintro n s3 ⟨i,σ3,H3,I3,st3,fr3,w3⟩;rcases turn i n σ3 H3 w3 with ⟨stop,qn⟩ | ⟨go,N,hN,step⟩
 ·refine wpAny_passesOwn hp (thn (T.done X rfl rfl rfl hc i p_ s3 σ3 H3 X.xe I3 (stat fr3) st3 stop) fun r s4 ⟨hr,I4⟩=>?_);subst hr;exact wpAny_execs_nil ⟨σ3,H3,I4,qn⟩
 ·refine wpAny_passesOwn hp (thn (T.item X rfl rfl rfl hc i p_ s3 σ3 H3 X.xe I3 (stat fr3) st3 go) fun r s4 ⟨u,hr,h4⟩=>?_);subst hr;refine wpAny_passesOwn hp (thn h4 fun _ s5 ⟨x,H5,I5,r5,y5,st5,fr5⟩=>?_);have I5':=I5.pinned (stat fr5) (T.obj _ _ st5);refine wpAny_passesOwn hp (thn (hg _ s5 σ3 H5 x u _ I5' r5 (step x H5 y5)) fun _ s6 ⟨σ6,H6,I6,q6⟩=>?_);refine wpAny_passesOwn hp (thn (hb _ s6 σ6 H6 _ I6 q6) fun f s7 q7=>?_)
  have again:∀{σ7:St} {H7:Hp},Inv X (p_++Akm fp s5.heap) σ7 H7 s7->N σ7 H7->∃m,m<n/\∃i σ' H',Inv X p_ σ' H' s7/\tn i s7.heap/\(∀b∈fp,H' b=none)/\W i m σ' H':=fun {σ7 H7} I7 n7=>by
   obtain⟨m',hm,w7⟩:=hN σ7 H7 n7;refine⟨m',hm,i+1,σ7,H7,I7.unpinned,T.keep _ _ _ st5 fun b hb o e=>(I7.pin (b,o) (acV _ (acV _ (Aey hb e)))).1,fun b hb=>?_,w7⟩;obtain⟨o,e,d⟩:=T.obj _ _ st5 b hb;exact(I7.pin (b,o) (acV _ (acV _ (Aey hb e)))).2.1
  cases f with
  | next=>obtain⟨σ7,H7,I7,n7⟩:=q7;exact again I7 n7
  | cont=>obtain⟨σ7,H7,I7,n7⟩:=q7;exact again I7 n7
  | brk=>obtain⟨σ7,H7,I7,q7⟩:=q7;exact⟨σ7,H7,I7.unpinned,q7⟩
  | ret v=>obtain⟨x7,σ7,H7,I7,r7,q7⟩:=q7;exact⟨x7,σ7,H7,I7.unpinned,r7,q7⟩
end
theorem Abn {K:abA}{a:Addr}{xs:List V}{g:TG}{tb:TS}{D:Asm}{σ:St}{H:Hp}(Pv:Nat->St->Hp->Prop)(h0:Pv 0 σ H)(hl:∀i σ H,i<=xs.length->Pv i σ H->SqL K H a xs)
 (hs:∀i x σ H,xs[i]?=some x->Pv i σ H->g x σ H fun σ2 H2=>tb { D with nx:=Pv (i+1),ct:=Pv (i+1),bk:=D.nx } σ2 H2) (hd:∀σ H,Pv xs.length σ H->D.nx σ H) :
 ∃W:Nat->Nat->St->Hp->Prop,(∃m,W 0 m σ H)/\∀i m σ H,W i m σ H->
  ((Itl K a).stop i H/\D.nx σ H)\/((Itl K a).go i H/\∃N:St->Hp->Prop,(∀σ' H',N σ' H'->∃m',m'<m/\W (i+1) m' σ' H')/\∀x H',(Itl K a).yld i H x H'->g x σ H' fun σ2 H2=>tb { D with nx:=N,ct:=N,bk:=D.nx } σ2 H2):=by
 refine⟨fun i m σ H=>m=xs.length-i/\i<=xs.length/\Pv i σ H,⟨xs.length,by simp,abO _,h0⟩,?_⟩;rintro i m σ H ⟨rfl,hi,p⟩;have q:=hl i σ H hi p
 by_cases hlt:i<xs.length
 ·refine .inr ⟨⟨xs,xs[i],q,by simp[hlt]⟩,Pv (i+1),fun σ' H' p'=>⟨xs.length-(i+1),by lia,rfl,hlt,p'⟩,fun x H' y=>?_⟩;obtain⟨e,y⟩:=y;subst e;exact hs i x σ _ (y xs q) p
 ·have e:i=xs.length:=by lia
  subst e;exact .inl ⟨⟨xs,q,aaK _⟩,hd σ H p⟩
theorem Agz {K:abA}{a:Addr}{xs:List V}{g:TG}{tb:TS}{D:Asm}{σ:St}{H:Hp}(Pv:Nat->St->Hp->Prop)(h0:Pv 0 σ H)(hl:∀i σ H,i<=xs.length->Pv i σ H->SqT K H a xs)
 (hs:∀i x σ H,xs[i]?=some x->Pv i σ H->g x σ H fun σ2 H2=>tb { D with nx:=Pv (i+1),ct:=Pv (i+1),bk:=D.nx } σ2 H2) (hd:∀σ H,Pv xs.length σ H->D.nx σ H) :
 ∃W:Nat->Nat->St->Hp->Prop,(∃m,W 0 m σ H)/\∀i m σ H,W i m σ H->
  ((Itt K a).stop i H/\D.nx σ H)\/((Itt K a).go i H/\∃N:St->Hp->Prop,(∀σ' H',N σ' H'->∃m',m'<m/\W (i+1) m' σ' H')/\∀x H',(Itt K a).yld i H x H'->g x σ H' fun σ2 H2=>tb { D with nx:=N,ct:=N,bk:=D.nx } σ2 H2):=by
 refine⟨fun i m σ H=>m=xs.length-i/\i<=xs.length/\Pv i σ H,⟨xs.length,by simp,abO _,h0⟩,?_⟩;rintro i m σ H ⟨rfl,hi,p⟩;have q:=hl i σ H hi p
 by_cases hlt:i<xs.length
 ·refine .inr ⟨⟨xs,xs[i],q,by simp[hlt]⟩,Pv (i+1),fun σ' H' p'=>⟨xs.length-(i+1),by lia,rfl,hlt,p'⟩,fun x H' y=>?_⟩;obtain⟨e,y⟩:=y;subst e;exact hs i x σ _ (y xs q) p
 ·have e:i=xs.length:=by lia
  subst e;exact .inl ⟨⟨xs,q,aaK _⟩,hd σ H p⟩
theorem Ac4 {lo:Int}{n:Nat}{g:TG}{tb:TS}{D:Asm}{σ:St}{H:Hp}(Pv:Nat->St->Hp->Prop)(h0:Pv 0 σ H)
 (hs:∀i σ H,i<n->Pv i σ H->g (.int (lo+i)) σ H fun σ2 H2=>tb { D with nx:=Pv (i+1),ct:=Pv (i+1),bk:=D.nx } σ2 H2) (hd:∀σ H,Pv n σ H->D.nx σ H) :
 ∃W:Nat->Nat->St->Hp->Prop,(∃m,W 0 m σ H)/\∀i m σ H,W i m σ H->
  ((Itr lo n).stop i H/\D.nx σ H)\/((Itr lo n).go i H/\∃N:St->Hp->Prop,(∀σ' H',N σ' H'->∃m',m'<m/\W (i+1) m' σ' H')/\∀x H',(Itr lo n).yld i H x H'->g x σ H' fun σ2 H2=>tb { D with nx:=N,ct:=N,bk:=D.nx } σ2 H2):=by
 refine⟨fun i m σ H=>m=n-i/\i<=n/\Pv i σ H,⟨n,by simp,abO _,h0⟩,?_⟩;rintro i m σ H ⟨rfl,hi,p⟩
 by_cases hlt:i<n
 ·refine .inr ⟨hlt,Pv (i+1),fun σ' H' p'=>⟨n-(i+1),by lia,rfl,hlt,p'⟩,fun x H' y=>?_⟩;obtain⟨e,y⟩:=y;subst e y;exact hs i σ _ hlt p
 ·have e:i=n:=by lia
  subst e;exact .inl ⟨aaK _,hd σ H p⟩
abbrev R2:=V->V->Hp->VK->Prop
def OpR (X:Cx)(f:aaF->aaF->Sem aaF)(r:R2):Prop :=
 ∀(p_:List (Addr×Obj)) (s:aaI) (σ:St) (H:Hp) (x y:V) (v u:aaF) (Q:VK),Inv X p_ σ H s->RelV x v->RelV y u->r x y H Q->
  abM (model X.prog X.w) X.A (f v u) (EP X p_ σ Q) X.xe s
def UnR (X:Cx)(f:aaF->Sem aaF)(r:V->Hp->VK->Prop):Prop :=
 ∀(p_:List (Addr×Obj)) (s:aaI) (σ:St) (H:Hp) (x:V) (v:aaF) (Q:VK),Inv X p_ σ H s->RelV x v->r x H Q->
  abM (model X.prog X.w) X.A (f v) (EP X p_ σ Q) X.xe s
def Afb (X:Cx)(f:aaF)(r:List V->Hp->VK->Prop):Prop :=
 ∀(p_:List (Addr×Obj)) (s:aaI) (σ:St) (H:Hp) (xs:List V) (us:List aaF) (Q:VK),Inv X p_ σ H s->Vals xs us->r xs H Q->
  abM (model X.prog X.w) X.A (call f us) (EP X p_ σ Q) X.xe s
def Bf6 (X:Cx)(r:V->Hp->(Bool->Hp->Prop)->Prop):Prop :=
 ∀(p_:List (Addr×Obj)) (s:aaI) (σ:St) (H:Hp) (x:V) (v:aaF) (Q:Bool->Hp->Prop),Inv X p_ σ H s->RelV x v->r x H Q->
  abM (model X.prog X.w) X.A (truthy v) (TP X p_ σ Q) X.xe s
def tOp (r:R2)(ta tb:TE):TE:=fun σ H Q=>ta σ H fun x H1=>tb σ H1 fun y H2=>r x y H2 Q
def tUn (r:V->Hp->VK->Prop)(ta:TE):TE:=fun σ H Q=>ta σ H fun x H1=>r x H1 Q
def rI (C:Int->Int->Prop)(g:Int->Int->V):R2:=fun x y H Q=>∃i j,x=.int i/\y=.int j/\C i j/\Q (g i j) H
def rI0 (g:Int->Int->V):R2:=fun x y H Q=>∃i j,x=.int i/\y=.int j/\Q (g i j) H
def rU (g:Int->V):V->Hp->VK->Prop:=fun x H Q=>∃i,x=.int i/\Q (g i) H
section
variable {X:Cx}{a b c:adX}{ta tb tc:TE}{pos:Pos}
theorem Bdd (ha:PE X a ta)(hb:PE X b tb){p_:List (Addr×Obj)}{s:aaI}{σ:St}{H:Hp}{R:V->V->Hp->Prop}(I:Inv X p_ σ H s)
 (h:ta σ H fun x H1=>tb σ H1 fun y H2=>R x y H2) {Q:aaF->aaI->Prop} {f:aaF->aaF->Sem aaF}
 (hf:∀v u s2 x y H2,Inv X p_ σ H2 s2->RelV x v->RelV y u->R x y H2->abM (model X.prog X.w) X.A (f v u) Q X.xe s2) :
 abM (model X.prog X.w) X.A (eval a X.env) (fun v s₁=>abM (model X.prog X.w) X.A (eval b X.env) (fun u s₂=>abM (model X.prog X.w) X.A (f v u) Q X.xe s₂) X.xe s₁) X.xe s:=by
 refine thn (ha p_ s σ H _ I h) fun v s1 ⟨x,H1,I1,r1,q1⟩=>?_;refine thn (hb p_ s1 σ H1 _ I1 q1) fun u s2 ⟨y,H2,I2,r2,q2⟩=>?_;exact hf v u s2 x y H2 I2 r1 r2 q2
theorem Aay {op:Operator}{r:R2}(ho:OpR X (binaryOp op) r)(ha:PE X a ta)(hb:PE X b tb):PE X (.BinOp a op b pos) (tOp r ta tb):=by
 intro p_ s σ H Q I h;exact wpAny_BinOp (Bdd ha hb I h fun v u s2 x y H2 I2 rx ry q=>ho p_ s2 σ H2 x y v u Q I2 rx ry q)
theorem Alw {op:UnaryOp}{r:V->Hp->VK->Prop}(ho:UnR X (unaryOp op) r)(ha:PE X a ta):PE X (.UnaryOp op a pos) (tUn r ta):=by
 intro p_ s σ H Q I h;exact UnaryOp_ (thn (ha p_ s σ H _ I h) fun v s1 ⟨x,H1,I1,r1,q1⟩=>ho p_ s1 σ H1 x v Q I1 r1 q1)
theorem opI {f:aaF->aaF->Sem aaF}{C:Int->Int->Prop}{g:Int->Int->Int}
 (rule:∀(i j:Int) (t u:Tok) (s:aaI) (Q:aaF->aaI->Prop) (E:aaF->aaI->Prop),C i j->Q (.int (g i j) s.toks) { s with toks:=s.toks+1 }->abM (model X.prog X.w) X.A (f (.int i t) (.int j u)) Q E s) :
 OpR X f (rI C fun i j=>.int (g i j)):=by
 intro p_ s σ H x y v u Q I rx ry h;obtain⟨i,j,rfl,rfl,hc,q⟩:=h;obtain⟨t,rfl⟩:=rx;obtain⟨t',rfl⟩:=ry;exact rule i j t t' s _ _ hc ⟨.int (g i j),H,I.tok _,⟨_,rfl⟩,q⟩
theorem Bcp {f:aaF->aaF->Sem aaF}{g:Int->Int->Int}
 (rule:∀(i j:Int) (t u:Tok) (s:aaI) (Q:aaF->aaI->Prop) (E:aaF->aaI->Prop),Q (.int (g i j) s.toks) { s with toks:=s.toks+1 }->abM (model X.prog X.w) X.A (f (.int i t) (.int j u)) Q E s) :
 OpR X f (rI0 fun i j=>.int (g i j)):=by
 intro p_ s σ H x y v u Q I rx ry h;obtain⟨i,j,rfl,rfl,q⟩:=h;obtain⟨t,rfl⟩:=rx;obtain⟨t',rfl⟩:=ry;exact rule i j t t' s _ _ ⟨.int (g i j),H,I.tok _,⟨_,rfl⟩,q⟩
theorem Bbx {f:aaF->aaF->Sem aaF}{g:Int->Int->Bool}
 (rule:∀(i j:Int) (t u:Tok) (s:aaI) (Q:aaF->aaI->Prop) (E:aaF->aaI->Prop),Q (.bool (g i j)) s->abM (model X.prog X.w) X.A (f (.int i t) (.int j u)) Q E s) :
 OpR X f (rI0 fun i j=>.bl (g i j)):=by
 intro p_ s σ H x y v u Q I rx ry h;obtain⟨i,j,rfl,rfl,q⟩:=h;obtain⟨t,rfl⟩:=rx;obtain⟨t',rfl⟩:=ry;exact rule i j t t' s _ _ ⟨.bl (g i j),H,I,rfl,q⟩
def Bdy (i j:Int):Prop:=0<=j/\j<=1000000/\i.natAbs<2 ^ 64
def CMul (i j:Int):Prop:=(-(2 ^ 64)<i/\i<2 ^ 64)\/(-(2 ^ 64)<j/\j<2 ^ 64)
theorem CMul.ok {i j:Int}(h:CMul i j):IntMulOk i j:=by
 rcases h with ⟨h1,h2⟩ | ⟨h1,h2⟩
 ·exact .of_left (intBits_le_64 h1 h2)
 ·exact .of_right (intBits_le_64 h1 h2)
theorem Ao4 (k:Nat):(0:Int)<=2 ^ k:=by
 rw[two_pow_cast];exact Int.natCast_nonneg _
theorem Aef:OpR X (binaryOp .Add) (rI0 fun i j=>.int (i+j)):=Bcp fun _ _ _ _ _ _ _ q=>add_int q
theorem Ac9:OpR X (binaryOp .Sub) (rI0 fun i j=>.int (i-j)):=Bcp fun _ _ _ _ _ _ _ q=>sub_int q
theorem Ack:OpR X (binaryOp .Mult) (rI CMul fun i j=>.int (i*j)):=opI fun _ _ _ _ _ _ _ hc q=>mul_int q hc.ok
theorem Ba8:OpR X (binaryOp .LShift) (rI Bdy fun i j=>.int (i*2 ^ j.toNat)):=opI fun _ _ _ _ _ _ _ hc q=>lshift_int_small hc.1 hc.2.1 hc.2.2 q
theorem Ba7:OpR X (binaryOp .RShift) (rI (fun _ j=>0<=j) fun i j=>.int (i/2 ^ j.toNat)):=opI fun i j _ _ _ _ _ hc q =>
 rshift_int hc (by rw[Int.fdiv_eq_ediv_of_nonneg i (Ao4 _)];exact q)
theorem Bae:OpR X (binaryOp .BitAnd) (rI0 fun i j=>.int (alF i j)):=Bcp fun _ _ _ _ _ _ _ q=>and_int q
theorem unI {f:aaF->Sem aaF}{g:Int->Int}
 (rule:∀(i:Int) (t:Tok) (s:aaI) (Q:aaF->aaI->Prop) (E:aaF->aaI->Prop),Q (.int (g i) s.toks) { s with toks:=s.toks+1 }->abM (model X.prog X.w) X.A (f (.int i t)) Q E s) :
 UnR X f (rU fun i=>.int (g i)):=by
 intro p_ s σ H x v Q I rx h;obtain⟨i,rfl,q⟩:=h;obtain⟨t,rfl⟩:=rx;exact rule i t s _ _ ⟨.int (g i),H,I.tok _,⟨_,rfl⟩,q⟩
theorem Ag5:UnR X (unaryOp .USub) (rU fun i=>.int (-i)):=unI fun _ _ _ _ _ q=>neg_int q
end
def Bca:V->V->Bool
 | .non,.non=>true | .non,.int _=>true | .int _,.non=>true | .non,.bl _=>true | .bl _,.non=>true | .non,.str _=>true | .str _,.non=>true
 | .int _,.int _=>true | .bl _,.bl _=>true | .str _,.str _=>true | .byt _,.byt _=>true
 | .int _,.str _=>true | .str _,.int _=>true | .bl _,.str _=>true | .str _,.bl _=>true
 | _,_=>false
def rEq:R2:=fun x y H Q=>Bca x y=true/\Q (.bl (decide (x=y))) H
def rNe:R2:=fun x y H Q=>Bca x y=true/\Q (.bl (!decide (x=y))) H
theorem Amm {i j:Int}:decide (V.int i=V.int j)=(i==j):=by
 rw[adC];simp
theorem Avv {i j:Bool}:decide (V.bl i=V.bl j)=(i==j):=by
 rw[adC];simp
theorem As4 {i j:Str}:decide (V.str i=V.str j)=(i==j):=by
 rw[adC];simp
theorem As5 {i j:Array UInt8}:decide (V.byt i=V.byt j)=(i.toList==j.toList):=by
 rw[adC];cases i;cases j;simp
section
variable {X:Cx}{a b c:adX}{ta tb tc:TE}{pos:Pos}
theorem Aas {p_:List (Addr×Obj)}{σ:St}{H:Hp}{s:aaI}{Q:VK}{k k':Bool}(I:Inv X p_ σ H s)(q:Q (.bl k) H)(e:k=k'):EP X p_ σ Q (.bool k') s:=by
 subst e;exact⟨.bl k,H,I,rfl,q⟩
theorem Aoi:OpR X (compareOp .Eq) rEq:=by
 intro p_ s σ H x y v u Q I rx ry h;obtain⟨hs,q⟩:=h;cases x with
 | non =>
  cases rx;cases y with
  | non=>cases ry;exact PySem.EqNone.eq_none_none (Aas I q (by simp))
  | bl j=>cases ry;exact PySem.EqNone.eq_none_bool (Aas I q (by simp))
  | int j=>obtain⟨t',rfl⟩:=ry;exact PySem.EqNone.eq_none_int (Aas I q (by simp))
  | str j=>obtain⟨t',rfl⟩:=ry;exact PySem.EqNone.eq_none_str (Aas I q (by simp))
  | _=>exact absurd (show false=true from hs) abG
 | bl i =>
  cases rx;cases y with
  | non=>cases ry;exact PySem.EqNone.eq_bool_none (Aas I q (by simp))
  | bl j=>cases ry;exact eq_bool (Aas I q Avv)
  | str j=>obtain⟨t',rfl⟩:=ry;exact PySem.EqMixed.eq_bool_str (Aas I q (by simp))
  | _=>exact absurd (show false=true from hs) abG
 | int i =>
  obtain⟨t,rfl⟩:=rx;cases y with
  | non=>cases ry;exact PySem.EqNone.eq_int_none (Aas I q (by simp))
  | int j=>obtain⟨t',rfl⟩:=ry;exact eq_int (Aas I q Amm)
  | str j=>obtain⟨t',rfl⟩:=ry;exact PySem.EqMixed.eq_int_str (Aas I q (by simp))
  | _=>exact absurd (show false=true from hs) abG
 | str i =>
  obtain⟨t,rfl⟩:=rx;cases y with
  | non=>cases ry;exact PySem.EqNone.eq_str_none (Aas I q (by simp))
  | bl j=>cases ry;exact PySem.EqMixed.eq_str_bool (Aas I q (by simp))
  | int j=>obtain⟨t',rfl⟩:=ry;exact PySem.EqMixed.eq_str_int (Aas I q (by simp))
  | str j=>obtain⟨t',rfl⟩:=ry;exact eq_str (Aas I q As4)
  | _=>exact absurd (show false=true from hs) abG
 | byt i =>
  obtain⟨t,rfl⟩:=rx;cases y with
  | byt j=>obtain⟨t',rfl⟩:=ry;exact W.eq_bytes (Aas I q As5)
  | _=>exact absurd (show false=true from hs) abG
 | _=>cases y<;>exact absurd (show false=true from hs) abG
theorem Baa:OpR X (compareOp .NotEq) rNe:=by
 intro p_ s σ H x y v u Q I rx ry h;obtain⟨hs,q⟩:=h;cases x with
 | non =>
  cases rx;cases y with
  | non=>cases ry;exact PySem.EqNone.ne_none_none (Aas I q (by simp))
  | bl j=>cases ry;exact PySem.EqNone.ne_none_bool (Aas I q (by simp))
  | int j=>obtain⟨t',rfl⟩:=ry;exact PySem.EqNone.ne_none_int (Aas I q (by simp))
  | str j=>obtain⟨t',rfl⟩:=ry;exact PySem.EqNone.ne_none_str (Aas I q (by simp))
  | _=>exact absurd (show false=true from hs) abG
 | bl i =>
  cases rx;cases y with
  | non=>cases ry;exact PySem.EqNone.ne_bool_none (Aas I q (by simp))
  | bl j=>cases ry;exact ne_bool (Aas I q (congrArg not Avv))
  | str j=>obtain⟨t',rfl⟩:=ry;exact PySem.EqMixed.ne_bool_str (Aas I q (by simp))
  | _=>exact absurd (show false=true from hs) abG
 | int i =>
  obtain⟨t,rfl⟩:=rx;cases y with
  | non=>cases ry;exact PySem.EqNone.ne_int_none (Aas I q (by simp))
  | int j=>obtain⟨t',rfl⟩:=ry;exact ne_int (Aas I q (congrArg not Amm))
  | str j=>obtain⟨t',rfl⟩:=ry;exact PySem.EqMixed.ne_int_str (Aas I q (by simp))
  | _=>exact absurd (show false=true from hs) abG
 | str i =>
  obtain⟨t,rfl⟩:=rx;cases y with
  | non=>cases ry;exact PySem.EqNone.ne_str_none (Aas I q (by simp))
  | bl j=>cases ry;exact PySem.EqMixed.ne_str_bool (Aas I q (by simp))
  | int j=>obtain⟨t',rfl⟩:=ry;exact PySem.EqMixed.ne_str_int (Aas I q (by simp))
  | str j=>obtain⟨t',rfl⟩:=ry;exact ne_str (Aas I q (congrArg not As4))
  | _=>exact absurd (show false=true from hs) abG
 | byt i =>
  obtain⟨t,rfl⟩:=rx;cases y with
  | byt j=>obtain⟨t',rfl⟩:=ry;exact W.ne_bytes (Aas I q (congrArg not As5))
  | _=>exact absurd (show false=true from hs) abG
 | _=>cases y<;>exact absurd (show false=true from hs) abG
theorem Acl:OpR X (compareOp .Lt) (rI0 fun i j=>.bl (decide (i<j))):=Bbx fun _ _ _ _ _ _ _ q=>lt_int q
theorem Ato:OpR X (compareOp .LtE) (rI0 fun i j=>.bl (decide (i<=j))):=Bbx fun _ _ _ _ _ _ _ q=>le_int q
theorem Adb:OpR X (compareOp .Gt) (rI0 fun i j=>.bl (decide (j<i))):=Bbx fun _ _ _ _ _ _ _ q=>gt_int q
theorem Bad:OpR X (compareOp .GtE) (rI0 fun i j=>.bl (decide (j<=i))):=Bbx fun _ _ _ _ _ _ _ q=>ge_int q
theorem Ax4:OpR X (compareOp .IsNot) (fun x y H Q=>y=.non/\Q (.bl (!decide (x=.non))) H):=by
 intro p_ s σ H x y v u Q I rx ry h;obtain⟨rfl,q⟩:=h;cases ry;refine isnot_none_gen (Aas I q ?_);cases x<;>first
  | (cases rx;rfl)
  | (obtain⟨t,rfl⟩:=rx;rfl)
theorem Aan (b:adX){op:CmpOp}(h:op≠.In:=by decide)(h2:op≠.NotIn:=by decide):behindInMarks op b=false:=by
 have e1:(op==CmpOp.In)=false:=by cases op<;>first | rfl | exact absurd rfl h
 have e2:(op==CmpOp.NotIn)=false:=by cases op<;>first | rfl | exact absurd rfl h2
 cases b<;>simp[behindInMarks,e1,e2]
theorem Age {op:CmpOp}{r:R2}(ho:OpR X (compareOp op) r)(ha:PE X a ta)(hb:PE X b tb)(hm:behindInMarks op b=false):PE X (.Compare a [op] [b] pos) (tOp r ta tb):=by
 intro p_ s σ H Q I h;exact wpAny_Compare1 (Bdd ha hb I h fun v u s2 x y H2 I2 rx ry q=>ho p_ s2 σ H2 x y v u Q I2 rx ry q) hm
def Apm (t:TE):TT:=fun σ H Q=>t σ H fun x H'=>∃k,x=.bl k/\Q k H'
theorem Aak {op:CmpOp}{r:R2}(ho:OpR X (compareOp op) r)(ha:PE X a ta)(hb:PE X b tb)(hm:behindInMarks op b=false):PT X (.Compare a [op] [b] pos) (Apm (tOp r ta tb)):=by
 intro p_ s σ H Q I h
 refine wpAny_isTrue_Compare1 (thn (ha p_ s σ H _ I h) fun v s1 ⟨x,H1,I1,r1,q1⟩=>thn (hb p_ s1 σ H1 _ I1 q1) fun u s2 ⟨y,H2,I2,r2,q2⟩ =>
  thn (ho p_ s2 σ H2 x y v u _ I2 r1 r2 q2) fun c s3 ⟨z,H3,I3,r3,k,e,q3⟩=>?_) hm
 subst e;cases r3;exact wpAny_truthy_bool ⟨H3,I3,q3⟩
def Apq (r r':R2)(ta tb tc:TE):TE:=fun σ H Q=>ta σ H fun x H1=>tb σ H1 fun y H2=>r x y H2 fun z H3=>∃k,z=.bl k/\
 (if k=true then tc σ H3 fun w' H4=>r' y w' H4 Q else Q (.bl false) H3)
theorem Anb {op op':CmpOp}{r r':R2}(ho:OpR X (compareOp op) r)(ho':OpR X (compareOp op') r')(ha:PE X a ta)(hb:PE X b tb)(hc:PE X c tc)
 (hm:lastMarks [op,op'] [b,c]=false:=by with_unfolding_all rfl):PE X (.Compare a [op,op'] [b,c] pos) (Apq r r' ta tb tc):=by
 intro p_ s σ H Q I h
 refine Compare_chain (thn (ha p_ s σ H _ I h) fun v s1 ⟨x,H1,I1,r1,q1⟩=>chain_link (thn (hb p_ s1 σ H1 _ I1 q1) fun u s2 ⟨y,H2,I2,r2,q2⟩ =>
  thn (ho p_ s2 σ H2 x y v u _ I2 r1 r2 q2) fun d s3 ⟨z,H3,I3,r3,k,e,q3⟩=>?_)) hm
 subst e;cases r3;refine wpAny_truthy_bool ?_;cases k with
 | false=>exact ite_ff ⟨.bl false,H3,I3,rfl,q3⟩
 | true=>exact ite_tt (chain_last (thn (hc p_ s3 σ H3 _ I3 q3) fun w' s4 ⟨z',H4,I4,r4,q4⟩=>ho' p_ s4 σ H4 y z' u w' Q I4 r2 r4 q4))
theorem Adl {op op':CmpOp}{r r':R2}(ho:OpR X (compareOp op) r)(ho':OpR X (compareOp op') r')(ha:PE X a ta)(hb:PE X b tb)(hc:PE X c tc)
 (hm:lastMarks [op,op'] [b,c]=false:=by with_unfolding_all rfl):PT X (.Compare a [op,op'] [b,c] pos) (Apm (Apq r r' ta tb tc)):=by
 intro p_ s σ H Q I h
 refine isTrue_chain (thn (ha p_ s σ H _ I h) fun v s1 ⟨x,H1,I1,r1,q1⟩=>test_link (thn (hb p_ s1 σ H1 _ I1 q1) fun u s2 ⟨y,H2,I2,r2,q2⟩ =>
  thn (ho p_ s2 σ H2 x y v u _ I2 r1 r2 q2) fun d s3 ⟨z,H3,I3,r3,k,e,q3⟩=>?_)) hm
 subst e;cases r3;refine wpAny_truthy_bool ?_;cases k with
 | false =>
  obtain⟨k',e',q'⟩:=q3;cases e';exact ite_ff ⟨H3,I3,q'⟩
 | true =>
  refine ite_tt (test_last (thn (hc p_ s3 σ H3 _ I3 q3) fun w' s4 ⟨z',H4,I4,r4,q4⟩=>thn (ho' p_ s4 σ H4 y z' u w' _ I4 r2 r4 q4) fun d' s5 ⟨z2,H5,I5,r5,k2,e2,q5⟩=>?_));subst e2;cases r5;exact wpAny_truthy_bool ⟨H5,I5,q5⟩
def Bdu (K:abA)(x:V)(H:Hp)(k:Bool):Prop :=
 match x with
 | .non=>k=false
 | .bl b=>k=b
 | .int i=>k=(i != 0)
 | .str y=>y.length<=abB/\k=((y.length:Int) != 0)
 | .byt y=>y.size<=abB/\k=((y.size:Int) != 0)
 | .ref p=>(∃xs,SqL K H p xs/\k = !xs.isEmpty)\/(∃xs,SqT K H p xs/\k = !xs.isEmpty)\/∃kvs,H p=some (.dK kvs)/\k = !kvs.isEmpty
 | _=>False
theorem Aoy {κ:Type}{kvs:List (κ×V)}{vs:List (κ×aaF)}(r:KV kvs vs):(!vs.isEmpty) = !kvs.isEmpty:=by
 cases r<;>rfl
theorem Aib {xs:List V}{its:List aaF}(r:Vals xs its):(!its.toArray.isEmpty) = !xs.isEmpty:=by
 cases r<;>simp
theorem Anj:(abB:Nat)<2 ^ 63:=by rw[sizeLine_eq];decide
theorem Az4:Bf6 X (fun x H Q=>∃k,Bdu X.K x H k/\Q k H):=by
 intro p_ s σ H x v Q I rx h;obtain⟨k,e,q⟩:=h;have hl:=Anj;have hs:abB=16777216:=sizeLine_eq;cases x with
 | non =>
  cases rx;have e':k=false:=e;subst e';exact truthy_none ⟨H,I,q⟩
 | bl b =>
  cases rx;have e':k=b:=e;subst e';exact wpAny_truthy_bool ⟨H,I,q⟩
 | int i =>
  obtain⟨t,rfl⟩:=rx;have e':k=(i != 0):=e;subst e';exact PySem.P.truthy_int ⟨H,I,q⟩
 | str y =>
  obtain⟨t,rfl⟩:=rx;obtain⟨hy,e'⟩ : y.length<=abB/\k=((y.length:Int) != 0):=e;subst e';exact PySem.P.truthy_str (by lia) ⟨H,I.tok _,q⟩
 | byt y =>
  obtain⟨t,rfl⟩:=rx;obtain⟨hy,e'⟩ : y.size<=abB/\k=((y.size:Int) != 0):=e;subst e';exact W.truthy_bytes (by lia) ⟨H,I.tok _,q⟩
 | ref p =>
  cases rx;have e':(∃xs,SqL X.K H p xs/\k = !xs.isEmpty)\/(∃xs,SqT X.K H p xs/\k = !xs.isEmpty)\/∃kvs,H p=some (.dK kvs)/\k = !kvs.isEmpty:=e;rcases e' with ⟨xs,hx,e'⟩ | ⟨xs,hx,e'⟩ | ⟨kvs,hx,e'⟩
  ·subst e';obtain⟨its,r,pl,hz⟩:=I.list hx;have hlen:=r.length;exact wpAny_truthy_list pl.isList (by simp only[aaP];lia) ⟨H,I.tok _,by rw[Aib r];exact q⟩
  ·subst e';obtain⟨its,r,pl,hz⟩:=I.tuple hx;have hlen:=r.length;exact truthy_tuple pl (by simp only[aaP];lia) ⟨H,I.tok _,by rw[Aib r];exact q⟩
  ·subst e';obtain⟨hz,hS,vs,r,m⟩ : kvs.length<=abB/\(p==sysModules)=false/\∃vs,KV kvs vs/\s.heap.DictOf (Abg X.prog X.w) p vs:=I.hok p _ hx;have hlen:kvs.length=vs.length:=ajU r;exact wpAny_truthy_dict hS m (by lia) ⟨H,I.tok _,by rw[Aoy r];exact q⟩
 | _=>exact(show False from e).elim
theorem Aed (ha:PE X a ta)(he:∀whole,isTrue a X.env whole=(do let v <-whole;standAt a.pos;holding [v] (truthy v))) :
 PT X a (fun σ H Q=>ta σ H fun x H'=>∃k,Bdu X.K x H' k/\Q k H'):=by
 intro p_ s σ H Q I h;exact isTrue_plain (thn (ha p_ s σ H _ I h) fun v s1 ⟨x,H1,I1,r1,q1⟩=>Az4 p_ s1 σ H1 x v Q I1 r1 q1) (he _)
theorem Ahd {x:V}{us:List aaF}(r:Vals [x] us):∃u,us=[u]/\RelV x u:=by
 cases r with
 | cons r1 r2=>cases r2;exact⟨_,rfl,r1⟩
theorem Az0 {x y:V}{us:List aaF}(r:Vals [x,y] us):∃u w',us=[u,w']/\RelV x u/\RelV y w':=by
 cases r with
 | cons r1 r2 =>
  cases r2 with
  | cons r3 r4=>cases r4;exact⟨_,_,rfl,r1,r3⟩
theorem Al9 (hc:X.calm=true):Afb X (.builtin "max") (fun xs H Q=>∃i j,xs=[.int i,.int j]/\Q (.int (if j>i then j else i)) H):=by
 intro p_ s σ H xs us Q I r h;obtain⟨i,j,rfl,q⟩:=h;obtain⟨u,w',rfl,⟨t,rfl⟩,⟨t',rfl⟩⟩:=Az0 r;refine max_two_ints (I.ok.hd hc) fun h' tk k=>⟨_,H,I.kept k,?_,q⟩
 by_cases hj:j>i
 ·rw[ifp hj,ifp hj];exact⟨_,rfl⟩
 ·rw[ifn hj,ifn hj];exact⟨_,rfl⟩
theorem Al8 (hc:X.calm=true):Afb X (.builtin "min") (fun xs H Q=>∃i j,xs=[.int i,.int j]/\Q (.int (if j<i then j else i)) H):=by
 intro p_ s σ H xs us Q I r h;obtain⟨i,j,rfl,q⟩:=h;obtain⟨u,w',rfl,⟨t,rfl⟩,⟨t',rfl⟩⟩:=Az0 r;refine min_two_ints (I.ok.hd hc) fun h' tk k=>⟨_,H,I.kept k,?_,q⟩
 by_cases hj:j<i
 ·rw[ifp hj,ifp hj];exact⟨_,rfl⟩
 ·rw[ifn hj,ifn hj];exact⟨_,rfl⟩
end
structure ObjM (h:Heap)(x dx C:Addr)(mA:Str->Option aaF):Prop where
 obj:h.get? x=some (aiQ C dx)
 ns:h.Ns1 dx mA
 ne:dx≠x
theorem Ara {h:Heap}{dx:Addr}{mA:Str->Option aaF}(n:h.Ns1 dx mA):∃od,h.get? dx=some od/\∀name,W.lookIn name od=some (mA name):=by
 obtain⟨o,es,ep,ho,hd,hk,_,hm⟩:=n;refine⟨o,ho,fun name=>?_⟩;have e:=hm name;unfold nsFind findBy at e;rw[<-Array.find?_toList]at e;unfold W.lookIn;rw[hd];dsimp only
 split
 ·rename_i y q
  rw[q]at e;exact congrArg some e
 ·rename_i q
  rw[q]at e;have a:es.toList.any (·.refKey)=false:=by
   rw[agA];intro y hy;obtain⟨z,t,hkey⟩:=hk y (Array.mem_toList_iff.mp hy);simp[DictEntry.refKey,hkey]
  have a':¬es.toList.any (·.refKey)=true:=by rw[a];exact abG
  rw[ifn a'];exact congrArg some e
theorem ObjM.look {h:Heap}{x dx C:Addr}{mA:Str->Option aaF}(I:ObjM h x dx C mA):∃od,W.InstAt h x (aiQ C dx) C (some od)/\∀name,W.lookIn name od=some (mA name) :=
 let ⟨od,ho,hl⟩:=Ara I.ns
 ⟨od,⟨I.obj,rfl,rfl,ho⟩,hl⟩
section
variable {prog:abS}{w:adI}{A:adE}{E:aaF->aaI->Prop}{s:aaI}{K:abA}{x dx C f:Addr}{mA:Str->Option aaF}{name:Str}{v:aaF}
theorem Ay2 {expr:Bool}{Q:aaF->aaI->Prop}(X:K.In s.heap)(I:ObjM s.heap x dx C mA)(hg:akY K C name=true)(hh:amM K C=true)
 (ha:afB K (.ref C) name=some none) (hv:mA name=some v) (hv':W.handedIn v=true) (h:Q v { s with toks:=s.toks+1 }) :
 abM (model prog w) A (getAttr (.ref x) name expr) Q E s:=by
 obtain⟨od,J,hl⟩:=I.look;exact W.get_value X J (anQ hg).1 (W.findObj_own hh ha rfl (by rw[hl,hv])) hv' h
theorem Auj {pl:Sem Bool}{Q:aaF×List aaF->aaI->Prop}(X:K.In s.heap)(I:ObjM s.heap x dx C mA)(hg:akY K C name=true)
 (hf:afB K (.ref C) name=some (some (.ref f))) (ht:W.isFn K (.ref f)=true) (hv:mA name=none) (h:Q (.ref f,[.ref x]) s) :
 abM (model prog w) A (getMethod (.ref x) name pl) Q E s:=by
 obtain⟨od,J,hl⟩:=I.look;exact W.method_fn X J (anQ hg).1 (anQ hg).2 hf (beq_iff_eq.mp ht) (by show(W.lookIn name od).map (·.isSome)=some false;rw[hl,hv];rfl) h
theorem Awf {ns:List Str}{Q:Unit->aaI->Prop}(X:K.In s.heap)(I:ObjM s.heap x dx C mA)
 (hs:afB K (.ref C) "__setattr__" = some (some (.builtin "object.__setattr__"))) (hp:W.plainOver K C=true) (ht:W.takerIn K C name=some none) (hh:amM K C=true)
 (hw:anB mA ns) (hsz:ns.length<=abB)
 (h:∀h',ObjM h' x dx C (fun y=>if y=name then some v else mA y)->aiA dx s.heap h'->Q () { s with heap:=h',toks:=s.toks+2 }) :
 abM (model prog w) A (setAttr (.ref x) name v) Q E s:=by
 obtain⟨od,J,hl⟩:=I.look;refine W.set_plain X J hs (W.osa_open (s:={ s with toks:=s.toks+1 }) (r:=none) X J hp ht fun b=>?_);obtain⟨cd,hc,hd'⟩:=W.any_some hh;have hx:s.heap.get? x=some ⟨.ref C,some dx,.plain,#[]⟩:=I.obj;refine aaC (aaL (aaC (aaC (wpAny_loadPart hx (aaC (W.Looks.here (s:={ s with toks:=s.toks+1 }) (W.looks_clsIn X hc) ?_))))));rw[hd'];refine aaL (a:=some dx) (aaC (aaL (aaC ?_)))
 refine wpAny_nsSet1 (s:={ s with toks:=s.toks+1 }) I.ns fun h' hn2 hs2=>?_;obtain⟨oD,esD,epD,hoD,hdD,hcD⟩:=hn2.count (PySem.Within.cons name v hw);refine aaC (wpAny_lookBehind hoD (by rw[hdD];exact pastItsLine_dict (abI hcD (by rw[aaZ];lia))) ?_);exact aaL (h _ ⟨(hs2.2 _ (acU I.ne)).trans I.obj,hn2,I.ne⟩ hs2)
theorem Au2 {R:Result->aaI->Prop}{vs:List aaF}{kw:List (Str×aaF)}(X:K.In s.heap)(hm:W.makesIn K C=true)
 (hi:afB K (.ref C) "__init__" = some (some (.ref f))) (hf:W.typeIn K (.ref f)=some (.type "function"))
 (h:amZ (model prog w) (A.under (.builtin "type.__call__" ⟨.ref C::vs,kw⟩)) (.call (.ref f) ⟨.ref (s.heap.objs.size+1)::vs,kw⟩) (W.InitBack (s.heap.objs.size+1) R)
  { s with heap:=(s.heap.push agP).push (aiQ C s.heap.objs.size) }) :
 amZ (model prog w) A (.call (.ref C) ⟨vs,kw⟩) R s:=by
 obtain⟨hh,g,d,t,os⟩:=s;exact W.make_core (W.makes_of X hm) (W.looks_findIn X hi) (fun self=>W.bind_fn X self hf) (.inl rfl) h
end
def Adx (f:Str)(v:V):List (Str×V)->List (Str×V)
 | []=>[(f,v)]
 | (g,x)::r=>if g=f then(g,v)::r else(g,x)::Adx f v r
theorem Aaz (f g:Str)(v:V):∀fs:List (Str×V),(Adx f v fs).lookup g=if g=f then some v else fs.lookup g
 | []=>by
  show adW g [(f,v)]=_
  by_cases h:g=f
  ·have hb:(g==f)=true:=beq_iff_eq.mpr h;simp only[adW,hb,ifp h]
  ·have hb:(g==f)=false:=beq_eq_false_iff_ne.mpr h;simp only[adW,hb,ifn h]
 | (k,x)::r=>by
  have ih:=Aaz f g v r;rw[show Adx f v ((k,x)::r)=(if k=f then(k,v)::r else(k,x)::Adx f v r)from rfl]
  by_cases hk:k=f
  ·rw[ifp hk]
   by_cases h:g=k
   ·have hb:(g==k)=true:=beq_iff_eq.mpr h;simp only[adW,hb,ifp (h.trans hk)]
   ·have hb:(g==k)=false:=beq_eq_false_iff_ne.mpr h;simp only[adW,hb,ifn (fun e:g=f=>h (e.trans hk.symm))]
  ·rw[ifn hk]
   by_cases h:g=k
   ·have hb:(g==k)=true:=beq_iff_eq.mpr h;simp only[adW,hb,ifn (fun e:g=f=>hk (h.symm.trans e))]
   ·have hb:(g==k)=false:=beq_eq_false_iff_ne.mpr h;simp only[adW,hb];exact ih
theorem Agl (f:Str)(v:V):∀fs:List (Str×V),f∈(Adx f v fs).map (·.1)/\∀g,g∈fs.map (·.1)->g∈(Adx f v fs).map (·.1)
 | []=>⟨by simp[Adx],fun g h=>by simp at h⟩
 | (k,x)::r=>by
  obtain⟨i1,i2⟩:=Agl f v r;rw[show Adx f v ((k,x)::r)=(if k=f then(k,v)::r else(k,x)::Adx f v r)from rfl]
  by_cases hk:k=f
  ·rw[ifp hk];subst hk;exact⟨by simp,fun g h=>by simpa using h⟩
  ·rw[ifn hk];refine⟨?_,fun g h=>?_⟩
   ·rw[abE];exact abP _ i1
   ·rw[abE]at h ⊢;rcases aaG.mp h with e | e
    ·exact aaG.mpr (.inl e)
    ·exact abP _ (i2 g e)
theorem Ae2 (f:Str)(v:V):∀fs:List (Str×V),(Adx f v fs).length<=fs.length+1
 | []=>by simp[Adx]
 | (k,x)::r=>by
  have ih:=Ae2 f v r;rw[show Adx f v ((k,x)::r)=(if k=f then(k,v)::r else(k,x)::Adx f v r)from rfl]
  by_cases hk:k=f
  ·rw[ifp hk,aaZ,aaZ];lia
  ·rw[ifn hk,aaZ,aaZ];lia
theorem RelO.some_of {v:V}{o:Option aaF}(r:RelO (some v) o):∃u,o=some u/\RelV v u:=by
 cases o with
 | none=>exact(show False from r).elim
 | some u=>exact⟨u,rfl,r⟩
theorem RelO.none_of {o:Option aaF}(r:RelO none o):o=none:=by
 cases o with
 | none=>rfl
 | some u=>exact(show False from r).elim
theorem Aru {v:V}{u:aaF}(r:RelV v u):W.handedIn u=true:=by
 cases v with
 | non=>cases (show u=afE from r);rfl
 | bl b=>cases (show u=amC b from r);rfl
 | int i=>obtain⟨t,e⟩:=(show ∃t,u=afM i t from r);cases e;rfl
 | str x=>obtain⟨t,e⟩:=(show ∃t,u=anA x t from r);cases e;rfl
 | byt b=>obtain⟨t,e⟩:=(show ∃t,u=Value.bytes b t from r);cases e;rfl
 | flt b=>obtain⟨t,e⟩:=(show ∃t,u=Value.float b t from r);cases e;rfl
 | ref a=>cases (show u=aaR a from r);rfl
 | ty n=>cases (show u=aiE n from r);rfl
section
variable {P:abS}{w:adI}{H H':Hp}{h h':Heap}{a C dx:Addr}{fs fs':List (Str×V)}
theorem Amf (hok:HOk P w H h)(e:H a=some (.ins C dx fs)):∃mA,ObjM h a dx C mA/\(∀f,RelO (fs.lookup f) (mA f))/\anB mA (fs.map (·.1))/\fs.length<=1000/\H dx=some (.own a):=by
 obtain⟨d,z,ne,ob,mA,n,r,q⟩:=(show ObjOk P w H h a (.ins C dx fs)from hok a _ e)
 exact⟨mA,⟨ob,n,ne⟩,r,q,z,d⟩
end
structure Cls (K:abA)(C:Addr):Prop where
 pg:akY K C Str.empty=true
 hd:amM K C=true
 po:W.plainOver K C=true
 sa:afB K (.ref C) "__setattr__" = some (some (.builtin "object.__setattr__"))
theorem Cls.get {K:abA}{C:Addr}(c:Cls K C)(f:Str):akY K C f=true:=c.pg
def NoAttr (K:abA)(C:Addr)(f:Str):Prop:=afB K (.ref C) f=some none
theorem NoAttr.taker {K:abA}{C:Addr}{f:Str}(n:NoAttr K C f):W.takerIn K C f=some none:=by
 unfold W.takerIn;rw[show afB K (.ref C) f=some none from n];rfl
structure All (K:abA)(C:Addr)(m:Str)(f:Addr):Prop where
 at_:afB K (.ref C) m=some (some (.ref f))
 fn:W.isFn K (.ref f)=true
 kp:agE K (.ref f)=true
section
variable {X:Cx}{p_:List (Addr×Obj)}{σ:St}{H:Hp}{s:aaI}{a C dx:Addr}{fs:List (Str×V)}{f:Str}{v:V}{A:adE}{E:aaF->aaI->Prop}
theorem Ap1 {b:Bool}{Q:aaF->aaI->Prop}(I:Inv X p_ σ H s)(e:H a=some (.ins C dx fs))(c:Cls X.K C)(n:NoAttr X.K C f)(l:fs.lookup f=some v)
 (h:∀u s',Inv X p_ σ H s'->RelV v u->Q u s'):abM (model X.prog X.w) A (getAttr (.ref a) f b) Q E s:=by
 obtain⟨mA,O,r,_,_,_⟩:=Amf I.hok e;obtain⟨u,hu,ru⟩:=RelO.some_of (v:=v) (o:=mA f) (by rw[<-l];exact r f);exact Ay2 I.kIn O (c.get f) c.hd n hu (Aru ru) (h u _ (I.tok _) ru)
theorem Aid {m:Str}{g:Addr}{pl:Sem Bool}{Q:aaF×List aaF->aaI->Prop}(I:Inv X p_ σ H s)(e:H a=some (.ins C dx fs))(c:Cls X.K C)(k:All X.K C m g)(l:fs.lookup m=none)
 (h:Q (.ref g,[.ref a]) s):abM (model X.prog X.w) A (getMethod (.ref a) m pl) Q E s:=by
 obtain⟨mA,O,r,_,_,_⟩:=Amf I.hok e;have hn:mA m=none:=RelO.none_of (by rw[<-l];exact r m);exact Auj I.kIn O (c.get m) k.at_ k.fn hn h
theorem Aob {y:V}{u:aaF}{Q:Unit->aaI->Prop}(I:Inv X p_ σ H s)(e:H a=some (.ins C dx fs))(c:Cls X.K C)(n:NoAttr X.K C f)(hl:fs.length<1000)(ry:RelV y u)
 (h:∀s',Inv X p_ σ (upd H a (.ins C dx (Adx f y fs))) s'->Q () s'):abM (model X.prog X.w) A (setAttr (.ref a) f u) Q E s:=by
 obtain⟨mA,O,r,wi,_,ho⟩:=Amf I.hok e;have hz:(fs.map (·.1)).length<=abB:=by rw[aaA,sizeLine_eq];lia
 refine Awf I.kIn O c.sa c.po n.taker c.hd wi hz fun h' O' sb=>h _ ?_;have hd:∃o,h'.get? dx=some o:=let ⟨o,_,_,e',_⟩:=O'.ns;⟨o,e'⟩;refine I.write (x:=a) (e:=dx) (by rw[e];exact ahO) (.inr ho) (fun b q hb z=>(sb.2 b hb).trans z) hd ?_;refine⟨by rw[Aa5 O.ne];exact ho,?_,O.ne,O'.obj,_,O'.ns,fun g=>?_,fun g hg=>?_⟩
 ·have:=Ae2 f y fs;lia
 ·show RelO ((Adx f y fs).lookup g) (if g=f then some u else mA g);rw[Aaz]
  by_cases q:g=f
  ·rw[ifp q,ifp q];exact ry
  ·rw[ifn q,ifn q];exact r g
 ·by_cases q:g=f
  ·rw[q];exact(Agl f y fs).1
  ·refine(Agl f y fs).2 g (wi g fun z=>hg ?_);show(if g=f then some u else mA g)=none;rw[ifn q];exact z
theorem Inv.made (I:Inv X p_ σ H s):Inv X p_ σ (upd (upd H s.heap.objs.size (.own (s.heap.objs.size+1))) (s.heap.objs.size+1) (.ins C s.heap.objs.size []))
 { s with heap:=(s.heap.push agP).push (aiQ C s.heap.objs.size) }:=by
 have e1:(s.heap.push agP).get? s.heap.objs.size=some agP:=aaO s.heap rfl;have e2:((s.heap.push agP).push (aiQ C s.heap.objs.size)).get? (s.heap.objs.size+1)=some (aiQ C s.heap.objs.size):=by
  have:=aaO (s.heap.push agP) (o:=aiQ C s.heap.objs.size) rfl
  rwa [acQ]at this
 have e3:(s.heap.push agP).Ns s.heap.objs.size (fun _=>none):=⟨agP,#[],_,e1,rfl,(fun e he=>absurd he (by simp)),fun _=>rfl⟩
 have I1:=I.laid (a:=s.heap.objs.size) (o:=.own (s.heap.objs.size+1)) (h':=s.heap.push agP) (t':=s.toks) (fun b u q=>aaD _ q) (aaK _) ⟨_,e1⟩;refine I1.laid (a:=s.heap.objs.size+1) (o:=.ins C s.heap.objs.size []) (t':=s.toks) (fun b u q=>aaD _ q) (aeL (acQ _ _)) ?_;have ne:s.heap.objs.size≠s.heap.objs.size+1:=acJ (ahK _)
 refine⟨by rw[Aa5 ne,Aa1],abO _,ne,e2,fun _=>none,(Heap.Ns1.of_empty e3).at fun o q=>aaD _ q,fun _=>ahO,fun y hy=>absurd rfl hy⟩
theorem Ayg {prog:abS}{w:adI}{env:Env}{e:adX}{f:Str}{pos:Pos}{s:aaI}{Q:aaF->aaI->Prop}(hb:attributeBase e f env (eval e env)=eval e env)
 (h:abM (model prog w) A (eval e env) (fun o s₁=>abM (model prog w) A (getAttr o f true) Q E s₁) E s):abM (model prog w) A (eval (.Attribute e f pos) env) Q E s :=
 Attribute_any_ h (by rw[arm_eval_Attribute,hb])
end
def Bbq (K:abA)(ta:TE)(f:Str):TE:=fun σ H Q=>ta σ H fun x H1=>∃a C dx fs v,x=.ref a/\H1 a=some (.ins C dx fs)/\Cls K C/\NoAttr K C f/\fs.lookup f=some v/\Q v H1
def Bee (K:abA)(ta tv:TE)(f:Str):TS:=fun D σ H=>tv σ H fun y H1=>ta σ H1 fun x H2=>∃a C dx fs,x=.ref a/\H2 a=some (.ins C dx fs)/\Cls K C/\NoAttr K C f/\fs.length<1000/\
 D.nx σ (upd H2 a (.ins C dx (Adx f y fs)))
section
variable {X:Cx}{o e value:adX}{f:Str}{pos pos' tpos:Pos}{ta tv:TE}
theorem Aaj (he:PE X e ta)(hb:attributeBase e f X.env (eval e X.env)=eval e X.env):PE X (.Attribute e f pos) (Bbq X.K ta f):=by
 intro p_ s σ H Q I h;refine Ayg hb (thn (he p_ s σ H _ I h) fun u s1 ⟨x,H1,I1,rx,a,C,dx,fs,v,ex,ea,c,n,l,q⟩=>?_);subst ex;obtain rfl:u=aaR a:=rx;exact Ap1 I1 ea c n l fun u' s2 I2 ru=>⟨v,H1,I2,ru,q⟩
theorem Ad7 (ha:PE X o ta)(hv:PE X value tv)(hs:ajB value (some (.Attribute o f pos')) pos.line X.env=pure false):PS X (.Assign [.Attribute o f pos'] value pos) (Bee X.K ta tv f):=by
 intro p_ s σ H D I h;refine plainObj_wpAny_Assign_Attribute (thn (hv p_ s σ H _ I h) fun u s1 ⟨y,H1,I1,ry,q⟩=>thn (ha p_ s1 σ H1 _ I1 q) fun ov s2 ⟨x,H2,I2,rx,a,C,dx,fs,ex,ea,c,n,l,q2⟩=>?_) hs;subst ex;obtain rfl:ov=aaR a:=rx;exact Aob I2 ea c n l ry fun s3 I3=>⟨σ,_,I3,q2⟩
theorem Axp {pl:Sem Bool}{m:Str}{apos:Pos}{args:List adX}{p_:List (Addr×Obj)}{s:aaI}{σ:St}{H:Hp}{Q:aaF->aaI->Prop}{te:TE}(he:PE X e te)(I:Inv X p_ σ H s)
 (h:te σ H fun x H1=>∃a C dx fs g,x=.ref a/\H1 a=some (.ins C dx fs)/\Cls X.K C/\All X.K C m g/\fs.lookup m=none/\
  ∀s1,Inv X p_ σ H1 s1->abM (model X.prog X.w) X.A (callWith pos (.ref g) [.ref a] (afI pos (abL args X.env)) (backToKw pos (keywordEach [] X.env))) Q X.xe s1)
 (ht:eval (.Call (.Attribute e m apos) args [] pos) X.env=(do
  let ov <-eval e X.env
  standAt apos.atName
  let (f,first) <-holding [ov] (getMethod ov m pl)
  callWith pos f first (afI pos (abL args X.env)) (backToKw pos (keywordEach [] X.env)))) :
 abM (model X.prog X.w) X.A (eval (.Call (.Attribute e m apos) args [] pos) X.env) Q X.xe s:=by
 refine W.methodCall_KW (pl:=pl) (thn (he p_ s σ H _ I h) fun u s1 ⟨x,H1,I1,rx,a,C,dx,fs,g,ex,ea,c,k,l,q⟩=>?_) ht;subst ex;obtain rfl:u=aaR a:=rx;exact Aid I1 ea c k l (q s1 I1)
end
section
variable {X:Cx}{p_:List (Addr×Obj)}{σ:St}{H:Hp}{s:aaI}{A:adE}{E:aaF->aaI->Prop}{Q:aaF->aaI->Prop}{c:aaF}{b:Bool}
end
structure Room (k:Nat)(A:adE):Prop where
 hd:A.handled=none
 dp:A.depth+3*k+5<recursionLimit
 un:A.units+16*k+200<cLine
theorem Room.mono {j k:Nat}{A:adE}(r:Room k A)(h:j<=k):Room j A:=⟨r.hd,by have:=r.dp;lia,by have:=r.un;lia⟩
theorem Room.deeper {k:Nat}{A:adE}(r:Room (k+1) A)(env:Env):Room k (A.deeper env) :=
 ⟨r.hd,by have:=r.dp;show A.depth+1+3*k+5<_;lia,by have:=r.un;show A.units+3+16*k+200<_;lia⟩
theorem Room.in1 {k:Nat}{A:adE}(r:Room (k+1) A):Room k A.in1 :=
 ⟨r.hd,by have:=r.dp;show A.depth+3*k+5<_;lia,by have:=r.un;show A.units+1+16*k+200<_;lia⟩
theorem Aom {A:adE}{C:Addr}{us:List aaF}{kw:List (Str×aaF)}:(A.under (.builtin "type.__call__" ⟨.ref C::us,kw⟩)).depth=A.depth+1:=by
 first | rfl | simp[amY,Code.weight,Code.isCreation,Code.isGuard,Code.isCaller,Code.frames,anM,guardIds]
theorem Aol {A:adE}{C:Addr}{us:List aaF}{kw:List (Str×aaF)}:(A.under (.builtin "type.__call__" ⟨.ref C::us,kw⟩)).units=A.units+1:=by
 first | rfl | simp[amY,Code.cUnits,Code.frames,anM]
theorem Room.make {k:Nat}{A:adE}(r:Room (k+1) A)(C:Addr)(us:List aaF)(kw:List (Str×aaF)):Room k (A.under (.builtin "type.__call__" ⟨.ref C::us,kw⟩)) :=
 ⟨r.hd,by have:=r.dp;rw[Aom];lia,by have:=r.un;rw[Aol];lia⟩
theorem Room.depth {k:Nat}{A:adE}(r:Room k A):A.depth<recursionLimit:=by have:=r.dp;lia
theorem Room.units {k:Nat}{A:adE}(r:Room k A):A.units+64<cLine:=by have:=r.un;lia
def Ahb:TA:=fun _ H Q=>Q [] H
def Ab6 (ta:TE)(tr:TA):TA:=fun σ H Q=>ta σ H fun x H1=>tr σ H1 fun xs H2=>Q (x::xs) H2
section
variable {X:Cx}{e:adX}{es:List adX}{te:TE}{t:TA}{pos:Pos}
theorem Aa3:PA X [] Ahb:=fun _ _ _ _ H Q I h=>Calls.spliced_nil ⟨[],H,I,.nil,h⟩
theorem Aa0 (ha:PE X e te)(hr:PA X es t)(hs:abL (e::es) X.env=(false,eval e X.env)::abL es X.env:=by rfl):PA X (e::es) (Ab6 te t):=by
 intro pos p_ s σ H Q I h;rw[hs];show abM _ _ (spliced ((false,eval e X.env)::afI pos (abL es X.env))) _ _ s;refine Calls.spliced_cons (thn (ha p_ s σ H _ I h) fun u s1 ⟨x,H1,I1,r1,q1⟩=>?_);exact thn (hr pos p_ s1 σ H1 _ I1 q1) fun us s2 ⟨xs,H2,I2,r2,q2⟩=>⟨x::xs,H2,I2,.cons r1 r2,q2⟩
def Bbp (t:TA):TE:=fun σ H Q=>t σ H fun xs H1=>xs.length<=abB/\∀p,H1 p=none->Q (.ref p) (upd H1 p (.tup xs))
def Be0 (t:TA):TE:=fun σ H Q=>t σ H fun xs H1=>xs.length<=abB/\∀p,H1 p=none->Q (.ref p) (upd H1 p (.lst xs))
theorem Abd {x1}(h:PA X es t):PE X (.Tuple es x1 pos) (Bbp t):=by
 intro p_ s σ H Q I hq;refine wpAny_Tuple_spliced (thn (h pos p_ s σ H _ I hq) fun us s1 ⟨xs,H1,I1,r,z,q⟩=>⟨by rw[<-r.length];exact z,?_⟩);have hf:H1 s1.heap.objs.size=none:=I1.hok.fresh (aaK _);refine⟨.ref s1.heap.objs.size,upd H1 s1.heap.objs.size (.tup xs),I1.laid (t':=s1.toks) (fun b u e=>aaD _ e) (aaK _) ?_,rfl,q _ hf⟩;exact⟨z,us,r,⟨_,aaO _ rfl,rfl,_,rfl⟩⟩
theorem Abb (h:PA X es t):PE X (.List es pos) (Be0 t):=by
 intro p_ s σ H Q I hq;refine wpAny_List_spliced (thn (h pos p_ s σ H _ I hq) fun us s1 ⟨xs,H1,I1,r,z,q⟩=>⟨by rw[<-r.length];exact z,?_⟩);have hf:H1 s1.heap.objs.size=none:=I1.hok.fresh (aaK _);refine⟨.ref s1.heap.objs.size,upd H1 s1.heap.objs.size (.lst xs),I1.laid (t':=s1.toks) (fun b u e=>aaD _ e) (aaK _) ?_,rfl,q _ hf⟩;exact⟨z,us,0,r,aaO _ rfl⟩
end
abbrev Sp:=List V->Hp->VK->XK->Prop
abbrev CXT:=List Env->Hp->aaI->XK->aaF->aaI->Prop
structure Env0 (P:abS)(w:adI)(K:abA)(mg:Str->Option aaF)(base:Heap)(A:adE)(outer:List Env)(s:aaI)(H:Hp):Prop where
 frames:A.frames=some outer
 mod:Mod K mg base
 bs:∀b o,base.get? b=some o->s.heap.get? b=some o/\H b=none
 bsz:base.objs.size<=s.heap.objs.size
 funs:s.heap.FunFrames base outer
 frf:∀b∈frs outer,H b=none
 hok:HOk P w H s.heap
 bare:anI s.gens
def CE (outer:List Env)(P:abS)(w:adI)(H:Hp)(s:aaI)(Q:VK)(u:aaF)(s':aaI):Prop :=
 ∃v H',s'.os=s.os/\anI s'.gens/\Un (frs outer) [] H H' s.heap s'.heap/\HOk P w H' s'.heap/\RelV v u/\Q v H'
def CR (CX:CXT)(outer:List Env)(P:abS)(w:adI)(H:Hp)(s:aaI)(Q:VK)(E:XK)(r:Result)(s':aaI):Prop :=
 match r with
 | .ok (.ret u)=>CE outer P w H s Q u s'
 | .ok _=>False
 | .error e=>CX outer H s E e s'
structure FnOk (P:abS)(w:adI)(K:abA)(mg:Str->Option aaF)(base:Heap)(CX:CXT)(k:Nat)(f:Addr)(fd:aaX)(ps:List Str)(sp:Sp):Prop where
 len:∀vs H Q E,sp vs H Q E->vs.length=ps.length
 run:∀(A:adE) (outer:List Env) (s:aaI) (H:Hp) (args:Args) (us:List aaF) (vs:List V) (Q:VK) (E:XK),Room k A->Env0 P w K mg base A outer s H->BindsTo s fd args (ps.zip us)->Vals vs us->sp vs H Q E->
  amZ (model P w) A (.call (.ref f) args) (CR CX outer P w H s Q E) s
theorem FnOk.mono {P:abS}{w:adI}{K:abA}{mg:Str->Option aaF}{base:Heap}{CX:CXT}{j k:Nat}{f:Addr}{fd:aaX}{ps:List Str}{sp:Sp}(F:FnOk P w K mg base CX j f fd ps sp)(h:j<=k) :
 FnOk P w K mg base CX k f fd ps sp:=⟨F.len,fun A outer s H args us vs Q E hr=>F.run A outer s H args us vs Q E (hr.mono h)⟩
theorem FnOk.imp {P:abS}{w:adI}{K:abA}{mg:Str->Option aaF}{base:Heap}{CX:CXT}{k:Nat}{f:Addr}{fd:aaX}{ps:List Str}{sp sp':Sp}(F:FnOk P w K mg base CX k f fd ps sp)
 (h:∀vs H Q E,sp' vs H Q E->sp vs H Q E):FnOk P w K mg base CX k f fd ps sp' :=
 ⟨fun vs H Q E q=>F.len vs H Q E (h _ _ _ _ q),fun A outer s H args us vs Q E hr he hb hv hs=>F.run A outer s H args us vs Q E hr he hb hv (h _ _ _ _ hs)⟩
theorem Env0.make {P:abS}{w:adI}{K:abA}{mg:Str->Option aaF}{base:Heap}{A:adE}{outer:List Env}{s:aaI}{H:Hp}(e:Env0 P w K mg base A outer s H)(C:Addr)(us:List aaF)(kw:List (Str×aaF)) :
 Env0 P w K mg base (A.under (.builtin "type.__call__" ⟨.ref C::us,kw⟩)) outer s H:=⟨by first | exact e.frames | (simpa [amY,Code.envs,anM,pushEnvs] using e.frames),e.mod,e.bs,e.bsz,e.funs,e.frf,e.hok,e.bare⟩
section
variable {X:Cx}{p_:List (Addr×Obj)}{σ:St}{H:Hp}{s s':aaI}
theorem Inv.env0 (I:Inv X p_ σ H s):Env0 X.prog X.w X.K X.mg X.base X.A X.stack s H :=
 ⟨I.ok.frames,I.ok.mod,I.bs,abI I.ok.bsz I.sz,I.stack,I.stkFree,I.hok,I.bare⟩
theorem Inv.after {Q:VK}{u:aaF}(I:Inv X p_ σ H s)(h:CE X.stack X.prog X.w H s Q u s'):EP X p_ σ Q u s':=by
 obtain⟨v,H',os,bare,un,hok,r,q⟩:=h;obtain⟨hh,g,d,t,os'⟩:=s';obtain rfl:os'=s.os:=os;exact⟨v,H',I.call (h':=hh) (g':=g) (d':=d) (t':=t) (ch:=[]) un hok bare (fun b z=>absurd z (by simp)),r,q⟩
end
def Aiq (sp:Sp)(dvs:List V)(E:XK)(t:TA):TE:=fun σ H Q=>t σ H fun vs H1=>sp (vs++dvs) H1 Q E
def Asx (C:Addr)(m:Str)(sp:Sp)(dvs:List V)(E:XK)(ta:TE)(t:TA):TE:=fun σ H Q=>ta σ H fun x H1=>∃a dx fs,x=.ref a/\H1 a=some (.ins C dx fs)/\fs.lookup m=none/\
 t σ H1 fun vs H2=>sp (x::(vs++dvs)) H2 Q E
def Bc2 (C:Addr)(sp:Sp)(dvs:List V)(E:XK)(t:TA):TE:=fun σ H Q=>t σ H fun vs H1=>∀x dx,H1 x=none->H1 dx=none->dx≠x->
 sp (.ref x::(vs++dvs)) (upd (upd H1 dx (.own x)) x (.ins C dx [])) (fun v H2=>v=.non/\Q (.ref x) H2) E
def Binds (K:abA)(fd:aaX)(ps:List Str)(ds:List aaF):Prop :=
 ∀(s:aaI) (us:List aaF),K.In s.heap->(us++ds).length=ps.length->BindsTo s fd ⟨us,[]⟩ (ps.zip (us++ds))
theorem Binds.all {K:abA}{fd:aaX}{ps:List Str}(h:∀us:List aaF,us.length=ps.length->bindArgs fd ⟨us,[]⟩=pure (ps.zip us)):Binds K fd ps []:=fun s us _ hl=>by
 rw[aeD]at hl ⊢;exact .of_eq (h us hl)
def Ah9 (CX:CXT)(X:Cx)(E:XK):Prop:=∀(p_:List (Addr×Obj)) (σ:St) (H:Hp) (s:aaI) (e:aaF) (s':aaI),Inv X p_ σ H s->CX X.stack H s E e s'->X.xe e s'
section
variable {X:Cx}{CX:CXT}{k:Nat}{f C:Addr}{fd:aaX}{ps:List Str}{sp:Sp}{dvs:List V}{ds:List aaF}{E:XK}{x m:Str}{p pos apos:Pos}{e o:adX}{es:List adX}{ta:TE}{t:TA}
theorem Aqd {p_:List (Addr×Obj)}{σ:St}{H:Hp}{s:aaI}{Q:VK}{us:List aaF}{vs:List V}(F:FnOk X.prog X.w X.K X.mg X.base CX k f fd ps sp)(hr:Room k X.A)(hb:Binds X.K fd ps ds)(hd:Vals dvs ds)(hx:Ah9 CX X E)
 (I:Inv X p_ σ H s) (r:Vals vs us) (h:sp (vs++dvs) H Q E):abM (model X.prog X.w) X.A (call (.ref f) us) (EP X p_ σ Q) X.xe s:=by
 have r2:Vals (vs++dvs) (us++ds):=r.append hd;have hl:(us++ds).length=ps.length:=by rw[<-r2.length];exact F.len _ _ _ _ h
 refine alS (agU (F.run X.A X.stack s H ⟨us,[]⟩ (us++ds) (vs++dvs) Q E hr I.env0 (hb s us I.kIn hl) r2 h) fun r s' hq=>?_);cases r with
 | error e=>exact hx p_ σ H s e s' I hq
 | ok fl =>
  cases fl with
  | ret u=>exact I.after hq
  | next=>exact acM hq
  | brk=>exact acM hq
  | cont=>exact acM hq
theorem Aly (F:FnOk X.prog X.w X.K X.mg X.base CX k f fd ps sp)(hr:Room k X.A)(hg:Gl X x)(hm:X.mg x=some (.ref f))(hk:agE X.K (.ref f)=true)(hb:Binds X.K fd ps ds)(hd:Vals dvs ds)(hx:Ah9 CX X E)
 (ha:PA X (e::es) t) (hdb:(x==("__debug__" : Str))=false:=by decide) (he:abL (e::es) X.env=(false,eval e X.env)::abL es X.env:=by rfl) (hpl:(afI pos (abL es X.env)).any (·.1)=false:=by rfl) :
 PE X (.Call (.Name x p) (e::es) [] pos) (Aiq sp dvs E t):=by
 intro p_ s σ H Q I h;refine wpAny_Call_Name_kw (Aje I hg hm ?_ hdb);refine ajO (h₀:=X.base) I.ok.mod.kin hk (thn (ha pos p_ s σ H _ I h) fun us s1 ⟨vs,H1,I1,r,q⟩=>⟨I1.kIn,?_⟩) he hpl;exact Aqd F hr hb hd hx I1 r q
theorem Ab2 {pl:Sem Bool}(he:PE X o ta)(c:Cls X.K C)(hm:All X.K C m f)(F:FnOk X.prog X.w X.K X.mg X.base CX k f fd ps sp)(hr:Room k X.A)(hb:Binds X.K fd ps ds)(hd:Vals dvs ds)(hx:Ah9 CX X E)(ha:PA X (e::es) t)
 (hst:abL (e::es) X.env=(false,eval e X.env)::abL es X.env:=by rfl) (hpl:(afI pos (abL es X.env)).any (·.1)=false:=by rfl)
 (ht:eval (.Call (.Attribute o m apos) (e::es) [] pos) X.env=(do
  let ov <-eval o X.env
  standAt apos.atName
  let (f,first) <-holding [ov] (getMethod ov m pl)
  callWith pos f first (afI pos (abL (e::es) X.env)) (backToKw pos (keywordEach [] X.env))):=by rfl) :
 PE X (.Call (.Attribute o m apos) (e::es) [] pos) (Asx C m sp dvs E ta t):=by
 intro p_ s σ H Q I h;refine W.methodCall_KW (pl:=pl) (thn (he p_ s σ H _ I h) fun u s1 ⟨x,H1,I1,rx,a,dx,fs,ex,ea,l,q⟩=>?_) ht;subst ex;obtain rfl:u=aaR a:=rx;refine Aid I1 ea c hm l ?_;refine ajO (first:=[.ref a]) (h₀:=X.base) I.ok.mod.kin hm.kp (thn (ha pos p_ s1 σ H1 _ I1 q) fun us s2 ⟨vs,H2,I2,r,q2⟩=>⟨I2.kIn,?_⟩) hst hpl;exact Aqd (us:=.ref a::us) (vs:=.ref a::vs) F hr hb hd hx I2 (.cons rfl r) q2
structure Mk (K:abA)(C f:Addr):Prop where
 makes:W.makesIn K C=true
 init:afB K (.ref C) "__init__" = some (some (.ref f))
 fn:W.isFn K (.ref f)=true
 kp:agE K (.ref C)=true
theorem At7 {p_:List (Addr×Obj)}{σ:St}{H:Hp}{s:aaI}{Q:VK}{us:List aaF}{vs:List V}(M:Mk X.K C f)(F:FnOk X.prog X.w X.K X.mg X.base CX k f fd ps sp)(hr:Room (k+1) X.A)(hb:Binds X.K fd ps ds)(hd:Vals dvs ds)
 (hx:Ah9 CX X E) (I:Inv X p_ σ H s) (r:Vals vs us)
 (h:∀x dx,H x=none->H dx=none->dx≠x->sp (.ref x::(vs++dvs)) (upd (upd H dx (.own x)) x (.ins C dx [])) (fun v H2=>v=.non/\Q (.ref x) H2) E) :
 abM (model X.prog X.w) X.A (call (.ref C) us) (EP X p_ σ Q) X.xe s:=by
 have hq:=h (s.heap.objs.size+1) s.heap.objs.size (I.hok.fresh (Nat.le_succ _)) (I.hok.fresh (aaK _)) (acJ (ahK _));have I2:=Inv.made (C:=C) I;have r2:Vals (V.ref (s.heap.objs.size+1)::(vs++dvs)) (aaR (s.heap.objs.size+1)::(us++ds)):=.cons rfl (r.append hd);have hl:(aaR (s.heap.objs.size+1)::us++ds).length=ps.length:=by
  have e:=r2.length;rw[F.len _ _ _ _ hq]at e;exact e.symm
 refine alS (Au2 (f:=f) I.kIn M.makes M.init (beq_iff_eq.mp M.fn) (agU (F.run _ X.stack _ _ ⟨aaR (s.heap.objs.size+1)::us,[]⟩ (aaR (s.heap.objs.size+1)::(us++ds)) _ _ E (hr.make C us [])
  (I2.env0.make C us []) (hb _ (aaR (s.heap.objs.size+1)::us) I2.kIn hl) r2 hq) fun r s' hq'=>?_))
 cases r with
 | error e=>exact hx p_ σ _ _ e s' I2 hq'
 | ok fl =>
  cases fl with
  | ret u =>
   obtain⟨v,H',I3,rv,ev,q3⟩:=I2.after hq';subst ev;exact⟨rv,⟨V.ref (s.heap.objs.size+1),H',I3,rfl,q3⟩⟩
  | next=>exact acM hq'
  | brk=>exact acM hq'
  | cont=>exact acM hq'
theorem Agd (M:Mk X.K C f)(F:FnOk X.prog X.w X.K X.mg X.base CX k f fd ps sp)(hr:Room (k+1) X.A)(hg:Gl X x)(hm:X.mg x=some (.ref C))(hb:Binds X.K fd ps ds)(hd:Vals dvs ds)(hx:Ah9 CX X E)
 (ha:PA X (e::es) t) (hdb:(x==("__debug__" : Str))=false:=by decide) (he:abL (e::es) X.env=(false,eval e X.env)::abL es X.env:=by rfl) (hpl:(afI pos (abL es X.env)).any (·.1)=false:=by rfl) :
 PE X (.Call (.Name x p) (e::es) [] pos) (Bc2 C sp dvs E t):=by
 intro p_ s σ H Q I h;refine wpAny_Call_Name_kw (Aje I hg hm ?_ hdb);refine ajO (h₀:=X.base) I.ok.mod.kin M.kp (thn (ha pos p_ s σ H _ I h) fun us s1 ⟨vs,H1,I1,r,q⟩=>⟨I1.kIn,?_⟩) he hpl;exact At7 M F hr hb hd hx I1 r q
end
def PK (X:Cx)(kws:List Keyword)(t:TA):Prop :=
 ∀(pos:Pos) (p_:List (Addr×Obj)) (s:aaI) (σ:St) (H:Hp) (Q:List V->Hp->Prop),Inv X p_ σ H s->t σ H Q->abM (model X.prog X.w) X.A (evalAll ((backToKw pos (keywordEach kws X.env)).map (·.2))) (AP X p_ σ Q) X.xe s
section
variable {X:Cx}{CX:CXT}{k:Nat}{f C:Addr}{fd:aaX}{ps ks:List Str}{sp:Sp}{E:XK}{x m:Str}{p pos apos kpos:Pos}{e o:adX}{es:List adX}{kws:List Keyword}{te ta:TE}{t tk:TA}{nm:Option Str}
theorem Azz:PK X [] Ahb:=fun _ _ _ _ H Q I h=>wpAny_evalAll_nil ⟨[],H,I,.nil,h⟩
theorem Ax1 (ha:PE X e te)(hr:PK X kws t):PK X (⟨nm,e,kpos⟩ :: kws) (Ab6 te t):=by
 intro pos p_ s σ H Q I h;show abM _ _ (evalAll ((do let v <-eval e X.env;standAt pos;pure v)::(backToKw pos (keywordEach kws X.env)).map (·.2))) _ _ s;refine wpAny_evalAll_cons (aaC (thn (ha p_ s σ H _ I h) fun u s1 ⟨x,H1,I1,r1,q1⟩=>aaC (wpAny_standAt (aaL ?_))));exact thn (hr pos p_ s1 σ H1 _ I1 q1) fun us s2 ⟨xs,H2,I2,r2,q2⟩=>⟨x::xs,H2,I2,.cons r1 r2,q2⟩
variable {g:List aaF->List aaF->List aaF}{gV:List V->List V->List V}
end
structure Aaa (N P:List Str)(sc:Scope):Prop where
 kind:sc.kind=.function
 co:sc.isCoroutine=false
 gen:sc.isGenerator=false
 nd:N.Nodup
 pre:N.take P.length=P
 par:∀x∈P,sc.names.lookup x=some .local \/sc.names.lookup x=some .cell
 nofree:∀y∈sc.names,y.2≠.free
theorem Alc {kindOf:Str->Option afJ}{x:Str}:∀{binds:List (Str×aaF)} {m:Str->Option aaF},(∀v,(x,v)∉binds)->bindL kindOf binds m x=m x
 | [],_,_=>rfl
 | (n,v)::r,m,h=>by
  unfold bindL;rw[Alc fun w hw=>h w (abP _ hw)]
  split
  ·have:x≠n:=by rintro rfl;exact h v adB
   simp[this]
  ·rfl
theorem Ale {kindOf:Str->Option afJ}{x:Str}:∀{binds:List (Str×aaF)} {m:Str->Option aaF},(∀v,(x,v)∉binds)->bindC kindOf binds m x=m x
 | [],_,_=>rfl
 | (n,v)::r,m,h=>by
  unfold bindC;rw[Ale fun w hw=>h w (abP _ hw)]
  split
  ·rfl
  ·have:x≠n:=by rintro rfl;exact h v adB
   simp[this]
theorem Ald {kindOf:Str->Option afJ}{x:Str}{v:aaF}:∀{P:List Str} {vs:List aaF} {i:Nat} {m:Str->Option aaF},P.Nodup->P[i]?=some x->vs[i]?=some v->kindOf x=some .local ->
 bindL kindOf (P.zip vs) m x=some v
 | [],_,_,_,_,h,_,_=>by simp at h
 | _::_,[],_,_,_,_,h,_=>by simp at h
 | p::P,w::vs,0,m,nd,h1,h2,hk=>by
  simp at h1 h2;subst h1;subst h2;show bindL kindOf ((p,w)::P.zip vs) m p=_;unfold bindL;rw[Alc fun v hv=>(abR.mp nd).1 (alK hv).1,ifp hk];simp
 | p::P,w::vs,i+1,m,nd,h1,h2,hk=>by
  show bindL kindOf ((p,w)::P.zip vs) m x=_;unfold bindL;exact Ald (i:=i) (abR.mp nd).2 (by simpa using h1) (by simpa using h2) hk
theorem Alf {kindOf:Str->Option afJ}{x:Str}{v:aaF}:∀{P:List Str} {vs:List aaF} {i:Nat} {m:Str->Option aaF},P.Nodup->P[i]?=some x->vs[i]?=some v->kindOf x≠some .local ->
 bindC kindOf (P.zip vs) m x=some v
 | [],_,_,_,_,h,_,_=>by simp at h
 | _::_,[],_,_,_,_,h,_=>by simp at h
 | p::P,w::vs,0,m,nd,h1,h2,hk=>by
  simp at h1 h2;subst h1;subst h2;show bindC kindOf ((p,w)::P.zip vs) m p=_;unfold bindC;rw[Ale fun v hv=>(abR.mp nd).1 (alK hv).1,ifn hk];simp
 | p::P,w::vs,i+1,m,nd,h1,h2,hk=>by
  show bindC kindOf ((p,w)::P.zip vs) m x=_;unfold bindC;exact Alf (i:=i) (abR.mp nd).2 (by simpa using h1) (by simpa using h2) hk
def start (N:List Str)(vs:List V):St:=vs.map some++amH (N.length-vs.length) none
def Avw (CX:CXT)(P:abS)(w:adI)(K:abA)(mg:Str->Option aaF)(base:Heap)(N:List Str)(qual:Str)(scope:Scope)(f:Addr)(cd:aaF)(A:adE)(outer:List Env)(s:aaI)(H:Hp)(E:XK):Cx where
 prog:=P
 w:=w
 K:=K
 mg:=mg
 base:=base
 A:=A.deeper (envOfC qual scope s.heap.objs.size f cd)
 N:=N
 s_0:=s
 H_0:=H
 env:=envOfC qual scope s.heap.objs.size f cd
 outer:=outer
 stack:=envOfC qual scope s.heap.objs.size f cd::outer
 ex:=[]
 calm:=true
 fn:=fun _=>true
 pn:=[]
 xe:=fun e s'=>abM (model P w) (A.deeper (envOfC qual scope s.heap.objs.size f cd)) (leaving (envOfC qual scope s.heap.objs.size f cd) e) (fun _ s''=>CX outer H s E e s'') (fun e' s''=>CX outer H s E e' s'') s'
theorem Ajs {sc:Scope}{n:Nat}{x:Str}(h:sc.names.lookup x=some .cell):∃c,(cellsFrom n sc.names []).lookup x=some c:=by
 have q:=W.cellsFrom_some sc.names n [] (.inl h);exact alX.mp q
theorem Aro {CX:CXT}{P:abS}{w:adI}{K:abA}{mg:Str->Option aaF}{base:Heap}{N ps:List Str}{qual:Str}{scope:Scope}{f:Addr}{cd:aaF}{A:adE}{outer:List Env}{s s1:aaI}{H:Hp}{E:XK}{us:List aaF}{vs:List V}
 (S:Aaa N ps scope) (hd:A.handled=none) (e0:Env0 P w K mg base A outer s H) (hl:vs.length=ps.length) (r:Vals vs us)
 (x:InCallC s s.heap.objs.size (bindL (envOfC qual scope s.heap.objs.size f cd).kindOf (ps.zip us) fun _=>none) (cellsFrom (s.heap.objs.size+1) scope.names []) (bindC (envOfC qual scope s.heap.objs.size f cd).kindOf (ps.zip us) fun _=>none) s1) :
 Inv (Avw CX P w K mg base N qual scope f cd A outer s H E) [] (start N vs) H s1:=by
 have hpl:ps.length<=N.length:=by have:=congrArg afK S.pre;rw[abJ]at this;lia
 obtain⟨h1,tk,rfl,hk⟩:=x.done;have noA:∀b:Addr,b∉(Avw CX P w K mg base N qual scope f cd A outer s H E).ex:=fun b z=>absurd (show b∈([]:List Addr)from z) (by simp)
 refine⟨⟨e0.mod,S.kind,rfl,rfl,aaK _,fun y z c h1 h2=>?_,fun y hy=>?_,fun y c _ h=>?_,fun _=>hd,anH e0.frames,.inr ⟨rfl,rfl⟩,fun b z=>absurd z (noA b),e0.bs,e0.bsz,fun b _ _=>noA b,fun b z=>absurd z (noA b),e0.funs,e0.frf⟩,
  rfl,e0.bare,Un.kept hk,⟨_,x.toInCall.ns,fun i y v h1 h2 h3=>?_⟩,fun y c h=>⟨_,x.cell y c h⟩,e0.hok.fresh (aaK _),fun y c h=>?_,fun p hp=>absurd (show p∈([]:List (Addr×Obj))from hp) (by simp),e0.hok.kept hk,?_⟩
 ·exact name_of_addr x.apart (acI h1) (acI h2)
 ·have hy:scope.names.lookup y=some .cell \/scope.names.lookup y=some .free:=hy;rcases hy with hy | hy
  ·exact Ajs hy
  ·exact absurd rfl (S.nofree _ (acI hy))
 ·exact aeW (x.above y c (acI h))
 ·have hi:i<vs.length:=by
   unfold start at h2
   by_cases hi:i<vs.length
   ·exact hi
   ·rw[agB (by simpa using hi)]at h2;rw[agR]at h2
    split at h2<;>cases h2
  have ha:vs[i]?=some v:=by
   unfold start at h2;rw[acL (by simpa using hi),aaH]at h2;cases e:vs[i]? with
   | none=>rw[e]at h2;cases h2
   | some a=>rw[e]at h2;cases h2;rfl
  obtain⟨u,hu,rv⟩:=r.get ha;have hp:ps[i]?=some y:=by
   rw[<-S.pre,List.getElem?_take_of_lt (by lia)];exact h1
  have ndP:ps.Nodup:=by rw[<-S.pre];exact S.nd.sublist (List.take_sublist _ _)
  refine⟨u,rv,?_⟩;rcases S.par y (aaJ hp)with k | k
  ·exact .inl ⟨k,Ald ndP hp hu k⟩
  ·obtain⟨c,e⟩:=Ajs (n:=s.heap.objs.size+1) k;refine .inr ⟨.inl k,c,e,?_⟩;have q:=x.cell y c e;rw[Alf ndP hp hu (by show scope.names.lookup y≠_;rw[k];decide)]at q;exact q
 ·exact e0.hok.fresh (aeW (x.above y c (acI h)))
 ·unfold start;show _=N.length;rw[aaM,aaA,aeS];lia
theorem Bbb {CX:CXT}{P:abS}{w:adI}{K:abA}{mg:Str->Option aaF}{base:Heap}{k:Nat}{f:Addr}{name qual:Str}{params:aiH}{body:List afD}{scope:Scope}{dV kV doc pm cdv ct oc:aaF}{an od:Option Addr}
 {osl:Array (Option aaF)} {N ps:List Str} {sp:Sp} (lk:K.lookup f=some ⟨oc,od,.func (akC name qual params body scope dV kV doc pm an cdv ct),osl⟩) (hcd:akQ K cdv qual=true) (S:Aaa N ps scope)
 (len:∀vs H Q E,sp vs H Q E->vs.length=ps.length)
 (hbody:∀(A:adE) (outer:List Env) (s:aaI) (H:Hp) (vs:List V) (Q:VK) (E:XK),Room k (A.deeper (envOfC qual scope s.heap.objs.size f cdv))->sp vs H Q E->
  ∃t,PSs (Avw CX P w K mg base N qual scope f cdv A outer s H E) body t/\t { nx:=fun _ H'=>Q .non H',rt:=Q } (start N vs) H) :
 FnOk P w K mg base CX (k+1) f (akC name qual params body scope dV kV doc pm an cdv ct) ps sp:=by
 refine⟨len,fun A outer s H args us vs Q E hr e0 hb r hsp=>?_⟩;have hl:=len _ _ _ _ hsp;have KX:K.In s.heap:=e0.mod.kin.keeps fun b o e=>(e0.bs b o e).1;have lim:s.heap.NoLimit:=e0.mod.nolimit.keeps fun b o e=>(e0.bs b o e).1;have hkind:∀y∈ps.zip us,scope.names.lookup y.1=some .local \/(scope.names.lookup y.1=some .cell /\((cellsFrom (s.heap.objs.size+1) scope.names []).lookup y.1).isSome=true):=fun⟨n,v⟩ hy=>by
  rcases S.par n (alK hy).1 with q | q
  ·exact .inl q
  ·exact .inr ⟨q,W.cellsFrom_some _ _ _ (.inl q)⟩
 refine codeAny_call_function hr.depth (KX _ _ lk) rfl S.co S.gen rfl (W.codeRec_of KX hcd) (hb _ _ _ _ ?_);refine wpAny_newFunctionEnv_cells S.kind hkind fun env he s1 x=>?_;subst he;refine⟨lim.keeps x.toInCall.keep,codeAny_func ?_⟩;obtain⟨t,ht,hq⟩:=hbody A outer s H vs Q E (hr.deeper _) hsp;have I:Inv (Avw CX P w K mg base N qual scope f cdv A outer s H E) [] (start N vs) H s1:=Aro S hr.hd e0 hl r x
 refine aeE (ht [] s1 (start N vs) H _ I hq) (fun fl s' hs=>?_) fun e s' hs=>hs;have fin:∀{σ':St} {H':Hp} {v:V} {u:aaF},Inv (Avw CX P w K mg base N qual scope f cdv A outer s H E) [] σ' H' s'->RelV v u->Q v H'->CE outer P w H s Q u s' :=
  fun {σ' H' v u} J rv q=>⟨v,H',J.os,J.bare,J.base,J.hok,rv,q⟩
 cases fl with
 | ret u =>
  obtain⟨v,σ',H',J,rv,q⟩:=hs;exact fin J rv q
 | next =>
  obtain⟨σ',H',J,q⟩:=hs;exact fin (v:=V.non) (u:=afE) J rfl q
 | brk =>
  obtain⟨_,_,_,q⟩:=hs;exact acM q
 | cont =>
  obtain⟨_,_,_,q⟩:=hs;exact acM q
section
variable {X:Cx}{x:Str}{p pos:Pos}{e:adX}{es:List adX}{t:TA}{id T:String}{r:List V->Hp->VK->Prop}
def tCB (r:List V->Hp->VK->Prop)(t:TA):TE:=fun σ H Q=>t σ H fun vs H1=>r vs H1 Q
theorem Aae (hc:Afb X (.builtin id) r)(hg:Gl X x)(hm:X.mg x=none)(hv:ahN x=some (.builtin id))(ha:PA X (e::es) t)(hn:x≠"__name__":=by decide)(hdb:(x==("__debug__" : Str))=false:=by decide)
 (he:abL (e::es) X.env=(false,eval e X.env)::abL es X.env:=by rfl) (hpl:(afI pos (abL es X.env)).any (·.1)=false:=by rfl):PE X (.Call (.Name x p) (e::es) [] pos) (tCB r t):=by
 intro p_ s σ H Q I h;refine wpAny_Call_Name_kw (Agk I hg hm hv ?_ hn hdb);exact PyProof.Rows.callWith_builtin1 (thn (ha pos p_ s σ H _ I h) fun us s1 ⟨vs,H1,I1,r1,q1⟩=>hc p_ s1 σ H1 vs us Q I1 r1 q1) he hpl
theorem Agf (hc:Afb X (.type T) r)(hg:Gl X x)(hm:X.mg x=none)(hv:ahN x=some (.type T))(ha:PA X (e::es) t)(hn:x≠"__name__":=by decide)(hdb:(x==("__debug__" : Str))=false:=by decide)
 (he:abL (e::es) X.env=(false,eval e X.env)::abL es X.env:=by rfl) (hpl:(afI pos (abL es X.env)).any (·.1)=false:=by rfl):PE X (.Call (.Name x p) (e::es) [] pos) (tCB r t):=by
 intro p_ s σ H Q I h;refine wpAny_Call_Name_kw (Agk I hg hm hv ?_ hn hdb);exact aeH (thn (ha pos p_ s σ H _ I h) fun us s1 ⟨vs,H1,I1,r1,q1⟩=>hc p_ s1 σ H1 vs us Q I1 r1 q1) he hpl
end
end L2
namespace HT
open PySem PyProof.Rows
theorem eqAt_int (A:adE)(s:aaI)(a:Int)(t:Tok)(c:Int)(u:Tok):∃e,SeqAt.EqAt A s (.int a t) (.int c u) e/\(e=true↔a=c) :=
 ⟨(a==c),SeqAt.EqAt.int_int a t c u,by simp⟩
section
open PySem.SeqAt
open PySem.AutoSeq1 (wpAny_loadPart')
open PySem.MeetsSeq PySem.MeetsSeq2 PySem.MeetsSeq3
end
section
variable {prog:abS}{w:adI}{A:adE}{E:aaF->aaI->Prop}{s:aaI}
theorem cat_tup {t b:Addr}{vs ws:List aaF}{Q:aaF->aaI->Prop}(ht:IsTup s.heap t vs.toArray)(hb:IsTup s.heap b ws.toArray)(hv:vs≠[])
 (h1:ws=[]->Q (.ref t) s) (h2:ws≠[]->Q (.ref s.heap.objs.size) { s with heap:=s.heap.push { cls:=.type "tuple",data:=.seq (vs++ws).toArray } })
 (hsz:vs.length+ws.length<=abB):abM (model prog w) A (binaryOp .Add (.ref t) (.ref b)) Q E s:=by
 obtain⟨⟨cls,dd,data,sl⟩,ho,hc,n,hd⟩:=id ht;obtain⟨⟨cls2,dd2,data2,sl2⟩,ho2,hc2,n2,hd2⟩:=id hb;simp only at hc hd hc2 hd2;subst hc hd hc2 hd2;have e:vs.toArray++ws.toArray=(vs++ws).toArray:=by simp
 by_cases hw:ws=[]
 ·exact concat_meets ⟨_,ho,rfl⟩ ⟨_,ho2,rfl⟩ noFill_tuple_add seq_tuple_add amE alV (alI _ _)
   (tuple_addW1 t b vs.toArray ws.toArray n n2 dd dd2 sl sl2 (by simpa using hv) (by simp[hw])) ⟨ho,ho2,h1 hw⟩
 ·refine concat_meets ⟨_,ho,rfl⟩ ⟨_,ho2,rfl⟩ noFill_tuple_add seq_tuple_add amE alV (alI _ _)
   (tuple_addW2 t b vs.toArray ws.toArray n n2 dd dd2 sl sl2 (by simpa using hv) (by simpa using hw) (by rw[aaP,aaP];exact hsz)) ⟨ho,ho2,?_⟩
  rw[e];exact h2 hw
def sIx (n d:Nat):Option Int->Nat
 | none=>d
 | some v=>if v<0 then(v+(n:Int)).toNat else min v.toNat n
theorem Bch (n d k:Nat):sIx n d (some (k:Int))=min k n:=by
 show(if (k:Int)<0 then((k:Int)+(n:Int)).toNat else min (k:Int).toNat n)=min k n;rw[ifn (by lia),afH]
theorem Azu (n d:Nat)(hd:d<=n)(o:Option Int):sIx n d o<=n:=by
 cases o with
 | none=>exact hd
 | some v =>
  show(if v<0 then(v+(n:Int)).toNat else min v.toNat n)<=n
  by_cases hv:v<0
  ·rw[ifp hv];lia
  ·rw[ifn hv];exact alA _ _
theorem As8 (v:Int)(n d:Nat):(if v<0 then max (v+(n:Int)) 0 else min v (n:Int))=((sIx n d (some v):Nat):Int):=by
 show(if v<0 then max (v+(n:Int)) 0 else min v (n:Int))=(((if v<0 then(v+(n:Int)).toNat else min v.toNat n):Nat):Int)
 by_cases hv:v<0
 ·simp only[ifp hv];lia
 ·simp only[ifn hv];lia
theorem Ap8 (lo hi:Option Int)(n:Nat):ahJ lo hi 1 (n:Int)=(((sIx n 0 lo:Nat):Int),((sIx n n hi:Nat):Int)):=by
 have h1:¬((1:Int)<0):=by lia
 unfold ahJ;simp only[h1,if_false];refine ahX ?_ ?_
 ·cases lo with
  | none=>rfl
  | some v=>exact As8 v n 0
 ·cases hi with
  | none=>rfl
  | some v=>exact As8 v n n
theorem Aoh (i j:Nat):afR (i:Int) (j:Int) 1=j-i:=by
 unfold afR;have h1:(1:Int)>0:=by lia
 simp only[h1,if_true,Int.ediv_one]
 split<;>lia
theorem Ahz {v:aaF}{o:Option Int}{Q:Option Int->aaI->Prop}(p:IsPart v o)(h:Q o s):abM (model prog w) A (Builtin.Slice.slicePartIndex v) Q E s:=by
 cases p with
 | none=>exact slicePart_none h
 | int i t=>exact slicePart_int h
theorem Afo {sl:Addr}{vl vu:aaF}{lo hi:Option Int}{n:Nat}{Q:Int×Int×Nat->aaI->Prop}(hs:s.heap.IsSliceOf sl vl vu .none)(pl:IsPart vl lo)(pu:IsPart vu hi)
 (h:Q (((sIx n 0 lo:Nat):Int),1,sIx n n hi-sIx n 0 lo) s):abM (model prog w) A (ajX (.ref sl) (pure (n:Int))) Q E s:=by
 obtain⟨os,hos,hcs,hds⟩:=id hs;unfold ajX Builtin.Slice.sliceFields;refine aaC (aaC (wpAny_field hos hds (x:=vl) rfl (aaC (wpAny_field hos hds (x:=vu) rfl (aaC (wpAny_field hos hds (x:=.none) rfl (aaL ?_)))))));refine aaC (slicePart_none ?_);show abM _ _ (if ((1:Int)==0)=true then _ else _) _ _ s;rw[ifn (by decide)];refine aaC (Ahz pl (aaC (Ahz pu (aaC (aaL ?_)))))
 show abM _ _ (match ahJ lo hi 1 (n:Int)with | (lo,hi)=>pure (lo,(1:Int),afR lo hi 1)) _ _ s;rw[Ap8 lo hi n];show abM _ _ (pure (((sIx n 0 lo:Nat):Int),(1:Int),afR ((sIx n 0 lo:Nat):Int) ((sIx n n hi:Nat):Int) 1)) _ _ s;rw[Aoh];exact aaL h
theorem Atd (xs:Array aaF)(i k:Nat):((aaT k).filterMap fun(m:Nat)=>xs[((i:Int)+(m:Int)*1).toNat]?).toArray=((xs.toList.drop i).take k).toArray:=by
 have e:(fun(m:Nat)=>xs[((i:Int)+(m:Int)*1).toNat]?)=fun m=>xs[i+m]?:=by
  funext m
  have:((i:Int)+(m:Int)*1).toNat=i+m:=by lia
  rw[this]
 rw[e];have:=pick_run xs i k;rw[List.filterMap_map]at this;have e2:((fun x=>xs[x]?) ∘ fun x=>i+x)=fun m=>xs[i+m]?:=rfl;rw[e2]at this;rw[this]
theorem getItem_tuple_cut {t sl:Addr}{items:Array aaF}{vl vu:aaF}{lo hi:Option Int}{Q:aaF->aaI->Prop}(ht:IsTup s.heap t items)(hs:s.heap.IsSliceOf sl vl vu .none)(pl:IsPart vl lo)(pu:IsPart vu hi)
 (hw:¬(sIx items.size 0 lo=0/\sIx items.size items.size hi=items.size))
 (h:Q (.ref s.heap.objs.size) { s with heap:=s.heap.push { cls:=.type "tuple",data:=.seq ((items.toList.drop (sIx items.size 0 lo)).take (sIx items.size items.size hi-sIx items.size 0 lo)).toArray } })
 (hsz:items.size<=abB):abM (model prog w) A (getItem (.ref t) (.ref sl)) Q E s:=by
 have htake:sizeOk (.seq ((items.toList.drop (sIx items.size 0 lo)).take (sIx items.size items.size hi-sIx items.size 0 lo)).toArray):=by
  show((items.toList.drop (sIx items.size 0 lo)).take (sIx items.size items.size hi-sIx items.size 0 lo)).toArray.size<=abB;rw[aaP,abJ,afO,agJ];lia
 have hj:sIx items.size items.size hi<=items.size:=Azu _ _ (aaK _) hi;obtain⟨os,hos,hcs,hds⟩:=id hs;have hTs:s.TypeIs (.ref sl) "slice":=⟨os,hos,hcs⟩
 unfold getItem
 try with_reducible refine wpAny_holding ?_
 first | refine aaC (aaL ?_) | skip
 refine aaC (wpAny_sequenceKey ht.typeIs (by decide) ?_)
 refine aaC (wpAny_callSpecial?_slot (name:=aaY "__getitem__") ht.typeIs agK
  (wpAny_call_entry agK ht.typeIs entry_tuple_getitem ?_ (args_tuple_getitem _ _)))
 show abM _ _ (Builtin.Tuple.tupleItemsOf (.ref t) >>= _) _ _ s;refine aaC (tupleItemsOf_ ht ?_);refine aaC (wpAny_typeOf hTs ?_);rw[ifp (by decide)];refine aaC (Afo hs pl pu ?_);have hno:¬((((sIx items.size 0 lo:Nat):Int)==0&&(1:Int)==1&&(sIx items.size items.size hi-sIx items.size 0 lo)==items.size)=true):=by
  intro q;rw[acH,acH]at q;have q1:((sIx items.size 0 lo:Nat):Int)=0:=eq_of_beq q.1.1;have q2:sIx items.size items.size hi-sIx items.size 0 lo=items.size:=eq_of_beq q.2;exact hw ⟨by lia,by lia⟩
 show abM _ _ (if (((sIx items.size 0 lo:Nat):Int)==0&&(1:Int)==1&&(sIx items.size items.size hi-sIx items.size 0 lo)==items.size)=true then _ else _) _ _ s;rw[ifn hno,Atd]
 first
  | exact aaC (m:=afZ _) (wpAny_newObj_type (aaL ⟨_,rfl,aaL h⟩) htake)
  | exact aaC (m:=afZ _) (wpAny_newObj_type (aaC (aaL (aaL ⟨_,rfl,aaL h⟩))) htake)
  | exact aaC (aaC (m:=afZ _) (wpAny_newObj_type (aaL (aaL ⟨_,rfl,aaL h⟩)) htake))
  | exact aaC (aaC (m:=afZ _) (wpAny_newObj_type (aaL ⟨_,rfl,aaL h⟩) htake))
end
end HT
namespace L2
open PySem PySem.Spec PyProof.Rows
abbrev TO:=St->Hp->(Option Int->Hp->Prop)->Prop
def PO (X:Cx)(e:Option adX)(t:TO):Prop :=
 ∀(p_:List (Addr×Obj)) (s:aaI) (σ:St) (H:Hp) (Q:Option Int->Hp->Prop),Inv X p_ σ H s->t σ H Q->
  abM (model X.prog X.w) X.A (evalPart e X.env) (fun u s'=>∃o H',Inv X p_ σ H' s'/\IsPart u o/\Q o H') X.xe s
def Apo:TO:=fun _ H Q=>Q none H
def Az8 (t:TE):TO:=fun σ H Q=>t σ H fun x H1=>∃i,x=.int i/\Q (some i) H1
theorem Aby {ns:List Int}:∀{us:List aaF},Vals (ns.map V.int) us->IntsAre us ns:=by
 induction ns with
 | nil=>intro us r;rw[agM]at r;cases r;exact .nil
 | cons n ns ih =>
  intro us r;rw[abE]at r;cases r with
  | cons r1 r2 =>
   obtain⟨t,e⟩:=r1;subst e;exact .cons n t (ih r2)
section
variable {X:Cx}{e:adX}{te:TE}{lo hi:Option adX}{tl th:TO}{pos p2:Pos}
theorem Aqp:PO X none Apo:=by
 intro p_ s σ H Q I h;rw[evalPart_none];exact aaL ⟨none,H,I,.none,h⟩
theorem Aqo (h:PE X e te):PO X (some e) (Az8 te):=by
 intro p_ s σ H Q I hw;rw[evalPart_some];refine thn (h p_ s σ H _ I hw) fun u s1 ⟨x,H1,I1,r1,q1⟩=>?_;obtain⟨i,rfl,q⟩:=q1;obtain⟨t,rfl⟩:=r1;exact⟨some i,H1,I1,.int i t,q⟩
def SlR (X:Cx)(r:V->Option Int->Option Int->Hp->VK->Prop):Prop :=
 ∀(p_:List (Addr×Obj)) (s:aaI) (σ:St) (H:Hp) (x:V) (v vl vu:aaF) (lo hi:Option Int) (sl:Addr) (Q:VK),Inv X p_ σ H s->RelV x v->s.heap.IsSliceOf sl vl vu .none->IsPart vl lo->IsPart vu hi->r x lo hi H Q->
  ∃T id,typeLookup (.type T) "__getitem__" = pure (some (.builtin id))/\s.TypeIs v T/\abM (model X.prog X.w) X.A (getItem v (.ref sl)) (EP X p_ σ Q) X.xe s
def tSl (r:V->Option Int->Option Int->Hp->VK->Prop)(te:TE)(tl th:TO):TE:=fun σ H Q=>te σ H fun x H1=>tl σ H1 fun l H2=>th σ H2 fun u H3=>r x l u H3 Q
theorem Ana {r:V->Option Int->Option Int->Hp->VK->Prop}(hr:SlR X r)(he:PE X e te)(hl:PO X lo tl)(hu:PO X hi th):PE X (.Subscript e (.Slice lo hi none p2) pos) (tSl r te tl th):=by
 intro p_ s σ H Q I h;refine Subscript_ (thn (he p_ s σ H _ I h) fun v s1 ⟨x,H1,I1,r1,q1⟩=>?_);refine wpAny_Slice (thn (hl p_ s1 σ H1 _ I1 q1) fun vl s2 ⟨l,H2,I2,pl,q2⟩=>thn (hu p_ s2 σ H2 _ I2 q2) fun vu s3 ⟨u,H3,I3,pu,q3⟩=>?_);rw[evalPart_none];refine aaL ?_;have I4:Inv X p_ σ H3 { s3 with heap:=s3.heap.push { cls:=.type "slice",data:=.fields #[vl,vu,.none] } }:=I3.kept (t':=s3.toks) fun b ob q=>aaD _ q
 obtain⟨T,id,hT,ht,hg⟩:=hr p_ { s3 with heap:=s3.heap.push { cls:=.type "slice",data:=.fields #[vl,vu,.none] } } σ H3 x v vl vu l u s3.heap.objs.size Q I4 r1 (Heap.IsSliceOf.new ..) pl pu q3;show abM (model X.prog X.w) X.A (subscriptTail e (.Slice lo hi none p2) v (.ref s3.heap.objs.size)) (EP X p_ σ Q) X.xe { s3 with heap:=s3.heap.push { cls:=.type "slice",data:=.fields #[vl,vu,.none] } };exact tail_any (ops:=[.ref s3.heap.objs.size,v]) ht hT hg (by with_unfolding_all rfl)
def Asr (xs:List V)(lo hi:Option Int):List V:=(xs.drop (HT.sIx xs.length 0 lo)).take (HT.sIx xs.length xs.length hi-HT.sIx xs.length 0 lo)
theorem Ah2 (xs:List V)(lo hi:Option Int):(Asr xs lo hi).length<=xs.length:=by
 unfold Asr;rw[abJ,afO];lia
def Bdr (K:abA):V->Option Int->Option Int->Hp->VK->Prop:=fun x lo hi H Q=>∃a xs,x=.ref a/\SqT K H a xs/\
 ¬(HT.sIx xs.length 0 lo=0/\HT.sIx xs.length xs.length hi=xs.length)/\∀p,H p=none->Q (.ref p) (upd H p (.tup (Asr xs lo hi)))
theorem Azm:SlR X (Bdr X.K):=by
 intro p_ s σ H x v vl vu lo hi sl Q I rx hs pl pu h;obtain⟨a,xs,rfl,hx,hw,q⟩:=h;cases rx;obtain⟨its,r,ht,hz⟩:=I.tuple hx;have hlen:its.toArray.size=xs.length:=by rw[aaP];exact r.length.symm
 refine⟨"tuple",_,agK.lookup,ht.typeIs,?_⟩;refine HT.getItem_tuple_cut ht hs pl pu (by rw[hlen];exact hw) ?_ (by rw[hlen];exact hz);rw[hlen];refine⟨.ref s.heap.objs.size,_,I.laid (t':=s.toks) (o:=.tup (Asr xs lo hi)) (fun b ob q=>aaD _ q) (aaK _) ?_,rfl,q _ (I.hok.fresh (aaK _))⟩;exact⟨abI (Ah2 xs lo hi) hz,_,(r.drop (HT.sIx xs.length 0 lo)).take (HT.sIx xs.length xs.length hi-HT.sIx xs.length 0 lo),IsTup.new _ _⟩
def Azy (K:abA):R2:=fun x y H Q=>∃a b xs ys,x=.ref a/\y=.ref b/\SqT K H a xs/\SqT K H b ys/\xs≠[]/\xs.length+ys.length<=abB/\
 (ys=[]->Q (.ref a) H)/\(ys≠[]->∀p,H p=none->Q (.ref p) (upd H p (.tup (xs++ys))))
theorem Vals.nil_iff {xs:List V}{us:List aaF}(r:Vals xs us):us=[]↔xs=[]:=by
 cases r with
 | nil=>simp
 | cons _ _=>simp
theorem Ax5:OpR X (binaryOp .Add) (Azy X.K):=by
 intro p_ s σ H x y v u Q I rx ry h;obtain⟨a,b,xs,ys,rfl,rfl,ha,hb,hx,hz,q1,q2⟩:=h;cases rx;cases ry;obtain⟨its,r1,p1,_⟩:=I.tuple ha;obtain⟨its2,r2,p2,_⟩:=I.tuple hb;refine HT.cat_tup p1 p2 (fun z=>hx (r1.nil_iff.mp z)) (fun z=>⟨.ref a,H,I,rfl,q1 (r2.nil_iff.mp z)⟩) (fun z=>?_) (by rw[<-r1.length,<-r2.length];exact hz);refine⟨.ref s.heap.objs.size,_,I.laid (t':=s.toks) (o:=.tup (xs++ys)) (fun b ob q=>aaD _ q) (aaK _) ?_,rfl,q2 (fun w=>z (r2.nil_iff.mpr w)) _ (I.hok.fresh (aaK _))⟩
 exact⟨by rw[aaM];exact hz,_,r1.append r2,IsTup.new _ _⟩
end
def ixN (n:Nat)(i:Int):Option Nat:=if 0<=i then(if i<n then some i.toNat else none)else if -(n:Int)<=i then some (i+n).toNat else none
def atI {α:Type}(xs:List α)(i:Int):Option α:=(ixN xs.length i).bind fun j=>xs[j]?
theorem Axy {n:Nat}{i:Int}{j:Nat}(h:ixN n i=some j):seqIndex? i n=some j/\j<n/\-(n:Int)<=i/\i<n:=by
 unfold ixN at h
 by_cases h0:0<=i
 ·rw[ifp h0]at h
  by_cases h1:i<n
  ·rw[ifp h1]at h;have e:i.toNat=j:=abD h;exact⟨by rw[seqIndex_of h0 h1,e],by lia,by lia,h1⟩
  ·rw[ifn h1]at h;cases h
 ·rw[ifn h0]at h
  by_cases h1 : -(n:Int)<=i
  ·rw[ifp h1]at h;have e:(i+n).toNat=j:=abD h;exact⟨by rw[seqIndex_neg (by lia) h1,e],by lia,h1,by lia⟩
  ·rw[ifn h1]at h;cases h
theorem Asi {α:Type}{xs:List α}{i:Int}{v:α}(h:atI xs i=some v):∃j,seqIndex? i xs.length=some j/\xs[j]?=some v/\j<xs.length/\-(xs.length:Int)<=i/\i<xs.length:=by
 unfold atI at h;cases e:ixN xs.length i with
 | none=>rw[e]at h;cases h
 | some j =>
  rw[e]at h;obtain⟨h1,h2,h3,h4⟩:=Axy e;exact⟨j,h1,h,h2,h3,h4⟩
theorem Ae6 {α:Type}{xs:List α}{j:Nat}{v:α}(h:xs[j]?=some v):atI xs (j:Int)=some v:=by
 have hj:j<xs.length:=(aaB.mp h).1;have e:ixN xs.length (j:Int)=some j:=by
  unfold ixN;rw[ifp (by lia),ifp (by lia)];simp
 unfold atI;rw[e];exact h
theorem Aut {α:Type}(xs:List α)(v:α):atI (xs++[v]) (-1)=some v:=by
 have hl:(xs++[v]).length=xs.length+1:=by simp
 have e:ixN (xs++[v]).length (-1)=some xs.length:=by
  unfold ixN;rw[hl,ifn (by decide),ifp (by lia)]
  congr 1
  lia
 unfold atI;rw[e];show(xs++[v])[xs.length]?=some v;simp
def Amq (b:adX):Prop:=∀o i,subscripted b false o i=operate [o,i] (getItem o i)
def IxR (X:Cx)(r:R2):Prop :=
 ∀(value slice:adX) (p_:List (Addr×Obj)) (s:aaI) (σ:St) (H:Hp) (x y:V) (v u:aaF) (Q:VK),Inv X p_ σ H s->RelV x v->RelV y u->r x y H Q->
  subscripted slice false v u=operate [v,u] (getItem v u)->abM (model X.prog X.w) X.A (subscriptTail value slice v u) (EP X p_ σ Q) X.xe s
def MtR (X:Cx)(id:String)(r:V->List V->Hp->VK->Prop):Prop :=
 ∀(p_:List (Addr×Obj)) (s:aaI) (σ:St) (H:Hp) (x:V) (xs:List V) (v:aaF) (us:List aaF) (Q:VK),Inv X p_ σ H s->RelV x v->Vals xs us->r x xs H Q->
  abM (model X.prog X.w) X.A (call (.builtin id) (v::us)) (EP X p_ σ Q) X.xe s
section
variable {X:Cx}{a b:adX}{ta tb:TE}{pos:Pos}
theorem Ba2 {r:R2}(hr:IxR X r)(ha:PE X a ta)(hb:PE X b tb)(hs:Amq b):PE X (.Subscript a b pos) (tOp r ta tb):=by
 intro p_ s σ H Q I h;exact Subscript_ (Bdd ha hb I h fun v u s2 x y H2 I2 rx ry q=>hr a b p_ s2 σ H2 x y v u Q I2 rx ry q (hs _ _))
def Ayo (K:abA):R2:=fun x y H Q=>∃p xs i v,x=.ref p/\y=.int i/\SqL K H p xs/\atI xs i=some v/\Q v H
def Aqf (K:abA):R2:=fun x y H Q=>∃p xs i v,x=.ref p/\y=.int i/\SqT K H p xs/\atI xs i=some v/\Q v H
theorem Axx:IxR X (Ayo X.K):=by
 intro value slice p_ s σ H x y v u Q I rx ry h hs;obtain⟨p,xs,i,z,rfl,rfl,hq,he,q⟩:=h;cases rx;obtain⟨t,rfl⟩:=ry;obtain⟨its,r,pl,hz⟩:=I.list hq;obtain⟨j,h1,h2,h3,h4,h5⟩:=Asi he;obtain⟨w,ew,rw'⟩:=r.get h2;have hl:=r.length;have hn:=Anj;have fin:EP X p_ σ Q w s:=⟨z,H,I,rw',q⟩
 by_cases h0:0<=i
 ·have hj:i.toNat=j:=by
   rw[seqIndex_of h0 h5]at h1;exact abD h1
  exact item_listR pl.isList h0 (by lia) (by rw[hj];simpa using ew) fin hs
 ·have hj:(i+(its.toArray.size:Int)).toNat=j:=by
   rw[seqIndex_neg (by lia) h4]at h1;rw[aaP,<-hl];exact abD h1
  exact subscriptTail_builtinR (x:=w) pl.isList.typeIs slot_list_getitem.lookup
   (wpAny_getItem_list_neg (Q:=fun r s'=>r=w/\EP X p_ σ Q r s') pl.isList (by lia) (by rw[aaP]<;>lia) (by lia) (by rw[hj];simpa using ew) ⟨rfl,fin⟩) hs
theorem Bb5:IxR X (Aqf X.K):=by
 intro value slice p_ s σ H x y v u Q I rx ry h hs;obtain⟨p,xs,i,z,rfl,rfl,hq,he,q⟩:=h;cases rx;obtain⟨t,rfl⟩:=ry;obtain⟨its,r,pl,hz⟩:=I.tuple hq;obtain⟨j,h1,h2,h3,h4,h5⟩:=Asi he;obtain⟨w,ew,rw'⟩:=r.get h2;have hl:=r.length;have hn:=Anj;have fin:EP X p_ σ Q w s:=⟨z,H,I,rw',q⟩
 exact subscriptTail_builtinR (x:=w) pl.typeIs slot_tuple_getitem.lookup
  (getItem_tuple (j:=j) (Q:=fun r s'=>r=w/\EP X p_ σ Q r s') pl (by lia) (by lia) (by rw[aaP,<-hl];exact h1) (by simpa using ew) ⟨rfl,fin⟩) hs
theorem Akb (lo hi:Option Int)(n:Nat):(sliceBounds lo hi none n).1=((HT.sIx n 0 lo:Nat):Int)/\(sliceBounds lo hi none n).2.1=((HT.sIx n n hi:Nat):Int)/\(sliceBounds lo hi none n).2.2=1:=by
 refine⟨?_,?_,rfl⟩
 ·cases lo with
  | none=>simp[sliceBounds,HT.sIx]
  | some i =>
   simp only[sliceBounds,HT.sIx,Option.getD_none,show(1:Int)>0 by decide,if_true]
   by_cases h:i<0
   ·simp only[h,if_true]<;>lia
   ·simp only[h,if_false]<;>lia
 ·cases hi with
  | none=>simp[sliceBounds,HT.sIx]
  | some i =>
   simp only[sliceBounds,HT.sIx,Option.getD_none,show(1:Int)>0 by decide,if_true]
   by_cases h:i<0
   ·simp only[h,if_true]<;>lia
   ·simp only[h,if_false]<;>lia
theorem Aix (its:List aaF)(lo hi:Option Int):slicePick its.toArray lo hi none=((its.drop (HT.sIx its.length 0 lo)).take (HT.sIx its.length its.length hi-HT.sIx its.length 0 lo)).toArray:=by
 obtain⟨h1,h2,h3⟩:=Akb lo hi its.toArray.size;unfold slicePick;rw[h1,h2,h3];simp only[sliceRange_one,pick_run,aaP]<;>rfl
def Beg (K:abA):V->Option Int->Option Int->Hp->VK->Prop:=fun x lo hi H Q=>∃a xs,x=.ref a/\SqL K H a xs/\∀p,H p=none->Q (.ref p) (upd H p (.lst (Asr xs lo hi)))
theorem Awe:SlR X (Beg X.K):=by
 intro p_ s σ H x v vl vu lo hi sl Q I rx hs pl pu h;obtain⟨a,xs,rfl,hx,q⟩:=h;cases rx;obtain⟨its,r,ht,hz⟩:=I.list hx;have hlen:=r.length;refine⟨"list",_,slot_list_getitem.lookup,ht.isList.typeIs,?_⟩;refine wpAny_getItem_list_slice ht.isList hs pl pu .none (by simp) ?_ (by rw[aaP]<;>lia);rw[Aix,<-hlen];refine⟨.ref s.heap.objs.size,_,I.laid (t':=s.toks) (o:=.lst (Asr xs lo hi)) (fun b ob q=>aaD _ q) (aaK _) ?_,rfl,q _ (I.hok.fresh (aaK _))⟩
 exact⟨abI (Ah2 xs lo hi) hz,_,0,(r.drop (HT.sIx xs.length 0 lo)).take (HT.sIx xs.length xs.length hi-HT.sIx xs.length 0 lo),aaO _ rfl⟩
theorem Aad:Afb X (.builtin "len") (fun xs H Q=>∃p ys,xs=[.ref p]/\(SqL X.K H p ys\/SqT X.K H p ys)/\Q (.int ys.length) H):=by
 intro p_ s σ H xs us Q I r h;obtain⟨p,ys,rfl,hq,q⟩:=h;obtain⟨u,rfl,rx⟩:=Ahd r;cases rx;have hn:=Anj;rcases hq with hq | hq
 ·obtain⟨its,r',pl,hz⟩:=I.list hq;have hlen:=r'.length;exact Calls.call_len_list pl.isList (by simp only[aaP]<;>lia) ⟨.int ys.length,H,I.tok _,⟨s.toks+1,by rw[aaP,hlen]⟩,q⟩
 ·obtain⟨its,r',pl,hz⟩:=I.tuple hq;have hlen:=r'.length;exact len_tuple pl (by simp only[aaP]<;>lia) ⟨.int ys.length,H,I.tok _,⟨s.toks+1,by rw[aaP,hlen]⟩,q⟩
theorem Ala:Afb X (.type "list") (fun xs H Q=>∃p ys,xs=[.ref p]/\(SqL X.K H p ys\/SqT X.K H p ys)/\∀l,H l=none->Q (.ref l) (upd H l (.lst ys))):=by
 intro p_ s σ H xs us Q I r h;obtain⟨p,ys,rfl,hq,q⟩:=h;obtain⟨u,rfl,rx⟩:=Ahd r;cases rx;have fin:∀(its:List aaF),Vals ys its->ys.length<=abB->∀(h':Heap) (c':Nat),(∀b o',s.heap.get? b=some o'->h'.get? b=some o')->
  h'.get? s.heap.objs.size=some { cls:=.type "list",dict:=none,data:=.seq its.toArray c',slots:=#[] }->EP X p_ σ Q (.ref s.heap.objs.size) { s with heap:=h' }:=fun its r' hz h' c' kp e =>
  ⟨.ref s.heap.objs.size,_,I.laid (t':=s.toks) kp (aaK _) (show ObjOk X.prog X.w _ h' _ (.lst ys) from⟨hz,its,c',r',e⟩),rfl,q _ (I.hok.fresh (aaK _))⟩
 rcases hq with hq | hq
 ·obtain⟨its,r',pl,hz⟩:=I.list hq;have hlen:=r'.length;obtain⟨o,ho,hc,n,hd⟩:=pl.isList;exact call_list_seq p (.inl rfl) ho hc hd (fun h' c' kp e=>fin its r' hz h' c' kp e) (by simp only[aaP]<;>lia)
 ·obtain⟨its,r',pl,hz⟩:=I.tuple hq;have hlen:=r'.length;obtain⟨o,ho,hc,n,hd⟩:=pl;exact call_list_seq p (.inr rfl) ho hc hd (fun h' c' kp e=>fin its r' hz h' c' kp e) (by simp only[aaP]<;>lia)
theorem Aep:Afb X (.type "tuple") (fun xs H Q=>∃p ys,xs=[.ref p]/\((SqL X.K H p ys/\∀l,H l=none->Q (.ref l) (upd H l (.tup ys)))\/(SqT X.K H p ys/\Q (.ref p) H))):=by
 intro p_ s σ H xs us Q I r h;obtain⟨p,ys,rfl,h⟩:=h;obtain⟨u,rfl,rx⟩:=Ahd r;cases rx;rcases h with ⟨hq,q⟩ | ⟨hq,q⟩
 ·obtain⟨its,r',pl,hz⟩:=I.list hq;have hlen:=r'.length;refine call_tuple_list pl.isList (fun h' kp=>?_) (by simp only[aaP]<;>lia);have I1:Inv X p_ σ H { s with heap:=h' }:=I.kept (t':=s.toks) kp;have I2:Inv X p_ σ (upd H h'.objs.size (.tup ys)) { s with heap:=h'.push { cls:=.type "tuple",data:=.seq its.toArray } } :=
   I1.laid (t':=s.toks) (fun b o e=>aaD _ e) (aaK _) (show ObjOk X.prog X.w _ _ _ (.tup ys) from⟨hz,its,r',IsTup.new _ _⟩)
  exact⟨.ref h'.objs.size,_,I2,rfl,q _ (I1.hok.fresh (aaK _))⟩
 ·obtain⟨its,r',pl,hz⟩:=I.tuple hq;exact call_tuple_same pl ⟨.ref p,H,I,rfl,q⟩
def tyV (K:abA)(T:String)(x:V)(H:Hp):Prop:=match x with
 | .str _=>T = "str"
 | .int _=>T = "int"
 | .ref p=>(T = "list"/\∃xs,SqL K H p xs)\/(T = "tuple"/\∃o,K.lookup p=some o/\o.cls=.type "tuple"/\o.dict=none)\/
  (T = "dict"/\((∃kvs,H p=some (.dK kvs))\/∃kvs,H p=some (.dT kvs)))\/(T = "set"/\∃S n,H p=some (.set S n))
 | _=>False
theorem Av2 {p_:List (Addr×Obj)}{σ:St}{H:Hp}{s:aaI}{T:String}{x:V}{v:aaF}(I:Inv X p_ σ H s)(r:RelV x v)(ty:tyV X.K T x H) :
 s.TypeIs v T/\∀a,v=.ref a->∃ob,s.heap.get? a=some ob/\ob.dict=none:=by
 cases x with
 | str z =>
  obtain⟨t,rfl⟩:=r;cases (show T = "str" from ty);exact⟨typeIs_str s z t,fun _ e=>nomatch e⟩
 | int i =>
  obtain⟨t,rfl⟩:=r;cases (show T = "int" from ty);exact⟨typeIs_int s i t,fun _ e=>nomatch e⟩
 | ref p =>
  cases r;rcases ty with ⟨rfl,xs,hq⟩ | ⟨rfl,o,hk,hc,hd⟩ | ⟨rfl,hk⟩ | ⟨rfl,S,n,hk⟩
  ·obtain⟨its,_,pl,_⟩:=I.list hq;refine⟨pl.isList.typeIs,fun a e=>?_⟩;cases e;obtain⟨o,n,e,c,hd,_⟩:=pl;exact⟨o,e,hd⟩
  ·refine⟨⟨o,I.kIn p o hk,hc⟩,fun a e=>?_⟩;cases e;exact⟨o,I.kIn _ o hk,hd⟩
  ·have z:∃o,s.heap.get? p=some o/\o.ExactDict:=by
    rcases hk with ⟨kvs,hk⟩ | ⟨kvs,hk⟩
    ·obtain⟨_,_,_,_,o,_,_,e,ex,_⟩:=I.hok p _ hk;exact⟨o,e,ex⟩
    ·obtain⟨_,_,_,_,o,_,_,e,ex,_⟩:=I.hok p _ hk;exact⟨o,e,ex⟩
   obtain⟨o,e,ex⟩:=z;refine⟨⟨o,e,ex.1⟩,fun a e2=>?_⟩;cases e2;exact⟨o,e,ex.2.1⟩
  ·obtain⟨o,_,_,_,e,ex,_⟩:=I.hok p _ hk;refine⟨⟨o,e,ex.1⟩,fun a e2=>?_⟩;cases e2;exact⟨o,e,ex.2.1⟩
 | _=>exact acM ty
def Be4 (K:abA)(T:String)(r:V->List V->Hp->VK->Prop)(to:TE):TE:=fun σ H Q=>to σ H fun x H1=>tyV K T x H1/\r x [] H1 Q
def tBM (K:abA)(T:String)(r:V->List V->Hp->VK->Prop)(to:TE)(t:TA):TE:=fun σ H Q=>to σ H fun x H1=>tyV K T x H1/\t σ H1 fun xs H2=>r x xs H2 Q
variable {o e:adX}{es:List adX}{to:TE}{t:TA}{name:Str}{apos cpos:Pos}{T id:String}{r:V->List V->Hp->VK->Prop}
theorem Ba4 (pa:PlainAttrs T)(slot:Slot T name id)(hty:typeOf (.builtin id)=pure (.type "method_descriptor"))(hm:MtR X id r)(ho:PE X o to)
 (hbase:attributeBase o name X.env (eval o X.env)=eval o X.env:=by rfl) (hline:(apos.endLine==cpos.line)=true:=by rfl):PE X (.Call (.Attribute o name apos) [] [] cpos) (Be4 X.K T r to):=by
 intro p_ s σ H Q I h;refine wpAny_Call_method0_late hbase hline (thn (ho p_ s σ H _ I h) fun v s1 ⟨x,H1,I1,r1,ty,q1⟩=>?_);obtain⟨h1,h2⟩:=Av2 I1 r1 ty;exact⟨T,id,pa,slot,hty,h1,h2,amW rfl (PySem.evalArgs_none (hm p_ s1 σ H1 x [] v [] Q I1 r1 .nil q1))⟩
theorem Ad9 (pa:PlainAttrs T)(slot:Slot T name id)(hty:typeOf (.builtin id)=pure (.type "method_descriptor"))(hm:MtR X id r)(ho:PE X o to)(ha:PA X (e::es) t)
 (hbase:attributeBase o name X.env (eval o X.env)=eval o X.env:=by rfl)
 (hfew:((afI cpos (abL (e::es) X.env)).all (fun x=>!x.1)&&(backToKw cpos (keywordEach [] X.env)).all (fun x=>x.1.isSome)
  && decide ((e::es).length+([]:List Keyword).length+(if ([]:List Keyword).isEmpty then 0 else 1)<30))=true:=by rfl)
 (hline:(apos.endLine==cpos.line)=true:=by rfl) (hs:abL (e::es) X.env=(false,eval e X.env)::abL es X.env:=by rfl) (hplain:(afI cpos (abL es X.env)).any (·.1)=false:=by rfl) :
 PE X (.Call (.Attribute o name apos) (e::es) [] cpos) (tBM X.K T r to t):=by
 intro p_ s σ H Q I h;refine wpAny_Call_method_late hbase hfew hline rfl (thn (ho p_ s σ H _ I h) fun v s1 ⟨x,H1,I1,r1,ty,q1⟩=>?_);obtain⟨h1,h2⟩:=Av2 I1 r1 ty;refine⟨T,id,pa,slot,hty,h1,h2,?_⟩;have hA:=ha cpos p_ s1 σ H1 _ I1 q1;rw[hs]at hA ⊢;refine amW (by show(false||(afI cpos (abL es X.env)).any (·.1))=false;rw[hplain]<;>rfl) (anO ?_);exact thn hA fun us s2 ⟨vs,H2,I2,r2,q2⟩=>hm p_ s2 σ H2 x vs v us Q I2 r1 r2 q2
end
def MtM (X:Cx)(id:String)(r:V->List V->Hp->VK->Prop):Prop :=
 ∀(p_:List (Addr×Obj)) (s:aaI) (σ:St) (H:Hp) (x:V) (xs:List V) (v:aaF) (us:List aaF) (Q:VK),Inv X p_ σ H s->RelV x v->Vals xs us->r x xs H Q->
  abM (model X.prog X.w) X.A (call (.builtin id) (v::us)) (EP X p_ σ Q) X.xe s
theorem Vals.one:∀{x:V} {us:List aaF},Vals [x] us->∃u,us=[u]/\RelV x u
 | _,_,.cons r .nil=>⟨_,rfl,r⟩
theorem Vals.two:∀{x y:V} {us:List aaF},Vals [x,y] us->∃u v,us=[u,v]/\RelV x u/\RelV y v
 | _,_,_,.cons r (.cons q .nil)=>⟨_,_,rfl,r,q⟩
theorem Vals.zero:∀{us:List aaF},Vals [] us->us=[]
 | _,.nil=>rfl
theorem Vals.dropLast {xs:List V}{us:List aaF}(h:Vals xs us):Vals xs.dropLast us.dropLast:=by
 induction h with
 | nil=>exact .nil
 | cons r t ih =>
  cases t with
  | nil=>exact .nil
  | cons q t'=>exact .cons r ih
theorem Ap2 {α:Type}(l:List α):l.eraseIdx (l.length-1)=l.dropLast:=by
 induction l with
 | nil=>rfl
 | cons a r ih =>
  cases r with
  | nil=>rfl
  | cons b r =>
   have e:(a::b::r).length-1=((b::r).length-1)+1:=by
    have h1:(a::b::r).length=r.length+2:=rfl;have h2:(b::r).length=r.length+1:=rfl;lia
   rw[e,List.eraseIdx_cons_succ,ih]
   all_goals rfl
section
variable {X:Cx}{p_:List (Addr×Obj)}{σ:St}{H:Hp}{s:aaI}{l b:Addr}{xs ys zs:List V}
theorem Inv.lset {its its':List aaF}{n:Nat}{f:Array aaF->Array aaF}{t':Nat}(I:Inv X p_ σ H s)(hH:H l=some (.lst xs))
 (e:s.heap.get? l=some { cls:=.type "list",data:=.seq its.toArray n }) (hf:f its.toArray=its'.toArray) (hv:Vals ys its') (hz:ys.length<=abB) :
 Inv X p_ σ (upd H l (.lst ys)) { s with heap:=s.heap.update l (acZ f),toks:=t' }:=by
 have q:=PySem.IsL.update e f;rw[hf]at q;refine I.write (x:=l) (e:=l) (by rw[hH];exact trivial) (.inl rfl) (fun b' u hb hu=>(Heap.get?_update_other s.heap (acZ f) (acU hb)).trans hu) ⟨_,q⟩ ?_;exact⟨hz,its',_,hv,q⟩
theorem Inv.lnew {its:List aaF}{t':Nat}(I:Inv X p_ σ H s)(hv:Vals ys its)(hz:ys.length<=abB) :
 Inv X p_ σ (upd H s.heap.objs.size (.lst ys)) { s with heap:=s.heap.push { cls:=.type "list",data:=.seq its.toArray },toks:=t' } :=
 I.laid (fun _ _ q=>aaD _ q) (aaK _) ⟨hz,its,0,hv,aaO _ rfl⟩
theorem Inv.fresh (I:Inv X p_ σ H s):H s.heap.objs.size=none:=I.hok.fresh (aaK _)
theorem Inv.lstM (I:Inv X p_ σ H s)(hH:H l=some (.lst xs)):xs.length<=abB/\∃(its:List aaF) (n:Nat),Vals xs its/\xs.length=its.length/\s.heap.get? l=some { cls:=.type "list",data:=.seq its.toArray n }:=by
 obtain⟨z,its,n,r,e⟩:=I.hok l _ hH;exact⟨z,its,n,r,r.length,e⟩
theorem Au0 {n:Nat}(h:n<=abB):ahM n=false:=by
 unfold ahM;exact dff (by lia)
end
section
variable {X:Cx}
def Awy:V->List V->Hp->VK->Prop:=fun x vs H Q=>∃l xs y,x=.ref l/\vs=[y]/\H l=some (.lst xs)/\xs.length<abB/\Q .non (upd H l (.lst (xs++[y])))
theorem Ab7:MtM X "list.append" Awy:=by
 intro p_ s σ H x vs v us Q I rx rv h;obtain⟨l,xs,y,rfl,rfl,hH,hz,q⟩:=h;cases rx;obtain⟨u,rfl,ru⟩:=rv.one;obtain⟨z,its,n,r,hl,e⟩:=I.lstM hH;refine call_meets F.slot_list_append ⟨_,e,rfl⟩ F.entry_list_append (F.args_list_append_2 _ _) (PySem.list_append l its.toArray n u (by rw[aaP];lia)) ⟨e,?_⟩;refine⟨.non,_,I.lset (its':=its++[u]) hH e (by simp) (r.append (.cons ru .nil)) ?_,rfl,q⟩;rw[aaM,List.length_singleton]
 lia
def Awx:V->List V->Hp->VK->Prop:=fun x vs H Q=>∃l b xs zs,x=.ref l/\vs=[.ref b]/\H l=some (.lst xs)/\H b=some (.lst zs)/\xs.length+zs.length<=abB/\Q .non (upd H l (.lst (xs++zs)))
theorem Aej:MtM X "list.extend" Awx:=by
 intro p_ s σ H x vs v us Q I rx rv h;obtain⟨l,b,xs,zs,rfl,rfl,hH,hB,hz,q⟩:=h;cases rx;obtain⟨u,rfl,ru⟩:=rv.one;cases ru;obtain⟨z,its,n,r,hl,e⟩:=I.lstM hH;obtain⟨z2,its2,n2,r2,hl2,e2⟩:=I.lstM hB;have hsz:its.toArray.size+its2.toArray.size<=abB:=by rw[aaP,aaP];lia
 have hlong:¬(!its.toArray.isEmpty&&ahM (its.toArray.size+its2.toArray.size))=true:=by
  rw[Au0 hsz,Bool.and_false];exact abG
 refine call_meets F.slot_list_extend ⟨_,e,rfl⟩ F.entry_list_extend (F.args_list_extend_2 _ _)
  (AutoSeq1.list_extend_list_list_0 l its.toArray n b its2.toArray n2 hlong (by rw[aaP];lia) (by lia)) ⟨e,e2,?_⟩
 refine⟨.non,_,I.lset (its':=its++its2) hH e (by simp) (r.append r2) ?_,rfl,q⟩;rw[aaM];lia
def Beh:V->List V->Hp->VK->Prop:=fun x vs H Q=>∃l xs y,x=.ref l/\vs=[]/\H l=some (.lst xs)/\xs[xs.length-1]?=some y/\Q y (upd H l (.lst xs.dropLast))
theorem Bat:MtM X "list.pop" Beh:=by
 intro p_ s σ H x vs v us Q I rx rv h;obtain⟨l,xs,y,rfl,rfl,hH,hy,q⟩:=h;cases rx;have hus:=rv.zero;subst hus;obtain⟨z,its,n,r,hl,e⟩:=I.lstM hH;obtain⟨u,hu,ru⟩:=r.get hy;have hy':its.toArray[its.toArray.size-1]?=some u:=by
  show its.toArray[its.length-1]?=some u;rw[<-afU,<-hl];exact hu
 refine call_meets F.slot_list_pop ⟨_,e,rfl⟩ F.entry_list_pop (F.args_list_pop_1 _) (MeetsSeq.list_pop_last l its.toArray n u hy' (by rw[aaP];lia)) ⟨e,?_⟩;refine⟨y,_,I.lset (its':=its.dropLast) hH e ?_ r.dropLast ?_,ru,q⟩
 ·show its.toArray.eraseIdxIfInBounds (its.toArray.size-1)=its.dropLast.toArray;rw[aaP,List.eraseIdxIfInBounds_toArray,Ap2]
 ·rw[List.length_dropLast];lia
def Bel:R2:=fun x y H Q=>∃l b xs zs,x=.ref l/\y=.ref b/\H l=some (.lst xs)/\H b=some (.lst zs)/\xs.length+zs.length<=abB/\∀p,H p=none->Q (.ref p) (upd H p (.lst (xs++zs)))
theorem Aqs:OpR X (binaryOp .Add) Bel:=by
 intro p_ s σ H x y v u Q I rx ry h;obtain⟨l,b,xs,zs,rfl,rfl,hH,hB,hz,q⟩:=h;cases rx;cases ry;obtain⟨z,its,n,r,hl,e⟩:=I.lstM hH;obtain⟨z2,its2,n2,r2,hl2,e2⟩:=I.lstM hB;refine PySem.P.add_list e e2 ?_ (by rw[aaP,aaP];lia);have ea:its.toArray++its2.toArray=(its++its2).toArray:=by simp
 rw[ea];exact⟨.ref _,_,I.lnew (t':=s.toks) (r.append r2) (by rw[aaM];lia),rfl,q _ I.fresh⟩
end
section
variable {prog:abS}{w:adI}{A:adE}{E:aaF->aaI->Prop}{s:aaI}
set_option maxRecDepth 100000 in
end
section
variable {X:Cx}
end
section
variable {prog:abS}{w:adI}{A:adE}{E:aaF->aaI->Prop}{s:aaI}{l:Addr}{its:List aaF}{ns:List Int}{Q:aaF->aaI->Prop}
end
section
variable {X:Cx}
end
section
variable {X:Cx}
end
section
variable {X:Cx}
end
section
variable {X:Cx}
end
mutual
inductive Dp (K:abA)(H:Hp):V->PyData->Prop
 | non:Dp K H .non .none
 | bl (b:Bool):Dp K H (.bl b) (.bool b)
 | int (i:Int):Dp K H (.int i) (.int i)
 | str (x:Str):Dp K H (.str x) (.str x)
 | lst {a:Addr} {xs:List V} {ds:List PyData}:SqL K H a xs->Amr K H xs ds->Dp K H (.ref a) (.list ds)
 | tup {a:Addr} {xs:List V} {ds:List PyData}:SqT K H a xs->Amr K H xs ds->Dp K H (.ref a) (.tuple ds)
inductive Amr (K:abA)(H:Hp):List V->List PyData->Prop
 | nil:Amr K H [] []
 | cons {v:V} {vs:List V} {d:PyData} {ds:List PyData}:Dp K H v d->Amr K H vs ds->Amr K H (v::vs) (d::ds)
end
section
variable {X:Cx}{p_:List (Addr×Obj)}{σ:St}{H:Hp}{s:aaI}
mutual
theorem Dp.reads (I:Inv X p_ σ H s):∀(d:PyData) (v:V) (u:aaF),Dp X.K H v d->RelV v u->∃as,Reads s.heap u d as
 | .none,_,_,h,r=>by
  cases h;cases r;exact⟨_,Reads.none⟩
 | .bool b,_,_,h,r=>by
  cases h;cases r;exact⟨_,Reads.bool b⟩
 | .int i,_,_,h,r=>by
  cases h;obtain⟨t,rfl⟩:=r;exact⟨_,Reads.int i t⟩
 | .str x,_,_,h,r=>by
  cases h;obtain⟨t,rfl⟩:=r;exact⟨_,Reads.str x t⟩
 | .list ds,_,_,h,r=>by
  cases h with
  | lst hs ha =>
   cases r;obtain⟨its,rv,⟨o,n,ho,hc,_,hd⟩,_⟩:=I.list hs;obtain⟨as,hr⟩:=Dp.readsAll I ds _ its ha rv;exact⟨_,Reads.list ho hc hd hr⟩
 | .tuple ds,_,_,h,r=>by
  cases h with
  | tup hs ha =>
   cases r;obtain⟨its,rv,⟨o,ho,hc,n,hd⟩,_⟩:=I.tuple hs;obtain⟨as,hr⟩:=Dp.readsAll I ds _ its ha rv;exact⟨_,Reads.tuple ho hc hd hr⟩
 | .dict _,_,_,h,_=>by cases h
theorem Dp.readsAll (I:Inv X p_ σ H s):∀(ds:List PyData) (vs:List V) (us:List aaF),Amr X.K H vs ds->Vals vs us->∃as,ReadsAll s.heap us ds as
 | [],_,_,h,r=>by
  cases h;cases r;exact⟨_,ReadsAll.nil⟩
 | d::ds,_,_,h,r=>by
  cases h with
  | cons h1 h2 =>
   cases r with
   | cons r1 r2 =>
    obtain⟨as,q1⟩:=Dp.reads I d _ _ h1 r1;obtain⟨bs,q2⟩:=Dp.readsAll I ds _ _ h2 r2;exact⟨_,ReadsAll.cons q1 q2⟩
end
end
section
variable {X:Cx}
def Bei (K:abA):R2:=fun x y H Q=>∃d e,Dp K H x d/\Dp K H y e/\SeqAt.shaped d=true/\SeqAt.shaped e=true/\Q (.bl (!PyData.eqv d e)) H
theorem Ba9 (hu:X.A.units+64<cLine):OpR X (compareOp .NotEq) (Bei X.K):=by
 intro p_ s σ H x y v u Q I rx ry h;obtain⟨d,e,hd,he,sd,se,q⟩:=h;obtain⟨as,r1⟩:=Dp.reads I d x v hd rx;obtain⟨bs,r2⟩:=Dp.reads I e y u he ry;exact SeqAt.compareNe_shaped r1 r2 sd se hu ⟨.bl _,H,I,rfl,q⟩
end
abbrev Aw2 (h:Heap)(c:Addr)(v:Option aaF):Prop:=h.IsCell c v
def Bef (scope sc:Scope):Scope :=
 { scope with names:=scope.names.map fun(n,k)=>if (k==.free&&sc.kind==.function&&sc.names.lookup n==some .cell) then(n,.cell) else(n,k) }
def Ab0 (cells:List (Str×Addr)):List (Str×afJ)->List (Str×Addr)->List (Str×Addr)
 | [],acc=>acc
 | (n,k)::r,acc=>if k==.free then Ab0 cells r ((n,(cells.lookup n).getD 0)::acc)else Ab0 cells r acc
theorem Afm (env:Env)(f:Str×afJ->List (Str×Addr)->Sem (ForInStep (List (Str×Addr))))
 (hf:∀n k c,f (n,k) c=if k==.free then(do let a <-cellOf env n;pure (.yield ((n,a)::c)))else pure (.yield c)) :
 ∀(names:List (Str×afJ)) (acc:List (Str×Addr)),(∀y∈names,y.2=.free ->∃c,env.cells.lookup y.1=some c)->forIn names acc f=pure (Ab0 env.cells names acc)
 | [],acc,_=>by rw[ajR];rfl
 | (n,k)::r,acc,h=>by
  rw[alM,hf];have ih:=fun acc=>Afm env f hf r acc fun y hy=>h y (abP _ hy);unfold Ab0
  by_cases hk:(k==ahC)=true
  ·rw[ifp hk,ifp hk];obtain⟨c,hc⟩:=h (n,k) adB (by simpa using hk);have e:cellOf env n=pure c:=by unfold cellOf;rw[hc]
   rw[e];have e2:(env.cells.lookup n).getD 0=c:=by rw[hc];rfl
   rw[e2];exact ih _
  ·rw[ifn hk,ifn hk];exact ih _
theorem Ap7 {scope:Scope}{env:Env}(h:∀y∈scope.names,y.2=.free ->∃c,env.cells.lookup y.1=some c):closureFor scope env=pure (Ab0 env.cells scope.names []):=by
 simp only[closureFor];rw[Afm env _ (fun n k c=>rfl) scope.names [] h];rfl
theorem Aez {α:Type}:∀{l:List (Str×α)} {n:Str} {c:α},(n,c)∈l->∃c',l.lookup n=some c'
 | (k,v)::r,n,c,h=>by
  rw[acW];cases hb:n==k with
  | true=>exact⟨_,rfl⟩
  | false =>
   rcases aaG.mp h with e | h
   ·cases e;simp at hb
   ·exact Aez h
theorem Acw {cells:List (Str×Addr)}:∀{names:List (Str×afJ)} {acc:List (Str×Addr)} {n:Str} {c:Addr},(n,c)∈Ab0 cells names acc->(n,c)∈acc\/((n,.free)∈names/\c=(cells.lookup n).getD 0)
 | [],_,_,_,h=>.inl h
 | (m,k)::r,acc,n,c,h=>by
  unfold Ab0 at h
  split at h
  ·rename_i hk
   have hk:k=.free:=by simpa using hk
   rcases Acw h with h | ⟨h1,h2⟩
   ·rcases aaG.mp h with e | h
    ·cases e;exact .inr ⟨hk ▸ adB,rfl⟩
    ·exact .inl h
   ·exact .inr ⟨abP _ h1,h2⟩
  ·rcases Acw h with h | ⟨h1,h2⟩
   ·exact .inl h
   ·exact .inr ⟨abP _ h1,h2⟩
theorem Ae5 {cells:List (Str×Addr)}:∀{names:List (Str×afJ)} {acc:List (Str×Addr)} {p:Str×Addr},p∈acc->p∈Ab0 cells names acc
 | [],_,_,h=>h
 | (m,k)::r,acc,p,h=>by
  unfold Ab0
  split
  ·exact Ae5 (abP _ h)
  ·exact Ae5 h
theorem Ae4 {cells:List (Str×Addr)}:∀{names:List (Str×afJ)} {acc:List (Str×Addr)} {n:Str},(n,.free)∈names->(n,(cells.lookup n).getD 0)∈Ab0 cells names acc
 | (m,k)::r,acc,n,h=>by
  unfold Ab0;rcases aaG.mp h with e | h
  ·cases e;exact Ae5 adB
  ·split
   ·exact Ae4 h
   ·exact Ae4 h
theorem Adj:∀{names:List (Str×afJ)} {h:Heap} {acc:List (Str×Addr)} {x:Str} {c:Addr},(x,c)∈cellsFrom h.objs.size names acc->
 (x,c)∈acc\/((x,.cell)∈names/\h.objs.size<=c/\Aw2 (pushCells h names) c none)
 | [],_,_,_,_,h=>.inl h
 | (n,k)::r,h,acc,x,c,hm=>by
  unfold cellsFrom at hm;unfold pushCells
  split at hm
  ·rename_i hk
   rw[ifp hk];have hk:k=.cell:=by simpa using hk
   rw[<-acQ h { cls:=.type "cell",data:=.cell none }]at hm;rcases Adj hm with hm | ⟨h1,h2,h3⟩
   ·rcases aaG.mp hm with e | hm
    ·cases e;exact .inr ⟨hk ▸ adB,aaK _,_,pushCells_keeps r _ _ _ (aaO _ rfl),rfl⟩
    ·exact .inl hm
   ·rw[acQ]at h2;exact .inr ⟨abP _ h1,aiK h2,h3⟩
  ·rename_i hk
   rw[ifn hk];rcases Adj hm with hm | ⟨h1,h2,h3⟩
   ·exact .inl hm
   ·exact .inr ⟨abP _ h1,h2,h3⟩
theorem Aeo:∀{names:List (Str×afJ)} {n:Nat} {acc:List (Str×Addr)} {p:Str×Addr},p∈acc->p∈cellsFrom n names acc
 | [],_,_,_,h=>h
 | (m,k)::r,n,acc,p,h=>by
  unfold cellsFrom
  split
  ·exact Aeo (abP _ h)
  ·exact Aeo h
theorem Ah6:∀{names:List (Str×afJ)} {n:Nat} {acc:List (Str×Addr)} {x:Str},(x,.cell)∈names->∃c,(x,c)∈cellsFrom n names acc
 | (m,k)::r,n,acc,x,h=>by
  unfold cellsFrom;rcases aaG.mp h with e | h
  ·cases e;exact⟨n,Aeo adB⟩
  ·split
   ·exact Ah6 h
   ·exact Ah6 h
theorem Ah5:∀{names:List (Str×afJ)} {h:Heap} {acc:List (Str×Addr)} {x y:Str} {c:Addr},(∀p∈acc,p.2<h.objs.size)->(∀x y c,(x,c)∈acc->(y,c)∈acc->x=y)->
 (x,c)∈cellsFrom h.objs.size names acc->(y,c)∈cellsFrom h.objs.size names acc->x=y
 | [],_,_,_,_,_,_,hi,h1,h2=>hi _ _ _ h1 h2
 | (n,k)::r,h,acc,x,y,c,hl,hi,h1,h2=>by
  unfold cellsFrom at h1 h2
  split at h1
  ·rename_i hk
   rw[ifp hk]at h2;rw[<-acQ h { cls:=.type "cell",data:=.cell none }]at h1 h2;refine Ah5 (h:=h.push _) (fun p hp=>?_) (fun x y c a b=>?_) h1 h2
   ·rw[acQ];rcases aaG.mp hp with rfl | hp
    ·exact ahK _
    ·exact ahA (hl p hp)
   ·rcases aaG.mp a with e | a<;>rcases aaG.mp b with e' | b
    ·cases e;cases e';rfl
    ·cases e;exact absurd (hl _ b) (adZ _)
    ·cases e';exact absurd (hl _ a) (adZ _)
    ·exact hi _ _ _ a b
  ·rename_i hk
   rw[ifn hk]at h2;exact Ah5 hl hi h1 h2
theorem Am2 {M:Model}{A:adE}{E:aaF->aaI->Prop}{s:aaI}{scope:Scope}{globals:Addr}{closure:List (Str×Addr)}{qual:Str}{func:Option Addr}{code:aaF}{around:Env}{builtins:Addr}{Q:Env->aaI->Prop}
 (h:Q (newEnv scope s.heap.objs.size globals (cellsFrom (s.heap.objs.size+1) scope.names closure) qual func code (some around) builtins)
  { s with heap:=pushCells (s.heap.push { cls:=.type "dict",data:=.dict #[] }) scope.names }) :
 abM M A (newFunctionEnv scope globals closure [] qual func code (some around) builtins) Q E s:=by
 simp only[newFunctionEnv,anS,if_true];refine aaC (wpAny_alloc ?_);refine aaC (wpAny_layCells _ (fun n k c=>rfl) scope.names closure _ _ ?_);rw[show({ s with heap:=s.heap.push { cls:=.type "dict",data:=.dict #[] } }:aaI).heap.objs.size=s.heap.objs.size+1 from acQ ..];rw[ajR];exact aaC (aaL (aaL h))
theorem Ae1 {sc:Scope}:∀{names:List (Str×afJ)} {x:Str} {k:afJ},
 (names.map fun(n,k)=>if (k==ahC&&sc.kind==.function&&sc.names.lookup n==some .cell) then(n,alJ) else(n,k)).lookup x=some k->
 ∃k',names.lookup x=some k'/\(k=k'\/(k'=.free /\k=.cell))
 | [],_,_,h=>by simp at h
 | (n,k₀)::r,x,k,h=>by
  have ih:=@Ae1 sc r x k;have h':adW x ((if (k₀==ahC&&sc.kind==.function&&sc.names.lookup n==some .cell)=true then(n,alJ) else(n,k₀))::(r.map _))=some k:=h;cases hx:x==n with
  | true =>
   simp only[acW,hx]
   by_cases hc:(k₀==ahC&&sc.kind==.function&&sc.names.lookup n==some .cell)=true
   ·rw[ifp hc]at h';simp only[acW,hx]at h';cases h';simp only[acH,beq_iff_eq]at hc;exact⟨k₀,rfl,.inr ⟨hc.1.1,rfl⟩⟩
   ·rw[ifn hc]at h';simp only[acW,hx]at h';cases h';exact⟨_,rfl,.inl rfl⟩
  | false =>
   simp only[acW,hx]
   by_cases hc:(k₀==ahC&&sc.kind==.function&&sc.names.lookup n==some .cell)=true
   ·rw[ifp hc]at h';simp only[acW,hx]at h';exact ih h'
   ·rw[ifn hc]at h';simp only[acW,hx]at h';exact ih h'
structure Asn (N:List Str)(sc scope:Scope)(own:List (Str×Nat)):Prop where
 kind:scope.kind=.function
 uniq:∀y∈scope.names,scope.names.lookup y.1=some y.2
 ix:∀p∈own,N[p.2]?=some p.1
 free:∀y∈scope.names,y.2=.free ->sc.names.lookup y.1=some .cell \/sc.names.lookup y.1=some .free
 own:∀y∈scope.names,y.2=.local \/y.2=.cell ->y.1∈own.map (·.1)\/y.1∉N
def Afn (σ:St):List Nat->St
 | []=>σ
 | v::vs=>(Afn σ vs).set v none
theorem Ady (σ:St):∀vs:List Nat,(Afn σ vs).length=σ.length
 | []=>rfl
 | v::vs=>by unfold Afn;rw[alL,Ady σ vs]
theorem Ag2 {σ:St}{i:Nat}{x:V}:∀{vs:List Nat},(Afn σ vs)[i]?=some (some x)->σ[i]?=some (some x)/\i∉vs
 | [],h=>⟨h,by simp⟩
 | v::vs,h=>by
  unfold Afn at h
  by_cases hi:v=i
  ·subst hi
   by_cases hv:v<(Afn σ vs).length
   ·rw[agZ hv]at h;cases h
   ·rw[ajG (by simpa using hv)]at h;cases h
  ·rw[agC hi]at h;obtain⟨h1,h2⟩:=Ag2 h;exact⟨h1,by simp only[aaG,not_or];exact⟨fun e=>hi e.symm,h2⟩⟩
abbrev Cx.blk (X:Cx)(s:aaI)(H:Hp)(scope:Scope)(cenv:Env)(fp:List Addr):Cx:={ X with s_0:=s,H_0:=H,env:=cenv,outer:=X.stack,ex:=fp,fn:=fun x=>scope.names.lookup x==some .cell,pn:=[],xe:=fun _ _=>False }
section
variable {X:Cx}{p_:List (Addr×Obj)}{σ:St}{H:Hp}{s:aaI}
theorem Amp {scope:Scope}{own:List (Str×Nat)}{fp:List Addr}(I:Inv X p_ σ H s)(ok:Asn X.N X.env.scope scope own)(hN:X.N.Nodup)(hfp:∀b∈fp,FpOk X p_ H b/\b<s.heap.objs.size) :
 Inv (X.blk s H scope (compEnvC scope (cellsFrom (s.heap.objs.size+1) scope.names (Ab0 X.env.cells scope.names [])) s.heap.objs.size X.env) fp) [] (Afn σ (own.map (·.2))) H { s with heap:=pushCells (s.heap.push { cls:=.type "dict",data:=.dict #[] }) scope.names }:=by
 have hfree:∀y∈scope.names,y.2=.free ->∃c,X.env.cells.lookup y.1=some c:=fun y hy e=>by
  rcases ok.free y hy e with k | k
  ·exact I.ok.has _ (.inl k)
  ·exact I.ok.has _ (.inr k)
 generalize hcenv:compEnvC scope (cellsFrom (s.heap.objs.size+1) scope.names (Ab0 X.env.cells scope.names [])) s.heap.objs.size X.env=cenv;have kp:∀b o,s.heap.get? b=some o->(pushCells (s.heap.push { cls:=.type "dict",data:=.dict #[] }) scope.names).get? b=some o:=fun b o e=>pushCells_keeps _ _ _ _ (aaD _ e);have hL:cenv.locals=s.heap.objs.size:=by rw[<-hcenv];rfl
 have hcl:cenv.cells=cellsFrom (s.heap.objs.size+1) scope.names (Ab0 X.env.cells scope.names []):=by rw[<-hcenv];rfl
 have hsc:cenv.scope=Bef scope X.env.scope:=by rw[<-hcenv];rfl
 rw[<-acQ s.heap { cls:=.type "dict",data:=.dict #[] }]at hcl;have cm:∀{y c},(y,c)∈Ab0 X.env.cells scope.names []->X.env.cells.lookup y=some c/\c<s.heap.objs.size:=fun {y c} hm=>by
  rcases Acw hm with hm | ⟨h1,rfl⟩
  ·cases hm
  ·obtain⟨c,hc⟩:=hfree _ h1 rfl;rw[hc];obtain⟨w,z⟩:=I.cell _ _ hc;exact⟨rfl,z.lt⟩
 have mem:∀{y c},cenv.cells.lookup y=some c->(X.env.cells.lookup y=some c/\c<s.heap.objs.size)\/(s.heap.objs.size+1<=c/\Aw2 (pushCells (s.heap.push { cls:=.type "dict",data:=.dict #[] }) scope.names) c none):=fun {y c} e=>by
  rw[hcl]at e;rcases Adj (acI e)with hm | ⟨_,h2,h3⟩
  ·exact .inl (cm hm)
  ·rw[acQ]at h2;exact .inr ⟨h2,h3⟩
 have look:∀{y},scope.names.lookup y=some .free ->∃c,cenv.cells.lookup y=some c/\X.env.cells.lookup y=some c:=fun {y} hl=>by
  have hy:(y,ahC)∈scope.names:=acI hl;obtain⟨c',e'⟩:=Aez (Aeo (names:=scope.names) (n:=(s.heap.push { cls:=.type "dict",data:=.dict #[] }).objs.size) (Ae4 (cells:=X.env.cells) (acc:=[]) hy));rw[<-hcl]at e';refine⟨c',e',?_⟩;rw[hcl]at e';rcases Adj (acI e')with hm | ⟨h1,_,_⟩
  ·exact(cm hm).1
  ·have:=ok.uniq _ h1;rw[hl]at this;cases this
 have okB:(X.blk s H scope cenv fp).Ok:=by
  refine⟨I.ok.mod,by show cenv.scope.kind=_;rw[hsc];exact ok.kind,by show cenv.globals=_;rw[<-hcenv];exact I.ok.glob,by show cenv.builtins=_;rw[<-hcenv];exact I.ok.blt,by show s.heap.objs.size<=cenv.locals;rw[hL];exact aaK _,
   fun y z c e1 e2=>?_,fun y hy=>?_,fun y c z e=>?_,I.ok.hd,I.ok.frames,.inl rfl,fun b hb=>⟨?_,fun y c e z=>?_⟩,I.bs,abI I.ok.bsz I.sz,fun b o e hb=>?_,fun b hb z=>?_,I.stack,I.stkFree⟩
  ·have e1:cenv.cells.lookup y=some c:=e1;have e2:cenv.cells.lookup z=some c:=e2;rw[hcl]at e1 e2;refine Ah5 (fun p hp=>?_) (fun y z c a b=>I.ok.inj y z c (cm a).1 (cm b).1) (acI e1) (acI e2);rw[acQ];exact ahA (cm (y:=p.1) (c:=p.2) hp).2
  ·show ∃c,cenv.cells.lookup y=some c;have key:∀k,cenv.kindOf y=some k->(k=.cell \/k=.free)->∃c,cenv.cells.lookup y=some c:=fun k hk hk'=>by
    unfold Env.kindOf at hk;rw[hsc]at hk;obtain⟨k',e,r⟩:=Ae1 hk;have:k'=.cell \/k'=.free:=by
     rcases r with rfl | ⟨rfl,_⟩
     ·exact hk'
     ·exact .inr rfl
    rcases this with rfl | rfl
    ·obtain⟨c,hm⟩:=Ah6 (n:=(s.heap.push { cls:=.type "dict",data:=.dict #[] }).objs.size) (acc:=Ab0 X.env.cells scope.names []) (acI e);obtain⟨c',e'⟩:=Aez hm;exact⟨c',by rw[hcl];exact e'⟩
    ·obtain⟨c,h1,_⟩:=look e;exact⟨c,h1⟩
   rcases hy with hy | hy
   ·exact key _ hy (.inl rfl)
   ·exact key _ hy (.inr rfl)
  ·have z:(scope.names.lookup y==some alJ)=true:=z;have z:scope.names.lookup y=some .cell:=by simpa using z
   have e:cenv.cells.lookup y=some c:=e;rw[hcl]at e;rcases Adj (acI e)with hm | ⟨_,h2,_⟩
   ·rcases Acw hm with hm | ⟨h1,_⟩
    ·cases hm
    ·have q:=ok.uniq _ h1;rw[z]at q;cases q
   ·rw[acQ]at h2;exact aiK h2
  ·show b≠cenv.locals;rw[hL];exact acJ (hfp b hb).2
  ·have e:cenv.cells.lookup y=some c:=e;rcases mem e with ⟨h1,_⟩ | ⟨h1,_⟩
   ·exact(hfp b hb).1.2.2.2.2.1 y c h1 z
   ·have h2:s.heap.objs.size+1<=b:=by rw[<-z];exact h1
    exact absurd (abV (hfp b hb).2 (aiK h2)) (adZ _)
  ·rcases (hfp b hb).1.2.2.2.1 with z | z
   ·exact I.ok.noex b o e z
   ·exact absurd (abV (aaS e) (abI I.ok.bsz z)) (adZ _)
  ·rcases aaG.mp (I.stkSub b z)with z | z
   ·exact(hfp b hb).1.2.1 z
   ·exact(hfp b hb).1.2.2.1 z
 refine⟨okB,rfl,I.bare,Un.kept kp,⟨fun _=>none,?_,fun i y av e1 e2 e3=>?_⟩,fun y c e=>?_,?_,fun y c e=>?_,fun p hp=>?_,I.hok.kept kp,by rw[Ady];exact I.len⟩
 ·show Heap.Ns _ cenv.locals _;rw[hL];exact Heap.Ns.keeps (Heap.Ns.new ..) fun b o e=>pushCells_keeps _ _ _ _ e
 ·obtain⟨e2,hne⟩:=Ag2 e2;have hfr:scope.names.lookup y=some .free /\(cenv.kindOf y=some .cell \/cenv.kindOf y=some .free):=by
   have key:∀k,cenv.scope.names.lookup y=some k->k=.local \/k=.cell \/k=.free ->scope.names.lookup y=some .free /\(cenv.kindOf y=some .cell \/cenv.kindOf y=some .free):=fun k hk hk'=>by
    have hk0:=hk;rw[hsc]at hk;obtain⟨k',e,r⟩:=Ae1 hk;have no:¬(k'=.local \/k'=.cell):=fun hh=>by
     rcases ok.own _ (acI e) hh with e' | e'
     ·obtain⟨p,hp,hpy⟩:=aaN.mp e';have e3:=ok.ix p hp;have:p.1=y:=hpy;rw[this]at e3;exact hne (aaN.mpr ⟨p,hp,Aj9 hN e3 e1⟩)
     ·exact e' (aaJ e1)
    rcases r with rfl | ⟨rfl,rfl⟩
    ·rcases hk' with rfl | rfl | rfl
     ·exact absurd (.inl rfl) no
     ·exact absurd (.inr rfl) no
     ·exact⟨e,.inr hk0⟩
    ·exact⟨e,.inl hk0⟩
   have e3:Vis cenv.scope y:=e3;rcases e3 with e3 | e3 | e3
   ·exact key _ e3 (.inl rfl)
   ·exact key _ e3 (.inr (.inl rfl))
   ·exact key _ e3 (.inr (.inr rfl))
  obtain⟨m,hn,hl⟩:=I.loc;have hvis:Vis X.env.scope y:=(ok.free _ (acI hfr.1) rfl).elim (fun k=>.inr (.inl k)) (fun k=>.inr (.inr k));obtain⟨w,r,q⟩:=hl i y av e1 e2 hvis;refine⟨w,r,.inr ⟨hfr.2,?_⟩⟩;obtain⟨c,h1,h2⟩:=look hfr.1;rcases q with ⟨k,_⟩ | ⟨_,c',e',z⟩
  ·have k:X.env.scope.names.lookup y=some .local:=k;rcases ok.free _ (acI hfr.1) rfl with k' | k'<;>rw[show X.env.scope.names.lookup y=_ from k']at k<;>cases k
  ·rw[h2]at e';cases e';exact⟨c,h1,z.keeps kp⟩
 ·have e:cenv.cells.lookup y=some c:=e;rcases mem e with ⟨h1,_⟩ | ⟨_,z⟩
  ·obtain⟨w,z⟩:=I.cell y c h1;exact⟨w,z.keeps kp⟩
  ·exact⟨_,z⟩
 ·show H cenv.locals=none;rw[hL];exact I.hok.fresh (aaK _)
 ·have e:cenv.cells.lookup y=some c:=e;rcases mem e with ⟨h1,_⟩ | ⟨h1,_⟩
  ·exact I.freeC y c h1
  ·exact I.hok.fresh (aiK h1)
 ·exact absurd (show p∈([]:List (Addr×Obj))++[] from hp) (by simp)
theorem Bbh {E:aaF->aaI->Prop}{D:Addr}{xs:List V}{y:V}{v:aaF}{Q:aaF->aaI->Prop}(I:Inv X p_ σ H s)(hD:H D=some (.lst xs))(hz:xs.length<abB)(r:RelV y v)
 (h:∀s',Inv X p_ σ (upd H D (.lst (xs++[y]))) s'->Q .none s'):abM (model X.prog X.w) X.A (call (.builtin "list.append") [.ref D,v]) Q E s:=by
 obtain⟨hz',its,n,ri,e⟩:=I.hok D _ hD;have hl:=ri.length;refine append_at (hsz:=by rw[aaP];lia) e fun h' sb ho'=>?_;refine h { s with heap:=h' } (I.write (t':=s.toks) (by rw[hD];trivial) (.inl rfl) (fun b u hb q=>(sb.2 b hb).trans q) ⟨_,ho'⟩ ⟨by rw[aaM];exact hz,its++[v],n+1,ri.append (.cons r .nil),?_⟩);rw[ho'];simp
def PTs (X:Cx)(ifs:List adX)(t:TT):Prop :=
 ∀(p_:List (Addr×Obj)) (s:aaI) (σ:St) (H:Hp) (Q:Bool->Hp->Prop),Inv X p_ σ H s->t σ H Q->
  abM (model X.prog X.w) X.A (forIn ifs true fun c r=>if r=true then do let ok <-isTrue c X.env (eval c X.env);pure (aiM ok)else pure (aiM r)) (TP X p_ σ Q) X.xe s
def Asw:TT:=fun _ H Q=>Q true H
theorem Ad5:PTs X [] Asw:=fun _ _ _ H _ I h=>wpAny_tests_nil ⟨H,I,h⟩
theorem Aqi {c:adX}{t:TT}(h:PT X c t):PTs X [c] t:=fun p_ s σ H Q I hw=>wpAny_tests_one (h p_ s σ H Q I hw)
end
theorem Ayn {α:Type}{t:Sem α}{Q Q':α->aaI->Prop}{M:Model}{A:adE}{E:aaF->aaI->Prop}{s:aaI}(h:abM M A t Q (fun _ _=>False) s)(hQ:∀a s,Q a s->Q' a s):abM M A t Q' E s:=aeE h hQ fun _ _ z=>acM z
theorem Al6 {prog:abS}{w:adI}{A:adE}{R:Result->aaI->Prop}{s:aaI}{elt target iter:adX}{ifs:List adX}{scope:Scope}{pos:Pos}{it acc:aaF}{env:Env}(I:Nat->aaI->Prop)
 (turn:∀n s,I n s->abM (model prog w) A (pyNext it) (fun r s₁=>match r with
  | none=>R (.ok .next) s₁
  | some v=>abM (model prog w) A (letOwnedTupleGo target it v) (fun _ s₁'=>abM (model prog w) A (assign target env v) (fun _ s₂ =>
   abM (model prog w) A (forIn ifs true fun c r=>if r=true then do let ok <-isTrue c env (eval c env);pure (aiM ok)else pure (aiM r)) (fun ok s₃ =>
    if ok=true then abM (model prog w) A (eval elt env) (fun x s₄ =>
     abM (model prog w) A (call (.builtin "list.append") [acc,x]) (fun _ s₅=>∃m,m<n/\I m s₅) (notedBy (model prog w) A env fun e s'=>R (.error e) s') s₄) (notedBy (model prog w) A env fun e s'=>R (.error e) s') s₃
    else ∃m,m<n/\I m s₃) (notedBy (model prog w) A env fun e s'=>R (.error e) s') s₂) (notedBy (model prog w) A env fun e s'=>R (.error e) s') s₁') (notedBy (model prog w) A env fun e s'=>R (.error e) s') s₁) (notedBy (model prog w) A env fun e s'=>R (.error e) s') s)
 (n:Nat) (h:I n s) :
 amZ (model prog w) A (.compLoop (.ListComp elt [⟨target,iter,ifs,0⟩] scope pos) 0 it acc env) R s:=by
 refine codeAny_loop rfl I (fun n s hI=>?_) n h;show abM _ A ((compTurn (.ListComp elt [⟨target,iter,ifs,0⟩] scope pos) 0 it acc env).onRaise (fun x=>do noteFrame x env;theTreesLotGoes x)) _ _ s;refine wpAny_noted ?_;rw[compTurn_list];refine aaC (wpAny_standAt (aaC (aeE (turn n s hI) (fun r s₁ h₁=>?_) fun _ _ h'=>h')));cases r with
 | none=>exact aaL h₁
 | some v =>
  refine aaC (aeE h₁ (fun _ s₁' h₁'=>?_) fun _ _ h'=>h');refine aaC (aeE h₁' (fun _ s₂ h₂=>aaC (aeE h₂ (fun ok s₃ h₃=>?_) fun _ _ h'=>h')) fun _ _ h'=>h');cases ok with
  | false=>exact aaL ⟨rfl,h₃⟩
  | true =>
   exact aaC (aaC (aeE h₃ (fun x s₄ h₄=>aaC (aeE h₄ (fun _ s₅ h₅=>aaL (aaL ⟨rfl,h₅⟩)) fun _ _ h'=>h')) fun _ _ h'=>h'))
section
variable {X:Cx}
def tLc (wi:TI)(g:TG)(tt:TT)(te:TE)(vs:List Nat):TE:=fun σ H Q=>wi σ H fun J H1=>∀D,H1 D=none->∃W:Nat->Nat->Hp->Prop,(∃m,W 0 m (upd H1 D (.lst [])))/\∀i m H,W i m H->
 (J.stop i H/\Q (.ref D) H)\/(J.go i H/\∃Nx:Hp->Prop,(∀H',Nx H'->∃m',m'<m/\W (i+1) m' H')/\∀x H',J.yld i H x H'->g x (Afn σ vs) H' fun σ2 H2=>Afn σ2 vs=Afn σ vs/\tt σ2 H2 fun b H3 =>
  if b=true then te σ2 H3 fun y H4=>∃acc,H4 D=some (.lst acc)/\acc.length<abB/\Nx (upd H4 D (.lst (acc++[y])))else Nx H3)
theorem Are {p_:List (Addr×Obj)}{s:aaI}{σ:St}{H:Hp}{Q:VK}{elt tg iter:adX}{ifs:List adX}{scope:Scope}{own:List (Str×Nat)}{pos pos':Pos}{wi:TI}{g:TG}{tt:TT}{te:TE}{use:Option (aaF->Sem Unit)}{Qf:aaF->aaI->Prop}
 (hc:X.calm=true) (hN:X.N.Nodup) (I:Inv X p_ σ H s) (hi:PI X tg iter wi) (ok:Asn X.N X.env.scope scope own)
 (hg:∀(s:aaI) (H:Hp) (C:Addr) (cl:List (Str×Addr)) (fp:List Addr),PG (X.blk s H scope (compEnvC scope cl C X.env) fp) tg g) (ht:∀(s:aaI) (H:Hp) (C:Addr) (cl:List (Str×Addr)) (fp:List Addr),PTs (X.blk s H scope (compEnvC scope cl C X.env) fp) ifs tt)
 (he:∀(s:aaI) (H:Hp) (C:Addr) (cl:List (Str×Addr)) (fp:List Addr),PE (X.blk s H scope (compEnvC scope cl C X.env) fp) elt te) (hs:∀x,foldedSetIterable iter X.env x=pure x)
 (h:tLc wi g tt te (own.map (·.2)) σ H Q)
 (hRR:∀D C s' m H',Inv X p_ σ H' s'->Q (.ref D) H'->s'.heap.Ns C m->FpOk X p_ H' C->compPost (model X.prog X.w) X.A X.xe use Qf (.ref D) C (.ok .next) s') :
 abM (model X.prog X.w) X.A (comprehension (.ListComp elt [⟨tg,iter,ifs,0⟩] scope pos) scope X.env pos' (newList []) false (eval iter X.env) use) Qf X.xe s:=by
 have hfree:∀y∈scope.names,y.2=.free ->∃c,X.env.cells.lookup y.1=some c:=fun y hy e=>by
  rcases ok.free y hy e with k | k
  ·exact I.ok.has _ (.inl k)
  ·exact I.ok.has _ (.inr k)
 refine wpAny_comprehension_free (use:=use) rfl hs (Ap7 hfree) ok.kind (fun y hy e=>by rw[ok.uniq y hy,e])
  (thn (hi p_ s σ H _ I h) fun xv s1 hx=>thn hx fun itv s2 h2=>?_)
 obtain⟨it,fp,tn,J,H2,e,I2,T,st2,f2,q⟩:=h2;subst e;refine wpAny_newObj_type (Am2 ?_) (by show 0<=abB;decide);generalize hD:s2.heap.objs.size=D;have hDn:H2 D=none:=I2.hok.fresh (aeL hD);obtain⟨W,⟨m0,w0⟩,turn⟩:=q D hDn;generalize hs3:({ s2 with heap:=s2.heap.push { cls:=.type "list",data:=.seq ([]:List aaF).toArray } }:aaI)=s3;have I3:Inv X p_ σ (upd H2 D (.lst [])) s3:=by
  rw[<-hs3];refine I2.laid (t':=s2.toks) (fun b o e=>aaD _ e) (aeL hD) ⟨abO _,[],0,.nil,?_⟩;rw[<-hD];exact aaO _ rfl
 have h3:s3.heap=s2.heap.push { cls:=.type "list",data:=.seq ([]:List aaF).toArray }:=by rw[<-hs3]
 have sz:∀b∈fp,b<s2.heap.objs.size:=fun b hb=>by
  obtain⟨o,e,_⟩:=T.obj _ _ st2 b hb;exact aaS e
 have f3:∀b∈fp,FpOk X p_ (upd H2 D (.lst [])) b/\b<s3.heap.objs.size:=fun b hb=>by
  have hlt:=sz b hb;refine⟨⟨?_,(f2 b hb).2⟩,by rw[h3,acQ];exact ahA hlt⟩;rw[Aa5 (by rw[<-hD];exact acJ hlt)];exact(f2 b hb).1
 have st3:tn 0 s3.heap:=T.keep _ _ _ st2 fun b _ o e=>by rw[h3];exact aaD _ e
 have I4:=Amp I3 ok hN f3;have pg:=hg s3 (upd H2 D (.lst [])) s3.heap.objs.size (cellsFrom (s3.heap.objs.size+1) scope.names (Ab0 X.env.cells scope.names [])) fp;have pt:=ht s3 (upd H2 D (.lst [])) s3.heap.objs.size (cellsFrom (s3.heap.objs.size+1) scope.names (Ab0 X.env.cells scope.names [])) fp;have pe:=he s3 (upd H2 D (.lst [])) s3.heap.objs.size (cellsFrom (s3.heap.objs.size+1) scope.names (Ab0 X.env.cells scope.names [])) fp
 show amZ _ _ (.compStart (.ListComp elt [⟨tg,iter,ifs,0⟩] scope pos) 0 (.ref it) (.ref D) (compEnvC scope (cellsFrom (s3.heap.objs.size+1) scope.names (Ab0 X.env.cells scope.names [])) s3.heap.objs.size X.env)) (compPost (model X.prog X.w) X.A X.xe use Qf (.ref D) s3.heap.objs.size) { s3 with heap:=pushCells (s3.heap.push { cls:=.type "dict",data:=.dict #[] }) scope.names };have nfp:∀b∈fp,(upd H2 D (.lst [])) b=none:=fun b hb=>(f3 b hb).1.1
 generalize hce:compEnvC scope (cellsFrom (s3.heap.objs.size+1) scope.names (Ab0 X.env.cells scope.names [])) s3.heap.objs.size X.env=ce at I4 pg pt pe ⊢;have cL:ce.locals=s3.heap.objs.size:=by subst hce;rfl
 generalize hH3:upd H2 D (.lst [])=H3 at I3 I4 pg pt pe w0 nfp f3;generalize hs4:({ s3 with heap:=pushCells (s3.heap.push { cls:=.type "dict",data:=.dict #[] }) scope.names }:aaI)=s4 at I4 ⊢;have st4:tn 0 s4.heap:=T.keep _ _ _ st3 fun b _ o e=>by rw[<-hs4];exact pushCells_keeps _ _ _ _ (aaD _ e)
 have stat:∀{σ':St} {H':Hp} {s':aaI},Inv (X.blk s3 H3 scope ce fp) [] σ' H' s'->(∀b∈fp,H' b=none)->∀b∈fp,FpOk (X.blk s3 H3 scope ce fp) [] H' b:=fun {σ' H' s'} I' hn b hb =>
  ⟨hn b hb,(I'.ok.exf b hb).1,I'.ok.exfs b hb,.inl hb,fun x c e=>(I'.ok.exf b hb).2 x c e,fun p hp=>absurd (show p∈([]:List (Addr×Obj))++[] from hp) (by simp)⟩
 have loop:amZ (model X.prog X.w) X.A (.compLoop (.ListComp elt [⟨tg,iter,ifs,0⟩] scope pos) 0 (.ref it) (.ref D) ce) (compPost (model X.prog X.w) X.A X.xe use Qf (.ref D) s3.heap.objs.size) s4:=by
  refine Al6 (fun n s'=>∃i H',Inv (X.blk s3 H3 scope ce fp) [] (Afn σ (own.map (·.2))) H' s'/\tn i s'.heap/\(∀b∈fp,H' b=none)/\W i n H') ?_ m0 ⟨0,H3,I4,st4,nfp,w0⟩;rintro n s5 ⟨i,H5,I5,st5,n5,w5⟩;rcases turn i n H5 w5 with ⟨stop,qq⟩ | ⟨go,Nx,hNx,step⟩
  ·have td:=T.done (X.blk s3 H3 scope ce fp) rfl rfl rfl hc i [] s5 _ H5 (fun _ _=>False) I5 (stat I5 n5) st5 stop;refine Ayn td fun r s6 ⟨hr,I6⟩=>?_;subst hr;have I7:Inv X p_ σ H5 s6:=I3.call' (ch:=fp) I6.os I6.base I6.hok I6.bare fun b hb=>⟨(f3 b hb).1.2.2.2.1,(f3 b hb).1.2.1,(f3 b hb).1.2.2.2.2.1,(f3 b hb).1.2.2.2.2.2⟩
   have nC:H5 s3.heap.objs.size=none:=by
    have z:H5 ce.locals=none:=I6.free;rw[cL]at z;exact z
   obtain⟨m,hn,_⟩:=I6.loc;have hn:s6.heap.Ns ce.locals m:=hn;rw[cL]at hn;exact hRR D s3.heap.objs.size s6 m H5 I7 qq hn (I3.fpOk (aaK _) nC)
  ·have ti:=T.item (X.blk s3 H3 scope ce fp) rfl rfl rfl hc i [] s5 _ H5 (fun _ _=>False) I5 (stat I5 n5) st5 go;refine Ayn ti fun r s6 ⟨u,hr,h6⟩=>?_;subst hr;refine Ayn h6 fun _ s7 ⟨x,H7,I7,r7,y7,st7,n7⟩=>?_;have I7':=I7.pinned (stat I7 n7) (T.obj _ _ st7);refine Ayn (pg _ s7 _ H7 x u _ I7' r7 (step x H7 y7)) fun _ s8 ⟨σ8,H8,I8,hw8,q8⟩=>?_;refine Ayn (pt _ s8 σ8 H8 _ I8 q8) fun b s9 ⟨H9,I9,q9⟩=>?_
   have fin:∀{s':aaI} {H':Hp},Inv (X.blk s3 H3 scope ce fp) ([]++Akm fp s7.heap) σ8 H' s'->Nx H'->∃m,m<n/\∃i H',Inv (X.blk s3 H3 scope ce fp) [] (Afn σ (own.map (·.2))) H' s'/\tn i s'.heap/\(∀b∈fp,H' b=none)/\W i m H':=fun {s' H'} I' nx=>by
    obtain⟨m',hm,w'⟩:=hNx H' nx;have pin':∀b∈fp,∀o,s7.heap.get? b=some o->s'.heap.get? b=some o/\H' b=none:=fun b hb o e =>
     let z:=I'.pin (b,o) (acV _ (acV _ (Aey hb e)))
     ⟨z.1,z.2.1⟩
    have hl:(Afn σ (own.map (·.2))).length=σ8.length:=by rw[<-hw8,Ady]
    refine⟨m',hm,i+1,H',(I'.unpinned (p_:=[])).weak hl (fun j v e=>?_),T.keep _ _ _ st7 fun b hb o e=>(pin' b hb o e).1,fun b hb=>?_,w'⟩
    ·rw[<-hw8]at e;exact(Ag2 e).1
    ·obtain⟨o,e,_⟩:=T.obj _ _ st7 b hb;exact(pin' b hb o e).2
   cases b with
   | false =>
    simp only[aeV,if_false]at q9 ⊢;exact fin I9 q9
   | true =>
    simp only[if_true]at q9 ⊢;refine Ayn (pe _ s9 σ8 H9 _ I9 q9) fun z s10 ⟨yv,H10,I10,r10,acc,hD10,hz10,nx⟩=>?_;exact Bbh (X:=X.blk s3 H3 scope ce fp) I10 hD10 hz10 r10 fun s11 I11=>fin I11 nx
 exact codeAny_compStart_list loop (T.self X.A 0 _ _ _ st4 loop)
theorem Atg {elt tg iter:adX}{ifs:List adX}{scope:Scope}{own:List (Str×Nat)}{pos:Pos}{wi:TI}{g:TG}{tt:TT}{te:TE}(hc:X.calm=true)(hN:X.N.Nodup)(hi:PI X tg iter wi)(ok:Asn X.N X.env.scope scope own)
 (hg:∀(s:aaI) (H:Hp) (C:Addr) (cl:List (Str×Addr)) (fp:List Addr),PG (X.blk s H scope (compEnvC scope cl C X.env) fp) tg g) (ht:∀(s:aaI) (H:Hp) (C:Addr) (cl:List (Str×Addr)) (fp:List Addr),PTs (X.blk s H scope (compEnvC scope cl C X.env) fp) ifs tt)
 (he:∀(s:aaI) (H:Hp) (C:Addr) (cl:List (Str×Addr)) (fp:List Addr),PE (X.blk s H scope (compEnvC scope cl C X.env) fp) elt te) (hs:∀x,foldedSetIterable iter X.env x=pure x:=by intro _;rfl) :
 PE X (.ListComp elt [⟨tg,iter,ifs,0⟩] scope pos) (tLc wi g tt te (own.map (·.2))):=by
 intro p_ s σ H Q I h;rw[eval_ListComp];refine Are hc hN I hi ok hg ht he hs h fun D C s' m H' I' q hn f=>⟨m,hn,fun h'' sb=>?_⟩
 obtain⟨f0,f1,f2,f3,f4,f5⟩:=f;exact⟨.ref D,H',I'.turned (t':=s'.toks) (fun b o hb e=>(sb.2 b hb).trans e) f0 f1 f3 f4 f5,rfl,q⟩
theorem Adm {i:Nat}{y:Str}{py:Pos}{elt tg iter:adX}{ifs:List adX}{scope:Scope}{own:List (Str×Nat)}{pos spos:Pos}{wi:TI}{g:TG}{tt:TT}{te:TE}(hc:X.calm=true)(hN:X.N.Nodup)(hy:X.N[i]?=some y)(hyl:X.env.scope.names.lookup y=some .local)
 (hsw:ajB (.ListComp elt [⟨tg,iter,ifs,0⟩] scope pos) (some (.Name y py)) spos.line X.env=pure true) (hi:PI X tg iter wi) (ok:Asn X.N X.env.scope scope own)
 (hg:∀(s:aaI) (H:Hp) (C:Addr) (cl:List (Str×Addr)) (fp:List Addr),PG (X.blk s H scope (compEnvC scope cl C X.env) fp) tg g) (ht:∀(s:aaI) (H:Hp) (C:Addr) (cl:List (Str×Addr)) (fp:List Addr),PTs (X.blk s H scope (compEnvC scope cl C X.env) fp) ifs tt)
 (he:∀(s:aaI) (H:Hp) (C:Addr) (cl:List (Str×Addr)) (fp:List Addr),PE (X.blk s H scope (compEnvC scope cl C X.env) fp) elt te) (hs:∀x,foldedSetIterable iter X.env x=pure x:=by intro _;rfl) :
 PS X (.Assign [.Name y py] (.ListComp elt [⟨tg,iter,ifs,0⟩] scope pos) spos) (Bc5 (tLc wi g tt te (own.map (·.2))) (Ahq i)):=by
 intro p_ s σ H D I h;rw[exec_Assign_Name_used _ _ _ _ hsw];refine aaC (wpAny_standAt (aaC ?_));show abM _ X.A (do let _ <-comprehension (.ListComp elt [⟨tg,iter,ifs,0⟩] scope pos) scope X.env (firstIterPos [⟨tg,iter,ifs,0⟩] pos) (newList []) false (eval iter X.env) (some (assign (.Name y py) X.env))) _ _ s;have h:tLc wi g tt te (own.map (·.2)) σ H (fun x H1=>Ahq i x σ H1 D.nx):=h
 refine aaC (thn (Are (Qf:=fun _ s'=>SP X p_ D .next s') hc hN I hi ok hg ht he hs h fun L C s' m H' I' q hn f=>?_) fun _ s' hq=>aaL (aaL hq));show abM _ _ (assign (.Name y py) X.env (.ref L)) _ _ _;refine wpAny_assign_Name (Ak5 (v:=V.ref L) I' hN hy (.inl hyl) rfl (fun s2 I2 ⟨a,sb,ha⟩=>?_) (.inr hyl));obtain⟨f0,f1,f2,f3,f4,f5⟩:=f;have haC:C≠a:=by
  rcases ha with z | z
  ·rw[z];exact f1
  ·exact fun e=>f4 y a z e.symm
 refine⟨m,hn.sameBut sb haC,fun h3 sb3=>?_⟩;exact⟨_,H',I2.turned (t':=s2.toks) (fun b o hb e=>(sb3.2 b hb).trans e) f0 f1 f3 f4 f5,q⟩
theorem Aes {elt:adX}{gs:List Comprehension}{scope:Scope}{pos py:Pos}{y:Str}{l:Nat}{env:Env}(hk:env.scope.kind=.function)(hy:env.scope.names.lookup y=some .local)(hl:(py.line==pos.line)=true)
 (ha:(scope.names.any fun(n,k)=>n==y&&(k==.local||k==.cell))=false):ajB (.ListComp elt gs scope pos) (some (.Name y py)) l env=pure true:=by
 have ky:env.kindOf y=some .local:=hy;have hb:env.blockKind=.function:=by unfold Env.blockKind;rw[hk];rfl
 unfold ajB;simp only[hb,ky,ha,Expr.pos,hl];rfl
end
theorem Anl {lo:Int}{n:Nat}{g:TG}{tt:TT}{te:TE}{vs:List Nat}{σ:St}{H1:Hp}{D:Addr}{Qd:Hp->Prop}(Pv:Nat->Hp->Prop)(h0:Pv 0 (upd H1 D (.lst [])))
 (hs:∀i H,i<n->Pv i H->g (.int (lo+i)) (Afn σ vs) H fun σ2 H2=>Afn σ2 vs=Afn σ vs/\tt σ2 H2 fun b H3 =>
  if b=true then te σ2 H3 fun y H4=>∃acc,H4 D=some (.lst acc)/\acc.length<abB/\Pv (i+1) (upd H4 D (.lst (acc++[y])))else Pv (i+1) H3) (hd:∀H,Pv n H->Qd H) :
 ∃W:Nat->Nat->Hp->Prop,(∃m,W 0 m (upd H1 D (.lst [])))/\∀i m H,W i m H->
  ((Itr lo n).stop i H/\Qd H)\/((Itr lo n).go i H/\∃Nx:Hp->Prop,(∀H',Nx H'->∃m',m'<m/\W (i+1) m' H')/\∀x H',(Itr lo n).yld i H x H'->g x (Afn σ vs) H' fun σ2 H2=>Afn σ2 vs=Afn σ vs/\tt σ2 H2 fun b H3 =>
   if b=true then te σ2 H3 fun y H4=>∃acc,H4 D=some (.lst acc)/\acc.length<abB/\Nx (upd H4 D (.lst (acc++[y])))else Nx H3):=by
 refine⟨fun i m H=>m=n-i/\i<=n/\Pv i H,⟨n,by simp,abO _,h0⟩,?_⟩;rintro i m H ⟨rfl,hi,p⟩
 by_cases hlt:i<n
 ·refine .inr ⟨hlt,Pv (i+1),fun H' p'=>⟨n-(i+1),by lia,rfl,hlt,p'⟩,fun x H' y=>?_⟩;obtain⟨e,y⟩:=y;subst e y;exact hs i _ hlt p
 ·have e:i=n:=by lia
  subst e;exact .inl ⟨aaK _,hd H p⟩
theorem Adf {K:abA}{a:Addr}{xs:List V}{g:TG}{tt:TT}{te:TE}{vs:List Nat}{σ:St}{H1:Hp}{D:Addr}{Qd:Hp->Prop}(Pv:Nat->Hp->Prop)(h0:Pv 0 (upd H1 D (.lst [])))(hl:∀i H,i<=xs.length->Pv i H->SqL K H a xs)
 (hs:∀i x H,xs[i]?=some x->Pv i H->g x (Afn σ vs) H fun σ2 H2=>Afn σ2 vs=Afn σ vs/\tt σ2 H2 fun b H3 =>
  if b=true then te σ2 H3 fun y H4=>∃acc,H4 D=some (.lst acc)/\acc.length<abB/\Pv (i+1) (upd H4 D (.lst (acc++[y])))else Pv (i+1) H3) (hd:∀H,Pv xs.length H->Qd H) :
 ∃W:Nat->Nat->Hp->Prop,(∃m,W 0 m (upd H1 D (.lst [])))/\∀i m H,W i m H->
  ((Itl K a).stop i H/\Qd H)\/((Itl K a).go i H/\∃Nx:Hp->Prop,(∀H',Nx H'->∃m',m'<m/\W (i+1) m' H')/\∀x H',(Itl K a).yld i H x H'->g x (Afn σ vs) H' fun σ2 H2=>Afn σ2 vs=Afn σ vs/\tt σ2 H2 fun b H3 =>
   if b=true then te σ2 H3 fun y H4=>∃acc,H4 D=some (.lst acc)/\acc.length<abB/\Nx (upd H4 D (.lst (acc++[y])))else Nx H3):=by
 refine⟨fun i m H=>m=xs.length-i/\i<=xs.length/\Pv i H,⟨xs.length,by simp,abO _,h0⟩,?_⟩;rintro i m H ⟨rfl,hi,p⟩;have q:=hl i H hi p
 by_cases hlt:i<xs.length
 ·refine .inr ⟨⟨xs,xs[i],q,by simp[hlt]⟩,Pv (i+1),fun H' p'=>⟨xs.length-(i+1),by lia,rfl,hlt,p'⟩,fun x H' y=>?_⟩;obtain⟨e,y⟩:=y;subst e;exact hs i x _ (y xs q) p
 ·have e:i=xs.length:=by lia
  subst e;exact .inl ⟨⟨xs,q,aaK _⟩,hd H p⟩
def Ase (N:List Str)(sc scope:Scope)(own:List (Str×Nat)):Bool :=
 (match scope.kind with | .function=>true | _=>false)&&(scope.names.all fun y=>decide (scope.names.lookup y.1=some y.2))&&(own.all fun p=>decide (N[p.2]?=some p.1)) &&
  (scope.names.all fun y=>match y.2 with
   | .free=>(match sc.names.lookup y.1 with | some .cell=>true | some .free=>true | _=>false)
   | .local=>decide (y.1∈own.map (·.1))||decide (y.1∉N)
   | .cell=>decide (y.1∈own.map (·.1))||decide (y.1∉N)
   | _=>true)
theorem Abu {N:List Str}{sc scope:Scope}{own:List (Str×Nat)}(h:Ase N sc scope own=true):Asn N sc scope own:=by
 unfold Ase at h;simp only[acH,agI,dtt]at h;obtain⟨⟨⟨h1,h2⟩,h3⟩,h4⟩:=h;refine⟨?_,h2,h3,fun y hy e=>?_,fun y hy e=>?_⟩
 ·split at h1
  ·assumption
  ·cases h1
 ·have q:=h4 y hy;simp only[e]at q
  split at q<;>first | exact .inl (by assumption) | exact .inr (by assumption) | cases q
 ·have q:=h4 y hy;rcases e with e | e<;>(simp only[e,Bool.or_eq_true,dtt]at q;exact q)
section
variable {prog:abS}{w:adI}{A:adE}{R:Result->aaI->Prop}{s:aaI}{elt t0 i0 t1 i1:adX}{ifs0 ifs1:List adX}{scope:Scope}{pos:Pos}{it acc:aaF}{env:Env}
end
section
variable {X:Cx}
end
section
variable {κ:Type}[DecidableEq κ]
def Ac8 (kvs:List (κ×V))(k:κ):Option V:=(kvs.find? fun kv=>decide (kv.1=k)).map (·.2)
def Aeq (kvs:List (κ×V))(k:κ)(v:V):List (κ×V) :=
 if (kvs.any fun kv=>decide (kv.1=k))=true then kvs.map (fun kv=>if kv.1=k then(kv.1,v)else kv)else kvs++[(k,v)]
theorem Asu {k:κ}:Ac8 ([]:List (κ×V)) k=none:=rfl
theorem Ab9 {p:κ×V}{r:List (κ×V)}{k:κ}(e:p.1=k):Ac8 (p::r) k=some p.2:=by simp[Ac8,afX,e]
theorem Aba {p:κ×V}{r:List (κ×V)}{k:κ}(e:¬p.1=k):Ac8 (p::r) k=Ac8 r k:=by simp[Ac8,afX,e]
theorem Acq (k:κ):∀kvs:List (κ×V),(kvs.any fun kv=>decide (kv.1=k))=(Ac8 kvs k).isSome
 | []=>rfl
 | p::r=>by
  rw[amV]
  by_cases e:p.1=k
  ·simp only[Ab9 e,dft e,Bool.true_or,anS]
  ·rw[Aba e,dff e,amX];exact Acq k r
theorem Amt (k j:κ)(y:V):∀kvs:List (κ×V),Ac8 (kvs.map fun kv=>if kv.1=k then(kv.1,y)else kv) j=(Ac8 kvs j).map fun x=>if j=k then y else x
 | []=>rfl
 | p::r=>by
  have ih:=Amt k j y r;rw[abE]
  by_cases h:p.1=k
  ·rw[ifp h]
   by_cases e:p.1=j
   ·rw[Ab9 (p:=(p.1,y)) e,Ab9 e,ajA,ifp (e.symm.trans h)]
   ·rw[Aba (p:=(p.1,y)) e,Aba e,ih]
  ·rw[ifn h]
   by_cases e:p.1=j
   ·rw[Ab9 (p:=p) e,Ab9 e,ajA,ifn (fun z=>h (e.trans z))]
   ·rw[Aba (p:=p) e,Aba e,ih]
theorem Ag3 (k j:κ)(y:V):∀kvs:List (κ×V),Ac8 kvs k=none->Ac8 (kvs++[(k,y)]) j=if j=k then some y else Ac8 kvs j
 | [],_=>by
  by_cases e:k=j
  ·rw[ifp e.symm];exact Ab9 (p:=(k,y)) e
  ·rw[ifn (fun z=>e z.symm)];exact Aba (p:=(k,y)) e
 | p::r,hn=>by
  rw[adP];have hk:¬p.1=k:=fun z=>by rw[Ab9 z]at hn;cases hn
  rw[Aba hk]at hn;have ih:=Ag3 k j y r hn
  by_cases e:p.1=j
  ·rw[Ab9 e,Ab9 e,ifn (fun z=>hk (e.trans z))]
  ·rw[Aba e,Aba e,ih]
theorem Ast (kvs:List (κ×V))(k j:κ)(y:V):Ac8 (Aeq kvs k y) j=if j=k then some y else Ac8 kvs j:=by
 unfold Aeq
 by_cases a:(kvs.any fun kv=>decide (kv.1=k))=true
 ·rw[ifp a,Amt];rw[Acq]at a
  by_cases e:j=k
  ·obtain⟨x,hx⟩:=alX.mp a;rw[ifp e,e,hx,ajA,ifp rfl]
  ·rw[ifn e];cases Ac8 kvs j with
   | none=>rfl
   | some x=>rw[ajA,ifn e]
 ·rw[ifn a];refine Ag3 k j y kvs ?_;rw[Acq]at a;cases q:Ac8 kvs k with
  | none=>rfl
  | some x=>rw[q]at a;exact(a rfl).elim
theorem Acu (kvs:List (κ×V))(k:κ)(v:V):(Aeq kvs k v).length<=kvs.length+1:=by
 unfold Aeq
 split
 ·rw[aaA];lia
 ·rw[aaM,aaZ,adO];lia
theorem Afu {kvs:List (κ×V)}{k:κ}(v:V)(h:Ac8 kvs k=none):Aeq kvs k v=kvs++[(k,v)]:=by
 unfold Aeq;rw[Acq,h];exact ifn (by decide)
theorem RelO.isSome_eq {o:Option V}{u:Option aaF}(r:RelO o u):o.isSome=u.isSome:=by
 cases o with
 | none=>cases u with
  | none=>rfl
  | some _=>exact(show False from r).elim
 | some _=>cases u with
  | none=>exact(show False from r).elim
  | some _=>rfl
theorem KV.val {kvs:List (κ×V)}{vs:List (κ×aaF)}(r:KV kvs vs)(k:κ):RelO (Ac8 kvs k) (valueAt vs k):=by
 unfold KV at r
 induction r with
 | nil=>exact ahO
 | @cons p q ps qs h t ih =>
  obtain⟨h1,h2⟩:=h
  by_cases e:p.1=k
  ·have e':q.1=k:=h1.symm.trans e;have b:valueAt (q::qs) k=some q.2:=by simp[valueAt,afX,e']
   rw[Ab9 e,b];exact h2
  ·have e':¬q.1=k:=fun z=>e (h1.trans z);have b:valueAt (q::qs) k=valueAt qs k:=by simp[valueAt,afX,e']
   rw[Aba e,b];exact ih
theorem KV.any {kvs:List (κ×V)}{vs:List (κ×aaF)}(r:KV kvs vs)(k:κ):(kvs.any fun kv=>decide (kv.1=k))=vs.any fun kv=>decide (kv.1=k):=by
 unfold KV at r
 induction r with
 | nil=>rfl
 | cons h t ih=>rw[amV,amV,ih,h.1]
theorem KV.repl {kvs:List (κ×V)}{vs:List (κ×aaF)}(r:KV kvs vs)(k:κ){y:V}{u:aaF}(ry:RelV y u) :
 KV (kvs.map fun kv=>if kv.1=k then(kv.1,y)else kv) (vs.map fun kv=>if kv.1=k then(kv.1,u)else kv):=by
 unfold KV at r ⊢
 induction r with
 | nil=>exact .nil
 | @cons p q ps qs h t ih =>
  rw[abE,abE];refine .cons ?_ ih;obtain⟨h1,h2⟩:=h
  by_cases e:p.1=k
  ·rw[ifp e,ifp (h1.symm.trans e)];exact⟨h1,ry⟩
  ·rw[ifn e,ifn (fun z=>e (h1.trans z))];exact⟨h1,h2⟩
theorem KV.put {kvs:List (κ×V)}{vs:List (κ×aaF)}(r:KV kvs vs)(k:κ){y:V}{u:aaF}(ry:RelV y u):KV (Aeq kvs k y) (stored vs k u):=by
 unfold Aeq stored;rw[r.any k]
 by_cases e:(vs.any fun kv=>decide (kv.1=k))=true
 ·rw[ifp e,ifp e];exact r.repl k ry
 ·rw[ifn e,ifn e];exact Paired.snoc r ⟨rfl,ry⟩
theorem KV.length {kvs:List (κ×V)}{vs:List (κ×aaF)}(r:KV kvs vs):kvs.length=vs.length:=ajU r
end
theorem Aop {P:abS}{w:adI}{k:Key}{u:aaF}(r:RelV (kV k) u):(Abg P w).is k u=true:=by
 cases k with
 | inl i=>obtain⟨t,e⟩:=(show ∃t,u=afM i t from r);subst e;exact Am7 P w i t
 | inr x=>obtain⟨t,e⟩:=(show ∃t,u=anA x t from r);subst e;exact Am6 P w x t
theorem Aky {P:abS}{w:adI}:∀{ks:List Key} {us:List aaF},Vals (ks.map kV) us->ItemsAre (Abg P w) ks us
 | [],_,r=>by rw[agM]at r;cases r;exact .nil
 | k::ks,_,r=>by
  rw[abE]at r;cases r with
  | cons h t=>exact .cons (Aop h) (Aky t)
abbrev KT (H:Hp):List (List Key×V)->List (List Key×Addr×aaF)->Prop:=Paired fun p q=>p.1=q.1/\H q.2.1=some (.tup (p.1.map kV))/\RelV p.2 q.2.2
theorem KT.val {H:Hp}{kvs:List (List Key×V)}{xs:List (List Key×Addr×aaF)}(r:KT H kvs xs)(k:List Key):RelO (Ac8 kvs k) ((atKey xs k).map (·.2)):=by
 induction r with
 | nil=>exact ahO
 | @cons p q ps qs h t ih =>
  obtain⟨h1,_,h2⟩:=h
  by_cases e:p.1=k
  ·have e':q.1=k:=h1.symm.trans e;have b:atKey (q::qs) k=some q.2:=by simp[atKey,afX,e']
   rw[Ab9 e,b];exact h2
  ·have e':¬q.1=k:=fun z=>e (h1.trans z);have b:atKey (q::qs) k=atKey qs k:=by simp[atKey,afX,e']
   rw[Aba e,b];exact ih
theorem KT.repl {H:Hp}{kvs:List (List Key×V)}{xs:List (List Key×Addr×aaF)}(r:KT H kvs xs)(k:List Key){y:V}{u:aaF}(ry:RelV y u) :
 KT H (kvs.map fun kv=>if kv.1=k then(kv.1,y)else kv) (xs.map (putAt k u)):=by
 induction r with
 | nil=>exact .nil
 | @cons p q ps qs h t ih =>
  rw[abE,abE];refine .cons ?_ ih;obtain⟨h1,h2,h3⟩:=h;unfold putAt
  by_cases e:p.1=k
  ·rw[ifp e,ifp (h1.symm.trans e)];exact⟨h1,h2,ry⟩
  ·rw[ifn e,ifn (fun z=>e (h1.trans z))];exact⟨h1,h2,h3⟩
theorem KT.put {H:Hp}{kvs:List (List Key×V)}{xs:List (List Key×Addr×aaF)}(r:KT H kvs xs)(k:List Key){b:Addr}{y:V}{u:aaF}(hb:H b=some (.tup (k.map kV)))(ry:RelV y u) :
 KT H (Aeq kvs k y) (storedH xs k b u):=by
 have e:(kvs.any fun kv=>decide (kv.1=k))=(atKey xs k).isSome:=by
  rw[Acq,(r.val k).isSome_eq,akE]
 unfold Aeq storedH;rw[e]
 by_cases q:(atKey xs k).isSome=true
 ·rw[ifp q,ifp q];exact r.repl k ry
 ·rw[ifn q,ifn q];exact Paired.snoc r ⟨rfl,hb,ry⟩
theorem KT.keeps {H H':Hp}{kvs:List (List Key×V)}{xs:List (List Key×Addr×aaF)}(r:KT H kvs xs)(ht:∀b ys,H b=some (.tup ys)->H' b=some (.tup ys)):KT H' kvs xs :=
 Paired.mapP r fun _ _ z=>⟨z.1,ht _ _ z.2.1,z.2.2⟩
section
variable {P:abS}{w:adI}{H:Hp}{h:Heap}{a:Addr}
theorem Azw {u:HO}(ok:HOk P w H h)(e:Rd H a u):ObjOk P w H h a u:=e.ok ok
theorem Ap3 {kvs:List (Key×V)}(ok:HOk P w H h)(e:Rd H a (.dK kvs)):kvs.length<=abB/\(a==sysModules)=false/\∃vs,KV kvs vs/\h.DictOf (Abg P w) a vs :=
 show ObjOk P w H h a (.dK kvs)from Azw ok e
theorem Bbd {kvs:List (Key×V)}(ok:HOk P w H h)(e:H a=some (.dK kvs)):kvs.length<=abB/\(a==sysModules)=false/\∃vs,KV kvs vs/\h.DictOf (Abg P w) a vs:=Ap3 ok (.inl e)
theorem Aks {ks:List Key}(ok:HOk P w H h)(e:H a=some (.tup (ks.map kV))):(tupleKind (Abg P w)).is h ks a:=by
 obtain⟨_,its,r,o,h1,h2,n,h3⟩:=(show ObjOk P w H h a (.tup (ks.map kV))from ok a _ e)
 exact⟨o,its.toArray,n,h1,h2,h3,by simpa using Aky r⟩
theorem As2 {kvs:List (List Key×V)}(ok:HOk P w H h)(e:Rd H a (.dT kvs)):kvs.length<=abB/\(a==sysModules)=false/\
 ∃xs,KT H kvs xs/\h.DictOfH (tupleKind (Abg P w)) a xs:=by
 obtain⟨z,y,xs,r,o,es,ep,h1,h2,h3,h4,h5⟩:=(show ObjOk P w H h a (.dT kvs)from Azw ok e)
 refine⟨z,y,xs,r,o,es,ep,h1,h2,h3,h4,fun x hx=>?_,h5⟩;have all:∀{l:List (List Key×V)} {m:List (List Key×Addr×aaF)},KT H l m->∀x∈m,(tupleKind (Abg P w)).is h x.1 x.2.1:=by
  intro l m q
  induction q with
  | nil=>intro x hx;exact nomatch hx
  | @cons p q ps qs hq t ih =>
   intro x hx;rcases aaG.mp hx with e | hx
   ·subst e;exact Aks ok (by rw[<-hq.1];exact hq.2.1)
   ·exact ih x hx
 exact all r x hx
theorem Bd9 {kvs:List (List Key×V)}(ok:HOk P w H h)(e:H a=some (.dT kvs)):kvs.length<=abB/\(a==sysModules)=false/\
 ∃xs,KT H kvs xs/\h.DictOfH (tupleKind (Abg P w)) a xs:=As2 ok (.inl e)
end
def DGet (H:Hp)(a:Addr)(y:V)(r:Option V):Prop :=
 (∃kvs k,Rd H a (.dK kvs)/\y=kV k/\r=Ac8 kvs k)\/∃kvs k b,Rd H a (.dT kvs)/\y=.ref b/\H b=some (.tup (k.map kV))/\r=Ac8 kvs k
def DPut (H:Hp)(a:Addr)(y v:V)(H':Hp):Prop :=
 (∃kvs k,H a=some (.dK kvs)/\y=kV k/\kvs.length<abB/\H'=upd H a (.dK (Aeq kvs k v)))\/
 ∃kvs k b,H a=some (.dT kvs)/\y=.ref b/\H b=some (.tup (k.map kV))/\kvs.length<abB/\H'=upd H a (.dT (Aeq kvs k v))
theorem DGet.k {H:Hp}{a:Addr}{kvs:List (Key×V)}{k:Key}(e:H a=some (.dK kvs)):DGet H a (kV k) (Ac8 kvs k):=.inl ⟨kvs,k,.inl e,rfl,rfl⟩
theorem DGet.t {H:Hp}{a b:Addr}{kvs:List (List Key×V)}{k:List Key}(e:H a=some (.dT kvs))(eb:H b=some (.tup (k.map kV))):DGet H a (.ref b) (Ac8 kvs k):=.inr ⟨kvs,k,b,.inl e,rfl,eb,rfl⟩
theorem DPut.k {H:Hp}{a:Addr}{kvs:List (Key×V)}{k:Key}{v:V}(e:H a=some (.dK kvs))(hl:kvs.length<abB):DPut H a (kV k) v (upd H a (.dK (Aeq kvs k v))):=.inl ⟨kvs,k,e,rfl,hl,rfl⟩
theorem DPut.t {H:Hp}{a b:Addr}{kvs:List (List Key×V)}{k:List Key}{v:V}(e:H a=some (.dT kvs))(eb:H b=some (.tup (k.map kV)))(hl:kvs.length<abB) :
 DPut H a (.ref b) v (upd H a (.dT (Aeq kvs k v))):=.inr ⟨kvs,k,b,e,rfl,eb,hl,rfl⟩
section
variable {X:Cx}{p_:List (Addr×Obj)}{σ:St}{H:Hp}{s:aaI}{a:Addr}{y v:V}{u r:aaF}{o:Option V}{A:adE}{E:aaF->aaI->Prop}
theorem Inv.big (I:Inv X p_ σ H s):sysModules<s.heap.objs.size:=by
 have h:aaV<s.heap.objs.size:=(I.mod.glob.keeps I.bk).lt;exact anU (by decide) h
theorem As7 {Q:aaF->aaI->Prop}(hu:A.units+1<cLine)(I:Inv X p_ σ H s)(g:DGet H a y (some v))(ry:RelV y u)(h:∀w' s',Inv X p_ σ H s'->RelV v w'->Q w' s') :
 abM (model X.prog X.w) A (getItem (.ref a) u) Q E s:=by
 rcases g with ⟨kvs,k,e,ey,l⟩ | ⟨kvs,k,b,e,ey,eb,l⟩
 ·subst ey;obtain⟨z,hd,vs,rel,dd⟩:=Ap3 I.hok e;obtain⟨w',hw,rw'⟩:=RelO.some_of (v:=v) (o:=valueAt vs k) (by rw[l];exact rel.val k);exact wpAny_getItem_of (Aop ry) dd.mapOf hw (h w' _ (I.tok _) rw')
 ·subst ey;cases (show u=aaR b from ry);obtain⟨z,hd,xs,rel,dd⟩:=As2 I.hok e;obtain⟨w',hw,rw'⟩:=RelO.some_of (v:=v) (o:=(atKey xs k).map (·.2)) (by rw[l];exact rel.val k);obtain⟨p,hp,hp2⟩:=Option.map_eq_some_iff.mp hw;refine wpAny_getItem_heap (tupleKind_room_in1 hu) (Aks I.hok eb) dd hp ?_;rw[hp2];exact h w' _ (I.tok _) rw'
theorem Bey {Q:aaF->aaI->Prop}(hu:A.units+1<cLine)(I:Inv X p_ σ H s)(g:DGet H a y o)(ry:RelV y u)(h:∀s',Inv X p_ σ H s'->Q (.bool o.isSome) s') :
 abM (model X.prog X.w) A (compareOp .In u (.ref a)) Q E s:=by
 rcases g with ⟨kvs,k,e,ey,l⟩ | ⟨kvs,k,b,e,ey,eb,l⟩
 ·subst ey;obtain⟨z,hd,vs,rel,dd⟩:=Ap3 I.hok e;refine wpAny_in_of (Aop ry) hd dd.mapOf ?_;rw[<-(rel.val k).isSome_eq,<-l];exact h _ (I.tok _)
 ·subst ey;cases (show u=aaR b from ry);obtain⟨z,hd,xs,rel,dd⟩:=As2 I.hok e;refine wpAny_in_heap (tupleKind_room_in1 hu) (Aks I.hok eb) hd dd ?_;have q:=(rel.val k).isSome_eq;rw[akE]at q;rw[<-q,<-l];exact h _ (I.tok _)
theorem Ay7 {Q:aaF->aaI->Prop}(hu:A.units+1<cLine)(I:Inv X p_ σ H s)(g:DGet H a y o)(ry:RelV y u)(h:∀s',Inv X p_ σ H s'->Q (.bool (!o.isSome)) s') :
 abM (model X.prog X.w) A (compareOp .NotIn u (.ref a)) Q E s:=by
 rcases g with ⟨kvs,k,e,ey,l⟩ | ⟨kvs,k,b,e,ey,eb,l⟩
 ·subst ey;obtain⟨z,hd,vs,rel,dd⟩:=Ap3 I.hok e;refine wpAny_notIn_of (Aop ry) hd dd.mapOf ?_;rw[<-(rel.val k).isSome_eq,<-l];exact h _ (I.tok _)
 ·subst ey;cases (show u=aaR b from ry);obtain⟨z,hd,xs,rel,dd⟩:=As2 I.hok e;refine wpAny_notIn_heap (tupleKind_room_in1 hu) (Aks I.hok eb) hd dd ?_;have q:=(rel.val k).isSome_eq;rw[akE]at q;rw[<-q,<-l];exact h _ (I.tok _)
theorem Amn {h':Heap}{t':Nat}{ob:HO}(I:Inv X p_ σ H s)(mu:Mut (H a))(hs:aiA a s.heap h')(he:∃q,h'.get? a=some q)(new:ObjOk X.prog X.w (upd H a ob) h' a ob) :
 Inv X p_ σ (upd H a ob) { s with heap:=h',toks:=t' } :=
 I.write (x:=a) (e:=a) mu (.inl rfl) (fun b q hb z=>(hs.2 b hb).trans z) he new
theorem Avu {P:abS}{w:adI}{H':Hp}{h':Heap}{kvs:List (Key×V)}{vs:List (Key×aaF)}(z:kvs.length<=abB)(hd:(a==sysModules)=false)(rel:KV kvs vs)(dd:h'.DictOf (Abg P w) a vs) :
 ObjOk P w H' h' a (.dK kvs):=⟨z,hd,vs,rel,dd⟩
theorem As6 {H':Hp}{Q:Unit->aaI->Prop}(hu:A.units+1<cLine)(I:Inv X p_ σ H s)(g:DPut H a y v H')(ry:RelV y u)(rv:RelV v r)(h:∀s',Inv X p_ σ H' s'->Q () s') :
 abM (model X.prog X.w) A (setItem (.ref a) u r) Q E s:=by
 rcases g with ⟨kvs,k,e,ey,l,eH⟩ | ⟨kvs,k,b,e,ey,eb,l,eH⟩
 ·subst ey eH;obtain⟨z,hd,vs,rel,dd⟩:=Bbd I.hok e;have hz:vs.length<=abB:=by rw[<-rel.length];exact z
  have hl:(Aeq kvs k v).length<=abB:=by have:=Acu kvs k v;lia
  refine wpAny_setItem_pairs (hsz:=hz) (Aop ry) dd fun h' dd' hs=>h _ ?_;have he:∃q,h'.get? a=some q:=let ⟨q,_,_,hq,_⟩:=dd';⟨q,hq⟩;exact Amn I (by rw[e];exact ahO) hs he (Avu hl hd (rel.put k rv) dd')
 ·subst ey eH;cases (show u=aaR b from ry);obtain⟨z,hd,xs,rel,dd⟩:=Bd9 I.hok e;have hz:xs.length<=abB:=by rw[<-ajU rel];exact z
  have hl:(Aeq kvs k v).length<=abB:=by have:=Acu kvs k v;lia
  refine wpAny_setItem_heap (hsz:=hz) (tupleKind_room_in1 hu) (Aks I.hok eb) dd fun h' dd' hs=>h _ ?_;obtain⟨q,es,ep,hq,h2,h3,h4,_,h5⟩:=dd';refine Amn I (by rw[e];exact ahO) hs ⟨q,hq⟩ ⟨hl,hd,_,(rel.put k eb rv).keeps fun c ys ec=>?_,q,es,ep,hq,h2,h3,h4,h5⟩;rw[Aa5 (Ac2 ec e (fun z=>nomatch z))];exact ec
end
section
variable {X:Cx}{p_:List (Addr×Obj)}{σ:St}{H:Hp}{s:aaI}{a:Addr}{kvs:List (Key×V)}{k:Key}{u:aaF}{A:adE}{E:aaF->aaI->Prop}
theorem Bda {Q:aaF->aaI->Prop}(I:Inv X p_ σ H s)(e:Rd H a (.dK kvs))(h:∀t s',Inv X p_ σ H s'->Q (.int kvs.length t) s'):abM (model X.prog X.w) A (call (.builtin "len") [.ref a]) Q E s:=by
 obtain⟨z,hd,vs,rel,dd⟩:=Ap3 I.hok e;refine call_len_dict hd dd (by rw[<-rel.length];rw[sizeLine_eq]at z;lia) ?_;rw[<-rel.length];exact h _ _ (I.tok _)
end
def Bdv (i:adX):Prop:=∀ov iv,subscripted i false ov iv=operate [ov,iv] (getItem ov iv)
theorem Awb {prog:abS}{w:adI}{A:adE}{E:aaF->aaI->Prop}{s:aaI}{env:Env}{value slice:adX}{pos:Pos}{T id:String}{Q:aaF->aaI->Prop}
 (hl:typeLookup (.type T) "__getitem__" = pure (some (.builtin id))) (hs:Bdv slice)
 (h:abM (model prog w) A (eval value env) (fun o s₁=>abM (model prog w) A (eval slice env) (fun i s₂=>s₂.TypeIs o T/\abM (model prog w) A (getItem o i) Q E s₂) E s₁) E s) :
 abM (model prog w) A (eval (.Subscript value slice pos) env) Q E s:=by
 refine Subscript_ (aeE h (fun o s₁ h₁=>aeE h₁ (fun i s₂ h₂=>?_) fun _ _ x=>x) fun _ _ x=>x);obtain⟨hT,h₂⟩:=h₂;unfold subscriptTail;refine aaC ?_;rw[getitemInPython_of_ne hT.not_modules];refine aaC (wpAny_specialOf hT hl ?_);have fin:abM (model prog w) A (subscripted slice false o i) (fun r s₃=>abM (model prog w) A (letTemporaryGo value o r >>= fun _=>pure r) Q E s₃) E s₂:=by
  rw[hs o i];exact wpAny_operating (aeE h₂ (fun r s₃ h₃=>aaC (wpAny_letTemporaryGo (aaL h₃))) fun _ _ x=>x)
 first
  | exact aaL (aaC fin)
  | exact aaC (aaL (aaC fin))
  | exact aaC fin
theorem Amj {X:Cx}{p_:List (Addr×Obj)}{σ:St}{H:Hp}{s:aaI}{a:Addr}{y:V}{o:Option V}(I:Inv X p_ σ H s)(g:DGet H a y o):s.TypeIs (.ref a) "dict":=by
 rcases g with ⟨kvs,k,e,_,_⟩ | ⟨kvs,k,b,e,_,_,_⟩
 ·obtain⟨_,_,vs,_,dd⟩:=Ap3 I.hok e;exact dd.typeIs
 ·obtain⟨_,_,xs,_,dd⟩:=As2 I.hok e;exact dd.typeIs
def Bc4 (td ty:TE):TE:=fun σ H Q=>td σ H fun x H1=>ty σ H1 fun y H2=>∃a v,x=.ref a/\DGet H2 a y (some v)/\Q v H2
def Be2 (ty td:TE):TE:=fun σ H Q=>ty σ H fun y H1=>td σ H1 fun x H2=>∃a o,x=.ref a/\DGet H2 a y o/\Q (.bl o.isSome) H2
def Awa (ty td:TE):TE:=fun σ H Q=>ty σ H fun y H1=>td σ H1 fun x H2=>∃a o,x=.ref a/\DGet H2 a y o/\Q (.bl (!o.isSome)) H2
def Bci (td ty tv:TE):TS:=fun D σ H=>tv σ H fun v H1=>td σ H1 fun x H2=>ty σ H2 fun y H3=>∃a H4,x=.ref a/\DPut H3 a y v H4/\D.nx σ H4
section
variable {X:Cx}{o i e value:adX}{pos pos' tpos:Pos}{td ty tv:TE}
theorem Alx (hu:X.A.units+1<cLine)(ho:PE X o td)(hi:PE X i ty)(hs:Bdv i):PE X (.Subscript o i pos) (Bc4 td ty):=by
 intro p_ s σ H Q I h;refine Awb PySem.F.slot_dict_getitem.lookup hs (thn (ho p_ s σ H _ I h) fun u s1 ⟨x,H1,I1,rx,q1⟩=>thn (hi p_ s1 σ H1 _ I1 q1) fun iv s2 ⟨y,H2,I2,ry,a,v,ex,g,q2⟩=>?_);subst ex;obtain rfl:u=aaR a:=rx;exact⟨Amj I2 g,As7 hu I2 g ry fun w' s3 I3 rw'=>⟨v,H2,I3,rw',q2⟩⟩
theorem Ba6 (hu:X.A.units+1<cLine)(hi:PE X i ty)(ho:PE X o td):PC X .In i o (Be2 ty td):=by
 intro p_ s σ H Q I h;refine thn (hi p_ s σ H _ I h) fun iv s1 ⟨y,H1,I1,ry,q1⟩=>thn (ho p_ s1 σ H1 _ I1 q1) fun u s2 ⟨x,H2,I2,rx,a,ov,ex,g,q2⟩=>?_;subst ex;obtain rfl:u=aaR a:=rx;exact Bey hu I2 g ry fun s3 I3=>⟨.bl ov.isSome,H2,I3,rfl,q2⟩
theorem Ada (hu:X.A.units+1<cLine)(hi:PE X i ty)(ho:PE X o td):PC X .NotIn i o (Awa ty td):=by
 intro p_ s σ H Q I h;refine thn (hi p_ s σ H _ I h) fun iv s1 ⟨y,H1,I1,ry,q1⟩=>thn (ho p_ s1 σ H1 _ I1 q1) fun u s2 ⟨x,H2,I2,rx,a,ov,ex,g,q2⟩=>?_;subst ex;obtain rfl:u=aaR a:=rx;exact Ay7 hu I2 g ry fun s3 I3=>⟨.bl (!ov.isSome),H2,I3,rfl,q2⟩
theorem Ad8 (hu:X.A.units+1<cLine)(ho:PE X o td)(hi:PE X i ty)(hv:PE X value tv)(hs:ajB value (some (.Subscript o i pos')) pos.line X.env=pure false) :
 PS X (.Assign [.Subscript o i pos'] value pos) (Bci td ty tv):=by
 intro p_ s σ H D I h;refine wpAny_Assign_Subscript (thn (hv p_ s σ H _ I h) fun r s1 ⟨v,H1,I1,rv,q1⟩=>thn (ho p_ s1 σ H1 _ I1 q1) fun u s2 ⟨x,H2,I2,rx,q2⟩=>thn (hi p_ s2 σ H2 _ I2 q2) fun iv s3 ⟨y,H3,I3,ry,a,H4,ex,g,q3⟩=>?_) hs;subst ex;obtain rfl:u=aaR a:=rx;exact As6 hu I3 g ry rv fun s4 I4=>⟨σ,H4,I4,q3⟩
end
theorem Anv {P:abS}{w:adI}{H:Hp}(h:Heap)(hb:sysModules<h.objs.size):ObjOk P w H (h.push { cls:=.type "dict",data:=.dict #[] }) h.objs.size (.dK []) :=
 ⟨abO _,beq_eq_false_iff_ne.mpr (acU (acJ hb)),[],.nil,Heap.DictOf.new h⟩
theorem Aun {P:abS}{w:adI}{H:Hp}(h:Heap)(hb:sysModules<h.objs.size):ObjOk P w H (h.push { cls:=.type "dict",data:=.dict #[] }) h.objs.size (.dT []) :=
 ⟨abO _,beq_eq_false_iff_ne.mpr (acU (acJ hb)),[],.nil,_,#[],0,aaO _ rfl,⟨rfl,rfl,rfl⟩,rfl,rfl,List.nodup_nil⟩
def Azc:TE:=fun _ H Q=>∀p,H p=none->Q (.ref p) (upd H p (.dK []))
def Azb:TE:=fun _ H Q=>∀p,H p=none->Q (.ref p) (upd H p (.dT []))
section
variable {X:Cx}{pos:Pos}
theorem Ati:PE X (.Dict [] [] pos) Azc:=fun p_ s σ H Q I h =>
 wpAny_Dict_empty ⟨.ref s.heap.objs.size,_,I.laid (a:=s.heap.objs.size) (o:=.dK []) (t':=s.toks) (fun _ _ q=>aaD _ q) (aaK _) (Anv s.heap I.big),rfl,h _ (I.hok.fresh (aaK _))⟩
theorem Aee:PE X (.Dict [] [] pos) Azb:=fun p_ s σ H Q I h =>
 wpAny_Dict_empty ⟨.ref s.heap.objs.size,_,I.laid (a:=s.heap.objs.size) (o:=.dT []) (t':=s.toks) (fun _ _ q=>aaD _ q) (aaK _) (Aun s.heap I.big),rfl,h _ (I.hok.fresh (aaK _))⟩
end
def Apn:List (TE×TE)->St->Hp->(List (V×V)->Hp->Prop)->Prop
 | [],_,H,Q=>Q [] H
 | (tk,tv)::r,σ,H,Q=>tk σ H fun x H1=>tv σ H1 fun y H2=>Apn r σ H2 fun ps H3=>Q ((x,y)::ps) H3
abbrev VV:List (V×V)->List (aaF×aaF)->Prop:=Paired fun p q=>RelV p.1 q.1/\RelV p.2 q.2
def PPs (X:Cx)(pos:Pos)(keys:List (Option adX))(values:List adX)(trs:List (TE×TE)):Prop :=
 ∀(p_:List (Addr×Obj)) (s:aaI) (σ:St) (H:Hp) (Q:List (V×V)->Hp->Prop),Inv X p_ σ H s->Apn trs σ H Q->
  abM (model X.prog X.w) X.A (evalPairs (pairTrees keys values X.env pos)) (fun vs s'=>∃ps H',Inv X p_ σ H' s'/\VV ps vs/\Q ps H') X.xe s
theorem Ax0 {X:Cx}{pos:Pos}:PPs X pos [] [] []:=fun p_ s σ H Q I h=>pairTrees_nil_walk ⟨[],H,I,.nil,h⟩
theorem Atc {X:Cx}{pos:Pos}{k v:adX}{ks:List (Option adX)}{vs:List adX}{tk tv:TE}{trs:List (TE×TE)}(hk:PE X k tk)(hv:PE X v tv)(hr:PPs X pos ks vs trs) :
 PPs X pos (some k::ks) (v::vs) ((tk,tv)::trs):=fun p_ s σ H Q I h =>
 pairTrees_cons_walk (thn (hk p_ s σ H _ I h) fun u s1 ⟨x,H1,I1,rx,q1⟩=>thn (hv p_ s1 σ H1 _ I1 q1) fun w2 s2 ⟨y,H2,I2,ry,q2⟩ =>
  thn (hr p_ s2 σ H2 _ I2 q2) fun ws s3 ⟨ps,H3,I3,rel,q3⟩=>⟨(x,y)::ps,H3,I3,.cons ⟨rx,ry⟩ rel,q3⟩)
def Ai9 (kvs more:List (Key×V)):List (Key×V):=more.foldl (fun acc kv=>Aeq acc kv.1 kv.2) kvs
theorem KV.merge:∀{more:List (Key×V)} {rs:List (Key×aaF)} {kvs:List (Key×V)} {vs:List (Key×aaF)},KV more rs->KV kvs vs->KV (Ai9 kvs more) (merged vs rs):=by
 intro more rs kvs vs r;unfold KV at r
 induction r generalizing kvs vs with
 | nil=>intro q;exact q
 | @cons p q ps qs h t ih =>
  intro r0;have e:KV (Aeq kvs p.1 p.2) (stored vs q.1 q.2):=by
   have:=r0.put p.1 h.2;rw[<-h.1];exact this
  exact ih e
theorem Aem:∀(more kvs:List (Key×V)),(Ai9 kvs more).length<=kvs.length+more.length
 | [],kvs=>by show kvs.length<=kvs.length+0;lia
 | p::r,kvs=>by
  have h1:=Aem r (Aeq kvs p.1 p.2);have h2:=Acu kvs p.1 p.2;show(Ai9 (Aeq kvs p.1 p.2) r).length<=_;rw[aaZ];lia
theorem Aih {P:abS}{w:adI}:∀{kvs:List (Key×V)} {ws:List (aaF×aaF)},VV (kvs.map fun kv=>(kV kv.1,kv.2)) ws->∃rs,Carries (Abg P w) ws rs/\KV kvs rs
 | [],_,r=>by rw[agM]at r;cases r;exact⟨[],ahO,.nil⟩
 | p::kvs,_,r=>by
  rw[abE]at r;cases r with
  | @cons a b as bs h t =>
   obtain⟨rs,c,q⟩:=Aih (P:=P) (w:=w) t;obtain⟨b1,b2⟩:=b;exact⟨(p.1,b2)::rs,⟨Aop h.1,rfl,c⟩,.cons ⟨rfl,h.2⟩ q⟩
def Bc3 (trs:List (TE×TE)):TE:=fun σ H Q=>∀p,H p=none->Apn trs σ (upd H p (.dK [])) fun ps H2=>H2 p=some (.dK [])/\∃kvs:List (Key×V),ps=kvs.map (fun kv=>(kV kv.1,kv.2))/\kvs.length<=15/\Q (.ref p) (upd H2 p (.dK (Ai9 [] kvs)))
theorem Ax2 {X:Cx}{pos:Pos}{keys:List (Option adX)}{values:List adX}{trs:List (TE×TE)}(h:PPs X pos keys values trs)(hall:keys.all (·.isSome)=true)(hl:keys.length=values.length)(h0:keys≠[])
 (h15:keys.length<=15):PE X (.Dict keys values pos) (Bc3 trs):=by
 intro p_ s σ H Q I q;have hn:=I.hok.fresh (aaK s.heap.objs.size);have I1:=I.laid (a:=s.heap.objs.size) (o:=.dK []) (h':=s.heap.push { cls:=.type "dict",data:=.dict #[] }) (t':=s.toks) (fun _ _ q=>aaD _ q) (aaK _) (Anv s.heap I.big);refine wpAny_Dict_walk (knd:=Abg X.prog X.w) hall hl h0 h15 (thn (h p_ _ σ _ _ I1 (q _ hn)) fun ws s2 ⟨ps,H2,I2,rel,e,kvs,ep,lk,q2⟩=>?_)
 subst ep;obtain⟨rs,c,rk⟩:=Aih (P:=X.prog) (w:=X.w) rel;obtain⟨z,hd,vs0,r0,dd⟩:=Bbd I2.hok e;cases r0;refine⟨rs,c,dd,fun h' dd' hs=>⟨.ref s.heap.objs.size,_,?_,rfl,q2⟩⟩;have hz:(Ai9 [] kvs).length<=abB:=by
  have h1:=Aem kvs [];rw[adO]at h1;rw[sizeLine_eq];lia
 have he:∃q,h'.get? s.heap.objs.size=some q:=let ⟨q,_,_,hq,_⟩:=dd';⟨q,hq⟩;exact Amn I2 (by rw[e];exact ahO) hs he (Avu hz hd (rk.merge .nil) dd')
section
variable {X:Cx}{p_:List (Addr×Obj)}{σ:St}{H:Hp}{s:aaI}{a:Addr}{y d:V}{u r:aaF}{o:Option V}{A:adE}{E:aaF->aaI->Prop}
end
section
variable {X:Cx}{o e f:adX}{apos cpos:Pos}{td ty tx:TE}
end
section
variable {X:Cx}{p_:List (Addr×Obj)}{σ:St}{H:Hp}{s:aaI}{a:Addr}{kvs:List (Key×V)}{A:adE}{E:aaF->aaI->Prop}
end
section
variable {X:Cx}{p_:List (Addr×Obj)}{σ:St}{H:Hp}{s:aaI}{a:Addr}{y:V}{u:aaF}{A:adE}{E:aaF->aaI->Prop}
end
section
variable {prog:abS}{w:adI}{A:adE}{E:aaF->aaI->Prop}
end
section
variable {X:Cx}
end
section
variable {X:Cx}{p_:List (Addr×Obj)}{σ:St}{H:Hp}{s:aaI}{h':Heap}
theorem Inv.turnedL {t':Nat}{ch:List Addr}(I:Inv X p_ σ H s)(k:∀b o,b∉ch->s.heap.get? b=some o->h'.get? b=some o)(hf:∀b∈ch,FpOk X p_ H b):Inv X p_ σ H { s with heap:=h',toks:=t' }:=by
 have nit:∀b u,H b=some u->b∉ch:=fun b u e z=>by
  have q:=(hf b z).1;rw[q]at e;cases e
 refine I.step (g':=s.gens) (d':=s.drawn) (ch:=ch) (fun b hb=>⟨(hf b hb).2.2.2.1,(hf b hb).2.1,(hf b hb).2.2.2.2.1,(hf b hb).2.2.2.2.2⟩) (fun b o _ _ hc e _=>k b o hc e) (fun b o _ _ hc e _=>⟨o.slots,k b o hc e⟩)
  (fun _ _ _ _ n=>n) (fun b o hc e=>⟨o,k b o hc e⟩) (fun _ _ e=>e) (fun _ _ _ e=>e) (fun b ps e=>⟨#[],by rw[e];simp⟩) (fun m hm=>?_) (fun b u e=>?_) I.bare
 ·obtain⟨o,es,ep,ho,r⟩:=hm;exact⟨o,es,ep,k _ o (fun z=>(hf _ z).2.1 rfl) ho,r⟩
 ·refine(I.hok b u e).stay (fun c v hc q=>k c v ?_ q) (fun _ q=>q) fun _ _ q=>q;rcases hc with z | z
  ·rw[z];exact nit b u e
  ·exact nit c _ z
theorem Inv.turnedNew {t':Nat}{ch:List Addr}{T:Addr}{ob:HO}(I:Inv X p_ σ H s)(k:∀b o,b∉ch->s.heap.get? b=some o->h'.get? b=some o)(hf:∀b∈ch,FpOk X p_ H b)(hT:s.heap.objs.size<=T)
 (new:ObjOk X.prog X.w (upd H T ob) h' T ob):Inv X p_ σ (upd H T ob) { s with heap:=h',toks:=t' }:=by
 have hn:H T=none:=I.hok.fresh hT;have nit:∀b u,H b=some u->b∉ch:=fun b u e z=>by
  have q:=(hf b z).1;rw[q]at e;cases e
 refine I.step (g':=s.gens) (d':=s.drawn) (ch:=ch) (fun b hb=>⟨(hf b hb).2.2.2.1,(hf b hb).2.1,(hf b hb).2.2.2.2.1,(hf b hb).2.2.2.2.2⟩) (fun b o _ _ hc e _=>k b o hc e) (fun b o _ _ hc e _=>⟨o.slots,k b o hc e⟩)
  (fun b o _ e n=>?_) (fun b o hc e=>⟨o,k b o hc e⟩) (fun b xs e=>?_) (fun b o u e=>?_) (fun b ps e=>⟨#[],?_⟩) (fun m hm=>?_) (fun b u e=>?_) I.bare
 ·rw[Aa5 (acJ (abV (aaS e) hT))];exact n
 ·rw[Aa5 (Aa8 e hn)];exact e
 ·rw[Aa5 (Aa8 e hn)];exact e
 ·rw[Aa5 (Aa8 e hn),e];simp
 ·obtain⟨o,es,ep,ho,r⟩:=hm;exact⟨o,es,ep,k _ o (fun z=>(hf _ z).2.1 rfl) ho,r⟩
 ·by_cases hb:b=T
  ·subst hb;rw[Aa1]at e;cases e;exact new
  ·rw[Aa5 hb]at e;refine(I.hok b u e).stay (fun c v hc q=>k c v ?_ q) (fun c q=>by rw[Aa5 (Aa8 q hn)];exact q) fun c xs q=>by rw[Aa5 (Aa8 q hn)];exact q
   rcases hc with z | z
   ·rw[z];exact nit b u e
   ·exact nit c _ z
end
section
variable {X:Cx}
end
section
variable {X:Cx}{tg:adX}
end
section
variable {X:Cx}{tg:adX}
end
section
variable {prog:abS}{w:adI}{A:adE}{E:aaF->aaI->Prop}{s:aaI}
theorem Ark {d:Addr}{o:Obj}{es:Array DictEntry}{ep:Nat}{Q:aaF->aaI->Prop}(hd:(d==sysModules)=false)(ho:s.heap.get? d=some o)(hc:o.ExactDict)(hdat:o.data=.dict es ep)
 (hQ:Q (.ref s.heap.objs.size) { s with heap:=s.heap.push { cls:=.type "dict_keyiterator",data:=.fields #[.ref d,.int 0 0,.int es.size 0,.int ep 0] } }) :
 abM (model prog w) A (pyIter (.ref d)) Q E s:=by
 have hT:s.TypeIs (.ref d) "dict":=⟨o,ho,hc.1⟩
 refine wpAny_pyIter_slot hT F.slot_dict_iter (wpAny_call_entry F.slot_dict_iter hT F.entry_dict_iter ?_ (F.args_dict_iter_1 _));unfold Builtin.«dict.__iter__»;refine aaC ?_;unfold Builtin.Dict.dictSlotNone;refine aaC (wpAny_notOrdered_dict hT ?_);show abM _ _ (pure (aaR d)) _ _ s;refine aaL ?_;show abM _ _ (akW d >>= _) _ _ s;unfold akW
 rw[ifn (by rw[hd];exact abG)];refine aaC (aaL ?_);refine aaC (wpAny_dictEntries ho hdat ?_);refine aaC (wpAny_dictEpoch ho hdat ?_);refine aaC (wpAny_newObj_type (aaL ⟨_,rfl,"dict_keyiterator",_,⟨_,aaO _ rfl,rfl⟩,adR.lookup,?_⟩));simpa [rawInt] using hQ
theorem Aja {it d:Addr}{i n ep:Nat}{od:Obj}{es:Array DictEntry}{en:DictEntry}{Q:Option aaF->aaI->Prop}(hit:s.heap.IsKeyIter it d i n ep)(hod:s.heap.get? d=some od)(hdd:od.data=.dict es ep)
 (hsz:es.size=n) (hx:es[i]?=some en) (hQ:∀h',h'.IsKeyIter it d (i+1) n ep->aiA it s.heap h'->Q (some en.key) { s with heap:=h' }):abM (model prog w) A (pyNext (.ref it)) Q E s:=by
 obtain⟨o,ho,hc,hd⟩:=id hit;unfold pyNext
 refine aaC (wpAny_attempt (wpAny_callSpecial?_slot (name:=aaY "__next__") hit.typeIs adR
  (wpAny_call_entry adR hit.typeIs amA ?_ (alP _))))
 refine aaC (aaL ?_);refine aaC ?_;refine aaC ?_
 first | refine aaC (wpAny_typeNameOfWhole_keyiter hit.typeIs (aaL ?_)) | refine aaC (wpAny_typeNameOf_keyiter hit.typeIs (aaL ?_))
 refine aaC (wpAny_fieldsOf ho hd ?_);have hown:aiX "dict_keyiterator" = false:=by decide
 simp only[hown,aeV,if_false];show abM _ _ (if (aaR d==afE)=true then _ else _) _ _ s;rw[ifn (show ¬((aaR d==afE)=true)from abG)];refine aaC (aaL ?_);refine aaC (wpAny_dictEntries hod hdd ?_);rw[ifn (by rw[hsz];simp)];refine aaC (aaL ?_);refine aaC (wpAny_dictEpoch hod hdd ?_);rw[ifn (by simp)];refine aaL ?_
 obtain⟨hlt',hen⟩:=Array.getElem?_eq_some_iff.mp hx;simp only[show ¬((i:Int)<0)from by lia,if_false,afH,aeZ hlt'];refine aaC ?_
 first | refine aaC (wpAny_typeNameOfWhole_keyiter hit.typeIs (aaL ?_)) | refine aaC (wpAny_typeNameOf_keyiter hit.typeIs (aaL ?_))
 refine aaC (wpAny_isOneOf_keyiter hit.typeIs ?_);show abM _ _ (setField (.ref it) 1 (rawInt ((i:Int)+1)) >>= _) _ _ s;refine aaC (wpAny_setField ho hd (by simp) ?_);have hit':(s.heap.update it (Obj.mapFields (·.setIfInBounds 1 (rawInt ((i:Int)+1))))).IsKeyIter it d (i+1) n ep :=
  ⟨_,anL _ ho (anT (aiB hd _)),(Obj.cls_mapFields ..).trans hc,by rw[aiB hd];simp[rawInt]⟩
 refine aaC (wpAny_holding ?_);refine aaC (wpAny_isOneOf_keyiter (s:={ s with heap:=s.heap.update it (Obj.mapFields (·.setIfInBounds 1 (rawInt ((i:Int)+1)))) }) hit'.typeIs ?_);show abM _ _ (pure es[i].key) _ _ _;rw[hen];exact aaL (aaL ⟨_,rfl,aaL (hQ _ hit' (adU ..))⟩)
theorem Akq {it d:Addr}{i n ep:Nat}{od:Obj}{es:Array DictEntry}{Q:Option aaF->aaI->Prop}(hh:A.handled=none)(hit:s.heap.IsKeyIter it d i n ep)(hod:s.heap.get? d=some od)(hdd:od.data=.dict es ep)
 (hsz:es.size=n) (hge:n<=i) (hQ:∀h',alO it s.heap h'->Q none { s with heap:=h' }):abM (model prog w) A (pyNext (.ref it)) Q E s:=by
 obtain⟨o,ho,hc,hd⟩:=id hit;unfold pyNext
 refine aaC (wpAny_attempt (wpAny_callSpecial?_slot (name:=aaY "__next__") hit.typeIs adR
  (wpAny_call_entry adR hit.typeIs amA ?_ (alP _))))
 refine aaC (aaL ?_);refine aaC ?_;refine aaC ?_
 first | refine aaC (wpAny_typeNameOfWhole_keyiter hit.typeIs (aaL ?_)) | refine aaC (wpAny_typeNameOf_keyiter hit.typeIs (aaL ?_))
 refine aaC (wpAny_fieldsOf ho hd ?_);have hown:aiX "dict_keyiterator" = false:=by decide
 simp only[hown,aeV,if_false];show abM _ _ (if (aaR d==afE)=true then _ else _) _ _ s;rw[ifn (show ¬((aaR d==afE)=true)from abG)];refine aaC (aaL ?_);refine aaC (wpAny_dictEntries hod hdd ?_);rw[ifn (by rw[hsz];simp)];refine aaC (aaL ?_);refine aaC (wpAny_dictEpoch hod hdd ?_);rw[ifn (by simp)];refine aaL ?_
 have hge':es.size<=i:=by rw[hsz];exact hge
 simp only[show ¬((i:Int)<0)from by lia,if_false,afH,aiY hge'];refine aaC ?_
 first | refine aaC (wpAny_typeNameOfWhole_keyiter hit.typeIs (aaL ?_)) | refine aaC (wpAny_typeNameOf_keyiter hit.typeIs (aaL ?_))
 show abM _ _ (setField (.ref it) 0 .none >>= _) _ _ s;refine aaC (wpAny_setField ho hd (by simp) ?_);show abM _ _ (newExc (.type "StopIteration") [] >>= _) _ _ _;refine aaC ?_;simp only[newExc,newTuple];refine aaC (wpAny_newObj_type ?_ (by size_fits));refine aaC (m:=firstArgMember _ _) (wpAny_of_eq (a:=afE) (by first | rfl | (simp only[firstArgMember];rfl)) ?_)
 refine wpAny_newObj_type ?_ (by size_fits);simp only[raiseNew];refine aaC (wpAny_handled ?_);rw[show A.in1.handled=none from hh];refine aaC (aaL (wpAny_throw ?_));refine aaC (wpAny_isInstance (T:="StopIteration") (b:=true) ⟨_,aaO _ rfl,rfl⟩ isSubtype_stop ?_);exact aaL (hQ _ (((adU ..).extBut.push _).push _))
end
section
variable {X:Cx}{p_:List (Addr×Obj)}{σ:St}{H:Hp}{s:aaI}{d:Addr}{o:Obj}
end
section
variable {P:abS}{w:adI}{K:abA}{tg:adX}{d:Addr}{o:Obj}{es:Array DictEntry}{ep:Nat}
end
section
variable {X:Cx}{tg e:adX}{td:TE}{apos cpos:Pos}
end
def Ite (K:abA)(a:Addr):It :=
 ⟨fun i H=>∃(xs:List V) (x:V),SqL K H a xs/\xs[i]?=some x,fun i H v H'=>∃T x,v=.ref T/\H T=none/\H'=upd H T (.tup [.int (i:Nat),x])/\∀xs,SqL K H a xs->xs[i]?=some x,fun i H=>∃xs:List V,SqL K H a xs/\xs.length<=i⟩
theorem Apj {P:abS}{w:adI}{K:abA}{elts:List adX}{kk:Nat}{tpos:Pos}(a e it:Addr) :
 Ayt P w K (.Tuple elts kk tpos) (Ite K a) [e,it] e (fun i h=>(∃old,IsEnum h e it ((i:Nat):Int) old)/\h.IsListIter it a i/\e≠it) where
 mem:=by simp
 obj:=fun i h st b hb=>by
  obtain⟨⟨old,he⟩,⟨o,ho,hc,hd⟩,_⟩:=st;have e':b=e\/b=it:=by simpa using hb
  rcases e' with z | z
  ·rw[z];exact⟨_,he,fun v q=>nomatch q⟩
  ·rw[z];exact⟨o,ho,fun v q=>by rw[hd]at q;cases q⟩
 keep:=fun i h h' st k=>let ⟨⟨old,he⟩,hi,hne⟩:=st;⟨⟨old,k e (by simp) _ he⟩,hi.at fun o q=>k it (by simp) o q,hne⟩
 item:=by
  intro X hP hw hK hc i p_ s σ H E I hf st hg;subst hP hw hK;obtain⟨⟨old,he⟩,hit,hne⟩:=st;obtain⟨xs,x,hq,hx⟩:=hg;obtain⟨its,rv,p,hz⟩:=I.list hq;obtain⟨u,hu,ru⟩:=rv.get hx;have hel:e<s.heap.objs.size:=aaS he;have hil:it<s.heap.objs.size:=by obtain⟨_,q,_⟩:=hit;exact aaS q
  refine wpAny_pyNext_enum_item he hit p.isList (x:=u) (by simpa using hu) hne fun h' ho hit' hT hsz hk=>?_;refine⟨_,rfl,wpAny_letOwnedTupleGo_enum (s:={ s with heap:=h',toks:=s.toks+1 }) ho fun h'' he' sb=>?_⟩;have hT2:h''.get? s.heap.objs.size=some { cls:=.type "tuple",data:=.seq #[.int i s.toks,u] }:=(sb.2 _ (ahF hel)).trans hT;have new:ObjOk X.prog X.w (upd H s.heap.objs.size (.tup [.int (i:Nat),x])) h'' s.heap.objs.size (.tup [.int (i:Nat),x]) :=
   ⟨by show 2<=abB;decide,[.int i s.toks,u],.cons ⟨_,rfl⟩ (.cons ru .nil),⟨_,hT2,rfl,_,rfl⟩⟩
  have I1:Inv X p_ σ (upd H s.heap.objs.size (.tup [.int (i:Nat),x])) { s with heap:=h'',toks:=s.toks+1 } :=
   I.turnedNew (ch:=[e,it]) (fun b ob hb q=>(sb.2 b (fun z=>hb (by simp[z]))).trans (hk b ob (fun z=>hb (by simp[z])) (fun z=>hb (by simp[z])) q)) hf (aaK _) new
  refine⟨.ref s.heap.objs.size,_,I1,rfl,⟨_,x,rfl,I.hok.fresh (aaK _),rfl,fun ys hy=>by rw[I.list_inj hy hq];exact hx⟩,⟨⟨u,?_⟩,hit'.at fun o q=>(sb.2 it (acU hne)).trans q,hne⟩,fun b hb=>?_⟩
  ·have e1:((i+1:Nat):Int)=(i:Int)+1:=by lia
   rw[e1];exact he'
  ·have hb':b<s.heap.objs.size:=by
    have e':b=e\/b=it:=by simpa using hb
    rcases e' with z | z
    ·rw[z];exact hel
    ·rw[z];exact hil
   rw[Aa5 (acJ hb')];exact(hf b hb).1
 done:=by
  intro X hP hw hK hc i p_ s σ H E I hf st hg;subst hP hw hK;obtain⟨⟨old,he⟩,hit,hne⟩:=st;obtain⟨xs,hq,hx⟩:=hg;obtain⟨its,rv,p,hz⟩:=I.list hq;obtain⟨f0,f1,f2,f3,f4,f5⟩:=hf it (by simp);have hl:=rv.length;exact wpAny_pyNext_enum_end (I.ok.hd hc) he hit p.isList (by simp;lia) fun h' eb=>⟨rfl,I.turned (t':=s.toks) (fun b o hb q=>eb b o hb q) f0 f1 f3 f4 f5⟩
 self:=fun A i s Q E st h=>let ⟨⟨_,he⟩,_⟩:=st;wpAny_pyIter_enum he h
def Bd6 (K:abA)(ta:TA):TI:=fun σ H R=>ta σ H fun vs H1=>∃a xs,vs=[.ref a]/\SqL K H1 a xs/\R (Ite K a) H1
theorem Ac0 {X:Cx}{e:adX}{ta:TA}{p pos tpos:Pos}{elts:List adX}{kk:Nat}(hg:Gl X "enumerate")(hm:X.mg "enumerate" = none)(ha:PA X [e] ta)(hs:abL [e] X.env=[(false,eval e X.env)]:=by rfl) :
 PI X (.Tuple elts kk tpos) (.Call (.Name "enumerate" p) [e] [] pos) (Bd6 X.K ta):=by
 intro p_ s σ H R I h;refine Call_ (Agk I hg hm boot_enumerate (aeH (thn (ha pos p_ s σ H _ I h) fun us s1 ⟨vs,H1,I1,r1,q1⟩=>?_) hs rfl));obtain⟨a,xs,ex,hq,q⟩:=q1;subst ex;cases r1 with
 | cons r rr =>
  cases rr;cases r;obtain⟨its,rv,p',hz⟩:=I1.list hq;refine call_enumerate_list p'.isList fun h' he hit hsz hk=>wpAny_pyIter_enum he ?_;have I2:Inv X p_ σ H1 { s1 with heap:=h' }:=I1.kept (t':=s1.toks) hk;refine⟨s1.heap.objs.size+1,[s1.heap.objs.size+1,s1.heap.objs.size],_,_,H1,rfl,I2,Apj a (s1.heap.objs.size+1) s1.heap.objs.size,⟨⟨.none,he⟩,hit,Nat.succ_ne_self _⟩,fun b hb=>?_,q⟩;have e':b=s1.heap.objs.size+1\/b=s1.heap.objs.size:=by simpa using hb
  have hle:s1.heap.objs.size<=b:=by
   rcases e' with z | z
   ·rw[z];exact Nat.le_add_right _ _
   ·rw[z];exact aaK _
  exact I1.fpOk hle (I1.hok.fresh hle)
theorem Asd:ahN "zip" = some (.type "zip"):=by decide +kernel
end L2
section
namespace Bits
open PySem PyProof.Rows
end Bits
end
section
namespace TL
open PySem PySem.Builtin PySem.Builtin.Str PySem.StrLaws
end TL
end
namespace L2
open PySem PySem.Spec PyProof.Rows
section
variable {X:Cx}{p_:List (Addr×Obj)}{σ:St}{H:Hp}{s:aaI}{Q:VK}
end
section
variable {X:Cx}
end
section
variable {X:Cx}{o e:adX}{to te:TE}
end
section
variable {X:Cx}
end
end L2
namespace Att
open PySem PySem.W PySem.Calls PyProof.Rows
section
variable {prog:abS}{w:adI}{A:adE}{E:aaF->aaI->Prop}{s:aaI}{K:Frag}
end
end Att
namespace L2
open PySem PySem.Spec PyProof.Rows
end L2
namespace L2
open PySem PySem.Spec PyProof.Rows
def Agt (s:afD)(j:Nat):afD:=match s with
 | .ClassDef _ _ _ body _ _ _ _ _ _ _=>body.getD j (.Pass ⟨0,0,0,0⟩)
 | _=>.Pass ⟨0,0,0,0⟩
def Ach (s:afD):aiH:=match s with
 | .FunctionDef _ a _ _ _ _ _ _ _ _=>a
 | _=>{ posonlyargs:=[],args:=[],vararg:=none,kwonlyargs:=[],kw_defaults:=[],kwarg:=none,defaults:=[] }
def Abp (s:afD):List afD:=match s with
 | .FunctionDef _ _ b _ _ _ _ _ _ _=>b
 | _=>[]
def Aa6 (s:afD):Scope:=match s with
 | .FunctionDef _ _ _ _ _ _ sc _ _ _=>sc
 | _=>{ kind:=.function,names:=[],isGenerator:=false,isCoroutine:=false }
abbrev CX0:CXT:=fun _ _ _ _ _ _=>False
abbrev E0:XK:=fun _ _ _=>False
theorem Abm {X:Cx}:Ah9 CX0 X E0:=fun _ _ _ _ _ _ _ h=>h.elim
structure Fun (K:abA)(x qual:Str)(st:afD)(f:Addr)(fd:aaX):Prop where
 ex:∃(oc:aaF) (od:Option Addr) (kV doc pm:aaF) (an:Option Addr) (cdv ct:aaF) (osl:Array (Option aaF)),
  fd=akC x qual (Ach st) (Abp st) (Aa6 st) .none kV doc pm an cdv ct/\K.lookup f=some ⟨oc,od,.func fd,osl⟩/\akQ K cdv qual=true
 kp:agE K (.ref f)=true
variable {P:abS}{w:adI}{K:abA}{mg:Str->Option aaF}{base:Heap}
theorem Fun.ok {x qual:Str}{st:afD}{f:Addr}{fd:aaX}{N ps:List Str}{k:Nat}{sp:Sp}(F:Fun K x qual st f fd)(S:Aaa N ps (Aa6 st))(len:∀vs H Q E,sp vs H Q E->vs.length=ps.length)
 (hbody:∀(cdv:aaF) (A:adE) (outer:List Env) (s:aaI) (H:Hp) (vs:List V) (Q:VK) (E:XK),Room k (A.deeper (envOfC qual (Aa6 st) s.heap.objs.size f cdv))->sp vs H Q E->
  ∃t,PSs (Avw CX0 P w K mg base N qual (Aa6 st) f cdv A outer s H E).nox (Abp st) t/\t { nx:=fun _ H'=>Q .non H',rt:=Q } (start N vs) H):FnOk P w K mg base CX0 (k+1) f fd ps sp:=by
 obtain⟨oc,od,kV,doc,pm,an,cdv,ct,osl,rfl,lk,hcd⟩:=F.ex;refine Bbb lk hcd S len fun A outer s H vs Q E hr hsp=>?_;obtain⟨t,h,q⟩:=hbody cdv A outer s H vs Q E hr hsp;exact⟨t,h.nox,q⟩
theorem Fun.binds {x qual:Str}{st:afD}{f:Addr}{fd:aaX}{ps:List Str}(F:Fun K x qual st f fd)
 (h:∀(kV doc pm:aaF) (an:Option Addr) (cdv ct:aaF) (us:List aaF),us.length=ps.length->bindArgs (akC x qual (Ach st) (Abp st) (Aa6 st) .none kV doc pm an cdv ct) ⟨us,[]⟩=pure (ps.zip us)):Binds K fd ps []:=by
 obtain⟨oc,od,kV,doc,pm,an,cdv,ct,osl,rfl,lk,hcd⟩:=F.ex;exact .all (h kV doc pm an cdv ct)
theorem Agx {x qual:Str}{st:afD}{f:Addr}{oc:aaF}{od an:Option Addr}{osl:Array (Option aaF)}{kV doc pm cdv ct:aaF}(l:K.lookup f=some ⟨oc,od,.func (akC x qual (Ach st) (Abp st) (Aa6 st) .none kV doc pm an cdv ct),osl⟩)
 (c:akQ K cdv qual=true) (k:agE K (.ref f)=true):Fun K x qual st f (akC x qual (Ach st) (Abp st) (Aa6 st) .none kV doc pm an cdv ct):=⟨⟨oc,od,kV,doc,pm,an,cdv,ct,osl,rfl,l,c⟩,k⟩
theorem Agv {A:adE}{k:Nat}(hr:Room k A):A.units+1<cLine:=abY (Nat.add_le_add_left (by decide:1<=64) _) hr.units
section
variable {X:Cx}
theorem pv (i:Nat){x:Str}{pos:Pos}(hN:X.N[i]?=some x:=by rfl)(hv:Vis X.env.scope x:=by first | exact akZ rfl | exact anD (akZ rfl) | exact anD (anD rfl))(hd:(x==("__debug__" : Str))=false:=by decide)
 (hcd:(x==("__classdict__" : Str))=false:=by decide):PE X (.Name x pos) (Abv i):=Avf hN hv hd hcd
theorem Asc:Afb X (.builtin "len") (fun xs H Q=>∃a kvs,xs=[V.ref a]/\H a=some (.dK kvs)/\Q (.int kvs.length) H):=by
 intro p_ s σ H xs us Q I r h;obtain⟨a,kvs,rfl,ha,q⟩:=h;obtain⟨u,rfl,ru⟩:=Ahd r;cases ru;exact Bda I (.inl ha) fun t s' I'=>⟨.int kvs.length,H,I',⟨t,rfl⟩,q⟩
end
theorem Ali {A B:Prop}(h:B):if false=true then A else B:=by
 rw[ifn abG];exact h
theorem Arl {A B:Prop}(h:A):if true=true then A else B:=by
 rw[ifp rfl];exact h
theorem Abj {c A B:Prop}[Decidable c](h1:c->A)(h2:¬c->B):if c then A else B:=by
 by_cases h:c
 ·rw[ifp h];exact h1 h
 ·rw[ifn h];exact h2 h
def Same (H H':Hp):Prop:=∀b o,H b=some o->H' b=some o
theorem Same.refl (H:Hp):Same H H:=fun _ _ h=>h
theorem Same.trans {H H1 H2:Hp}(a:Same H H1)(b:Same H1 H2):Same H H2:=fun c o h=>b c o (a c o h)
theorem Same.free {H H':Hp}(e:Same H H'){l:Addr}(h:H' l=ajM):H l=ajM:=by
 cases q:H l with
 | none=>rfl
 | some o =>
  rw[e l o q]at h;cases h
theorem Same.seq {K:abA}{H H':Hp}{a:Addr}{xs:List V}(e:Same H H')(h:SqL K H a xs):SqL K H' a xs:=by
 rcases h with (h | ⟨o,h⟩) | h
 ·exact .inl (.inl (e _ _ h))
 ·exact .inl (.inr ⟨o,e _ _ h⟩)
 ·exact .inr h
section
variable {κ:Type}[DecidableEq κ]
theorem Aw6 {kvs:List (κ×V)}{k:κ}{v:V}(h:Ac8 kvs k=some v):k∈kvs.map (·.1):=by
 have q:(kvs.any fun kv=>decide (kv.1=k))=true:=by
  rw[Acq,h]
  all_goals rfl
 obtain⟨p,hp,e⟩:=aeJ.mp q;exact aaN.mpr ⟨p,hp,of_decide_eq_true e⟩
theorem Am3:∀{l:List κ} {k:κ},l.Nodup->¬k∈l->(l++[k]).Nodup
 | [],k,_,_=>by simp
 | a::r,k,h,hk=>by
  obtain⟨h1,h2⟩:=abR.mp h;show(a::(r++[k])).Nodup;refine abR.mpr ⟨fun m=>?_,Am3 h2 fun m=>hk (aaG.mpr (anD m))⟩;rcases abH.mp m with q | q
  ·exact h1 q
  ·exact hk (aaG.mpr (akZ (abF.mp q).symm))
end
theorem Alg {xs:List V}{z:Int}{j:Nat}{v:V}(e:z=(j:Int))(h:xs[j]?=some v):atI xs z=some v:=by
 rw[e];exact Ae6 h
theorem Au1 {α:Type}{l:List α}(hN:l.Nodup){i j:Nat}{x:α}(a:l[i]?=some x)(b:l[j]?=some x):i=j:=by
 obtain⟨h1,e1⟩:=aaB.mp a;obtain⟨h2,e2⟩:=aaB.mp b;exact(aiS hN).mp (e1.trans e2.symm)
theorem Same.made {H H1:Hp}{x dx C:Addr}(nx:H x=ajM)(nd:H dx=ajM)(k:∀b o,(upd (upd H dx (.own x)) x (.ins C dx [])) b=some o->b≠x->H1 b=some o):Same H H1:=fun b o e =>
 k b o (by rw[Aa5 (Aa8 e nx),Aa5 (Aa8 e nd)];exact e) (Aa8 e nx)
end L2
end
section
namespace H3
open PySem PyProof.Rows
def lexGt:List Int->List Int->Bool
 | [],[]=>false
 | [],_::_=>false
 | _::_,[]=>true
 | x::xs,y::ys=>if x=y then lexGt xs ys else decide (x>y)
theorem lexGt_cons (x y:Int)(xs ys:List Int):lexGt (x::xs) (y::ys)=if x=y then lexGt xs ys else decide (x>y):=rfl
theorem lexGt_nil_nil:lexGt [] []=false:=rfl
theorem Ahg (y:Int)(ys:List Int):lexGt [] (y::ys)=false:=rfl
theorem Ahh (x:Int)(xs:List Int):lexGt (x::xs) []=true:=rfl
theorem Ata (A:adE)(s:aaI)(a:Int)(t:Tok)(c:Int)(u:Tok)(prog:abS)(w:adI)(E:aaF->aaI->Prop)(Q:aaF->aaI->Prop)(h:Q (.bool (decide (a>c))) s) :
 abM (model prog w) A (richCompare .Gt (.int a t) (.int c u)) Q E s :=
 (PyProof.Rows.gt_int h:abM (model prog w) A (compareOp .Gt (.int a t) (.int c u)) Q E s)
section
open PySem.SeqAt
open PySem.AutoSeq1 (wpAny_loadPart')
open PySem.MeetsSeq PySem.MeetsSeq2 PySem.MeetsSeq3
theorem Aio (l b:Addr)(items items2:Array aaF)(n n2:Nat)(dd dd2:Option Addr)(sl sl2:Array (Option aaF))(ns ms:List Int)(hi:IntsAre items.toList ns)(hj:IntsAre items2.toList ms) :
 Meets (Builtin.«tuple.__gt__» ⟨[.ref l,.ref b],[]⟩)
  (fun _ R s=>s.heap.get? l=some { cls:=.type "tuple",dict:=dd,data:=.seq items n,slots:=sl }/\s.heap.get? b=some { cls:=.type "tuple",dict:=dd2,data:=.seq items2 n2,slots:=sl2 }/\
   R (.ok (.ret (.bool (lexGt ns ms)))) s) :=
 .of_wp fun prog w A R s h=>by
  obtain⟨hp,g,d,tk,os⟩:=s;obtain⟨hl,hb,h⟩:=h;have f2:=alG;have z1:items.size=ns.length:=by rw[<-hi.length];simp
  have z2:items2.size=ms.length:=by rw[<-hj.length];simp
  wp_walk using wpAny_loadPart' hl,wpAny_loadPart' hb,wpAny_forIn_list _ (fun rest b s'=>b.1=none/\s'=⟨hp,g,d,tk,os⟩/\∃(vs ws:List aaF) (ns' ms':List Int),rest=vs.zip ws/\
   IntsAre vs ns'/\IntsAre ws ms'/\ns'.length+items2.size=ms'.length+items.size/\R (.ok (.ret (.bool (lexGt ns' ms')))) ⟨hp,g,d,tk,os⟩) _
  case turn =>
   rintro⟨y,x⟩ rest b s' ⟨hb',rfl,vs,ws,ns',ms',hz,hvi,hwi,hlen,hR⟩;cases hvi with
   | nil=>rw[akL]at hz;cases hz
   | cons a t hvi' =>
    cases hwi with
    | nil=>rw[akF]at hz;cases hz
    | cons c u hwi' =>
     rw[aeF]at hz;injection hz with hyx hrest
     injection hyx with hy hx
     subst hy hx;rw[lexGt_cons]at hR;simp only[aaZ]at hlen;obtain⟨e,he,hiff⟩:=HT.eqAt_int A.in1 ⟨hp,g,d,tk,os⟩ a t c u;refine aaC (he prog w _ _ ?_);cases e with
     | true =>
      rw[ifp (hiff.mp rfl)]at hR
      wp_walk
      exact⟨rfl,rfl,_,_,_,_,hrest,hvi',hwi',by lia,hR⟩
     | false =>
      rw[ifn (fun q=>absurd (hiff.mpr q) abG)]at hR;have hri:=Ata A.in1 ⟨hp,g,d,tk,os⟩ a t c u prog w
      wp_walk using hri
      exact⟨_,rfl,by simpa using hR⟩
  case fin =>
   rintro⟨b1,b2⟩ s' ⟨hb',rfl,vs,ws,ns',ms',hz,hvi,hwi,hlen,hR⟩;simp only at hb';subst hb';have hv:lexGt ns' ms'=decide (items.size>items2.size):=by
    cases hvi with
    | nil =>
     cases hwi with
     | nil =>
      simp only[adO]at hlen;rw[lexGt_nil_nil];exact(dff (by lia)).symm
     | cons c u hw =>
      simp only[adO,aaZ]at hlen;rw[Ahg];exact(dff (by lia)).symm
    | cons a t hv =>
     cases hwi with
     | nil =>
      simp only[adO,aaZ]at hlen;rw[Ahh];exact(dft (by lia)).symm
     | cons c u hw =>
      rw[aeF]at hz;cases hz
   rw[hv]at hR
   wp_walk
   exact⟨_,rfl,by simpa [ajE] using hR⟩
  case h =>
   exact⟨rfl,rfl,items.toList,items2.toList,ns,ms,rfl,hi,hj,by lia,h⟩
end
section
variable {prog:abS}{w:adI}{A:adE}{E:aaF->aaI->Prop}{s:aaI}
theorem gt_tupInts {l b:Addr}{items items2:Array aaF}{ns ms:List Int}{Q:aaF->aaI->Prop}(hl:IsTup s.heap l items)(hb:IsTup s.heap b items2)(hi:IntsAre items.toList ns)(hj:IntsAre items2.toList ms)
 (hu:A.units<cLine) (h:Q (.bool (lexGt ns ms)) s):abM (model prog w) A (compareOp .Gt (.ref l) (.ref b)) Q E s:=by
 obtain⟨⟨cls,dd,data,sl⟩,ho,hc,n,hd⟩:=id hl;obtain⟨⟨cls2,dd2,data2,sl2⟩,ho2,hc2,n2,hd2⟩:=id hb;simp only at hc hd hc2 hd2;subst hc hd hc2 hd2;exact richCompare_meets_room (op:=.Gt) ⟨_,ho,rfl⟩ ⟨_,ho2,rfl⟩ PySem.F.slot_tuple_gt PySem.F.entry_tuple_gt (PySem.F.args_tuple_gt_2 _ _) (Aio l b items items2 n n2 dd dd2 sl sl2 ns ms hi hj)
  ⟨ho,ho2,show amC (lexGt ns ms)≠anJ/\Q (.bool (lexGt ns ms)) s from⟨(fun x=>nomatch x),h⟩⟩ hu
end
def lexLe:List Int->List Int->Bool
 | [],[]=>true
 | [],_::_=>true
 | _::_,[]=>false
 | x::xs,y::ys=>if x=y then lexLe xs ys else decide (x<=y)
theorem lexLe_cons (x y:Int)(xs ys:List Int):lexLe (x::xs) (y::ys)=if x=y then lexLe xs ys else decide (x<=y):=rfl
theorem lexLe_nil_nil:lexLe [] []=true:=rfl
theorem Ahe (y:Int)(ys:List Int):lexLe [] (y::ys)=true:=rfl
theorem Ahf (x:Int)(xs:List Int):lexLe (x::xs) []=false:=rfl
theorem At9 (A:adE)(s:aaI)(a:Int)(t:Tok)(c:Int)(u:Tok)(prog:abS)(w:adI)(E:aaF->aaI->Prop)(Q:aaF->aaI->Prop)(h:Q (.bool (decide (a<=c))) s) :
 abM (model prog w) A (richCompare .LtE (.int a t) (.int c u)) Q E s :=
 (PyProof.Rows.le_int h:abM (model prog w) A (compareOp .LtE (.int a t) (.int c u)) Q E s)
section
open PySem.SeqAt
open PySem.AutoSeq1 (wpAny_loadPart')
open PySem.MeetsSeq PySem.MeetsSeq2 PySem.MeetsSeq3
theorem Ain (l b:Addr)(items items2:Array aaF)(n n2:Nat)(dd dd2:Option Addr)(sl sl2:Array (Option aaF))(ns ms:List Int)(hi:IntsAre items.toList ns)(hj:IntsAre items2.toList ms) :
 Meets (Builtin.«tuple.__le__» ⟨[.ref l,.ref b],[]⟩)
  (fun _ R s=>s.heap.get? l=some { cls:=.type "tuple",dict:=dd,data:=.seq items n,slots:=sl }/\s.heap.get? b=some { cls:=.type "tuple",dict:=dd2,data:=.seq items2 n2,slots:=sl2 }/\
   R (.ok (.ret (.bool (lexLe ns ms)))) s) :=
 .of_wp fun prog w A R s h=>by
  obtain⟨hp,g,d,tk,os⟩:=s;obtain⟨hl,hb,h⟩:=h;have f2:=alG;have z1:items.size=ns.length:=by rw[<-hi.length];simp
  have z2:items2.size=ms.length:=by rw[<-hj.length];simp
  wp_walk using wpAny_loadPart' hl,wpAny_loadPart' hb,wpAny_forIn_list _ (fun rest b s'=>b.1=none/\s'=⟨hp,g,d,tk,os⟩/\∃(vs ws:List aaF) (ns' ms':List Int),rest=vs.zip ws/\
   IntsAre vs ns'/\IntsAre ws ms'/\ns'.length+items2.size=ms'.length+items.size/\R (.ok (.ret (.bool (lexLe ns' ms')))) ⟨hp,g,d,tk,os⟩) _
  case turn =>
   rintro⟨y,x⟩ rest b s' ⟨hb',rfl,vs,ws,ns',ms',hz,hvi,hwi,hlen,hR⟩;cases hvi with
   | nil=>rw[akL]at hz;cases hz
   | cons a t hvi' =>
    cases hwi with
    | nil=>rw[akF]at hz;cases hz
    | cons c u hwi' =>
     rw[aeF]at hz;injection hz with hyx hrest
     injection hyx with hy hx
     subst hy hx;rw[lexLe_cons]at hR;simp only[aaZ]at hlen;obtain⟨e,he,hiff⟩:=HT.eqAt_int A.in1 ⟨hp,g,d,tk,os⟩ a t c u;refine aaC (he prog w _ _ ?_);cases e with
     | true =>
      rw[ifp (hiff.mp rfl)]at hR
      wp_walk
      exact⟨rfl,rfl,_,_,_,_,hrest,hvi',hwi',by lia,hR⟩
     | false =>
      rw[ifn (fun q=>absurd (hiff.mpr q) abG)]at hR;have hri:=At9 A.in1 ⟨hp,g,d,tk,os⟩ a t c u prog w
      wp_walk using hri
      exact⟨_,rfl,by simpa using hR⟩
  case fin =>
   rintro⟨b1,b2⟩ s' ⟨hb',rfl,vs,ws,ns',ms',hz,hvi,hwi,hlen,hR⟩;simp only at hb';subst hb';have hv:lexLe ns' ms'=decide (items.size<=items2.size):=by
    cases hvi with
    | nil =>
     cases hwi with
     | nil =>
      simp only[adO]at hlen;rw[lexLe_nil_nil];exact(dft (by lia)).symm
     | cons c u hw =>
      simp only[adO,aaZ]at hlen;rw[Ahe];exact(dft (by lia)).symm
    | cons a t hv =>
     cases hwi with
     | nil =>
      simp only[adO,aaZ]at hlen;rw[Ahf];exact(dff (by lia)).symm
     | cons c u hw =>
      rw[aeF]at hz;cases hz
   rw[hv]at hR
   wp_walk
   exact⟨_,rfl,by simpa [ajE] using hR⟩
  case h =>
   exact⟨rfl,rfl,items.toList,items2.toList,ns,ms,rfl,hi,hj,by lia,h⟩
end
section
variable {prog:abS}{w:adI}{A:adE}{E:aaF->aaI->Prop}{s:aaI}
theorem le_tupInts {l b:Addr}{items items2:Array aaF}{ns ms:List Int}{Q:aaF->aaI->Prop}(hl:IsTup s.heap l items)(hb:IsTup s.heap b items2)(hi:IntsAre items.toList ns)(hj:IntsAre items2.toList ms)
 (hu:A.units<cLine) (h:Q (.bool (lexLe ns ms)) s):abM (model prog w) A (compareOp .LtE (.ref l) (.ref b)) Q E s:=by
 obtain⟨⟨cls,dd,data,sl⟩,ho,hc,n,hd⟩:=id hl;obtain⟨⟨cls2,dd2,data2,sl2⟩,ho2,hc2,n2,hd2⟩:=id hb;simp only at hc hd hc2 hd2;subst hc hd hc2 hd2;exact richCompare_meets_room (op:=.LtE) ⟨_,ho,rfl⟩ ⟨_,ho2,rfl⟩ PySem.F.slot_tuple_le PySem.F.entry_tuple_le (PySem.F.args_tuple_le_2 _ _) (Ain l b items items2 n n2 dd dd2 sl sl2 ns ms hi hj)
  ⟨ho,ho2,show amC (lexLe ns ms)≠anJ/\Q (.bool (lexLe ns ms)) s from⟨(fun x=>nomatch x),h⟩⟩ hu
end
end H3
namespace L2
open PySem PySem.Spec PyProof.Rows
def Bek (K:abA):R2:=fun x y H Q=>∃a b ns ms,x=.ref a/\y=.ref b/\SqT K H a (ns.map V.int)/\SqT K H b (ms.map V.int)/\Q (.bl (H3.lexGt ns ms)) H
theorem Bac {X:Cx}(hu:X.A.units<cLine):OpR X (compareOp .Gt) (Bek X.K):=by
 intro p_ s σ H x y v u Q I rx ry h;obtain⟨a,b,ns,ms,rfl,rfl,ha,hb,q⟩:=h;cases rx;cases ry;obtain⟨its,r1,p1,_⟩:=I.tuple ha;obtain⟨its2,r2,p2,_⟩:=I.tuple hb;have i1:IntsAre its.toArray.toList ns:=Aby r1;have i2:IntsAre its2.toArray.toList ms:=Aby r2;exact H3.gt_tupInts p1 p2 i1 i2 hu ⟨.bl (H3.lexGt ns ms),H,I,rfl,q⟩
def Bej (K:abA):R2:=fun x y H Q=>∃a b ns ms,x=.ref a/\y=.ref b/\SqT K H a (ns.map V.int)/\SqT K H b (ms.map V.int)/\Q (.bl (H3.lexLe ns ms)) H
theorem Bab {X:Cx}(hu:X.A.units<cLine):OpR X (compareOp .LtE) (Bej X.K):=by
 intro p_ s σ H x y v u Q I rx ry h;obtain⟨a,b,ns,ms,rfl,rfl,ha,hb,q⟩:=h;cases rx;cases ry;obtain⟨its,r1,p1,_⟩:=I.tuple ha;obtain⟨its2,r2,p2,_⟩:=I.tuple hb;have i1:IntsAre its.toArray.toList ns:=Aby r1;have i2:IntsAre its2.toArray.toList ms:=Aby r2;exact H3.le_tupInts p1 p2 i1 i2 hu ⟨.bl (H3.lexLe ns ms),H,I,rfl,q⟩
end L2
end
section
namespace L2
open PySem PySem.Spec PyProof.Rows
theorem Ac6 {X:Cx}(hc:X.calm=true):Afb X (.builtin "sum") (fun xs H Q=>∃(p:Addr) (ns:List Int) (m:Int),xs=[.ref p]/\SqT X.K H p (ns.map V.int)/\ns.sum=m/\Q (.int m) H):=by
 intro p_ s σ H xs us Q I r h;obtain⟨p,ns,m,rfl,hq,hm,q⟩:=h;obtain⟨u,rfl,rx⟩:=Ahd r;cases rx;obtain⟨its,r',pl,hz⟩:=I.tuple hq;have hi:IntsAre its ns:=Aby r';obtain⟨ys,hx⟩:=hi.allInts.items;have hn:numsOf its.toArray.toList=ns:=by rw[show its.toArray.toList=its from rfl,hi.numsOf]
 have pl':s.heap.IsTuple p (intItems ys):=by rw[<-hx];exact pl
 rw[hx]at hn;rw[nums_intItems]at hn;refine W.ktm_sumG (I.ok.hd hc) pl' fun h' tk t' hk=>?_;refine⟨.int m,H,I.kept hk,⟨t',?_⟩,q⟩;rw[preSum_eq,aeP (by simp),hn,hm]
end L2
end
section
set_option maxHeartbeats 4000000
namespace PyProof.Rows.G
open PySem PySem.W L2
theorem Amv {prog:abS}{w:adI}{d:Addr}{es:Array DictEntry}{ep:Nat}(lo:(d==sysModules)=false) :
 KdlSrc prog w "dict" d d es.size (fun i v=>∃en,es[i]?=some en/\v=en.key) (fun h=>∃o,h.get? d=some o/\o.ExactDict/\o.data=.dict es ep) where
 type:=fun s ⟨o,ho,hc,_⟩=>⟨o,ho,hc.1⟩
 there:=fun h ⟨o,ho,_⟩=>⟨aaS ho,aaS ho⟩
 keep:=fun h h' ⟨o,ho,r⟩ hk=>⟨o,hk d (.inl rfl) o ho,r⟩
 notList:=by decide
 notTuple:=by decide
 hint:=fun _ _ s _ ⟨o,ho,hc,_⟩ hq=>kdl_hint_dict ⟨o,ho,hc.1⟩ hq
 iter:=fun A s hh ⟨o,ho,hc,hd⟩=>by
  have hne:d≠s.heap.objs.size:=acJ (aaS ho);refine⟨{ cls:=.type "dict_keyiterator",data:=.fields #[.ref d,.int 0 0,.int es.size 0,.int ep 0] },fun i h=>h.IsKeyIter s.heap.objs.size d i es.size ep/\∃o,h.get? d=some o/\o.ExactDict/\o.data=.dict es ep,(fun _ _ hq=>Ark lo ho hc hd hq),?_,⟨⟨_,aaO _ rfl,rfl,rfl⟩,o,aaD _ ho,hc,hd⟩⟩
  exact {
   sub:=fun b hb=>by simp at hb;simp[hb]
   frame:=fun _ _ _ st hk=>⟨st.1.at fun o e=>hk _ (by simp) o e,let ⟨o,ho,r⟩:=st.2;⟨o,hk d (by simp) o ho,r⟩⟩
   item:=fun i s2 Q E hi st hQ=>by
    obtain⟨st1,o2,ho2,hc2,hd2⟩:=st;obtain⟨en,hen⟩ : ∃en,es[i]?=some en:=⟨es[i],by simp[hi]⟩
    refine Aja st1 ho2 hd2 rfl hen fun h' st' sb=>?_;exact hQ en.key h' s2.toks ⟨en,hen,rfl⟩ ⟨st',o2,(sb.2 d hne).trans ho2,hc2,hd2⟩ fun b ob hb e=>(sb.2 b (fun z=>hb (by simp[z]))).trans e
   done:=fun s2 Q E st hQ=>by
    obtain⟨st1,o2,ho2,hc2,hd2⟩:=st;exact Akq hh st1 ho2 hd2 rfl (aaK _) fun h' he'=>hQ h' s2.toks fun b ob hb e=>he' b ob (fun z=>hb (by simp[z])) e
   self:=fun _ s2 _ _ st h=>by
    refine wpAny_pyIter_slot st.1.typeIs amL (wpAny_call_entry amL st.1.typeIs F.entry_dict_keyiterator_iter ?_ (F.args_dict_keyiterator_iter_1 _));show abM _ _ (ret (.ref _)) _ _ s2
    exact aaL ⟨_,rfl,"dict_keyiterator",_,st.1.typeIs,adR.lookup,h⟩ }
section
variable {prog:abS}{w:adI}{A:adE}{E:aaF->aaI->Prop}{s:aaI}
theorem Ah3 {T:String}{r d:Addr}{n:Nat}{P:Nat->aaF->Prop}{OK:Heap->Prop}{R:List aaF->aaI->Prop}(K:KdlSrc prog w T r d n P OK)(hh:A.handled=none)(hok:OK s.heap)(hn:n<=abB)
 (h:∀(h':Heap) (tk:Nat) (acc:Array aaF),(∀b o,s.heap.get? b=some o->h'.get? b=some o)->ItemsOf P acc n->s.heap.objs.size<=h'.objs.size->R acc.toList { s with heap:=h',toks:=tk }):abM (model prog w) A (collect (.ref r)) R E s:=by
 obtain⟨lr,ld⟩:=K.there _ hok;have fin:∀(h':Heap) (tk:Nat) (acc:Array aaF) (c:Nat),(∀b o,s.heap.get? b=some o->h'.get? b=some o)->h'.get? s.heap.objs.size=some { cls:=.type "list",dict:=none,data:=.seq acc c,slots:=#[] }->ItemsOf P acc n->
  abM (model prog w) A (load s.heap.objs.size >>= fun o=>match o.data with | .seq xs _=>pure xs.toList | _=>unsupported "internal:collect") R E { s with heap:=h',toks:=tk }:=fun h' tk acc c hk hS ha=>aaC (wpAny_load hS (aaL (h h' tk acc hk ha (aeW (aaS hS)))))
 have e0:(s.heap.push { cls:=.type "list",data:=.seq ([]:List aaF).toArray }).get? s.heap.objs.size=some { cls:=.type "list",data:=.seq #[] }:=aaO _ rfl;have ext:=kdl_extend (A:=A) (s:={ s with heap:=s.heap.push { cls:=.type "list",data:=.seq ([]:List aaF).toArray } }) (res:=.ref s.heap.objs.size) (c₀:=0) (S:=s.heap.objs.size)
  (R:=fun q s'=>∃(h':Heap) (tk:Nat) (acc:Array aaF) (c:Nat),q=.ok (.ret (.ref s.heap.objs.size))/\s'={ s with heap:=h',toks:=tk }/\(∀b o,s.heap.get? b=some o->h'.get? b=some o)/\h'.get? s.heap.objs.size=some { cls:=.type "list",dict:=none,data:=.seq acc c,slots:=#[] }/\ItemsOf P acc n)
  K hh (K.keep _ _ hok fun b _ o e=>aaD _ e) (hSr:=ahF lr) (hSd:=ahF ld) (hS:=e0) (hR:=fun h' tk acc c hk hS ha=>⟨h',tk,acc,c,rfl,rfl,fun b o e=>hk b o (acJ (aaS e)) (aaD _ e),hS,ha⟩) (hn:=hn)
 unfold collect;refine aaC (wpAny_runValue (codeAny_builtin entry_proto_collect' ?_));rw[anG PySem.F.plain_proto_collect _];show abM _ A.in1 (newList [] >>= fun l=>again (.builtin "list.__iadd__" ⟨[l,aaR r],[]⟩)) _ _ s;refine aaC (wpAny_newObj_type (aaL ⟨plainId_quiet alU _,codeAny_builtin entry_list_iadd' ?_⟩));rw[anG alU _]
 refine aeE ext (fun fn s' x=>?_) (fun e s' x=>by obtain⟨_,_,_,_,e',_⟩:=x;cases e');cases fn with
 | done f=>obtain⟨h',tk,acc,c,e,rfl,hk,hS,ha⟩:=x;cases e;exact fin h' tk acc c hk hS ha
 | again c1=>exact⟨x.1,agU x.2 fun q s2 y=>by obtain⟨h',tk,acc,c,rfl,rfl,hk,hS,ha⟩:=y;exact fin h' tk acc c hk hS ha⟩
theorem sortedHeap_keeps {h:Heap}{a:Addr}{vs:List aaF}{out:Array aaF}:(∀b o,b≠a->h.get? b=some o->(sortedHeap h a vs out).get? b=some o):=by
 intro b o hb e;unfold sortedHeap;rw[ahS _ _ _ _ hb];refine aaD _ (aaD _ ?_);rw[ahS _ _ _ _ hb];exact e
theorem sortedHeap_at {h:Heap}{a:Addr}{vs:List aaF}{out:Array aaF}{n:Nat}(ho:h.get? a=some (adF "list" vs.toArray n)):∃m,(sortedHeap h a vs out).get? a=some (adF "list" out m):=by
 unfold sortedHeap;have ha:a<h.objs.size:=aaS ho;obtain⟨e1,ho1⟩ : ∃e1,(h.update a (acZ fun _=>#[])).get? a=some (adF "list" #[] e1):=⟨_,get?_update_seq ho (fun _=>#[])⟩
 have ho2:=aaD (adF "list" #[] 0) (aaD (adF "tuple" vs.toArray 0) ho1);exact⟨_,get?_update_seq ho2 (fun _=>out)⟩
theorem Aoa {T:String}{r d:Addr}{n:Nat}{P:Nat->aaF->Prop}{OK:Heap->Prop}{shape:Nat->Bool}{vs fs:List aaF}{Q:aaF->aaI->Prop}(K:KdlSrc prog w T r d n P OK)(hh:A.handled=none)(hok:OK s.heap)(hn:n<=abB)
 (hP:∀acc:Array aaF,ItemsOf P acc n->acc.toList=vs) (ht:TupsOf s.heap shape vs fs) (hk:∀v,v∈vs->∃l,tupKeyC s.heap shape v=some l) (hL:vs.length<=abB)
 (h:∀(st':SortSt) (h':Heap) (tk m:Nat) (q:Addr),(arrOf st').Perm (pairsOf vs)->SortedToK (tupKindC s.heap shape) (arrOf st') (pairsOf vs).size->(∀b o,s.heap.get? b=some o->h'.get? b=some o)->s.heap.objs.size<=q->
  h'.get? q=some (adF "list" ((arrOf st').map (·.2)) m)->Q (.ref q) { s with heap:=h',toks:=tk }) :
 abM (model prog w) A (call (.builtin "sorted") [.ref r]) Q E s:=by
 refine Calls.call_function_entry kind_sorted plain_sorted entry_sorted (args_sorted1 _) ?_;unfold Builtin.«sorted»;refine aaC (m:=checkCount "sorted" 1 1 _) (aaL ?_);refine aaC (Ah3 (A:=A.in1) K hh hok hn fun h1 tk acc hk1 hacc le1=>?_);rw[hP acc hacc];refine aaC (wpAny_newList ?_ hL);have hoL:(h1.push (adF "list" vs.toArray 0)).get? h1.objs.size=some (adF "list" vs.toArray 0):=aaO _ rfl
 have k0:KeepsTups s.heap (h1.push (adF "list" vs.toArray 0)):=fun b o e _=>aaD _ (hk1 b o e);have k6:=k0.trans (keeps_sort6 (vs:=vs) hoL);show abM _ _ _ _ _ { s with heap:=h1.push (adF "list" vs.toArray 0),toks:=tk };refine aaC (wpAny_holding (wpAny_call_entry slot_list_sort ⟨_,hoL,rfl⟩ entry_list_sort (list_sort_treeG (κ:=tupKindC s.heap shape) (kd:=tuples' true) hoL (tupKeys hk) (tupC_ltAt true k6) ?keyG hL fun st' a1 a2 a3=>⟨_,rfl,?retG⟩) (args_list_sort _)))
 case keyG =>
  intro h2 R hq;exact tup_kind (by rw[amD ht];lia) (TupsOf.keep k6 ht) hq
 case retG =>
  refine aaL ⟨_,rfl,?_⟩;obtain⟨m,hm⟩:=sortedHeap_at (vs:=vs) (out:=(arrOf st').map (·.2)) hoL;exact h st' _ tk m _ a1 a2 (fun b o e=>sortedHeap_keeps b o (fun z=>by rw[z]at e;have:=aaS (hk1 _ _ e);exact absurd this (adZ _)) (aaD _ (hk1 b o e))) le1 hm
end
def ltI (a b:List Int):Bool:=lexLt itemOrd (a.map adD) (b.map adD)
theorem perm_map_inv {α β:Type}{f:α->β}{a b:List β}(p:a.Perm b):∀L:List α,b=L.map f->∃l:List α,l.Perm L/\a=l.map f:=by
 induction p with
 | nil =>
  intro L e;cases L with
  | nil=>exact⟨[],.nil,rfl⟩
  | cons x r=>cases e
 | cons x p ih =>
  intro L e;cases L with
  | nil=>cases e
  | cons y r =>
   injection e with e1 e2
   obtain⟨l,hl,q⟩:=ih r e2;exact⟨y::l,hl.cons y,by rw[abE,<-e1,q]⟩
 | swap x y l =>
  intro L e
  match L,e with
  | u::v::r,e =>
   injection e with e1 e2
   injection e2 with e2 e3
   exact⟨v::u::r,.swap u v r,by rw[abE,abE,<-e1,<-e2,<-e3]⟩
  | [u],e=>injection e with e1 e2;cases e2
 | trans p1 p2 ih1 ih2 =>
  intro L e;obtain⟨l2,h2,q2⟩:=ih2 L e;obtain⟨l1,h1,q1⟩:=ih1 l2 q2;exact⟨l1,h1.trans h2,q1⟩
abbrev Ahc:Nat->Bool:=fun _=>false
theorem Amz {h:Heap}{L:List (Addr×List Int)}(hL:∀p,p∈L->tupKeyC h Ahc (.ref p.1)=some (p.2.map adD)){arr:Array Keyed}(hp:arr.Perm (pairsOf (L.map fun p=>aaR p.1)))
 (hs:SortedToK (tupKindC h Ahc) arr (pairsOf (L.map fun p=>aaR p.1)).size):∃l:List (Addr×List Int),l.Perm L/\(arr.map (·.2)).toList=(l.map fun p=>aaR p.1)/\l.Pairwise (fun a b=>ltI b.2 a.2=false):=by
 have hp':arr.toList.Perm (L.map fun p=>((aaR p.1,aaR p.1):Keyed)):=by
  have:=alR.mp hp;rw[pairsOf_toList,List.zip_map',]at this;exact this
 obtain⟨l,pl,el⟩:=perm_map_inv hp' L rfl;refine⟨l,pl,by rw[Array.toList_map,el,acC];rfl,?_⟩;rw[afA];intro i j hi hj hij;have sz:(pairsOf (L.map fun p=>aaR p.1)).size=l.length:=by rw[pairsOf_size,aaA,pl.length_eq]
 have kk:∀(k:Nat) (hk:k<l.length),KK (tupKindC h Ahc) arr k=l[k].2.map adD:=fun k hk=>by
  have e:arr[k]?=some ((aaR l[k].1,aaR l[k].1):Keyed):=by
   rw[<-afU,el,aaH,aaE hk];rfl
  have hq:=hL l[k] (pl.mem_iff.mp (acX hk));unfold KK;rw[e];show(tupKeyC h Ahc (.ref l[k].1)).getD []=_;rw[hq];rfl
 have:=hs i j (aeW hij) (by rw[sz];exact hj);rw[kk i hi,kk j hj]at this;exact this
theorem Aia {i:Nat}:∀{its:List aaF} {ns:List Int},IntsAre its ns->tupItems Ahc i its=some (ns.map adD)
 | _,_,.nil=>rfl
 | _,_,.cons n t r=>by
  show(if Ahc i=true then none else(tupItems Ahc (i+1) _).map (adD n :: ·))=_;rw[ifn abG,Aia r];rfl
theorem Axt {h:Heap}{a:Addr}{its:List aaF}{ns:List Int}(ht:IsTup h a its.toArray)(hi:IntsAre its ns):tupKeyC h Ahc (.ref a)=some (ns.map adD):=by
 obtain⟨o,ho,hc,n,hd⟩:=ht;unfold tupKeyC;have e1:isTupObj h (.ref a)=true:=by simp[isTupObj,ho,hc]
 rw[ifp e1];simp only[tupKey,ho,hd];exact Aia hi
theorem Ao7 {h:Heap}{a:Addr}{its:List aaF}{n:Int}{ns:List Int}(ht:IsTup h a its.toArray)(hi:IntsAre its (n::ns)):∃f,TupOf h Ahc (.ref a) f:=by
 obtain⟨o,ho,hc,m,hd⟩:=ht;cases hi with
 | cons _ t r=>exact⟨.int n t,a,o,_,m,rfl,ho,hc,hd,rfl,fun _=>⟨n,t,rfl⟩,fun z=>by cases z⟩
theorem Ahv {h:Heap}:∀{vs:List aaF},(∀v,v∈vs->∃f,TupOf h Ahc v f)->∃fs,TupsOf h Ahc vs fs
 | [],_=>⟨[],.nil⟩
 | v::r,hv=>by
  obtain⟨f,hf⟩:=hv v (.head _);obtain⟨fs,hfs⟩:=Ahv fun u hu=>hv u (.tail _ hu);exact⟨f::fs,.cons hf hfs⟩
end PyProof.Rows.G
namespace L2
open PySem PySem.Spec PyProof.Rows PyProof.Rows.G
def Abr (H:Hp)(l:List (Addr×List Int)):Prop:=∀p,p∈l->H p.1=some (.tup (p.2.map V.int))/\p.2≠[]
section
variable {X:Cx}
theorem Af2 {p_:List (Addr×Obj)}{σ:St}{H:Hp}{s:aaI}(I:Inv X p_ σ H s){L:List (Addr×List Int)}(hL:Abr H L) :
 (∀p,p∈L->tupKeyC s.heap Ahc (.ref p.1)=some (p.2.map adD))/\∃fs,TupsOf s.heap Ahc (L.map fun p=>aaR p.1) fs:=by
 have key:∀p,p∈L->∃its:List aaF,IsTup s.heap p.1 its.toArray/\IntsAre its p.2:=fun p hp=>by
  obtain⟨hz,its,r,ht⟩ : ObjOk X.prog X.w H s.heap p.1 (.tup (p.2.map V.int)):=I.hok _ _ (hL p hp).1;exact⟨its,ht,Aby r⟩
 refine⟨fun p hp=>?_,Ahv fun v hv=>?_⟩
 ·obtain⟨its,ht,hi⟩:=key p hp;exact Axt ht hi
 ·obtain⟨p,hp,rfl⟩:=aaN.mp hv;obtain⟨its,ht,hi⟩:=key p hp;have ne:=(hL p hp).2;cases q:p.2 with
  | nil=>exact absurd q ne
  | cons n ns=>rw[q]at hi;exact Ao7 ht hi
theorem Ae7:∀l:List (Addr×List Int),Vals (l.map fun p=>V.ref p.1) (l.map fun p=>aaR p.1)
 | []=>.nil
 | p::r=>.cons rfl (Ae7 r)
theorem Aju (hc:X.calm=true):Afb X (.builtin "sorted") (fun xs H Q=>∃(d:Addr) (kvs:List (List Key×V)) (E:List (List Int)),xs=[.ref d]/\H d=some (.dT kvs)/\kvs.map (·.1)=E.map (·.map adD)/\(∀e,e∈E->e≠[])/\
 ∀(q:Addr) (l:List (Addr×List Int)),H q=none->(l.map (·.2)).Perm E->Abr H l->l.Pairwise (fun a b=>ltI b.2 a.2=false)->Q (.ref q) (upd H q (.lst (l.map fun p=>V.ref p.1)))):=by
 intro p_ s σ H xs us Q I r h;obtain⟨d,kvs,E,rfl,hd,hk,hne,q⟩:=h;obtain⟨u,rfl,rx⟩:=Ahd r;cases rx;obtain⟨hz,lo,ys,pr,o,es,ep,ho,hx,hdt,he,_⟩ : ObjOk X.prog X.w H s.heap d (.dT kvs):=I.hok _ _ hd;have key:∀{kvs:List (List Key×V)} {ys:List (List Key×Addr×aaF)} {E:List (List Int)},Paired (fun(p:List Key×V) (q:List Key×Addr×aaF)=>p.1=q.1/\H q.2.1=some (.tup (p.1.map kV))/\RelV p.2 q.2.2) kvs ys->kvs.map (·.1)=E.map (·.map adD)->(∀e,e∈E->e≠[])->
  ∃L:List (Addr×List Int),L.map (·.1)=ys.map (·.2.1)/\L.map (·.2)=E/\Abr H L:=by
  intro kvs ys E pr
  induction pr generalizing E with
  | nil =>
   intro e _;cases E with
   | nil=>exact⟨[],rfl,rfl,fun p hp=>by cases hp⟩
   | cons a b=>cases e
  | @cons p y ps qs hq t ih =>
   intro e hn;cases E with
   | nil=>cases e
   | cons a b =>
    injection e with e1 e2
    obtain⟨L,l1,l2,l3⟩:=ih e2 fun x hx=>hn x (.tail _ hx);refine⟨(y.2.1,a)::L,by rw[abE,abE,l1],by rw[abE,l2],fun z hz=>?_⟩;rcases aaG.mp hz with rfl | hz
    ·refine⟨?_,hn a (.head _)⟩;have:=hq.2.1;rw[show p.1=a.map adD from e1,acC]at this;exact this
    ·exact l3 z hz
 obtain⟨L,l1,l2,kL⟩:=key pr hk hne;obtain⟨hkey,fs,hts⟩:=Af2 I kL;have len:L.length=kvs.length:=by
  have a:=congrArg afK l2;have b:=congrArg afK hk;rw[aaA]at a b;rw[aaA]at b;lia
 have esz:es.size=kvs.length:=by
  have a:=congrArg afK l1;rw[aaA,aaA]at a;rw[size_of_entries he];lia
 refine Aoa (Amv (es:=es) (ep:=ep) lo) (I.ok.hd hc) ⟨o,ho,hx,hdt⟩ (by rw[esz];exact hz) (vs:=L.map fun p=>aaR p.1) (fun acc ha=>?_) hts (fun v hv=>?_) (by rw[aaA,len];exact hz) (fun st' h' tk m q' a1 a2 kp hle hq'=>?_)
 ·refine List.ext_getElem? fun i=>?_;rw[afU,aaH]
  by_cases hi:i<es.size
  ·obtain⟨v,hv⟩ : ∃v,acc[i]?=some v:=⟨acc[i]'(by rw[ha.1];exact hi),by simp[ha.1,hi]⟩
   obtain⟨en,hen,rfl⟩:=ha.2 i v hv;rw[entry_at he]at hen;cases hy:ys[i]? with
   | none=>rw[hy]at hen;cases hen
   | some y =>
    rw[hy]at hen;cases hen;have e3:(L.map (·.1))[i]?=some y.2.1:=by rw[l1,aaH,hy];rfl
    rw[aaH]at e3;cases hl:L[i]? with
    | none=>rw[hl]at e3;cases e3
    | some p =>
     rw[hl]at e3;rw[hv];show some (aaR y.2.1)=some (aaR p.1);rw[show p.1=y.2.1 from abD e3]
  ·rw[aiY (by rw[ha.1];lia),ajG (by lia)];rfl
 ·obtain⟨p,hp,rfl⟩:=aaN.mp hv;exact⟨_,hkey p hp⟩
 ·obtain⟨l,pl,el,pw⟩:=Amz hkey a1 a2;have kl:Abr H l:=fun p hp=>kL p (pl.mem_iff.mp hp);have ll:l.length<=abB:=by rw[pl.length_eq,len];exact hz
  have new:ObjOk X.prog X.w (upd H q' (.lst (l.map fun p=>V.ref p.1))) h' q' (.lst (l.map fun p=>V.ref p.1)):=by
   refine⟨by rw[aaA];exact ll,_,m,Ae7 l,?_⟩;rw[hq',<-el]
  exact⟨.ref q',_,I.laid (t':=tk) kp hle new,rfl,q q' l (I.hok.fresh hle) (by rw[<-l2];exact pl.map _) kl pw⟩
end
end L2
end
section
section
set_option maxHeartbeats 2000000
namespace L2
open PySem PySem.Spec PyProof.Rows
open PySem.W (WData Codec OpenSpec Well WellAll ReadsW ReadsAllW)
mutual
inductive Dw (K:abA)(H:Hp):V->WData->Prop
 | non:Dw K H .non .none
 | bl (b:Bool):Dw K H (.bl b) (.bool b)
 | int (i:Int):Dw K H (.int i) (.int i)
 | str (x:Str):Dw K H (.str x) (.str x)
 | byt (b:Array UInt8):Dw K H (.byt b) (.bytes b.toList)
 | lst {a:Addr} {xs:List V} {ds:List WData}:SqL K H a xs->DwAll K H xs ds->Dw K H (.ref a) (.list ds)
 | tup {a:Addr} {xs:List V} {ds:List WData}:SqT K H a xs->DwAll K H xs ds->Dw K H (.ref a) (.tuple ds)
inductive DwAll (K:abA)(H:Hp):List V->List WData->Prop
 | nil:DwAll K H [] []
 | cons {v:V} {vs:List V} {d:WData} {ds:List WData}:Dw K H v d->DwAll K H vs ds->DwAll K H (v::vs) (d::ds)
end
theorem dw_ints {K:abA}{H:Hp}:∀ns:List Int,DwAll K H (ns.map V.int) (ns.map WData.int)
 | []=>.nil
 | n::r=>.cons (.int n) (dw_ints r)
theorem ints_dw {K:abA}{H:Hp}:∀(ns:List Int) (xs:List V),DwAll K H xs (ns.map WData.int)->xs=ns.map V.int
 | [],xs,h=>by
  cases h;rfl
 | n::r,xs,h=>by
  cases h with
  | cons h1 h2 =>
   cases h1;rw[ints_dw r _ h2]<;>rfl
section
variable {P:abS}{w:adI}{K:abA}{H:Hp}{h:Heap}{R:W.WRecords}{cl:Str->Option Addr}
theorem Azg {a:Addr}{xs:List V}(hok:HOk P w H h)(KX:K.In h)(q:SqL K H a xs):∃(its:List aaF) (o:Obj) (n:Nat),Vals xs its/\h.get? a=some o/\o.cls=.type "list"/\o.data=.seq its.toArray n:=by
 rcases q with q | ⟨o,its,n,e,hc,_,hd,_,hv⟩
 ·obtain⟨_,its,n,hv,e⟩:=(show ObjOk P w H h a (.lst xs)from q.ok hok)
  exact⟨its,_,n,hv,e,rfl,rfl⟩
 ·exact⟨its.toList,o,n,hv,KX _ _ e,hc,by simp[hd]⟩
theorem Azf {a:Addr}{xs:List V}(hok:HOk P w H h)(KX:K.In h)(q:SqT K H a xs):∃(its:List aaF) (o:Obj) (n:Nat),Vals xs its/\h.get? a=some o/\o.cls=.type "tuple"/\o.data=.seq its.toArray n:=by
 rcases q with q | ⟨o,its,n,e,hc,hd,_,hv⟩
 ·obtain⟨_,its,hv,o,e,hc,n,hd⟩:=(show ObjOk P w H h a (.tup xs)from q.ok hok)
  exact⟨its,o,n,hv,e,hc,hd⟩
 ·exact⟨its.toList,o,n,hv,KX _ _ e,hc,by simp[hd]⟩
mutual
theorem Dw.reads (hok:HOk P w H h)(KX:K.In h):∀(d:WData) (v:V) (u:aaF),Dw K H v d->RelV v u->∃as,ReadsW R cl h u d as
 | .none,_,_,x,r=>by
  cases x;cases r;exact⟨_,ReadsW.none⟩
 | .bool b,_,_,x,r=>by
  cases x;cases r;exact⟨_,ReadsW.bool b⟩
 | .int i,_,_,x,r=>by
  cases x;obtain⟨t,rfl⟩:=r;exact⟨_,ReadsW.int i t⟩
 | .str s,_,_,x,r=>by
  cases x;obtain⟨t,rfl⟩:=r;exact⟨_,ReadsW.str s t⟩
 | .bytes b,_,_,x,r=>by
  cases x;obtain⟨t,rfl⟩:=r;exact⟨_,ReadsW.bytes _ t⟩
 | .list ds,_,_,x,r=>by
  cases x with
  | lst hs ha =>
   cases r;obtain⟨its,o,n,rv,ho,hc,hd⟩:=Azg hok KX hs;obtain⟨as,hr⟩:=Dw.readsAll hok KX ds _ its ha rv;exact⟨_,ReadsW.list ho hc hd hr⟩
 | .tuple ds,_,_,x,r=>by
  cases x with
  | tup hs ha =>
   cases r;obtain⟨its,o,n,rv,ho,hc,hd⟩:=Azf hok KX hs;obtain⟨as,hr⟩:=Dw.readsAll hok KX ds _ its ha rv;exact⟨_,ReadsW.tuple ho hc hd hr⟩
 | .float _,_,_,x,_=>by cases x
 | .dict _,_,_,x,_=>by cases x
 | .bytearray _,_,_,x,_=>by cases x
 | .set _,_,_,x,_=>by cases x
 | .frozenset _,_,_,x,_=>by cases x
 | .obj _ _,_,_,x,_=>by cases x
theorem Dw.readsAll (hok:HOk P w H h)(KX:K.In h):∀(ds:List WData) (vs:List V) (us:List aaF),DwAll K H vs ds->Vals vs us->∃as,ReadsAllW R cl h us ds as
 | [],_,_,x,r=>by
  cases x;cases r;exact⟨_,ReadsAllW.nil⟩
 | d::ds,_,_,x,r=>by
  cases x with
  | cons h1 h2 =>
   cases r with
   | cons r1 r2 =>
    obtain⟨as,q1⟩:=Dw.reads hok KX d _ _ h1 r1;obtain⟨bs,q2⟩:=Dw.readsAll hok KX ds _ _ h2 r2;exact⟨_,ReadsAllW.cons q1 q2⟩
end
end
mutual
def plW:WData->Bool
 | .none=>true
 | .bool _=>true
 | .int _=>true
 | .str _=>true
 | .bytes _=>true
 | .list xs=>Apb xs
 | .tuple xs=>Apb xs
 | _=>false
def Apb:List WData->Bool
 | []=>true
 | x::r=>plW x&&Apb r
end
theorem An9 {α:Type}{f:α->WData}(h:∀a,plW (f a)=true):∀l:List α,Apb (l.map f)=true
 | []=>rfl
 | x::r=>by
  show(plW (f x)&&Apb (r.map f))=true;rw[h x,An9 h r]<;>rfl
theorem Aff:∀(c:Codec) (a:c.denote),plW (c.enc a)=true
 | .unit,_=>rfl
 | .bool,_=>rfl
 | .int _ _,_=>rfl
 | .nat _ _,_=>rfl
 | .u8,_=>rfl
 | .bytes _ _,_=>rfl
 | .text _ _ _ _,_=>rfl
 | .list _ _ c,a=>An9 (fun x=>Aff c x) a
 | .pair c d,a=>by
  show(plW (c.enc a.1)&&(plW (d.enc a.2)&&true))=true;rw[Aff c a.1,Aff d a.2]<;>rfl
 | .triple c d e,a=>by
  show(plW (c.enc a.1)&&(plW (d.enc a.2.1)&&(plW (e.enc a.2.2)&&true)))=true;rw[Aff c a.1,Aff d a.2.1,Aff e a.2.2]<;>rfl
 | .option c,none=>rfl
 | .option c,some x=>Aff c x
theorem Akl:∀(cs:List Codec) (a:alE cs),Apb (ajD cs a)=true
 | [],_=>rfl
 | c::cs,a=>by
  show(plW (c.enc a.1)&&Apb (ajD cs a.2))=true;rw[Aff c a.1,Akl cs a.2]<;>rfl
theorem Aer:∀{xs:List WData} {d:WData},d∈xs->d.weight<=ajC xs
 | [],d,h=>absurd h (by simp)
 | x::r,d,h=>by
  show d.weight<=x.weight+1+ajC r;rcases aaG.mp h with e | m
  ·rw[e];lia
  ·have z:=Aer m;lia
def toV:aaF->V
 | .none=>.non
 | .bool b=>.bl b
 | .int i _=>.int i
 | .str x _=>.str x
 | .bytes b _=>.byt b
 | .ref a=>.ref a
 | _=>.non
def OkU (A:List Addr):aaF->Prop
 | .none=>True
 | .bool _=>True
 | .int _ _=>True
 | .str _ _=>True
 | .bytes _ _=>True
 | .ref a=>a∈A
 | _=>False
theorem OkU.mono {A B:List Addr}(h:∀a∈A,a∈B):∀{u:aaF},OkU A u->OkU B u:=fun {u} x=>by
 cases u with
 | ref a=>exact h a x
 | none=>trivial
 | bool b=>trivial
 | int i t=>trivial
 | str s t=>trivial
 | bytes b t=>trivial
 | _=>exact acM x
theorem At8 {A:List Addr}{u:aaF}(x:OkU A u):RelV (toV u) u:=by
 cases u with
 | ref a=>rfl
 | none=>rfl
 | bool b=>rfl
 | int i t=>exact⟨t,rfl⟩
 | str s t=>exact⟨t,rfl⟩
 | bytes b t=>exact⟨t,rfl⟩
 | _=>exact acM x
theorem Adk {A:List Addr}:∀{vs:List aaF},(∀u∈vs,OkU A u)->Vals (vs.map toV) vs
 | [],_=>.nil
 | u::r,h=>.cons (At8 (h u (adB ..))) (Adk fun x hx=>h x (abP _ hx))
def ArgOb (h:Heap)(A:List Addr)(a:Addr):Prop:=∃vs:List aaF,vs.length<=abB/\(∀u∈vs,OkU A u)/\
 (h.get? a=some { cls:=.type "list",data:=.seq vs.toArray }\/h.get? a=some { cls:=.type "tuple",data:=.seq vs.toArray })
theorem ArgOb.mono {h:Heap}{A B:List Addr}{a:Addr}(k:∀a∈A,a∈B)(x:ArgOb h A a):ArgOb h B a:=by
 obtain⟨vs,h1,h2,h3⟩:=x;exact⟨vs,h1,fun u hu=>(h2 u hu).mono k,h3⟩
theorem Acp {P:Params}{h:Heap}:∀{vs:List aaF} {ds:List WData},WellAll P h vs ds->vs.length=ds.length
 | _,_,.nil=>rfl
 | _,_,.cons _ b=>by
  show _+1=_+1;rw[Acp b]
theorem Ak2 {P:Params}{h:Heap}{v:aaF}{ds:List WData}(x:Well P h v (.list ds)):∃(a:Addr) (vs:List aaF),v=.ref a/\h.get? a=some { cls:=.type "list",data:=.seq vs.toArray }/\WellAll P h vs ds:=by
 cases x with
 | list ho hall=>exact⟨_,_,rfl,ho,hall⟩
theorem Ahs {P:Params}{h:Heap}{v:aaF}{ds:List WData}(x:Well P h v (.tuple ds)):∃(a:Addr) (vs:List aaF),v=.ref a/\h.get? a=some { cls:=.type "tuple",data:=.seq vs.toArray }/\WellAll P h vs ds:=by
 cases x with
 | tuple ho hall=>exact⟨_,_,rfl,ho,hall⟩
theorem Ak3 {P:Params}{h:Heap}{us:List aaF}{d:WData}{ds:List WData}(x:WellAll P h us (d::ds)):∃(v:aaF) (vs:List aaF),us=v::vs/\Well P h v d/\WellAll P h vs ds:=by
 cases x with
 | cons a b=>exact⟨_,_,rfl,a,b⟩
theorem Arc {n:Nat}(h:n<=1048576):n<=abB:=abI h (by decide)
section
variable {P:Params}{h:Heap}
mutual
theorem Auv:∀(d:WData) (v:aaF),Well P h v d->plW d=true->d.weight<=1048576->∃A:List Addr,OkU A v/\∀a∈A,ArgOb h A a
 | .none,_,x,_,_=>by
  cases x;exact⟨[],trivial,fun a m=>absurd m (by simp)⟩
 | .bool b,_,x,_,_=>by
  cases x;exact⟨[],trivial,fun a m=>absurd m (by simp)⟩
 | .int i,_,x,_,_=>by
  cases x;exact⟨[],trivial,fun a m=>absurd m (by simp)⟩
 | .str s,_,x,_,_=>by
  cases x;exact⟨[],trivial,fun a m=>absurd m (by simp)⟩
 | .bytes b,_,x,_,_=>by
  cases x;exact⟨[],trivial,fun a m=>absurd m (by simp)⟩
 | .list ds,_,x,p,z=>by
  obtain⟨a,vs,rfl,ho,hall⟩:=Ak2 x;have z2:ajC ds<=1048576:=z;obtain⟨A,h1,h2⟩:=Ag1 ds _ hall p fun d hd=>abI (Aer hd) z2;have k:∀b∈A,b∈a::A:=fun b hb=>abP _ hb;refine⟨a::A,adB ..,fun b hb=>?_⟩;rcases aaG.mp hb with e | m
  ·rw[e];exact⟨vs,Arc (by rw[Acp hall];exact abI (aoB ds) z2),fun u hu=>(h1 u hu).mono k,.inl ho⟩
  ·exact(h2 b m).mono k
 | .tuple ds,_,x,p,z=>by
  obtain⟨a,vs,rfl,ho,hall⟩:=Ahs x;have z2:ajC ds<=1048576:=z;obtain⟨A,h1,h2⟩:=Ag1 ds _ hall p fun d hd=>abI (Aer hd) z2;have k:∀b∈A,b∈a::A:=fun b hb=>abP _ hb;refine⟨a::A,adB ..,fun b hb=>?_⟩;rcases aaG.mp hb with e | m
  ·rw[e];exact⟨vs,Arc (by rw[Acp hall];exact abI (aoB ds) z2),fun u hu=>(h1 u hu).mono k,.inr ho⟩
  ·exact(h2 b m).mono k
 | .float _,_,_,p,_=>abU (show false=true from p)
 | .dict _,_,_,p,_=>abU (show false=true from p)
 | .bytearray _,_,_,p,_=>abU (show false=true from p)
 | .set _,_,_,p,_=>abU (show false=true from p)
 | .frozenset _,_,_,p,_=>abU (show false=true from p)
 | .obj _ _,_,_,p,_=>abU (show false=true from p)
theorem Ag1:∀(ds:List WData) (vs:List aaF),WellAll P h vs ds->Apb ds=true->(∀d∈ds,d.weight<=1048576)->∃A:List Addr,(∀u∈vs,OkU A u)/\∀a∈A,ArgOb h A a
 | [],_,x,_,_=>by
  cases x;exact⟨[],fun u m=>absurd m (by simp),fun a m=>absurd m (by simp)⟩
 | d::ds,_,x,p,z=>by
  obtain⟨v,vs,rfl,x1,x2⟩:=Ak3 x;have q:plW d=true/\Apb ds=true:=anZ.mp p;obtain⟨A,a1,a2⟩:=Auv d v x1 q.1 (z d (adB ..));obtain⟨B,b1,b2⟩:=Ag1 ds vs x2 q.2 fun e he=>z e (abP _ he);have kA:∀b∈A,b∈A++B:=fun b hb=>abH.mpr (.inl hb);have kB:∀b∈B,b∈A++B:=fun b hb=>abH.mpr (.inr hb);refine⟨A++B,fun u hu=>?_,fun b hb=>?_⟩
  ·rcases aaG.mp hu with e | m
   ·rw[e];exact a1.mono kA
   ·exact(b1 u m).mono kB
  ·rcases abH.mp hb with m | m
   ·exact(a2 b m).mono kA
   ·exact(b2 b m).mono kB
end
end
def Bby (o:Obj):Option HO:=match o.data with
 | .seq vs _=>if (o.cls==aiE "list")=true then some (.frz o (.lst (vs.toList.map toV)))else some (.frz o (.tup (vs.toList.map toV)))
 | _=>none
def Ak0 (K:abA)(h:Heap)(A:List Addr):Hp:=fun b=>if b∈A then(if (K.lookup b).isNone=true then(h.get? b).bind Bby else none)else none
def Bbk (H:Hp):Prop:=∀b,H b=none\/∃o u,H b=some (.frz o u)
theorem Ann (vs:List aaF):Bby { cls:=.type "list",data:=.seq vs.toArray }=some (.frz { cls:=.type "list",data:=.seq vs.toArray } (.lst (vs.map toV))):=by
 show(if (aiE "list" == aiE "list")=true then some (HO.frz { cls:=.type "list",data:=.seq vs.toArray } (.lst (vs.toArray.toList.map toV)))else some (HO.frz { cls:=.type "list",data:=.seq vs.toArray } (.tup (vs.toArray.toList.map toV))))=_;rw[ifp (beq_self_eq_true _)]
theorem Anm (vs:List aaF):Bby { cls:=.type "tuple",data:=.seq vs.toArray }=some (.frz { cls:=.type "tuple",data:=.seq vs.toArray } (.tup (vs.map toV))):=by
 show(if (aiE "tuple" == aiE "list")=true then some (HO.frz { cls:=.type "tuple",data:=.seq vs.toArray } (.lst (vs.toArray.toList.map toV)))else some (HO.frz { cls:=.type "tuple",data:=.seq vs.toArray } (.tup (vs.toArray.toList.map toV))))=_;rw[ifn (by decide)]
section
variable {P:abS}{w:adI}{K:abA}{h:Heap}{A:List Addr}
theorem Ajx {b:Addr}{o:Obj}(hb:b∈A)(hk:K.lookup b=none)(e:h.get? b=some o):Ak0 K h A b=Bby o:=by
 unfold Ak0;rw[ifp hb,hk,ifp (show(none:Option Obj).isNone=true from rfl),e]<;>rfl
theorem Axm {b:Addr}{u:HO}(q:Ak0 K h A b=some u):b∈A/\K.lookup b=none:=by
 unfold Ak0 at q
 by_cases hb:b∈A
 ·rw[ifp hb]at q;cases hk:K.lookup b with
  | none=>exact⟨hb,rfl⟩
  | some o =>
   rw[hk,ifn (by simp)]at q;cases q
 ·rw[ifn hb]at q;cases q
theorem Ajw (ar:∀a∈A,ArgOb h A a){b:Addr}{u:HO}(q:Ak0 K h A b=some u):K.lookup b=none/\∃vs:List aaF,vs.length<=abB/\(∀u∈vs,OkU A u)/\
 ((h.get? b=some { cls:=.type "list",data:=.seq vs.toArray }/\u=.frz { cls:=.type "list",data:=.seq vs.toArray } (.lst (vs.map toV)))\/
  (h.get? b=some { cls:=.type "tuple",data:=.seq vs.toArray }/\u=.frz { cls:=.type "tuple",data:=.seq vs.toArray } (.tup (vs.map toV)))):=by
 obtain⟨hb,hk⟩:=Axm q;obtain⟨vs,h1,h2,h3⟩:=ar b hb;refine⟨hk,vs,h1,h2,?_⟩;rcases h3 with e | e
 ·rw[Ajx hb hk e,Ann]at q;exact .inl ⟨e,(abD q).symm⟩
 ·rw[Ajx hb hk e,Anm]at q;exact .inr ⟨e,(abD q).symm⟩
theorem Asj (ar:∀a∈A,ArgOb h A a):Bbk (Ak0 K h A):=fun b=>by
 cases q:Ak0 K h A b with
 | none=>exact .inl rfl
 | some u =>
  obtain⟨_,vs,_,_,⟨_,e⟩ | ⟨_,e⟩⟩:=Ajw ar q
  ·exact .inr ⟨_,_,by rw[e]⟩
  ·exact .inr ⟨_,_,by rw[e]⟩
theorem Ayh (ar:∀a∈A,ArgOb h A a):HOk P w (Ak0 K h A) h:=fun b u q=>by
 obtain⟨_,vs,h1,h2,⟨e,rfl⟩ | ⟨e,rfl⟩⟩:=Ajw ar q
 ·exact⟨e,by rw[aaA];exact h1,vs,_,Adk h2,e⟩
 ·exact⟨e,by rw[aaA];exact h1,vs,Adk h2,_,e,rfl,_,rfl⟩
theorem Aiy {c c':aaF}{vs us:List aaF}(e:(some { cls:=c,data:=.seq vs.toArray }:Option Obj)=some { cls:=c',data:=.seq us.toArray }):c=c'/\vs=us:=by
 have e1:=abD e;have e2:c=c':=congrArg Obj.cls e1;have e3:Data.seq vs.toArray=Data.seq us.toArray:=congrArg Obj.data e1;injection e3 with e4
 refine⟨e2,?_⟩;have e5:=congrArg anF e4;simpa using e5
theorem Bf4 (KX:K.In h)(ar:∀a∈A,ArgOb h A a){a:Addr}{vs:List aaF}(ha:a∈A)(e:h.get? a=some { cls:=.type "list",data:=.seq vs.toArray }):(∀u∈vs,OkU A u)/\SqL K (Ak0 K h A) a (vs.map toV):=by
 obtain⟨us,h1,h2,h3⟩:=ar a ha;have hu:us=vs:=by
  rcases h3 with q | q
  ·rw[e]at q;exact(Aiy q).2.symm
  ·rw[e]at q;exact absurd (anR (Aiy q).1) (by decide)
 subst hu;refine⟨h2,?_⟩;cases hk:K.lookup a with
 | none=>exact .inl (.inr ⟨_,by rw[Ajx ha hk e,Ann]⟩)
 | some o =>
  have e2:=KX a o hk;rw[e]at e2;obtain rfl:=abD e2;exact .inr ⟨_,us.toArray,_,hk,rfl,rfl,rfl,by rw[aaP];exact h1,by simpa using Adk h2⟩
theorem Bf3 (KX:K.In h)(ar:∀a∈A,ArgOb h A a){a:Addr}{vs:List aaF}(ha:a∈A)(e:h.get? a=some { cls:=.type "tuple",data:=.seq vs.toArray }):(∀u∈vs,OkU A u)/\SqT K (Ak0 K h A) a (vs.map toV):=by
 obtain⟨us,h1,h2,h3⟩:=ar a ha;have hu:us=vs:=by
  rcases h3 with q | q
  ·rw[e]at q;exact absurd (anR (Aiy q).1) (by decide)
  ·rw[e]at q;exact(Aiy q).2.symm
 subst hu;refine⟨h2,?_⟩;cases hk:K.lookup a with
 | none=>exact .inl (.inr ⟨_,by rw[Ajx ha hk e,Anm]⟩)
 | some o =>
  have e2:=KX a o hk;rw[e]at e2;obtain rfl:=abD e2;exact .inr ⟨_,us.toArray,_,hk,rfl,rfl,by rw[aaP];exact h1,by simpa using Adk h2⟩
mutual
theorem Bbc {Pm:Params}(KX:K.In h)(ar:∀a∈A,ArgOb h A a):∀(d:WData) (v:aaF),Well Pm h v d->plW d=true->OkU A v->Dw K (Ak0 K h A) (toV v) d
 | .none,_,x,_,_=>by
  cases x;exact .non
 | .bool b,_,x,_,_=>by
  cases x;exact .bl b
 | .int i,_,x,_,_=>by
  cases x;exact .int i
 | .str s,_,x,_,_=>by
  cases x;exact .str s
 | .bytes b,_,x,_,_=>by
  cases x;have z:=Dw.byt (K:=K) (H:=Ak0 K h A) b.toArray;exact z
 | .list ds,_,x,p,hu=>by
  obtain⟨a,vs,rfl,ho,hall⟩:=Ak2 x;obtain⟨h2,hs⟩:=Bf4 KX ar hu ho;exact .lst hs (Ant KX ar ds _ hall p h2)
 | .tuple ds,_,x,p,hu=>by
  obtain⟨a,vs,rfl,ho,hall⟩:=Ahs x;obtain⟨h2,hs⟩:=Bf3 KX ar hu ho;exact .tup hs (Ant KX ar ds _ hall p h2)
 | .float _,_,_,p,_=>abU (show false=true from p)
 | .dict _,_,_,p,_=>abU (show false=true from p)
 | .bytearray _,_,_,p,_=>abU (show false=true from p)
 | .set _,_,_,p,_=>abU (show false=true from p)
 | .frozenset _,_,_,p,_=>abU (show false=true from p)
 | .obj _ _,_,_,p,_=>abU (show false=true from p)
theorem Ant {Pm:Params}(KX:K.In h)(ar:∀a∈A,ArgOb h A a):∀(ds:List WData) (vs:List aaF),WellAll Pm h vs ds->Apb ds=true->(∀u∈vs,OkU A u)->DwAll K (Ak0 K h A) (vs.map toV) ds
 | [],_,x,_,_=>by
  cases x;exact .nil
 | d::ds,_,x,p,hu=>by
  obtain⟨v,vs,rfl,x1,x2⟩:=Ak3 x;have q:plW d=true/\Apb ds=true:=anZ.mp p;exact .cons (Bbc KX ar d v x1 q.1 (hu _ (adB ..))) (Ant KX ar ds vs x2 q.2 fun u m=>hu u (abP _ m))
end
end
theorem Ahi {ds:List WData}(h:WData.layableAll ds=true):∀d∈ds,d.weight<=1048576:=fun d hd =>
 (W.layableW_iff.mp (agI.mp h d hd)).2.2
theorem Aif:∀(cs:List Codec) (a:alE cs),(ajD cs a).length=cs.length
 | [],_=>rfl
 | c::cs,a=>by
  show(ajD cs a.2).length+1=cs.length+1;rw[Aif cs a.2]
end L2
end
end
section
namespace Pg
def sm:Nat->(Nat->Int)->Int
 | 0,_=>0
 | n+1,f=>sm n f+f n
theorem Aam {n:Nat}{f g:Nat->Int}(h:∀i,i<n->f i=g i):sm n f=sm n g:=by
 induction n with
 | zero=>rfl
 | succ n ih=>simp only[sm];rw[ih (fun i hi=>h i (by lia)),h n (by lia)]
theorem Abf {n:Nat}{f:Nat->Int}(h:∀i,i<n->f i=0):sm n f=0:=by
 induction n with
 | zero=>rfl
 | succ n ih=>simp only[sm];rw[ih (fun i hi=>h i (by lia)),h n (by lia)];rfl
theorem Aci (n:Nat)(f g:Nat->Int):sm n (fun i=>f i+g i)=sm n f+sm n g:=by
 induction n with
 | zero=>rfl
 | succ n ih=>simp only[sm];rw[ih];lia
theorem Ahy (n:Nat)(f g:Nat->Int):sm n (fun i=>f i-g i)=sm n f-sm n g:=by
 induction n with
 | zero=>rfl
 | succ n ih=>simp only[sm];rw[ih];lia
theorem Aqa (n:Nat)(k:Int)(f:Nat->Int):sm n (fun i=>k*f i)=k*sm n f:=by
 induction n with
 | zero=>simp[sm]
 | succ n ih=>simp only[sm];rw[ih,Int.mul_add]
theorem Aq9 (n m:Nat)(f:Nat->Nat->Int):sm n (fun i=>sm m (fun j=>f i j))=sm m (fun j=>sm n (fun i=>f i j)):=by
 induction n with
 | zero=>simp only[sm];exact(Abf (fun _ _=>rfl)).symm
 | succ n ih=>simp only[sm];rw[ih,<-Aci]
theorem Afe {n k:Nat}{f:Nat->Int}(hk:k<n)(h:∀i,i<n->i≠k->f i=0):sm n f=f k:=by
 induction n with
 | zero=>lia
 | succ n ih =>
  simp only[sm]
  by_cases e:k=n
  ·subst e;rw[Abf (fun i hi=>h i (by lia) (by lia))];lia
  ·rw[ih (by lia) (fun i hi hn=>h i (by lia) hn),h n (by lia) (by lia)];lia
noncomputable def nd (P:Prop):Int:=open Classical in if P then 1 else 0
theorem Abx {P:Prop}(h:P):nd P=1:=by unfold nd;rw[ifp h]
theorem Aal {P:Prop}(h:¬P):nd P=0:=by unfold nd;rw[ifn h]
theorem Aah {P Q:Prop}(h:P↔Q):nd P=nd Q:=by
 by_cases p:P
 ·rw[Abx p,Abx (h.1 p)]
 ·rw[Aal p,Aal (fun q=>p (h.2 q))]
structure Alh (n:Nat)(adj:Nat->Nat->Prop)(c:Nat->Nat->Int):Prop where
 anti:∀u v,c u v =-c v u
 off:∀u v,¬adj u v->c u v=0
 cons:∀v,v<n->sm n (fun t=>c v t)=0
def fl (n:Nat)(c g:Nat->Nat->Int):Int:=sm n (fun p=>sm n (fun q=>if p<q then c p q*g p q else 0))
theorem Acc {n:Nat}{adj:Nat->Nat->Prop}{c g g':Nat->Nat->Int}(hc:∀u v,¬adj u v->c u v=0)
 (h:∀p q,p<n->q<n->p<q->adj p q->g p q=g' p q):fl n c g=fl n c g':=by
 unfold fl;apply Aam;intro p hp;apply Aam;intro q hq
 by_cases pq:p<q
 ·rw[ifp pq,ifp pq]
  by_cases a:adj p q
  ·rw[h p q hp hq pq a]
  ·rw[hc p q a];simp
 ·rw[ifn pq,ifn pq]
theorem Al2 (n:Nat)(c g g':Nat->Nat->Int):fl n c (fun p q=>g p q-g' p q)=fl n c g-fl n c g':=by
 unfold fl;rw[<-Ahy];apply Aam;intro p hp;rw[<-Ahy];apply Aam;intro q hq
 by_cases pq:p<q
 ·simp only[ifp pq,Int.mul_sub]
 ·simp only[ifn pq];rfl
theorem Anr (n:Nat)(c g g':Nat->Nat->Int):fl n c (fun p q=>g p q+g' p q)=fl n c g+fl n c g':=by
 unfold fl;rw[<-Aci];apply Aam;intro p hp;rw[<-Aci];apply Aam;intro q hq
 by_cases pq:p<q
 ·simp only[ifp pq,Int.mul_add]
 ·simp only[ifn pq];rfl
theorem Avq {n:Nat}{adj:Nat->Nat->Prop}{c:Nat->Nat->Int}(hc:Alh n adj c)(Q:Nat->Int) :
 fl n c (fun p q=>Q q-Q p)=0:=by
 rw[Al2 n c (fun _ q=>Q q) (fun p _=>Q p)];have e1:fl n c (fun _ q=>Q q)=sm n (fun p=>sm n (fun q=>if q<p then-(c p q*Q p)else 0)):=by
  unfold fl;rw[Aq9];apply Aam;intro q hq;apply Aam;intro p hp
  by_cases pq:p<q
  ·rw[ifp pq,ifp pq,hc.anti p q,Int.neg_mul]
  ·rw[ifn pq,ifn pq]
 have e2:fl n c (fun p _=>Q p)-fl n c (fun _ q=>Q q)=0:=by
  rw[e1];unfold fl;rw[<-Ahy];apply Abf;intro p hp;rw[<-Ahy];have:sm n (fun q=>(if p<q then c p q*Q p else 0)-(if q<p then-(c p q*Q p)else 0))=sm n (fun q=>Q p*c p q):=by
   apply Aam;intro q hq;rcases acE p q with h | h | h
   ·rw[ifp h,ifn (by lia),afL];lia
   ·subst h;have:=hc.anti p p;have z:c p p=0:=by lia
    simp[z]
   ·rw[ifn (by lia),ifp h,afL];lia
  rw[this,Aqa,hc.cons p hp,Int.mul_zero]
 lia
theorem Arx {n:Nat}{adj:Nat->Nat->Prop}{c:Nat->Nat->Int}(hc:Alh n adj c){g g':Nat->Nat->Int}(Q:Nat->Int)
 (h:∀p q,p<n->q<n->p<q->adj p q->g p q-g' p q=Q q-Q p):fl n c g=fl n c g':=by
 have e:=Avq hc Q;rw[<-Acc (g:=fun p q=>g p q-g' p q) hc.off h,Al2]at e;lia
theorem Al3 {n:Nat}{c:Nat->Nat->Int}{u v:Nat}(hu:u<n)(hv:v<n)(huv:u<v) :
 fl n c (fun p q=>nd (p=u/\q=v))=c u v:=by
 unfold fl;rw[Afe hu,Afe hv]
 ·show(if u<v then c u v*nd (u=u/\v=v)else 0)=c u v;rw[ifp huv,Abx ⟨rfl,rfl⟩,Int.mul_one]
 ·intro q hq hn;show(if u<q then c u q*nd (u=u/\q=v)else 0)=0;rw[Aal (fun h=>hn h.2)];simp
 ·intro p hp hn;apply Abf;intro q hq;show(if p<q then c p q*nd (p=u/\q=v)else 0)=0;rw[Aal (fun h=>hn h.1)];simp
def T (X Y:Nat->Int)(p q r:Nat):Int:=(X q-X p)*(Y r-Y q)-(Y q-Y p)*(X r-X q)
structure Draw (n:Nat)(X Y:Nat->Int)(adj:Nat->Nat->Prop):Prop where
 mono:∀i j,i<j->j<n->Y i<Y j
 sym:∀u v,adj u v->adj v u
 ne:∀u v,adj u v->u≠v
 lt:∀u v,adj u v->u<n
 free:∀u v w,adj u v->u<w->w<v->T X Y u v w≠0
 cross:∀u v p q,adj u v->adj p q->u<v->p<q->T X Y u v p*T X Y u v q<0->T X Y p q u*T X Y p q v<0->False
theorem E1 (X Y:Nat->Int)(u v p q:Nat):T X Y p q u*(Y v-Y u)=T X Y u v q*(Y p-Y u)-T X Y u v p*(Y q-Y u):=by
 unfold T;grind
theorem E2 (X Y:Nat->Int)(u v p q:Nat):T X Y p q v*(Y v-Y u)=T X Y u v q*(Y p-Y v)-T X Y u v p*(Y q-Y v):=by
 unfold T;grind
theorem Aym (X Y:Nat->Int)(u v p:Nat):T X Y v u p =-T X Y u v p:=by
 unfold T;grind
theorem T_1 (X Y:Nat->Int)(u v:Nat):T X Y u v u=0:=by
 unfold T;grind
theorem T_2 (X Y:Nat->Int)(u v:Nat):T X Y u v v=0:=by
 unfold T;grind
theorem Aat {a b:Int}(h:0<a)(k:0<b):0<a*b:=Int.mul_pos h k
theorem Ab4 {a b:Int}(h:0<a)(k:b<0):a*b<0:=amQ h k
theorem Aau {a b:Int}(h:a<0)(k:0<b):a*b<0:=amR h k
theorem Abq {a b:Int}(h:a<0)(k:b<0):0<a*b:=amP h k
theorem lp {a b:Int}(h:0<a*b)(k:0<b):0<a:=by
 rcases abC a 0 with x | x | x
 ·have:=Aau x k;lia
 ·subst x;simp at h
 ·exact x
theorem ln {a b:Int}(h:a*b<0)(k:0<b):a<0:=by
 rcases abC a 0 with x | x | x
 ·exact x
 ·subst x;simp at h
 ·have:=Aat x k;lia
structure F4 (A B C D p q u v:Int):Prop where
 cr:A*B<0->C*D<0->False
 f1:p<u->u<q->q<v->0<C->0<B->False
 f2:p<u->u<q->q<v->C<0->B<0->False
 f3:u<p->q<v->A<0->0<B->False
 f4:u<p->q<v->0<A->B<0->False
 f5:p<u->v<q->0<C->D<0->False
 f6:p<u->v<q->C<0->0<D->False
 f7:u<p->p<v->v<q->A<0->D<0->False
 f8:u<p->p<v->v<q->0<A->0<D->False
theorem four {A B C D p q u v:Int}(hc:A*B<0->C*D<0->False)(huv:u<v)(hpq:p<q)
 (e1:C*(v-u)=B*(p-u)-A*(q-u)) (e2:D*(v-u)=B*(p-v)-A*(q-v))
 (e3:A*(q-p)=D*(u-p)-C*(v-p)) (e4:B*(q-p)=D*(u-q)-C*(v-q)) :
 (p<u->u<q->q<v->0<C->0<B->False)/\(p<u->u<q->q<v->C<0->B<0->False)/\
 (u<p->q<v->A<0->0<B->False)/\(u<p->q<v->0<A->B<0->False)/\
 (p<u->v<q->0<C->D<0->False)/\(p<u->v<q->C<0->0<D->False)/\
 (u<p->p<v->v<q->A<0->D<0->False)/\(u<p->p<v->v<q->0<A->0<D->False):=by
 refine⟨?_,?_,?_,?_,?_,?_,?_,?_⟩
 ·intro h1 h2 h3 hC hB;have x1:=Aat hC (show 0<v-u by lia);have x2:=Ab4 hB (show p-u<0 by lia);have hA:A<0:=ln (b:=q-u) (by lia) (by lia);have hAB:=Aau hA hB;rcases abW D 0 with d | d
  ·exact hc hAB (Ab4 hC d)
  ·have y1:=Aat hB (show 0<q-p by lia);have y2:=Aat hC (show 0<v-q by lia);have y3:D*(u-q)<=0:=adA d (by lia);lia
 ·intro h1 h2 h3 hC hB;have x1:=Aau hC (show 0<v-u by lia);have x2:=Abq hB (show p-u<0 by lia);have hA:0<A:=lp (b:=q-u) (by lia) (by lia);have hAB:=Ab4 hA hB;rcases abW 0 D with d | d
  ·exact hc hAB (Aau hC d)
  ·have y1:=Aau hB (show 0<q-p by lia);have y2:=Aau hC (show 0<v-q by lia);have y3:0<=D*(u-q):=adQ d (by lia);lia
 ·intro h1 h2 hA hB;have x1:=Aat hB (show 0<p-u by lia);have x2:=Aau hA (show 0<q-u by lia);have hC:0<C:=lp (b:=v-u) (by lia) (by lia);have x3:=Ab4 hB (show p-v<0 by lia);have x4:=Abq hA (show q-v<0 by lia);have hD:D<0:=ln (b:=v-u) (by lia) (by lia);exact hc (Aau hA hB) (Ab4 hC hD)
 ·intro h1 h2 hA hB;have x1:=Aau hB (show 0<p-u by lia);have x2:=Aat hA (show 0<q-u by lia);have hC:C<0:=ln (b:=v-u) (by lia) (by lia);have x3:=Abq hB (show p-v<0 by lia);have x4:=Ab4 hA (show q-v<0 by lia);have hD:0<D:=lp (b:=v-u) (by lia) (by lia);exact hc (Ab4 hA hB) (Aau hC hD)
 ·intro h1 h2 hC hD;have x1:=Aau hD (show 0<u-p by lia);have x2:=Aat hC (show 0<v-p by lia);have hA:A<0:=ln (b:=q-p) (by lia) (by lia);have x3:=Abq hD (show u-q<0 by lia);have x4:=Ab4 hC (show v-q<0 by lia);have hB:0<B:=lp (b:=q-p) (by lia) (by lia);exact hc (Aau hA hB) (Ab4 hC hD)
 ·intro h1 h2 hC hD;have x1:=Aat hD (show 0<u-p by lia);have x2:=Aau hC (show 0<v-p by lia);have hA:0<A:=lp (b:=q-p) (by lia) (by lia);have x3:=Ab4 hD (show u-q<0 by lia);have x4:=Abq hC (show v-q<0 by lia);have hB:B<0:=ln (b:=q-p) (by lia) (by lia);exact hc (Ab4 hA hB) (Aau hC hD)
 ·intro h1 h2 h3 hA hD;have x1:=Aau hD (show 0<v-u by lia);have x2:=Aau hA (show 0<q-v by lia);have hB:0<B:=by
   have:B*(v-p) =-(B*(p-v)):=by grind
   exact lp (b:=v-p) (by lia) (by lia)
  have hAB:=Aau hA hB;rcases abW 0 C with c | c
  ·exact hc hAB (Ab4 c hD)
  ·have y1:=Aau hA (show 0<q-p by lia);have y2:=Abq hD (show u-p<0 by lia);have y3:C*(v-p)<=0:=acO c (by lia);lia
 ·intro h1 h2 h3 hA hD;have x1:=Aat hD (show 0<v-u by lia);have x2:=Aat hA (show 0<q-v by lia);have hB:B<0:=by
   have:B*(v-p) =-(B*(p-v)):=by grind
   exact ln (b:=v-p) (by lia) (by lia)
  have hAB:=Ab4 hA hB;rcases abW C 0 with c | c
  ·exact hc hAB (Aau c hD)
  ·have y1:=Aat hA (show 0<q-p by lia);have y2:=Ab4 hD (show u-p<0 by lia);have y3:0<=C*(v-p):=adT c (by lia);lia
theorem Draw.four {n:Nat}{X Y:Nat->Int}{adj:Nat->Nat->Prop}(d:Draw n X Y adj){u v p q:Nat}(huv:adj u v)(h:u<v)(hpq:adj p q)(k:p<q)(hv:v<n)(hq:q<n) :
 F4 (T X Y u v p) (T X Y u v q) (T X Y p q u) (T X Y p q v) (Y p) (Y q) (Y u) (Y v):=by
 obtain⟨f1,f2,f3,f4,f5,f6,f7,f8⟩:=Pg.four (d.cross u v p q huv hpq h k) (d.mono u v h hv) (d.mono p q k hq) (E1 X Y u v p q) (E2 X Y u v p q) (by have:=E1 X Y p q u v;rw[this]) (by have:=E2 X Y p q u v;rw[this]);exact⟨d.cross u v p q huv hpq h k,f1,f2,f3,f4,f5,f6,f7,f8⟩
def Aoz (X Y:Nat->Int)(u v p q:Nat):Prop:=p<=u/\u<q/\(if p=u then T X Y u v q<=0 else 0<T X Y p q u)
def Asq (X Y:Nat->Int)(u v p q:Nat):Prop:=p<u/\u<=q/\(if q=u then 0<T X Y u v p else 0<T X Y p q u)
noncomputable def ph (n:Nat) (X Y:Nat->Int) (c:Nat->Nat->Int) (u v:Nat):Int :=
 if u<v then fl n c (fun p q=>nd (Aoz X Y u v p q))else fl n c (fun p q=>nd (Asq X Y u v p q))
section
variable {n:Nat}{X Y:Nat->Int}{adj:Nat->Nat->Prop}
theorem Draw.lt2 (d:Draw n X Y adj){u v:Nat}(h:adj u v):v<n:=d.lt v u (d.sym u v h)
theorem Auw (d:Draw n X Y adj){u v p q:Nat}(huv:adj u v)(h:u<v)(hpq:adj p q)(k:p<q) :
 nd (Aoz X Y u v p q)-(nd (Asq X Y v u p q)+nd (p=u/\q=v)) =
  nd (u<q/\q<v/\T X Y u v q<0)-nd (u<p/\p<v/\T X Y u v p<0):=by
 have hu:=d.lt _ _ huv;have hv:=d.lt2 huv;have hp:=d.lt _ _ hpq;have hq:=d.lt2 hpq;have yuv:=d.mono u v h hv;have ypq:=d.mono p q k hq;have ff:=d.four huv h hpq k hv hq
 by_cases euq:p=u/\q=v
 ·obtain⟨e1,e2⟩:=euq;subst e1 e2
  rw[Abx (P:=Aoz X Y p q p q) ⟨aaK _,k,by rw[ifp rfl,T_2];lia⟩,
   Aal (P:=Asq X Y q p p q) (by intro z;have:=z.2.2;rw[ifp rfl,T_2]at this;lia),Abx ⟨rfl,rfl⟩,Aal (by lia),Aal (by lia)]
  rfl
 rw[Aal euq];unfold Aoz Asq;rcases acS u q with uq | uq
 rotate_left
 ·rw[Aal (by lia),Aal (by lia),Aal (by lia),Aal (by lia)];rfl
 rcases acS p v with pv | pv
 rotate_left
 ·rw[Aal (by lia),Aal (by lia),Aal (by lia),Aal (by lia)];rfl
 rcases acS u p with up | up
 ·-- p between
  have fp:=d.free u v p huv up pv;rw[Aal (P:=p<=u/\_) (by lia)];rcases acS q v with qv | qv
  ·have fq:=d.free u v q huv uq qv;rw[Aal (P:=p<v/\_) (by lia)];have yp:=d.mono u p up hp;have yq:=d.mono q v qv hv;rw[Aah (P:=u<q/\q<v/\T X Y u v q<0) (Q:=u<p/\p<v/\T X Y u v p<0)]
   ·lia
   ·constructor
    ·intro z;refine⟨up,pv,?_⟩;rcases abC (T X Y u v p) 0 with s | s | s
     ·exact s
     ·exact absurd s fp
     ·exact(ff.f4 yp yq s z.2.2).elim
    ·intro z;refine⟨uq,qv,?_⟩;rcases abC (T X Y u v q) 0 with s | s | s
     ·exact s
     ·exact absurd s fq
     ·exact(ff.f3 yp yq z.2.2 s).elim
  ·rw[Aal (P:=u<q/\_) (by lia)];rw[Aah (P:=p<v/\v<=q/\_) (Q:=u<p/\p<v/\T X Y u v p<0)]
   ·lia
   ·have yp:=d.mono u p up hp;have yp':=d.mono p v pv hv;rcases adV qv with e | e
    ·subst e;rw[ifp rfl,Aym X Y u v p];constructor
     ·intro z;exact⟨up,pv,by lia⟩
     ·intro z;exact⟨pv,aaK _,by lia⟩
    ·rw[ifn (by lia)];have fv:=d.free p q v hpq pv e;have yv:=d.mono v q e hq;constructor
     ·intro z;refine⟨up,pv,?_⟩;rcases abC (T X Y u v p) 0 with s | s | s
      ·exact s
      ·exact absurd s fp
      ·exact(ff.f8 yp yp' yv s z.2.2).elim
     ·intro z;refine⟨pv,qv,?_⟩;rcases abC (T X Y p q v) 0 with s | s | s
      ·exact(ff.f7 yp yp' yv z.2.2 s).elim
      ·exact absurd s fv
      ·exact s
 ·-- p not above u
  rw[Aal (P:=u<p/\_) (by lia)];rcases acS q v with qv | qv
  ·rw[Aal (P:=p<v/\v<=q/\_) (by lia)];have fq:=d.free u v q huv uq qv;rw[Aah (P:=p<=u/\_) (Q:=u<q/\q<v/\T X Y u v q<0)]
   ·lia
   ·rcases adV up with e | e
    ·subst e;rw[ifp rfl];constructor
     ·intro z;exact⟨uq,qv,by lia⟩
     ·intro z;exact⟨aaK _,uq,by lia⟩
    ·rw[ifn (by lia)];have fu:=d.free p q u hpq e uq;have y1:=d.mono p u e hu;have y2:=d.mono u q uq hq;have y3:=d.mono q v qv hv;constructor
     ·intro z;refine⟨uq,qv,?_⟩;rcases abC (T X Y u v q) 0 with s | s | s
      ·exact s
      ·exact absurd s fq
      ·exact(ff.f1 y1 y2 y3 z.2.2 s).elim
     ·intro z;refine⟨up,uq,?_⟩;rcases abC (T X Y p q u) 0 with s | s | s
      ·exact(ff.f2 y1 y2 y3 s z.2.2).elim
      ·exact absurd s fu
      ·exact s
  ·rw[Aal (P:=u<q/\q<v/\_) (by lia)];rw[Aah (P:=p<=u/\_) (Q:=p<v/\v<=q/\(if q=v then 0<T X Y v u p else 0<T X Y p q v))]
   ·lia
   ·rcases adV up with e | e
    ·subst e;rw[ifp rfl];have e':v<q:=by
      rcases adV qv with z | z
      ·exact absurd ⟨rfl,z.symm⟩ euq
      ·exact z
     rw[ifn (by lia)];have fv:=d.free p q v hpq pv e';have i:=E2 X Y p v p q;rw[T_1]at i;have j:T X Y p q v =-T X Y p v q:=by
      have:(T X Y p q v+T X Y p v q)*(Y v-Y p)=0:=by grind
      rcases ahU.1 this with z | z<;>lia
     constructor
     ·intro z;exact⟨pv,qv,by lia⟩
     ·intro z;exact⟨aaK _,uq,by lia⟩
    ·rw[ifn (by lia)];have fu:=d.free p q u hpq e uq;have y1:=d.mono p u e hu;rcases adV qv with e' | e'
     ·subst e';rw[ifp rfl,Aym X Y u v p];have i:=E1 X Y u v p v;rw[T_2]at i;have j:T X Y p v u =-T X Y u v p:=by
       have:(T X Y p v u+T X Y u v p)*(Y v-Y u)=0:=by grind
       rcases ahU.1 this with z | z<;>lia
      constructor
      ·intro z;exact⟨pv,qv,by lia⟩
      ·intro z;exact⟨up,uq,by lia⟩
     ·rw[ifn (by lia)];have fv:=d.free p q v hpq pv e';have y2:=d.mono v q e' hq;constructor
      ·intro z;refine⟨pv,qv,?_⟩;rcases abC (T X Y p q v) 0 with s | s | s
       ·exact(ff.f5 y1 y2 z.2.2 s).elim
       ·exact absurd s fv
       ·exact s
      ·intro z;refine⟨up,uq,?_⟩;rcases abC (T X Y p q u) 0 with s | s | s
       ·exact(ff.f6 y1 y2 s z.2.2).elim
       ·exact absurd s fu
       ·exact s
theorem Ayj (d:Draw n X Y adj){c:Nat->Nat->Int}(hc:Alh n adj c){u v:Nat}(huv:adj u v) :
 ph n X Y c u v=ph n X Y c v u+c u v:=by
 have key:∀u v,adj u v->u<v->ph n X Y c u v=ph n X Y c v u+c u v:=by
  intro u v huv h;unfold ph;rw[ifp h,ifn (by lia),<-Al3 (c:=c) (d.lt _ _ huv) (d.lt2 huv) h,<-Anr];exact Arx hc (fun w=>nd (u<w/\w<v/\T X Y u v w<0)) (fun p q hp hq k hpq=>Auw d huv h hpq k)
 rcases acE u v with h | h | h
 ·exact key u v huv h
 ·exact absurd h (d.ne _ _ huv)
 ·have:=key v u (d.sym _ _ huv) h;have:=hc.anti u v;lia
end
def hf (X Y:Nat->Int)(v u x:Nat):Nat :=
 if T X Y v u x<0 then 0 else if 0<T X Y v u x then 2 else if (u<v↔x<v)then 3 else 1
structure Nxt (X Y:Nat->Int)(adj:Nat->Nat->Prop)(v u w:Nat):Prop where
 here:adj v w
 soon:∀x,adj v x->x≠w->hf X Y v u w<hf X Y v u x\/(hf X Y v u w=hf X Y v u x/\T X Y v w x<0)
theorem Ahr (X Y:Nat->Int)(v a b:Nat):T X Y v a b =-T X Y v b a:=by unfold T;grind
theorem tri (X Y:Nat->Int)(v a b c:Nat):T X Y v a b*(Y c-Y v)+T X Y v b c*(Y a-Y v)+T X Y v c a*(Y b-Y v)=0:=by
 unfold T;grind
theorem Aaf (X Y:Nat->Int)(v u x:Nat) :
 (hf X Y v u x=0/\T X Y v u x<0)\/(hf X Y v u x=2/\0<T X Y v u x)\/
 (hf X Y v u x=3/\T X Y v u x=0/\(u<v↔x<v))\/(hf X Y v u x=1/\T X Y v u x=0/\¬(u<v↔x<v)):=by
 unfold hf
 by_cases h:T X Y v u x<0
 ·rw[ifp h];exact .inl ⟨rfl,h⟩
 rw[ifn h]
 by_cases k:0<T X Y v u x
 ·rw[ifp k];exact .inr (.inl ⟨rfl,k⟩)
 rw[ifn k]
 by_cases l:(u<v↔x<v)
 ·rw[ifp l];exact .inr (.inr (.inl ⟨rfl,by lia,l⟩))
 ·rw[ifn l];exact .inr (.inr (.inr ⟨rfl,by lia,l⟩))
section
variable {n:Nat}{X Y:Nat->Int}{adj:Nat->Nat->Prop}
theorem Draw.apart (d:Draw n X Y adj){v a b:Nat}(ha:adj v a)(hb:adj v b)(hn:a≠b)(s:a<v↔b<v):T X Y v a b≠0:=by
 have na:=d.ne _ _ ha;have nb:=d.ne _ _ hb;have key:∀a b,adj v a->adj v b->a<b->(a<v↔b<v)->a≠v->b≠v->T X Y v a b≠0:=by
  intro a b ha hb h s na nb;rcases acS v a with x | x
  ·have:=d.free v b a hb x h;have:=Ahr X Y v a b;lia
  ·have f:=d.free a v b (d.sym _ _ ha) h (by lia);have:T X Y v a b =-T X Y a v b:=Aym X Y a v b;lia
 rcases acS a b with h | h
 ·exact key a b ha hb h s (acU na) (acU nb)
 ·have:=key b a hb ha (by lia) s.symm (acU nb) (acU na);have:=Ahr X Y v a b;lia
theorem Draw.up (d:Draw n X Y adj){v t:Nat}(h:adj v t)(k:v<t):0<Y t-Y v:=by
 have:=d.mono v t k (d.lt2 h);lia
theorem Draw.dn (d:Draw n X Y adj){v t:Nat}(h:adj v t)(k:t<v):Y t-Y v<0:=by
 have:=d.mono t v k (d.lt _ _ h);lia
theorem Ays (d:Draw n X Y adj){c:Nat->Nat->Int}(hc:Alh n adj c){v:Nat}{g g':Nat->Nat->Int}(k:Int)
 (h0:∀p q,p≠v->q≠v->g p q=g' p q)
 (hu:∀t,adj v t->v<t->g v t-g' v t =-k)
 (hd:∀t,adj v t->t<v->g t v-g' t v=k):fl n c g=fl n c g':=by
 apply Arx hc (fun w=>k*nd (w=v));intro p q hp hq pq a
 by_cases e1:p=v
 ·subst e1;rw[hu q a pq,Aal (P:=q=p) (by lia),Abx rfl];lia
 by_cases e2:q=v
 ·subst e2;rw[hd p (d.sym _ _ a) pq,Aal (P:=p=q) (by lia),Abx rfl];lia
 rw[h0 p q e1 e2,Aal e1,Aal e2];lia
theorem Adq {u v p q:Nat}(hp:p≠v)(hq:q≠v):Aoz X Y v u p q↔p<v/\v<q/\0<T X Y p q v:=by
 unfold Aoz;rw[ifn hp];constructor
 ·intro z;exact⟨by lia,z.2.1,z.2.2⟩
 ·intro z;exact⟨by lia,z.2.1,z.2.2⟩
theorem Adr {u v p q:Nat}(hp:p≠v)(hq:q≠v):Asq X Y v u p q↔p<v/\v<q/\0<T X Y p q v:=by
 unfold Asq;rw[ifn hq];constructor
 ·intro z;exact⟨z.1,by lia,z.2.2⟩
 ·intro z;exact⟨z.1,by lia,z.2.2⟩
theorem Af5 {u v t:Nat}(h:v<t):Aoz X Y v u v t↔T X Y v u t<=0:=by
 unfold Aoz;rw[ifp rfl];exact⟨fun z=>z.2.2,fun z=>⟨aaK _,h,z⟩⟩
theorem Ajm {u v t:Nat}:¬Aoz X Y v u t v:=by
 unfold Aoz;intro z;lia
theorem Ajn {u v t:Nat}:¬Asq X Y v u v t:=by
 unfold Asq;intro z;lia
theorem Af7 {u v t:Nat}(h:t<v):Asq X Y v u t v↔0<T X Y v u t:=by
 unfold Asq;rw[ifp rfl];exact⟨fun z=>z.2.2,fun z=>⟨h,aaK _,z⟩⟩
theorem Avx (d:Draw n X Y adj){c:Nat->Nat->Int}(hc:Alh n adj c){u v w:Nat}(hu:adj v u)(hw:Nxt X Y adj v u w) :
 ph n X Y c v u-c v u=ph n X Y c v w:=by
 have vn:=d.lt _ _ hu;have un:=d.lt2 hu;have wn:=d.lt2 hw.here;have nu:=d.ne _ _ hu;have nw:=d.ne _ _ hw.here
 by_cases ew:w=u
 ·subst ew;have:c v w=0:=by
   rw[<-hc.cons v vn]
   symm
   apply Afe wn;intro i hi hn;apply hc.off;intro a;have ni:=d.ne _ _ a;have f:=hw.soon i a hn;have ap:=d.apart a hw.here hn;rcases Aaf X Y v w w with x | x | x | x
   ·have:=T_2 X Y v w;lia
   ·have:=T_2 X Y v w;lia
   ·rcases Aaf X Y v w i with y | y | y | y
    ·lia
    ·lia
    ·exact ap y.2.2.symm (by have:=Ahr X Y v w i;lia)
    ·lia
   ·exact x.2.2 Iff.rfl
  lia
 have hsw:=Ahr X Y v u w;have apw:=d.apart hu hw.here (acU ew);rcases acS v u with uu | uu
 ·have yu:=d.up hu uu;rcases acS v w with ww | ww
  ·-- both up
   have yw:=d.up hw.here ww;have apw:=apw (by lia);unfold ph;rw[ifp uu,ifp ww,<-Al3 (c:=c) vn un uu,<-Al2];rcases abC (T X Y v u w) 0 with s | s | s
   ·apply Ays d hc (v:=v) 0
    ·intro p q hp hq;rw[Aah (Adq hp hq),Aah (Adq (u:=w) hp hq),Aal (P:=p=v/\q=u) (by lia)];lia
    ·intro t a k;have yt:=d.up a k;rw[Aah (Af5 k),Aah (Af5 (u:=w) k)]
     by_cases e:t=u
     ·subst e;rw[Abx (by rw[T_2];lia),Abx ⟨rfl,rfl⟩,Aal (by lia)];rfl
     ·rw[Aal (P:=v=v/\t=u) (by lia)];have apu:=d.apart hu a (acU e) (by lia);rw[Aah (P:=T X Y v u t<=0) (Q:=T X Y v w t<=0)]
      ·lia
      ·by_cases e2:t=w
       ·subst e2;constructor
        ·intro _;rw[T_2];lia
        ·intro _;lia
       ·have apt:=d.apart hw.here a (acU e2) (by lia);constructor
        ·intro z;have f:=hw.soon t a e2;rcases Aaf X Y v u t with x | x | x | x
         ·rcases Aaf X Y v u w with y | y | y | y<;>lia
         ·lia
         ·lia
         ·lia
        ·intro z;have i:=tri X Y v u w t;have j1:=Aau s yt;have j2:=Aau (show T X Y v w t<0 by lia) yu;have j3:=Ahr X Y v u t;have j4:0<T X Y v t u:=lp (b:=Y w-Y v) (by lia) yw;lia
    ·intro t a k;rw[Aal Ajm,Aal Ajm,Aal (by lia)];rfl
   ·exact absurd s apw
   ·apply Ays d hc (v:=v) 1
    ·intro p q hp hq;rw[Aah (Adq hp hq),Aah (Adq (u:=w) hp hq),Aal (P:=p=v/\q=u) (by lia)];lia
    ·intro t a k;rw[Aah (Af5 k),Aah (Af5 (u:=w) k)]
     by_cases e:t=u
     ·subst e;rw[Abx (by rw[T_2];lia),Abx ⟨rfl,rfl⟩,Abx (by lia)];rfl
     ·rw[Aal (P:=v=v/\t=u) (by lia)]
      by_cases e2:t=w
      ·subst e2;rw[Aal (by lia),Abx (by rw[T_2];lia)];rfl
      ·have apu:=d.apart hu a (acU e) (by lia);have f:=hw.soon t a e2;rcases Aaf X Y v u t with x | x | x | x
       ·rcases Aaf X Y v u w with y | y | y | y<;>lia
       ·rcases Aaf X Y v u w with y | y | y | y
        ·lia
        ·rw[Aal (by lia),Abx (by lia)];rfl
        ·lia
        ·lia
       ·lia
       ·lia
    ·intro t a k;exfalso;have yt:=d.dn a k;have f:=hw.soon t a (by lia);rcases Aaf X Y v u w with y | y | y | y
     ·lia
     ·rcases Aaf X Y v u t with x | x | x | x
      ·lia
      ·have i:=tri X Y v u w t;have j1:=Ab4 s yt;have j2:=Aau (show T X Y v w t<0 by lia) yu;have j3:=Ahr X Y v u t;have j4:=Aau (show T X Y v t u<0 by lia) yw;lia
      ·lia
      ·lia
     ·lia
     ·lia
  ·-- u up,w down
   have ww:w<v:=by lia
   have yw:=d.dn hw.here ww;unfold ph;rw[ifp uu,ifn (by lia),<-Al3 (c:=c) vn un uu,<-Al2];apply Ays d hc (v:=v) 0
   ·intro p q hp hq;rw[Aah (Adq hp hq),Aah (Adr (u:=w) hp hq),Aal (P:=p=v/\q=u) (by lia)];lia
   ·intro t a k;have yt:=d.up a k;rw[Aah (Af5 k),Aal Ajn]
    by_cases e:t=u
    ·subst e;rw[Abx (by rw[T_2];lia),Abx ⟨rfl,rfl⟩];rfl
    ·rw[Aal (P:=v=v/\t=u) (by lia),Aal]
     ·rfl
     ·intro z;have apu:=d.apart hu a (acU e) (by lia);have f:=hw.soon t a (by lia);have s:T X Y v u t<0:=by lia
      have i:=tri X Y v u w t;have j3:=Ahr X Y v u t;have j4:=Ab4 (show 0<T X Y v t u by lia) yw;rcases Aaf X Y v u t with x | x | x | x
      ·rcases Aaf X Y v u w with y | y | y | y
       ·have j1:=Aau y.2 yt;have j2:=Aau (show T X Y v w t<0 by lia) yu;lia
       all_goals lia
      all_goals lia
   ·intro t a k;have yt:=d.dn a k;rw[Aal Ajm,Aah (Af7 k),Aal (by lia),Aal]
    ·rfl
    ·intro z;have e:t≠w:=by intro e;subst e;rw[T_2]at z;lia
     have f:=hw.soon t a e;have i:=tri X Y v u w t;have j3:=Ahr X Y v u t;have j2:=Aat z yu;have j1:0<=T X Y v u w*(Y t-Y v):=by
      apply adQ _ (by lia);rcases Aaf X Y v u t with x | x | x | x<;>rcases Aaf X Y v u w with y | y | y | y<;>lia
     have j4:0<=T X Y v t u*(Y w-Y v):=by
      apply adQ _ (by lia);rcases Aaf X Y v u t with x | x | x | x<;>rcases Aaf X Y v u w with y | y | y | y<;>lia
     lia
 ·have uu:u<v:=by lia
  have yu:=d.dn hu uu;have cu:c v u =-fl n c (fun p q=>nd (p=u/\q=v)):=by rw[Al3 un vn uu];exact hc.anti v u
  rcases acS v w with ww | ww
  ·-- u down,w up
   have yw:=d.up hw.here ww;unfold ph;rw[cu,ifn (by lia),ifp ww,Int.sub_neg,<-Anr];apply Ays d hc (v:=v) 1
   ·intro p q hp hq;rw[Aah (Adr hp hq),Aah (Adq (u:=w) hp hq),Aal (P:=p=u/\q=v) (by lia)];lia
   ·intro t a k;have yt:=d.up a k;rw[Aah (Af5 k),Aal Ajn,Aal (P:=v=u/\_) (by lia),Abx]
    ·rfl
    ·by_cases e:t=w
     ·subst e;rw[T_2];lia
     ·rcases abW 0 (T X Y v w t)with z | z
      ·exfalso;have f:=hw.soon t a e;have i:=tri X Y v u w t;have j3:=Ahr X Y v u t;have j2:=Ab4 z yu;have j1:T X Y v u w*(Y t-Y v)<=0:=by
        apply acO _ (by lia);rcases Aaf X Y v u t with x | x | x | x<;>rcases Aaf X Y v u w with y | y | y | y<;>lia
       have j4:T X Y v t u*(Y w-Y v)<=0:=by
        apply acO _ (by lia);rcases Aaf X Y v u t with x | x | x | x<;>rcases Aaf X Y v u w with y | y | y | y<;>lia
       lia
      ·exact z
   ·intro t a k;have yt:=d.dn a k;rw[Aal Ajm,Aah (Af7 k)]
    by_cases e:t=u
    ·subst e;rw[Aal (by rw[T_2];lia),Abx ⟨rfl,rfl⟩];rfl
    ·rw[Aal (P:=t=u/\_) (by lia),Abx]
     ·rfl
     ·have apu:=d.apart hu a (acU e) (by lia);rcases abC (T X Y v u t) 0 with s | s | s
      ·exfalso;have f:=hw.soon t a (by lia);have i:=tri X Y v u w t;have j3:=Ahr X Y v u t;have j4:=Aat (show 0<T X Y v t u by lia) yw;rcases Aaf X Y v u t with x | x | x | x
       ·rcases Aaf X Y v u w with y | y | y | y
        ·have j1:=Abq y.2 yt;have j2:=Abq (show T X Y v w t<0 by lia) yu;lia
        all_goals lia
       all_goals lia
      ·exact absurd s apu
      ·exact s
  ·-- both down
   have ww:w<v:=by lia
   have yw:=d.dn hw.here ww;have apw:=apw (by lia);unfold ph;rw[cu,ifn (by lia),ifn (by lia),Int.sub_neg,<-Anr];rcases abC (T X Y v u w) 0 with s | s | s
   ·apply Ays d hc (v:=v) 0
    ·intro p q hp hq;rw[Aah (Adr hp hq),Aah (Adr (u:=w) hp hq),Aal (P:=p=u/\q=v) (by lia)];lia
    ·intro t a k;rw[Aal Ajn,Aal Ajn,Aal (by lia)];rfl
    ·intro t a k;have yt:=d.dn a k;rw[Aah (Af7 k),Aah (Af7 (u:=w) k)]
     by_cases e:t=u
     ·subst e;rw[Aal (by rw[T_2];lia),Abx ⟨rfl,rfl⟩,Abx (by lia)];rfl
     ·rw[Aal (P:=t=u/\_) (by lia)];have apu:=d.apart hu a (acU e) (by lia);rw[Aah (P:=0<T X Y v u t) (Q:=0<T X Y v w t)]
      ·lia
      ·by_cases e2:t=w
       ·subst e2;constructor
        ·intro z;lia
        ·intro z;rw[T_2]at z;lia
       ·have apt:=d.apart hw.here a (acU e2) (by lia);constructor
        ·intro z;have i:=tri X Y v u w t;have j1:=Abq s yt;have j3:=Ahr X Y v u t;have j2:=Abq (show T X Y v t u<0 by lia) yw;rcases abC (T X Y v w t) 0 with x | x | x
         ·have:=Abq x yu;lia
         ·exact absurd x apt
         ·exact x
        ·intro z;have f:=hw.soon t a e2;rcases Aaf X Y v u t with x | x | x | x
         ·rcases Aaf X Y v u w with y | y | y | y<;>lia
         ·exact x.2
         ·lia
         ·lia
   ·exact absurd s apw
   ·apply Ays d hc (v:=v) 1
    ·intro p q hp hq;rw[Aah (Adr hp hq),Aah (Adr (u:=w) hp hq),Aal (P:=p=u/\q=v) (by lia)];lia
    ·intro t a k;exfalso;have yt:=d.up a k;have f:=hw.soon t a (by lia);rcases Aaf X Y v u w with y | y | y | y
     ·lia
     ·rcases Aaf X Y v u t with x | x | x | x
      ·lia
      ·have i:=tri X Y v u w t;have j1:=Aat s yt;have j2:=Abq (show T X Y v w t<0 by lia) yu;have j3:=Ahr X Y v u t;have j4:=Abq (show T X Y v t u<0 by lia) yw;lia
      ·lia
      ·lia
     ·lia
     ·lia
    ·intro t a k;rw[Aah (Af7 k),Aah (Af7 (u:=w) k)]
     by_cases e:t=u
     ·subst e;rw[Aal (by rw[T_2];lia),Abx ⟨rfl,rfl⟩,Aal (by lia)];rfl
     ·rw[Aal (P:=t=u/\_) (by lia)]
      by_cases e2:t=w
      ·subst e2;rw[Abx s,Aal (by rw[T_2];lia)];rfl
      ·have apu:=d.apart hu a (acU e) (by lia);have f:=hw.soon t a e2;rcases Aaf X Y v u t with x | x | x | x
       ·rcases Aaf X Y v u w with y | y | y | y<;>lia
       ·rcases Aaf X Y v u w with y | y | y | y
        ·lia
        ·rw[Abx x.2,Aal (by lia)];rfl
        ·lia
        ·lia
       ·lia
       ·lia
theorem round (d:Draw n X Y adj){c:Nat->Nat->Int}(hc:Alh n adj c){u v w:Nat}(hu:adj u v)(hw:Nxt X Y adj v u w) :
 ph n X Y c u v=ph n X Y c v w:=by
 have a:=Ayj d hc hu;have b:=Avx d hc (d.sym _ _ hu) hw;have:=hc.anti u v;lia
end
def Afw (f:Nat->Int):List Nat->Int
 | []=>0
 | x::r=>f x+Afw f r
theorem Agj (f:Nat->Int):∀l m,Afw f (l++m)=Afw f l+Afw f m
 | [],m=>by simp[Afw]
 | x::r,m=>by simp only[adP,Afw];rw[Agj f r m];lia
theorem Ani (f:Nat->Int)(h:Nat->Nat):∀l,Afw f (l.map h)=Afw (fun x=>f (h x)) l
 | []=>rfl
 | x::r=>by simp only[abE,Afw];rw[Ani f h r]
theorem Af0 {f g:Nat->Int}:∀{l:List Nat},(∀x,x∈l->f x=g x)->Afw f l=Afw g l
 | [],_=>rfl
 | x::r,h=>by
  simp only[Afw];rw[h x (by simp),Af0 (l:=r) (fun y hy=>h y (by simp[hy]))]
theorem Awd (n:Nat)(f:Nat->Int):∀(l:List Nat),l.Nodup->(∀x,x∈l->x<n)->(∀x,x∉l->f x=0)->sm n f=Afw f l:=by
 intro l
 induction l generalizing f with
 | nil=>intro _ _ h;exact Abf (fun i _=>h i (by simp))
 | cons x r ih =>
  intro nd' lt h
  have e:=ih (fun i=>if i=x then 0 else f i) (abR.1 nd').2 (fun y hy=>lt y (by simp[hy])) (by
   intro y hy
   by_cases e:y=x
   ·simp[e]
   ·simp only[ifn e];exact h y (by simp[e,hy]))
  have e2:sm n f=sm n (fun i=>if i=x then 0 else f i)+sm n (fun i=>if i=x then f i else 0):=by
   rw[<-Aci];apply Aam;intro i hi
   by_cases e:i=x<;>simp[e]
  rw[e2,e,Afe (k:=x) (lt x (by simp))]
  ·simp only[Afw,if_true];rw[Af0 (g:=f) (l:=r)]
   ·lia
   ·intro y hy
    by_cases e:y=x
    ·subst e;exact absurd hy (abR.1 nd').1
    ·simp[e]
  ·intro i hi hn;simp[hn]
structure Rot (n:Nat)(X Y:Nat->Int)(adj:Nat->Nat->Prop)(nx:Nat->Nat->Nat)(ring:Nat->List Nat):Prop where
 mem:∀v x,v<n->(x∈ring v↔adj v x)
 nod:∀v,v<n->(ring v).Nodup
 rot:∀v,v<n->∃l a,ring v=l++[a]/\(ring v).map (fun t=>nx t v)=a::l
 nxt:∀u v,adj u v->Nxt X Y adj v u (nx u v)
def Cl (adj:Nat->Nat->Prop)(nx:Nat->Nat->Nat)(g:Nat->Nat->Prop):Prop:=∀u v,adj u v->(g u v↔g v (nx u v))
noncomputable def cg (adj:Nat->Nat->Prop) (g:Nat->Nat->Prop) (u v:Nat):Int:=nd (adj u v/\g u v)-nd (adj v u/\g v u)
section
variable {n:Nat}{X Y:Nat->Int}{adj:Nat->Nat->Prop}{nx:Nat->Nat->Nat}{ring:Nat->List Nat}
theorem Rot.sum (r:Rot n X Y adj nx ring){v:Nat}(hv:v<n)(f:Nat->Int):Afw (fun t=>f (nx t v)) (ring v)=Afw f (ring v):=by
 obtain⟨l,a,e1,e2⟩:=r.rot v hv;rw[<-Ani f (fun t=>nx t v),e2,e1,Agj];simp only[Afw];lia
theorem As9 (d:Draw n X Y adj)(r:Rot n X Y adj nx ring){g:Nat->Nat->Prop}(hg:Cl adj nx g):Alh n adj (cg adj g) where
 anti:=by intro u v;unfold cg;lia
 off:=by
  intro u v h;unfold cg;rw[Aal (fun z=>h z.1),Aal (fun z=>h (d.sym _ _ z.1))];rfl
 cons:=by
  intro v hv;rw[Awd n _ (ring v) (r.nod v hv) (fun x hx=>d.lt2 ((r.mem v x hv).1 hx))]
  ·have e:Afw (cg adj g v) (ring v)=Afw (fun t=>nd (adj v t/\g v t)) (ring v)-Afw (fun t=>nd (adj t v/\g t v)) (ring v):=by
    have:∀l,Afw (cg adj g v) l=Afw (fun t=>nd (adj v t/\g v t)) l-Afw (fun t=>nd (adj t v/\g t v)) l:=by
     intro l
     induction l with
     | nil=>rfl
     | cons x s ih=>simp only[Afw];rw[ih];unfold cg;lia
    exact this _
   rw[e,<-r.sum hv (fun t=>nd (adj v t/\g v t))];rw[Af0 (f:=fun t=>nd (adj v (nx t v)/\g v (nx t v))) (g:=fun t=>nd (adj t v/\g t v))]
   ·lia
   ·intro x hx;have a:=d.sym _ _ ((r.mem v x hv).1 hx);apply Aah;constructor
    ·intro z;exact⟨a,(hg x v a).2 z.2⟩
    ·intro z;exact⟨(r.nxt x v a).here,(hg x v a).1 z.2⟩
  ·intro x hx;have:¬adj v x:=fun z=>hx ((r.mem v x hv).2 z);unfold cg;rw[Aal (fun z=>this z.1),Aal (fun z=>this (d.sym _ _ z.1))];rfl
theorem At1 {A:Type}(f:Nat->A)(nxv:Nat->Nat):∀(l:List Nat) (a b:Nat),(l++[a]).map nxv=b::l->(∀x,x∈l++[a]->f x=f (nxv x))->
 ∀x,x∈l++[a]->f x=f b:=by
 intro l
 induction l with
 | nil =>
  intro a b e h x hx;simp only[ajF,abE,agM,aeX,and_true]at e;have:x=a:=by simpa using hx
  subst this;rw[<-e];exact h x hx
 | cons y l ih =>
  intro a b e h x hx;simp only[adP,abE,aeX]at e;have hy:f y=f b:=by rw[<-e.1];exact h y (by simp)
  rcases aaG.1 (by simpa using hx:x∈y::(l++[a]))with z | z
  ·subst z;exact hy
  ·rw[ih a y e.2 (fun w hw=>h w (by simp only[adP,aaG];exact .inr hw)) x z,hy]
theorem Rot.all {A:Type}(r:Rot n X Y adj nx ring){v:Nat}(hv:v<n)(f:Nat->A)(h:∀x,adj v x->f x=f (nx x v)) :
 ∀x y,adj v x->adj v y->f x=f y:=by
 obtain⟨l,a,e1,e2⟩:=r.rot v hv;rw[e1]at e2;have k:=At1 f (fun t=>nx t v) l a a e2 (fun x hx=>h x ((r.mem v x hv).1 (by rw[e1];exact hx)));intro x y hx hy;rw[k x (by rw[<-e1];exact(r.mem v x hv).2 hx),k y (by rw[<-e1];exact(r.mem v y hv).2 hy)]
theorem Aux (d:Draw n X Y adj)(r:Rot n X Y adj nx ring)
 (con:∀K:Nat->Prop,K 0->(∀u v,K u->adj u v->K v)->∀v,v<n->K v)
 (f:Nat->Nat->Int) (h1:∀u v,adj u v->f u v=f v (nx u v)) (h2:∀u v,adj u v->f u v=f v u) {a:Nat} (h0:adj 0 a) :
 ∀u v,adj u v->f u v=f 0 a:=by
 have at1:∀v,v<n->∀x y,adj v x->adj v y->f v x=f v y:=by
  intro v hv;apply r.all hv (fun x=>f v x);intro x hx;rw[h2 v x hx];exact h1 x v (d.sym _ _ hx)
 have:=con (fun u=>∀v,adj u v->f u v=f 0 a) (fun v hv=>at1 0 (d.lt _ _ h0) v a hv h0) (by
  intro u v hu a' w hw;have:=hu v a';rw[<-this,h2 u v a']
  exact at1 v (d.lt2 a') w u hw (d.sym _ _ a'))
 intro u v a';exact this u (d.lt _ _ a') v a'
theorem Bex (d:Draw n X Y adj)(r:Rot n X Y adj nx ring)
 (con:∀K:Nat->Prop,K 0->(∀u v,K u->adj u v->K v)->∀v,v<n->K v)
 {a:Nat} (h0:adj 0 a) (hmin:∀t,adj 0 t->t≠a->0<T X Y 0 a t) {g:Nat->Nat->Prop} (hg:Cl adj nx g) :
 ∀u v,adj u v->ph n X Y (cg adj g) u v=nd (g u v)-nd (g a 0):=by
 have hc:=As9 d r hg;have n0:=d.lt _ _ h0;have na:=d.lt2 h0;have a0:0<a:=by have:=d.ne _ _ h0;lia
 have k:=Aux d r con (fun u v=>ph n X Y (cg adj g) u v-nd (g u v))
  (by
   intro u v h;show _-_=_-_
   rw[round d hc h (r.nxt u v h),Aah (hg u v h)])
  (by
   intro u v h;show _-_=_-_;rw[Ayj d hc h];have:cg adj g u v=nd (g u v)-nd (g v u):=by
    unfold cg;rw[Aah (show adj u v/\g u v↔g u v from⟨fun z=>z.2,fun z=>⟨h,z⟩⟩),Aah (show adj v u/\g v u↔g v u from⟨fun z=>z.2,fun z=>⟨d.sym _ _ h,z⟩⟩)]
   lia) h0
 have z:ph n X Y (cg adj g) a 0=0:=by
  have e:=Ayj d hc h0;have:ph n X Y (cg adj g) 0 a=cg adj g 0 a:=by
   unfold ph;rw[ifp a0,<-Al3 (c:=cg adj g) n0 na a0];apply Acc hc.off;intro p q hp hq pq ap;apply Aah;unfold Aoz;constructor
   ·intro w;have p0:p=0:=by lia
    subst p0;rw[ifp rfl]at w;refine⟨rfl,?_⟩;rcases Classical.em (q=a)with e | e
    ·exact e
    ·have:=hmin q ap e;lia
   ·intro w;obtain⟨w1,w2⟩:=w;subst w1 w2;rw[ifp rfl,T_2];exact⟨aaK _,a0,by lia⟩
  lia
 intro u v h;have e1:=k u v h;have e2:=k a 0 (d.sym _ _ h0);lia
def Bbj (ps c:Nat->Int):Int->List Nat->Prop
 | _,[]=>True
 | b,x::r=>ps x=b+c x/\Bbj ps c (ps x) r
theorem Awg (ps c:Nat->Int)(nxv:Nat->Nat):∀(l:List Nat) (a b:Nat),(l++[a]).map nxv=b::l->(∀x,x∈l++[a]->ps x-c x=ps (nxv x))->
 Bbj ps c (ps b) (l++[a]):=by
 intro l
 induction l with
 | nil =>
  intro a b e h;simp only[ajF,abE,agM,aeX,and_true]at e;have:=h a (by simp);rw[e]at this;exact⟨by lia,trivial⟩
 | cons y l ih =>
  intro a b e h;simp only[adP,abE,aeX]at e;have:=h y (by simp);rw[e.1]at this;exact⟨by lia,ih a y e.2 (fun w hw=>h w (by simp only[adP,aaG];exact .inr hw))⟩
theorem Aiz {ps c:Nat->Int}{w:Nat}:∀{l:List Nat} {b:Int},Bbj ps c b l->w∈l->l.Nodup->(∀x,x∈l->x≠w->c x=0)->ps w=b+c w
 | [],_,_,h,_,_=>by simp at h
 | x::r,b,s,h,nd',z=>by
  by_cases e:x=w
  ·subst e;exact s.1
  ·have c0:=z x (by simp) e;have hr:w∈r:=by
    rcases aaG.1 h with y | y
    ·exact absurd y.symm e
    ·exact y
   have:=Aiz s.2 hr (abR.1 nd').2 (fun y hy=>z y (by simp[hy]));have:=s.1;lia
theorem An0 {ps c:Nat->Int}{w1 w2:Nat}(hn:w1≠w2)(c1:c w1=1)(c2:c w2 = -1):∀{l:List Nat} {b:Int},Bbj ps c b l->w1∈l->w2∈l->l.Nodup->
 (∀x,x∈l->x≠w1->x≠w2->c x=0)->ps w1≠ps w2
 | [],_,_,h,_,_,_=>by simp at h
 | x::r,b,s,h1,h2,nd',z=>by
  have nr:=abR.1 nd'
  by_cases e1:x=w1
  ·subst e1;have hr:w2∈r:=by
    rcases aaG.1 h2 with y | y
    ·exact absurd y.symm hn
    ·exact y
   have:=Aiz s.2 hr nr.2 (fun y hy hz=>z y (by simp[hy]) (by intro e;subst e;exact nr.1 hy) hz);have:=s.1;lia
  by_cases e2:x=w2
  ·subst e2;have hr:w1∈r:=by
    rcases aaG.1 h1 with y | y
    ·exact absurd y hn
    ·exact y
   have:=Aiz s.2 hr nr.2 (fun y hy hz=>z y (by simp[hy]) hz (by intro e;subst e;exact nr.1 hy));have:=s.1;lia
  ·have c0:=z x (by simp) e1 e2;have hr1:w1∈r:=by
    rcases aaG.1 h1 with y | y
    ·exact absurd y.symm e1
    ·exact y
   have hr2:w2∈r:=by
    rcases aaG.1 h2 with y | y
    ·exact absurd y.symm e2
    ·exact y
   exact An0 hn c1 c2 s.2 hr1 hr2 nr.2 (fun y hy=>z y (by simp[hy]))
structure Path (n:Nat)(adj:Nat->Nat->Prop)(v s j:Nat)(c:Nat->Nat->Int):Prop where
 anti:∀x y,c x y =-c y x
 off:∀x y,¬adj x y->c x y=0
 shut:∀x,c v x=0
 div:∀x,x<n->sm n (fun t=>c x t)=nd (x=s)-nd (x=j)
noncomputable def one (a b x y:Nat):Int:=nd (x=a/\y=b)-nd (x=b/\y=a)
theorem Am0 {a b x:Nat}(ha:a<n)(hb:b<n):sm n (fun t=>one a b x t)=nd (x=a)-nd (x=b):=by
 unfold one;rw[Ahy]
 congr 1
 ·by_cases e:x=a
  ·rw[Afe (k:=b) hb]
   ·rw[Abx ⟨e,rfl⟩,Abx e]
   ·intro i hi hn;rw[Aal (fun z=>hn z.2)]
  ·rw[Aal e];apply Abf;intro i hi;rw[Aal (fun z=>e z.1)]
 ·by_cases e:x=b
  ·rw[Afe (k:=a) ha]
   ·rw[Abx ⟨e,rfl⟩,Abx e]
   ·intro i hi hn;rw[Aal (fun z=>hn z.2)]
  ·rw[Aal e];apply Abf;intro i hi;rw[Aal (fun z=>e z.1)]
theorem Aj5 (a b x y:Nat):one a b x y =-one a b y x:=by
 unfold one;rw[Aah (show x=a/\y=b↔y=b/\x=a from And.comm),Aah (show x=b/\y=a↔y=a/\x=b from And.comm)];lia
theorem Alz (d:Draw n X Y adj){a b:Nat}(h:adj a b)(x y:Nat)(hn:¬adj x y):one a b x y=0:=by
 unfold one;rw[Aal (by intro z;rw[z.1,z.2]at hn;exact hn h),Aal (by intro z;rw[z.1,z.2]at hn;exact hn (d.sym _ _ h))];rfl
theorem Path.start (adj:Nat->Nat->Prop)(v s:Nat):Path n adj v s s (fun _ _=>0) where
 anti:=by intro _ _;rfl
 off:=by intro _ _ _;rfl
 shut:=by intro _;rfl
 div:=by intro x hx;rw[Abf (fun _ _=>rfl)];lia
theorem Path.step (d:Draw n X Y adj){v s j k:Nat}{c:Nat->Nat->Int}(h:Path n adj v s j c)(a:adj j k)(hj:j≠v)(hk:k≠v) :
 Path n adj v s k (fun x y=>c x y+one j k x y) where
 anti:=by intro x y;have:=h.anti x y;have:=Aj5 j k x y;lia
 off:=by intro x y z;have:=h.off x y z;have:=Alz d a x y z;lia
 shut:=by
  intro x;have:=h.shut x;have:one j k v x=0:=by
   unfold one;rw[Aal (fun z=>hj z.1.symm),Aal (fun z=>hk z.1.symm)];rfl
  lia
 div:=by
  intro x hx;rw[Aci,h.div x hx,Am0 (d.lt _ _ a) (d.lt2 a)];lia
def Bdh (n:Nat)(adj:Nat->Nat->Prop)(v:Nat):Prop :=
 ∃s,s<n/\s≠v/\∀K:Nat->Prop,K s->(∀x y,K x->adj x y->y≠v->K y)->∀x,x<n->x≠v->K x
theorem Ben (d:Draw n X Y adj)(r:Rot n X Y adj nx ring){v:Nat}(hv:v<n)(con2:Bdh n adj v){w1 w2:Nat}(h1:adj v w1)(h2:adj v w2)
 (same:∀c,Alh n adj c->ph n X Y c v w1=ph n X Y c v w2):w1=w2:=by
 rcases Classical.em (w1=w2)with e | hn
 ·exact e
 exfalso;obtain⟨s,sn,sv,con⟩:=con2;have get:∀x,x<n->x≠v->∃c,Path n adj v s x c:=by
  intro x hx hxv
  have:=con (fun x=>x≠v/\∃c,Path n adj v s x c) ⟨sv,_,Path.start adj v s⟩ (by
   intro x y hx a hy;obtain⟨hx,c,hc⟩:=hx
   exact⟨hy,_,hc.step d a hx hy⟩) x hx hxv
  exact this.2
 have nv1:=d.ne _ _ h1;have nv2:=d.ne _ _ h2;obtain⟨c1,p1⟩:=get w1 (d.lt2 h1) (acU nv1);obtain⟨c2,p2⟩:=get w2 (d.lt2 h2) (acU nv2)
 let c:Nat->Nat->Int:=fun x y=>one v w1 x y-c1 x y+c2 x y+one w2 v x y
 have hc:Alh n adj c:=by
  refine⟨?_,?_,?_⟩
  ·intro x y;have:=Aj5 v w1 x y;have:=Aj5 w2 v x y;have:=p1.anti x y;have:=p2.anti x y;simp only[c];lia
  ·intro x y z;have:=Alz d h1 x y z;have:=Alz d (d.sym _ _ h2) x y z;have:=p1.off x y z;have:=p2.off x y z;simp only[c];lia
  ·intro x hx;simp only[c];rw[Aci,Aci,Ahy,p1.div x hx,p2.div x hx,Am0 hv (d.lt2 h1),Am0 (d.lt2 h2) hv];lia
 have cv:∀x,c v x=nd (x=w1)-nd (x=w2):=by
  intro x;simp only[c];rw[p1.shut x,p2.shut x];unfold one
  rw[Aah (show v=v/\x=w1↔x=w1 from⟨fun z=>z.2,fun z=>⟨rfl,z⟩⟩),Aal (P:=v=w1/\_) (fun z=>nv1 z.1),
   Aal (P:=v=w2/\_) (fun z=>nv2 z.1),Aah (show v=v/\x=w2↔x=w2 from⟨fun z=>z.2,fun z=>⟨rfl,z⟩⟩)]
  lia
 obtain⟨l,a,e1,e2⟩:=r.rot v hv;have sc:Bbj (fun x=>ph n X Y c v x) (fun x=>c v x) (ph n X Y c v a) (l++[a]):=by
  rw[e1]at e2;apply Awg (fun x=>ph n X Y c v x) (fun x=>c v x) (fun t=>nx t v) l a a e2;intro x hx;have ax:=(r.mem v x hv).1 (by rw[e1];exact hx);exact Avx d hc ax (r.nxt x v (d.sym _ _ ax))
 have nod:=r.nod v hv;have m1:=(r.mem v w1 hv).2 h1;have m2:=(r.mem v w2 hv).2 h2;rw[e1]at nod m1 m2;refine An0 hn ?_ ?_ sc m1 m2 nod ?_ (same c hc)
 ·show c v w1=1;rw[cv,Abx rfl,Aal hn];rfl
 ·show c v w2 = -1;rw[cv,Aal (acU hn),Abx rfl];rfl
 ·intro x _ y1 y2;show c v x=0;rw[cv,Aal y1,Aal y2];rfl
end
def num (X Y:Nat->Int)(p q:Nat)(m:Int):Int:=X p*(Y q-Y p)+(X q-X p)*(m-Y p)
structure Den (Y:Nat->Int)(adj:Nat->Nat->Prop)(K:Nat->Nat->Int)(M:Int):Prop where
 pos:0<M
 kpos:∀p q,adj p q->p<q->0<K p q
 kmul:∀p q,adj p q->p<q->K p q*(Y q-Y p)=M
def Ps (X Y:Nat->Int)(K:Nat->Nat->Int)(p q:Nat)(m:Int):Int:=num X Y p q m*K p q
theorem S1 (X Y:Nat->Int)(u v p q:Nat)(m:Int):num X Y p q m*(Y v-Y u)-num X Y u v m*(Y q-Y p)=T X Y p q u*(Y v-m)+T X Y p q v*(m-Y u):=by
 unfold num T;grind
theorem S2 (X Y:Nat->Int)(u v p q:Nat)(m:Int):num X Y p q m*(Y v-Y u)-num X Y u v m*(Y q-Y p) =-(T X Y u v p*(Y q-m))-T X Y u v q*(m-Y p):=by
 unfold num T;grind
section
variable {n:Nat}{X Y:Nat->Int}{adj:Nat->Nat->Prop}{K:Nat->Nat->Int}{M:Int}
theorem Bdf (k:Den Y adj K M){u v p q:Nat}(huv:adj u v)(h:u<v)(hpq:adj p q)(g:p<q)(m:Int) :
 Ps X Y K u v m<=Ps X Y K p q m↔0<=num X Y p q m*(Y v-Y u)-num X Y u v m*(Y q-Y p):=by
 have k1:=k.kpos u v huv h;have k2:=k.kpos p q hpq g;have m1:=k.kmul u v huv h;have m2:=k.kmul p q hpq g;have mp:=k.pos;have kk:=Aat k1 k2;unfold Ps;have e:(num X Y p q m*K p q-num X Y u v m*K u v)*M=(num X Y p q m*(Y v-Y u)-num X Y u v m*(Y q-Y p))*(K u v*K p q):=by
  have e1:num X Y p q m*K p q*M=num X Y p q m*K p q*(K u v*(Y v-Y u)):=by rw[m1]
  have e2:num X Y u v m*K u v*M=num X Y u v m*K u v*(K p q*(Y q-Y p)):=by rw[m2]
  rw[Int.sub_mul,e1,e2];grind
 constructor
 ·intro z;have:0<=(num X Y p q m*K p q-num X Y u v m*K u v)*M:=adT (by lia) (by lia);rw[e]at this;rcases abW (num X Y p q m*(Y v-Y u)-num X Y u v m*(Y q-Y p)) 0 with x | x
  ·have:=Aau x kk;lia
  ·exact x
 ·intro z;have:0<=(num X Y p q m*(Y v-Y u)-num X Y u v m*(Y q-Y p))*(K u v*K p q):=adT z (by lia);rw[<-e]at this;rcases abW (num X Y p q m*K p q-num X Y u v m*K u v) 0 with x | x
  ·have:=Aau x mp;lia
  ·lia
theorem Draw.mle (d:Draw n X Y adj){i j:Nat}(h:i<=j)(hj:j<n):Y i<=Y j:=by
 rcases adV h with e | e
 ·rw[e];exact Int.le_refl _
 ·have:=d.mono i j e hj;lia
theorem Draw.lt_of (d:Draw n X Y adj){i j:Nat}(h:Y i<Y j)(hi:i<n):i<j:=by
 rcases acS i j with e | e
 ·exact e
 ·have:=d.mle e hi;lia
set_option maxHeartbeats 1000000 in
theorem Au3 (d:Draw n X Y adj)(k:Den Y adj K M){u v p q:Nat}(huv:adj u v)(h:u<v)(hpq:adj p q)(g:p<q){m:Int}
 (m1:Y u<m) (m2:m<Y v) (hm:∀w,w<n->Y w≠m) :
 nd (Aoz X Y u v p q)-nd (Y p<m/\m<Y q/\Ps X Y K u v m<=Ps X Y K p q m) =
  nd (u<q/\Y q<m/\T X Y u v q<0)-nd (u<p/\Y p<m/\T X Y u v p<0):=by
 have hu:=d.lt _ _ huv;have hv:=d.lt2 huv;have hp:=d.lt _ _ hpq;have hq:=d.lt2 hpq;have yuv:=d.mono u v h hv;have ypq:=d.mono p q g hq;have mp:=hm p hp;have mq:=hm q hq
 rw[Aah (P:=Y p<m/\m<Y q/\_) (Q:=Y p<m/\m<Y q/\0<=num X Y p q m*(Y v-Y u)-num X Y u v m*(Y q-Y p))
  (by rw[Bdf k huv h hpq g m])]
 have s1:=S1 X Y u v p q m;have s2:=S2 X Y u v p q m;generalize num X Y p q m*(Y v-Y u)-num X Y u v m*(Y q-Y p)=S at s1 s2 ⊢;have e1:=E1 X Y u v p q;have e3:=E1 X Y p q u v;have ff:=d.four huv h hpq g hv hq;unfold Aoz;rcases acS u q with uq | uq
 rotate_left
 ·have:=d.mle uq hu;rw[Aal (by lia),Aal (by lia),Aal (by lia),Aal (by lia)]
 have yuq:=d.mono u q uq hq;rcases abW (Y p) m with pm | pm
 rotate_left
 ·have up:u<p:=d.lt_of (by lia) hu;rw[Aal (by lia),Aal (by lia),Aal (by lia),Aal (by lia)]
 have pv:p<v:=d.lt_of (by lia) hp;rcases acS u p with up | up
 ·have fp:=d.free u v p huv up pv;have yup:=d.mono u p up hp;rw[Aal (P:=p<=u/\_) (by lia)];rcases abW (Y q) m with qm | qm
  ·have qv:q<v:=d.lt_of (by lia) hq;have yqv:=d.mono q v qv hv;have fq:=d.free u v q huv uq qv;rw[Aal (P:=Y p<m/\_) (by lia)];rw[Aah (P:=u<q/\Y q<m/\T X Y u v q<0) (Q:=u<p/\Y p<m/\T X Y u v p<0)]
   ·lia
   ·constructor
    ·intro z;refine⟨up,pm,?_⟩;rcases abC (T X Y u v p) 0 with s | s | s
     ·exact s
     ·exact absurd s fp
     ·exact(ff.f4 yup yqv s z.2.2).elim
    ·intro z;refine⟨uq,qm,?_⟩;rcases abC (T X Y u v q) 0 with s | s | s
     ·exact s
     ·exact absurd s fq
     ·exact(ff.f3 yup yqv z.2.2 s).elim
  ·rw[Aal (P:=u<q/\Y q<m/\_) (by lia)];rw[Aah (P:=Y p<m/\m<Y q/\0<=S) (Q:=u<p/\Y p<m/\T X Y u v p<0)]
   ·constructor
    ·intro z;refine⟨up,pm,?_⟩;rcases abC (T X Y u v p) 0 with s | s | s
     ·exact s
     ·exact absurd s fp
     ·exfalso;have x1:=Aat s (show 0<Y q-m by lia);have hB:T X Y u v q<0:=ln (b:=m-Y p) (by lia) (by lia);have x2:=Aau hB (show 0<Y p-Y u by lia);have x3:=Aat s (show 0<Y q-Y u by lia);have hC:T X Y p q u<0:=ln (b:=Y v-Y u) (by lia) (by lia);have x4:=Aau hC (show 0<Y v-m by lia);have hD:0<T X Y p q v:=lp (b:=m-Y u) (by lia) (by lia);exact ff.cr (Ab4 s hB) (Aau hC hD)
    ·intro z;refine⟨pm,by lia,?_⟩;rcases abW S 0 with s | s
     ·exfalso;have hA:=z.2.2;have x1:=Aau hA (show 0<Y q-m by lia);have hB:0<T X Y u v q:=lp (b:=m-Y p) (by lia) (by lia);have x2:=Aat hB (show 0<Y p-Y u by lia);have x3:=Aau hA (show 0<Y q-Y u by lia);have hC:0<T X Y p q u:=lp (b:=Y v-Y u) (by lia) (by lia);have x4:=Aat hC (show 0<Y v-m by lia);have hD:T X Y p q v<0:=ln (b:=m-Y u) (by lia) (by lia);exact ff.cr (Aau hA hB) (Ab4 hC hD)
     ·exact s
 ·rw[Aal (P:=u<p/\_) (by lia)];rcases abW (Y q) m with qm | qm
  ·have qv:q<v:=d.lt_of (by lia) hq;have yqv:=d.mono q v qv hv;have fq:=d.free u v q huv uq qv;rw[Aal (P:=Y p<m/\m<Y q/\_) (by lia)];rw[Aah (P:=p<=u/\_) (Q:=u<q/\Y q<m/\T X Y u v q<0)]
   ·rcases adV up with e | e
    ·subst e;rw[ifp rfl];constructor
     ·intro z;exact⟨uq,qm,by lia⟩
     ·intro z;exact⟨aaK _,uq,by lia⟩
    ·rw[ifn (by lia)];have fu:=d.free p q u hpq e uq;have y1:=d.mono p u e hu;constructor
     ·intro z;refine⟨uq,qm,?_⟩;rcases abC (T X Y u v q) 0 with s | s | s
      ·exact s
      ·exact absurd s fq
      ·exact(ff.f1 y1 yuq yqv z.2.2 s).elim
     ·intro z;refine⟨up,uq,?_⟩;rcases abC (T X Y p q u) 0 with s | s | s
      ·exact(ff.f2 y1 yuq yqv s z.2.2).elim
      ·exact absurd s fu
      ·exact s
  ·rw[Aal (P:=u<q/\Y q<m/\_) (by lia)];rw[Aah (P:=p<=u/\_) (Q:=Y p<m/\m<Y q/\0<=S)]
   ·lia
   ·rcases adV up with e | e
    ·subst e;rw[ifp rfl];rw[T_1]at s2;constructor
     ·intro z;refine⟨pm,by lia,?_⟩;have:T X Y p v q*(m-Y p)<=0:=acO z.2.2 (by lia);lia
     ·intro z;refine⟨aaK _,uq,?_⟩;rcases abW 0 (T X Y p v q)with s | s
      ·have:=Aat s (show 0<m-Y p by lia);lia
      ·exact s
    ·rw[ifn (by lia)];have fu:=d.free p q u hpq e uq;have y1:=d.mono p u e hu;constructor
     ·intro z;refine⟨pm,by lia,?_⟩;rcases abW S 0 with s | s
      ·exfalso;have hC:=z.2.2;have x1:=Aat hC (show 0<Y v-m by lia);have hD:T X Y p q v<0:=ln (b:=m-Y u) (by lia) (by lia);have x2:=Aau hD (show 0<Y u-Y p by lia);have x3:=Aat hC (show 0<Y v-Y p by lia);have hA:T X Y u v p<0:=ln (b:=Y q-Y p) (by lia) (by lia);have x4:=Aau hA (show 0<Y q-m by lia);have hB:0<T X Y u v q:=lp (b:=m-Y p) (by lia) (by lia);exact ff.cr (Aau hA hB) (Ab4 hC hD)
      ·exact s
     ·intro z;refine⟨up,uq,?_⟩;rcases abC (T X Y p q u) 0 with s | s | s
      ·exfalso;have x1:=Aau s (show 0<Y v-m by lia);have hD:0<T X Y p q v:=lp (b:=m-Y u) (by lia) (by lia);have x2:=Aat hD (show 0<Y u-Y p by lia);have x3:=Aau s (show 0<Y v-Y p by lia);have hA:0<T X Y u v p:=lp (b:=Y q-Y p) (by lia) (by lia);have x4:=Aat hA (show 0<Y q-m by lia);have hB:T X Y u v q<0:=ln (b:=m-Y p) (by lia) (by lia);exact ff.cr (Ab4 hA hB) (Aau s hD)
      ·exact absurd s fu
      ·exact s
theorem Axq (d:Draw n X Y adj)(k:Den Y adj K M){c:Nat->Nat->Int}(hc:Alh n adj c){u v:Nat}(huv:adj u v)(h:u<v){m:Int}
 (m1:Y u<m) (m2:m<Y v) (hm:∀w,w<n->Y w≠m) :
 fl n c (fun p q=>nd (Y p<m/\m<Y q/\Ps X Y K u v m<=Ps X Y K p q m))=ph n X Y c u v:=by
 unfold ph;rw[ifp h];exact(Arx hc (fun w=>nd (u<w/\Y w<m/\T X Y u v w<0)) (fun p q hp hq g hpq=>Au3 d k huv h hpq g m1 m2 hm)).symm
theorem Au4 (P:Nat->Nat->Prop)(f:Nat->Nat->Int)(t:Int)(lo:∀p q,P p q->t<f p q){a b:Nat}(h:P a b) :
 ∃u v,P u v/\∀p q,P p q->f u v<=f p q:=by
 have key:∀k:Nat,∀a b,P a b->(f a b-t).toNat<=k->∃u v,P u v/\∀p q,P p q->f u v<=f p q:=by
  intro k
  induction k with
  | zero=>intro a b h hk;have:=lo a b h;lia
  | succ k ih =>
   intro a b h hk
   by_cases e:∃p q,P p q/\f p q<f a b
   ·obtain⟨p,q,hp,hl⟩:=e;have:=lo p q hp;exact ih p q hp (by lia)
   ·refine⟨a,b,h,?_⟩;intro p q hp;rcases abW (f p q) (f a b)with x | x
    ·exact absurd ⟨p,q,hp,x⟩ e
    ·exact x
 exact key _ a b h (aaK _)
noncomputable def wn (n:Nat) (X Y:Nat->Int) (K:Nat->Nat->Int) (c:Nat->Nat->Int) (m t:Int):Int :=
 fl n c (fun p q=>nd (Y p<m/\m<Y q/\t<Ps X Y K p q m))
theorem Bbo (d:Draw n X Y adj)(k:Den Y adj K M)(m t:Int)(hm:∀w,w<n->Y w≠m) :
 ((∀p q,adj p q->p<q->Y p<m->m<Y q->¬t<Ps X Y K p q m)/\∀c,Alh n adj c->wn n X Y K c m t=0)\/
 ∃u v,adj u v/\u<v/\Y u<m/\m<Y v/\t<Ps X Y K u v m/\∀c,Alh n adj c->wn n X Y K c m t=ph n X Y c u v:=by
 by_cases e:∃p q,adj p q/\p<q/\Y p<m/\m<Y q/\t<Ps X Y K p q m
 ·right;obtain⟨a,b,h⟩:=e;obtain⟨u,v,h,hl⟩:=Au4 (fun p q=>adj p q/\p<q/\Y p<m/\m<Y q/\t<Ps X Y K p q m) (fun p q=>Ps X Y K p q m) t (fun p q z=>z.2.2.2.2) h;refine⟨u,v,h.1,h.2.1,h.2.2.1,h.2.2.2.1,h.2.2.2.2,?_⟩;intro c hc;rw[<-Axq d k hc h.1 h.2.1 h.2.2.1 h.2.2.2.1 hm];unfold wn;apply Acc hc.off;intro p q hp hq pq a;apply Aah;constructor
  ·intro z;exact⟨z.1,z.2.1,hl p q ⟨a,pq,z⟩⟩
  ·intro z;have:=h.2.2.2.2;exact⟨z.1,z.2.1,by lia⟩
 ·left;refine⟨fun p q a g y1 y2 z=>e ⟨p,q,a,g,y1,y2,z⟩,?_⟩;intro c hc;unfold wn;rw[Acc (g':=fun _ _=>0) hc.off]
  ·unfold fl;apply Abf;intro p _;apply Abf;intro q _;simp
  ·intro p q hp hq pq a;rw[Aal];intro z;exact e ⟨p,q,a,pq,z⟩
end
theorem Ay4 (n:Nat)(c:Nat->Nat->Int):fl n c (fun _ _=>0)=0:=by
 unfold fl;apply Abf;intro p _;apply Abf;intro q _;simp
theorem Ay5 (n:Nat)(c:Nat->Nat->Int)(g:Nat->Nat->Nat->Int):∀R,fl n c (fun p q=>sm R (fun i=>g i p q))=sm R (fun i=>fl n c (g i))
 | 0=>by simp only[sm];exact Ay4 n c
 | R+1=>by simp only[sm];rw[Anr,Ay5 n c g R]
theorem Anq (n:Nat)(c:Nat->Nat->Int)(k:Int)(g:Nat->Nat->Int):fl n c (fun p q=>k*g p q)=k*fl n c g:=by
 unfold fl;rw[<-Aqa];apply Aam;intro p _;rw[<-Aqa];apply Aam;intro q _
 by_cases h:p<q
 ·simp only[ifp h];rw[<-Int.mul_assoc,<-Int.mul_assoc,afL k]
 ·simp only[ifn h];simp
theorem Aka {n:Nat}{f:Nat->Int}(h:∀i,i<n->0<=f i):0<=sm n f:=by
 induction n with
 | zero=>simp[sm]
 | succ n ih=>have:=ih (fun i hi=>h i (by lia));have:=h n (by lia);simp only[sm];lia
theorem Avc {n:Nat}{f:Nat->Int}(h:∀i,i<n->0<=f i){k:Nat}(hk:k<n)(hp:0<f k):0<sm n f:=by
 induction n with
 | zero=>lia
 | succ n ih =>
  simp only[sm]
  by_cases e:k=n
  ·subst e;have:=Aka (n:=k) (f:=f) (fun i hi=>h i (by lia));lia
  ·have:=ih (fun i hi=>h i (by lia)) (by lia);have:=h n (by lia);lia
theorem Avb {n:Nat}{f G:Nat->Int}(h:∀i,i<n->f i=G (i+1)-G i):sm n f=G n-G 0:=by
 induction n with
 | zero=>simp[sm]
 | succ n ih=>simp only[sm];rw[ih (fun i hi=>h i (by lia)),h n (by lia)];lia
theorem Bem (B:Nat)(x:Int)(h0:0<=x)(h1:x<=B):sm B (fun t=>nd ((t:Int)<x))=x:=by
 rw[Avb (G:=fun i=>if (i:Int)<=x then(i:Int)else x)]
 ·try dsimp only
  split<;>split<;>lia
 ·intro i hi
  by_cases e:(i:Int)<x
  ·rw[Abx e];(try dsimp only);rw[ifp (by lia),ifp (by lia)];lia
  ·rw[Aal e];try dsimp only
   by_cases e2:(i:Int)=x
   ·rw[ifn (by lia),ifp (by lia)];lia
   ·rw[ifn (by lia),ifn (by lia)];lia
theorem Bep (R a b:Nat)(A C:Int)(hab:a<=b)(hb:b<=R) :
 sm R (fun i=>if a<=i/\i<b then A+C*(2*(i:Int)+1-2*a)else 0)=((b:Int)-a)*A+C*(((b:Int)-a)*((b:Int)-a)):=by
 rw[Avb (G:=fun i=>if i<=a then 0 else if i<b then((i:Int)-a)*A+C*(((i:Int)-a)*((i:Int)-a)) else((b:Int)-a)*A+C*(((b:Int)-a)*((b:Int)-a)))]
 ·try dsimp only
  rw[ifp (abO _)]
  by_cases e:R<=a
  ·have:b=a:=by lia
   subst this;rw[ifp e];simp
  ·rw[ifn e]
   by_cases e2:R<b
   ·lia
   ·rw[ifn e2];lia
 ·intro i hi
  try dsimp only
  by_cases h1:a<=i
  ·by_cases h2:i<b
   ·rw[ifp ⟨h1,h2⟩,ifn (by lia)];have sq:((i:Int)+1-a)*A+C*(((i:Int)+1-a)*((i:Int)+1-a))=(((i:Int)-a)*A+C*(((i:Int)-a)*((i:Int)-a)))+(A+C*(2*(i:Int)+1-2*a)):=by grind
    have e2:(if i<=a then 0 else if i<b then((i:Int)-a)*A+C*(((i:Int)-a)*((i:Int)-a)) else((b:Int)-a)*A+C*(((b:Int)-a)*((b:Int)-a)))=((i:Int)-a)*A+C*(((i:Int)-a)*((i:Int)-a)):=by
     by_cases e:i<=a
     ·have:i=a:=by lia
      subst this;rw[ifp e];simp
     ·rw[ifn e,ifp h2]
    rw[e2]
    by_cases h3:i+1<b
    ·rw[ifp h3];rw[show((i+1:Nat):Int)=(i:Int)+1 from by lia,sq];lia
    ·rw[ifn h3];have:(b:Int)=(i:Int)+1:=by lia
     rw[this,sq];lia
   ·rw[ifn (by lia),ifn (by lia),ifn (by lia)]
    by_cases e:i<=a
    ·have:b=a:=by lia
     subst this;rw[ifp e];simp
    ·rw[ifn e,ifn (by lia)];lia
  ·rw[ifn (by lia),ifp (by lia),ifp (by lia)];rfl
theorem Aii (f:Nat->Int):∀n,∃B:Nat,∀i,i<n->f i<B/\- (B:Int)<f i
 | 0=>⟨0,by lia⟩
 | n+1=>by
  obtain⟨B,h⟩:=Aii f n;refine⟨B+(f n).natAbs+1,?_⟩;intro i hi
  by_cases e:i=n
  ·subst e;lia
  ·have:=h i (by lia);lia
theorem Bbf (f:Nat->Nat->Nat->Int)(n m r:Nat):∃B:Nat,∀i j k,i<n->j<m->k<r->f i j k<B/\- (B:Int)<f i j k:=by
 have h1:∀i j,∃B:Nat,∀k,k<r->f i j k<B/\- (B:Int)<f i j k:=fun i j=>Aii (f i j) r;have h2:∀i,∃B:Nat,∀j k,j<m->k<r->f i j k<B/\- (B:Int)<f i j k:=by
  intro i;obtain⟨B,h⟩:=Aii (fun j=>((anN (h1 i j):Nat):Int)) m;refine⟨B,?_⟩;intro j k hj hk;have a:=h j hj;have b:=amB (h1 i j) k hk;lia
 obtain⟨B,h⟩:=Aii (fun i=>((anN (h2 i):Nat):Int)) n;refine⟨B,?_⟩;intro i j k hi hj hk;have a:=h i hi;have b:=amB (h2 i) j k hj hk;lia
section
variable {n:Nat}{X Y:Nat->Int}{adj:Nat->Nat->Prop}{K:Nat->Nat->Int}{M:Int}
theorem Be7 (k:Den Y adj K M){H:Nat->Nat}{R:Nat}{p q:Nat}(hp:Y p=2*(H p:Int))(hq:Y q=2*(H q:Int))(hr:H q<=R)(a:adj p q)(h:p<q)(hh:H p<H q) :
 M*((X p+X q)*(Y q-Y p))=4*sm R (fun i=>nd (Y p<2*(i:Int)+1/\2*(i:Int)+1<Y q)*Ps X Y K p q (2*(i:Int)+1)):=by
 have km:=k.kmul p q a h;rw[Aam (g:=fun i=>if H p<=i/\i<H q then X p*(Y q-Y p)*K p q+(X q-X p)*K p q*(2*(i:Int)+1-2*(H p:Nat))else 0)]
 ·rw[Bep R (H p) (H q) _ _ (by lia) hr,<-km,hp,hq];grind
 ·intro i hi
  by_cases e:H p<=i/\i<H q
  ·rw[ifp e,Abx (by lia)];unfold Ps num;rw[hp];grind
  ·rw[ifn e,Aal (by lia)];simp
theorem Ap6 (d:Draw n X Y adj){c:Nat->Nat->Int}(hc:Alh n adj c){m:Int}(hm:∀w,w<n->Y w≠m) :
 fl n c (fun p q=>nd (Y p<m/\m<Y q))=0:=by
 rw[<-Avq hc (fun w=>nd (m<Y w))];apply Acc hc.off;intro p q hp hq pq _;have:=d.mono p q pq hq;have:=hm p hp;have:=hm q hq
 by_cases e1:m<Y q
 ·by_cases e2:m<Y p
  ·rw[Aal (by lia),Abx e1,Abx e2];rfl
  ·rw[Abx ⟨by lia,e1⟩,Abx e1,Aal e2];rfl
 ·rw[Aal (by lia),Aal e1,Aal (by lia)];rfl
theorem Ao1 (d:Draw n X Y adj)(k:Den Y adj K M){H:Nat->Nat}{R:Nat}(hY:∀w,w<n->Y w=2*(H w:Int))(hR:∀w,w<n->H w<=R)
 {c:Nat->Nat->Int} (hc:Alh n adj c):∃B:Nat,
 (∀p q i,p<n->q<n->i<R->Ps X Y K p q (2*(i:Int)+1)<B/\- (B:Int)<Ps X Y K p q (2*(i:Int)+1))/\
 M*fl n c (fun p q=>(X p+X q)*(Y q-Y p))=4*sm R (fun i=>sm (2*B) (fun t=>wn n X Y K c (2*(i:Int)+1) ((t:Int)-B))):=by
 obtain⟨B,hB⟩:=Bbf (fun p q i=>Ps X Y K p q (2*(i:Int)+1)) n n R;refine⟨B,hB,?_⟩;have hm:∀i:Nat,∀w,w<n->Y w≠2*(i:Int)+1:=by
  intro i w hw;have:=hY w hw;lia
 rw[<-Anq];rw[Acc (g':=fun p q=>4*sm R (fun i=>nd (Y p<2*(i:Int)+1/\2*(i:Int)+1<Y q)*Ps X Y K p q (2*(i:Int)+1))) hc.off]
 ·rw[Anq,Ay5 n c (fun i p q=>nd (Y p<2*(i:Int)+1/\2*(i:Int)+1<Y q)*Ps X Y K p q (2*(i:Int)+1))]
  congr 1
  apply Aam;intro i hi;have e:fl n c (fun p q=>nd (Y p<2*(i:Int)+1/\2*(i:Int)+1<Y q)*Ps X Y K p q (2*(i:Int)+1)) =
   fl n c (fun p q=>sm (2*B) (fun t=>nd (Y p<2*(i:Int)+1/\2*(i:Int)+1<Y q/\(t:Int)-B<Ps X Y K p q (2*(i:Int)+1)))-(B:Int)*nd (Y p<2*(i:Int)+1/\2*(i:Int)+1<Y q)):=by
   apply Acc hc.off;intro p q hp hq pq a;have b:=hB p q i hp hq hi
   (try dsimp only at b)
   by_cases e:Y p<2*(i:Int)+1/\2*(i:Int)+1<Y q
   ·rw[Abx e];have o:=Bem (2*B) (Ps X Y K p q (2*(i:Int)+1)+B) (by lia) (by lia);rw[Aam (g:=fun t:Nat=>nd ((t:Int)<Ps X Y K p q (2*(i:Int)+1)+B))]
    ·rw[o];lia
    ·intro t _;apply Aah;constructor
     ·intro z;lia
     ·intro z;exact⟨e.1,e.2,by lia⟩
   ·rw[Aal e,Abf]
    ·simp
    ·intro t _;rw[Aal (fun z=>e ⟨z.1,z.2.1⟩)]
  rw[e,Al2,Anq,Ap6 d hc (hm i),Ay5 n c (fun t p q=>nd (Y p<2*(i:Int)+1/\2*(i:Int)+1<Y q/\(t:Int)-B<Ps X Y K p q (2*(i:Int)+1)))];unfold wn;simp
 ·intro p q hp hq pq a;have:=d.mono p q pq hq;have h1:=hY p hp;have h2:=hY q hq;exact Be7 k h1 h2 (hR q hq) a pq (by lia)
theorem Auu (d:Draw n X Y adj)(k:Den Y adj K M){H:Nat->Nat}{R:Nat}(hY:∀w,w<n->Y w=2*(H w:Int))(hR:∀w,w<n->H w<=R)
 {c:Nat->Nat->Int} (hc:Alh n adj c) (nn:∀u v,adj u v->u<v->0<=ph n X Y c u v) {u v:Nat} (a:adj u v) (h:u<v) (hp:0<ph n X Y c u v) :
 0<fl n c (fun p q=>(X p+X q)*(Y q-Y p)):=by
 obtain⟨B,hB,e⟩:=Ao1 d k hY hR hc;have hm:∀i:Nat,∀w,w<n->Y w≠2*(i:Int)+1:=by
  intro i w hw;have:=hY w hw;lia
 have w0:∀(i:Nat) (t:Int),0<=wn n X Y K c (2*(i:Int)+1) t:=by
  intro i t;rcases Bbo d k (2*(i:Int)+1) t (hm i)with z | z
  ·rw[z.2 c hc];lia
  ·obtain⟨u,v,a,h,_,_,_,z⟩:=z;rw[z c hc];exact nn u v a h
 have hu:=d.lt _ _ a;have hv:=d.lt2 a;have yu:=hY u hu;have yv:=hY v hv;have yuv:=d.mono u v h hv;have rv:=hR v hv;have b:=hB u v (H u) hu hv (by lia);have pos:0<sm R (fun i=>sm (2*B) (fun t=>wn n X Y K c (2*(i:Int)+1) ((t:Int)-B))):=by
  apply Avc (k:=H u)
  ·intro i _;exact Aka (fun t _=>w0 i _)
  ·lia
  ·apply Avc (k:=(Ps X Y K u v (2*(H u:Int)+1)-1+B).toNat)
   ·intro t _;exact w0 _ _
   ·lia
   ·rw[<-Axq d k hc a h (m:=2*(H u:Int)+1) (by lia) (by lia) (hm (H u))]at hp;have e2:(((Ps X Y K u v (2*(H u:Int)+1)-1+B).toNat:Nat):Int)-B=Ps X Y K u v (2*(H u:Int)+1)-1:=by lia
    rw[e2];unfold wn;rw[Acc (g':=fun p q=>nd (Y p<2*(H u:Int)+1/\2*(H u:Int)+1<Y q/\Ps X Y K u v (2*(H u:Int)+1)<=Ps X Y K p q (2*(H u:Int)+1))) hc.off]
    ·exact hp
    ·intro p q _ _ _ _;apply Aah;constructor
     ·intro z;exact⟨z.1,z.2.1,by lia⟩
     ·intro z;exact⟨z.1,z.2.1,by lia⟩
 have:0<M*fl n c (fun p q=>(X p+X q)*(Y q-Y p)):=by lia
 exact lp (b:=M) (by rw[afL];exact this) k.pos
end
end Pg
end
section
namespace Pg
open Gla
def NN:Nat:=2097152
def hgt (S:Plan)(i:Nat):Nat:=NN*(S.pt i).y+(S.pt i).x
def xx (S:Plan)(i:Nat):Int:=2*((S.pt i).x:Int)
def yy (S:Plan)(i:Nat):Int:=2*(hgt S i:Int)
def adj (S:Plan)(u v:Nat):Prop:=(u,v)∈S.lines\/(v,u)∈S.lines
structure Rules (S:Plan):Prop where
 big:S.w<=1048575
 inx:∀i,i<S.pts.length->(S.pt i).x<=S.w
 iny:∀i,i<S.pts.length->(S.pt i).y<=S.h
 ord:∀i j,i<j->j<S.pts.length->(S.pt i).below (S.pt j)=true
 lin:∀l,l∈S.lines->l.1<l.2/\l.2<S.pts.length
 lnd:S.lines.Nodup
 frame:frameOk S=true
 free:∀l,l∈S.lines->∀k,k<S.pts.length->k≠l.1->k≠l.2->isOn (S.pt l.1) (S.pt l.2) (S.pt k)=false
 cross:∀l m,l∈S.lines->m∈S.lines->l≠m->crosses (S.pt l.1) (S.pt l.2) (S.pt m.1) (S.pt m.2)=false\/crosses (S.pt m.1) (S.pt m.2) (S.pt l.1) (S.pt l.2)=false
 con:∀K:Nat->Prop,K 0->(∀u v,K u->adj S u v->K v)->∀v,v<S.pts.length->K v
 con2:∀v,v<S.pts.length->Bdh S.pts.length (adj S) v
 deg:∀v,v<S.pts.length->2<=(S.near v).length
 four:4<=S.pts.length
 wide:16<=S.w
 high:16<=S.h
theorem Abl (S:Plan)(p q r:Nat):T (xx S) (yy S) p q r=8388608*turn (S.pt p) (S.pt q) (S.pt r):=by
 unfold T xx yy hgt NN turn dx dy;generalize (S.pt p).x=a;generalize (S.pt p).y=b;generalize (S.pt q).x=c;generalize (S.pt q).y=e;generalize (S.pt r).x=f;generalize (S.pt r).y=g;simp only[ahT,agS]
 grind
theorem below_iff (p q:Pt):p.below q=true↔p.y<q.y\/(p.y=q.y/\p.x<q.x):=by
 unfold Pt.below;simp
theorem Aoj {a b c d:Nat}(h:b<NN)(k:a<c):NN*a+b<NN*c+d:=by
 have:NN*(a+1)<=NN*c:=Nat.mul_le_mul_left _ k;rw[ajY]at this;lia
section
variable {S:Plan}
theorem Rules.mono (r:Rules S){i j:Nat}(h:i<j)(hj:j<S.pts.length):hgt S i<hgt S j:=by
 have:=(below_iff _ _).1 (r.ord i j h hj);have xi:=r.inx i (by lia);have:=r.big;unfold hgt;rcases this':this with _
 rcases (below_iff _ _).1 (r.ord i j h hj)with z | z
 ·exact Aoj (by unfold NN;lia) z
 ·rw[z.1];lia
theorem Rules.adj_lt (r:Rules S){u v:Nat}(h:adj S u v):u<S.pts.length/\v<S.pts.length/\u≠v:=by
 rcases h with h | h
 ·have:=r.lin _ h;simp only[]at this;lia
 ·have:=r.lin _ h;simp only[]at this;lia
theorem Rules.adj_mem (r:Rules S){u v:Nat}(h:adj S u v)(k:u<v):(u,v)∈S.lines:=by
 rcases h with h | h
 ·exact h
 ·have:=r.lin _ h;simp only[]at this;lia
theorem Bcq {p q r:Pt}(h1:p.below r=true)(h2:r.below q=true)(h:turn p q r=0):isOn p q r=true:=by
 rw[below_iff]at h1 h2;unfold isOn;rw[h];have hy:p.y<=r.y/\r.y<=q.y:=by lia
 have e:((q.x:Int)-p.x)*((r.y:Int)-p.y)=((q.y:Int)-p.y)*((r.x:Int)-p.x):=by
  unfold turn dx dy at h;grind
 have hx:(min p.x q.x<=r.x/\r.x<=max p.x q.x):=by
  by_cases z:p.y=q.y
  ·lia
  ·have d0:(0:Int)<(q.y:Int)-p.y:=by lia
   have a0:(0:Int)<=(r.y:Int)-p.y:=by lia
   have b0:(0:Int)<=(q.y:Int)-r.y:=by lia
   have e':((q.x:Int)-p.x)*((q.y:Int)-r.y)=((q.y:Int)-p.y)*((q.x:Int)-r.x):=by grind
   rcases Int.le_total (p.x:Int) q.x with s | s
   ·have m1:=adT (show(0:Int)<=(q.x:Int)-p.x by lia) a0;have m2:=adT (show(0:Int)<=(q.x:Int)-p.x by lia) b0;have k1:(0:Int)<=(r.x:Int)-p.x:=by
     rcases abW ((r.x:Int)-p.x) 0 with y | y
     ·have:=Ab4 d0 y;lia
     ·exact y
    have k2:(0:Int)<=(q.x:Int)-r.x:=by
     rcases abW ((q.x:Int)-r.x) 0 with y | y
     ·have:=Ab4 d0 y;lia
     ·exact y
    lia
   ·have m1:=acO (show(q.x:Int)-p.x<=0 by lia) a0;have m2:=acO (show(q.x:Int)-p.x<=0 by lia) b0;have k1:(r.x:Int)-p.x<=0:=by
     rcases abW 0 ((r.x:Int)-p.x)with y | y
     ·have:=Aat d0 y;lia
     ·exact y
    have k2:(q.x:Int)-r.x<=0:=by
     rcases abW 0 ((q.x:Int)-r.x)with y | y
     ·have:=Aat d0 y;lia
     ·exact y
    lia
 have b1:between p.x q.x r.x=true:=by unfold between;simp;lia
 have b2:between p.y q.y r.y=true:=by unfold between;simp;lia
 rw[b1,b2];rfl
theorem Rules.turn_ne (r:Rules S){u v w:Nat}(h:adj S u v)(h1:u<w)(h2:w<v):turn (S.pt u) (S.pt v) (S.pt w)≠0:=by
 intro z;have hv:=(r.adj_lt h).2.1;have m:=r.adj_mem h (by lia);have f:=r.free _ m w (by lia) (by simp only[];lia) (by simp only[];lia);rw[Bcq (r.ord u w h1 (by lia)) (r.ord w v h2 hv) z]at f;exact abU f
theorem Rules.draw (r:Rules S):Draw S.pts.length (xx S) (yy S) (adj S) where
 mono:=by
  intro i j h hj;have:=r.mono h hj;unfold yy;lia
 sym:=by intro u v h;exact h.symm
 ne:=by intro u v h;exact(r.adj_lt h).2.2
 lt:=by intro u v h;exact(r.adj_lt h).1
 free:=by
  intro u v w h h1 h2;have:=r.turn_ne h h1 h2;rw[Abl];lia
 cross:=by
  intro u v p q h k huv hpq c1 c2;rw[Abl,Abl]at c1 c2;have m1:=r.adj_mem h huv;have m2:=r.adj_mem k hpq;have big:∀a b:Int,8388608*a*(8388608*b)<0->a*b<0:=by
   intro a b z;have:8388608*a*(8388608*b)=70368744177664*(a*b):=by grind
   lia
  have b1:=big _ _ c1;have b2:=big _ _ c2
  by_cases e:((u,v):Nat×Nat)=(p,q)
  ·rw[aiF]at e;obtain⟨e1,e2⟩:=e;subst e1 e2;have:turn (S.pt u) (S.pt v) (S.pt u)=0:=by unfold turn dx dy;grind
   rw[this]at b1;simp at b1
  ·rcases r.cross _ _ m1 m2 e with z | z
   ·unfold crosses at z;simp only[anP,decide_eq_false_iff_not]at z;rcases z with z | z
    ·exact z b1
    ·exact z b2
   ·unfold crosses at z;simp only[anP,decide_eq_false_iff_not]at z;rcases z with z | z
    ·exact z b2
    ·exact z b1
theorem mem_near (r:Rules S)(v x:Nat):x∈S.near v↔adj S v x:=by
 unfold Plan.near adj;rw[afP];constructor
 ·rintro⟨l,hl,e⟩;have:=r.lin l hl
  by_cases e1:l.1=v
  ·rw[ifp e1]at e;simp only[ahP]at e;subst e e1;exact .inl hl
  ·rw[ifn e1]at e
   by_cases e2:l.2=v
   ·rw[ifp e2]at e;simp only[ahP]at e;subst e e2;exact .inr hl
   ·rw[ifn e2]at e;simp at e
 ·rintro(h | h)
  ·exact⟨_,h,by simp⟩
  ·have:=r.lin _ h;simp only[]at this;refine⟨_,h,?_⟩;show(if x=v then some v else if v=v then some x else none)=some x;rw[ifn (by lia),ifp rfl]
theorem Ai8 (r:Rules S)(v:Nat):(S.near v).Nodup:=by
 unfold Plan.near;have key:∀ls:List (Nat×Nat),(∀l,l∈ls->l.1<l.2)->ls.Nodup->
  (ls.filterMap fun(l:Nat×Nat)=>if l.1=v then some l.2 else if l.2=v then some l.1 else none).Nodup:=by
  intro ls
  induction ls with
  | nil=>intro _ _;simp
  | cons l ls ih =>
   intro hl hn;have hn':=abR.1 hn;have ih':=ih (fun x hx=>hl x (by simp[hx])) hn'.2;rw[agL];have out:∀y,(if l.1=v then some l.2 else if l.2=v then some l.1 else none)=some y->
    y∉(ls.filterMap fun(l:Nat×Nat)=>if l.1=v then some l.2 else if l.2=v then some l.1 else none):=by
    intro y hy hm;rw[afP]at hm;obtain⟨m,hm,e⟩:=hm;have l1:=hl l (by simp);have l2:=hl m (by simp[hm]);apply hn'.1;have:l=m:=by
     obtain⟨l1',l2'⟩:=l;obtain⟨m1',m2'⟩:=m;rw[aiF]
     grind
    rw[this];exact hm
   split
   ·exact ih'
   ·rename_i y hy
    exact abR.2 ⟨out y hy,ih'⟩
 exact key S.lines (fun l hl=>(r.lin l hl).1) r.lnd
end
end Pg
end
section
namespace Pg
section
variable {n:Nat}{X Y:Nat->Int}{adj:Nat->Nat->Prop}
theorem Agw (v t:Nat):hf X Y v t t=3:=by
 unfold hf;rw[T_2];simp
theorem Bew {v t x:Nat}(h:T X Y v t x<0):hf X Y v t x=0:=by unfold hf;rw[ifp h]
theorem Avn {v t x:Nat}(h:0<T X Y v t x):hf X Y v t x=2:=by unfold hf;rw[ifn (by lia),ifp h]
theorem Draw.side (d:Draw n X Y adj){v t:Nat}(h:adj v t):(t<v/\Y t-Y v<0)\/(v<t/\0<Y t-Y v):=by
 have:=d.ne _ _ h;rcases acS t v with k | k
 ·exact .inl ⟨k,d.dn h k⟩
 ·exact .inr ⟨by lia,d.up h (by lia)⟩
theorem Aw9 (X Y:Nat->Int){v a b c:Nat}(ha:Y a-Y v<0)(hb:Y b-Y v<0)(hc:Y c-Y v<0)(h1:0<T X Y v a b)(h2:0<T X Y v b c):0<T X Y v a c:=by
 have i:=tri X Y v a b c;have j1:=Ab4 h1 hc;have j2:=Ab4 h2 ha;have j3:=Ahr X Y v a c;rcases abC (T X Y v c a) 0 with z | z | z
 ·lia
 ·rw[z]at i;simp at i;lia
 ·have:=Ab4 z hb;lia
theorem Aw8 (X Y:Nat->Int){v a b c:Nat}(ha:0<Y a-Y v)(hb:0<Y b-Y v)(hc:0<Y c-Y v)(h1:0<T X Y v a b)(h2:0<T X Y v b c):0<T X Y v a c:=by
 have i:=tri X Y v a b c;have j1:=Aat h1 hc;have j2:=Aat h2 ha;have j3:=Ahr X Y v a c;rcases abC (T X Y v c a) 0 with z | z | z
 ·lia
 ·rw[z]at i;simp at i;lia
 ·have:=Aat z hb;lia
theorem Draw.trans (d:Draw n X Y adj){v a b c:Nat}(ha:adj v a)(hb:adj v b)(hc:adj v c)(s1:a<v↔b<v)(s2:b<v↔c<v)
 (h1:0<T X Y v a b) (h2:0<T X Y v b c):0<T X Y v a c:=by
 rcases d.side ha with x | x<;>rcases d.side hb with y | y<;>rcases d.side hc with z | z<;>first | lia | skip
 ·exact Aw9 X Y x.2 y.2 z.2 h1 h2
 ·exact Aw8 X Y x.2 y.2 z.2 h1 h2
theorem Ar4 (d:Draw n X Y adj){v p t:Nat}(hp:adj v p)(ht:adj v t)(s:p<v↔t<v)(h:0<T X Y v p t)
 (oth:∀x,adj v x->x≠p->x≠t->(x<v↔p<v)->0<T X Y v x p\/0<T X Y v t x):Nxt X Y adj v t p where
 here:=hp
 soon:=by
  intro x hx hn;have sw:=Ahr X Y v t p;have e0:hf X Y v t p=0:=Bew (by lia);rw[e0]
  by_cases e:x=t
  ·subst e;rw[Agw];lia
  by_cases sx:x<v↔p<v
  ·rcases oth x hx hn e sx with z | z
   ·have:=Ahr X Y v x p;rcases Aaf X Y v t x with y | y | y | y<;>lia
   ·rw[Avn z];lia
  ·rcases Aaf X Y v t x with y | y | y | y
   ·right;refine⟨y.1.symm,?_⟩;have i:=tri X Y v t p x;have sw2:=Ahr X Y v t x;rcases d.side hp with a | a<;>rcases d.side ht with b | b<;>rcases d.side hx with c | c<;>first | lia | skip
    ·have j1:=Aau (show T X Y v t p<0 by lia) c.2;have j2:=Ab4 (show 0<T X Y v x t by lia) a.2;rcases abW (T X Y v p x) 0 with z | z
     ·exact z
     ·have:=adA z (show Y t-Y v<=0 by lia);lia
    ·have j1:=Abq (show T X Y v t p<0 by lia) c.2;have j2:=Aat (show 0<T X Y v x t by lia) a.2;exact ln (b:=Y t-Y v) (by lia) b.2
   all_goals lia
theorem Anh (d:Draw n X Y adj){v p t:Nat}(hp:adj v p)(ht:adj v t)(s:¬(p<v↔t<v))
 (h1:∀x,adj v x->(x<v↔t<v)->x≠t->0<T X Y v t x) (h2:∀x,adj v x->(x<v↔p<v)->x≠p->0<T X Y v x p):Nxt X Y adj v t p where
 here:=hp
 soon:=by
  intro x hx hn;have i:=tri X Y v t p x;have sw:=Ahr X Y v t x
  by_cases e:x=t
  ·subst e;rw[Agw];rcases Aaf X Y v x p with y | y | y | y
   ·lia
   ·lia
   ·exact absurd y.2.2.symm s
   ·lia
  by_cases sx:x<v↔t<v
  ·have z:=h1 x hx sx e;rw[Avn z];rcases Aaf X Y v t p with y | y | y | y
   ·lia
   ·right;refine⟨y.1,?_⟩;rcases d.side hp with a | a<;>rcases d.side ht with b | b<;>rcases d.side hx with c | c<;>first | lia | skip
    ·have j1:=Aat y.2 c.2;have j2:=Abq (show T X Y v x t<0 by lia) a.2;exact ln (b:=Y t-Y v) (by lia) b.2
    ·have j1:=Ab4 y.2 c.2;have j2:=Aau (show T X Y v x t<0 by lia) a.2;rcases abW (T X Y v p x) 0 with z | z
     ·exact z
     ·have:=adA z (show Y t-Y v<=0 by lia);lia
   ·exact absurd y.2.2.symm s
   ·lia
  ·have z:=h2 x hx (by lia) hn;have sw2:=Ahr X Y v x p;have key:T X Y v t p<=0\/0<T X Y v t x\/(T X Y v t p=0/\0<=T X Y v t x):=by
    rcases abW 0 (T X Y v t p)with k | k
    ·rcases abW 0 (T X Y v t x)with l | l
     ·exact .inr (.inl l)
     ·exfalso;rcases d.side hp with a | a<;>rcases d.side ht with b | b<;>rcases d.side hx with c | c<;>first | lia | skip
      ·have j1:=Ab4 k c.2;have j2:=Aau (show T X Y v p x<0 by lia) b.2;have j3:=adA (show 0<=T X Y v x t by lia) (show Y p-Y v<=0 by lia);lia
      ·have j1:=Aat k c.2;have j2:=Abq (show T X Y v p x<0 by lia) b.2;have j3:=adT (show 0<=T X Y v x t by lia) (show 0<=Y p-Y v by lia);lia
    ·exact .inl k
   have key2:T X Y v t p<0\/0<=T X Y v t x:=by
    rcases abW (T X Y v t p) 0 with k | k
    ·exact .inl k
    ·rcases abW (T X Y v t x) 0 with l | l
     ·exfalso;rcases d.side hp with a | a<;>rcases d.side ht with b | b<;>rcases d.side hx with c | c<;>first | lia | skip
      ·have j1:=adA k (show Y x-Y v<=0 by lia);have j2:=Aau (show T X Y v p x<0 by lia) b.2;have j3:=Ab4 (show 0<T X Y v x t by lia) a.2;lia
      ·have j1:=adT k (show 0<=Y x-Y v by lia);have j2:=Abq (show T X Y v p x<0 by lia) b.2;have j3:=Aat (show 0<T X Y v x t by lia) a.2;lia
     ·exact .inr l
   rcases Aaf X Y v t p with y | y | y | y
   ·rcases Aaf X Y v t x with y' | y' | y' | y'<;>lia
   ·rcases Aaf X Y v t x with y' | y' | y' | y'<;>lia
   ·exact absurd y.2.2.symm s
   ·rcases Aaf X Y v t x with y' | y' | y' | y'<;>lia
theorem Ar3 {v p t:Nat}(hp:adj v p)(h0:∀x,adj v x->(x<v↔t<v))
 (h1:∀x,adj v x->x≠t->0<T X Y v t x) (h2:∀x,adj v x->x≠p->0<T X Y v x p):Nxt X Y adj v t p where
 here:=hp
 soon:=by
  intro x hx hn;have z:=h2 x hx hn;have sw:=Ahr X Y v x p
  by_cases e:x=t
  ·subst e;rw[Agw,Avn z];lia
  ·rw[Avn (h1 x hx e)]
   by_cases ep:p=t
   ·subst ep;have:=h1 x hx e;lia
   ·rw[Avn (h1 p hp ep)];lia
theorem Al7 (f:Nat->Nat):∀(L:List Nat) (b:Nat),(∀l1 p t l2,b::L=l1++p::t::l2->f t=p)->L.map f=(b::L).dropLast
 | [],_,_=>rfl
 | x::r,b,h=>by
  rw[abE,h [] b x r rfl,Al7 f r x (fun l1 p t l2 e=>h (b::l1) p t l2 (by rw[e];rfl))];rfl
theorem Ay9 (f:Nat->Nat)(L:List Nat)(hL:L≠[])(h:∀l1 p t l2,L=l1++p::t::l2->f t=p)(h0:∀t r,L=t::r->f t=L.getLast hL) :
 ∃l a,L=l++[a]/\L.map f=a::l:=by
 refine⟨L.dropLast,L.getLast hL,(afQ hL).symm,?_⟩;cases L with
 | nil=>exact absurd rfl hL
 | cons x r=>rw[abE,h0 x r rfl,Al7 f r x h]
theorem Azh {U D l1 l2:List Nat}{p t:Nat}(h:U++D=l1++p::t::l2) :
 (∃m,U=l1++p::t::m)\/(∃m,D=m++p::t::l2)\/(U=l1++[p]/\D=t::l2):=by
 rcases List.append_eq_append_iff.1 h with ⟨a,e1,e2⟩ | ⟨a,e1,e2⟩
 ·exact .inr (.inl ⟨a,e2⟩)
 ·cases a with
  | nil =>
   simp at e1 e2;exact .inr (.inl ⟨[],by rw[<-e2];rfl⟩)
  | cons x a =>
   simp only[adP,aeX]at e2;obtain⟨e2,e3⟩:=e2;subst e2;cases a with
   | nil =>
    simp at e3;exact .inr (.inr ⟨e1,e3.symm⟩)
   | cons y a =>
    simp only[adP,aeX]at e3;obtain⟨e3,e4⟩:=e3;subst e3;exact .inl ⟨a,e1⟩
theorem An4 (d:Draw n X Y adj){v:Nat}{U D:List Nat}{nx:Nat->Nat}(mU:∀x,x∈U↔adj v x/\v<x)(mD:∀x,x∈D↔adj v x/\x<v)
 (sU:U.Pairwise fun a b=>0<T X Y v a b) (sD:D.Pairwise fun a b=>0<T X Y v a b) (hnx:∀t p,adj v t->Nxt X Y adj v t p->nx t=p)
 (hne:U++D≠[]):∃l a,U++D=l++[a]/\(U++D).map nx=a::l:=by
 have firstOf:∀{L:List Nat} {t:Nat} {r:List Nat},L.Pairwise (fun a b=>0<T X Y v a b)->L=t::r->∀x,x∈L->x≠t->0<T X Y v t x:=by
  intro L t r s e x hx hn;subst e;rcases aaG.1 hx with z | z
  ·exact absurd z hn
  ·exact(acP.1 s).1 x z
 have Abw:∀{L:List Nat} {p:Nat} {l:List Nat},L.Pairwise (fun a b=>0<T X Y v a b)->L=l++[p]->∀x,x∈L->x≠p->0<T X Y v x p:=by
  intro L p l s e x hx hn;subst e;rcases abH.1 hx with z | z
  ·exact(ahL.1 s).2.2 x z p (by simp)
  ·simp at z;exact absurd z hn
 have midOf:∀{L l1 l2:List Nat} {p t:Nat},L.Pairwise (fun a b=>0<T X Y v a b)->L=l1++p::t::l2->
  0<T X Y v p t/\∀x,x∈L->x≠p->x≠t->0<T X Y v x p\/0<T X Y v t x:=by
  intro L l1 l2 p t s e;subst e;have s2:=ahL.1 s;have s3:=acP.1 s2.2.1;have s4:=acP.1 s3.2;refine⟨s3.1 t (by simp),?_⟩;intro x hx h1 h2;rcases abH.1 hx with z | z
  ·exact .inl (s2.2.2 x z p (by simp))
  ·rcases aaG.1 z with z | z
   ·exact absurd z h1
   ·rcases aaG.1 z with z | z
    ·exact absurd z h2
    ·exact .inr (s4.1 x z)
 have side:∀x,adj v x->x∈U\/x∈D:=by
  intro x hx;rcases d.side hx with z | z
  ·exact .inr ((mD x).2 ⟨hx,z.1⟩)
  ·exact .inl ((mU x).2 ⟨hx,z.1⟩)
 apply Ay9 nx (U++D) hne
 ·intro l1 p t l2 e;rcases Azh e with ⟨m,eU⟩ | ⟨m,eD⟩ | ⟨eU,eD⟩
  ·have hp:=(mU p).1 (by rw[eU];simp);have ht:=(mU t).1 (by rw[eU];simp);have mo:=midOf sU eU;apply hnx t p ht.1;apply Ar4 d hp.1 ht.1 (by lia) mo.1;intro x hx h1 h2 sx;exact mo.2 x ((mU x).2 ⟨hx,by have:=d.ne _ _ hx;lia⟩) h1 h2
  ·have hp:=(mD p).1 (by rw[eD];simp);have ht:=(mD t).1 (by rw[eD];simp);have mo:=midOf sD eD;apply hnx t p ht.1;apply Ar4 d hp.1 ht.1 (by lia) mo.1;intro x hx h1 h2 sx;exact mo.2 x ((mD x).2 ⟨hx,by lia⟩) h1 h2
  ·have hp:=(mU p).1 (by rw[eU];simp);have ht:=(mD t).1 (by rw[eD];simp);apply hnx t p ht.1;apply Anh d hp.1 ht.1 (by lia)
   ·intro x hx sx hn;exact firstOf sD eD x ((mD x).2 ⟨hx,by lia⟩) hn
   ·intro x hx sx hn;exact Abw sU eU x ((mU x).2 ⟨hx,by have:=d.ne _ _ hx;lia⟩) hn
 ·intro t r e;rcases U with _ | ⟨u,U'⟩
  ·-- none above
   have eD:D=t::r:=e;have hD:D≠[]:=by rw[eD];simp
   have lst:=afQ hD;have hp:=(mD (D.getLast hD)).1 (akS hD);have ht:=(mD t).1 (by rw[eD];simp);have all:∀x,adj v x->x∈D:=fun x hx=>by
    rcases side x hx with z | z
    ·simp at z
    ·exact z
   show nx t=D.getLast hD;apply hnx t _ ht.1;apply Ar3 hp.1
   ·intro x hx;have:=(mD x).1 (all x hx);lia
   ·intro x hx hn;exact firstOf sD eD x (all x hx) hn
   ·intro x hx hn;exact Abw sD lst.symm x (all x hx) hn
  ·have et:t=u:=by simp at e;exact e.1.symm
   subst et;have ht:=(mU t).1 (by simp);rcases D with _ | ⟨w,D'⟩
   ·have hU:(t::U')≠[]:=by simp
    have lst:=afQ hU;have hp:=(mU ((t::U').getLast hU)).1 (akS hU);have all:∀x,adj v x->x∈t::U':=fun x hx=>by
     rcases side x hx with z | z
     ·exact z
     ·simp at z
    have eq:((t::U')++[]).getLast hne=(t::U').getLast hU:=by simp
    rw[eq];apply hnx t _ ht.1;apply Ar3 hp.1
    ·intro x hx;have:=(mU x).1 (all x hx);lia
    ·intro x hx hn;exact firstOf sU rfl x (all x hx) hn
    ·intro x hx hn;exact Abw sU lst.symm x (all x hx) hn
   ·have hD:(w::D')≠[]:=by simp
    have lst:=afQ hD;have hp:=(mD ((w::D').getLast hD)).1 (akS hD);have eq:((t::U')++(w::D')).getLast hne=(w::D').getLast hD:=by
     rw[List.getLast_append_of_ne_nil]
    rw[eq];apply hnx t _ ht.1;apply Anh d hp.1 ht.1 (by lia)
    ·intro x hx sx hn;exact firstOf sU rfl x ((mU x).2 ⟨hx,by have:=d.ne _ _ hx;lia⟩) hn
    ·intro x hx sx hn;exact Abw sD lst.symm x ((mD x).2 ⟨hx,by lia⟩) hn
end
end Pg
end
section
namespace Pg
open Gla
def putL (S:Plan)(m x:Nat):List Nat->List Nat
 | []=>[x]
 | y::r=>if 0<turn (S.pt m) (S.pt x) (S.pt y)then y::putL S m x r else x::y::r
def leftward (S:Plan)(m:Nat)(ns:List Nat):List Nat:=(ns.foldl (fun row x=>putL S m x row) []).reverse
def ringOf (S:Plan)(v:Nat):List Nat:=leftward S v ((S.near v).filter fun x=>decide (v<x))++leftward S v ((S.near v).filter fun x=>decide (x<v))
theorem Ado (S:Plan)(m x z:Nat):∀l,z∈putL S m x l↔z=x\/z∈l
 | []=>by simp[putL]
 | y::r=>by
  unfold putL
  split
  ·rw[aaG,Ado S m x z r,aaG];constructor
   ·rintro(h | h | h)<;>simp[h]
   ·rintro(h | h | h)<;>simp[h]
  ·rw[aaG]
theorem mem_left' (S:Plan)(m z:Nat):∀(ns acc:List Nat),z∈ns.foldl (fun row x=>putL S m x row) acc↔z∈ns\/z∈acc
 | [],acc=>by simp
 | x::r,acc=>by
  rw[aeC,mem_left' S m z r,Ado,aaG];constructor
  ·rintro(h | h | h)<;>simp[h]
  ·rintro((h | h) | h)<;>simp[h]
theorem Acb (S:Plan)(m z:Nat)(ns:List Nat):z∈leftward S m ns↔z∈ns:=by
 unfold leftward;rw[aiR,mem_left'];simp
section
variable {S:Plan}
theorem Bbi (S:Plan)(p q r:Nat):0<T (xx S) (yy S) p q r↔0<turn (S.pt p) (S.pt q) (S.pt r):=by rw[Abl];lia
theorem Agc (r:Rules S){v x:Nat}(hx:adj S v x):∀l:List Nat,(∀y,y∈l->adj S v y/\y≠x/\(y<v↔x<v))->
 l.Pairwise (fun a b=>0<T (xx S) (yy S) v b a)->(putL S v x l).Pairwise (fun a b=>0<T (xx S) (yy S) v b a)
 | [],_,_=>by simp[putL]
 | y::l,h,s=>by
  have d:=r.draw;have hy:=h y (by simp);have s':=acP.1 s;unfold putL
  split
  ·rename_i k
   refine acP.2 ⟨?_,Agc r hx l (fun z hz=>h z (by simp[hz])) s'.2⟩;intro z hz;rcases (Ado S v x z l).1 hz with e | e
   ·subst e;exact(Bbi S v z y).2 k
   ·exact s'.1 z e
  ·rename_i k
   have ap:=d.apart hx hy.1 (acU hy.2.1) (by lia);have sw:=Ahr (xx S) (yy S) v x y;have k':¬0<T (xx S) (yy S) v x y:=fun z=>k ((Bbi S v x y).1 z);have yx:0<T (xx S) (yy S) v y x:=by lia
   refine acP.2 ⟨?_,s⟩;intro z hz;rcases aaG.1 hz with e | e
   ·subst e;exact yx
   ·have hz':=h z (by simp[e]);exact d.trans hz'.1 hy.1 hx (by lia) hy.2.2 (s'.1 z e) yx
theorem Afh (r:Rules S){v:Nat}{P:Nat->Prop}(hP:∀a b,P a->P b->(a<v↔b<v)):∀(ns acc:List Nat),(∀y,y∈ns->adj S v y/\P y)->(∀y,y∈acc->adj S v y/\P y)->
 ns.Nodup->(∀y,y∈ns->y∉acc)->acc.Nodup->acc.Pairwise (fun a b=>0<T (xx S) (yy S) v b a)->
 (ns.foldl (fun row x=>putL S v x row) acc).Pairwise (fun a b=>0<T (xx S) (yy S) v b a)
 | [],acc,_,_,_,_,_,s=>s
 | x::ns,acc,h1,h2,n1,dj,n2,s=>by
  rw[aeC];have n1':=abR.1 n1;have hx:=h1 x (by simp);have nx:=dj x (by simp);apply Afh r hP ns
  ·intro y hy;exact h1 y (by simp[hy])
  ·intro y hy;rcases (Ado S v x y acc).1 hy with e | e
   ·subst e;exact hx
   ·exact h2 y e
  ·exact n1'.2
  ·intro y hy hm;rcases (Ado S v x y acc).1 hm with e | e
   ·subst e;exact n1'.1 hy
   ·exact dj y (by simp[hy]) e
  ·have key:∀l:List Nat,x∉l->l.Nodup->(putL S v x l).Nodup:=by
    intro l
    induction l with
    | nil=>intro _ _;simp[putL]
    | cons y l ih =>
     intro hn hd;have hd':=abR.1 hd;unfold putL
     split
     ·refine abR.2 ⟨?_,ih (fun z=>hn (by simp[z])) hd'.2⟩;intro z;rcases (Ado S v x y l).1 z with e | e
      ·subst e;exact hn (by simp)
      ·exact hd'.1 e
     ·exact abR.2 ⟨hn,hd⟩
   exact key acc nx n2
  ·apply Agc r hx.1 acc _ s;intro y hy;have:=h2 y hy;exact⟨this.1,fun e=>nx (by subst e;exact hy),hP y x this.2 hx.2⟩
theorem Ade (r:Rules S){v:Nat}{P:Nat->Prop}(hP:∀a b,P a->P b->(a<v↔b<v)){ns:List Nat}(h:∀y,y∈ns->adj S v y/\P y)(hn:ns.Nodup) :
 (leftward S v ns).Pairwise (fun a b=>0<T (xx S) (yy S) v a b):=by
 unfold leftward;rw[List.pairwise_reverse];exact Afh r hP ns [] h (by simp) hn (by simp) (by simp) (by simp)
theorem Ayp {s:Nat->Nat->Bool}{p:Nat}:∀(r:List Nat) (a:Nat),p∈a::r->(∀x,x∈a::r->x≠p->s p x=true/\s x p=false)->
 r.foldl (fun a b=>if s b a=true then b else a) a=p
 | [],a,h,_=>by simp at h;exact h.symm
 | b::r,a,h,k=>by
  rw[aeC]
  by_cases ea:a=p
  ·subst ea
   by_cases eb:b=a
   ·subst eb;have e:(if s b b=true then b else b)=b:=by split<;>rfl
    rw[e]
    exact Ayp r b (by simp) (fun x hx=>k x (by
     rcases aaG.1 hx with z | z
     ·simp[z]
     ·simp[z]))
   ·rw[ifn (by rw[(k b (by simp) eb).2];simp)]
    exact Ayp r a (by simp) (fun x hx=>k x (by
     rcases aaG.1 hx with z | z
     ·simp[z]
     ·simp[z]))
  ·by_cases eb:b=p
   ·subst eb;rw[ifp (k a (by simp) ea).1]
    exact Ayp r b (by simp) (fun x hx=>k x (by
     rcases aaG.1 hx with z | z
     ·simp[z]
     ·simp[z]))
   ·have hp:p∈r:=by
     rcases aaG.1 h with z | z
     ·exact absurd z.symm ea
     ·rcases aaG.1 z with z | z
      ·exact absurd z.symm eb
      ·exact z
    split
    ·exact Ayp r b (by simp[hp]) (fun x hx=>k x (by
      rcases aaG.1 hx with z | z
      ·simp[z]
      ·simp[z]))
    ·exact Ayp r a (by simp[hp]) (fun x hx=>k x (by
      rcases aaG.1 hx with z | z
      ·simp[z]
      ·simp[z]))
theorem Anu {a b c e:Int}(h:a*e-b*c=0)(ha:b>0\/(b=0/\a>0)):(e>0\/(e=0/\c>0)->0<a*c+b*e)/\(e<0\/(e=0/\c<0)->a*c+b*e<0):=by
 constructor
 ·intro k;rcases ha with ha | ⟨hb,ha⟩
  ·rcases k with k | ⟨he,k⟩
   ·have m:=Aat ha k;have:0<=a*c:=by
     rcases abC a 0 with z | z | z
     ·have:=Aau z k;have:c<0:=by
       rcases abW c 0 with y | y
       ·exact y
       ·have:=adT (show 0<=b by lia) y;lia
      have:=Abq z this;lia
     ·subst z;simp
     ·have:=Aat z k;have:0<c:=lp (b:=b) (by rw[afL];lia) ha;have:=Aat z this;lia
    lia
   ·subst he;simp at h;have:=Aat ha k;lia
  ·subst hb;have e0:e=0:=by
    have h':a*e=0:=by rw[Int.zero_mul]at h;lia
    rcases ahU.1 h' with z | z
    ·lia
    ·exact z
   subst e0;rcases k with k | k
   ·lia
   ·have:=Aat ha k.2;lia
 ·intro k;rcases ha with ha | ⟨hb,ha⟩
  ·rcases k with k | ⟨he,k⟩
   ·have m:=Ab4 ha k;have:a*c<=0:=by
     rcases abC a 0 with z | z | z
     ·have:=Abq z k;have:0<c:=lp (b:=b) (by rw[afL];lia) ha;have:=Aau z this;lia
     ·subst z;simp
     ·have:=Ab4 z k;have:c<0:=by
       rcases abW c 0 with y | y
       ·exact y
       ·have:=adT (show 0<=b by lia) y;lia
      have:=Ab4 z this;lia
    lia
   ·subst he;simp at h;have:=Ab4 ha k;lia
  ·subst hb;have e0:e=0:=by
    have h':a*e=0:=by rw[Int.zero_mul]at h;lia
    rcases ahU.1 h' with z | z
    ·lia
    ·exact z
   subst e0;rcases k with k | k
   ·lia
   ·have:=Ab4 ha k.2;lia
theorem Rules.upper (r:Rules S){v t:Nat}(h:v<t)(ht:t<S.pts.length):dy (S.pt v) (S.pt t)>0\/(dy (S.pt v) (S.pt t)=0/\dx (S.pt v) (S.pt t)>0):=by
 have:=(below_iff _ _).1 (r.ord v t h ht);unfold dx dy;lia
theorem Rules.lower (r:Rules S){v t:Nat}(h:t<v)(hv:v<S.pts.length):dy (S.pt v) (S.pt t)<0\/(dy (S.pt v) (S.pt t)=0/\dx (S.pt v) (S.pt t)<0):=by
 have:=(below_iff _ _).1 (r.ord t v h hv);unfold dx dy;lia
theorem Afa (S:Plan)(v u x:Nat):(dir S v u).1*(dir S v x).2-(dir S v u).2*(dir S v x).1=turn (S.pt v) (S.pt u) (S.pt x):=by
 unfold dir turn dx dy;grind
theorem Arv (r:Rules S){v u x:Nat}(hu:adj S v u)(hx:adj S v x):half (dir S v u) (dir S v x)=hf (xx S) (yy S) v u x:=by
 have hv:=(r.adj_lt hu).1;have hul:=(r.adj_lt hu).2.1;have hxl:=(r.adj_lt hx).2.1;have nu:=(r.adj_lt hu).2.2;have nx:=(r.adj_lt hx).2.2;unfold half hf;simp only[Afa,Abl]
 by_cases h1:turn (S.pt v) (S.pt u) (S.pt x)<0
 ·rw[ifp h1,ifp (show 8388608*turn (S.pt v) (S.pt u) (S.pt x)<0 by lia)]
 rw[ifn h1,ifn (show ¬8388608*turn (S.pt v) (S.pt u) (S.pt x)<0 by lia)]
 by_cases h2:0<turn (S.pt v) (S.pt u) (S.pt x)
 ·rw[ifp h2,ifp (show 0<8388608*turn (S.pt v) (S.pt u) (S.pt x)by lia)]
 rw[ifn h2,ifn (show ¬0<8388608*turn (S.pt v) (S.pt u) (S.pt x)by lia)];have z:(dir S v u).1*(dir S v x).2-(dir S v u).2*(dir S v x).1=0:=by rw[Afa];lia
 have key:(dir S v u).1*(dir S v x).1+(dir S v u).2*(dir S v x).2<0↔¬(u<v↔x<v):=by
  rcases acS v u with a | a
  ·have ds:=Anu z (r.upper a hul);rcases acS v x with b | b
   ·have:=ds.1 (r.upper b hxl);lia
   ·have:=ds.2 (r.lower (by lia) hv);lia
  ·have z':(-(dir S v u).1)*(dir S v x).2-(-(dir S v u).2)*(dir S v x).1=0:=by grind
   have lo:=r.lower (show u<v by lia) hv;have ds:=Anu z' (by unfold dir;simp only[];lia);have e:(-(dir S v u).1)*(dir S v x).1+(-(dir S v u).2)*(dir S v x).2 =-((dir S v u).1*(dir S v x).1+(dir S v u).2*(dir S v x).2):=by grind
   rw[e]at ds;rcases acS v x with b | b
   ·have:=ds.1 (r.upper b hxl);lia
   ·have:=ds.2 (r.lower (by lia) hv);lia
 by_cases h3:(u<v↔x<v)
 ·rw[ifn (fun w=>key.1 w h3),ifp h3]
 ·rw[ifp (key.2 h3),ifn h3]
theorem Agh (r:Rules S){v t p:Nat}(ht:adj S v t)(h:Nxt (xx S) (yy S) (adj S) v t p):S.next t v=p:=by
 unfold Plan.next
 have hp:=(mem_near r v p).2 h.here;cases e:S.near v with
 | nil=>rw[e]at hp;simp at hp
 | cons k l =>
  simp only[];rw[e]at hp;apply Ayp (s:=fun b a=>sooner (dir S v t) (dir S v b) (dir S v a)) l k hp;intro x hx hn;have ax:adj S v x:=(mem_near r v x).1 (by rw[e];exact hx);have so:=h.soon x ax hn;rw[<-Arv r ht h.here,<-Arv r ht ax,Abl,<-Afa]at so;have c2:(dir S v x).1*(dir S v p).2-(dir S v x).2*(dir S v p).1 =-((dir S v p).1*(dir S v x).2-(dir S v p).2*(dir S v x).1):=by grind
  unfold sooner;rw[c2];generalize (dir S v p).1*(dir S v x).2-(dir S v p).2*(dir S v x).1=c at so ⊢;generalize half (dir S v t) (dir S v p)=a at so ⊢;generalize half (dir S v t) (dir S v x)=b at so ⊢;simp;lia
theorem mem_ring (r:Rules S)(v x:Nat):x∈ringOf S v↔adj S v x:=by
 unfold ringOf;rw[abH,Acb,Acb,adJ,adJ,mem_near r];simp only[dtt];constructor
 ·rintro(h | h)<;>exact h.1
 ·intro h;have:=(r.adj_lt h).2.2;rcases acS v x with k | k
  ·exact .inl ⟨h,k⟩
  ·exact .inr ⟨h,by lia⟩
theorem Rules.rot (r:Rules S):Rot S.pts.length (xx S) (yy S) (adj S) S.next (ringOf S):=by
 have d:=r.draw;have sU:∀v,(leftward S v ((S.near v).filter fun x=>decide (v<x))).Pairwise (fun a b=>0<T (xx S) (yy S) v a b):=by
  intro v;apply Ade r (P:=fun x=>v<x) (by lia)
  ·intro y hy;rw[adJ]at hy;exact⟨(mem_near r v y).1 hy.1,by simpa using hy.2⟩
  ·exact(Ai8 r v).filter _
 have sD:∀v,(leftward S v ((S.near v).filter fun x=>decide (x<v))).Pairwise (fun a b=>0<T (xx S) (yy S) v a b):=by
  intro v;apply Ade r (P:=fun x=>x<v) (by lia)
  ·intro y hy;rw[adJ]at hy;exact⟨(mem_near r v y).1 hy.1,by simpa using hy.2⟩
  ·exact(Ai8 r v).filter _
 have mU:∀v x,x∈leftward S v ((S.near v).filter fun x=>decide (v<x))↔adj S v x/\v<x:=by
  intro v x;rw[Acb,adJ,mem_near r];simp
 have mD:∀v x,x∈leftward S v ((S.near v).filter fun x=>decide (x<v))↔adj S v x/\x<v:=by
  intro v x;rw[Acb,adJ,mem_near r];simp
 have rr:∀v,v<S.pts.length->∃l a,ringOf S v=l++[a]/\(ringOf S v).map (fun t=>S.next t v)=a::l:=by
  intro v hv;apply An4 d (mU v) (mD v) (sU v) (sD v) (fun t p ht h=>Agh r ht h);have dg:=r.deg v hv;intro e;cases e2:S.near v with
  | nil=>rw[e2]at dg;simp at dg
  | cons k l =>
   have:k∈ringOf S v:=(mem_ring r v k).2 ((mem_near r v k).1 (by rw[e2];simp));unfold ringOf at this;rw[e]at this;simp at this
 refine⟨fun v x _=>mem_ring r v x,?_,rr,?_⟩
 ·intro v hv;unfold ringOf;rw[aeM];have nd1:∀L:List Nat,L.Pairwise (fun a b=>0<T (xx S) (yy S) v a b)->L.Nodup:=by
   intro L s;apply s.imp;intro a b h e;subst e;rw[T_2]at h;lia
  refine⟨nd1 _ (sU v),nd1 _ (sD v),?_⟩;intro a ha b hb e;have:=(mU v a).1 ha;have:=(mD v b).1 hb;lia
 ·intro u v h;have hv:=(r.adj_lt h).2.1;have hu:=d.sym _ _ h;have ex:∃p,Nxt (xx S) (yy S) (adj S) v u p:=by
   have hne:leftward S v ((S.near v).filter fun x=>decide (v<x))++leftward S v ((S.near v).filter fun x=>decide (x<v))≠[]:=by
    intro e;have:u∈ringOf S v:=(mem_ring r v u).2 hu;unfold ringOf at this;rw[e]at this;simp at this
   have hn:∀t,∃p,(adj S v t->(∃q,Nxt (xx S) (yy S) (adj S) v t q)->Nxt (xx S) (yy S) (adj S) v t p):=by
    intro t
    by_cases q:∃q,Nxt (xx S) (yy S) (adj S) v t q
    ·exact⟨q.choose,fun _ _=>q.choose_spec⟩
    ·exact⟨0,fun _ z=>absurd z q⟩
   apply acT;intro no
   have f1:=An4 d (nx:=fun t=>if t=u then S.pts.length else S.next t v) (mU v) (mD v) (sU v) (sD v) (by
    intro t p ht hN
    by_cases e:t=u
    ·subst e;exact absurd ⟨p,hN⟩ no
    ·simp only[ifn e];exact Agh r ht hN) hne
   obtain⟨l,a,e1,e2⟩:=f1;have mem:S.pts.length∈a::l:=by
    rw[<-e2,aaN];refine⟨u,?_,by simp⟩;have:u∈ringOf S v:=(mem_ring r v u).2 hu;exact this
   have:S.pts.length∈ringOf S v:=by
    unfold ringOf;rw[e1];rcases aaG.1 mem with z | z
    ·rw[z];simp
    ·simp[z]
   have:=(r.adj_lt ((mem_ring r v _).1 this)).2.1;lia
  obtain⟨p,hp⟩:=ex;rw[Agh r hu hp];exact hp
end
abbrev Way:=Nat×Nat
def nxe (S:Plan)(e:Way):Way:=(e.2,S.next e.1 e.2)
def itr (S:Plan):Nat->Way->Way
 | 0,e=>e
 | k+1,e=>itr S k (nxe S e)
theorem itr_add (S:Plan):∀(j k:Nat) (e:Way),itr S (k+j) e=itr S k (itr S j e)
 | 0,k,e=>rfl
 | j+1,k,e=>by
  show itr S (k+j+1) e=_;simp only[itr];exact itr_add S j k (nxe S e)
theorem itr_succ (S:Plan)(k:Nat)(e:Way):itr S (k+1) e=nxe S (itr S k e):=by
 rw[ahG,itr_add S k 1 e];rfl
def Ayq (S:Plan):Nat->Way->Way->List Way
 | 0,_,_=>[]
 | n+1,s,e=>e::(if nxe S e=s then [] else Ayq S n s (nxe S e))
def orb (S:Plan)(e:Way):List Way:=Ayq S (2*S.lines.length+1) e e
theorem Aga (S:Plan):∀(n:Nat) (s e:Way),S.round n s e=(Ayq S n s e).map (·.1)
 | 0,_,_=>rfl
 | n+1,s,e=>by
  unfold Plan.round Ayq;simp only[abE]
  congr 1
  unfold nxe
  split
  ·rfl
  ·exact Aga S n s _
theorem len_le {α:Type}[BEq α][LawfulBEq α]:∀{l m:List α},l.Nodup->(∀x,x∈l->x∈m)->l.length<=m.length
 | [],_,_,_=>abO _
 | x::r,m,nd',h=>by
  have nr:=abR.1 nd';have hx:=h x (by simp)
  have ih:=len_le (l:=r) (m:=m.erase x) nr.2 (by
   intro y hy;have ne:y≠x:=fun e=>nr.1 (by rw[<-e];exact hy)
   exact(List.mem_erase_of_ne ne).2 (h y (by simp[hy])))
  rw[List.length_erase_of_mem hx]at ih;have:0<m.length:=List.length_pos_of_mem hx;simp only[aaZ];lia
theorem mem_ways (S:Plan)(e:Way):e∈ways S↔adj S e.1 e.2:=by
 obtain⟨u,v⟩:=e;unfold ways adj;simp only[adG,aaG,List.not_mem_nil,or_false];constructor
 ·rintro⟨l,hl,h | h⟩
  ·left;rw[h];exact hl
  ·right;have e1:l.2=u:=by rw[aiF]at h;exact h.1.symm
   have e2:l.1=v:=by rw[aiF]at h;exact h.2.symm
   rw[<-e1,<-e2];exact hl
 ·rintro(h | h)
  ·exact⟨_,h,.inl rfl⟩
  ·exact⟨_,h,.inr rfl⟩
theorem len_ways (S:Plan):(ways S).length=2*S.lines.length:=by
 unfold ways
 induction S.lines with
 | nil=>rfl
 | cons l ls ih=>rw[aiJ,aaM,ih];simp only[aaZ,adO];lia
section
variable {S:Plan}
theorem Aei {f:Nat->Nat}:∀{l:List Nat},(l.map f).Nodup->∀x y,x∈l->y∈l->f x=f y->x=y
 | [],_,x,_,h,_,_=>by simp at h
 | a::l,nd',x,y,hx,hy,e=>by
  rw[abE,abR]at nd';rcases aaG.1 hx with z | z
  ·rcases aaG.1 hy with w | w
   ·rw[z,w]
   ·subst z;exact absurd (by rw[e];exact ajV w) nd'.1
  ·rcases aaG.1 hy with w | w
   ·subst w;exact absurd (by rw[<-e];exact ajV z) nd'.1
   ·exact Aei nd'.2 x y z w e
theorem Rules.nxe_adj (r:Rules S){e:Way}(h:adj S e.1 e.2):adj S (nxe S e).1 (nxe S e).2:=(r.rot.nxt e.1 e.2 h).here
theorem Rules.nxe_inj (r:Rules S){e f:Way}(h:adj S e.1 e.2)(k:adj S f.1 f.2)(q:nxe S e=nxe S f):e=f:=by
 obtain⟨u,v⟩:=e;obtain⟨u',v'⟩:=f;unfold nxe at q;simp only[aiF]at q h k;obtain⟨q1,q2⟩:=q;subst q1;have hv:=(r.adj_lt h).2.1;obtain⟨l,a,e1,e2⟩:=r.rot.rot v hv;have nod:=r.rot.nod v hv;have nm:((ringOf S v).map (fun t=>S.next t v)).Nodup:=by
  rw[e2];rw[e1]at nod;exact(List.perm_append_singleton a l).nodup nod
 have:=Aei nm u u' ((r.rot.mem v u hv).2 (r.draw.sym _ _ h)) ((r.rot.mem v u' hv).2 (r.draw.sym _ _ k)) q2;rw[this]
theorem Rules.itr_adj (r:Rules S){e:Way}(h:adj S e.1 e.2):∀k,adj S (itr S k e).1 (itr S k e).2
 | 0=>h
 | k+1=>by rw[itr_succ];exact r.nxe_adj (r.itr_adj h k)
theorem Rules.itr_inj (r:Rules S){e f:Way}(h:adj S e.1 e.2)(g:adj S f.1 f.2):∀k,itr S k e=itr S k f->e=f
 | 0,q=>q
 | k+1,q=>r.itr_inj h g k (by rw[itr_succ,itr_succ]at q;exact r.nxe_inj (r.itr_adj h k) (r.itr_adj g k) q)
structure Per (S:Plan)(e:Way)(m:Nat):Prop where
 pos:1<=m
 le:m<=2*S.lines.length
 back:itr S m e=e
 first:∀k,1<=k->k<m->itr S k e≠e
theorem Rules.per (r:Rules S){e:Way}(h:adj S e.1 e.2):∃m,Per S e m:=by
 have ex:∃m,1<=m/\m<=2*S.lines.length/\itr S m e=e:=by
  apply acT;intro no;have inj:∀i j,i<j->j<=2*S.lines.length->itr S i e≠itr S j e:=by
   intro i j hij hj q;apply no;refine⟨j-i,by lia,by lia,?_⟩;have e1:itr S j e=itr S i (itr S (j-i) e):=by rw[<-itr_add];congr 1;lia
   rw[e1]at q;exact(r.itr_inj h (r.itr_adj h _) i q).symm
  have nod:((aaT (2*S.lines.length+1)).map (fun k=>itr S k e)).Nodup:=by
   rw[abQ,adL];apply afY _ (agY (n:=2*S.lines.length+1));intro a b _ hb hab;rw[abT]at hb;exact inj a b hab (by lia)
  have:=len_le nod (m:=ways S) (by
   intro x hx;rw[aaN]at hx;obtain⟨k,_,q⟩:=hx;rw[mem_ways,<-q]
   exact r.itr_adj h k)
  rw[aaA,acK,len_ways]at this;lia
 have key:∀N m,m<=N->1<=m->m<=2*S.lines.length->itr S m e=e->∃m,Per S e m:=by
  intro N
  induction N with
  | zero=>intro m a b;lia
  | succ N ih =>
   intro m a b c q
   by_cases z:∃k,1<=k/\k<m/\itr S k e=e
   ·obtain⟨k,k1,k2,k3⟩:=z;exact ih k (by lia) k1 (by lia) k3
   ·exact⟨m,b,c,q,fun k k1 k2 k3=>z ⟨k,k1,k2,k3⟩⟩
 obtain⟨m,a,b,c⟩:=ex;exact key m m (aaK _) a b c
theorem Atm {e:Way}{m:Nat}(p:Per S e m):∀(j fuel:Nat),j<m->m-j<=fuel->Ayq S fuel e (itr S j e)=(aaT (m-j)).map (fun k=>itr S (k+j) e):=by
 intro j fuel
 induction fuel generalizing j with
 | zero=>intro a b;lia
 | succ fuel ih =>
  intro a b;unfold Ayq;rw[<-itr_succ]
  by_cases z:j+1=m
  ·rw[z,p.back,ifp rfl];have:m-j=1:=by lia
   rw[this];simp[afG]
  ·rw[ifn (p.first (j+1) (by lia) (by lia)),ih (j+1) (by lia) (by lia)];have:m-j=(m-(j+1))+1:=by lia
   rw[this,agX,abE,acC]
   congr 1
   ·rw[ahE]
   ·apply ajW;intro k _;show itr S (k+(j+1)) e=itr S (k+1+j) e
    congr 1;lia
theorem orb_per {e:Way}{m:Nat}(p:Per S e m):orb S e=(aaT m).map (fun k=>itr S k e):=by
 unfold orb;have:=Atm p 0 (2*S.lines.length+1) (by have:=p.pos;lia) (by have:=p.le;lia);simp only[Nat.sub_zero,Nat.add_zero]at this;exact this
theorem Ari {e:Way}{m:Nat}(p:Per S e m):∀q,itr S (q*m) e=e
 | 0=>by rw[Nat.zero_mul];rfl
 | q+1=>by rw[Nat.succ_mul,itr_add,p.back,Ari p q]
theorem Arj {e:Way}{m:Nat}(p:Per S e m)(k:Nat):itr S k e=itr S (k%m) e:=by
 have e1:k=k%m+(k/m)*m:=by
  have:=Nat.div_add_mod k m;rw[Nat.mul_comm]at this;lia
 conv=>lhs;rw[e1]
 rw[itr_add,Ari p]
theorem Rules.mem_orb (r:Rules S){e x:Way}(h:adj S e.1 e.2):x∈orb S e↔∃k,itr S k e=x:=by
 obtain⟨m,p⟩:=r.per h;rw[orb_per p,aaN];constructor
 ·rintro⟨k,_,q⟩;exact⟨k,q⟩
 ·rintro⟨k,q⟩;refine⟨k%m,abT.2 (Nat.mod_lt _ p.pos),?_⟩;rw[<-Arj p];exact q
theorem Rules.orb_nodup (r:Rules S){e:Way}(h:adj S e.1 e.2):(orb S e).Nodup:=by
 obtain⟨m,p⟩:=r.per h;rw[orb_per p,abQ,adL];apply afY _ (agY (n:=m));intro a b _ hb hab q;rw[abT]at hb;have e1:itr S b e=itr S a (itr S (b-a) e):=by rw[<-itr_add];congr 1;lia
 rw[e1]at q;exact p.first (b-a) (by lia) (by lia) (r.itr_inj h (r.itr_adj h _) a q).symm
theorem Rules.orb_adj (r:Rules S){e x:Way}(h:adj S e.1 e.2)(hx:x∈orb S e):adj S x.1 x.2:=by
 obtain⟨k,q⟩:=(r.mem_orb h).1 hx;rw[<-q];exact r.itr_adj h k
theorem Rules.orb_self (r:Rules S){e:Way}(h:adj S e.1 e.2):e∈orb S e:=(r.mem_orb h).2 ⟨0,rfl⟩
theorem Rules.orb_back (r:Rules S){e x:Way}(h:adj S e.1 e.2)(hx:x∈orb S e):e∈orb S x:=by
 obtain⟨m,p⟩:=r.per h;obtain⟨k,q⟩:=(r.mem_orb h).1 hx;rw[r.mem_orb (r.orb_adj h hx)];rw[Arj p]at q;have:=Nat.mod_lt k p.pos;refine⟨m-k%m,?_⟩;rw[<-q,<-itr_add];have:m-k%m+k%m=m:=by lia
 rw[this,p.back]
theorem Rules.orb_trans (r:Rules S){e x y:Way}(h:adj S e.1 e.2)(hx:x∈orb S e)(hy:y∈orb S x):y∈orb S e:=by
 obtain⟨k,q⟩:=(r.mem_orb h).1 hx;obtain⟨j,q'⟩:=(r.mem_orb (r.orb_adj h hx)).1 hy;rw[r.mem_orb h];exact⟨j+k,by rw[itr_add,q,q']⟩
theorem Rules.orb_cl (r:Rules S){e:Way}(h:adj S e.1 e.2):Cl (adj S) S.next (fun u v=>(u,v)∈orb S e):=by
 intro u v a;constructor
 ·intro hx;obtain⟨k,q⟩:=(r.mem_orb h).1 hx;rw[r.mem_orb h];exact⟨k+1,by rw[itr_succ,q];rfl⟩
 ·intro hx;obtain⟨m,p⟩:=r.per h;obtain⟨k,q⟩:=(r.mem_orb h).1 hx;rw[r.mem_orb h];have:∃j,itr S (j+1) e=(v,S.next u v):=by
   cases k with
   | zero =>
    refine⟨m-1,?_⟩;have:m-1+1=m:=by have:=p.pos;lia
    rw[this,p.back];exact q
   | succ k=>exact⟨k,q⟩
  obtain⟨j,q⟩:=this;refine⟨j,?_⟩;rw[itr_succ]at q;exact r.nxe_inj (r.itr_adj h j) (f:=(u,v)) a q
theorem Rules.orb_ph (r:Rules S){e x:Way}(h:adj S e.1 e.2)(hx:x∈orb S e){c:Nat->Nat->Int}(hc:Alh S.pts.length (adj S) c) :
 ph S.pts.length (xx S) (yy S) c x.1 x.2=ph S.pts.length (xx S) (yy S) c e.1 e.2:=by
 obtain⟨k,q⟩:=(r.mem_orb h).1 hx;rw[<-q]
 clear q hx
 induction k with
 | zero=>rfl
 | succ k ih =>
  rw[itr_succ,<-ih];have a:=r.itr_adj h k;exact(round r.draw hc a (r.rot.nxt _ _ a)).symm
theorem Rules.orb_once (r:Rules S){e x y:Way}(h:adj S e.1 e.2)(hx:x∈orb S e)(hy:y∈orb S e)(q:x.1=y.1):x=y:=by
 have ax:=r.orb_adj h hx;have ay:=r.orb_adj h hy;have hv:=(r.adj_lt ax).1
 have:x.2=y.2:=Ben r.draw r.rot hv (r.con2 x.1 hv) ax (by rw[q];exact ay) (by
  intro c hc
  rw[r.orb_ph h hx hc,q,r.orb_ph h hy hc])
 exact ahX q this
def Vs (S:Plan)(e:Way):List Nat:=(orb S e).map (·.1)
theorem Ard {e:Way}{m:Nat}(p:Per S e m):(orb S e).length=m:=by rw[orb_per p];simp
theorem Rules.orb_rot (r:Rules S){e:Way}{m k:Nat}(h:adj S e.1 e.2)(p:Per S e m)(hk:k<m):orb S (itr S k e)=(orb S e).drop k++(orb S e).take k:=by
 have hx:=r.itr_adj h k;have px:Per S (itr S k e) m:=by
  refine⟨p.pos,p.le,?_,?_⟩
  ·rw[<-itr_add,ahG,itr_add,p.back]
  ·intro j j1 j2 q;rw[<-itr_add,ahG,itr_add]at q;exact p.first j j1 j2 (r.itr_inj (r.itr_adj h j) h k q)
 rw[orb_per px,orb_per p];apply aiT
 ·simp;lia
 ·intro i h1 h2;simp only[aaA,acK]at h1;rw[aeI,aeG]
  by_cases z:i<m-k
  ·rw[amO (by simpa using z)];simp only[akN,aeI,aeG];rw[<-itr_add,ahG]
  ·rw[amI (by simp;lia)];simp only[akM,aeI,aeG,afO,aaA,acK];rw[<-itr_add];have:i+k=(i-(m-k))+m:=by lia
   rw[this,itr_add,p.back]
theorem Rules.Vs_zip (r:Rules S){e:Way}(h:adj S e.1 e.2):(Vs S e).zip ((Vs S e).drop 1++(Vs S e).take 1)=orb S e:=by
 obtain⟨m,p⟩:=r.per h;unfold Vs;rw[orb_per p];apply aiT
 ·have:=p.pos;simp;lia
 ·intro i h1 h2;simp only[aaA,acK]at h2;rw[List.getElem_zip];simp only[aeI,aeG];refine ahX rfl ?_;show _=(itr S i e).2;have nx2:(itr S (i+1) e).1=(itr S i e).2:=by rw[itr_succ];rfl
  by_cases z:i<m-1
  ·rw[amO (by simp;lia)];simp only[akN,aeI,aeG];rw[ahG,nx2]
  ·rw[amI (by simp;lia)];simp only[akM,aeI,aeG,afO,aaA,acK];have e1:i-(m-1)=0:=by lia
   have e2:i+1=m:=by lia
   rw[<-nx2,e2,p.back,e1];rfl
theorem Afk:∀(l:List Nat) (a:Nat),l.foldl min a<=a/\(∀x,x∈l->l.foldl min a<=x)/\(l.foldl min a=a\/l.foldl min a∈l)
 | [],a=>⟨aaK _,by simp,.inl rfl⟩
 | b::l,a=>by
  obtain⟨h1,h2,h3⟩:=Afk l (min a b);rw[aeC];refine⟨by lia,?_,?_⟩
  ·intro x hx;rcases aaG.1 hx with z | z
   ·lia
   ·exact h2 x z
  ·rcases h3 with z | z
   ·rcases Nat.le_total a b with y | y
    ·left;rw[z];lia
    ·right;rw[z];simp;left;lia
   ·right;simp[z]
def Ace (S:Plan)(s:Way):Prop:=∀y,y∈orb S s->s.1<=y.1
theorem Rules.fromLeast_Vs (r:Rules S){e:Way}(h:adj S e.1 e.2):∃x,x∈orb S e/\Ace S x/\fromLeast (Vs S e)=Vs S x:=by
 obtain⟨m,p⟩:=r.per h;cases q:Vs S e with
 | nil =>
  have:=Ard p;have l0:(Vs S e).length=0:=by rw[q];rfl
  unfold Vs at l0;rw[aaA]at l0;have:=p.pos;lia
 | cons a l =>
  obtain⟨h1,h2,h3⟩:=Afk l a;have hm:l.foldl min a∈Vs S e:=by
   rw[q];rcases h3 with z | z
   ·rw[z];simp
   ·simp[z]
  have hi:=adS hm;have hlen:(Vs S e).length=m:=by unfold Vs;rw[aaA,Ard p]
  have hk:(Vs S e).idxOf (l.foldl min a)<m:=by lia
  have xo:itr S ((Vs S e).idxOf (l.foldl min a)) e∈orb S e:=(r.mem_orb h).2 ⟨_,rfl⟩;refine⟨_,xo,?_,?_⟩
  ·intro y hy;have hy':=r.orb_trans h xo hy;have e1:(itr S ((Vs S e).idxOf (l.foldl min a)) e).1=l.foldl min a:=by
    have g:=ahZ hi;have g2:∀(i:Nat) (hi:i<(Vs S e).length),(Vs S e)[i]=(itr S i e).1:=by
     intro i hi;unfold Vs;simp only[orb_per p,aeI,aeG]
    rw[g2]at g;exact g
   rw[e1];have:y.1∈Vs S e:=ajV hy';rw[q]at this;rcases aaG.1 this with z | z
   ·rw[z];exact h1
   ·exact h2 _ z
  ·unfold fromLeast;simp only[];rw[<-q];rw[show Vs S (itr S ((Vs S e).idxOf (l.foldl min a)) e)=(orb S (itr S ((Vs S e).idxOf (l.foldl min a)) e)).map (·.1)from rfl,r.orb_rot h p hk,aaU,List.map_drop,List.map_take];rfl
theorem Rules.least_one (r:Rules S){x y:Way}(hx:adj S x.1 x.2)(lx:Ace S x)(ly:Ace S y)(hy:y∈orb S x):x=y:=by
 have:=lx y hy;have:=ly x (r.orb_back hx hy);exact r.orb_once hx (r.orb_self hx) hy (by lia)
theorem Rules.mem_outlines (r:Rules S)(l:List Nat):l∈S.outlines↔∃s:Way,adj S s.1 s.2/\Ace S s/\0<twiceArea S l/\l=Vs S s:=by
 unfold Plan.outlines;rw[adJ,ahY,aaN];simp only[dtt];constructor
 ·rintro⟨⟨e,he,q⟩,ha⟩;rw[mem_ways]at he;rw[Aga]at q;obtain⟨x,hx,hl,q2⟩:=r.fromLeast_Vs he;refine⟨x,r.orb_adj he hx,hl,ha,?_⟩;rw[<-q2,<-q];rfl
 ·rintro⟨s,hs,hl,ha,q⟩;refine⟨⟨s,(mem_ways S s).2 hs,?_⟩,ha⟩;rw[Aga];obtain⟨x,hx,hl',q2⟩:=r.fromLeast_Vs hs;have:=r.least_one hs hl hl' hx;subst this;rw[q,<-q2];rfl
theorem nd_eraseDups {α:Type}[BEq α][LawfulBEq α]:∀(n:Nat) (l:List α),l.length<=n->l.eraseDups.Nodup
 | _,[],_=>by simp
 | 0,_::_,h=>by simp at h
 | n+1,a::l,h=>by
  rw[List.eraseDups_cons];refine abR.2 ⟨?_,nd_eraseDups n _ ?_⟩
  ·rw[ahY,adJ];rintro⟨_,z⟩;simp at z
  ·have:=aeT (fun b=>!b==a) l;simp only[aaZ]at h;lia
theorem Agg (S:Plan):S.outlines.Nodup:=by
 unfold Plan.outlines;exact aiG _ (nd_eraseDups _ _ (aaK _))
theorem Rules.Vs_inj (r:Rules S){s t:Way}(hs:adj S s.1 s.2)(ht:adj S t.1 t.2)(h:Vs S s=Vs S t):s=t:=by
 have key:∀{s:Way},adj S s.1 s.2->∃l,Vs S s=s.1::s.2::l:=by
  intro s hs;obtain⟨m,p⟩:=r.per hs;have ne:=(r.adj_lt hs).2.2;have m2:2<=m:=by
   have:=p.pos;rcases acS 1 m with z | z
   ·exact z
   ·have:m=1:=by lia
    subst this;have b:=p.back;have e1:(itr S 1 s).1=s.2:=rfl;rw[b]at e1;exact absurd e1 ne
  obtain⟨k,rfl⟩ : ∃k,m=k+2:=⟨m-2,by lia⟩
  unfold Vs;rw[orb_per p,agX,agX];exact⟨_,rfl⟩
 obtain⟨l1,e1⟩:=key hs;obtain⟨l2,e2⟩:=key ht;rw[e1,e2]at h;simp only[aeX]at h;exact ahX h.1 h.2.1
end
def Av1 (a:Nat->Nat->Int):List Way->Int
 | []=>0
 | e::r=>a e.1 e.2+Av1 a r
theorem Apk (n:Nat)(f:Nat->Nat->Int)(hd:∀p,f p p=0) :
 sm n (fun p=>sm n (fun q=>f p q))=sm n (fun p=>sm n (fun q=>if p<q then f p q+f q p else 0)):=by
 have e1:sm n (fun p=>sm n (fun q=>f p q))=sm n (fun p=>sm n (fun q=>if p<q then f p q else 0))+sm n (fun p=>sm n (fun q=>if q<p then f p q else 0)):=by
  rw[<-Aci];apply Aam;intro p _;rw[<-Aci];apply Aam;intro q _;rcases acE p q with h | h | h
  ·rw[ifp h,ifn (by lia)];lia
  ·subst h;rw[ifn (by lia),hd p];lia
  ·rw[ifn (by lia),ifp h];lia
 rw[e1,Aq9 n n (fun p q=>if q<p then f p q else 0),<-Aci];apply Aam;intro p _;rw[<-Aci];apply Aam;intro q _
 by_cases h:p<q
 ·simp only[ifp h]
 ·simp only[ifn h];rfl
theorem Ape (n:Nat)(a:Nat->Nat->Int):∀hs:List Way,hs.Nodup->(∀e,e∈hs->e.1<n/\e.2<n)->
 Av1 a hs=sm n (fun p=>sm n (fun q=>nd ((p,q)∈hs)*a p q))
 | [],_,_=>by
  rw[Abf]
  ·rfl
  ·intro p _;apply Abf;intro q _;rw[Aal (by simp)];simp
 | e::r,nd',lt=>by
  have nr:=abR.1 nd';have ih:=Ape n a r nr.2 (fun x hx=>lt x (by simp[hx]));have l1:=lt e (by simp);unfold Av1;have one':a e.1 e.2=sm n (fun p=>sm n (fun q=>nd ((p,q)=e)*a p q)):=by
   rw[Afe l1.1,Afe l1.2]
   ·rw[Abx (by rfl)];lia
   ·intro i _ hi;rw[Aal (by intro z;apply hi;rw[<-z])];simp
   ·intro i _ hi;apply Abf;intro q _;rw[Aal (by intro z;apply hi;rw[<-z])];simp
  rw[one',ih,<-Aci];apply Aam;intro p _;rw[<-Aci];apply Aam;intro q _
  by_cases h:(p,q)=e
  ·rw[Abx h,Aal (P:=(p,q)∈r) (by rw[h];exact nr.1),Abx (P:=(p,q)∈e::r) (by rw[h];simp)];lia
  ·rw[Aal h,Aah (P:=(p,q)∈e::r) (Q:=(p,q)∈r) (by simp[h])];lia
theorem Apf {S:Plan}{a:Nat->Nat->Int}(ha:∀p q,a p q =-a q p){hs:List Way}(n1:hs.Nodup)(had:∀e,e∈hs->adj S e.1 e.2)(r:Rules S) :
 Av1 a hs=fl S.pts.length (cg (adj S) (fun u v=>(u,v)∈hs)) a:=by
 rw[Ape S.pts.length a hs n1 (fun e he=>⟨(r.adj_lt (had e he)).1,(r.adj_lt (had e he)).2.1⟩),
  Apk       _ (fun p q => nd ((p, q) ∈ hs) * a p q) (by intro p; have := ha p p; have z : a p p = 0 := by lia
                                                        rw[z];simp)]
 unfold fl;apply Aam;intro p _;apply Aam;intro q _
 by_cases h:p<q
 ·rw[ifp h,ifp h];unfold cg;rw[Aah (show adj S p q/\(p,q)∈hs↔(p,q)∈hs from⟨fun z=>z.2,fun z=>⟨had _ z,z⟩⟩),Aah (show adj S q p/\(q,p)∈hs↔(q,p)∈hs from⟨fun z=>z.2,fun z=>⟨had _ z,z⟩⟩),ha q p]
  grind
 ·rw[ifn h,ifn h]
def iUp (S:Plan)(z:Pt)(p q:Nat):Prop:=(S.pt p).y<=z.y/\z.y<(S.pt q).y/\0<turn (S.pt p) (S.pt q) z
def iDn (S:Plan)(z:Pt)(p q:Nat):Prop:=(S.pt q).y<=z.y/\z.y<(S.pt p).y/\turn (S.pt p) (S.pt q) z<0
noncomputable def aI (S:Plan) (z:Pt) (p q:Nat):Int:=nd (iUp S z p q)-nd (iDn S z p q)
theorem turn_rev (p q z:Pt):turn q p z =-turn p q z:=by unfold turn dx dy;grind
theorem Ayl (S:Plan)(z:Pt)(p q:Nat):aI S z p q =-aI S z q p:=by
 unfold aI;have h1:iUp S z p q↔iDn S z q p:=by
  unfold iUp iDn;rw[turn_rev (S.pt p) (S.pt q) z];constructor<;>(intro h;exact⟨h.1,h.2.1,by lia⟩)
 have h2:iUp S z q p↔iDn S z p q:=by
  unfold iUp iDn;rw[turn_rev (S.pt q) (S.pt p) z];constructor<;>(intro h;exact⟨h.1,h.2.1,by lia⟩)
 rw[Aah h1,Aah h2];lia
theorem Anc (S:Plan)(z:Pt)(g:Way->Bool)(hg:∀e,g e=true↔iUp S z e.1 e.2\/iDn S z e.1 e.2):∀hs:List Way,((hs.filter g).length:Int)%2=Av1 (aI S z) hs%2
 | []=>rfl
 | e::r=>by
  have ih:=Anc S z g hg r;unfold Av1;have excl:¬(iUp S z e.1 e.2/\iDn S z e.1 e.2):=by unfold iUp iDn;lia
  by_cases h:g e=true
  ·rw[amT h,aaZ];rcases (hg e).1 h with u | u
   ·have:aI S z e.1 e.2=1:=by unfold aI;rw[Abx u,Aal (fun w=>excl ⟨u,w⟩)];rfl
    lia
   ·have:aI S z e.1 e.2 = -1:=by unfold aI;rw[Abx u,Aal (fun w=>excl ⟨w,u⟩)];rfl
    lia
  ·rw[amU h];have:aI S z e.1 e.2=0:=by
    unfold aI;rw[Aal (fun w=>h ((hg e).2 (.inl w))),Aal (fun w=>h ((hg e).2 (.inr w)))];rfl
   lia
def hz (z:Pt):Int:=2*((NN*z.y+z.x:Nat):Int)
theorem Bd0 (S:Plan)(p q:Nat)(z:Pt):num (xx S) (yy S) p q (hz z)-2*(z.x:Int)*(yy S q-yy S p)=8388608*turn (S.pt p) (S.pt q) z:=by
 unfold num hz xx yy hgt NN turn dx dy;simp only[ahT,agS]
 grind
section
variable {S:Plan}{K:Nat->Nat->Int}{M:Int}
theorem Bde (k:Den (yy S) (adj S) K M){p q:Nat}(a:adj S p q)(h:p<q)(z:Pt) :
 2*(z.x:Int)*M<Ps (xx S) (yy S) K p q (hz z)↔0<turn (S.pt p) (S.pt q) z:=by
 have k1:=k.kpos p q a h;have m1:=k.kmul p q a h;have e:=Bd0 S p q z;unfold Ps;have e2:num (xx S) (yy S) p q (hz z)*K p q-2*(z.x:Int)*M=8388608*turn (S.pt p) (S.pt q) z*K p q:=by
  rw[<-e,<-m1];grind
 constructor
 ·intro w;have:0<8388608*turn (S.pt p) (S.pt q) z*K p q:=by lia
  have:=lp this k1;lia
 ·intro w;have:=Aat (show 0<8388608*turn (S.pt p) (S.pt q) z by lia) k1;lia
theorem Acn {p q:Pt}(hp:p.x<NN)(hq:q.x<NN):NN*p.y+p.x<NN*q.y+q.x↔p.below q=true:=by
 rw[below_iff];constructor
 ·intro h;rcases acE p.y q.y with z | z | z
  ·exact .inl z
  ·rw[z]at h;exact .inr ⟨z,by lia⟩
  ·have:=Aoj (d:=p.x) hq z;lia
 ·rintro(z | ⟨z,w⟩)
  ·exact Aoj hp z
  ·rw[z];lia
theorem Azx (r:Rules S){p q:Nat}(a:adj S p q)(h:p<q){z:Pt}(hzx:z.x<=S.w)(off:isOn (S.pt p) (S.pt q) z=false) :
 nd (yy S p<hz z/\hz z<yy S q/\0<turn (S.pt p) (S.pt q) z)-aI S z p q =
  nd ((S.pt q).y=z.y/\z.x<(S.pt q).x)-nd ((S.pt p).y=z.y/\z.x<(S.pt p).x):=by
 have hq:=(r.adj_lt a).2.1;have hp:=(r.adj_lt a).1;have bel:=(below_iff _ _).1 (r.ord p q h hq);have wb:=r.big;have xp:=r.inx p hp;have xq:=r.inx q hq;have e1:yy S p<hz z↔(S.pt p).below z=true:=by
  rw[<-Acn (by unfold NN;lia) (by unfold NN;lia)];unfold yy hz hgt;lia
 have e2:hz z<yy S q↔z.below (S.pt q)=true:=by
  rw[<-Acn (by unfold NN;lia) (by unfold NN;lia)];unfold yy hz hgt;lia
 rw[Aah (P:=yy S p<hz z/\_) (Q:=(S.pt p).below z=true/\z.below (S.pt q)=true/\0<turn (S.pt p) (S.pt q) z) (by rw[e1,e2]),below_iff,below_iff];unfold aI iUp iDn;have t1:z.y=(S.pt p).y->turn (S.pt p) (S.pt q) z=(((S.pt q).y:Int)-(S.pt p).y)*(((S.pt p).x:Int)-z.x):=by
  intro w;unfold turn dx dy;rw[w];grind
 have t2:z.y=(S.pt q).y->turn (S.pt p) (S.pt q) z=(((S.pt q).y:Int)-(S.pt p).y)*(((S.pt q).x:Int)-z.x):=by
  intro w;unfold turn dx dy;rw[w];grind
 have on:turn (S.pt p) (S.pt q) z=0->(min (S.pt p).x (S.pt q).x<=z.x/\z.x<=max (S.pt p).x (S.pt q).x)->((S.pt p).y<=z.y/\z.y<=(S.pt q).y)->False:=by
  intro w1 w2 w3;have:isOn (S.pt p) (S.pt q) z=true:=by
   unfold isOn between;rw[w1];simp;lia
  rw[this]at off;exact abU off
 rw[Aal (P:=(S.pt q).y<=z.y/\_) (by lia)];generalize (S.pt p).x=a1 at *;generalize (S.pt p).y=b1 at *;generalize (S.pt q).x=a2 at *;generalize (S.pt q).y=b2 at *;generalize turn (S.pt p) (S.pt q) z=t at *;rcases acS z.y b1 with c1 | c1
 ·rw[Aal (by lia),Aal (by lia),Aal (by lia),Aal (by lia)];rfl
 rcases acS b2 z.y with c2 | c2
 ·rw[Aal (by lia),Aal (by lia),Aal (by lia),Aal (by lia)];rfl
 by_cases f1:z.y=b1
 ·by_cases f2:z.y=b2
  ·-- Axq
   have t0 : t = 0 := by rw [t1 f1]; have : (b2 : Int) - b1 = 0 := by lia
                         rw[this];simp
   rw[Aal (by lia),Aal (by lia),Aah (P:=b2=z.y/\z.x<a2) (Q:=b1=z.y/\z.x<a1)]
   ·lia
   ·constructor
    ·intro w;refine⟨f1.symm,?_⟩;rcases acS z.x a1 with y | y
     ·exact y
     ·exact(on t0 (by lia) (by lia)).elim
    ·intro w;lia
  ·have t1':=t1 f1;have bp:(0:Int)<(b2:Int)-b1:=by lia
   have s:0<t↔z.x<a1:=by
    rw[t1'];constructor
    ·intro w;have:(0:Int)<(a1:Int)-z.x:=lp (b:=(b2:Int)-b1) (by rw[afL];exact w) bp;lia
    ·intro w;exact Aat bp (by lia)
   rw[Aal (P:=b2=z.y/\_) (by lia)]
   by_cases w:z.x<a1
   ·rw[Aal (by lia),Abx (by lia),Abx (by lia)];rfl
   ·rw[Aal (by lia),Aal (by lia),Aal (by lia)];rfl
 ·by_cases f2:z.y=b2
  ·have t2':=t2 f2;have bp:(0:Int)<(b2:Int)-b1:=by lia
   have s:0<t↔z.x<a2:=by
    rw[t2'];constructor
    ·intro w;have:(0:Int)<(a2:Int)-z.x:=lp (b:=(b2:Int)-b1) (by rw[afL];exact w) bp;lia
    ·intro w;exact Aat bp (by lia)
   rw[Aal (P:=b1=z.y/\_) (by lia),Aal (P:=b1<=z.y/\z.y<b2/\_) (by lia)];rw[Aah (P:=(b1<z.y\/_)/\_) (Q:=b2=z.y/\z.x<a2)]
   ·lia
   ·lia
  ·rw[Aal (P:=b1=z.y/\_) (by lia),Aal (P:=b2=z.y/\_) (by lia),Aah (P:=(b1<z.y\/_)/\_) (Q:=b1<=z.y/\z.y<b2/\0<t)]
   ·lia
   ·lia
end
theorem Ak9 {n:Nat}{f:Nat->Int}(h:∀i,i<n->f i<=0):sm n f<=0:=by
 induction n with
 | zero=>simp[sm]
 | succ n ih=>have:=ih (fun i hi=>h i (by lia));have:=h n (by lia);simp only[sm];lia
def fct:Nat->Nat
 | 0=>1
 | n+1=>(n+1)*fct n
theorem Amh:∀n,0<fct n
 | 0=>by decide
 | n+1=>Nat.mul_pos (by lia) (Amh n)
theorem Ami {d:Nat}:∀{n:Nat},1<=d->d<=n->d ∣ fct n
 | 0,h,k=>by lia
 | n+1,h,k=>by
  by_cases e:d=n+1
  ·subst e;exact Nat.dvd_mul_right _ _
  ·exact Nat.dvd_trans (Ami h (by lia)) (Nat.dvd_mul_left _ _)
section
variable {S:Plan}
theorem Rules.den (r:Rules S):∃K M,Den (yy S) (adj S) K M:=by
 obtain⟨B,hB⟩:=Aii (fun i=>yy S i) S.pts.length;refine⟨fun p q=>((fct B/(yy S q-yy S p).toNat:Nat):Int),(fct B:Int),?_,?_,?_⟩
 ·have:=Amh B;lia
 ·intro p q a h;have hm:=r.draw.mono p q h (r.adj_lt a).2.1;have b1:=hB q (r.adj_lt a).2.1;have y0:0<=yy S p:=by unfold yy;lia
  have:0<fct B/(yy S q-yy S p).toNat:=Nat.div_pos (Nat.le_of_dvd (Amh B) (Ami (by lia) (by lia))) (by lia);show(0:Int)<((fct B/(yy S q-yy S p).toNat:Nat):Int);lia
 ·intro p q a h;have hm:=r.draw.mono p q h (r.adj_lt a).2.1;have b1:=hB q (r.adj_lt a).2.1;have y0:0<=yy S p:=by unfold yy;lia
  have dv:(yy S q-yy S p).toNat ∣ fct B:=Ami (by lia) (by lia);have e:=Nat.div_mul_cancel dv;have e2:(((yy S q-yy S p).toNat:Nat):Int)=yy S q-yy S p:=by lia
  show((fct B/(yy S q-yy S p).toNat:Nat):Int)*(yy S q-yy S p)=(fct B:Int);generalize (yy S q-yy S p).toNat=t at e e2 ⊢;rw[<-e2,<-agS,e]
noncomputable abbrev co (S:Plan) (s:Way):Nat->Nat->Int:=cg (adj S) (fun u v=>(u,v)∈orb S s)
theorem Rules.circ (r:Rules S){s:Way}(h:adj S s.1 s.2):Alh S.pts.length (adj S) (co S s):=As9 r.draw r.rot (r.orb_cl h)
theorem Rules.inside_wn (r:Rules S){K:Nat->Nat->Int}{M:Int}(k:Den (yy S) (adj S) K M){s:Way}(h:adj S s.1 s.2){z:Pt}(zx:z.x<=S.w)
 (off:∀l,l∈S.lines->isOn (S.pt l.1) (S.pt l.2) z=false) :
 insideOf S (Vs S s) z=true↔wn S.pts.length (xx S) (yy S) K (co S s) (hz z) (2*(z.x:Int)*M)%2=1:=by
 have hc:=r.circ h;have e:wn S.pts.length (xx S) (yy S) K (co S s) (hz z) (2*(z.x:Int)*M)=Av1 (aI S z) (orb S s):=by
  rw[Apf (Ayl S z) (r.orb_nodup h) (fun e he=>r.orb_adj h he) r];unfold wn;apply Arx hc (fun w=>nd ((S.pt w).y=z.y/\z.x<(S.pt w).x));intro p q hp hq pq a;have of:=off (p,q) (r.adj_mem a pq);have ra:=Azx r a pq zx of;have ii:(yy S p<hz z/\hz z<yy S q/\2*(z.x:Int)*M<Ps (xx S) (yy S) K p q (hz z))↔(yy S p<hz z/\hz z<yy S q/\0<turn (S.pt p) (S.pt q) z):=by
   rw[Bde k a pq z]
  rw[<-Aah ii]at ra;exact ra
 rw[e];unfold insideOf;rw[r.Vs_zip h,decide_eq_true_iff]
 have:=Anc S z (fun(x:Nat×Nat)=>let p:=S.pt x.1;let q:=S.pt x.2
  (decide (p.y<=z.y)&&(decide (z.y<q.y)&&decide (0<turn p q z)))||(decide (q.y<=z.y)&&(decide (z.y<p.y)&&decide (turn p q z<0)))) (by
   intro e;unfold iUp iDn
   simp) (orb S s)
 rw[<-this];constructor<;>(intro w;lia)
theorem Aie (a:Nat->Nat->Int):∀l:List Way,(l.map fun(x:Nat×Nat)=>a x.1 x.2).foldr (fun(a b:Int)=>a+b) 0=Av1 a l
 | []=>rfl
 | e::r=>by rw[abE,alN,Aie a r];rfl
theorem Rules.area_fl (r:Rules S){s:Way}(h:adj S s.1 s.2) :
 8388608*twiceArea S (Vs S s)=fl S.pts.length (co S s) (fun p q=>(xx S p+xx S q)*(yy S q-yy S p)):=by
 have hc:=r.circ h;unfold twiceArea
 rw[r.Vs_zip h,Aie (fun p q=>((S.pt p).x:Int)*((S.pt q).y:Int)-((S.pt q).x:Int)*((S.pt p).y:Int)),
  Apf (by intro p q;grind) (r.orb_nodup h) (fun e he=>r.orb_adj h he) r,<-Anq]
 apply Arx hc (fun w=>- (xx S w*yy S w));intro p q _ _ _ _;unfold xx yy hgt NN;simp only[ahT,agS]
 grind
structure Apa (S:Plan):Prop where
 a01:adj S 0 1
 min:∀t,adj S 0 t->t≠1->0<T (xx S) (yy S) 0 1 t
theorem Rules.ph_face (r:Rules S)(o:Apa S){s:Way}(h:adj S s.1 s.2){u v:Nat}(a:adj S u v) :
 ph S.pts.length (xx S) (yy S) (co S s) u v=nd ((u,v)∈orb S s)-nd ((1,0)∈orb S s) :=
 Bex r.draw r.rot r.con o.a01 o.min (r.orb_cl h) u v a
theorem hR (S:Plan):∃R:Nat,∀w,w<S.pts.length->hgt S w<=R:=by
 obtain⟨B,hB⟩:=Aii (fun i=>(hgt S i:Int)) S.pts.length;exact⟨B,fun w hw=>by have:=hB w hw;lia⟩
theorem Rules.area_in (r:Rules S)(o:Apa S){s:Way}(h:adj S s.1 s.2)(no:(1,0)∉orb S s){u v:Nat}(a:adj S u v)(hu:u<v)(m:(u,v)∈orb S s) :
 0<twiceArea S (Vs S s):=by
 obtain⟨K,M,k⟩:=r.den;obtain⟨R,hr⟩:=hR S;have e:=r.area_fl h
 have:=Auu r.draw k (H:=hgt S) (R:=R) (fun _ _=>rfl) hr (r.circ h) (by
  intro u v a _;rw[r.ph_face o h a,Aal no]
  by_cases z:(u,v)∈orb S s
  ·rw[Abx z];lia
  ·rw[Aal z];lia) a hu (by rw[r.ph_face o h a,Aal no,Abx m];lia)
 lia
theorem Rules.area_out (r:Rules S)(o:Apa S){s:Way}(h:adj S s.1 s.2)(yes:(1,0)∈orb S s):twiceArea S (Vs S s)<=0:=by
 obtain⟨K,M,k⟩:=r.den;obtain⟨R,hr⟩:=hR S;have e:=r.area_fl h;have hc:=r.circ h;obtain⟨B,_,e2⟩:=Ao1 r.draw k (H:=hgt S) (R:=R) (fun _ _=>rfl) hr hc;have w0:∀(i:Nat) (t:Int),wn S.pts.length (xx S) (yy S) K (co S s) (2*(i:Int)+1) t<=0:=by
  intro i t;rcases Bbo r.draw k (2*(i:Int)+1) t (by intro w _;unfold yy;lia)with z | z
  ·rw[z.2 _ hc];lia
  ·obtain⟨u,v,a,_,_,_,_,z⟩:=z;rw[z _ hc,r.ph_face o h a,Abx yes]
   by_cases z:(u,v)∈orb S s
   ·rw[Abx z];lia
   ·rw[Aal z];lia
 have:sm R (fun i=>sm (2*B) (fun t=>wn S.pts.length (xx S) (yy S) K (co S s) (2*(i:Int)+1) ((t:Int)-B)))<=0 :=
  Ak9 (fun i _=>Ak9 (fun t _=>w0 i _))
 have kp:=k.pos;rcases abW 0 (fl S.pts.length (co S s) (fun p q=>(xx S p+xx S q)*(yy S q-yy S p)))with z | z
 ·have:=Aat kp z;lia
 ·lia
theorem Rules.hold_one (r:Rules S)(o:Apa S){s t:Way}(hs:adj S s.1 s.2)(ht:adj S t.1 t.2)(as:0<twiceArea S (Vs S s))(at':0<twiceArea S (Vs S t)){z:Pt}(zx:z.x<=S.w)
 (off:∀l,l∈S.lines->isOn (S.pt l.1) (S.pt l.2) z=false) (lev:∀w,w<S.pts.length->yy S w≠hz z)
 (is:insideOf S (Vs S s) z=true) (it:insideOf S (Vs S t) z=true):t∈orb S s:=by
 obtain⟨K,M,k⟩:=r.den;rw[r.inside_wn k hs zx off]at is;rw[r.inside_wn k ht zx off]at it;have ns:(1,0)∉orb S s:=fun z=>by have:=r.area_out o hs z;lia
 have nt:(1,0)∉orb S t:=fun z=>by have:=r.area_out o ht z;lia
 rcases Bbo r.draw k (hz z) (2*(z.x:Int)*M) lev with w | w
 ·rw[w.2 _ (r.circ hs)]at is;lia
 ·obtain⟨u,v,a,_,_,_,_,w⟩:=w;rw[w _ (r.circ hs),r.ph_face o hs a,Aal ns]at is;rw[w _ (r.circ ht),r.ph_face o ht a,Aal nt]at it;have m1:(u,v)∈orb S s:=by
   apply acT;intro q;rw[Aal q]at is;lia
  have m2:(u,v)∈orb S t:=by
   apply acT;intro q;rw[Aal q]at it;lia
  exact r.orb_trans hs m1 (r.orb_back ht m2)
theorem Rules.hold_some (r:Rules S)(o:Apa S){z:Pt}(zx:z.x<=S.w)
 (off:∀l,l∈S.lines->isOn (S.pt l.1) (S.pt l.2) z=false) (lev:∀w,w<S.pts.length->yy S w≠hz z)
 (ex:∃p q,adj S p q/\p<q/\yy S p<hz z/\hz z<yy S q/\0<turn (S.pt p) (S.pt q) z)
 (inn:∀p q,adj S p q->p<q->yy S p<hz z->hz z<yy S q->0<turn (S.pt p) (S.pt q) z->(p,q)∉orb S (1,0)) :
 ∃s:Way,adj S s.1 s.2/\Ace S s/\0<twiceArea S (Vs S s)/\insideOf S (Vs S s) z=true:=by
 obtain⟨K,M,k⟩:=r.den;have a10:adj S ((1,0):Way).1 ((1,0):Way).2:=r.draw.sym _ _ o.a01;rcases Bbo r.draw k (hz z) (2*(z.x:Int)*M) lev with w | w
 ·obtain⟨p,q,a,h,y1,y2,t⟩:=ex;exact absurd ((Bde k a h z).2 t) (w.1 p q a h y1 y2)
 ·obtain⟨u,v,a,h,y1,y2,t,w⟩:=w;have nout:=inn u v a h y1 y2 ((Bde k a h z).1 t);obtain⟨x,hx,lx,_⟩:=r.fromLeast_Vs (e:=(u,v)) a;have ax:=r.orb_adj (e:=(u,v)) a hx;have mx:(u,v)∈orb S x:=r.orb_back (e:=(u,v)) a hx;have no:(1,0)∉orb S x:=fun q=>nout (r.orb_back (e:=(u,v)) a (r.orb_trans (e:=(u,v)) a hx q));refine⟨x,ax,lx,r.area_in o ax no a h mx,?_⟩;rw[r.inside_wn k ax zx off,w _ (r.circ ax),r.ph_face o ax a,Abx mx,Aal no]
  rfl
end
theorem Ae8 (P:Nat->Prop):∀(L:List Nat),L.Pairwise (·<·)->∀x y,x∈L->y∈L->x<y->¬P x->P y->
 ∃l1 a b l2,L=l1++a::b::l2/\¬P a/\P b/\x<=a/\b<=y
 | [],_,x,_,hx,_,_,_,_=>by simp at hx
 | [h],_,x,y,hx,hy,hxy,_,_=>by simp at hx hy;lia
 | h::k::t,s,x,y,hx,hy,hxy,nx,py=>by
  have s1:=acP.1 s
  by_cases pk:P k
  ·by_cases ph:P h
   ·-- x is behind h
    have xh:x≠h:=fun e=>nx (e ▸ ph);have hx':x∈k::t:=by
     rcases aaG.1 hx with z | z
     ·exact absurd z xh
     ·exact z
    have xk:=s1.1 x hx';have hy':y∈k::t:=by
     rcases aaG.1 hy with z | z
     ·lia
     ·exact z
    obtain⟨l1,a,b,l2,e,q⟩:=Ae8 P (k::t) s1.2 x y hx' hy' hxy nx py;exact⟨h::l1,a,b,l2,by rw[e];rfl,q⟩
   ·by_cases xh:x=h
    ·subst xh;refine⟨[],x,k,t,rfl,ph,pk,aaK _,?_⟩;rcases aaG.1 hy with z | z
     ·lia
     ·rcases aaG.1 z with z | z
      ·lia
      ·have:=(acP.1 s1.2).1 y z;lia
    ·have hx':x∈k::t:=by
      rcases aaG.1 hx with z | z
      ·exact absurd z xh
      ·exact z
     have xk:=s1.1 x hx';have hy':y∈k::t:=by
      rcases aaG.1 hy with z | z
      ·lia
      ·exact z
     obtain⟨l1,a,b,l2,e,q⟩:=Ae8 P (k::t) s1.2 x y hx' hy' hxy nx py;exact⟨h::l1,a,b,l2,by rw[e];rfl,q⟩
  ·-- go on from k
   have hy':y∈k::t:=by
    rcases aaG.1 hy with z | z
    ·rcases aaG.1 hx with w | w
     ·lia
     ·have:=s1.1 x w;lia
    ·exact z
   have yk:y≠k:=fun e=>pk (e ▸ py);have ky:k<y:=by
    rcases aaG.1 hy' with z | z
    ·exact absurd z yk
    ·exact(acP.1 s1.2).1 y z
   by_cases xh:x=h
   ·obtain⟨l1,a,b,l2,e,q1,q2,q3,q4⟩:=Ae8 P (k::t) s1.2 k y (by simp) hy' ky pk py;have:=s1.1 k (by simp);exact⟨h::l1,a,b,l2,by rw[e];rfl,q1,q2,by lia,q4⟩
   ·have hx':x∈k::t:=by
     rcases aaG.1 hx with z | z
     ·exact absurd z xh
     ·exact z
    obtain⟨l1,a,b,l2,e,q⟩:=Ae8 P (k::t) s1.2 x y hx' hy' hxy nx py;exact⟨h::l1,a,b,l2,by rw[e];rfl,q⟩
theorem Ak1 {l1 l2:List Nat}{a b:Nat}:∀{L:List Nat},L=l1++a::b::l2->(a,b)∈L.zip (L.drop 1):=by
 intro L e;subst e
 induction l1 with
 | nil=>simp
 | cons x l ih =>
  cases l with
  | nil=>simp
  | cons y l =>
   simp only[adP,aoD,List.drop_zero,aeF,aaG]at ih ⊢;exact .inr ih
theorem Abt (S:Plan)(on:Pt->Bool):(edgePts S on).Pairwise (·<·):=by
 unfold edgePts;exact aiG _ agY
theorem Ael (S:Plan)(on:Pt->Bool)(i:Nat):i∈edgePts S on↔i<S.pts.length/\on (S.pt i)=true:=by
 unfold edgePts;rw[adJ,abT]
theorem Ajb {S:Plan}{p:Pt}(h:S.pts.contains p=true):∃i,i<S.pts.length/\S.pt i=p:=by
 rw[aeU]at h;obtain⟨i,hi,e⟩:=abX.1 h;refine⟨i,hi,?_⟩;unfold Plan.pt;rw[abN,aaE hi];exact e
section
variable {S:Plan}
theorem Rules.chain (r:Rules S){on:Pt->Bool}(ch:chained S (edgePts S on)=true){P:Nat->Prop}{x y:Nat}(hx:x<S.pts.length)(ox:on (S.pt x)=true)
 (hy:y<S.pts.length) (oy:on (S.pt y)=true) (h:x<y) (nx:¬P x) (py:P y) :
 ∃a b,adj S a b/\a<b/\on (S.pt a)=true/\on (S.pt b)=true/\¬P a/\P b/\x<=a/\b<=y/\∀c,c<S.pts.length->on (S.pt c)=true->c<=a\/b<=c:=by
 have so:=Abt S on;obtain⟨l1,a,b,l2,e,q1,q2,q3,q4⟩:=Ae8 P (edgePts S on) so x y ((Ael S on x).2 ⟨hx,ox⟩) ((Ael S on y).2 ⟨hy,oy⟩) h nx py;have ma:=(Ael S on a).1 (by rw[e];simp);have mb:=(Ael S on b).1 (by rw[e];simp);have j:S.joined a b=true:=by
  unfold chained at ch;rw[agI]at ch;exact ch (a,b) (Ak1 e)
 have so':=so;rw[e]at so';have s2:=ahL.1 so';have s3:=acP.1 s2.2.1;have s4:=acP.1 s3.2;have ab:=s3.1 b (by simp);refine⟨a,b,?_,ab,ma.2,mb.2,q1,q2,q3,q4,?_⟩
 ·unfold Plan.joined at j;rw[aeU]at j;have e1:min a b=a:=by lia
  have e2:max a b=b:=by lia
  rw[e1,e2]at j;exact .inl j
 ·intro c hc oc;have mc:=(Ael S on c).2 ⟨hc,oc⟩;rw[e]at mc;rcases abH.1 mc with z | z
  ·left;have:=s2.2.2 c z a (by simp);lia
  ·rcases aaG.1 z with z | z
   ·left;lia
   ·rcases aaG.1 z with z | z
    ·right;lia
    ·right;have:=s4.1 c z;lia
theorem Rules.prev (r:Rules S){on:Pt->Bool}(ch:chained S (edgePts S on)=true){x v:Nat}(hv:v<S.pts.length)(ov:on (S.pt v)=true)
 (ox:on (S.pt x)=true) (h:x<v):∃w,adj S v w/\w<v/\on (S.pt w)=true:=by
 obtain⟨a,b,ad,ab,oa,ob,q1,q2,q3,q4,all⟩:=r.chain ch (P:=fun i=>v<=i) (show x<S.pts.length by lia) ox hv ov h (by lia) (aaK _);have:b=v:=by have:=all v hv ov;lia
 subst this;exact⟨a,r.draw.sym _ _ ad,ab,oa⟩
theorem Rules.succ (r:Rules S){on:Pt->Bool}(ch:chained S (edgePts S on)=true){y v:Nat}(ov:on (S.pt v)=true)
 (hy:y<S.pts.length) (oy:on (S.pt y)=true) (h:v<y):∃w,adj S v w/\v<w/\on (S.pt w)=true:=by
 obtain⟨a,b,ad,ab,oa,ob,q1,q2,q3,q4,all⟩:=r.chain ch (P:=fun i=>v<i) (show v<S.pts.length by lia) ov hy oy h (by lia) h;have:a=v:=by have:=all v (by lia) ov;lia
 subst this;exact⟨b,ad,ab,ob⟩
theorem Rules.flat (r:Rules S){u v w:Nat}(hu:adj S v u)(hw:adj S v w)(opp:¬(u<v↔w<v))(line:∀x,adj S v x->0<=turn (S.pt v) (S.pt u) (S.pt x))
 (z:turn (S.pt v) (S.pt u) (S.pt w)=0) (zz:∀x,adj S v x->turn (S.pt v) (S.pt u) (S.pt x)=0->turn (S.pt v) (S.pt w) (S.pt x)=0):S.next u v=w:=by
 apply Agh r hu;refine⟨hw,?_⟩;intro x hx hn;have e1:hf (xx S) (yy S) v u w=1:=by
  unfold hf;rw[Abl,z];simp;exact fun q=>opp q
 rw[e1]
 by_cases e:x=u
 ·subst e;rw[Agw];lia
 ·have l:=line x hx;have:0<T (xx S) (yy S) v u x:=by
   rcases abW 0 (T (xx S) (yy S) v u x)with y | y
   ·exact y
   ·exfalso;rw[Abl]at y;have t0:turn (S.pt v) (S.pt u) (S.pt x)=0:=by lia
    by_cases s:u<v↔x<v
    ·have:=r.draw.apart hu hx (acU e) s;rw[Abl]at this;lia
    ·have:=r.draw.apart hw hx (acU hn) (by lia);rw[Abl,zz x hx t0]at this;lia
  rw[Avn this];lia
theorem Rules.cornr (r:Rules S){u v w:Nat}(hu:adj S v u)(hw:adj S v w)(line:∀x,adj S v x->0<=turn (S.pt v) (S.pt u) (S.pt x))
 (s0:∀x,adj S v x->turn (S.pt v) (S.pt u) (S.pt x)=0->(u<v↔x<v)) (p:0<turn (S.pt v) (S.pt u) (S.pt w))
 (lw:∀x,adj S v x->turn (S.pt v) (S.pt w) (S.pt x)<=0) (sw:∀x,adj S v x->turn (S.pt v) (S.pt w) (S.pt x)=0->(w<v↔x<v)):S.next u v=w:=by
 apply Agh r hu;refine⟨hw,?_⟩;intro x hx hn;rw[Avn (x:=w) (by rw[Abl];lia)]
 by_cases e:x=u
 ·subst e;rw[Agw];lia
 ·have l:=line x hx;have l2:=lw x hx;have:0<T (xx S) (yy S) v u x:=by
   rcases abW 0 (T (xx S) (yy S) v u x)with y | y
   ·exact y
   ·exfalso;rw[Abl]at y;have:=r.draw.apart hu hx (acU e) (s0 x hx (by lia));rw[Abl]at this;lia
  rw[Avn this];right;refine⟨rfl,?_⟩;rcases abW (T (xx S) (yy S) v w x) 0 with y | y
  ·exact y
  ·exfalso;rw[Abl]at y;have:=r.draw.apart hw hx (acU hn) (sw x hx (by lia));rw[Abl]at this;lia
end
theorem Alm (p q r:Pt):turn p q r=((q.x:Int)-p.x)*((r.y:Int)-p.y)-((q.y:Int)-p.y)*((r.x:Int)-p.x):=by
 unfold turn dx dy;grind
theorem Ag6 {p q:Pt}(r:Pt)(h:q.y=p.y):turn p q r=((q.x:Int)-p.x)*((r.y:Int)-p.y):=by
 rw[Alm,h];grind
theorem Afd {p q:Pt}(r:Pt)(h:q.x=p.x):turn p q r=((p.y:Int)-q.y)*((r.x:Int)-p.x):=by
 rw[Alm,h];grind
theorem Ab8 {a b:Int}(h:a*b=0)(k:a≠0):b=0:=by
 rcases ahU.1 h with z | z
 ·exact absurd z k
 ·exact z
structure Bdg (S:Plan):Prop where
 c00:∃i,i<S.pts.length/\S.pt i=⟨0,0⟩
 cw0:∃i,i<S.pts.length/\S.pt i=⟨S.w,0⟩
 c0h:∃i,i<S.pts.length/\S.pt i=⟨0,S.h⟩
 cwh:∃i,i<S.pts.length/\S.pt i=⟨S.w,S.h⟩
 chB:chained S (edgePts S fun(p:Pt)=>p.y==0)=true
 chT:chained S (edgePts S fun(p:Pt)=>p.y==S.h)=true
 chL:chained S (edgePts S fun(p:Pt)=>p.x==0)=true
 chR:chained S (edgePts S fun(p:Pt)=>p.x==S.w)=true
section
variable {S:Plan}
theorem Rules.fr (r:Rules S):Bdg S:=by
 have f:=r.frame;unfold frameOk at f;simp only[acH]at f;obtain⟨a,b,c,d,e,f,g,h⟩:=f;exact⟨Ajb a,Ajb b,Ajb c,Ajb d,e,f,g,h⟩
theorem Rules.lt_of (r:Rules S){i j:Nat}(hi:i<S.pts.length)(h:(S.pt i).y<(S.pt j).y\/((S.pt i).y=(S.pt j).y/\(S.pt i).x<(S.pt j).x)):i<j:=by
 rcases acE i j with z | z | z
 ·exact z
 ·subst z;lia
 ·have:=(below_iff _ _).1 (r.ord j i z hi);lia
theorem Rules.lex (r:Rules S){i j:Nat}(h:i<j)(hj:j<S.pts.length):(S.pt i).y<(S.pt j).y\/((S.pt i).y=(S.pt j).y/\(S.pt i).x<(S.pt j).x) :=
 (below_iff _ _).1 (r.ord i j h hj)
def Cf (S:Plan)(u v:Nat):Prop:=adj S u v/\(((S.pt u).y=0/\(S.pt v).y=0/\v<u)\/((S.pt u).x=0/\(S.pt v).x=0/\u<v)\/
 ((S.pt u).y=S.h/\(S.pt v).y=S.h/\u<v)\/((S.pt u).x=S.w/\(S.pt v).x=S.w/\v<u))
theorem Rules.Cf_next (r:Rules S){u v:Nat}(h:Cf S u v):Cf S v (S.next u v):=by
 have f:=r.fr;obtain⟨a,h⟩:=h;have hv:=(r.adj_lt a).2.1;have hu:=(r.adj_lt a).1;have av:=r.draw.sym _ _ a;have wide:=r.wide;have high:=r.high;have bx:∀x,adj S v x->(S.pt x).x<=S.w/\(S.pt x).y<=S.h/\x<S.pts.length:=fun x hx=>⟨r.inx x (r.adj_lt hx).2.1,r.iny x (r.adj_lt hx).2.1,(r.adj_lt hx).2.1⟩
 have vx:=r.inx v hv;have vy:=r.iny v hv;rcases h with ⟨yu,yv,lt⟩ | ⟨xu,xv,lt⟩ | ⟨yu,yv,lt⟩ | ⟨xu,xv,lt⟩
 ·-- below,to the left
  have lx:=r.lex lt hu;have d0:(0:Int)<((S.pt u).x:Int)-(S.pt v).x:=by lia
  have tu:∀x,turn (S.pt v) (S.pt u) (S.pt x)=(((S.pt u).x:Int)-(S.pt v).x)*(((S.pt x).y:Int)-(S.pt v).y):=fun x=>Ag6 _ (by lia);have line:∀x,adj S v x->0<=turn (S.pt v) (S.pt u) (S.pt x):=fun x _=>by rw[tu];exact adT (by lia) (by lia)
  have on0:∀x,turn (S.pt v) (S.pt u) (S.pt x)=0->(S.pt x).y=0:=fun x z=>by rw[tu]at z;have:=Ab8 z (by lia);lia
  by_cases c:(S.pt v).x=0
  ·obtain⟨y,hy,ey⟩:=f.c0h;have:v<y:=r.lt_of hv (by rw[ey];simp only[];lia);obtain⟨w,aw,vw,ow⟩:=r.succ f.chL (v:=v) (by simp[c]) hy (by rw[ey];simp) this;simp only[beq_iff_eq]at ow;have bw:=bx w aw;have lw:=r.lex vw bw.2.2;have tw:∀x,turn (S.pt v) (S.pt w) (S.pt x)=(((S.pt v).y:Int)-(S.pt w).y)*(((S.pt x).x:Int)-(S.pt v).x):=fun x=>Afd _ (by lia)
   have e:=r.cornr av aw line (fun x hx z=>by
    have:=on0 x z;have bx':=bx x hx;have xv':v<x:=by
     rcases acE v x with q | q | q
     ·exact q
     ·exact absurd q (r.adj_lt hx).2.2
     ·have:=r.lex q hv;lia
    lia) (by rw[tu];exact Aat d0 (by lia)) (fun x hx=>by rw[tw];exact acO (by lia) (by lia)) (fun x hx z=>by
    rw[tw]at z;have z0:=Ab8 z (by lia);have xv':v<x:=by
     rcases acE v x with q | q | q
     ·exact q
     ·exact absurd q (r.adj_lt hx).2.2
     ·have:=r.lex q hv;lia
    lia)
   rw[e];exact⟨aw,.inr (.inl ⟨c,ow,vw⟩)⟩
  ·obtain⟨y,hy,ey⟩:=f.c00;have:y<v:=r.lt_of hy (by rw[ey];simp only[];lia);obtain⟨w,aw,vw,ow⟩:=r.prev f.chB (x:=y) hv (by simp[yv]) (by rw[ey];simp) this;simp only[beq_iff_eq]at ow
   have e:=r.flat av aw (by lia) line (by rw[tu,ow,yv];simp) (fun x hx z=>by
    have:=on0 x z
    rw[Ag6 _ (by lia),this,yv];simp)
   rw[e];exact⟨aw,.inl ⟨yv,ow,vw⟩⟩
 ·-- to the left,upwards
  have lx:=r.lex lt hv;have d0:(0:Int)<((S.pt v).y:Int)-(S.pt u).y:=by lia
  have tu:∀x,turn (S.pt v) (S.pt u) (S.pt x)=(((S.pt v).y:Int)-(S.pt u).y)*(((S.pt x).x:Int)-(S.pt v).x):=fun x=>Afd _ (by lia);have line:∀x,adj S v x->0<=turn (S.pt v) (S.pt u) (S.pt x):=fun x _=>by rw[tu];exact adT (by lia) (by lia)
  have on0:∀x,turn (S.pt v) (S.pt u) (S.pt x)=0->(S.pt x).x=0:=fun x z=>by rw[tu]at z;have:=Ab8 z (by lia);lia
  by_cases c:(S.pt v).y=S.h
  ·obtain⟨y,hy,ey⟩:=f.cwh;have:v<y:=r.lt_of hv (by rw[ey];simp only[];lia);obtain⟨w,aw,vw,ow⟩:=r.succ f.chT (v:=v) (by simp[c]) hy (by rw[ey];simp) this;simp only[beq_iff_eq]at ow;have bw:=bx w aw;have lw:=r.lex vw bw.2.2;have tw:∀x,turn (S.pt v) (S.pt w) (S.pt x)=(((S.pt w).x:Int)-(S.pt v).x)*(((S.pt x).y:Int)-(S.pt v).y):=fun x=>Ag6 _ (by lia)
   have e:=r.cornr av aw line (fun x hx z=>by
    have:=on0 x z;have bx':=bx x hx;have xv':x<v:=by
     rcases acE v x with q | q | q
     ·have:=r.lex q bx'.2.2;lia
     ·exact absurd q (r.adj_lt hx).2.2
     ·exact q
    lia) (by rw[tu];exact Aat d0 (by lia)) (fun x hx=>by have:=bx x hx;rw[tw];exact adA (by lia) (by lia)) (fun x hx z=>by
    rw[tw]at z;have z0:=Ab8 z (by lia);have bx':=bx x hx;have xv':v<x:=by
     rcases acE v x with q | q | q
     ·exact q
     ·exact absurd q (r.adj_lt hx).2.2
     ·have:=r.lex q hv;lia
    lia)
   rw[e];exact⟨aw,.inr (.inr (.inl ⟨c,ow,vw⟩))⟩
  ·obtain⟨y,hy,ey⟩:=f.c0h;have:v<y:=r.lt_of hv (by rw[ey];simp only[];lia);obtain⟨w,aw,vw,ow⟩:=r.succ f.chL (v:=v) (by simp[xv]) hy (by rw[ey];simp) this;simp only[beq_iff_eq]at ow
   have e:=r.flat av aw (by lia) line (by rw[tu,ow,xv];simp) (fun x hx z=>by
    have:=on0 x z
    rw[Afd _ (by lia),this,xv];simp)
   rw[e];exact⟨aw,.inr (.inl ⟨xv,ow,vw⟩)⟩
 ·-- above,to the right
  have lx:=r.lex lt hv;have d0:((S.pt u).x:Int)-(S.pt v).x<0:=by lia
  have tu:∀x,turn (S.pt v) (S.pt u) (S.pt x)=(((S.pt u).x:Int)-(S.pt v).x)*(((S.pt x).y:Int)-(S.pt v).y):=fun x=>Ag6 _ (by lia);have line:∀x,adj S v x->0<=turn (S.pt v) (S.pt u) (S.pt x):=fun x hx=>by have:=bx x hx;rw[tu];exact adQ (by lia) (by lia)
  have on0:∀x,turn (S.pt v) (S.pt u) (S.pt x)=0->(S.pt x).y=S.h:=fun x z=>by rw[tu]at z;have:=Ab8 z (by lia);lia
  by_cases c:(S.pt v).x=S.w
  ·obtain⟨y,hy,ey⟩:=f.cw0;have:y<v:=r.lt_of hy (by rw[ey];simp only[];lia);obtain⟨w,aw,vw,ow⟩:=r.prev f.chR (x:=y) hv (by simp[c]) (by rw[ey];simp) this;simp only[beq_iff_eq]at ow;have bw:=bx w aw;have lw:=r.lex vw hv;have tw:∀x,turn (S.pt v) (S.pt w) (S.pt x)=(((S.pt v).y:Int)-(S.pt w).y)*(((S.pt x).x:Int)-(S.pt v).x):=fun x=>Afd _ (by lia)
   have e:=r.cornr av aw line (fun x hx z=>by
    have:=on0 x z;have bx':=bx x hx;have xv':x<v:=by
     rcases acE v x with q | q | q
     ·have:=r.lex q bx'.2.2;lia
     ·exact absurd q (r.adj_lt hx).2.2
     ·exact q
    lia) (by rw[tu];exact Abq d0 (by lia)) (fun x hx=>by have:=bx x hx;rw[tw];exact adA (by lia) (by lia)) (fun x hx z=>by
    rw[tw]at z;have z0:=Ab8 z (by lia);have bx':=bx x hx;have xv':x<v:=by
     rcases acE v x with q | q | q
     ·have:=r.lex q bx'.2.2;lia
     ·exact absurd q (r.adj_lt hx).2.2
     ·exact q
    lia)
   rw[e];exact⟨aw,.inr (.inr (.inr ⟨c,ow,vw⟩))⟩
  ·obtain⟨y,hy,ey⟩:=f.cwh;have:v<y:=r.lt_of hv (by rw[ey];simp only[];lia);obtain⟨w,aw,vw,ow⟩:=r.succ f.chT (v:=v) (by simp[yv]) hy (by rw[ey];simp) this;simp only[beq_iff_eq]at ow
   have e:=r.flat av aw (by lia) line (by rw[tu,ow,yv];simp) (fun x hx z=>by
    have:=on0 x z
    rw[Ag6 _ (by lia),this,yv];simp)
   rw[e];exact⟨aw,.inr (.inr (.inl ⟨yv,ow,vw⟩))⟩
 ·-- to the right,downwards
  have lx:=r.lex lt hu;have d0:((S.pt v).y:Int)-(S.pt u).y<0:=by lia
  have tu:∀x,turn (S.pt v) (S.pt u) (S.pt x)=(((S.pt v).y:Int)-(S.pt u).y)*(((S.pt x).x:Int)-(S.pt v).x):=fun x=>Afd _ (by lia);have line:∀x,adj S v x->0<=turn (S.pt v) (S.pt u) (S.pt x):=fun x hx=>by have:=bx x hx;rw[tu];exact adQ (by lia) (by lia)
  have on0:∀x,turn (S.pt v) (S.pt u) (S.pt x)=0->(S.pt x).x=S.w:=fun x z=>by rw[tu]at z;have:=Ab8 z (by lia);lia
  by_cases c:(S.pt v).y=0
  ·obtain⟨y,hy,ey⟩:=f.c00;have:y<v:=r.lt_of hy (by rw[ey];simp only[];lia);obtain⟨w,aw,vw,ow⟩:=r.prev f.chB (x:=y) hv (by simp[c]) (by rw[ey];simp) this;simp only[beq_iff_eq]at ow;have bw:=bx w aw;have lw:=r.lex vw hv;have tw:∀x,turn (S.pt v) (S.pt w) (S.pt x)=(((S.pt w).x:Int)-(S.pt v).x)*(((S.pt x).y:Int)-(S.pt v).y):=fun x=>Ag6 _ (by lia)
   have e:=r.cornr av aw line (fun x hx z=>by
    have:=on0 x z;have bx':=bx x hx;have xv':v<x:=by
     rcases acE v x with q | q | q
     ·exact q
     ·exact absurd q (r.adj_lt hx).2.2
     ·have:=r.lex q hv;lia
    lia) (by rw[tu];exact Abq d0 (by lia)) (fun x hx=>by have:=bx x hx;rw[tw];exact acO (by lia) (by lia)) (fun x hx z=>by
    rw[tw]at z;have z0:=Ab8 z (by lia);have bx':=bx x hx;have xv':x<v:=by
     rcases acE v x with q | q | q
     ·have:=r.lex q bx'.2.2;lia
     ·exact absurd q (r.adj_lt hx).2.2
     ·exact q
    lia)
   rw[e];exact⟨aw,.inl ⟨c,ow,vw⟩⟩
  ·obtain⟨y,hy,ey⟩:=f.cw0;have:y<v:=r.lt_of hy (by rw[ey];simp only[];lia);obtain⟨w,aw,vw,ow⟩:=r.prev f.chR (x:=y) hv (by simp[xv]) (by rw[ey];simp) this;simp only[beq_iff_eq]at ow
   have e:=r.flat av aw (by lia) line (by rw[tu,ow,xv];simp) (fun x hx z=>by
    have:=on0 x z
    rw[Afd _ (by lia),this,xv];simp)
   rw[e];exact⟨aw,.inr (.inr (.inr ⟨xv,ow,vw⟩))⟩
end
section
variable {S:Plan}
theorem Rules.pt0 (r:Rules S):S.pt 0=⟨0,0⟩:=by
 obtain⟨i,hi,e⟩:=r.fr.c00;rcases adV (abO i)with z | z
 ·subst z;exact e
 ·have:=r.lex z hi;rw[e]at this;simp only[]at this;lia
theorem Rules.pt1 (r:Rules S):(S.pt 1).y=0/\0<(S.pt 1).x:=by
 obtain⟨i,hi,e⟩:=r.fr.cw0;have w:=r.wide;have f4:=r.four;have p0:=r.pt0;have i0:i≠0:=by
  intro z;rw[z,p0]at e;have:(⟨0,0⟩ : Pt).x=(⟨S.w,0⟩ : Pt).x:=by rw[e]
  simp only[]at this;lia
 have l:=r.lex (show 0<1 by lia) (show 1<S.pts.length by lia);rw[p0]at l;simp only[]at l;rcases acS 1 i with z | z
 ·have:=r.lex z hi;rw[e]at this;simp only[]at this;lia
 ·have:i=1:=by lia
  subst this;rw[e];exact⟨rfl,by show 0<S.w;lia⟩
theorem Rules.outer (r:Rules S):Apa S:=by
 have f4:=r.four;have p0:=r.pt0;have p1:=r.pt1;have a01:adj S 0 1:=by
  obtain⟨w,aw,vw,ow⟩:=r.prev r.fr.chB (x:=0) (v:=1) (by lia) (by simp[p1.1]) (by simp[p0]) (by lia);have:w=0:=by lia
  subst this;exact r.draw.sym _ _ aw
 refine⟨a01,?_⟩;intro t ht hn;have ap:=r.draw.apart a01 ht (acU hn) (by lia);rw[Abl]at ap ⊢;have e:turn (S.pt 0) (S.pt 1) (S.pt t)=((S.pt 1).x:Int)*((S.pt t).y:Int):=by
  rw[Ag6 _ (by rw[p0,p1.1]),p0];simp
 have:=adT (show(0:Int)<=((S.pt 1).x:Int)by lia) (show(0:Int)<=((S.pt t).y:Int)by lia);lia
theorem Rules.orb_Cf (r:Rules S){x:Way}(h:x∈orb S (1,0)):Cf S x.1 x.2:=by
 have o:=r.outer;have a:adj S ((1,0):Way).1 ((1,0):Way).2:=r.draw.sym _ _ o.a01;obtain⟨k,q⟩:=(r.mem_orb a).1 h;rw[<-q]
 clear q h
 induction k with
 | zero=>exact⟨a,.inl ⟨r.pt1.1,by show(S.pt 0).y=0;rw[r.pt0],by show 0<1;decide⟩⟩
 | succ k ih=>rw[itr_succ];exact r.Cf_next ih
theorem Bb8 (p q:Pt):isOn p q p=true:=by
 unfold isOn between;have:turn p q p=0:=by unfold turn dx dy;grind
 rw[this];simp;lia
theorem Bb7 (p q:Pt):isOn p q q=true:=by
 unfold isOn between;have:turn p q q=0:=by unfold turn dx dy;grind
 rw[this];simp;lia
theorem clear_iff (S:Plan)(z:Pt):clear S z=true↔0<z.x/\z.x<S.w/\0<z.y/\z.y<S.h/\∀l,l∈S.lines->isOn (S.pt l.1) (S.pt l.2) z=false:=by
 unfold clear onLines;simp
theorem Rules.lev (r:Rules S){z:Pt}(hz':clear S z=true):∀w,w<S.pts.length->yy S w≠hz z:=by
 intro w hw e;rw[clear_iff]at hz';obtain⟨x0,xw,y0,yh,off⟩:=hz';have b:=r.big;have xw':=r.inx w hw;have e':NN*(S.pt w).y+(S.pt w).x=NN*z.y+z.x:=by unfold yy hz hgt at e;lia
 have eq:S.pt w=z:=by
  have n1:¬(S.pt w).below z=true:=fun q=>by rw[<-Acn (by unfold NN;lia) (by unfold NN;lia)]at q;lia
  have n2:¬z.below (S.pt w)=true:=fun q=>by rw[<-Acn (by unfold NN;lia) (by unfold NN;lia)]at q;lia
  rw[below_iff]at n1 n2;generalize S.pt w=p at *;obtain⟨a,b⟩:=p;obtain⟨c,d⟩:=z;simp only[Pt.mk.injEq]at *;lia
 have dg:=r.deg w hw;cases q:S.near w with
 | nil=>rw[q]at dg;simp at dg
 | cons k l =>
  have ad:adj S w k:=(mem_near r w k).1 (by rw[q];simp);rcases ad with m | m
  ·have:=off _ m;simp only[]at this;rw[eq,Bb8]at this;exact abU this
  ·have:=off _ m;simp only[]at this;rw[eq,Bb7]at this;exact abU this
theorem Rules.right_line (r:Rules S){z:Pt}(hz':clear S z=true):∃p q,adj S p q/\p<q/\yy S p<hz z/\hz z<yy S q/\0<turn (S.pt p) (S.pt q) z:=by
 have lev:=r.lev hz';rw[clear_iff]at hz';obtain⟨x0,xw,y0,yh,off⟩:=hz';have b:=r.big;obtain⟨i,hi,ei⟩:=r.fr.cw0;obtain⟨j,hj,ej⟩:=r.fr.cwh;have hgh:=r.high;have ij:i<j:=r.lt_of hi (by rw[ei,ej];simp only[];lia);have n1:¬hz z<yy S i:=by
  unfold hz yy hgt;rw[ei];simp only[];have:=Aoj (a:=0) (b:=S.w) (c:=z.y) (d:=z.x) (by unfold NN;lia) y0;lia
 have n2:hz z<yy S j:=by
  unfold hz yy hgt;rw[ej];simp only[];have:=Aoj (a:=z.y) (b:=z.x) (c:=S.h) (d:=S.w) (by unfold NN;lia) yh;lia
 obtain⟨p,q,ad,pq,op,oq,np,pq',_⟩:=r.chain r.fr.chR (P:=fun k=>hz z<yy S k) hi (by rw[ei];simp) hj (by rw[ej];simp) ij n1 n2;simp only[beq_iff_eq]at op oq;have hq:=(r.adj_lt ad).2.1;have hp:=(r.adj_lt ad).1;have:=lev p hp;refine⟨p,q,ad,pq,by lia,pq',?_⟩;have l:=r.lex pq hq;rw[Afd _ (by lia)];exact Abq (by lia) (by lia)
theorem Rules.hold (r:Rules S){z:Pt}(h:clear S z=true):∃l,l∈S.outlines/\insideOf S l z=true/\∀l',l'∈S.outlines->insideOf S l' z=true->l'=l:=by
 have o:=r.outer;have lev:=r.lev h;have ex:=r.right_line h;have h':=h;rw[clear_iff]at h';obtain⟨x0,xw,y0,yh,off⟩:=h';have b:=r.big
 obtain⟨s,as,ls,ars,ins⟩:=r.hold_some o (by lia) off lev ex (by
  intro p q ad pq y1 y2 t m;have c:=(r.orb_Cf m).2;simp only[]at c;have hq:=(r.adj_lt ad).2.1;have l:=r.lex pq hq;rcases c with c | c | c | c
  ·lia
  ·rw[Afd _ (by lia)]at t;have:=Aau (show((S.pt p).y:Int)-(S.pt q).y<0 by lia) (show(0:Int)<(z.x:Int)-(S.pt p).x by lia);lia
  ·have:=Aoj (a:=z.y) (b:=z.x) (c:=S.h) (d:=(S.pt p).x) (by unfold NN;lia) yh;unfold yy hgt hz at y1;rw[c.1]at y1;lia
  ·lia)
 refine⟨Vs S s,(r.mem_outlines _).2 ⟨s,as,ls,ars,rfl⟩,ins,?_⟩;intro l' hl' ins';obtain⟨t,at',lt,art,e⟩:=(r.mem_outlines _).1 hl';subst e;have m:=r.hold_one o as at' ars art (by lia) off lev ins ins';rw[r.least_one as ls lt m]
end
theorem Adi {α:Type}{p:Nat->α->Bool}{l:List α}(h:firstAt p l=none):∀i (hi:i<l.length),p i l[i]=false:=by
 intro i hi;unfold firstAt at h;rw[amN,adN]at h;have:=h (l[i],i) (by rw[alC];simp[hi]);simpa using this
theorem firstBad_none {α:Type}{ok:α->Bool}{before:α->α->Bool}{l:List α}(h:firstBad ok before l=none) :
 (∀x,x∈l->ok x=true)/\∀i (hi:i+1<l.length),before l[i] l[i+1]=true:=by
 unfold firstBad at h;have f:=Adi h;constructor
 ·intro x hx;obtain⟨i,hi,e⟩:=abX.1 hx;have:=f i hi;rw[e]at this;simp only[agD,Bool.not_eq_false']at this;exact this.1
 ·intro i hi;have:=f (i+1) hi;simp only[agD,Nat.add_sub_cancel]at this;have h2:=this.2;rw[aaE (show i<l.length by lia)]at h2;simpa using h2
structure R45 (S:Plan):Prop where
 inx:∀i,i<S.pts.length->(S.pt i).x<=S.w
 iny:∀i,i<S.pts.length->(S.pt i).y<=S.h
 ord:∀i j,i<j->j<S.pts.length->(S.pt i).below (S.pt j)=true
 lin:∀l,l∈S.lines->l.1<l.2/\l.2<S.pts.length
 lnd:S.lines.Nodup
 lord:∀i j (hi:i<j) (hj:j<S.lines.length),lineBelow S.lines[i] S.lines[j]=true
theorem below_trans {p q r:Pt}(h:p.below q=true)(k:q.below r=true):p.below r=true:=by
 rw[below_iff]at *;lia
theorem Act (a b:Nat×Nat):lineBelow a b=true↔a.1<b.1\/(a.1=b.1/\a.2<b.2):=by
 unfold lineBelow;simp
theorem Acj {S:Plan}{i:Nat}(h:i<S.pts.length):S.pt i=S.pts[i]:=by
 unfold Plan.pt;rw[abN,aaE h];rfl
theorem chain_all {α:Type}{R:α->α->Prop}(tr:∀a b c,R a b->R b c->R a c){l:List α}(h:∀i (hi:i+1<l.length),R l[i] l[i+1]) :
 ∀j i (hi:i<j) (hj:j<l.length),R l[i] l[j]:=by
 intro j
 induction j with
 | zero=>intro i hi;lia
 | succ j ih =>
  intro i hi hj
  by_cases e:i=j
  ·subst e;exact h i hj
  ·exact tr _ _ _ (ih i (by lia) (by lia)) (h j hj)
theorem R45.of {S:Plan}(h4:firstBad (fun(p:Pt)=>decide (p.x<=S.w)&&decide (p.y<=S.h)) Pt.below S.pts=none)
 (h5:firstBad (fun(l:Nat×Nat)=>decide (l.1<l.2)&&decide (l.2<S.pts.length)) lineBelow S.lines=none):R45 S:=by
 have a:=firstBad_none h4;have b:=firstBad_none h5;have c:=chain_all (R:=fun p q=>Pt.below p q=true) (fun _ _ _=>below_trans) a.2;have d:=chain_all (R:=fun p q=>lineBelow p q=true) (fun x y z h k=>by rw[Act]at *;lia) b.2;refine⟨?_,?_,?_,?_,?_,?_⟩
 ·intro i hi;have:=a.1 _ (acX hi);rw[Acj hi];simp at this;exact this.1
 ·intro i hi;have:=a.1 _ (acX hi);rw[Acj hi];simp at this;exact this.2
 ·intro i j h hj;rw[Acj (show i<S.pts.length by lia),Acj hj];exact c j i h hj
 ·intro l hl;have:=b.1 l hl;simp at this;exact this
 ·rw[abQ,afA];intro i j hi hj hij e;have:=d j i hij hj;rw[Act,e]at this;lia
 ·intro i j hi hj;exact d j i hi hj
theorem mem_near5 {S:Plan}(lin:∀l,l∈S.lines->l.1<l.2)(v x:Nat):x∈S.near v↔adj S v x:=by
 unfold Plan.near adj;rw[afP];constructor
 ·rintro⟨l,hl,e⟩
  by_cases e1:l.1=v
  ·rw[ifp e1]at e;simp only[ahP]at e;subst e e1;exact .inl hl
  ·rw[ifn e1]at e
   by_cases e2:l.2=v
   ·rw[ifp e2]at e;simp only[ahP]at e;subst e e2;exact .inr hl
   ·rw[ifn e2]at e;simp at e
 ·rintro(h | h)
  ·exact⟨_,h,by simp⟩
  ·have:=lin _ h;simp only[]at this;refine⟨_,h,?_⟩;show(if x=v then some v else if v=v then some x else none)=some x;rw[ifn (by lia),ifp rfl]
theorem Abe (a:Array Bool)(i j:Nat)(d:Bool):(a.setIfInBounds i true).getD j d=if i=j/\i<a.size then true else a.getD j d:=by
 rw[acN,acN,Array.getElem?_setIfInBounds]
 by_cases e:i=j
 ·subst e
  by_cases h:i<a.size
  ·simp[h]
  ·simp[h]
 ·simp[e]
def Aap (l:List Nat)(z:List Nat×Array Bool):List Nat×Array Bool :=
 l.foldl (fun(a:List Nat×Array Bool) (j:Nat)=>if a.2.getD j true=true then a else(j::a.1,a.2.setIfInBounds j true)) z
theorem Aet {K F:Nat->Prop}:∀(l:List Nat) (z:List Nat×Array Bool),(∀j,j∈l->¬F j->K j)->(∀k,k∈z.1->K k)->
 (∀j,z.2.getD j false=true->K j\/F j)->(∀j,F j->z.2.getD j true=true)->
 (∀k,k∈(Aap l z).1->K k)/\(∀j,(Aap l z).2.getD j false=true->K j\/F j)/\(∀j,F j->(Aap l z).2.getD j true=true)
 | [],z,_,h1,h2,h3=>⟨h1,h2,h3⟩
 | j::l,z,hl,h1,h2,h3=>by
  unfold Aap;rw[aeC]
  by_cases e:z.2.getD j true=true
  ·rw[ifp e];exact Aet l z (fun x hx=>hl x (by simp[hx])) h1 h2 h3
  ·rw[ifn e];have nf:¬F j:=fun q=>e (h3 j q);have kj:=hl j (by simp) nf;apply Aet l (j::z.1,z.2.setIfInBounds j true) (fun x hx=>hl x (by simp[hx]))
   ·intro k hk;rcases aaG.1 hk with q | q
    ·rw[q];exact kj
    ·exact h1 k q
   ·intro i hi;rw[Abe]at hi
    by_cases q:j=i/\j<z.2.size
    ·rw[<-q.1];exact .inl kj
    ·rw[ifn q]at hi;exact h2 i hi
   ·intro i hi;rw[Abe]
    split
    ·rfl
    ·exact h3 i hi
theorem Ad3 {near:Array (List Nat)}{K F:Nat->Prop}(hK:∀k j,K k->j∈near.getD k []->¬F j->K j):∀(n:Nat) (todo:List Nat) (seen:Array Bool),
 (∀k,k∈todo->K k)->(∀j,seen.getD j false=true->K j\/F j)->(∀j,F j->seen.getD j true=true)->∀j,(spread near n todo seen).getD j false=true->K j\/F j
 | 0,todo,seen,_,h2,_=>h2
 | n+1,[],seen,_,h2,_=>h2
 | n+1,k::r,seen,h1,h2,h3=>by
  unfold spread;have s:=Aet (K:=K) (F:=F) (near.getD k []) (r,seen) (fun j hj nf=>hK k j (h1 k (by simp)) hj nf) (fun x hx=>h1 x (by simp[hx])) h2 h3;exact Ad3 hK n _ _ s.1 s.2.1 s.2.2
theorem Akr (S:Plan){k:Nat}(h:k<S.pts.length):S.nears.getD k []=S.near k:=by
 unfold Plan.nears;rw[acN];simp[h]
theorem Ar6 (S:Plan){k:Nat}(h:S.pts.length<=k):S.nears.getD k []=[]:=by
 unfold Plan.nears;rw[acN];simp[h]
theorem Aeh (n j:Nat):(noneSeen n).getD j false=false:=by
 unfold noneSeen;rw[acN]
 by_cases h:j<n<;>simp[h]
section
variable {S:Plan}
theorem R45.nears (r:R45 S){k j:Nat}:j∈S.nears.getD k []↔adj S k j:=by
 by_cases h:k<S.pts.length
 ·rw[Akr S h,mem_near5 (fun l hl=>(r.lin l hl).1)]
 ·rw[Ar6 S (by lia)];constructor
  ·intro q;simp at q
  ·rintro(q | q)<;>(have:=r.lin _ q;simp only[]at this;lia)
theorem R45.con (r:R45 S)(h:(aaT S.pts.length).find? (fun(i:Nat)=>!((seenFrom S.nears S.pts.length 0 (noneSeen S.pts.length)).getD i false))=none) :
 ∀K:Nat->Prop,K 0->(∀u v,K u->adj S u v->K v)->∀v,v<S.pts.length->K v:=by
 intro K k0 kk v hv;rw[adN]at h;have hs:=h v (abT.2 hv);simp only[Bool.not_eq_true',Bool.not_eq_false]at hs;unfold seenFrom at hs
 have:=Ad3 (near:=S.nears) (K:=K) (F:=fun _=>False) (fun k j hk hj _=>kk k j hk (r.nears.1 hj)) _ _ _ (by intro k hk;simp at hk;rw[hk];exact k0) (by
  intro j hj;rw[Abe]at hj
  by_cases q:0=j/\0<(noneSeen S.pts.length).size
  ·rw[<-q.1];exact .inl k0
  ·rw[ifn q,Aeh]at hj;exact abU hj) (by intro j hj;exact hj.elim) v hs
 rcases this with q | q
 ·exact q
 ·exact q.elim
theorem Ad4:∀(l:List Nat) (z:List Nat×Array Bool),(Aap l z).2.size=z.2.size
 | [],_=>rfl
 | j::l,z=>by
  unfold Aap;rw[aeC];have:=Ad4 l (if z.2.getD j true=true then z else(j::z.1,z.2.setIfInBounds j true));unfold Aap at this;rw[this]
  split<;>simp
theorem Ag8 (near:Array (List Nat)):∀(n:Nat) (todo:List Nat) (seen:Array Bool),(spread near n todo seen).size=seen.size
 | 0,_,_=>rfl
 | n+1,[],_=>rfl
 | n+1,k::r,seen=>by
  unfold spread;have:=Ad4 (near.getD k []) (r,seen);exact(Ag8 near n _ _).trans this
theorem R45.con2 (r:R45 S)(h4:4<=S.pts.length)(h:(aaT S.pts.length).find? (cuts S.nears S.pts.length)=none):∀v,v<S.pts.length->Bdh S.pts.length (adj S) v:=by
 intro v hv;rw[adN]at h;have hs:=h v (abT.2 hv);unfold cuts at hs;refine⟨if v=0 then 1 else 0,by split<;>lia,by split<;>lia,?_⟩;intro K k0 kk x hx hxv;have sz:(seenFrom S.nears S.pts.length (if v=0 then 1 else 0) ((noneSeen S.pts.length).setIfInBounds v true)).size=S.pts.length:=by
  unfold seenFrom;rw[Ag8];simp[noneSeen]
 have sx:(seenFrom S.nears S.pts.length (if v=0 then 1 else 0) ((noneSeen S.pts.length).setIfInBounds v true)).getD x false=true:=by
  rw[acN,aeZ (by rw[sz];exact hx)];simp only[Option.getD_some];cases q:(seenFrom S.nears S.pts.length (if v=0 then 1 else 0) ((noneSeen S.pts.length).setIfInBounds v true))[x]'(by rw[sz];exact hx) with
  | true=>rfl
  | false =>
   exfalso;apply hs;rw[aiZ,<-q];exact Array.getElem_mem _
 unfold seenFrom at sx;have sv:(if v=0 then 1 else 0)≠v:=by split<;>lia
 have:=Ad3 (near:=S.nears) (K:=fun j=>j≠v/\K j) (F:=fun j=>j=v) (by
  intro k j hk hj nf
  exact⟨nf,kk k j hk.2 (r.nears.1 hj) nf⟩) _ _ _ (by
  intro k hk;rw[abF]at hk
  rw[hk];exact⟨sv,k0⟩) (by
  intro j hj;rw[Abe,Abe]at hj
  by_cases q:(if v=0 then 1 else 0)=j/\(if v=0 then 1 else 0)<((noneSeen S.pts.length).setIfInBounds v true).size
  ·rw[<-q.1];exact .inl ⟨sv,k0⟩
  ·rw[ifn q]at hj
   by_cases q2:v=j/\v<(noneSeen S.pts.length).size
   ·exact .inr q2.1.symm
   ·rw[ifn q2,Aeh]at hj;exact abU hj) (by
  intro j hj;subst hj;have e2:((noneSeen S.pts.length).setIfInBounds j true).getD j true=true:=by
   rw[Abe,ifp ⟨rfl,by simp[noneSeen];exact hv⟩]
  rw[Abe,e2];simp) x sx
 rcases this with q | q
 ·exact q.2
 ·exact absurd q hxv
theorem Rules.of (b1:16<=S.w)(b2:S.w<=1048575)(b3:16<=S.h)(b4:4<=S.pts.length)(r:R45 S)(h6:frameOk S=true)(h7:firstAt (touches S) S.lines=none)
 (h8:(aaT S.pts.length).find? (fun(i:Nat)=>decide ((S.near i).length<2))=none)
 (h9:(aaT S.pts.length).find? (fun(i:Nat)=>!((seenFrom S.nears S.pts.length 0 (noneSeen S.pts.length)).getD i false))=none)
 (h10:(aaT S.pts.length).find? (cuts S.nears S.pts.length)=none):Rules S where
 big:=b2
 inx:=r.inx
 iny:=r.iny
 ord:=r.ord
 lin:=r.lin
 lnd:=r.lnd
 frame:=h6
 free:=by
  intro l hl k hk k1 k2;obtain⟨i,hi,e⟩:=abX.1 hl;have t:=Adi h7 i hi;rw[e]at t;unfold touches at t;simp only[agD]at t;have:=t.1;rw[agA]at this;have:=this k (abT.2 hk);simp[k1,k2]at this;exact this
 cross:=by
  intro l m hl hm hn;obtain⟨i,hi,e⟩:=abX.1 hl;obtain⟨j,hj,e'⟩:=abX.1 hm;have key:∀i j (hi:i<S.lines.length) (hj:j<S.lines.length),i<j->crosses (S.pt S.lines[j].1) (S.pt S.lines[j].2) (S.pt S.lines[i].1) (S.pt S.lines[i].2)=false:=by
   intro i j hi hj hij;have t:=Adi h7 j hj;unfold touches at t;simp only[agD]at t;have:=t.2;rw[agA]at this
   have:=this S.lines[i] (by
    rw[agH]
    exact⟨i,by lia,rfl⟩)
   simpa using this
  rcases acE i j with z | z | z
  ·right;rw[<-e,<-e'];exact key i j hi hj z
  ·subst z;exact absurd (e.symm.trans e') hn
  ·left;rw[<-e,<-e'];exact key j i hj hi z
 con:=r.con h9
 con2:=r.con2 b4 h10
 deg:=by
  intro v hv;rw[adN]at h8;have:=h8 v (abT.2 hv);simp at this;lia
 four:=b4
 wide:=b1
 high:=b3
end
section
variable {S:Plan}
theorem R45.mono (r:R45 S)(big:S.w<=1048575){i j:Nat}(h:i<j)(hj:j<S.pts.length):yy S i<yy S j:=by
 have xi:=r.inx i (by lia);have xj:=r.inx j hj;have:=(Acn (p:=S.pt i) (q:=S.pt j) (by unfold NN;lia) (by unfold NN;lia)).2 (r.ord i j h hj);unfold yy hgt;lia
theorem Atp {p q r:Pt}(h:p.below q=true)(o:isOn p q r=true):¬r.below p=true/\¬q.below r=true:=by
 rw[below_iff]at *;rw[below_iff];unfold isOn between at o;simp at o;obtain⟨t,⟨x1,x2⟩,y1,y2⟩:=o;rw[Alm]at t;constructor
 ·intro z;have yy':r.y=p.y:=by lia
  by_cases e:p.y=q.y
  ·lia
  ·rw[yy']at t;have t':((q.y:Int)-p.y)*((r.x:Int)-p.x)=0:=by grind
   have:=Ab8 t' (by lia);lia
 ·intro z;have yy':r.y=q.y:=by lia
  by_cases e:p.y=q.y
  ·lia
  ·rw[yy']at t;have t':((q.y:Int)-p.y)*((q.x:Int)-r.x)=0:=by grind
   have:=Ab8 t' (by lia);lia
def hasPoint (S:Plan)(l:Nat×Nat):Bool:=(aaT (l.2-(l.1+1))).any fun k=>isOn (S.pt l.1) (S.pt l.2) (S.pt (l.1+1+k))
def crossBefore (S:Plan)(i:Nat)(l:Nat×Nat):Bool:=(S.lines.take i).any fun m=>decide (m.1<l.1/\l.1<m.2)&&crosses (S.pt l.1) (S.pt l.2) (S.pt m.1) (S.pt m.2)
theorem R45.touch_eq (r:R45 S)(big:S.w<=1048575)(i:Nat)(hi:i<S.lines.length):afC S i S.lines[i]=(hasPoint S S.lines[i]||crossBefore S i S.lines[i]):=by
 have hl:=r.lin _ (acX hi);unfold afC hasPoint crossBefore
 congr 1
 ·rw[adC,aeJ,aeJ];constructor
  ·rintro⟨k,hk,h⟩;rw[abT]at hk;simp only[acH,bne_iff_ne,ne_eq]at h;obtain⟨h1,h2,h3⟩:=h;have oo:=Atp (r.ord _ _ hl.1 hl.2) h3;have a:S.lines[i].1<k:=by
    rcases acE k S.lines[i].1 with z | z | z
    ·exact absurd (r.ord _ _ z (by lia)) oo.1
    ·exact absurd z h1
    ·exact z
   have b:k<S.lines[i].2:=by
    rcases acE k S.lines[i].2 with z | z | z
    ·exact z
    ·exact absurd z h2
    ·exact absurd (r.ord _ _ z hk) oo.2
   refine⟨k-(S.lines[i].1+1),abT.2 (by lia),?_⟩;have:S.lines[i].1+1+(k-(S.lines[i].1+1))=k:=by lia
   rw[this];exact h3
  ·rintro⟨k,hk,h⟩;rw[abT]at hk;refine⟨S.lines[i].1+1+k,abT.2 (by lia),?_⟩;simp only[acH,bne_iff_ne,ne_eq];exact⟨by lia,by lia,h⟩
 ·rw[adC,aeJ,aeJ];constructor
  ·rintro⟨m,hm,h⟩;refine⟨m,hm,?_⟩;rw[acH];refine⟨?_,h⟩;rw[decide_eq_true_iff];rw[agH]at hm;obtain⟨j,hj,e⟩:=hm;have lm:=r.lin m (by rw[<-e];exact acX _);have lo:=(Act _ _).1 (r.lord j i (by lia) hi);rw[e]at lo;unfold crosses at h;simp only[acH,dtt]at h;generalize S.lines[i]=l at *;have n1:m.1≠l.1:=by
    intro q;have:turn (S.pt l.1) (S.pt l.2) (S.pt m.1)=0:=by rw[q];unfold turn dx dy;grind
    rw[this]at h;simp at h
   refine⟨by lia,?_⟩;rcases acE l.1 m.2 with z | z | z
   ·exact z
   ·have:turn (S.pt l.1) (S.pt l.2) (S.pt m.2)=0:=by rw[<-z];unfold turn dx dy;grind
    rw[this]at h;simp at h
   ·exfalso;have y1:=r.mono big lm.1 lm.2;have y2:=r.mono big z (by lia);have y3:=r.mono big hl.1 hl.2;have e1:=E1 (xx S) (yy S) l.1 l.2 m.1 m.2;have e2:=E2 (xx S) (yy S) l.1 l.2 m.1 m.2;have t1:=Abl S l.1 l.2 m.1;have t2:=Abl S l.1 l.2 m.2;have t3:=Abl S m.1 m.2 l.1;have t4:=Abl S m.1 m.2 l.2;have h1:=h.1;have h2:=h.2;generalize turn (S.pt l.1) (S.pt l.2) (S.pt m.1)=A at *;generalize turn (S.pt l.1) (S.pt l.2) (S.pt m.2)=B at *
    generalize turn (S.pt m.1) (S.pt m.2) (S.pt l.1)=C at *;generalize turn (S.pt m.1) (S.pt m.2) (S.pt l.2)=D at *;rw[t1,t2,t3]at e1;rw[t1,t2,t4]at e2;rcases abC A 0 with a | a | a
    ·have b:0<B:=by
      rcases abC B 0 with q | q | q
      ·have:=Abq a q;lia
      ·subst q;simp at h1
      ·exact q
     have j1:=Ab4 (show 0<8388608*B by lia) (show yy S m.1-yy S l.1<0 by lia);have j2:=Abq (show 8388608*A<0 by lia) (show yy S m.2-yy S l.1<0 by lia);have c:8388608*C<0:=ln (b:=yy S l.2-yy S l.1) (by lia) (by lia);have j3:=Ab4 (show 0<8388608*B by lia) (show yy S m.1-yy S l.2<0 by lia);have j4:=Abq (show 8388608*A<0 by lia) (show yy S m.2-yy S l.2<0 by lia);have d:8388608*D<0:=ln (b:=yy S l.2-yy S l.1) (by lia) (by lia)
     have:=Abq (show C<0 by lia) (show D<0 by lia);lia
    ·subst a;simp at h1
    ·have b:B<0:=by
      rcases abC B 0 with q | q | q
      ·exact q
      ·subst q;simp at h1
      ·have:=Aat a q;lia
     have j1:=Abq (show 8388608*B<0 by lia) (show yy S m.1-yy S l.1<0 by lia);have j2:=Ab4 (show 0<8388608*A by lia) (show yy S m.2-yy S l.1<0 by lia);have c:0<8388608*C:=lp (b:=yy S l.2-yy S l.1) (by lia) (by lia);have j3:=Abq (show 8388608*B<0 by lia) (show yy S m.1-yy S l.2<0 by lia);have j4:=Ab4 (show 0<8388608*A by lia) (show yy S m.2-yy S l.2<0 by lia);have d:0<8388608*D:=lp (b:=yy S l.2-yy S l.1) (by lia) (by lia)
     have:=Aat (show 0<C by lia) (show 0<D by lia);lia
  ·rintro⟨m,hm,h⟩;rw[acH]at h;exact⟨m,hm,h.2⟩
def lexLt (a b:Way):Prop:=a.1<b.1\/(a.1=b.1/\a.2<b.2)
def outStep (S:Plan)(z:List Way×List (List Nat))(s:Way):List Way×List (List Nat) :=
 if s∈z.1 then z else(z.1++orb S s,if 0<twiceArea S (Vs S s)then z.2++[Vs S s] else z.2)
structure OutInv (S:Plan)(done:List Way)(z:List Way×List (List Nat)):Prop where
 gone:∀x,x∈z.1↔∃s,s∈done/\x∈orb S s
 nod:z.2.Nodup
 mem:∀l,l∈z.2↔∃s:Way,s∈done/\Ace S s/\0<twiceArea S l/\l=Vs S s
theorem OutInv.step (r:Rules S){st done rest:List Way}{s:Way}{z:List Way×List (List Nat)}(e:st=done++s::rest)(so:st.Pairwise lexLt)(mem:∀x,x∈st↔adj S x.1 x.2)
 (I:OutInv S done z):OutInv S (done++[s]) (outStep S z s):=by
 have as:adj S s.1 s.2:=(mem s).1 (by rw[e];simp);have ad:∀x,x∈done->adj S x.1 x.2:=fun x hx=>(mem x).1 (by rw[e];simp[hx]);rw[e]at so;have s2:=ahL.1 so;have ahead:∀x,x∈done->lexLt x s:=fun x hx=>s2.2.2 x hx s (by simp);have s3:=acP.1 s2.2.1;unfold outStep
 by_cases g:s∈z.1
 ·rw[ifp g];obtain⟨t,ht,hs⟩:=(I.gone s).1 g;have lt:=ahead t ht;have nl:¬Ace S s:=by
   intro q;have tb:=r.orb_back (ad t ht) hs;have q1:=q t tb;have:t=s:=r.orb_once as tb (r.orb_self as) (by unfold lexLt at lt;lia);subst this;unfold lexLt at lt;lia
  refine⟨?_,I.nod,?_⟩
  ·intro x;rw[I.gone];constructor
   ·rintro⟨a,ha,hx⟩;exact⟨a,by simp[ha],hx⟩
   ·rintro⟨a,ha,hx⟩;rcases abH.1 ha with q | q
    ·exact⟨a,q,hx⟩
    ·rw[abF]at q;subst q;exact⟨t,ht,r.orb_trans (ad t ht) hs hx⟩
  ·intro l;rw[I.mem];constructor
   ·rintro⟨a,ha,hx⟩;exact⟨a,by simp[ha],hx⟩
   ·rintro⟨a,ha,hx⟩;rcases abH.1 ha with q | q
    ·exact⟨a,q,hx⟩
    ·rw[abF]at q;subst q;exact absurd hx.1 nl
 ·rw[ifn g];have least:Ace S s:=by
   intro y hy;rcases acS y.1 s.1 with q | q
   ·exfalso;have ay:=r.orb_adj as hy;have my:=(mem y).2 ay;rw[e]at my;have yd:y∈done:=by
     rcases abH.1 my with w | w
     ·exact w
     ·exfalso;rcases aaG.1 w with w | w
      ·subst w;lia
      ·have:=s3.1 y w;unfold lexLt at this;lia
    exact g ((I.gone s).2 ⟨y,yd,r.orb_back as hy⟩)
   ·exact q
  refine⟨?_,?_,?_⟩
  ·intro x;simp only[abH,I.gone];constructor
   ·rintro(⟨a,ha,hx⟩ | q)
    ·exact⟨a,.inl ha,hx⟩
    ·exact⟨s,.inr (by simp),q⟩
   ·rintro⟨a,ha | ha,hx⟩
    ·exact .inl ⟨a,ha,hx⟩
    ·rw[abF]at ha;subst ha;exact .inr hx
  ·simp only[]
   split
   ·rw[aeM];refine⟨I.nod,by simp,?_⟩;intro a ha b hb q;rw[abF]at hb;subst q;subst hb;obtain⟨t,ht,_,_,q⟩:=(I.mem _).1 ha;have:=r.Vs_inj as (ad t ht) q;have:=ahead t ht
    subst_vars
    unfold lexLt at this;lia
   ·exact I.nod
  ·intro l;simp only[];constructor
   ·intro hl;have:l∈z.2\/(l=Vs S s/\0<twiceArea S (Vs S s)):=by
     split at hl
     ·rename_i q
      rcases abH.1 hl with w | w
      ·exact .inl w
      ·rw[abF]at w;exact .inr ⟨w,q⟩
     ·exact .inl hl
    rcases this with w | w
    ·obtain⟨a,ha,hx⟩:=(I.mem l).1 w;exact⟨a,by simp[ha],hx⟩
    ·exact⟨s,by simp,least,by rw[w.1];exact w.2,w.1⟩
   ·rintro⟨a,ha,hx⟩;rcases abH.1 ha with q | q
    ·have:=(I.mem l).2 ⟨a,q,hx⟩
     split
     ·simp[this]
     ·exact this
    ·rw[abF]at q;subst q;rw[ifp (by rw[<-hx.2.2];exact hx.2.1)];simp[hx.2.2]
theorem Ary (r:Rules S){O:List (List Nat)}(hO:∀l,l∈O↔l∈S.outlines){z:Pt}(h:clear S z=true) :
 ∃l,l∈S.outlines/\S.outlines.find? (fun l=>insideOf S l z)=some l/\O.find? (fun l=>insideOf S l z)=some l:=by
 obtain⟨l,hl,hi,one⟩:=r.hold h;have key:∀L:List (List Nat),(∀x,x∈L↔x∈S.outlines)->L.find? (fun l=>insideOf S l z)=some l:=by
  intro L hL;cases q:L.find? (fun l=>insideOf S l z) with
  | none =>
   rw[adN]at q;exact absurd hi (q l ((hL l).2 hl))
  | some x =>
   have:=one x ((hL x).1 (List.mem_of_find?_eq_some q)) (by simpa using List.find?_some q);rw[this]
 exact⟨l,hl,key _ (fun _=>Iff.rfl),key O hO⟩
theorem outs_len (r:Rules S){O:List (List Nat)}(nO:O.Nodup)(hO:∀l,l∈O↔l∈S.outlines):O.length=S.outlines.length:=by
 have a:=len_le nO (fun x hx=>(hO x).1 hx);have b:=len_le (Agg S) (fun x hx=>(hO x).2 hx);lia
end
structure Sim (n:Nat)(shut:Option Nat)(found:List Nat)(seen:Array Bool):Prop where
 size:seen.size=n
 iff:∀j,j<n->(seen.getD j true=true↔j∈found\/shut=some j)
 nod:found.Nodup
 lt:∀j,j∈found->j<n
 off:∀j,shut=some j->j∉found
def Afc (n:Nat)(seen:Array Bool):Nat:=(aaT n).countP fun j=>!(seen.getD j true)
def stepP (shut:Option Nat)(l:List Nat)(z:List Nat×List Nat):List Nat×List Nat :=
 l.foldl (fun a j=>if shut=some j\/j∈a.2 then a else(j::a.1,a.2++[j])) z
theorem Aig {p q:Nat->Bool}{j:Nat}:∀{L:List Nat},L.Nodup->j∈L->p j=true->q j=false->(∀i,i≠j->p i=q i)->L.countP p=L.countP q+1
 | [],_,h,_,_,_=>by simp at h
 | a::L,nd',h,hp,hq,e=>by
  have nr:=abR.1 nd'
  by_cases z:a=j
  ·subst z;have same:L.countP p=L.countP q:=by
    apply List.countP_congr;intro x hx;rw[e x (fun q=>nr.1 (by rw[<-q];exact hx))]
   rw[aiO hp,aiP (by rw[hq];simp),same]
  ·have hj:j∈L:=by
    rcases aaG.1 h with w | w
    ·exact absurd w.symm z
    ·exact w
   have ih:=Aig nr.2 hj hp hq e
   by_cases w:p a=true
   ·rw[aiO w,aiO (by rw[<-e a z];exact w)];lia
   ·rw[aiP w,aiP (by rw[<-e a z];exact w)];lia
theorem Sim.push {n:Nat}{shut:Option Nat}{found:List Nat}{seen:Array Bool}(s:Sim n shut found seen){j:Nat}(hj:j<n)(h:¬(shut=some j\/j∈found)) :
 Sim n shut (found++[j]) (seen.setIfInBounds j true)/\Afc n seen=Afc n (seen.setIfInBounds j true)+1:=by
 refine⟨⟨?_,?_,?_,?_,?_⟩,?_⟩
 ·simp[s.size]
 ·intro i hi;rw[Abe,s.size]
  by_cases e:j=i
  ·subst e;rw[ifp ⟨rfl,hj⟩];simp
  ·rw[ifn (fun q=>e q.1),s.iff i hi,abH,abF];constructor
   ·rintro(q | q)
    ·exact .inl (.inl q)
    ·exact .inr q
   ·rintro((q | q) | q)
    ·exact .inl q
    ·exact absurd q.symm e
    ·exact .inr q
 ·rw[aeM];refine⟨s.nod,by simp,?_⟩;intro a ha b hb e;rw[abF]at hb;subst e;subst hb;exact h (.inr ha)
 ·intro i hi;rcases abH.1 hi with q | q
  ·exact s.lt i q
  ·rw[abF]at q;rw[q];exact hj
 ·intro i hi q;rcases abH.1 q with w | w
  ·exact s.off i hi w
  ·rw[abF]at w;subst w;exact h (.inl hi)
 ·unfold Afc;apply Aig List.nodup_range (abT.2 hj)
  ·have:=s.iff j hj;cases q:seen.getD j true with
   | false=>rfl
   | true=>exact absurd (this.1 q).symm (by intro w;exact h w)
  ·rw[Abe,s.size,ifp ⟨rfl,hj⟩];rfl
  ·intro i hi;rw[Abe,ifn (fun q=>hi q.1.symm)]
theorem step_sim {n:Nat}{shut:Option Nat}:∀(l:List Nat) (todo found:List Nat) (seen:Array Bool),(∀j,j∈l->j<n)->Sim n shut found seen->
 (stepP shut l (todo,found)).1=(Aap l (todo,seen)).1/\Sim n shut (stepP shut l (todo,found)).2 (Aap l (todo,seen)).2/\
 (Aap l (todo,seen)).1.length+Afc n (Aap l (todo,seen)).2=todo.length+Afc n seen
 | [],todo,found,seen,_,s=>⟨rfl,s,rfl⟩
 | j::l,todo,found,seen,hl,s=>by
  have hj:=hl j (by simp);have si:=s.iff j hj;unfold stepP Aap;rw[aeC,aeC]
  by_cases h:shut=some j\/j∈found
  ·rw[ifp h,ifp (si.2 h.symm)];exact step_sim l todo found seen (fun x hx=>hl x (by simp[hx])) s
  ·rw[ifn h,ifn (fun q=>h (si.1 q).symm)];obtain⟨s',u⟩:=s.push hj h;obtain⟨a,b,c⟩:=step_sim l (j::todo) (found++[j]) (seen.setIfInBounds j true) (fun x hx=>hl x (by simp[hx])) s';refine⟨a,b,?_⟩;unfold Aap at c;rw[c,aaZ];lia
structure Reach (S:Plan)(shut:Option Nat)(fin:Array Bool)(m:Nat)(todo found:List Nat):Prop where
 ex:∃seen,Sim S.pts.length shut found seen/\todo.length+Afc S.pts.length seen<=m/\spread S.nears m todo seen=fin
 lt:∀k,k∈todo->k<S.pts.length
theorem Ak6 (shut:Option Nat)(x:Nat):∀(l:List Nat) (z:List Nat×List Nat),x∈(stepP shut l z).1->x∈l\/x∈z.1
 | [],_,h=>.inr h
 | j::l,z,h=>by
  unfold stepP at h;rw[aeC]at h;rcases Ak6 shut x l _ h with q | q
  ·exact .inl (by simp[q])
  ·split at q
   ·exact .inr q
   ·rcases aaG.1 q with w | w
    ·exact .inl (by simp[w])
    ·exact .inr w
section
variable {S:Plan}
theorem Reach.step (r:R45 S){shut:Option Nat}{fin:Array Bool}{m k:Nat}{todo found:List Nat}(h:Reach S shut fin m (k::todo) found) :
 ∃m',m=m'+1/\Reach S shut fin m' (stepP shut (S.near k) (todo,found)).1 (stepP shut (S.near k) (todo,found)).2:=by
 obtain⟨⟨seen,s,le,e⟩,lt⟩:=h;simp only[aaZ]at le;obtain⟨m',rfl⟩ : ∃m',m=m'+1:=⟨m-1,by lia⟩
 refine⟨m',rfl,?_,?_⟩
 ·have kn:=lt k (by simp);have nl:∀j,j∈S.near k->j<S.pts.length:=fun j hj=>by
   rcases (mem_near5 (fun l hl=>(r.lin l hl).1) k j).1 hj with q | q<;>(have:=r.lin _ q;simp only[]at this;lia)
  obtain⟨a,b,c⟩:=step_sim (S.near k) todo found seen nl s;refine⟨_,b,?_,?_⟩
  ·rw[a];lia
  ·have e':spread S.nears m' (Aap (S.nears.getD k []) (todo,seen)).1 (Aap (S.nears.getD k []) (todo,seen)).2=fin:=e;rw[Akr S kn]at e';rw[a];exact e'
 ·intro x hx;rcases Ak6 shut x _ _ hx with q | q
  ·rcases (mem_near5 (fun l hl=>(r.lin l hl).1) k x).1 q with w | w<;>(have:=r.lin _ w;simp only[]at this;lia)
  ·exact lt x (by simp[q])
theorem Reach.done {shut:Option Nat}{fin:Array Bool}{m:Nat}{found:List Nat}(h:Reach S shut fin m [] found):Sim S.pts.length shut found fin:=by
 obtain⟨⟨seen,s,_,e⟩,_⟩:=h;have:spread S.nears m [] seen=seen:=by cases m<;>rfl
 rw[<-e,this];exact s
theorem Ac3 {a:Array Bool}{j:Nat}(h:j<a.size):a.getD j true=a.getD j false:=by
 rw[acN,acN,aeZ h];rfl
theorem Reach.start0 (h4:4<=S.pts.length):Reach S none (seenFrom S.nears S.pts.length 0 (noneSeen S.pts.length)) (S.pts.length+1) [0] [0]:=by
 refine⟨⟨_,?_,?_,rfl⟩,?_⟩
 ·refine⟨by simp[noneSeen],?_,by simp,by intro j hj;simp at hj;lia,by intro j hj;simp at hj⟩;intro j hj;rw[Abe]
  by_cases q:0=j
  ·subst q;rw[ifp ⟨rfl,by simp[noneSeen];lia⟩];simp
  ·rw[ifn (fun w=>q w.1)];have e1:(noneSeen S.pts.length).getD j true=false:=by
    rw[Ac3 (by simp[noneSeen];exact hj),Aeh]
   rw[e1];simp;lia
 ·have:=anK (l:=aaT S.pts.length) (p:=fun j=>!(((noneSeen S.pts.length).setIfInBounds 0 true).getD j true));unfold Afc;simp only[acK,aaZ,adO]at *;lia
 ·intro k hk;simp at hk;lia
theorem Reach.startV {v:Nat}(hv:v<S.pts.length)(h4:4<=S.pts.length) :
 Reach S (some v) (seenFrom S.nears S.pts.length (if v=0 then 1 else 0) ((noneSeen S.pts.length).setIfInBounds v true)) (S.pts.length+1) [if v=0 then 1 else 0] [if v=0 then 1 else 0]:=by
 have sv:(if v=0 then 1 else 0)≠v:=by split<;>lia
 have sn:(if v=0 then 1 else 0)<S.pts.length:=by split<;>lia
 generalize (if v=0 then 1 else 0)=s at *;refine⟨⟨_,?_,?_,rfl⟩,?_⟩
 ·refine⟨by simp[noneSeen],?_,by simp,by intro j hj;simp at hj;lia,by intro j hj;simp at hj;simp;lia⟩;intro j hj;rw[Abe,Abe]
  by_cases q:s=j
  ·subst q;rw[ifp ⟨rfl,by simp[noneSeen];exact sn⟩];simp
  ·rw[ifn (fun w=>q w.1)]
   by_cases q2:v=j
   ·subst q2;rw[ifp ⟨rfl,by simp[noneSeen];exact hv⟩];simp
   ·rw[ifn (fun w=>q2 w.1)];have e1:(noneSeen S.pts.length).getD j true=false:=by
     rw[Ac3 (by simp[noneSeen];exact hj),Aeh]
    rw[e1];constructor
    ·intro w;exact abU w
    ·rintro(w | w)
     ·simp at w;lia
     ·simp at w;lia
 ·have:=anK (l:=aaT S.pts.length) (p:=fun j=>!((((noneSeen S.pts.length).setIfInBounds v true).setIfInBounds s true).getD j true));unfold Afc;simp only[acK,aaZ,adO]at *;lia
 ·intro k hk;simp at hk;lia
theorem Sim.seen {n:Nat}{found:List Nat}{fin:Array Bool}(s:Sim n none found fin){j:Nat}(hj:j<n):fin.getD j false=true↔j∈found:=by
 rw[<-Ac3 (by rw[s.size];exact hj),s.iff j hj];simp
theorem Sim.cuts {n v:Nat}{found:List Nat}{fin:Array Bool}(s:Sim n (some v) found fin)(hv:v<n):fin.contains false=true↔found.length<n-1:=by
 have nv:=s.off v rfl;constructor
 ·intro h;rw[aiZ]at h;obtain⟨j,hj,e⟩:=Array.mem_iff_getElem.1 h;have hj':j<n:=by rw[<-s.size];exact hj
  have:¬(j∈found\/some v=some j):=by
   rw[<-s.iff j hj',acN,aeZ hj,e];simp
  have:=len_le (l:=v::j::found) (m:=aaT n) (by
   rw[abR,abR];refine⟨?_,fun q=>this (.inl q),s.nod⟩;intro q;rcases aaG.1 q with w | w
   ·exact this (.inr (by rw[w]))
   ·exact nv w) (by
   intro x hx;rw[abT];rcases aaG.1 hx with w | w
   ·lia
   ·rcases aaG.1 w with w | w
    ·lia
    ·exact s.lt x w)
  simp at this;lia
 ·intro h;apply acT;intro no
  have:=len_le (l:=aaT n) (m:=v::found) List.nodup_range (by
   intro x hx;rw[abT]at hx
   by_cases e:x=v
   ·simp[e]
   ·have:fin.getD x true=true:=by
     rw[acN,aeZ (by rw[s.size];exact hx)];simp only[Option.getD_some];cases q:fin[x]'(by rw[s.size];exact hx) with
     | true=>rfl
     | false =>
      exfalso;apply no;rw[aiZ,<-q];exact Array.getElem_mem _
    rcases (s.iff x hx).1 this with w | w
    ·simp[w]
    ·simp at w;exact absurd w.symm e)
  simp at this;lia
theorem among_at (r:Rules S){O:List (List Nat)}(nO:O.Nodup)(hO:∀l,l∈O↔l∈S.outlines){z:Pt}(h:clear S z=true) :
 ∃(k:Nat) (hk:k<O.length),S.among S.outlines z=some O[k]/\insideOf S O[k] z=true/\∀j (hj:j<k),insideOf S (O[j]'(by lia)) z=false:=by
 obtain⟨l,hl,e1,e2⟩:=Ary r hO h;obtain⟨l',hl',hi,one⟩:=r.hold h;have ll:l=l':=one l hl (by simpa using List.find?_some e1);obtain⟨k,hk,ek⟩:=abX.1 ((hO l).2 hl);refine⟨k,hk,?_,?_,?_⟩
 ·unfold Plan.among;rw[ifp h,e1,ek]
 ·rw[ek,ll];exact hi
 ·intro j hj;cases q:insideOf S (O[j]'(by lia)) z with
  | false=>rfl
  | true =>
   exfalso;have:=one _ ((hO _).1 (acX (show j<O.length by lia))) q;rw[<-ll,<-ek]at this;have:=(aiS nO).1 this;lia
end
end Pg
end
section
namespace L2
open PySem PySem.Spec PyProof.Rows
theorem Afj {h base base':Heap}:∀{l:List Env},h.FunFrames base l->(∀b,b∈frs l->base'.get? b=none)->h.FunFrames base' l
 | [],_,_=>trivial
 | env::rest,⟨a,⟨L,o,hf,hn,ho,hd⟩,r⟩,k=>by
  have e:frs (env::rest)=L::frs rest:=by unfold frs;rw[agL,hf]
  rw[e]at k;exact⟨a,⟨L,o,hf,k L (.head _),ho,hd⟩,Afj r fun b hb=>k b (.tail _ hb)⟩
section
variable {X:Cx}{p_:List (Addr×Obj)}{σ:St}{H:Hp}{s:aaI}
theorem Inv.wide (I:Inv X p_ σ H s):∃base':Heap,(∀b o,s.heap.get? b=some o->H b=none->b∉frs X.stack->base'.get? b=some o)/\Env0 X.prog X.w X.K X.mg base' X.A X.stack s H:=by
 have up:∀b o,s.heap.get? b=some o->H b=none->b∉frs X.stack->(W.hideAll (Ap0 s.heap H) (frs X.stack)).get? b=some o:=fun b o e n hb=>W.hideAll_get _ (Ano e n) hb;have sub:∀b o,X.base.get? b=some o->(W.hideAll (Ap0 s.heap H) (frs X.stack)).get? b=some o:=fun b o e=>by
  obtain⟨e1,e2⟩:=I.bs b o e;refine up b o e1 e2 fun z=>?_;have:=(I.stack.mem z).1;rw[e]at this;cases this
 refine⟨_,up,I.ok.frames,⟨I.mod.kin.keeps sub,I.mod.glob.keeps sub,let ⟨mb,a,b⟩:=I.mod.blt;⟨mb,a.keeps sub,b⟩,I.mod.nolimit.keeps sub⟩,fun b o e=>Ar2 (W.of_hideAll _ e),?_,Afj I.stack fun b hb=>W.hideAll_none _ hb,I.stkFree,I.hok,I.bare⟩;rw[W.hideAll_size];exact aeL (Al0 _ _)
def CelI (h:Heap)(c:Addr)(n:Int):Prop:=∃t,h.IsCell c (some (.int n t))
theorem CelI.keeps {h h':Heap}{c:Addr}{n:Int}(x:CelI h c n)(k:∀o,h.get? c=some o->h'.get? c=some o):CelI h' c n:=let ⟨t,o,a,b⟩:=x;⟨t,o,k o a,b⟩
variable {k:Nat}{f:Addr}{fd:aaX}{ps:List Str}{sp:Addr->Int->Sp}{x y:Str}{e:adX}{es:List adX}{t:TA}{p pos:Pos}{j:Nat}
def Azd (X:Cx)(y:Str)(j:Nat)(sp:Addr->Int->Sp)(t:TA):TE:=fun σ H Q=>t σ H fun vs H1=>∃n:Int,σ[j]?=some (some (.int n))/\∀c,X.env.cells.lookup y=some c->sp c n vs H1 Q E0
theorem Atj (F:∀(base':Heap) (c:Addr) (n:Int),CelI base' c n->FnOk X.prog X.w X.K X.mg base' CX0 k f fd ps (sp c n))(hr:Room k X.A)(hg:Gl X x)(hm:X.mg x=some (.ref f))(hk:agE X.K (.ref f)=true)(hb:Binds X.K fd ps [])
 (hj:X.N[j]?=some y) (hy:X.env.scope.names.lookup y=some .cell) (hfn:X.fn y=true) (ha:PA X (e::es) t) (hdb:(x==("__debug__" : Str))=false:=by decide) (he:abL (e::es) X.env=(false,eval e X.env)::abL es X.env:=by rfl) (hpl:(afI pos (abL es X.env)).any (·.1)=false:=by rfl) :
 PE X (.Call (.Name x p) (e::es) [] pos) (Azd X y j sp t):=by
 intro p_ s σ H Q I h;refine wpAny_Call_Name_kw (Aje I hg hm ?_ hdb);refine ajO (h₀:=X.base) I.ok.mod.kin hk (thn (ha pos p_ s σ H _ I h) fun us s1 ⟨vs,H1,I1,r,n,hn,q⟩=>⟨I1.kIn,?_⟩) he hpl;obtain⟨m,_,hl⟩:=I1.loc;obtain⟨u,ru,l⟩:=hl j y (.int n) hj hn (.inr (.inl hy));obtain⟨tk,rfl⟩:=ru;rcases l with ⟨hk2,_⟩ | ⟨_,c,hc,hcell⟩
 ·have:X.env.kindOf y=some .cell:=hy;rw[this]at hk2;cases hk2
 obtain⟨oc,hoc,hdc⟩:=id hcell;obtain⟨base',up,e0⟩:=I1.wide;have nfr:c∉frs X.stack:=fun z=>by
  rcases aaG.mp (I1.stkSub c z)with w | w
  ·exact I1.cne y c hc w
  ·obtain⟨_,o,ho,_⟩:=I1.ok.funs.mem w;have:=I1.ok.cab y c hfn hc;have:=aaS ho;lia
 have G:=F base' c n ⟨tk,oc,up c oc hoc (I1.freeC y c hc) nfr,hdc⟩;have hs:=q c hc;have hl:us.length=ps.length:=by rw[<-r.length];exact G.len _ _ _ _ hs
 have hbd:=hb s1 us I1.kIn (by rw[aeD];exact hl);rw[aeD]at hbd;refine alS (agU (G.run X.A X.stack s1 H1 ⟨us,[]⟩ us vs Q E0 hr e0 hbd r hs) fun r s' hq=>?_);cases r with
 | error e=>exact acM hq
 | ok fl =>
  cases fl with
  | ret u=>exact I1.after hq
  | next=>exact acM hq
  | brk=>exact acM hq
  | cont=>exact acM hq
abbrev Afz (a:Addr)(o:Obj):HO:=.frz o (.own a)
def CodO (qual:Str)(o:Obj):Prop:=∃vs t,o.data=.fields vs/\vs[1]?=some (.str qual t)
theorem CodO.rec_ {h:Heap}{qual:Str}{o:Obj}{c:Addr}(x:CodO qual o)(e:h.get? c=some o):h.CodeRec (.ref c) qual:=let ⟨vs,t,a,b⟩:=x;⟨c,o,vs,t,rfl,e,a,b⟩
abbrev Aon (mg:Str->Option aaF)(qual:Str)(params:aiH)(body:adX)(scope:Scope)(y:Str)(c c':Addr)(ctv:aaF):Obj:=W.kla_obj "<lambda>" qual params body scope [(y,c)] ((mg "__name__").getD .none) c' ctv
variable {qual:Str}{params:aiH}{body:adX}{scope:Scope}{Pt cd:Addr}
def Bdk (X:Cx)(Pt:Addr)(y qual:Str)(params:aiH)(body:adX)(scope:Scope)(pos:Pos):TE:=fun σ H Q=>∃ps:Array aaF,H Pt=some (.tbl ps)/\TriplesOk ps.toList/\
 ((codeAmong pos ps.toList=none/\∀c c' oc f' ctv,X.env.cells.lookup y=some c->CodO qual oc->H c'=none->H f'=none->c'≠f'->Q (.ref f') (upd (upd (upd H Pt (.tbl (ps ++ #[rawInt pos.line,rawInt pos.col,.ref c']))) c' (Afz c' oc)) f' (Afz f' (Aon X.mg qual params body scope y c c' ctv))))\/
  ∃c' oc,codeAmong pos ps.toList=some (.ref c')/\H c'=some (Afz c' oc)/\CodO qual oc/\∀c f' ctv,X.env.cells.lookup y=some c->H f'=none->Q (.ref f') (upd H f' (Afz f' (Aon X.mg qual params body scope y c c' ctv))))
theorem Ba1 (hq:X.env.qual ++ "<lambda>" = qual)(hcode:X.env.code=.ref cd)(C:ajT X.base cd Pt)(hc0:∃c,X.env.cells.lookup y=some c)(hcl:∀c,X.env.cells.lookup y=some c->closureFor scope X.env=pure [(y,c)])(hb:X.base.BuiltinsAt X.mg Pt)(hgP:aaV≠Pt)
 (hdef:defaultsOf params X.env=([],[]):=by rfl):PE X (.Lambda params body scope pos) (Bdk X Pt y qual params body scope pos):=by
 intro p_ s σ H Q I h;obtain⟨ps,hP,tr,h⟩:=h;obtain⟨c,hc⟩:=hc0;have eP:s.heap.get? Pt=some (W.tabObj ps):=I.hok _ _ hP;refine W.kla_eval hdef ?_;rw[hq];rcases h with ⟨hnf,h⟩ | ⟨c',oc,hf,hc',co,h⟩
 ·refine W.kla_makeFunction (mg:=X.mg) (hcl c hc) I.ok.glob (I.mod.glob.keeps I.bk) hcode (C.keeps I.bk) eP tr hnf hgP (hb.keeps I.bk) fun c' ctv h' tk hx hge hlt hrec htb=>?_;obtain⟨c2,oc,vs,t,e2,hoc,hd,hv⟩:=hrec;cases e2;have nP:∀{b u},H b=some u->(∀ps,u≠.tbl ps)->b≠Pt:=fun e n z=>by rw[z,hP]at e;cases e;exact n _ rfl
  have n0:∀{b},H b=none->b≠Pt:=fun e z=>by rw[z,hP]at e;cases e
  have fc:H c'=none:=I.hok.fresh hge;have ff:H h'.objs.size=none:=I.hok.fresh (abI hge (aeW hlt));have ncf:c'≠h'.objs.size:=acJ hlt;have nc:∀{b o},s.heap.get? b=some o->b≠c'/\b≠h'.objs.size:=fun {b o} e=>by have:=aaS e;exact⟨by lia,by lia⟩
  have nH:∀{b u},H b=some u->b≠c'/\b≠h'.objs.size:=fun e=>⟨fun z=>(by rw[z,fc]at e;cases e),fun z=>(by rw[z,ff]at e;cases e)⟩
  have up:∀b o,b≠Pt->s.heap.get? b=some o->(h'.push (Aon X.mg qual params body scope y c c' ctv)).get? b=some o:=fun b o n e=>aaD _ (hx b o n e);generalize eH:upd (upd (upd H Pt (.tbl (ps ++ #[rawInt pos.line,rawInt pos.col,.ref c']))) c' (Afz c' oc)) h'.objs.size (Afz h'.objs.size (Aon X.mg qual params body scope y c c' ctv))=H2;have a1:∀{b},b≠Pt->b≠c'->b≠h'.objs.size->H2 b=H b:=fun n1 n2 n3=>by rw[<-eH,Aa5 n3,Aa5 n2,Aa5 n1]
  have pc:Pt≠c':=(nc eP).1;have pf:Pt≠h'.objs.size:=(nc eP).2;have aP:H2 Pt=some (.tbl (ps ++ #[rawInt pos.line,rawInt pos.col,.ref c'])):=by rw[<-eH,Aa5 pf,Aa5 pc,Aa1]
  have aC:H2 c'=some (Afz c' oc):=by rw[<-eH,Aa5 ncf,Aa1]
  have aF:H2 h'.objs.size=some (Afz h'.objs.size (Aon X.mg qual params body scope y c c' ctv)):=by rw[<-eH,Aa1]
  refine⟨.ref h'.objs.size,H2,?_,rfl,by rw[<-eH];exact h c c' oc _ ctv hc ⟨vs,t,hd,hv⟩ fc ff ncf⟩;refine I.step (g':=s.gens) (d':=s.drawn) (ch:=[]) (fun _ z=>nomatch z) (fun b o _ _ _ e n=>up b o (n0 n) e) (fun b o _ _ _ e n=>⟨o.slots,up b o (n0 n) e⟩) (fun b o _ e n=>by rw[a1 (n0 n) (nc e).1 (nc e).2];exact n) (fun b o _ e=>?_)
   (fun b xs e=>by rw[a1 (nP e (by intro _ z;cases z)) (nH e).1 (nH e).2];exact e) (fun b o u e=>by rw[a1 (nP e (by intro _ z;cases z)) (nH e).1 (nH e).2];exact e) (fun b qs e=>?_) (fun m hn=>(hn.extBut hx (n0 I.free)).push _) (fun b u e=>?_) I.bare
  ·by_cases z:b=Pt
   ·subst z;exact⟨_,aaD _ htb⟩
   ·exact⟨o,up b o z e⟩
  ·by_cases z:b=Pt
   ·subst z;rw[hP]at e;cases e;exact⟨_,aP⟩
   ·exact⟨#[],by rw[a1 z (nH e).1 (nH e).2,e];simp⟩
  ·by_cases z1:b=Pt
   ·subst z1;rw[aP]at e;cases e;exact aaD _ htb
   ·by_cases z2:b=c'
    ·subst z2;rw[aC]at e;cases e;exact⟨aaD _ hoc,_,aaD _ hoc⟩
    ·by_cases z3:b=h'.objs.size
     ·subst z3;rw[aF]at e;cases e;exact⟨aaO _ rfl,_,aaO _ rfl⟩
     ·rw[a1 z1 z2 z3]at e;refine(I.hok b u e).stay (fun b2 u2 hb2 e2=>up b2 u2 ?_ e2) (fun b2 e2=>?_) (fun b2 xs e2=>?_)
      ·rcases hb2 with rfl | hb2
       ·exact z1
       ·exact nP hb2 (by intro _ z;cases z)
      ·rw[a1 (nP e2 (by intro _ z;cases z)) (nH e2).1 (nH e2).2];exact e2
      ·rw[a1 (nP e2 (by intro _ z;cases z)) (nH e2).1 (nH e2).2];exact e2
 ·refine W.kla_makeFunctionHit (mg:=X.mg) (hcl c hc) I.ok.glob (I.mod.glob.keeps I.bk) hcode (C.keeps I.bk) eP tr hf (hb.keeps I.bk) fun ctv h' tk hx hsz=>?_;have ff:H h'.objs.size=none:=I.hok.fresh hsz;refine⟨.ref h'.objs.size,_,I.laid (a:=h'.objs.size) (o:=Afz h'.objs.size (Aon X.mg qual params body scope y c c' ctv)) (t':=tk) (fun b o e=>aaD _ (hx b o e)) hsz ⟨aaO _ rfl,_,aaO _ rfl⟩,rfl,h c _ ctv hc ff⟩
def Aya (X:Cx)(scope:Scope)(qual:Str)(f:Addr)(y:Str)(c c':Addr)(px py:Str)(s:aaI)(H:Hp):Cx where
 prog:=X.prog
 w:=X.w
 K:=X.K
 mg:=X.mg
 base:=X.base
 A:=X.A.deeper (newEnv scope s.heap.objs.size aaV [(y,c)] (qual ++ ".<locals>.") (some f) (.ref c') none akB)
 N:=[px,py,y]
 s_0:=s
 H_0:=H
 env:=newEnv scope s.heap.objs.size aaV [(y,c)] (qual ++ ".<locals>.") (some f) (.ref c') none akB
 outer:=X.stack
 stack:=newEnv scope s.heap.objs.size aaV [(y,c)] (qual ++ ".<locals>.") (some f) (.ref c') none akB::X.stack
 ex:=[]
 calm:=true
 fn:=fun _=>false
 pn:=[]
 xe:=fun _ _=>False
variable {px py:Str}{i:Nat}{z:Str}{tb:TE}{k':Nat}
def Be3 (X:Cx)(qual:Str)(params:aiH)(body:adX)(scope:Scope)(y:Str)(i:Nat)(t:TA)(tb:TE):TE:=fun σ H Q=>∃f',σ[i]?=some (some (.ref f'))/\t σ H fun vs H1=>∃(a b n:Int) (c c':Addr) (oc:Obj) (ctv:aaF),vs=[.int a,.int b]/\
 H1 f'=some (Afz f' (Aon X.mg qual params body scope y c c' ctv))/\H1 c'=some (Afz c' oc)/\CodO qual oc/\CelI X.base c n/\tb [some (.int a),some (.int b),some (.int n)] H1 Q
structure Bdw (qual:Str)(params:aiH)(body:adX)(scope:Scope)(px py y:Str):Prop where
 kind:scope.kind=.function
 co:scope.isCoroutine=false
 gen:scope.isGenerator=false
 nocell:∀x∈scope.names,x.2≠.cell
 only:∀x,scope.names.lookup x=some .cell \/scope.names.lookup x=some .free ->x=y
 x:scope.names.lookup px=some .local
 y_:scope.names.lookup py=some .local
 z:scope.names.lookup y=some .free
 ne:px≠py
 bind:∀(cl:List (Str×Addr)) (pm cd ct u1 u2:aaF),bindArgs (W.kla_fn "<lambda>" qual params body scope cl pm cd ct) ⟨[u1,u2],[]⟩=pure [(px,u1),(py,u2)]
theorem Ba3 (S:Bdw qual params body scope px py y)(hr:Room (k'+1) X.A)(hcm:X.calm=true)(hN:X.N[i]?=some z)(hv:Vis X.env.scope z)(ha:PA X (e::es) t)(hbody:∀(s:aaI) (H:Hp) (f c c':Addr),PE (Aya X scope qual f y c c' px py s H) body tb)
 (hd:(z==("__debug__" : Str))=false:=by decide) (hcd:(z==("__classdict__" : Str))=false:=by decide) (he:abL (e::es) X.env=(false,eval e X.env)::abL es X.env:=by rfl) (hpl:(afI pos (abL es X.env)).any (·.1)=false:=by rfl) :
 PE X (.Call (.Name z p) (e::es) [] pos) (Be3 X qual params body scope y i t tb):=by
 intro p_ s σ H Q I h;obtain⟨f',hi,h⟩:=h;refine wpAny_Call_Name_kw (thn (Avf hN hv hd hcd p_ s σ H (fun v H'=>v=.ref f'/\H'=H) I ⟨_,hi,rfl,rfl⟩) fun u s1 ⟨v,H1,I1,r,ev,eH⟩=>?_);subst ev eH;obtain rfl:u=aaR f':=r;have fin:∀us s2,AP X p_ σ (fun vs H1=>∃(a b n:Int) (c c':Addr) (oc:Obj) (ctv:aaF),vs=[.int a,.int b]/\H1 f'=some (Afz f' (Aon X.mg qual params body scope y c c' ctv))/\H1 c'=some (Afz c' oc)/\CodO qual oc/\CelI X.base c n/\tb [some (.int a),some (.int b),some (.int n)] H1 Q) us s2->
  (∃fd,∃o:Obj,s2.heap.get? f'=some o/\o.data=.func fd)/\abM (model X.prog X.w) X.A (call (.ref f') us) (EP X p_ σ Q) X.xe s2:=by
  rintro us s2 ⟨vs,H2,I2,rv,a,b,n,c,c',oc,ctv,rfl,hf',hc',co,cel,q⟩;obtain⟨ef,_⟩:=I2.hok _ _ hf';obtain⟨ec,_⟩:=I2.hok _ _ hc';refine⟨⟨_,_,ef,rfl⟩,?_⟩;cases rv with
  | cons r1 r2 =>
   cases r2 with
   | cons r2 r3 =>
    cases r3;obtain⟨t1,rfl⟩:=r1;obtain⟨t2,rfl⟩:=r2;have ck:=cel.keeps (h':=s2.heap) fun o e=>I2.bk c o e;obtain⟨tn,cb,ecb,dcb⟩:=id cel;have cH:H2 c=none:=(I2.bs c cb ecb).2;refine alS (agU (R:=CR CX0 X.stack X.prog X.w H2 s2 Q E0) (W.kla_callFunE hr.depth ef rfl S.co S.gen rfl (co.rec_ ec) ?_) fun r s' hq=>?_)
    ·rw[S.bind];refine aaL (wpAny_newFunctionEnv (fun x hx=>S.nocell x hx) (fun x hx=>?_) (fun h1 hns hsb=>?_) S.kind)
     ·rcases aaG.mp hx with rfl | hx
      ·exact S.x
      ·rcases aaG.mp hx with rfl | hx
       ·exact S.y_
       ·cases hx
     have kp:∀b o,s2.heap.get? b=some o->h1.get? b=some o:=fun b o e=>hsb.extBut b o (acJ (aaS e)) (aaD _ e);refine⟨I2.nolimit.keeps kp,W.kla_codeExpr ?_⟩;have J:Inv (Aya X scope qual f' y c c' px py s2 H2) [] [some (.int a),some (.int b),some (.int n)] H2 { s2 with heap:=h1,toks:=s2.toks+2 }:=by
      refine⟨⟨I2.mod,S.kind,rfl,rfl,aaK _,fun x1 y1 c1 e1 e2=>?_,fun x1 hx1=>?_,fun _ _ z _=>(by cases z),fun _=>I2.ok.hd hcm,anH I2.ok.frames,.inr ⟨rfl,rfl⟩,fun b z=>absurd (show b∈([]:List Addr)from z) (by simp),I2.bs,abI I2.ok.bsz I2.sz,fun b _ _ z=>absurd (show b∈([]:List Addr)from z) (by simp),fun b z=>absurd (show b∈([]:List Addr)from z) (by simp),I2.stack,I2.stkFree⟩,
       rfl,I2.bare,Un.kept kp,⟨_,hns,fun i1 x1 v1 e1 e2 e3=>?_⟩,fun x1 c1 e1=>?_,I2.hok.fresh (aaK _),fun x1 c1 e1=>?_,fun p hp=>absurd (show p∈([]:List (Addr×Obj))from hp) (by simp),I2.hok.kept kp,rfl⟩
      ·have o1:∀{x1 c1},adW x1 [(y,c)]=some c1->x1=y/\c1=c:=fun {x1 c1} e=>by
        rw[acW]at e;cases q2:x1==y with
        | true=>rw[q2]at e;cases e;exact⟨eq_of_beq q2,rfl⟩
        | false=>rw[q2]at e;cases e
       exact(o1 e1).1.trans (o1 e2).1.symm
      ·have:=S.only x1 hx1;subst this;exact⟨c,by show adW x1 [(x1,c)]=some c;rw[acW,beq_self_eq_true]⟩
      ·match i1,e1,e2 with
       | 0,e1,e2 =>
        cases e1;cases e2;refine⟨_,⟨t1,rfl⟩,.inl ⟨S.x,?_⟩⟩;show adW px [(py,afM b t2),(px,afM a t1)]=some (.int a t1);rw[acW,beq_eq_false_iff_ne.mpr S.ne,acW,beq_self_eq_true]
       | 1,e1,e2 =>
        cases e1;cases e2;refine⟨_,⟨t2,rfl⟩,.inl ⟨S.y_,?_⟩⟩;show adW py [(py,afM b t2),(px,afM a t1)]=some (.int b t2);rw[acW,beq_self_eq_true]
       | 2,e1,e2 =>
        cases e1;cases e2;obtain⟨t3,ck⟩:=ck.keeps (h':=h1) fun o e=>kp _ o e;exact⟨_,⟨t3,rfl⟩,.inr ⟨.inr S.z,c,(by show adW y [(y,c)]=some c;rw[acW,beq_self_eq_true]),ck⟩⟩
       | m+3,e1,e2=>cases e1
      ·have o1:x1=y/\c1=c:=by
        have e:adW x1 [(y,c)]=some c1:=e1;rw[acW]at e;cases q2:x1==y with
        | true=>rw[q2]at e;cases e;exact⟨eq_of_beq q2,rfl⟩
        | false=>rw[q2]at e;cases e
       obtain⟨rfl,rfl⟩:=o1;obtain⟨t3,ck⟩:=ck.keeps (h':=h1) fun o e=>kp _ o e;exact⟨_,ck⟩
      ·have e:adW x1 [(y,c)]=some c1:=e1;rw[acW]at e;cases q2:x1==y with
       | true=>rw[q2]at e;cases e;exact cH
       | false=>rw[q2]at e;cases e
     exact thn (aeE (hbody s2 H2 f' c c' [] _ _ H2 Q J q) (fun _ _ x=>x) fun _ _ x=>acM x) fun u s' ⟨v,H',J',rv,qv⟩=>⟨v,H',J'.os,J'.bare,J'.base,J'.hok,rv,qv⟩
    ·cases r with
     | error e=>exact acM hq
     | ok fl =>
      cases fl with
      | ret u=>exact I2.after hq
      | next=>exact acM hq
      | brk=>exact acM hq
      | cont=>exact acM hq
 have hh:=thn (ha pos p_ s1 σ H1 _ I1 h) fun us s2 x=>fin us s2 x;rw[he]at hh ⊢;exact W.callWith_of (P:=fun h=>∃fd,∃o:Obj,h.get? f'=some o/\o.data=.func fd) (by show((false||(afI pos (abL es X.env)).any (·.1))||false)=false;rw[hpl];rfl)
  (fun h ⟨fd,o,e1,e2⟩=>⟨.frame,.inl rfl,(W.Looks.ld (part:=none) e1).andThen (by rw[e2];exact W.Looks.now)⟩) (anO hh)
end
end L2
end
section
set_option maxHeartbeats 4000000
namespace L2
open PySem PySem.Spec PyProof.Rows PyProof.Rows.G
abbrev rfs (L:List (Addr×List Int)):List aaF:=L.map fun p=>aaR p.1
theorem Aq8 {h:Heap}{g:List Int->List Int}{Z:List (Addr×(Addr×List Int))}(hZ:∀z,z∈Z->tupKeyC h Ahc (.ref z.1)=some ((g z.2.2).map adD)){arr:Array Keyed}(hp:arr.toList.Perm (Z.map fun z=>((aaR z.1,aaR z.2.1):Keyed)))
 (hs:SortedToK (tupKindC h Ahc) arr Z.length):∃l:List (Addr×List Int),l.Perm (Z.map (·.2))/\(arr.map (·.2)).toList=rfs l/\l.Pairwise (fun a b=>ltI (g b.2) (g a.2)=false):=by
 obtain⟨l,pl,el⟩:=perm_map_inv hp Z rfl;refine⟨l.map (·.2),pl.map _,by rw[Array.toList_map,el,acC];unfold rfs;rw[acC];rfl,?_⟩;rw[adL,afA];intro i j hi hj hij;have kk:∀(k:Nat) (hk:k<l.length),KK (tupKindC h Ahc) arr k=(g l[k].2.2).map adD:=fun k hk=>by
  have e:arr[k]?=some ((aaR l[k].1,aaR l[k].2.1):Keyed):=by
   rw[<-afU,el,aaH,aaE hk];rfl
  have hq:=hZ l[k] (pl.mem_iff.mp (acX hk));unfold KK;rw[e];show(tupKeyC h Ahc (.ref l[k].1)).getD []=_;rw[hq];rfl
 have:=hs i j (aeW hij) (by rw[<-pl.length_eq];exact hj);rw[kk i hi,kk j hj]at this;exact this
section
variable {X:Cx}{p_:List (Addr×Obj)}{σ:St}{H:Hp}{s:aaI}
theorem Inv.loose {it:Addr}{h':Heap}{t':Nat}(I:Inv X p_ σ H s)(f:FpOk X p_ H it)(k:∀b o,b≠it->s.heap.get? b=some o->h'.get? b=some o):Inv X p_ σ H { s with heap:=h',toks:=t' }:=I.turned k f.1 f.2.1 f.2.2.2.1 f.2.2.2.2.1 f.2.2.2.2.2
theorem FpOk.to {H':Hp}{b:Addr}(f:FpOk X p_ H b)(h:H' b=none):FpOk X p_ H' b:=⟨h,f.2⟩
theorem Axu {A:adE}{P:PySem.Fin->aaI->Prop}{E:aaF->aaI->Prop}{a kS:Addr}{e1 ek:Nat}{g:List Int->List Int}{L:List (Addr×List Int)}{T:List Addr}(I:Inv X p_ σ H s)(na:kS≠a)(fa:FpOk X p_ H a)(fk:FpOk X p_ H kS)
 (ha:s.heap.get? a=some (adF "list" #[] e1)) (hk:s.heap.get? kS=some (adF "list" (T.map aaR).toArray ek)) (lT:T.length=L.length) (kT:∀z,z∈T.zip L->H z.1=some (.tup ((g z.2.2).map V.int))/\g z.2.2≠[]) (lL:L.length<=100000)
 (h:∀h' tk m l,Inv X p_ σ H { s with heap:=h',toks:=tk }->l.Perm L->l.Pairwise (fun p q=>ltI (g q.2) (g p.2)=false)->h'.get? a=some (adF "list" (rfs l).toArray m)->P (.done (.ret .none)) { s with heap:=h',toks:=tk }) :
 abM (model X.prog X.w) A (ksk_end a false (rfs L).toArray e1 (.ref kS) (T.map aaR).toArray) P E s:=by
 have hz:L.length<=abB:=abI lL (by decide);have hz1:L.length<=abB+1:=Nat.le_succ_of_le hz;have eZ:(T.map aaR).zip (rfs L)=(T.zip L).map fun z=>(aaR z.1,aaR z.2.1):=by
  unfold rfs;rw[List.zip_map];rfl
 have zL:(T.zip L).length=L.length:=by rw[List.length_zip,lT,Nat.min_self]
 have z2:(T.zip L).map (·.2)=L:=List.map_snd_zip (by lia);have pz:((T.map aaR).toArray.zip (rfs L).toArray).toList=(T.zip L).map fun z=>(aaR z.1,aaR z.2.1):=by rw[Array.toList_zip,<-eZ]
 have psz:((T.map aaR).toArray.zip (rfs L).toArray).size=L.length:=by rw[<-agJ,pz,aaA,zL]
 have kL:Abr H ((T.zip L).map fun z=>(z.1,g z.2.2)):=fun p hp=>by
  obtain⟨z,hz,rfl⟩:=aaN.1 hp;exact kT z hz
 obtain⟨key0,fs,ht0⟩:=Af2 I kL;have key:∀z,z∈T.zip L->tupKeyC s.heap Ahc (.ref z.1)=some ((g z.2.2).map adD):=fun z hz=>key0 (z.1,g z.2.2) (aaN.2 ⟨z,hz,rfl⟩);have eT:((T.zip L).map fun z=>(z.1,g z.2.2)).map (fun p=>aaR p.1)=T.map aaR:=by
  rw[acC];have:(T.zip L).map (·.1)=T:=List.map_fst_zip (by lia)
  conv=>rhs;rw[<-this,acC]
  rfl
 rw[eT]at ht0;have tail:∀st:SortSt,(arrOf st).toList.Perm ((T.zip L).map fun z=>((aaR z.1,aaR z.2.1):Keyed))->SortedToK (tupKindC s.heap Ahc) (arrOf st) L.length->failedOf st=none->abM (model X.prog X.w) A (ksk_tail a false e1 (.ref kS) st) P E s:=by
  intro st hp hs hf;rw[<-zL]at hs;obtain⟨l,pl,el,so⟩:=Aq8 key hp hs;rw[z2]at pl;have osz:((arrOf st).map (·.2)).size=L.length:=by rw[<-agJ,el,aaA,pl.length_eq]
  have s1:=adU s.heap kS (acZ fun _=>(#[]:Array aaF));have na1:(s.heap.update kS (acZ fun _=>(#[]:Array aaF))).get? a=some (adF "list" #[] e1):=(s1.2 a na.symm).trans ha;obtain⟨c2,hc2⟩ : ∃c2,((s.heap.update kS (acZ fun _=>(#[]:Array aaF))).update a (acZ fun _=>(arrOf st).map (·.2))).get? a=some (adF "list" ((arrOf st).map (·.2)) c2):=⟨_,get?_update_seq na1 fun _=>(arrOf st).map (·.2)⟩
  unfold ksk_tail
  try dsimp only
  refine aaC (akX hk rfl ?_ (by rw[aaP,aaA,lT];exact hz) (abO _));refine aaC (wpAny_letGo ?_);refine aaC (seqEpoch_at na1 rfl ?_);refine aaC (akX na1 rfl ?_ (abO _) (abI (aeL osz) hz1));rw[hf];simp only[bne_self_eq_false,aeV,if_false];have I1:=I.loose (t':=s.toks) fk (h':=s.heap.update kS (acZ fun _=>(#[]:Array aaF))) fun b o hb e=>(s1.2 b hb).trans e
  have I2:=I1.loose (t':=s.toks) fa (h':=(s.heap.update kS (acZ fun _=>(#[]:Array aaF))).update a (acZ fun _=>(arrOf st).map (·.2))) fun b o hb e=>((adU _ a _).2 b hb).trans e;refine aaL (h _ s.toks c2 l I2 pl so ?_);rw[hc2]
  congr 2
  rw[<-el]
 unfold ksk_end
 try dsimp only
 simp only[aeV,if_false]
 by_cases h2:(rfs L).toArray.size<2
 ·rw[ifp h2,ifp h2];refine aaC (aaL ?_);rw[StateT.run_pure];refine aaC (aaL ?_)
  try dsimp only
  refine tail (SortSt.mk' general' ((T.map aaR).toArray.zip (rfs L).toArray) #[] 7 none) (by show(((T.map aaR).toArray.zip (rfs L).toArray).toList).Perm _;rw[pz]) ?_ rfl;intro i j hij hj;have:i=j:=by rw[aaP,aaA]at h2;lia
  subst this;exact KeyOrd.kle_refl _
 ·rw[ifn h2,ifn h2];have h3:2<=L.length:=by rw[aaP,aaA]at h2;lia
  refine aaC (tup_kind (by rw[amD ht0,aaA];lia) ht0 ?_)
  try dsimp only
  refine aaC (aeE (wpS_sortRunsSt (κ:=tupKindC s.heap Ahc) (kd:=tuples' true) (a₀:=(T.map aaR).toArray.zip (rfs L).toArray) (st:=SortSt.mk' (tuples' true) ((T.map aaR).toArray.zip (rfs L).toArray) #[] 7 none)
   (Q:=fun _ st'=>(arrOf st').Perm ((T.map aaR).toArray.zip (rfs L).toArray)/\failedOf st'=none/\SortedToK (tupKindC s.heap Ahc) (arrOf st') L.length)
   (tupC_ltAt true fun b o e _=>e) (fun p hp=>?_) ⟨Array.Perm.refl _,rfl,rfl⟩ rfl (Stable.refl _) (by rw[psz];exact h3) fun st' a1 a2 a3 a4=>⟨a1,a2,by rw[<-psz];exact a3⟩) ?_ fun _ _ e=>e)
  ·rw[pz]at hp;obtain⟨z,hz,rfl⟩:=aaN.1 hp;exact⟨_,key z hz⟩
  ·rintro⟨⟨⟩,st'⟩ s' ⟨rfl,hp,hf,hs⟩
   try dsimp only
   refine tail st' ?_ hs hf;rw[<-pz];exact alR.mp hp
theorem Au7 {A:adE}{P:PySem.Fin->aaI->Prop}{E:aaF->aaI->Prop}{fv:aaF}{a:Addr}{n:Nat}{g:List Int->List Int}{L:List (Addr×List Int)}(I:Inv X p_ σ H s)(fa:FpOk X p_ H a)(ha:s.heap.get? a=some (adF "list" (rfs L).toArray n))
 (kL:Abr H L) (gn:∀p,p∈L->g p.2≠[]) (lL:L.length<=100000)
 (call1:∀(ps:List (Addr×Obj)) (s1:aaI) (H1:Hp) (p:Addr×List Int),p∈L->Inv X ps σ H1 s1->H1 p.1=some (.tup (p.2.map V.int))->abM (model X.prog X.w) A (call fv [.ref p.1]) (EP X ps σ fun v H'=>∃t,v=.ref t/\Same H1 H'/\H' t=some (.tup ((g p.2).map V.int))) (fun _ _=>False) s1)
 (h:∀s' H' m l,Inv X p_ σ H' s'->Same H H'->H' a=none->l.Perm L->l.Pairwise (fun p q=>ltI (g q.2) (g p.2)=false)->s'.heap.get? a=some (adF "list" (rfs l).toArray m)->P (.done (.ret .none)) s') :
 abM (model X.prog X.w) A (ksk_tree a fv false) P E s:=by
 have hz:L.length<=abB:=abI lL (by decide);have rl:(rfs L).length=L.length:=aaA _;have s1:=adU s.heap a (acZ fun _=>(#[]:Array aaF));obtain⟨e1,ho1⟩ : ∃e1,(s.heap.update a (acZ fun _=>(#[]:Array aaF))).get? a=some (adF "list" #[] e1):=⟨_,get?_update_seq ha fun _=>#[]⟩
 have I1:=I.loose (t':=s.toks) fa (h':=s.heap.update a (acZ fun _=>(#[]:Array aaF))) fun b o hb e=>(s1.2 b hb).trans e;unfold ksk_tree;refine aaC (listItems_at ha rfl ?_);refine aaC (akX ha rfl ?_ (by rw[aaP,rl];exact hz) (abO _));refine aaC (seqEpoch_at ho1 rfl ?_);refine aaC (wpAny_newTuple ?_ (by show(rfs L).length<=_;rw[rl];exact hz))
 refine aaC (wpAny_newList ?_ (abO _));refine wpAny_holding ?_;have I2:=I1.kept (t':=s.toks) (h':=(s.heap.update a (acZ fun _=>(#[]:Array aaF))).push (adF "tuple" (rfs L).toArray 0)) fun b o e=>aaD _ e;have hkS:=I2.fpOk (b:=((s.heap.update a (acZ fun _=>(#[]:Array aaF))).push (adF "tuple" (rfs L).toArray 0)).objs.size) (aaK _) (I2.hok.fresh (aaK _))
 have I3:=I2.kept (t':=s.toks) (h':=((s.heap.update a (acZ fun _=>(#[]:Array aaF))).push (adF "tuple" (rfs L).toArray 0)).push (adF "list" #[] 0)) fun b o e=>aaD _ e;have ga:(((s.heap.update a (acZ fun _=>(#[]:Array aaF))).push (adF "tuple" (rfs L).toArray 0)).push (adF "list" #[] 0)).get? a=some (adF "list" #[] e1):=aaD _ (aaD _ ho1)
 have gk:(((s.heap.update a (acZ fun _=>(#[]:Array aaF))).push (adF "tuple" (rfs L).toArray 0)).push (adF "list" #[] 0)).get? ((s.heap.update a (acZ fun _=>(#[]:Array aaF))).push (adF "tuple" (rfs L).toArray 0)).objs.size=some (adF "list" #[] 0):=aaO _ rfl;have nka:((s.heap.update a (acZ fun _=>(#[]:Array aaF))).push (adF "tuple" (rfs L).toArray 0)).objs.size≠a:=by
  have:=aaS (aaD (adF "tuple" (rfs L).toArray 0) ho1);lia
 show abM _ _ (ksk_rest a fv false (rfs L).toArray e1 (.ref ((s.heap.update a (acZ fun _=>(#[]:Array aaF))).push (adF "tuple" (rfs L).toArray 0)).objs.size)) _ _ { s with heap:=((s.heap.update a (acZ fun _=>(#[]:Array aaF))).push (adF "tuple" (rfs L).toArray 0)).push (adF "list" #[] 0) };generalize ((s.heap.update a (acZ fun _=>(#[]:Array aaF))).push (adF "tuple" (rfs L).toArray 0)).objs.size=kS at hkS gk nka ⊢
 obtain⟨s3,es⟩ : ∃s3:aaI,s3={ s with heap:=((s.heap.update a (acZ fun _=>(#[]:Array aaF))).push (adF "tuple" (rfs L).toArray 0)).push (adF "list" #[] 0) }:=⟨_,rfl⟩
 have ga:s3.heap.get? a=some (adF "list" #[] e1):=by rw[es];exact ga
 have gk:s3.heap.get? kS=some (adF "list" #[] 0):=by rw[es];exact gk
 have I3:Inv X p_ σ H s3:=by rw[es];exact I3
 rw[<-es];unfold ksk_rest;refine aaC (wpAny_rule ?_)
 first
  | rw[List.forIn_toArray]
  | (rw[<-aoG];simp only[List.toList_toArray])
  | rw[<-aoG]
 refine aaC (ksk_fold (fun i s'=>∃(H':Hp) (T:List Addr) (ek:Nat),Inv X p_ σ H' s'/\Same H H'/\H' a=none/\H' kS=none/\s'.heap.get? a=some (adF "list" #[] e1)/\s'.heap.get? kS=some (adF "list" (T.map aaR).toArray ek)/\T.length=i/\(∀z,z∈T.zip (L.take i)->H' z.1=some (.tup ((g z.2.2).map V.int))/\g z.2.2≠[])) (rfs L) 0 s3
  ⟨H,[],0,I3,fun _ _ e=>e,fa.1,hkS.1,ga,gk,rfl,fun z hz=>by simp at hz⟩ ?step ?done)
 case step =>
  rintro j x s' hx ⟨H',T,ek,J,sm,Ha,Hk,ea,ekS,lT,kT⟩;rw[ahE]at lT kT ⊢;have hx':(L.map fun p=>aaR p.1)[j]?=some x:=hx;rw[aaH]at hx';cases hp:L[j]? with
  | none=>rw[hp]at hx';cases hx'
  | some p =>
   rw[hp]at hx';cases hx';have mp:=aaJ hp;have jl:=(aaB.mp hp).1;have nc:∀(xs:Array aaF) (m:Nat) (v:Option aaF),(adF "list" xs m).data≠.cell v:=fun xs m v z=>by cases z
   have Jp:Inv X ((a,adF "list" #[] e1)::(kS,adF "list" (T.map aaR).toArray ek)::p_) σ H' s':=J.pins_of fun q hq=>by
    rcases aaG.mp hq with rfl | hq
    ·exact⟨ea,Ha,fa.2.1,fa.2.2.1,nc _ _⟩
    ·rcases aaG.mp hq with rfl | hq
     ·exact⟨ekS,Hk,hkS.2.1,hkS.2.2.1,nc _ _⟩
     ·exact J.pin q (acV _ hq)
   refine aaC (wpAny_attempt (aeE (call1 _ s' H' p mp Jp (sm _ _ (kL p mp).1)) (fun v s'' he=>?_) fun _ _ hF=>hF.elim));obtain⟨v',H'',J2,rv,t,rfl,sm2,ht⟩:=he;obtain rfl:v=aaR t:=rv
   try dsimp only
   have pa:=J2.pin (a,adF "list" #[] e1) (acV _ (.head _));have pk:=J2.pin (kS,adF "list" (T.map aaR).toArray ek) (acV _ (.tail _ (.head _)));have J3:Inv X p_ σ H'' s'':=J2.pins_of fun q hq=>J2.pin q (acV _ (.tail _ (.tail _ hq)));have tl:(T.map aaR).toArray.size=j:=by rw[aaP,aaA,lT]
   obtain⟨c2,hc2⟩ : ∃c2,(s''.heap.update kS (acZ (·.push (aaR t)))).get? kS=some (adF "list" ((T.map aaR).toArray.push (.ref t)) c2):=⟨_,get?_update_seq pk.1 (·.push (aaR t))⟩
   refine aaC (akX pk.1 rfl ?_ (by rw[tl];lia) (abI (aeL (Array.size_push ..)) (by rw[tl];lia)));have sb:=adU s''.heap kS (acZ (·.push (aaR t)));refine aaL ⟨rfl,H'',T++[t],c2,J3.loose (t':=s''.toks) (hkS.to pk.2.1) fun b o hb e=>(sb.2 b hb).trans e,fun b o e=>sm2 _ _ (sm _ _ e),pa.2.1,pk.2.1,(sb.2 a nka.symm).trans pa.1,?_,by rw[aaM,lT];rfl,fun z hz=>?_⟩
   ·rw[hc2,aaU]
    congr 2
    simp
   ·rw[List.take_add_one,hp]at hz;rw[List.zip_append (by rw[abJ,lT];lia)]at hz;rcases abH.1 hz with hz | hz
    ·exact⟨sm2 _ _ (kT z hz).1,(kT z hz).2⟩
    ·have:z=(t,p):=by simpa using hz
     subst this;exact⟨ht,gn p mp⟩
 case done =>
  rintro s' ⟨H',T,ek,J,sm,Ha,Hk,ea,ekS,lT,kT⟩;rw[ahE,rl]at lT kT;rw[aeP (aaK _)]at kT
  try dsimp only
  refine aaC (listItems_at ekS rfl ?_);exact Axu J nka (fa.to Ha) (hkS.to Hk) ea ekS lT kT lL fun h' tk m l J' pl so hl=>h _ H' m l J' sm Ha pl so hl
end
end L2
end
section
set_option maxHeartbeats 4000000
namespace L2
open PySem PySem.Spec PyProof.Rows PyProof.Rows.G
section
variable {X:Cx}{p_:List (Addr×Obj)}{σ:St}{H:Hp}{s:aaI}
theorem Azv {A:adE}{k:Nat}{f:Addr}{fd:aaX}{ps:List Str}{sp:Sp}{Q:VK}{us:List aaF}{vs:List V}(F:FnOk X.prog X.w X.K X.mg X.base CX0 k f fd ps sp)(hr:Room k A)(hfr:A.frames=some X.stack)(hb:Binds X.K fd ps [])(I:Inv X p_ σ H s)(r:Vals vs us)(h:sp vs H Q E0) :
 abM (model X.prog X.w) A (call (.ref f) us) (EP X p_ σ Q) (fun _ _=>False) s:=by
 have hl:us.length=ps.length:=by rw[<-r.length];exact F.len _ _ _ _ h
 have hbd:=hb s us I.kIn (by rw[aeD];exact hl);rw[aeD]at hbd;have e0:=I.env0;refine alS (agU (F.run A X.stack s H ⟨us,[]⟩ us vs Q E0 hr ⟨hfr,e0.mod,e0.bs,e0.bsz,e0.funs,e0.frf,e0.hok,e0.bare⟩ hbd r h) fun r s' hq=>?_);cases r with
 | error e=>exact acM hq
 | ok fl =>
  cases fl with
  | ret u=>exact I.after hq
  | next=>exact acM hq
  | brk=>exact acM hq
  | cont=>exact acM hq
theorem Inv.adopt {D:Addr}{o:HO}(I:Inv X p_ σ H s)(f:FpOk X p_ H D)(new:ObjOk X.prog X.w (upd H D o) s.heap D o):Inv X p_ σ (upd H D o) s:=by
 have nD:∀{b u},H b=some u->b≠D:=fun e z=>by rw[z,f.1]at e;cases e
 refine I.step (g':=s.gens) (d':=s.drawn) (t':=s.toks) (h':=s.heap) (ch:=[D]) (fun b hb=>?_) (fun b o _ _ _ e _=>e) (fun b o _ _ _ e _=>⟨o.slots,e⟩) (fun b o hc _ n=>by rw[Aa5 (fun z=>hc (by simp[z]))];exact n) (fun b o _ e=>⟨o,e⟩)
  (fun b xs e=>by rw[Aa5 (nD e)];exact e) (fun b o u e=>by rw[Aa5 (nD e)];exact e) (fun b qs e=>⟨#[],by rw[Aa5 (nD e),e];simp⟩) (fun m hn=>hn) (fun b u e=>?_) I.bare
 ·have e:b=D:=by simpa using hb
  subst e;exact⟨f.2.2.2.1,f.2.1,f.2.2.2.2.1,f.2.2.2.2.2⟩
 ·by_cases z:b=D
  ·subst z;rw[Aa1]at e;cases e;exact new
  ·rw[Aa5 z]at e;exact(I.hok b u e).stay (fun _ _ _ q=>q) (fun b2 q=>by rw[Aa5 (nD q)];exact q) fun b2 xs q=>by rw[Aa5 (nD q)];exact q
def Av0 (sp:Sp)(W:List Int->Prop)(g:List Int->List Int):Prop:=∀(H:Hp) (a:Addr) (ns:List Int) (Q:VK),W ns->H a=some (.tup (ns.map V.int))->(∀t H',Same H H'->H' t=some (.tup ((g ns).map V.int))->Q (.ref t) H')->sp [.ref a] H Q E0
variable {k:Nat}{f:Addr}{fd:aaX}{ps:List Str}{sp:Sp}{W:List Int->Prop}{g:List Int->List Int}
theorem Ahx {r:Addr}{L:List (Addr×List Int)}{Q:VK}(F:FnOk X.prog X.w X.K X.mg X.base CX0 k f fd ps sp)(hr:Room (k+2) X.A)(hb:Binds X.K fd ps [])(kf:Av0 sp W g)(hc:X.calm=true)(I:Inv X p_ σ H s)(kL:Abr H L)(hW:∀p,p∈L->W p.2/\g p.2≠[])(lL:L.length<=100000)
 (col:∀{A:adE} {R:List aaF->aaI->Prop} {E:aaF->aaI->Prop},A.handled=none->(∀h' tk,(∀b o,s.heap.get? b=some o->h'.get? b=some o)->R (rfs L) { s with heap:=h',toks:=tk })->abM (model X.prog X.w) A (collect (.ref r)) R E s)
 (h:∀(H':Hp) (q:Addr) (l:List (Addr×List Int)),Same H H'->H q=none->H' q=some (.lst (l.map fun p=>V.ref p.1))->l.Perm L->l.Pairwise (fun p q=>ltI (g q.2) (g p.2)=false)->Q (.ref q) H') :
 abM (model X.prog X.w) X.A (call (.builtin "sorted") [.ref r] [(aaY "key",.ref f)]) (EP X p_ σ Q) X.xe s:=by
 have hz:L.length<=abB:=abI lL (by decide);have rl:(rfs L).length=L.length:=aaA _;refine call_function_entry_kw kind_sorted plain_sorted entry_sorted (ksk_s1 _ _) ?_;unfold Builtin.«sorted»;refine aaC (m:=checkCount "sorted" 1 1 _) (aaL ?_);refine aaC (col (A:=X.A.in1) (I.ok.hd hc) fun h1 tk k1=>?_);refine aaC (wpAny_newList ?_ (by rw[rl];exact hz))
 have I1:=I.kept (t':=tk) (h':=h1) k1;have hq:=I1.fpOk (b:=h1.objs.size) (aaK _) (I1.hok.fresh (aaK _));have I2:=I1.kept (t':=tk) (h':=h1.push (adF "list" (rfs L).toArray 0)) fun b o e=>aaD _ e;have hoL:(h1.push (adF "list" (rfs L).toArray 0)).get? h1.objs.size=some (adF "list" (rfs L).toArray 0):=aaO _ rfl;show abM _ _ _ _ _ { s with heap:=h1.push (adF "list" (rfs L).toArray 0),toks:=tk }
 refine aaC (wpAny_holding (wpAny_call_entry_kw slot_list_sort ⟨_,hoL,rfl⟩ entry_list_sort ?body (ksk_l1 _ _)))
 case body =>
  show abM (model X.prog X.w) X.A.in1.in1 (Builtin.«list.sort» ⟨[.ref h1.objs.size],[(aaY "key",.ref f)]⟩) _ _ _;rw[ksk_t1];refine Au7 (g:=g) I2 hq hoL kL (fun p hp=>(hW p hp).2) lL (fun ps s1 H1 p hp J e=>?_) fun s' H' m l J sm Ha pl so hl=>⟨_,rfl,?_⟩
  ·exact Azv F hr.in1.in1 J.ok.frames hb J (vs:=[.ref p.1]) (.cons rfl .nil) (kf H1 p.1 p.2 _ (hW p hp).1 e fun t H' sm ht=>⟨t,rfl,sm,ht⟩)
  ·have ll:l.length<=abB:=by rw[pl.length_eq];exact hz
   have new:ObjOk X.prog X.w (upd H' h1.objs.size (.lst (l.map fun p=>V.ref p.1))) s'.heap h1.objs.size (.lst (l.map fun p=>V.ref p.1)):=⟨by rw[aaA];exact ll,rfs l,m,Ae7 l,hl⟩
   refine aaL ⟨_,rfl,.ref h1.objs.size,_,J.adopt (hq.to Ha) new,rfl,h _ _ l (sm.trans (fun b o e=>by rw[Aa5 (Aa8 e Ha)];exact e)) hq.1 Aa1 pl so⟩
def Az6 (W:List Int->Prop)(g:List Int->List Int)(te:TE):TE:=fun σ H Q=>te σ H fun v H1=>∃(r:Addr) (L:List (Addr×List Int)),v=.ref r/\H1 r=some (.lst (L.map fun p=>V.ref p.1))/\Abr H1 L/\(∀p,p∈L->W p.2/\g p.2≠[])/\L.length<=100000/\
 ∀(H':Hp) (q:Addr) (l:List (Addr×List Int)),Same H1 H'->H1 q=none->H' q=some (.lst (l.map fun p=>V.ref p.1))->l.Perm L->l.Pairwise (fun p q=>ltI (g q.2) (g p.2)=false)->Q (.ref q) H'
def Az7 (W:List Int->Prop)(g:List Int->List Int)(te:TE):TE:=fun σ H Q=>te σ H fun v H1=>∃(r:Addr) (kvs:List (List Key×V)) (E:List (List Int)),v=.ref r/\H1 r=some (.dT kvs)/\kvs.map (·.1)=E.map (·.map adD)/\(∀e,e∈E->e≠[]/\W e/\g e≠[])/\E.length<=100000/\
 ∀(H':Hp) (q:Addr) (l:List (Addr×List Int)),Same H1 H'->H1 q=none->H' q=some (.lst (l.map fun p=>V.ref p.1))->Abr H1 l->(l.map (·.2)).Perm E->l.Pairwise (fun p q=>ltI (g q.2) (g p.2)=false)->Q (.ref q) H'
variable {e:adX}{te:TE}{p p2 pos kpos:Pos}{kn:Str}
theorem Aim:∀{L:List (Addr×List Int)} {us:List aaF},Vals (L.map fun p=>V.ref p.1) us->us=rfs L
 | [],_,.nil=>rfl
 | p::L,_,.cons r t=>by
  obtain rfl:=r;rw[Aim t];rfl
theorem Ak8 {Q:VK}(hm:X.mg "sorted" = none)(hf:X.mg kn=some (.ref f))(he:PE X e te)(I:Inv X p_ σ H s)(hg:Gl X "sorted")(hg2:Gl X kn)(hd2:(kn==("__debug__" : Str))=false){R:V->Hp->Prop}(h:te σ H R)
 (hs:afI pos (abL [e] X.env)=(false,eval e X.env)::afI pos (abL [] X.env)) (hs2:abL [e] X.env=(false,eval e X.env)::abL [] X.env) (hpl:(afI pos (abL [e] X.env)).any (·.1)=false)
 (go:∀s1 H1 v u,Inv X p_ σ H1 s1->RelV v u->R v H1->abM (model X.prog X.w) X.A (call (.builtin "sorted") [u] [(aaY "key",.ref f)]) (EP X p_ σ Q) X.xe s1) :
 abM (model X.prog X.w) X.A (eval (.Call (.Name "sorted" p) [e] [⟨some "key",.Name kn p2,kpos⟩] pos) X.env) (EP X p_ σ Q) X.xe s:=by
 refine wpAny_Call_Name_kw (Agk I hg hm (show ahN "sorted" = some (.builtin "sorted")by decide +kernel) ?_ (by decide) (by decide));refine PyProof.Rows.callWith_kw (thn ((Aa0 he Aa3 hs2:PA X [e] (Ab6 te Ahb)) pos p_ s σ H (fun vs H1=>match vs with | [v]=>R v H1 | _=>False) I h) fun us s1 ⟨vs,H1,I1,r1,q1⟩=>?_) hs hpl rfl rfl;cases r1 with
 | nil=>exact acM q1
 | @cons v u vs us ru rr =>
  cases rr with
  | cons _ _=>exact acM q1
  | nil =>
   refine thn ((Ax1 (Aaq hg2 hf (v:=.ref f) rfl hd2) Azz:PK X [⟨some "key",.Name kn p2,kpos⟩] (Ab6 (tC (.ref f)) Ahb)) pos p_ s1 σ H1 (fun zs H2=>zs=[.ref f]/\H2=H1) I1 ⟨rfl,rfl⟩) fun ws s2 ⟨zs,H2,I2,rz,ez,eH⟩=>?_;subst ez eH;obtain⟨w2,rfl,rw2⟩:=Ahd rz;obtain rfl:w2=aaR f:=rw2;exact go s2 H2 v u I2 ru q1
theorem Ate (F:FnOk X.prog X.w X.K X.mg X.base CX0 k f fd ps sp)(hr:Room (k+2) X.A)(hb:Binds X.K fd ps [])(kf:Av0 sp W g)(hc:X.calm=true)(hm:X.mg "sorted" = none)(hf:X.mg kn=some (.ref f))(he:PE X e te)(hg:Gl X "sorted":=by rfl)(hg2:Gl X kn:=by rfl)(hd2:(kn==("__debug__" : Str))=false:=by decide)
 (hs:afI pos (abL [e] X.env)=(false,eval e X.env)::afI pos (abL [] X.env):=by rfl) (hs2:abL [e] X.env=(false,eval e X.env)::abL [] X.env:=by rfl) (hpl:(afI pos (abL [e] X.env)).any (·.1)=false:=by rfl) :
 PE X (.Call (.Name "sorted" p) [e] [⟨some "key",.Name kn p2,kpos⟩] pos) (Az6 W g te):=by
 intro p_ s σ H Q I h;refine Ak8 hm hf he I hg hg2 hd2 h hs hs2 hpl fun s1 H1 v u I1 ru ⟨r,L,ev,hr1,kL,hW,lL,q⟩=>?_;subst ev;obtain rfl:u=aaR r:=ru;refine Ahx F hr hb kf hc I1 kL hW lL (fun {A R E} hh hR=>?_) q;obtain⟨hz,its,n,rv,hg3⟩ : ObjOk X.prog X.w H1 s1.heap r (.lst (L.map fun p=>V.ref p.1)):=I1.hok _ _ hr1;have e3:=Aim rv;subst e3;refine collect_list (vs:=rfs L) ⟨_,hg3,rfl,n,rfl⟩ (hR _ s1.toks fun b o eb=>?_) (by rw[aaA]at hz ⊢;exact hz)
 have hlt:=aaS eb;rw[ahS _ _ _ _ (acJ hlt)];exact aaD _ eb
theorem Ay8 {kvs:List (List Key×V)}{ys:List (List Key×Addr×aaF)}{E:List (List Int)}(pr:Paired (fun(p:List Key×V) (q:List Key×Addr×aaF)=>p.1=q.1/\H q.2.1=some (.tup (p.1.map kV))/\RelV p.2 q.2.2) kvs ys):kvs.map (·.1)=E.map (·.map adD)->(∀e,e∈E->e≠[])->
 ∃L:List (Addr×List Int),L.map (·.1)=ys.map (·.2.1)/\L.map (·.2)=E/\Abr H L:=by
 induction pr generalizing E with
 | nil =>
  intro e _;cases E with
  | nil=>exact⟨[],rfl,rfl,fun p hp=>by cases hp⟩
  | cons a b=>cases e
 | @cons p y ps qs hq t ih =>
  intro e hn;cases E with
  | nil=>cases e
  | cons a b =>
   injection e with e1 e2
   obtain⟨L,l1,l2,l3⟩:=ih e2 fun x hx=>hn x (.tail _ hx);refine⟨(y.2.1,a)::L,by rw[abE,abE,l1],by rw[abE,l2],fun z hz=>?_⟩;rcases aaG.mp hz with rfl | hz
   ·refine⟨?_,hn a (.head _)⟩;have:=hq.2.1;rw[show p.1=a.map adD from e1,acC]at this;exact this
   ·exact l3 z hz
theorem Atf (F:FnOk X.prog X.w X.K X.mg X.base CX0 k f fd ps sp)(hr:Room (k+2) X.A)(hb:Binds X.K fd ps [])(kf:Av0 sp W g)(hc:X.calm=true)(hm:X.mg "sorted" = none)(hf:X.mg kn=some (.ref f))(he:PE X e te)(hg:Gl X "sorted":=by rfl)(hg2:Gl X kn:=by rfl)(hd2:(kn==("__debug__" : Str))=false:=by decide)
 (hs:afI pos (abL [e] X.env)=(false,eval e X.env)::afI pos (abL [] X.env):=by rfl) (hs2:abL [e] X.env=(false,eval e X.env)::abL [] X.env:=by rfl) (hpl:(afI pos (abL [e] X.env)).any (·.1)=false:=by rfl) :
 PE X (.Call (.Name "sorted" p) [e] [⟨some "key",.Name kn p2,kpos⟩] pos) (Az7 W g te):=by
 intro p_ s σ H Q I h;refine Ak8 hm hf he I hg hg2 hd2 h hs hs2 hpl fun s1 H1 v u I1 ru ⟨r,kvs,E,ev,hd,hk,hE,lE,q⟩=>?_;subst ev;obtain rfl:u=aaR r:=ru;obtain⟨hz,lo,ys,pr,o,es,ep,ho,hx,hdt,he2,_⟩ : ObjOk X.prog X.w H1 s1.heap r (.dT kvs):=I1.hok _ _ hd;obtain⟨L,l1,l2,kL⟩:=Ay8 pr hk fun e he=>(hE e he).1;have mE:∀p,p∈L->p.2∈E:=fun p hp=>by rw[<-l2];exact aaN.2 ⟨p,hp,rfl⟩
 have lL:L.length=E.length:=by rw[<-l2,aaA]
 have lK:kvs.length=E.length:=by have:=congrArg afK hk;rw[aaA,aaA]at this;exact this
 have esz:es.size=L.length:=by
  have a:=congrArg afK l1;rw[aaA,aaA]at a;rw[size_of_entries he2];lia
 refine Ahx F hr hb kf hc I1 kL (fun p hp=>(hE _ (mE p hp)).2) (by lia) (fun {A R E} hh hR=>?_) fun H' q' l sm hq hq' pl so=>q H' q' l sm hq hq' (fun p hp=>kL p (pl.mem_iff.mp hp)) (by rw[<-l2];exact pl.map _) so;refine Ah3 (Amv (es:=es) (ep:=ep) lo) hh ⟨o,ho,hx,hdt⟩ (by rw[esz,lL,<-lK];exact hz) fun h' tk acc hk1 ha le=>?_;have ea:acc.toList=rfs L:=by
  refine List.ext_getElem? fun i=>?_;rw[afU,aaH]
  by_cases hi:i<es.size
  ·obtain⟨v,hv⟩ : ∃v,acc[i]?=some v:=⟨acc[i]'(by rw[ha.1];exact hi),by simp[ha.1,hi]⟩
   obtain⟨en,hen,rfl⟩:=ha.2 i v hv;rw[entry_at he2]at hen;cases hy:ys[i]? with
   | none=>rw[hy]at hen;cases hen
   | some y =>
    rw[hy]at hen;cases hen;have e3:(L.map (·.1))[i]?=some y.2.1:=by rw[l1,aaH,hy];rfl
    rw[aaH]at e3;cases hl:L[i]? with
    | none=>rw[hl]at e3;cases e3
    | some p =>
     rw[hl]at e3;rw[hv];show some (aaR y.2.1)=some (aaR p.1);rw[show p.1=y.2.1 from abD e3]
  ·rw[aiY (by rw[ha.1];lia),ajG (by lia)];rfl
 rw[ea];exact hR h' tk hk1
end
end L2
end
section
set_option maxHeartbeats 4000000
namespace L2
open PySem PySem.Spec PyProof.Rows PyProof.Rows.G
section
variable {X:Cx}
theorem Ajt:Afb X (.builtin "sorted") (fun xs H Q=>∃(r:Addr) (L:List (Addr×List Int)),xs=[.ref r]/\H r=some (.lst (L.map fun p=>V.ref p.1))/\Abr H L/\L.length<=100000/\
 ∀(q:Addr) (l:List (Addr×List Int)),H q=none->l.Perm L->l.Pairwise (fun a b=>ltI b.2 a.2=false)->Q (.ref q) (upd H q (.lst (l.map fun p=>V.ref p.1)))):=by
 intro p_ s σ H xs us Q I r h;obtain⟨l,L,rfl,hl,kL,lL,q⟩:=h;obtain⟨u,rfl,rx⟩:=Ahd r;cases rx;have hz:L.length<=abB:=abI lL (by decide);have rl:(rfs L).length=L.length:=aaA _;obtain⟨_,its,n,rv,hg⟩ : ObjOk X.prog X.w H s.heap l (.lst (L.map fun p=>V.ref p.1)):=I.hok _ _ hl;have e3:=Aim rv;subst e3;obtain⟨hkey,fs,hts⟩:=Af2 I kL;refine sortedG (κ:=tupKindC s.heap Ahc) (kd:=tuples' true) (vs:=rfs L) ⟨_,hg,rfl,n,rfl⟩ (tupKeys fun v hv=>?_) (fun s2 k2=>tupC_ltAt true k2) (fun h2 A E s2 Q2 k2 hq=>tup_kind (by rw[amD hts,rl];lia) (TupsOf.keep k2 hts) hq) (by rw[rl];exact hz) fun st' a1 a2 _=>?_
 ·obtain⟨p,hp,rfl⟩:=aaN.mp hv;exact⟨_,hkey p hp⟩
 ·obtain⟨l',pl,el,pw⟩:=Amz hkey a1 a2;have hsz:((s.heap.push (adF "list" #[] 0)).update s.heap.objs.size (acZ (· ++ (rfs L).toArray))).objs.size=s.heap.objs.size+1:=by rw[Heap.size_update];exact acQ ..
  have hoL:(((s.heap.push (adF "list" #[] 0)).update s.heap.objs.size (acZ (· ++ (rfs L).toArray))).push (adF "list" (rfs L).toArray 0)).get? (s.heap.objs.size+1)=some (adF "list" (rfs L).toArray 0):=by rw[<-hsz];exact aaO _ rfl
  obtain⟨m,hm⟩:=G.sortedHeap_at (vs:=rfs L) (out:=(arrOf st').map (·.2)) hoL;have kp:∀b o,s.heap.get? b=some o->(sortedAll s.heap (rfs L) ((arrOf st').map (·.2))).get? b=some o:=fun b o e=>by
   have lt:=aaS e;refine G.sortedHeap_keeps b o (by lia) (aaD _ ?_);rw[ahS _ _ _ _ (acJ lt)];exact aaD _ e
  have ll:l'.length<=abB:=by rw[pl.length_eq];exact hz
  have new:ObjOk X.prog X.w (upd H (s.heap.objs.size+1) (.lst (l'.map fun p=>V.ref p.1))) (sortedAll s.heap (rfs L) ((arrOf st').map (·.2))) (s.heap.objs.size+1) (.lst (l'.map fun p=>V.ref p.1)):=by
   refine⟨by rw[aaA];exact ll,_,m,Ae7 l',?_⟩;show(sortedHeap _ _ _ _).get? _=_;rw[hm,<-el]
  exact⟨.ref (s.heap.objs.size+1),_,I.laid (t':=s.toks) kp (Nat.le_succ _) new,rfl,q _ l' (I.hok.fresh (Nat.le_succ _)) pl pw⟩
theorem Asa (hc:X.calm=true):Afb X (.builtin "min") (fun xs H Q=>∃(p:Addr) (i j:Int),xs=[.ref p]/\SqT X.K H p [.int i,.int j]/\Q (.int (if j<i then j else i)) H):=by
 intro p_ s σ H xs us Q I r h;obtain⟨p,i,j,rfl,hq,q⟩:=h;obtain⟨u,rfl,rx⟩:=Ahd r;cases rx;obtain⟨its,rv,pl,hz⟩:=I.tuple hq;cases rv with
 | cons r1 r2 =>
  cases r2 with
  | cons r2 r3 =>
   cases r3;obtain⟨t,rfl⟩:=r1;obtain⟨u,rfl⟩:=r2;have hT:s.heap.IsTuple p (intItems #[(i,t),(j,u)]):=by
    have:intItems #[(i,t),(j,u)]=[afM i t,afM j u].toArray:=by simp[intItems]
    rw[this];exact pl
   have lp:p<s.heap.objs.size:=let ⟨o,e,_⟩:=pl;aaS e;refine PySem.call_min_walk (wpAny_pyIter_tuple hT ?_);refine⟨_,[_,p],[_],_,_,_,_,rfl,Walks.tuple (A:=X.A.in1) (I.ok.hd hc) _ p (acJ lp) (intItems #[(i,t),(j,u)]),⟨⟨_,aaO _ rfl,rfl,rfl⟩,hT.push _⟩,fun c hc2=>?_,by simp[intItems],CmpOf.ints_lt (numAt #[(i,t),(j,u)]) (fun _ _=>intItems_at),fun v h' tk hP hk=>?_⟩
   ·show c<(s.heap.push _).objs.size;rw[acQ];rcases aaG.mp hc2 with rfl | hc2
    ·exact ahK _
    ·rcases aaG.mp hc2 with rfl | hc2
     ·exact ahA lp
     ·cases hc2
   ·have hold:∀c o,s.heap.get? c=some o->h'.get? c=some o:=fun c o e=>hk c o (fun hm=>by
     have:=aaS e;rw[abF.mp hm]at this
     exact absurd this (adZ _)) (aaD _ e)
    refine⟨_,H,I.kept hold,?_,q⟩;have hv:(intItems #[(i,t),(j,u)])[argBest (fun a b=>decide (numAt #[(i,t),(j,u)] a<numAt #[(i,t),(j,u)] b)) 1]?=some v:=by
     have sz2:(intItems #[(i,t),(j,u)]).size-1=1:=by simp[intItems]
     rw[<-sz2];exact hP
    have n0:numAt #[(i,t),(j,u)] 0=i:=rfl;have n1:numAt #[(i,t),(j,u)] 1=j:=rfl
    by_cases cj:j<i
    ·rw[ifp cj];simp[argBest,n0,n1,cj,intItems]at hv;exact⟨u,hv.symm⟩
    ·rw[ifn cj];simp[argBest,n0,n1,cj,intItems]at hv;exact⟨t,hv.symm⟩
theorem Asb (hc:X.calm=true):Afb X (.builtin "max") (fun xs H Q=>∃(p:Addr) (i j:Int),xs=[.ref p]/\SqT X.K H p [.int i,.int j]/\Q (.int (if j>i then j else i)) H):=by
 intro p_ s σ H xs us Q I r h;obtain⟨p,i,j,rfl,hq,q⟩:=h;obtain⟨u,rfl,rx⟩:=Ahd r;cases rx;obtain⟨its,rv,pl,hz⟩:=I.tuple hq;cases rv with
 | cons r1 r2 =>
  cases r2 with
  | cons r2 r3 =>
   cases r3;obtain⟨t,rfl⟩:=r1;obtain⟨u,rfl⟩:=r2;have hT:s.heap.IsTuple p (intItems #[(i,t),(j,u)]):=by
    have:intItems #[(i,t),(j,u)]=[afM i t,afM j u].toArray:=by simp[intItems]
    rw[this];exact pl
   have lp:p<s.heap.objs.size:=let ⟨o,e,_⟩:=pl;aaS e;refine PySem.call_max_walk (wpAny_pyIter_tuple hT ?_);refine⟨_,[_,p],[_],_,_,_,_,rfl,Walks.tuple (A:=X.A.in1) (I.ok.hd hc) _ p (acJ lp) (intItems #[(i,t),(j,u)]),⟨⟨_,aaO _ rfl,rfl,rfl⟩,hT.push _⟩,fun c hc2=>?_,by simp[intItems],CmpOf.ints_gt (numAt #[(i,t),(j,u)]) (fun _ _=>intItems_at),fun v h' tk hP hk=>?_⟩
   ·show c<(s.heap.push _).objs.size;rw[acQ];rcases aaG.mp hc2 with rfl | hc2
    ·exact ahK _
    ·rcases aaG.mp hc2 with rfl | hc2
     ·exact ahA lp
     ·cases hc2
   ·have hold:∀c o,s.heap.get? c=some o->h'.get? c=some o:=fun c o e=>hk c o (fun hm=>by
     have:=aaS e;rw[abF.mp hm]at this
     exact absurd this (adZ _)) (aaD _ e)
    refine⟨_,H,I.kept hold,?_,q⟩;have hv:(intItems #[(i,t),(j,u)])[argBest (fun a b=>decide (numAt #[(i,t),(j,u)] a>numAt #[(i,t),(j,u)] b)) 1]?=some v:=by
     have sz2:(intItems #[(i,t),(j,u)]).size-1=1:=by simp[intItems]
     rw[<-sz2];exact hP
    have n0:numAt #[(i,t),(j,u)] 0=i:=rfl;have n1:numAt #[(i,t),(j,u)] 1=j:=rfl
    by_cases cj:j>i
    ·rw[ifp cj];simp[argBest,n0,n1,cj,intItems]at hv;exact⟨u,hv.symm⟩
    ·rw[ifn cj];simp[argBest,n0,n1,cj,intItems]at hv;exact⟨t,hv.symm⟩
end
end L2
end
section
set_option maxHeartbeats 4000000
namespace Gs
open PySem PyProof.Rows
section
variable {prog:abS}{w:adI}{A:adE}{E:aaF->aaI->Prop}{s:aaI}
theorem Ar5 {it t:Addr}{i:Nat}{xs:Array aaF}{x:aaF}{Q:aaF->aaI->Prop}(hi:s.heap.IsTupleIter it t i)(ht:s.heap.IsTuple t xs)(hx:xs[i]?=some x)(q:∀h',h'.IsTupleIter it t (i+1)->aiA it s.heap h'->Q x { s with heap:=h' }) :
 abM (model prog w) A (adH (.ref it)) Q E s:=by
 obtain⟨ob,hob,cb,db⟩:=id hi;obtain⟨ot,hot,_,nt,dt⟩:=ht;unfold adH;refine aaC (wpAny_callSpecial?_slot (name:=aaY "__next__") hi.typeIs aeQ (wpAny_call_entry aeQ hi.typeIs ajQ ?_ (ajL _)));show abM _ _ (field (.ref it) 0 >>= _) _ _ s;refine aaC (wpAny_field hob db (x:=.ref t) rfl ?_)
 show abM _ _ (if (aaR t==afE)=true then _ else _) _ _ s;rw[ifn (fun z:(aaR t==afE)=true=>abU (show false=true from z))];show abM _ _ (field (.ref it) 1 >>= _) _ _ s;refine aaC (wpAny_field hob db (x:=.int i 0) rfl ?_);show abM _ _ (seqItems? (.ref t) >>= _) _ _ s;refine aaC (wpAny_seqItems hot dt ?_);simp only[afH,hx];exact aaC (wpAny_setField hob db (by simp) (aaL ⟨x,rfl,aaL (q _ ⟨_,anL _ hob (anT (aiB db _)),(Obj.cls_mapFields ..).trans cb,by rw[aiB db];simp[rawInt]⟩ (adU ..))⟩))
theorem Baq {it t:Addr}{i:Nat}{xs:Array aaF}{Q:aaF->aaI->Prop}(hh:A.handled=none)(hi:s.heap.IsTupleIter it t i)(ht:s.heap.IsTuple t xs)(hx:xs[i]?=none)(q:∀h' e,alO it s.heap h'->(∃o,h'.get? e=some o/\o.cls=.type "StopIteration")->E (.ref e) { s with heap:=h' }) :
 abM (model prog w) A (adH (.ref it)) Q E s:=by
 obtain⟨ob,hob,cb,db⟩:=id hi;obtain⟨ot,hot,_,nt,dt⟩:=ht;unfold adH;refine aaC (wpAny_callSpecial?_slot (name:=aaY "__next__") hi.typeIs aeQ (wpAny_call_entry aeQ hi.typeIs ajQ ?_ (ajL _)));show abM _ _ (field (.ref it) 0 >>= _) _ _ s;refine aaC (wpAny_field hob db (x:=.ref t) rfl ?_)
 show abM _ _ (if (aaR t==afE)=true then _ else _) _ _ s;rw[ifn (fun z:(aaR t==afE)=true=>abU (show false=true from z))];show abM _ _ (field (.ref it) 1 >>= _) _ _ s;refine aaC (wpAny_field hob db (x:=.int i 0) rfl ?_);show abM _ _ (seqItems? (.ref t) >>= _) _ _ s;refine aaC (wpAny_seqItems hot dt ?_);simp only[afH,hx];refine aaC (wpAny_rule (aaC (wpAny_setField hob db (by simp) ?_)))
 show abM _ _ (newExc (.type "StopIteration") [] >>= _) _ _ _;refine aaC ?_;simp only[newExc,newTuple];refine aaC (wpAny_newObj_type ?_ (by size_fits));refine aaC (m:=firstArgMember _ _) (wpAny_of_eq (a:=afE) (by first | rfl | (simp only[firstArgMember];rfl)) ?_);refine wpAny_newObj_type ?_ (by size_fits);simp only[raiseNew];refine aaC (wpAny_handled ?_)
 first | rw[show A.in1.handled=none from hh] | rw[hh]
 refine aaC (aaL (wpAny_throw (q _ _ (((adU ..).extBut.push _).push _) ⟨_,aaO _ rfl,rfl⟩)))
theorem Acr {h h':Heap}{a t:Addr}{i:Nat}{it:Addr}(x:h.IsTupleIter it t i)(e:alO a h h')(n:it≠a):h'.IsTupleIter it t i:=x.at fun o q=>e it o n q
theorem Ad2 {h h':Heap}{a t:Addr}{xs:Array aaF}(x:h.IsTuple t xs)(e:alO a h h')(n:t≠a):h'.IsTuple t xs:=x.at fun o q=>e t o n q
theorem Aw3 {z TI TO i1 i2 l1 l2:Addr}{k:Nat}{xs ys:Array aaF}{x y a b:aaF}{Q:Option aaF->aaI->Prop}(D:ZipApart z TI TO i1 i2 l1 l2)(hz:IsZip s.heap z TI TO .none)(pI:IsPair s.heap TI (.ref i1) (.ref i2))(pO:IsPair s.heap TO a b)
 (n1:s.heap.IsTupleIter i1 l1 k) (n2:s.heap.IsTupleIter i2 l2 k) (t1:s.heap.IsTuple l1 xs) (t2:s.heap.IsTuple l2 ys) (hx:xs[k]?=some x) (hy:ys[k]?=some y)
 (q:∀h',IsZip h' z TI TO (rawInt s.heap.objs.size)->IsPair h' TO x y->h'.IsTupleIter i1 l1 (k+1)->h'.IsTupleIter i2 l2 (k+1)->IsPair h' s.heap.objs.size x y->h'.objs.size=s.heap.objs.size+1->(∀c o,c≠z->c≠TO->c≠i1->c≠i2->s.heap.get? c=some o->h'.get? c=some o)->Q (some (.ref s.heap.objs.size)) { s with heap:=h' }) :
 abM (model prog w) A (pyNext (.ref z)) Q E s:=by
 have hT:s.TypeIs (.ref z) "zip":=⟨_,hz,rfl⟩
 unfold pyNext;refine aaC (wpAny_attempt (wpAny_callSpecial?_slot (name:=aaY "__next__") hT agW (wpAny_call_entry agW hT amF ?_ (alW _))));show abM _ _ (field (.ref z) 2 >>= _) _ _ _;refine aaC (wpAny_field hz rfl (x:=.bool false) rfl ?_);show abM _ _ (field (.ref z) 3 >>= _) _ _ _;refine aaC (wpAny_field hz rfl (x:=.ref TI) rfl (aaC (wpAny_seqItems pI rfl ?_)))
 show abM _ _ (adY (.ref z) >>= _) _ _ _;refine aaC ?_;unfold adY;refine aaC (wpAny_field hz rfl (x:=.none) rfl (aaL ?_));simp only[if_true];refine aaC (wpAny_rule (aaC (wpAny_field hz rfl (x:=.ref TO) rfl (aaC (wpAny_setField_rec hz (by simp) fun g1 z1 s1=>?_)))))
 replace z1:IsZip g1 z TI TO .ellipsis:=z1
 refine aaC ?_;simp only[List.zipIdx_cons,List.zipIdx_nil,alM,ajR];refine aaC (aaC (wpAny_onRaise ?_));show abM _ _ (adH (.ref i1) >>= _) _ _ _;refine aaC (Ar5 (Acr n1 s1.extBut D.i1z) (Ad2 t1 s1.extBut D.l1z) hx fun g2 m1 s2=>aaL ?_);have o2:IsPair g2 TO a b:=s2.extBut _ _ D.TOi1 (s1.extBut _ _ D.TOz pO)
 refine aaC (wpAny_seqItems o2 rfl (aaC (wpAny_updateSeq_pair o2 fun g3 o3 s3=>?_)))
 replace o3:IsPair g3 TO x b:=o3
 refine aaC (wpAny_letGo (aaL ?_));refine aaC (aaC (wpAny_onRaise ?_));show abM _ _ (adH (.ref i2) >>= _) _ _ _;refine aaC (Ar5 (Acr (Acr (Acr n2 s1.extBut D.i2z) s2.extBut D.i12.symm) s3.extBut D.TOi2.symm) (Ad2 (Ad2 (Ad2 t2 s1.extBut D.l2z) s2.extBut D.l2i1) s3.extBut D.l2TO) hy fun g4 m2 s4=>aaL ?_)
 have o4:IsPair g4 TO x b:=s4.extBut _ _ D.TOi2 o3;refine aaC (wpAny_seqItems o4 rfl (aaC (wpAny_updateSeq_pair o4 fun g5 o5 s5=>?_)))
 replace o5:IsPair g5 TO x y:=o5
 refine aaC (wpAny_letGo (aaL (aaL ?_)));refine aaC (wpAny_seqItems o5 rfl (aaC (wpAny_newTuple ?_)));have sz:g5.objs.size=s.heap.objs.size:=by rw[s5.1,s4.1,s3.1,s2.1,s1.1]
 have z5:IsZip g5 z TI TO .ellipsis:=s5.extBut _ _ D.TOz.symm (s4.extBut _ _ D.i2z.symm (s3.extBut _ _ D.TOz.symm (s2.extBut _ _ D.i1z.symm z1)));have k5:∀c o,c≠z->c≠TO->c≠i1->c≠i2->s.heap.get? c=some o->g5.get? c=some o:=fun c o c1 c2 c3 c4 e=>s5.extBut _ _ c2 (s4.extBut _ _ c4 (s3.extBut _ _ c2 (s2.extBut _ _ c3 (s1.extBut _ _ c1 e))));have m15:=Acr (Acr (Acr m1 s3.extBut D.TOi1.symm) s4.extBut D.i12) s5.extBut D.TOi1.symm
 have m25:=Acr m2 s5.extBut D.TOi2.symm;have lz:z<g5.objs.size:=aaS z5;show abM _ _ (ahW (.ref z) (.ref g5.objs.size) >>= _) _ _ _;refine aaC ?_;unfold ahW;have z6:IsZip (g5.push { cls:=.type "tuple",data:=.seq #[x,y] }) z TI TO .ellipsis:=aaD _ z5;refine aaC (wpAny_setField_rec z6 (by simp) fun g7 z7 s7=>?_)
 replace z7:IsZip g7 z TI TO (rawInt g5.objs.size):=z7
 refine wpAny_setField_rec z7 (by simp) fun g8 z8 s8=>?_
 replace z8:IsZip g8 z TI TO (rawInt g5.objs.size):=z8
 have up:∀c o,c≠z->g5.get? c=some o->g8.get? c=some o:=fun c o c1 e=>s8.extBut _ _ c1 (s7.extBut _ _ c1 (aaD _ e));have p8:IsPair g8 g5.objs.size x y:=s8.extBut _ _ (ahF lz) (s7.extBut _ _ (ahF lz) (aaO _ rfl));have e8:g8.objs.size=g5.objs.size+1:=by rw[s8.1,s7.1,acQ]
 rw[sz]at z8 p8 e8;refine aaL ⟨_,rfl,aaL ?_⟩;show Q (some (.ref g5.objs.size)) _;rw[sz];exact q g8 z8 (up _ _ D.TOz o5) (m15.at fun o e=>up _ o D.i1z e) (m25.at fun o e=>up _ o D.i2z e) p8 e8 fun c o c1 c2 c3 c4 e=>up c o c1 (k5 c o c1 c2 c3 c4 e)
theorem Ayx {z TI TO i1 i2 l1 l2:Addr}{k:Nat}{xs:Array aaF}{a b:aaF}{Q:Option aaF->aaI->Prop}(hh:A.handled=none)(D:ZipApart z TI TO i1 i2 l1 l2)(hz:IsZip s.heap z TI TO .none)(pI:IsPair s.heap TI (.ref i1) (.ref i2))(pO:IsPair s.heap TO a b)
 (n1:s.heap.IsTupleIter i1 l1 k) (t1:s.heap.IsTuple l1 xs) (hx:xs[k]?=none) (q:∀h',(∀c o,c≠z->c≠TO->c≠i1->c≠i2->s.heap.get? c=some o->h'.get? c=some o)->Q none { s with heap:=h' }) :
 abM (model prog w) A (pyNext (.ref z)) Q E s:=by
 have hT:s.TypeIs (.ref z) "zip":=⟨_,hz,rfl⟩
 unfold pyNext;refine aaC (wpAny_attempt (wpAny_callSpecial?_slot (name:=aaY "__next__") hT agW (wpAny_call_entry agW hT amF ?_ (alW _))));show abM _ _ (field (.ref z) 2 >>= _) _ _ _;refine aaC (wpAny_field hz rfl (x:=.bool false) rfl ?_);show abM _ _ (field (.ref z) 3 >>= _) _ _ _;refine aaC (wpAny_field hz rfl (x:=.ref TI) rfl (aaC (wpAny_seqItems pI rfl ?_)))
 show abM _ _ (adY (.ref z) >>= _) _ _ _;refine aaC ?_;unfold adY;refine aaC (wpAny_field hz rfl (x:=.none) rfl (aaL ?_));simp only[if_true];refine aaC (wpAny_rule (aaC (wpAny_field hz rfl (x:=.ref TO) rfl (aaC (wpAny_setField_rec hz (by simp) fun g1 z1 s1=>?_)))))
 replace z1:IsZip g1 z TI TO .ellipsis:=z1
 refine aaC ?_;simp only[List.zipIdx_cons,List.zipIdx_nil,alM,ajR];refine aaC (aaC (wpAny_onRaise ?_));show abM _ _ (adH (.ref i1) >>= _) _ _ _;refine aaC (Baq hh (Acr n1 s1.extBut D.i1z) (Ad2 t1 s1.extBut D.l1z) hx fun g2 e s2 he=>?_);obtain⟨oe,hoe,ce⟩:=he;have z2:IsZip g2 z TI TO .ellipsis:=s2 _ _ D.i1z.symm z1
 have ez:e≠z:=fun x=>by subst x;rw[z2]at hoe;cases hoe;simp at ce
 refine wpAny_setField_rec z2 (by simp) fun g3 _ s3=>?_;refine aaC (wpAny_isInstance (T:="StopIteration") (b:=true) ⟨oe,s3.extBut _ _ ez hoe,ce⟩ isSubtype_stop ?_);exact aaL (q _ fun c o c1 _ c3 _ x=>s3.extBut _ _ c1 (s2 _ _ c3 (s1.extBut _ _ c1 x)))
end
abbrev zp1 (h:Heap)(l1:Addr):Heap:=h.push { cls:=.type "tuple_iterator",data:=.fields #[.ref l1,.int 0 0] }
abbrev zp2 (h:Heap)(l1 l2:Addr):Heap:=(zp1 h l1).push { cls:=.type "tuple_iterator",data:=.fields #[.ref l2,.int 0 0] }
abbrev zp3 (h:Heap)(l1 l2:Addr):Heap:=(zp2 h l1 l2).push { cls:=.type "tuple",data:=.seq #[.ref h.objs.size,.ref (zp1 h l1).objs.size] }
abbrev zp4 (h:Heap)(l1 l2:Addr):Heap:=(zp3 h l1 l2).push { cls:=.type "tuple",data:=.seq #[.none,.none] }
abbrev zp5 (h:Heap)(l1 l2:Addr):Heap:=(zp4 h l1 l2).push { cls:=.type "zip",data:=.fields #[.none,.bool false,.bool false,.ref (zp2 h l1 l2).objs.size,.ref (zp3 h l1 l2).objs.size] }
theorem Ayw (l1 l2:Addr)(xs ys:Array aaF):Meets (Builtin.«zip.__new__» ⟨[.type "zip",.ref l1,.ref l2],[]⟩) (fun _ R s=>s.heap.IsTuple l1 xs/\s.heap.IsTuple l2 ys/\R (.ok (.ret (.ref (zp4 s.heap l1 l2).objs.size))) { s with heap:=zp5 s.heap l1 l2 }) :=
 .of_wp fun prog w A R s h=>by
  obtain⟨hp,gn,dn,tn,on⟩:=s;obtain⟨a1,a2,h⟩:=h;have su:=sub_zip;have b1:Heap.IsTuple (Shared.heap ⟨hp,gn,dn,tn,on⟩) l1 xs:=a1;have b2:Heap.IsTuple (Shared.heap ⟨hp.push { cls:=.type "tuple_iterator",data:=.fields #[.ref l1,.int 0 0] },gn,dn,tn,on⟩) l2 ys:=Heap.IsTuple.push a2 _
  wp_walk using wpAny_pyIter_tuple b1,wpAny_pyIter_tuple b2
  exact⟨_,rfl,h⟩
section
variable {prog:abS}{w:adI}{A:adE}{E:aaF->aaI->Prop}{s:aaI}
theorem Ayc {l1 l2:Addr}{xs ys:Array aaF}{Q:aaF->aaI->Prop}(a1:s.heap.IsTuple l1 xs)(a2:s.heap.IsTuple l2 ys)
 (h:∀h',IsZip h' (s.heap.objs.size+4) (s.heap.objs.size+2) (s.heap.objs.size+3) .none->IsPair h' (s.heap.objs.size+2) (.ref s.heap.objs.size) (.ref (s.heap.objs.size+1))->IsPair h' (s.heap.objs.size+3) .none .none->h'.IsTupleIter s.heap.objs.size l1 0->h'.IsTupleIter (s.heap.objs.size+1) l2 0->
  (∀c o,s.heap.get? c=some o->h'.get? c=some o)->Q (.ref (s.heap.objs.size+4)) { s with heap:=h' }) :
 abM (model prog w) A (call (.type "zip") [.ref l1,.ref l2]) Q E s:=by
 refine callType_new PySem.F.called_zip (by decide) (PySem.F.typeCall_zip_2 _ _) (PySem.F.newCall_zip_2 _ _) (fun obj=>PySem.F.args_object_init_3 obj _ _) PySem.F.entry_zip_new (Ayw l1 l2 xs ys) ⟨a1,a2,?_⟩;have e1:(zp1 s.heap l1).objs.size=s.heap.objs.size+1:=acQ ..;have e2:(zp2 s.heap l1 l2).objs.size=s.heap.objs.size+2:=by rw[acQ,e1]
 have e3:(zp3 s.heap l1 l2).objs.size=s.heap.objs.size+3:=by rw[acQ,e2]
 have e4:(zp4 s.heap l1 l2).objs.size=s.heap.objs.size+4:=by rw[acQ,e3]
 have g5:(zp5 s.heap l1 l2).get? (zp4 s.heap l1 l2).objs.size=some _:=aaO _ rfl;have g4:(zp5 s.heap l1 l2).get? (zp3 s.heap l1 l2).objs.size=some _:=aaD _ (aaO _ rfl);have g3:(zp5 s.heap l1 l2).get? (zp2 s.heap l1 l2).objs.size=some _:=aaD _ (aaD _ (aaO _ rfl));have g2:(zp5 s.heap l1 l2).get? (zp1 s.heap l1).objs.size=some _:=aaD _ (aaD _ (aaD _ (aaO _ rfl)))
 have g1:(zp5 s.heap l1 l2).get? s.heap.objs.size=some _:=aaD _ (aaD _ (aaD _ (aaD _ (aaO _ rfl))));show _/\_;rw[e2,e3,e4]at g5;rw[e1,e2]at g3;rw[e3]at g4;rw[e1]at g2;rw[e4];exact⟨⟨_,g5,rfl⟩,h _ g5 g3 g4 ⟨_,g1,rfl,rfl⟩ ⟨_,g2,rfl,rfl⟩ fun c o x=>aaD _ (aaD _ (aaD _ (aaD _ (aaD _ x))))⟩
end
end Gs
end
section
namespace L2
open PySem PySem.Spec PyProof.Rows Gs
def Bbm (K:abA)(a b:Addr):It :=
 ⟨fun i H=>∃(xs ys:List V) (x y:V),SqT K H a xs/\SqT K H b ys/\xs[i]?=some x/\ys[i]?=some y,
  fun i H v H'=>∃T x y,v=.ref T/\H T=none/\H'=upd H T (.tup [x,y])/\(∀xs,SqT K H a xs->xs[i]?=some x)/\∀ys,SqT K H b ys->ys[i]?=some y,
  fun i H=>∃xs:List V,SqT K H a xs/\xs.length<=i⟩
theorem Aph {P:abS}{w:adI}{K:abA}{elts:List adX}{kk:Nat}{tpos:Pos}{a b z TI TO i1 i2:Addr}(D:ZipApart z TI TO i1 i2 a b) :
 Ayt P w K (.Tuple elts kk tpos) (Bbm K a b) [z,TI,TO,i1,i2] z (fun i h=>IsZip h z TI TO .none/\IsPair h TI (.ref i1) (.ref i2)/\(∃x y,IsPair h TO x y)/\h.IsTupleIter i1 a i/\h.IsTupleIter i2 b i) where
 mem:=by simp
 obj:=fun i h st c hc=>by
  obtain⟨hz,hTI,⟨x,y,hTO⟩,⟨o1,e1,_,d1⟩,⟨o2,e2,_,d2⟩⟩:=st;have e':c=z\/c=TI\/c=TO\/c=i1\/c=i2:=by simpa using hc
  rcases e' with q | q | q | q | q
  ·rw[q];exact⟨_,hz,fun v q=>nomatch q⟩
  ·rw[q];exact⟨_,hTI,fun v q=>nomatch q⟩
  ·rw[q];exact⟨_,hTO,fun v q=>nomatch q⟩
  ·rw[q];exact⟨o1,e1,fun v q=>by rw[d1]at q;cases q⟩
  ·rw[q];exact⟨o2,e2,fun v q=>by rw[d2]at q;cases q⟩
 keep:=fun i h h' st k=>by
  obtain⟨hz,hTI,⟨x,y,hTO⟩,h1,h2⟩:=st;exact⟨k z (by simp) _ hz,k TI (by simp) _ hTI,⟨x,y,k TO (by simp) _ hTO⟩,h1.at fun o q=>k i1 (by simp) o q,h2.at fun o q=>k i2 (by simp) o q⟩
 item:=by
  intro X hP hw hK hc i p_ s σ H E I hf st hg;subst hP hw hK;obtain⟨hz,hTI,⟨x0,y0,hTO⟩,h1,h2⟩:=st;obtain⟨xs,ys,x,y,hqx,hqy,hx,hy⟩:=hg;obtain⟨its,rv,p,_⟩:=I.tuple hqx;obtain⟨its2,rv2,p2,_⟩:=I.tuple hqy;obtain⟨u,hu,ru⟩:=rv.get hx;obtain⟨u2,hu2,ru2⟩:=rv2.get hy;have hzl:z<s.heap.objs.size:=aaS hz;refine Aw3 D hz hTI hTO h1 h2 p p2 (x:=u) (y:=u2) (by simpa using hu) (by simpa using hu2) fun h' z' TO' h1' h2' hT hsz hk=>?_
  refine⟨_,rfl,wpAny_letOwnedTupleGo_zip (s:={ s with heap:=h' }) z' fun h'' z'' sb=>?_⟩;have hT2:h''.get? s.heap.objs.size=some { cls:=.type "tuple",data:=.seq #[u,u2] }:=(sb.2 _ (ahF hzl)).trans hT;have new:ObjOk X.prog X.w (upd H s.heap.objs.size (.tup [x,y])) h'' s.heap.objs.size (.tup [x,y]):=⟨by show 2<=abB;decide,[u,u2],.cons ru (.cons ru2 .nil),⟨_,hT2,rfl,_,rfl⟩⟩
  have I1:Inv X p_ σ (upd H s.heap.objs.size (.tup [x,y])) { s with heap:=h'' } :=
   I.turnedNew (t':=s.toks) (ch:=[z,TI,TO,i1,i2]) (fun c o hb q=>(sb.2 c (fun q'=>hb (by simp[q']))).trans (hk c o (fun q'=>hb (by simp[q'])) (fun q'=>hb (by simp[q'])) (fun q'=>hb (by simp[q'])) (fun q'=>hb (by simp[q'])) q)) hf (aaK _) new
  refine⟨.ref s.heap.objs.size,_,I1,rfl,⟨_,x,y,rfl,I.hok.fresh (aaK _),rfl,fun l hl=>by rw[I.tuple_inj hl hqx];exact hx,fun l hl=>by rw[I.tuple_inj hl hqy];exact hy⟩,⟨z'',?_,⟨u,u2,?_⟩,?_,?_⟩,fun c hcm=>?_⟩
  ·exact(sb.2 _ D.TIz).trans (hk _ _ D.TIz D.TITO D.TIi1 D.TIi2 hTI)
  ·exact(sb.2 _ D.TOz).trans TO'
  ·exact h1'.at fun o q=>(sb.2 _ D.i1z).trans q
  ·exact h2'.at fun o q=>(sb.2 _ D.i2z).trans q
  ·have hlt:c<s.heap.objs.size:=by
    have e':c=z\/c=TI\/c=TO\/c=i1\/c=i2:=by simpa using hcm
    rcases e' with q | q | q | q | q
    ·rw[q];exact hzl
    ·rw[q];exact aaS hTI
    ·rw[q];exact aaS hTO
    ·rw[q];obtain⟨_,e1,_⟩:=h1;exact aaS e1
    ·rw[q];obtain⟨_,e2,_⟩:=h2;exact aaS e2
   rw[Aa5 (acJ hlt)];exact(hf c hcm).1
 done:=by
  intro X hP hw hK hc i p_ s σ H E I hf st hg;subst hP hw hK;obtain⟨hz,hTI,⟨x0,y0,hTO⟩,h1,h2⟩:=st;obtain⟨xs,hqx,hend⟩:=hg;obtain⟨its,rv,p,_⟩:=I.tuple hqx;have l1:=rv.length
  exact Ayx (I.ok.hd hc) D hz hTI hTO h1 p (by simp;lia) fun h' hk=>⟨rfl,I.turnedL (t':=s.toks) (ch:=[z,TI,TO,i1,i2]) (fun c o hb q =>
   hk c o (fun q'=>hb (by simp[q'])) (fun q'=>hb (by simp[q'])) (fun q'=>hb (by simp[q'])) (fun q'=>hb (by simp[q'])) q) hf⟩
 self:=fun A i s Q E st h=>wpAny_pyIter_zip st.1 h
def Bd2 (K:abA)(ta:TA):TI:=fun σ H R=>ta σ H fun vs H1=>∃a b xs ys,vs=[.ref a,.ref b]/\SqT K H1 a xs/\SqT K H1 b ys/\R (Bbm K a b) H1
theorem Aqq {X:Cx}{e e2:adX}{ta:TA}{p pos tpos:Pos}{elts:List adX}{kk:Nat}(hg:Gl X "zip")(hm:X.mg "zip" = none)(ha:PA X [e,e2] ta)
 (hs:abL [e,e2] X.env=(false,eval e X.env)::abL [e2] X.env:=by rfl) (hpl:(afI pos (abL [e2] X.env)).any (·.1)=false:=by rfl) :
 PI X (.Tuple elts kk tpos) (.Call (.Name "zip" p) [e,e2] [] pos) (Bd2 X.K ta):=by
 intro p_ s σ H R I h;refine Call_ (Agk I hg hm Asd (aeH (thn (ha pos p_ s σ H _ I h) fun us s1 ⟨vs,H1,I1,r1,q1⟩=>?_) hs hpl));obtain⟨a,b,xs,ys,ex,hqx,hqy,q⟩:=q1;subst ex;cases r1 with
 | cons r rr =>
  cases rr with
  | cons r' rr =>
   cases rr;cases r;cases r';obtain⟨its,rv,p1,_⟩:=I1.tuple hqx;obtain⟨its2,rv2,p2,_⟩:=I1.tuple hqy;have la:a<s1.heap.objs.size:=p1.lt;have lb:b<s1.heap.objs.size:=p2.lt;refine Ayc p1 p2 fun h' hz hTI hTO h1 h2 hk=>wpAny_pyIter_zip hz ?_;have I2:Inv X p_ σ H1 { s1 with heap:=h' }:=I1.kept (t':=s1.toks) hk;refine⟨s1.heap.objs.size+4,[s1.heap.objs.size+4,s1.heap.objs.size+2,s1.heap.objs.size+3,s1.heap.objs.size,s1.heap.objs.size+1],_,_,H1,rfl,I2,Aph (W.ktu_apart s1.heap.objs.size a b la lb),⟨hz,hTI,⟨_,_,hTO⟩,h1,h2⟩,fun c hcm=>?_,q⟩
   have hle:s1.heap.objs.size<=c:=by
    have e':c=s1.heap.objs.size+4\/c=s1.heap.objs.size+2\/c=s1.heap.objs.size+3\/c=s1.heap.objs.size\/c=s1.heap.objs.size+1:=by simpa using hcm
    lia
   exact I1.fpOk hle (I1.hok.fresh hle)
theorem Anp {K:abA}{a b:Addr}{xs ys:List V}{g:TG}{tb:TS}{D:Asm}{σ:St}{H:Hp}(Pv:Nat->St->Hp->Prop)(h0:Pv 0 σ H)(ll:xs.length=ys.length)(hl:∀i σ H,i<=xs.length->Pv i σ H->SqT K H a xs/\SqT K H b ys)
 (hs:∀i x y σ H t,xs[i]?=some x->ys[i]?=some y->Pv i σ H->H t=none->g (.ref t) σ (upd H t (.tup [x,y])) fun σ2 H2=>tb { D with nx:=Pv (i+1),ct:=Pv (i+1),bk:=D.nx } σ2 H2) (hd:∀σ H,Pv xs.length σ H->D.nx σ H) :
 ∃W:Nat->Nat->St->Hp->Prop,(∃m,W 0 m σ H)/\∀i m σ H,W i m σ H->
  ((Bbm K a b).stop i H/\D.nx σ H)\/((Bbm K a b).go i H/\∃N:St->Hp->Prop,(∀σ' H',N σ' H'->∃m',m'<m/\W (i+1) m' σ' H')/\∀x H',(Bbm K a b).yld i H x H'->g x σ H' fun σ2 H2=>tb { D with nx:=N,ct:=N,bk:=D.nx } σ2 H2):=by
 refine⟨fun i m σ H=>m=xs.length-i/\i<=xs.length/\Pv i σ H,⟨xs.length,by simp,abO _,h0⟩,?_⟩;rintro i m σ H ⟨rfl,hi,p⟩;obtain⟨q1,q2⟩:=hl i σ H hi p
 by_cases hlt:i<xs.length
 ·refine .inr ⟨⟨xs,ys,xs[i],ys[i]'(by lia),q1,q2,by simp[hlt],aaE _⟩,Pv (i+1),fun σ' H' p'=>⟨xs.length-(i+1),by lia,rfl,hlt,p'⟩,fun x H' y=>?_⟩;obtain⟨T,x1,y1,rfl,hT,rfl,e1,e2⟩:=y;exact hs i x1 y1 σ H T (e1 xs q1) (e2 ys q2) p hT
 ·have:i=xs.length:=by lia
  subst this;exact .inl ⟨⟨xs,q1,aaK _⟩,hd σ H p⟩
end L2
end
section
namespace L2
open PySem PySem.Spec PyProof.Rows
open PySem.W (WData Codec OpenSpec Well WellAll ReadsW ReadsAllW)
def Auz (Pt:Addr)(H:Hp):Prop:=H Pt=some (.tbl #[])/\∀b,b≠Pt->H b=none\/∃o u,H b=some (.frz o u)
theorem Ae9 {K:abA}{H H':Hp}{a:Addr}{xs:List V}(e:Same H H')(h:SqT K H a xs):SqT K H' a xs:=by
 rcases h with (h | ⟨o,h⟩) | h
 ·exact .inl (.inl (e _ _ h))
 ·exact .inl (.inr ⟨o,e _ _ h⟩)
 ·exact .inr h
mutual
theorem Dw.same {K:abA}{H H':Hp}(e:Same H H'):∀{v:V} {d:WData},Dw K H v d->Dw K H' v d
 | _,_,.non=>.non
 | _,_,.bl b=>.bl b
 | _,_,.int i=>.int i
 | _,_,.str x=>.str x
 | _,_,.byt b=>.byt b
 | _,_,.lst q r=>.lst (Same.seq e q) (DwAll.same e r)
 | _,_,.tup q r=>.tup (Ae9 e q) (DwAll.same e r)
theorem DwAll.same {K:abA}{H H':Hp}(e:Same H H'):∀{vs:List V} {ds:List WData},DwAll K H vs ds->DwAll K H' vs ds
 | _,_,.nil=>.nil
 | _,_,.cons a b=>.cons (Dw.same e a) (DwAll.same e b)
end
theorem Ao9 {P:abS}{w:adI}{K:abA}{mg mb:Str->Option aaF}{k:Nat}{fa:Addr}{fd:aaX}{ps:List Str}{sp:Sp}{s1:aaI}{vals:List aaF}{ds:List WData}{R:W.WRecords}{cl:Str->Option Addr}{d0:WData}{cT Pt:Addr}
 (KX:K.In s1.heap) (hns:s1.heap.Ns aaV mg) (hb:s1.heap.Ns akB mb) (hbb:∀x:Str,x≠"__name__"->mb x=ahN x) (hlim:s1.heap.NoLimit) (hg:s1.gens = #[]) (hT:ajT s1.heap cT Pt) (hP:s1.heap.get? Pt=some (W.tabObj #[])) (hPK:K.lookup Pt=none) (hbm:s1.heap.BuiltinsAt mg Pt)
 (hwl:WellAll w.params s1.heap vals ds) (hpl:Apb ds=true) (hwt:∀d∈ds,d.weight<=1048576) (hr:Room k callerA)
 (F:∀base:Heap,K.In base->base.Ns aaV mg->base.BuiltinsAt mg Pt->ajT base cT Pt->FnOk P w K mg base CX0 k fa fd ps sp) (hbind:∀(s:aaI) (us:List aaF),us.length=ps.length->BindsTo s fd ⟨us,[]⟩ (ps.zip us)) (hlen:ds.length=ps.length)
 (hsp:∀(H:Hp) (xs:List V),Auz Pt H->DwAll K H xs ds->sp xs H (fun v H'=>Dw K H' v d0) fun _ _ _=>False) :
 amZ (model P w) callerA (.call (.ref fa) ⟨vals,[]⟩) (fun r s'=>∃u as,r=.ok (.ret u)/\ReadsW R cl s'.heap u d0 as/\OldK s1.heap s'.heap/\s'.os=s1.os/\anI s'.gens) s1:=by
 obtain⟨A,ho,ar⟩:=Ag1 ds vals hwl hpl hwt;have hO0:Bbk (Ak0 K s1.heap A):=Asj ar;have hok0:HOk P w (Ak0 K s1.heap A) s1.heap:=Ayh ar;have hS0:=Ant KX ar ds vals hwl hpl ho;have hV:=Adk ho;have hK0:∀b u,Ak0 K s1.heap A b=some u->K.lookup b=none:=fun b u q=>(Ajw ar q).1;have sq:∀{b:Addr} {u:HO},Ak0 K s1.heap A b=some u->∃o:Obj,s1.heap.get? b=some o/\∃xs n,o.data=.seq xs n:=fun {b u} q=>by
  obtain⟨_,vs,_,_,⟨e2,_⟩ | ⟨e2,_⟩⟩:=Ajw ar q
  ·exact⟨_,e2,_,_,rfl⟩
  ·exact⟨_,e2,_,_,rfl⟩
 generalize Ak0 K s1.heap A=H0 at hO0 hok0 hS0 hK0 sq;have nP:H0 Pt=none:=by
  cases q:H0 Pt with
  | none=>rfl
  | some u =>
   obtain⟨o,e,xs,n,d⟩:=sq q;rw[hP]at e;cases e;cases d
 have sm:Same H0 (upd H0 Pt (.tbl #[])):=fun b o e=>by rw[Aa5 (Aa8 e nP)];exact e
 have hS:=DwAll.same sm hS0;have hok:HOk P w (upd H0 Pt (.tbl #[])) s1.heap:=fun b u e=>by
  by_cases z:b=Pt
  ·subst z;rw[Aa1]at e;cases e;exact hP
  ·rw[Aa5 z]at e;exact(hok0 b u e).stay (fun _ _ _ q=>q) (fun _ q=>sm _ _ q) fun _ _ q=>sm _ _ q
 have hO:Auz Pt (upd H0 Pt (.tbl #[])):=⟨Aa1,fun b z=>by rw[Aa5 z];exact hO0 b⟩
 have hK:∀b u,upd H0 Pt (.tbl #[]) b=some u->K.lookup b=none:=fun b u e=>by
  by_cases z:b=Pt
  ·subst z;exact hPK
  ·rw[Aa5 z]at e;exact hK0 b u e
 have noA:∀{b:Addr} {o:Obj},s1.heap.get? b=some o->(∀xs n,o.data≠.seq xs n)->o≠W.tabObj #[]->upd H0 Pt (.tbl #[]) b=none:=fun {b o} e d t=>by
  have z:b≠Pt:=fun z=>by subst z;rw[hP]at e;cases e;exact t rfl
  rw[Aa5 z];cases q:H0 b with
  | none=>rfl
  | some u =>
   obtain⟨o2,e2,xs,n,d2⟩:=sq q;rw[e]at e2;cases e2;exact absurd d2 (d xs n)
 generalize upd H0 Pt (.tbl #[])=H at hS hok hO hK noA;have base_of:∀{b:Addr} {o:Obj},s1.heap.get? b=some o->H b=none->(Ap0 s1.heap H).get? b=some o:=fun e n=>Ano e n;have nsK:∀{b:Addr} {m:Str->Option aaF},s1.heap.Ns b m->(Ap0 s1.heap H).Ns b m:=fun {b m} ⟨o,es,ep,e,d,r⟩=>⟨o,es,ep,base_of e (noA e (by rw[d];intro xs n z;cases z) (fun z=>by subst z;cases d)),d,r⟩
 have nK:∀b o,K.lookup b=some o->H b=none:=fun b o e=>by
  cases q:H b with
  | none=>rfl
  | some u=>rw[hK b u q]at e;cases e
 have hKb:K.In (Ap0 s1.heap H):=fun b o e=>base_of (KX b o e) (nK b o e);have hM:Mod K mg (Ap0 s1.heap H):=⟨hKb,nsK hns,⟨mb,nsK hb,hbb⟩,let ⟨mc,h1,h2⟩:=hlim;⟨mc,nsK h1,h2⟩⟩
 have hbB:(Ap0 s1.heap H).BuiltinsAt mg Pt:=by
  obtain⟨bm,ob,a1,a2,a3,a4,a5,a6,a7,a8⟩:=hbm;exact⟨bm,ob,a1,a2,a3,a4,base_of a5 (noA a5 (by rw[a8];intro xs n z;cases z) (fun z=>by subst z;cases a6)),a6,a7,a8⟩
 have hTB:ajT (Ap0 s1.heap H) cT Pt:=by
  obtain⟨o,vs,file,tf,flags,tg,inF,text,tt,e1,e2,e3,r⟩:=hT;exact⟨o,vs,file,tf,flags,tg,inF,text,tt,base_of e1 (noA e1 (by rw[e3];intro xs n z;cases z) (fun z=>by subst z;cases e2)),e2,e3,r⟩
 have e0:Env0 P w K mg (Ap0 s1.heap H) callerA [] s1 H:=⟨rfl,hM,fun b o e=>Ar2 e,aeL (Al0 _ _),trivial,fun b hb=>absurd (show b∈([]:List Addr)from hb) (by simp),hok,.of_eq hg⟩
 have hl:vals.length=ps.length:=by rw[Acp hwl];exact hlen
 refine agU ((F _ hKb (nsK hns) hbB hTB).run callerA [] s1 H ⟨vals,[]⟩ vals (vals.map toV) _ _ hr e0 (hbind s1 vals hl) hV (hsp H _ hO hS)) fun r s' x=>?_;cases r with
 | error e=>exact acM x
 | ok fl =>
  cases fl with
  | next=>exact acM x
  | brk=>exact acM x
  | cont=>exact acM x
  | ret u =>
   obtain⟨v,H',os,bare,un,hok',r',q⟩:=x;have kept:∀b o,b≠Pt->s1.heap.get? b=some o->s'.heap.get? b=some o:=fun b o nb e=>by
    cases q2:H b with
    | none=>exact un.keep b o e q2 (by intro z;exact absurd (show b∈([]:List Addr)from z) (by simp)) (by simp)
    | some u2 =>
     rcases hO.2 b nb with z | ⟨ob,u3,z⟩
     ·rw[q2]at z;cases z
     ·have z2:=un.frzs b ob _ z;obtain⟨e1,_⟩:=hok b _ z;obtain⟨e2,_⟩:=hok' b _ z2;rw[e]at e1;cases e1;exact e2
   have KX':K.In s'.heap:=fun b o e=>kept b o (fun z=>by subst z;rw[hPK]at e;cases e) (KX b o e);obtain⟨as,hrd⟩:=Dw.reads (R:=R) (cl:=cl) hok' KX' d0 v u q r';obtain⟨more,hm⟩:=un.tbls Pt #[] hO.1;have eP:s'.heap.get? Pt=some { cls:=.none,data:=.fields (#[]++more) }:=hok' Pt _ hm
   have old:OldK s1.heap s'.heap:=⟨fun b o e=>by
    by_cases z:b=Pt
    ·subst z;rw[hP]at e;cases e;exact .inr (.inl ⟨(hT.tab hP).isCodeTable,rfl,#[],more,rfl,eP⟩)
    ·exact .inl (kept b o z e),fun b o e=>by
    by_cases z:b=Pt
    ·subst z;exact⟨_,eP⟩
    ·exact⟨o,kept b o z e⟩⟩
   exact⟨u,as,rfl,hrd,old,os,bare⟩
theorem Ao3 {r:OpenSpec}{k:Nat}{q:abS}{loose:List Str}{XP:(Str->Option aaF)->Heap->Prop}{YP:adI->Heap->Prop}{d:DefRec}{K:Params->abA}{ps:List Str}{sp:abA->Sp}{x:Str}{dx:DefRec}{cT Pt:Addr}
 (hwell:r.wellSaid=true) (hdf:d.params.defaults=[]) (hlen:r.args.length=ps.length) (hr:Room k callerA) (hrec:(recsOf q).find? (fun e=>e.name==x)=some dx) (htab:∀P,W.tabIn (K P) x=some (cT,Pt)) (hPK:∀P,(K P).lookup Pt=none) (hne:aaV≠Pt)
 (hY:∀(w:adI) (h:Heap),YP w h->(K w.params).In h)
 (F:∀(w:adI) (mg:Str->Option aaF) (fa:Addr) (h:Heap),YP w h->(K w.params).In h->h.Ns aaV mg->mg d.name=some (.ref fa)->
  ∃fd:aaX,(∀(s:aaI) (us:List aaF),us.length=ps.length->BindsTo s fd ⟨us,[]⟩ (ps.zip us))/\
   ∀base:Heap,(K w.params).In base->base.Ns aaV mg->base.BuiltinsAt mg Pt->ajT base cT Pt->FnOk r.prog w (K w.params) mg base CX0 k fa fd ps (sp (K w.params)))
 (hsp:∀(K:abA) (H:Hp) (xs:List V) (a:alE r.args),Auz Pt H->Codec.withinAll r.args a=true->Codec.app r.args r.asked a=true->DwAll K H xs (ajD r.args a)->
  sp K xs H (fun v H'=>Dw K H' v (r.ret.enc (Codec.app r.args r.f a))) fun _ _ _=>False) :
 W.WalkOS q loose XP YP r d [] (fun f vs=>PySem.call f vs):=by
 intro w s_0 s1 mg mb G Y fa o pm cd doc dV kV ho hd hcd hD hmg hg args vals as hpre hlay hrd hwl hlo;obtain⟨a,e1,e2⟩:=W.os_pre_some hpre;obtain⟨e3,hwi⟩:=Codec.encAll_of_decAll r.args args a e1;subst e3;have KX:=hY w _ Y;obtain⟨fd,hb,hF⟩:=F w mg fa _ Y KX G.T.g hmg;obtain⟨tc,tp⟩:=W.tab_of G.T KX hrec (htab _);have hbm:s1.heap.BuiltinsAt mg Pt:=by
  obtain⟨bm,ob,b1,b2,b3,b4,b5,b6⟩:=G.T.bmain;refine⟨bm,ob,b1,b2,fun z=>?_,fun z=>?_,b3,b4,b5,b6⟩
  ·obtain⟨o2,es,ep,e,d2,_⟩:=G.T.g;rw[z,e]at b3;cases b3;rw[d2]at b6;cases b6
  ·rw[z,tp]at b3;cases b3;cases b4
 refine W.enter_call (agU (Ao9 (R:=[]) (cl:=classAt s_0.heap) (d0:=r.ret.enc (Codec.app r.args r.f a)) KX G.T.g G.T.b G.T.builtins G.T.nolimit hg tc tp (hPK _) hbm hwl (Akl _ _) (Ahi hlay) hr hF hb (by rw[Aif];exact hlen)
  (fun H xs hO hS=>hsp _ H xs a hO hwi e2 hS)) fun r' s' hq=>?_)
 obtain⟨u,as',rfl,h1,h2,h3,h4⟩:=hq;exact⟨.inl ⟨u,_,as',rfl,fun _=>rfl,h1,(OpenSpec.post_iff hwell hwi _ _).mpr rfl,fun z=>abU (show false=true from z)⟩,h2,h3,h4⟩
end L2
end
section
namespace Gc
open PySem
def top (i:Nat):afD:=PySem.Challenge.pw_glasscartoons_s08_turn.main.body.getD i (.Pass ⟨0,0,0,0⟩)
abbrev Ayr:Nat:=1
abbrev Auh:Nat:=2
abbrev Aug:Nat:=3
abbrev Asp:Nat:=4
abbrev Auf:Nat:=5
abbrev Aue:Nat:=6
abbrev Adp:Nat:=7
abbrev Akv:Nat:=8
abbrev Ajj:Nat:=9
abbrev Akt:Nat:=10
abbrev Aou:Nat:=11
abbrev Ajl:Nat:=12
abbrev Agn:Nat:=13
abbrev Ame:Nat:=14
abbrev Amc:Nat:=15
abbrev Afp:Nat:=16
abbrev Aoq:Nat:=18
abbrev Akx:Nat:=19
abbrev Ags:Nat:=20
abbrev Aub:Nat:=21
abbrev Au9:Nat:=22
abbrev Aow:Nat:=23
abbrev Ajh:Nat:=24
abbrev Aho:Nat:=25
abbrev Auc:Nat:=26
abbrev Am9:Nat:=28
abbrev Aku:Nat:=29
abbrev Afr:Nat:=30
abbrev Aua:Nat:=31
abbrev Af3:Nat:=32
abbrev Ama:Nat:=34
abbrev Aot:Nat:=35
abbrev Amb:Nat:=36
abbrev Aor:Nat:=37
abbrev Agm:Nat:=38
abbrev Axv:Nat:=39
abbrev Ajk:Nat:=40
abbrev Ahk:Nat:=41
abbrev Akw:Nat:=42
abbrev Aud:Nat:=44
abbrev Arh:Nat:=45
abbrev Aox:Nat:=46
abbrev Ahn:Nat:=47
abbrev Ahp:Nat:=48
abbrev Ago:Nat:=49
abbrev Ahj:Nat:=50
abbrev Ajg:Nat:=51
abbrev Amd:Nat:=52
abbrev Aji:Nat:=53
abbrev Agp:Nat:=54
abbrev Adg:Nat:=55
abbrev Agr:Nat:=56
abbrev Ahl:Nat:=57
abbrev Afs:Nat:=58
abbrev Afq:Nat:=59
abbrev Aen:Nat:=60
abbrev Ajf:Nat:=61
abbrev Apc:Nat:=62
abbrev Af4:Nat:=63
abbrev Aos:Nat:=64
abbrev Ahm:Nat:=65
abbrev Aov:Nat:=66
abbrev Am8:Nat:=68
abbrev Agq:Nat:=69
abbrev Axw:Nat:=70
end Gc
end
section
namespace Gc
open PySem PySem.Spec PyProof.Rows L2
open Gla (Pt Plan Mark)
structure Def (K:abA)(mg:Str->Option aaF)(x:Str)(st:afD)(ps:List Str)(f:Addr)(fd:aaX):Prop where
 fn:Fun K x x st f fd
 mgf:mg x=some (.ref f)
 b:Binds K fd ps []
theorem Def.go {P:abS}{w:adI}{K:abA}{mg:Str->Option aaF}{base:Heap}{x:Str}{st:afD}{f:Addr}{fd:aaX}{N ps:List Str}{k:Nat}{sp:Sp}(F:Def K mg x st ps f fd)(S:Aaa N ps (Aa6 st))
 (hbody:∀(cdv:aaF) (A:adE) (outer:List Env) (s:aaI) (H:Hp) (vs:List V) (Q:VK) (E:XK),Room k (A.deeper (envOfC x (Aa6 st) s.heap.objs.size f cdv))->sp vs H Q E->
  ∃t,PSs (Avw CX0 P w K mg base N x (Aa6 st) f cdv A outer s H E).nox (Abp st) t/\t { nx:=fun _ H'=>Q .non H',rt:=Q } (start N vs) H)
 (len:∀vs H Q E,sp vs H Q E->vs.length=ps.length:=by intro _ _ _ _ h;repeat (first | (obtain⟨rfl,_⟩:=h;rfl;done) | obtain⟨_,h⟩:=h)):FnOk P w K mg base CX0 (k+1) f fd ps sp:=F.fn.ok S len hbody
theorem fsc {N P:List Str}{sc:Scope}(a:sc.kind=.function:=by rfl)(b:sc.isCoroutine=false:=by rfl)(c:sc.isGenerator=false:=by rfl)(d:N.Nodup:=by decide +kernel)(e:N.take P.length=P:=by rfl)
 (f:∀x∈P,sc.names.lookup x=some .local \/sc.names.lookup x=some .cell:=by decide +kernel) (g:∀y∈sc.names,y.2≠.free:=by decide +kernel):Aaa N P sc:=⟨a,b,c,d,e,f,g⟩
theorem sz1:1<=abB:=by decide
theorem sz2:2<=abB:=by decide
theorem sz3:3<=abB:=by decide
theorem sz4:4<=abB:=by decide
section
variable {X:Cx}{x:Str}{e o:adX}{es:List adX}{te to:TE}{t:TA}{pos pos' apos:Pos}{k:Nat}{f:Addr}{fd:aaX}{ps:List Str}{sp:Sp}{st:afD}
theorem pS (i:Nat)(hN:X.N.Nodup)(he:PE X e te)(hi:X.N[i]?=some x:=by rfl)(hx:Loc X.env.scope x:=by exact akZ rfl)(hs:ajB e (some (.Name x pos')) pos.line X.env=pure false:=by rfl)(hf:X.fn x=true\/X.env.scope.names.lookup x=some .local:=by first | exact .inl rfl | exact .inr rfl | assumption) :
 PS X (.Assign [.Name x pos'] e pos) (Bc5 te (Ahq i)):=Ave hN hi hx he hs hf
theorem pG (i:Nat)(hN:X.N.Nodup)(hi:X.N[i]?=some x:=by rfl)(hx:Loc X.env.scope x:=by exact akZ rfl)(hf:X.fn x=true\/X.env.scope.names.lookup x=some .local:=by first | exact .inl rfl | exact .inr rfl | assumption):PG X (.Name x pos) (Ahq i):=Alv hN hi hx hf
theorem pIT {a b:adX}{ta tb:TE}(ha:PE X a ta)(hb:PE X b tb)(hs:Amq b:=by exact fun _ _=>rfl):PE X (.Subscript a b pos) (tOp (Aqf X.K) ta tb):=Ba2 Bb5 ha hb hs
theorem pIL {a b:adX}{ta tb:TE}(ha:PE X a ta)(hb:PE X b tb)(hs:Amq b:=by exact fun _ _=>rfl):PE X (.Subscript a b pos) (tOp (Ayo X.K) ta tb):=Ba2 Axx ha hb hs
theorem pCD (F:Def X.K X.mg x st ps f fd)(G:FnOk X.prog X.w X.K X.mg X.base CX0 k f fd ps sp)(hr:Room k X.A)(ha:PA X (e::es) t)(hg:Gl X x:=by rfl)(hdb:(x==("__debug__" : Str))=false:=by decide)(he:abL (e::es) X.env=(false,eval e X.env)::abL es X.env:=by rfl)(hpl:(afI pos (abL es X.env)).any (·.1)=false:=by rfl) :
 PE X (.Call (.Name x pos') (e::es) [] pos) (Aiq sp [] E0 t):=Aly G hr hg F.mgf F.fn.kp F.b .nil Abm ha hdb he hpl
end
theorem Same.tup {K:abA}{H H':Hp}{a:Addr}{xs:List V}(e:Same H H')(h:SqT K H a xs):SqT K H' a xs:=by
 rcases h with (h | ⟨o,h⟩) | h
 ·exact .inl (.inl (e _ _ h))
 ·exact .inl (.inr ⟨o,e _ _ h⟩)
 ·exact .inr h
theorem Same.new {H:Hp}{p:Addr}{o:HO}(h:H p=ajM):Same H (upd H p o):=fun b u e=>by
 rw[Aa5 (Aa8 e h)];exact e
def PtAt (H:Hp)(a:Addr)(p:Pt):Prop:=∃r,H a=some (.tup (.int p.x::.int p.y::r))
theorem PtAt.same {H H':Hp}{a:Addr}{p:Pt}(e:Same H H')(h:PtAt H a p):PtAt H' a p:=let ⟨r,h⟩:=h;⟨r,e _ _ h⟩
theorem PtAt.sq {K:abA}{H:Hp}{a:Addr}{p:Pt}(h:PtAt H a p):∃r,SqT K H a (.int p.x::.int p.y::r):=let ⟨r,h⟩:=h;⟨r,SqT.of h⟩
class AtC (xs:List V) (i:Int) (v:outParam V):Prop where
 at_:atI xs i=some v
instance atC0 {x:V}{xs:List V}:AtC (x::xs) 0 x:=⟨Ae6 (j:=0) rfl⟩
instance atC1 {x y:V}{xs:List V}:AtC (x::y::xs) 1 y:=⟨Ae6 (j:=1) rfl⟩
theorem atC {xs:List V}{i:Int}{v:V}[h:AtC xs i v]:atI xs i=some v:=h.at_
def Abk (p:Pt):Prop:=p.x<4294967296/\p.y<4294967296
abbrev Acz:afD:=top Aoq
abbrev sBy:afD:=top Akx
abbrev Aj2:afD:=top Ags
abbrev Alu:afD:=top Aub
abbrev Ai0:afD:=top Au9
abbrev Akh:afD:=top Aow
abbrev At6:afD:=top Ajh
abbrev Akc:afD:=top Aho
abbrev An2:afD:=top Auc
def Ahw:Sp:=fun vs H Q _=>∃(a b c:Addr) (p q r:Pt),vs=[.ref a,.ref b,.ref c]/\PtAt H a p/\PtAt H b q/\PtAt H c r/\Abk p/\Abk q/\Q (.int (afT p q r)) H
def Aq0:Sp:=fun vs H Q _=>∃(a b c:Addr) (p q r:Pt),vs=[.ref a,.ref b,.ref c]/\PtAt H a p/\PtAt H b q/\PtAt H c r/\Abk p/\Abk q/\Q (.bl (aiC p q r)) H
theorem Axz (p q r:Pt):aiC p q r=if decide ((r.y:Int)<(if (q.y:Int)<p.y then(q.y:Int)else p.y))=true then false else if decide ((if (q.y:Int)>p.y then(q.y:Int)else p.y)<(r.y:Int))=true then false else
 if decide ((r.x:Int)<(if (q.x:Int)<p.x then(q.x:Int)else p.x))=true then false else if decide ((if (q.x:Int)>p.x then(q.x:Int)else p.x)<(r.x:Int))=true then false else decide (V.int (afT p q r)=V.int 0):=by
 unfold aiC Gla.between;rw[Amm];simp only[dtt]
 by_cases a:(r.y:Int)<(if (q.y:Int)<p.y then(q.y:Int)else p.y)
 ·rw[ifp a];split at a<;>(simp;lia)
 rw[ifn a]
 by_cases b:(if (q.y:Int)>p.y then(q.y:Int)else p.y)<(r.y:Int)
 ·rw[ifp b];split at b<;>(simp;lia)
 rw[ifn b]
 by_cases c:(r.x:Int)<(if (q.x:Int)<p.x then(q.x:Int)else p.x)
 ·rw[ifp c];split at c<;>(simp;lia)
 rw[ifn c]
 by_cases d:(if (q.x:Int)>p.x then(q.x:Int)else p.x)<(r.x:Int)
 ·rw[ifp d];split at d<;>(simp;lia)
 rw[ifn d];have e1:(decide (min p.x q.x<=r.x)&&decide (r.x<=max p.x q.x))=true:=by
  split at c<;>split at d<;>(simp;lia)
 have e2:(decide (min p.y q.y<=r.y)&&decide (r.y<=max p.y q.y))=true:=by
  split at a<;>split at b<;>(simp;lia)
 rw[e1,e2];simp
variable {P:abS}{w:adI}{K:abA}{mg:Str->Option aaF}{base:Heap}
theorem Azo:Aaa ["p","q","r"] ["p","q","r"] (Aa6 Acz):=fsc
theorem Aj6 {f:Addr}{fd:aaX}(F:Def K mg "turn_of" Acz ["p","q","r"] f fd):FnOk P w K mg base CX0 1 f fd ["p","q","r"] Ahw:=by
 refine F.go Azo fun cdv A o s H vs Q E hr h=>?_;obtain⟨a,b,c,p,q,r,rfl,h1,h2,h3,s1,s2,k⟩:=h
 refine⟨_,Aa4 (Aa9 (Aay Ac9
  (Aay Ack (Aay Ac9 (pIT (pv 1) Aa7) (pIT (pv 0) Aa7)) (Aay Ac9 (pIT (pv 2) Aa7) (pIT (pv 1) Aa7)))
  (Aay Ack (Aay Ac9 (pIT (pv 1) Aa7) (pIT (pv 0) Aa7)) (Aay Ac9 (pIT (pv 2) Aa7) (pIT (pv 1) Aa7))))),?_⟩
 have b1:CMul ((q.x:Int)-p.x) ((r.y:Int)-q.y):=.inl (by unfold Abk at s1 s2;lia);have b2:CMul ((q.y:Int)-p.y) ((r.x:Int)-q.x):=.inl (by unfold Abk at s1 s2;lia);obtain⟨_,h1⟩:=h1.sq (K:=K);obtain⟨_,h2⟩:=h2.sq (K:=K);obtain⟨_,h3⟩:=h3.sq (K:=K)
 refine⟨_,rfl,b,_,_,_,rfl,rfl,h2,atC,_,rfl,a,_,_,_,rfl,rfl,h1,atC,_,_,rfl,rfl,
  _,rfl,c,_,_,_,rfl,rfl,h3,atC,_,rfl,b,_,_,_,rfl,rfl,h2,atC,_,_,rfl,rfl,_,_,rfl,rfl,b1,
  _,rfl,b,_,_,_,rfl,rfl,h2,atC,_,rfl,a,_,_,_,rfl,rfl,h1,atC,_,_,rfl,rfl,
  _,rfl,c,_,_,_,rfl,rfl,h3,atC,_,rfl,b,_,_,_,rfl,rfl,h2,atC,_,_,rfl,rfl,_,_,rfl,rfl,b2,_,_,rfl,rfl,?_⟩
 exact k
theorem Azt:Aaa ["p","q","r"] ["p","q","r"] (Aa6 Alu):=fsc
theorem Aqy {f fT:Addr}{fd fdT:aaX}(F:Def K mg "is_on" Alu ["p","q","r"] f fd)(FT:Def K mg "turn_of" Acz ["p","q","r"] fT fdT)(nmin:mg "min" = none)(nmax:mg "max" = none) :
 FnOk P w K mg base CX0 2 f fd ["p","q","r"] Aq0:=by
 have GT:FnOk P w K mg base CX0 1 fT fdT ["p","q","r"] Ahw:=Aj6 FT;refine F.go Azt fun cdv A o s H vs Q E hr h=>?_;obtain⟨a,b,c,p,q,r,rfl,h1,h2,h3,s1,s2,k⟩:=h
 refine⟨_,Aa2 (Aav (PW.pt (Aof
  (Aak Acl (pIT (pv 2) Aa7) (Aae (Al8 rfl) (by rfl) nmin (by decide +kernel) (Aa0 (pIT (pv 0) Aa7) (Aa0 (pIT (pv 1) Aa7) Aa3))) (Aan _))
  (Ai2 (Aak Adb (pIT (pv 2) Aa7) (Aae (Al9 rfl) (by rfl) nmax (by decide +kernel) (Aa0 (pIT (pv 0) Aa7) (Aa0 (pIT (pv 1) Aa7) Aa3))) (Aan _)))))
  (Aa4 (Aa9 Acs)) Aag)
  (Aa2 (Aav (PW.pt (Aof
   (Aak Acl (pIT (pv 2) Aa7) (Aae (Al8 rfl) (by rfl) nmin (by decide +kernel) (Aa0 (pIT (pv 0) Aa7) (Aa0 (pIT (pv 1) Aa7) Aa3))) (Aan _))
   (Ai2 (Aak Adb (pIT (pv 2) Aa7) (Aae (Al9 rfl) (by rfl) nmax (by decide +kernel) (Aa0 (pIT (pv 0) Aa7) (Aa0 (pIT (pv 1) Aa7) Aa3))) (Aan _)))))
   (Aa4 (Aa9 Acs)) Aag)
  (Aa4 (Aa9 (Age Aoi (pCD FT GT hr (Aa0 (pv 0) (Aa0 (pv 1) (Aa0 (pv 2) Aa3)))) Aa7 (Aan _))))),?_⟩
 obtain⟨_,g1⟩:=h1.sq (K:=K);obtain⟨_,g2⟩:=h2.sq (K:=K);obtain⟨_,g3⟩:=h3.sq (K:=K);rw[Axz]at k;refine⟨_,rfl,c,_,_,_,rfl,rfl,g3,atC,_,rfl,a,_,_,_,rfl,rfl,g1,atC,_,rfl,b,_,_,_,rfl,rfl,g2,atC,_,_,rfl,_,_,rfl,rfl,_,rfl,?_⟩;refine Abj (fun e1=>?_) (fun e1=>?_)
 ·rw[ifp e1]at k;exact Arl k
 rw[ifn e1]at k;refine⟨_,rfl,c,_,_,_,rfl,rfl,g3,atC,_,rfl,a,_,_,_,rfl,rfl,g1,atC,_,rfl,b,_,_,_,rfl,rfl,g2,atC,_,_,rfl,_,_,rfl,rfl,_,rfl,?_⟩;refine Abj (fun e2=>?_) (fun e2=>?_)
 ·rw[ifp e2]at k;exact k
 rw[ifn e2]at k;refine⟨_,rfl,c,_,_,_,rfl,rfl,g3,atC,_,rfl,a,_,_,_,rfl,rfl,g1,atC,_,rfl,b,_,_,_,rfl,rfl,g2,atC,_,_,rfl,_,_,rfl,rfl,_,rfl,?_⟩;refine Abj (fun e3=>?_) (fun e3=>?_)
 ·rw[ifp e3]at k;exact Arl k
 rw[ifn e3]at k;refine⟨_,rfl,c,_,_,_,rfl,rfl,g3,atC,_,rfl,a,_,_,_,rfl,rfl,g1,atC,_,rfl,b,_,_,_,rfl,rfl,g2,atC,_,_,rfl,_,_,rfl,rfl,_,rfl,?_⟩;refine Abj (fun e4=>?_) (fun e4=>?_)
 ·rw[ifp e4]at k;exact k
 rw[ifn e4]at k;exact⟨_,rfl,_,rfl,_,rfl,a,b,c,p,q,r,rfl,h1,h2,h3,s1,s2,rfl,k⟩
def Azl:Sp:=fun vs H Q _=>∃(a:Addr) (p:Pt),vs=[.ref a]/\PtAt H a p/\∀t,H t=none->Q (.ref t) (upd H t (.tup [.int p.y,.int p.x]))
def Aeb:Sp:=fun vs H Q _=>∃(b a:Addr) (q p:Pt),vs=[.ref b,.ref a]/\PtAt H b q/\PtAt H a p/\∀H',Same H H'->Q (.bl (p.below q)) H'
def Apv:Sp:=fun vs H Q _=>∃(a b c d:Addr) (p q r s:Pt),vs=[.ref a,.ref b,.ref c,.ref d]/\PtAt H a p/\PtAt H b q/\PtAt H c r/\PtAt H d s/\Abk p/\Abk q/\Q (.bl (decide (afT p q r*afT p q s<0))) H
def Aq6:Sp:=fun vs H Q _=>∃(a b c d:Addr) (p q r s:Pt),vs=[.ref a,.ref b,.ref c,.ref d]/\PtAt H a p/\PtAt H b q/\PtAt H c r/\PtAt H d s/\Abk p/\Abk q/\Abk r/\Abk s/\Q (.bl (akA p q r s)) H
theorem Aui (p q:Pt):H3.lexGt [(q.y:Int),(q.x:Int)] [(p.y:Int),(p.x:Int)]=p.below q:=by
 rw[H3.lexGt_cons,H3.lexGt_cons,H3.lexGt_nil_nil];unfold Pt.below;rw[adC]
 by_cases e:(q.y:Int)=p.y
 ·rw[ifp e]
  by_cases e2:(q.x:Int)=p.x
  ·rw[ifp e2];simp;lia
  ·rw[ifn e2];simp;lia
 ·rw[ifn e];simp;lia
theorem Am4 (a b:Int):decide (a*b<0)=((if decide (a<0)=true then decide (0<b)else false)||(if decide (b<0)=true then decide (0<a)else false)):=by
 rcases abC a 0 with x | x | x
 ·rcases abC b 0 with y | y | y
  ·have:=amP x y;rw[dff (show ¬a*b<0 by lia),dft x,dft y,dff (show ¬0<b by lia),dff (show ¬0<a by lia)];rfl
  ·subst y;simp
  ·have:=amR x y;rw[dft this,dft x,dft y];rfl
 ·subst x;simp
 ·rcases abC b 0 with y | y | y
  ·have:=amQ x y;rw[dft this,dff (show ¬a<0 by lia),dft y,dft x];rfl
  ·subst y;simp
  ·have:=Int.mul_pos x y;rw[dff (show ¬a*b<0 by lia),dff (show ¬a<0 by lia),dff (show ¬b<0 by lia)];rfl
theorem Bed:Aaa ["spot"] ["spot"] (Aa6 sBy):=fsc
theorem Axj {f:Addr}{fd:aaX}(F:Def K mg "by_height" sBy ["spot"] f fd):FnOk P w K mg base CX0 1 f fd ["spot"] Azl:=by
 refine F.go Bed fun cdv A o s H vs Q E hr h=>?_;obtain⟨a,p,rfl,h1,k⟩:=h;refine⟨_,Aa4 (Aa9 (Abd (Aa0 (pIT (pv 0) Aa7) (Aa0 (pIT (pv 0) Aa7) Aa3)))),?_⟩;obtain⟨_,g1⟩:=h1.sq (K:=K);exact⟨_,rfl,a,_,_,_,rfl,rfl,g1,atC,_,rfl,a,_,_,_,rfl,rfl,g1,atC,sz2,fun t ht=>k t ht⟩
theorem At0:Aaa ["q","p"] ["q","p"] (Aa6 Aj2):=fsc
theorem Ar0 {f fB:Addr}{fd fdB:aaX}(F:Def K mg "comes_behind" Aj2 ["q","p"] f fd)(FB:Def K mg "by_height" sBy ["spot"] fB fdB):FnOk P w K mg base CX0 2 f fd ["q","p"] Aeb:=by
 have GB:FnOk P w K mg base CX0 1 fB fdB ["spot"] Azl:=Axj FB;refine F.go At0 fun cdv A o s H vs Q E hr h=>?_;obtain⟨b,a,q,p,rfl,h1,h2,k⟩:=h
 refine⟨_,Aa4 (Aa9 (Age (Bac (Nat.lt_of_succ_lt (Agv hr)))
  (pCD FB GB hr (Aa0 (pv 0) Aa3))
  (pCD FB GB hr (Aa0 (pv 1) Aa3)) (Aan _))),?_⟩
 refine⟨_,rfl,b,q,rfl,h1,fun t ht=>?_⟩;have s1:Same H (upd H t (.tup [.int q.y,.int q.x])):=Same.new ht;refine⟨_,rfl,a,p,rfl,h2.same s1,fun u hu=>?_⟩;have s2:=Same.new (o:=.tup [.int p.y,.int p.x]) hu;refine⟨t,u,[(q.y:Int),(q.x:Int)],[(p.y:Int),(p.x:Int)],rfl,rfl,SqT.of (s2 _ _ Aa1),SqT.of Aa1,?_⟩;rw[Aui];exact k _ (s1.trans s2)
structure DefB (K:abA)(mg:Str->Option aaF)(f:Addr)(fd:aaX):Prop extends Def K mg "comes_behind" Aj2 ["q","p"] f fd where
 by_:∃fB fdB,Def K mg "by_height" sBy ["spot"] fB fdB
theorem Ai5 {f:Addr}{fd:aaX}(F:DefB K mg f fd):FnOk P w K mg base CX0 2 f fd ["q","p"] Aeb:=let ⟨_,_,B⟩:=F.by_;Ar0 F.toDef B
theorem scParts:Aaa ["p","q","r","s","first","second"] ["p","q","r","s"] (Aa6 Ai0):=fsc
theorem Ats {f fT:Addr}{fd fdT:aaX}(F:Def K mg "parts" Ai0 ["p","q","r","s"] f fd)(FT:Def K mg "turn_of" Acz ["p","q","r"] fT fdT):FnOk P w K mg base CX0 2 f fd ["p","q","r","s"] Apv:=by
 have GT:FnOk P w K mg base CX0 1 fT fdT ["p","q","r"] Ahw:=Aj6 FT;refine F.go scParts fun cdv A o s H vs Q E hr h=>?_;obtain⟨a,b,c,d,p,q,r,s,rfl,h1,h2,h3,h4,s1,s2,k⟩:=h
 refine⟨_,Aa2 (pS 4 scParts.nd (pCD FT GT hr (Aa0 (pv 0) (Aa0 (pv 1) (Aa0 (pv 2) Aa3)))))
  (Aa2 (pS 5 scParts.nd (pCD FT GT hr (Aa0 (pv 0) (Aa0 (pv 1) (Aa0 (pv 3) Aa3)))))
  (Aa4 (Aa9 (Bcm (Anb Acl Acl (pv 4) Aa7 (pv 5)) (Avg (Anb Acl Acl (pv 5) Aa7 (pv 4))))))),?_⟩
 refine⟨_,rfl,_,rfl,_,rfl,a,b,c,p,q,r,rfl,h1,h2,h3,s1,s2,?_⟩;refine⟨_,rfl,_,rfl,_,rfl,a,b,d,p,q,s,rfl,h1,h2,h4,s1,s2,?_⟩;rw[Am4]at k;refine⟨_,rfl,_,_,rfl,rfl,_,rfl,?_⟩;refine Abj (fun e1=>?_) (fun e1=>?_)
 ·rw[ifp e1]at k;refine⟨_,rfl,_,_,rfl,rfl,_,rfl,?_⟩;refine Abj (fun e2=>?_) (fun e2=>?_)
  ·rw[e2,Bool.true_or]at k;exact k
  ·rw[abZ.mpr e2,amX]at k;refine⟨_,rfl,_,_,rfl,rfl,_,rfl,?_⟩;refine Abj (fun e3=>?_) (fun e3=>?_)
   ·rw[ifp e3]at k;exact⟨_,rfl,_,_,rfl,rfl,k⟩
   ·rw[ifn e3]at k;exact k
 ·rw[ifn e1,amX]at k;refine⟨_,rfl,Ali ?_⟩;refine⟨_,rfl,_,_,rfl,rfl,_,rfl,?_⟩;refine Abj (fun e3=>?_) (fun e3=>?_)
  ·rw[ifp e3]at k;exact⟨_,rfl,_,_,rfl,rfl,k⟩
  ·rw[ifn e3]at k;exact k
theorem Awk:Aaa ["p","q","r","s"] ["p","q","r","s"] (Aa6 Akh):=fsc
theorem Atx {f fP fT:Addr}{fd fdP fdT:aaX}(F:Def K mg "crosses" Akh ["p","q","r","s"] f fd)(FP:Def K mg "parts" Ai0 ["p","q","r","s"] fP fdP)(FT:Def K mg "turn_of" Acz ["p","q","r"] fT fdT) :
 FnOk P w K mg base CX0 3 f fd ["p","q","r","s"] Aq6:=by
 have GP:FnOk P w K mg base CX0 2 fP fdP ["p","q","r","s"] Apv:=Ats FP FT;refine F.go Awk fun cdv A o s H vs Q E hr h=>?_;obtain⟨a,b,c,d,p,q,r,s,rfl,h1,h2,h3,h4,s1,s2,s3,s4,k⟩:=h
 refine⟨_,Aa4 (Aa9 (Ba5 (pCD FP GP hr (Aa0 (pv 0) (Aa0 (pv 1) (Aa0 (pv 2) (Aa0 (pv 3) Aa3)))))
  (Avg (pCD FP GP hr (Aa0 (pv 2) (Aa0 (pv 3) (Aa0 (pv 0) (Aa0 (pv 1) Aa3)))))))),?_⟩
 unfold akA at k;refine⟨_,rfl,_,rfl,_,rfl,_,rfl,a,b,c,d,p,q,r,s,rfl,h1,h2,h3,h4,s1,s2,_,rfl,?_⟩;refine Abj (fun e=>?_) (fun e=>?_)
 ·rw[e,Bool.true_and]at k;exact⟨_,rfl,_,rfl,_,rfl,_,rfl,c,d,a,b,r,s,p,q,rfl,h3,h4,h1,h2,s3,s4,k⟩
 ·rw[abZ.mpr e,ajS]at k;exact k
structure PtsAt (H:Hp)(as:List Addr)(ps:List Pt):Prop where
 len:as.length=ps.length
 at_:∀(i:Nat) (c:Addr),as[i]?=some c->∃p,ps[i]?=some p/\PtAt H c p
theorem PtsAt.same {H H':Hp}{as:List Addr}{ps:List Pt}(e:Same H H')(h:PtsAt H as ps):PtsAt H' as ps :=
 ⟨h.len,fun i c hc=>let ⟨p,a,b⟩:=h.at_ i c hc;⟨p,a,b.same e⟩⟩
theorem Aac {as:List Addr}{i:Nat}{y:V}(h:(as.map V.ref)[i]?=some y):∃c,as[i]?=some c/\y=V.ref c:=by
 rw[aaH]at h;cases e:as[i]? with
 | none=>rw[e]at h;cases h
 | some c=>rw[e]at h;exact⟨c,rfl,(abD h).symm⟩
def arT (p q:Pt):Int:=(p.x:Int)*q.y-(p.y:Int)*q.x
def arS:Pt->List Pt->Int
 | _,[]=>0
 | b,c::r=>arT b c+arS c r
def Acx (p q z:Pt):Bool:=if p.y<=z.y/\z.y<q.y then decide (0<afT p q z)else if q.y<=z.y/\z.y<p.y then decide (0<afT q p z)else false
def hoS (z:Pt):Bool->Pt->List Pt->Bool
 | w,_,[]=>w
 | w,b,c::r=>hoS z (if Acx b c z=true then !w else w) c r
def Ava:Sp:=fun vs H Q _=>∃(a:Addr) (as:List Addr) (ps:List Pt) (l:Pt),vs=[.ref a]/\H a=some (.lst (as.map V.ref))/\PtsAt H as ps/\ps[ps.length-1]?=some l/\(∀p,p∈ps->Abk p)/\Q (.int (arS l ps)) H
def Aps:Sp:=fun vs H Q _=>∃(a b c:Addr) (p q z:Pt),vs=[.ref a,.ref b,.ref c]/\PtAt H a p/\PtAt H b q/\PtAt H c z/\Abk p/\Abk q/\Q (.bl (Acx p q z)) H
def Aq1:Sp:=fun vs H Q _=>∃(a c:Addr) (as:List Addr) (ps:List Pt) (l z:Pt),vs=[.ref a,.ref c]/\H a=some (.lst (as.map V.ref))/\PtsAt H as ps/\ps[ps.length-1]?=some l/\(∀p,p∈ps->Abk p)/\PtAt H c z/\Q (.bl (hoS z false l ps)) H
theorem Adu {α:Type}{l:List α}{i:Nat}{x:α}(h:l[i]?=some x):l.drop i=x::l.drop (i+1):=by
 obtain⟨hi,e⟩:=aaB.mp h;rw[amK hi,e]
theorem Ash {as:List Addr}{c:Addr}(h:as[as.length-1]?=some c):atI (as.map V.ref) (-1)=some (.ref c):=by
 have hi:=(aaB.mp h).1;unfold atI ixN;rw[ifn (by decide),aaA,ifp (by lia)];show(as.map V.ref)[((-1:Int)+(as.length:Int)).toNat]?=_;have:((-1:Int)+(as.length:Int)).toNat=as.length-1:=by lia
 rw[this,aaH,h];rfl
theorem scArea:Aaa ["corners","twice","before","corner"] ["corners"] (Aa6 At6):=fsc
theorem Axl {f:Addr}{fd:aaX}(F:Def K mg "twice_area" At6 ["corners"] f fd):FnOk P w K mg base CX0 1 f fd ["corners"] Ava:=by
 refine F.go scArea fun cdv A o s H vs Q E hr h=>?_;obtain⟨a,as,ps,l,rfl,hl,hp,hlast,sm,k⟩:=h
 refine⟨_,Aa2 (pS 1 scArea.nd Aa7)
  (Aa2 (pS 2 scArea.nd (pIL (pv 0) (Alw Ag5 Aa7)))
  (Aa2 (Aao aaQ rfl (Aaw (pv 0)) (pG 3 scArea.nd)
   (Aa2 (An8 (i:=1) scArea.nd rfl (akZ rfl) (Aay Ac9 (Aay Ack (pIT (pv 2) Aa7) (pIT (pv 3) Aa7))
    (Aay Ack (pIT (pv 2) Aa7) (pIT (pv 3) Aa7))) Arn)
    (Aa4 (pS 2 scArea.nd (pv 3)))))
  (Aa4 (Aa9 (pv 1))))),?_⟩
 obtain⟨cl,hcl⟩ : ∃c,as[as.length-1]?=some c:=by
  have:=(aaB.mp hlast).1;exact⟨_,aaE (by rw[hp.len];exact this)⟩
 have pl:PtAt H cl l:=by
  obtain⟨p,e,q⟩:=hp.at_ _ _ hcl;rw[hp.len,hlast]at e;cases e;exact q
 refine⟨_,rfl,_,rfl,a,_,_,_,rfl,rfl,SqL.of hl,Ash hcl,?_⟩
 refine⟨_,rfl,a,rfl,⟨_,SqL.of hl⟩,Abn (K:=K) (a:=a) (xs:=as.map V.ref) (fun i σ H'=>H'=H/\∃(tw:Int) (b:Addr) (bp:Pt) (v:Option V),σ=[some (.ref a),some (.int tw),some (.ref b),v]/\PtAt H b bp/\Abk bp/\tw+arS bp (ps.drop i)=arS l ps)
  ⟨rfl,0,cl,l,none,rfl,pl,sm l (aaJ hlast),by simp⟩ (fun i σ H' _ ⟨e,_⟩=>by rw[e];exact SqL.of hl) ?_ ?_⟩
 ·rintro i y σ H' hi ⟨rfl,tw,b,bp,v,rfl,hb,sb,inv⟩;obtain⟨c,hc,rfl⟩:=Aac hi;obtain⟨p,hpi,pc⟩:=hp.at_ i c hc;obtain⟨_,g1⟩:=hb.sq (K:=K);obtain⟨_,g2⟩:=pc.sq (K:=K);have sp:=sm p (aaJ hpi);have b1:CMul (bp.x:Int) (p.y:Int):=.inl (by unfold Abk at sb;lia);have b2:CMul (bp.y:Int) (p.x:Int):=.inl (by unfold Abk at sb;lia);refine⟨_,rfl,_,rfl,b,_,_,_,rfl,rfl,g1,atC,_,rfl,c,_,_,_,rfl,rfl,g2,atC,_,_,rfl,rfl,b1,_,rfl,b,_,_,_,rfl,rfl,g1,atC,_,rfl,c,_,_,_,rfl,rfl,g2,atC,_,_,rfl,rfl,b2,_,_,rfl,rfl,_,_,rfl,rfl,?_⟩
  refine⟨_,rfl,rfl,tw+arT bp p,c,p,_,rfl,pc,sp,?_⟩;rw[Adu hpi]at inv;simp only[arS]at inv;lia
 ·rintro σ H' ⟨rfl,tw,b,bp,v,rfl,hb,sb,inv⟩;refine⟨_,rfl,?_⟩;rw[aaA,hp.len,aiU]at inv;simp only[arS]at inv;have:tw=arS l ps:=by lia
  rw[this];exact k
theorem Awh:Aaa ["p","q","spot"] ["p","q","spot"] (Aa6 Akc):=fsc
theorem Atr {f fT:Addr}{fd fdT:aaX}(F:Def K mg "is_right_of" Akc ["p","q","spot"] f fd)(FT:Def K mg "turn_of" Acz ["p","q","r"] fT fdT):FnOk P w K mg base CX0 2 f fd ["p","q","spot"] Aps:=by
 have GT:FnOk P w K mg base CX0 1 fT fdT ["p","q","r"] Ahw:=Aj6 FT;refine F.go Awh fun cdv A o s H vs Q E hr h=>?_;obtain⟨a,b,c,p,q,z,rfl,h1,h2,h3,s1,s2,k⟩:=h
 refine⟨_,Aa2 (Aav (Adl Ato Acl (pIT (pv 0) Aa7) (pIT (pv 2) Aa7) (pIT (pv 1) Aa7))
  (Aa4 (Aa9 (Age Adb (pCD FT GT hr (Aa0 (pv 0) (Aa0 (pv 1) (Aa0 (pv 2) Aa3)))) Aa7 (Aan _)))) Aag)
  (Aa2 (Aav (Adl Ato Acl (pIT (pv 1) Aa7) (pIT (pv 2) Aa7) (pIT (pv 0) Aa7))
   (Aa4 (Aa9 (Age Adb (pCD FT GT hr (Aa0 (pv 1) (Aa0 (pv 0) (Aa0 (pv 2) Aa3)))) Aa7 (Aan _)))) Aag)
  (Aa4 (Aa9 Acs))),?_⟩
 obtain⟨_,g1⟩:=h1.sq (K:=K);obtain⟨_,g2⟩:=h2.sq (K:=K);obtain⟨_,g3⟩:=h3.sq (K:=K);unfold Acx at k;have first:p.y<=z.y/\z.y<q.y->Q (.bl (decide (0<afT p q z))) H:=fun e=>by rw[ifp e]at k;exact k
 have second:¬(p.y<=z.y/\z.y<q.y)->q.y<=z.y/\z.y<p.y->Q (.bl (decide (0<afT q p z))) H:=fun e e2=>by rw[ifn e,ifp e2]at k;exact k
 have third:¬(p.y<=z.y/\z.y<q.y)->¬(q.y<=z.y/\z.y<p.y)->Q (.bl false) H:=fun e e2=>by rw[ifn e,ifn e2]at k;exact k
 have go2:¬(p.y<=z.y/\z.y<q.y)->Bdi (Az9 (Apm (Apq (rI0 fun i j=>.bl (decide (i<=j))) (rI0 fun i j=>.bl (decide (i<j))) (tOp (Aqf K) (Abv 1) (tC (.int 1))) (tOp (Aqf K) (Abv 2) (tC (.int 1))) (tOp (Aqf K) (Abv 0) (tC (.int 1)))))
  (Aso (tOp (rI0 fun i j=>.bl (decide (j<i))) (Aiq Ahw [] E0 (Ab6 (Abv 1) (Ab6 (Abv 0) (Ab6 (Abv 2) Ahb)))) (tC (.int 0)))) App) (Aso (tC (.bl false))) { nx:=fun _ H'=>Q .non H',rt:=Q } (start ["p","q","spot"] [.ref a,.ref b,.ref c]) H:=by
  intro ne;refine⟨_,rfl,b,_,_,_,rfl,rfl,g2,atC,_,rfl,c,_,_,_,rfl,rfl,g3,atC,_,_,rfl,rfl,_,rfl,?_⟩;refine Abj (fun e1=>?_) (fun e1=>?_)
  ·refine⟨_,rfl,a,_,_,_,rfl,rfl,g1,atC,_,_,rfl,rfl,_,rfl,?_⟩;refine Abj (fun e2=>?_) (fun e2=>?_)
   ·simp only[dtt]at e1 e2;exact⟨_,rfl,_,rfl,_,rfl,b,a,c,q,p,z,rfl,h2,h1,h3,s2,s1,_,_,rfl,rfl,second ne ⟨by lia,by lia⟩⟩
   ·simp only[dtt]at e1 e2;exact third ne (by lia)
  ·simp only[dtt]at e1;exact⟨_,rfl,Ali (third ne (by lia))⟩
 refine⟨_,rfl,a,_,_,_,rfl,rfl,g1,atC,_,rfl,c,_,_,_,rfl,rfl,g3,atC,_,_,rfl,rfl,_,rfl,?_⟩;refine Abj (fun e1=>?_) (fun e1=>?_)
 ·refine⟨_,rfl,b,_,_,_,rfl,rfl,g2,atC,_,_,rfl,rfl,_,rfl,?_⟩;refine Abj (fun e2=>?_) (fun e2=>?_)
  ·simp only[dtt]at e1 e2;exact⟨_,rfl,_,rfl,_,rfl,a,b,c,p,q,z,rfl,h1,h2,h3,s1,s2,_,_,rfl,rfl,first ⟨by lia,by lia⟩⟩
  ·simp only[dtt]at e1 e2;exact go2 (by lia)
 ·simp only[dtt]at e1;exact⟨_,rfl,Ali (go2 (by lia))⟩
theorem scHolds:Aaa ["corners","spot","within","before","corner"] ["corners","spot"] (Aa6 An2):=fsc
theorem Atv {f fR fT:Addr}{fd fdR fdT:aaX}(F:Def K mg "holds" An2 ["corners","spot"] f fd)(FR:Def K mg "is_right_of" Akc ["p","q","spot"] fR fdR)(FT:Def K mg "turn_of" Acz ["p","q","r"] fT fdT) :
 FnOk P w K mg base CX0 3 f fd ["corners","spot"] Aq1:=by
 have GR:FnOk P w K mg base CX0 2 fR fdR ["p","q","spot"] Aps:=Atr FR FT;refine F.go scHolds fun cdv A o s H vs Q E hr h=>?_;obtain⟨a,cz,as,ps,l,z,rfl,hl,hp,hlast,sm,hz,k⟩:=h
 refine⟨_,Aa2 (pS 2 scHolds.nd Acs)
  (Aa2 (pS 3 scHolds.nd (pIL (pv 0) (Alw Ag5 Aa7)))
  (Aa2 (Aao aaQ rfl (Aaw (pv 0)) (pG 4 scHolds.nd)
   (Aa2 (Aav (Ad6 (pCD FR GR hr (Aa0 (pv 3) (Aa0 (pv 4) (Aa0 (pv 1) Aa3))))) (Aa4 (pS 2 scHolds.nd (Ba0 (pv 2)))) Aag)
    (Aa4 (pS 3 scHolds.nd (pv 4)))))
  (Aa4 (Aa9 (pv 2))))),?_⟩
 obtain⟨cl,hcl⟩ : ∃c,as[as.length-1]?=some c:=by
  have:=(aaB.mp hlast).1;exact⟨_,aaE (by rw[hp.len];exact this)⟩
 have pl:PtAt H cl l:=by
  obtain⟨p,e,q⟩:=hp.at_ _ _ hcl;rw[hp.len,hlast]at e;cases e;exact q
 refine⟨_,rfl,_,rfl,a,_,_,_,rfl,rfl,SqL.of hl,Ash hcl,?_⟩
 refine⟨_,rfl,a,rfl,⟨_,SqL.of hl⟩,Abn (K:=K) (a:=a) (xs:=as.map V.ref) (fun i σ H'=>H'=H/\∃(wi:Bool) (b:Addr) (bp:Pt) (v:Option V),σ=[some (.ref a),some (.ref cz),some (.bl wi),some (.ref b),v]/\PtAt H b bp/\Abk bp/\hoS z wi bp (ps.drop i)=hoS z false l ps)
  ⟨rfl,false,cl,l,none,rfl,pl,sm l (aaJ hlast),by simp⟩ (fun i σ H' _ ⟨e,_⟩=>by rw[e];exact SqL.of hl) ?_ ?_⟩
 ·rintro i y σ H' hi ⟨rfl,wi,b,bp,v,rfl,hb,sb,inv⟩;obtain⟨c,hc,rfl⟩:=Aac hi;obtain⟨p,hpi,pc⟩:=hp.at_ i c hc;have sp:=sm p (aaJ hpi);rw[Adu hpi]at inv;simp only[hoS]at inv;refine⟨_,rfl,_,rfl,_,rfl,b,c,cz,bp,p,z,rfl,hb,pc,hz,sb,sp,_,rfl,?_⟩;refine Abj (fun e=>?_) (fun e=>?_)
  ·rw[ifp e]at inv;refine⟨_,rfl,_,rfl,?_⟩;exact⟨_,rfl,rfl,!wi,c,p,_,rfl,pc,sp,inv⟩
  ·rw[ifn e]at inv;exact⟨_,rfl,rfl,wi,c,p,_,rfl,pc,sp,inv⟩
 ·rintro σ H' ⟨rfl,wi,b,bp,v,rfl,hb,sb,inv⟩;refine⟨_,rfl,?_⟩;rw[aaA,hp.len,aiU]at inv;simp only[hoS]at inv;rw[inv];exact k
def dfs (w h:Nat)(pa la ma:Addr):List (Str×V):=Adx "marks" (.ref ma) (Adx "lines" (.ref la) (Adx "points" (.ref pa) (Adx "height" (.int h) (Adx "width" (.int w) []))))
theorem Ap4 (w h:Nat)(pa la ma:Addr):(dfs w h pa la ma).lookup ("width" : Str)=some (.int w):=by
 unfold dfs;simp only[Aaz];rw[ifn (by decide +kernel),ifn (by decide +kernel),ifn (by decide +kernel),ifn (by decide +kernel),ifp trivial]
theorem Ap5 (w h:Nat)(pa la ma:Addr):(dfs w h pa la ma).lookup ("height" : Str)=some (.int h):=by
 unfold dfs;simp only[Aaz];rw[ifn (by decide +kernel),ifn (by decide +kernel),ifn (by decide +kernel),ifp trivial]
theorem Ad0 (w h:Nat)(pa la ma:Addr):(dfs w h pa la ma).lookup ("points" : Str)=some (.ref pa):=by
 unfold dfs;simp only[Aaz];rw[ifn (by decide +kernel),ifn (by decide +kernel),ifp trivial]
theorem Aft (w h:Nat)(pa la ma:Addr):(dfs w h pa la ma).lookup ("lines" : Str)=some (.ref la):=by
 unfold dfs;simp only[Aaz];rw[ifn (by decide +kernel),ifp trivial]
theorem Amk (w h:Nat)(pa la ma:Addr):(dfs w h pa la ma).lookup ("marks" : Str)=some (.ref ma):=by
 unfold dfs;rw[Aaz,ifp rfl]
theorem Ac5 (w h:Nat)(pa la ma:Addr){m:Str}(h1:¬m = "marks":=by decide +kernel)(h2:¬m = "lines":=by decide +kernel)(h3:¬m = "points":=by decide +kernel)(h4:¬m = "height":=by decide +kernel)(h5:¬m = "width":=by decide +kernel):(dfs w h pa la ma).lookup m=none:=by
 unfold dfs;simp only[Aaz];rw[ifn h1,ifn h2,ifn h3,ifn h4,ifn h5];rfl
def LnAt (H:Hp)(a:Addr)(l:Nat×Nat):Prop:=H a=some (.tup [.int l.1,.int l.2])
structure LnsAt (H:Hp)(as:List Addr)(ls:List (Nat×Nat)):Prop where
 len:as.length=ls.length
 at_:∀(i:Nat) (c:Addr),as[i]?=some c->∃l,ls[i]?=some l/\LnAt H c l
theorem LnsAt.same {H H':Hp}{as:List Addr}{ls:List (Nat×Nat)}(e:Same H H')(h:LnsAt H as ls):LnsAt H' as ls :=
 ⟨h.len,fun i c hc=>let ⟨p,a,b⟩:=h.at_ i c hc;⟨p,a,e _ _ b⟩⟩
structure TupsAt {α:Type}(tv:α->List V)(H:Hp)(as:List Addr)(xs:List α):Prop where
 len:as.length=xs.length
 at_:∀(i:Nat) (c:Addr),as[i]?=some c->∃x,xs[i]?=some x/\H c=some (.tup (tv x))
theorem TupsAt.same {α:Type}{tv:α->List V}{H H':Hp}{as:List Addr}{xs:List α}(e:Same H H')(h:TupsAt tv H as xs):TupsAt tv H' as xs :=
 ⟨h.len,fun i c hc=>let ⟨p,a,b⟩:=h.at_ i c hc;⟨p,a,e _ _ b⟩⟩
def ptV (p:Pt):List V:=[.int p.x,.int p.y]
def lnV (l:Nat×Nat):List V:=[.int l.1,.int l.2]
def mkV (m:Mark):List V:=[.int m.at_.x,.int m.at_.y,.int m.glass,.int m.painting]
structure DrawAt (C:Addr)(H:Hp)(d:Addr)(S:Plan)(pa la ma:Addr)(as ls ms:List Addr):Prop where
 ins:∃dx,H d=some (.ins C dx (dfs S.w S.h pa la ma))
 pts:H pa=some (.lst (as.map V.ref))
 lns:H la=some (.lst (ls.map V.ref))
 mks:H ma=some (.lst (ms.map V.ref))
 ptsX:TupsAt ptV H as S.pts
 lnsA:LnsAt H ls S.lines
 mksX:TupsAt mkV H ms S.marks
 smP:∀p,p∈S.pts->Abk p
 smM:∀m,m∈S.marks->Abk m.at_
 smW:S.w<4294967296
 smH:S.h<4294967296
 nP:S.pts.length<=4096
 nL:S.lines.length<=8192
 nM:S.marks.length<=2048
theorem DrawAt.same {C:Addr}{H H':Hp}{d:Addr}{S:Plan}{pa la ma:Addr}{as ls ms:List Addr}(e:Same H H')(D:DrawAt C H d S pa la ma as ls ms):DrawAt C H' d S pa la ma as ls ms :=
 ⟨let ⟨dx,h⟩:=D.ins;⟨dx,e _ _ h⟩,e _ _ D.pts,e _ _ D.lns,e _ _ D.mks,D.ptsX.same e,D.lnsA.same e,D.mksX.same e,D.smP,D.smM,D.smW,D.smH,D.nP,D.nL,D.nM⟩
theorem DrawAt.ptsA {C:Addr}{H:Hp}{d:Addr}{S:Plan}{pa la ma:Addr}{as ls ms:List Addr}(D:DrawAt C H d S pa la ma as ls ms):PtsAt H as S.pts :=
 ⟨D.ptsX.len,fun i c hc=>let ⟨p,a,b⟩:=D.ptsX.at_ i c hc;⟨p,a,[],b⟩⟩
theorem DrawAt.mksA {C:Addr}{H:Hp}{d:Addr}{S:Plan}{pa la ma:Addr}{as ls ms:List Addr}(D:DrawAt C H d S pa la ma as ls ms):PtsAt H ms (S.marks.map (·.at_)) :=
 ⟨by rw[aaA];exact D.mksX.len,fun i c hc=>let ⟨p,a,b⟩:=D.mksX.at_ i c hc;⟨p.at_,by rw[aaH,a];rfl,_,b⟩⟩
structure Ac7 (K:abA)(C:Addr):Prop where
 cl:Cls K C
 nW:NoAttr K C "width"
 nH:NoAttr K C "height"
 nP:NoAttr K C "points"
 nL:NoAttr K C "lines"
 nM:NoAttr K C "marks"
def vN (l:List Nat):List V:=l.map fun n=>V.int (n:Nat)
structure LkAt (H0 H:Hp)(a:Addr)(rows:List Addr)(ls:List (List Nat)):Prop where
 lst:H a=some (.lst (rows.map V.ref))
 nd:rows.Nodup
 len:rows.length=ls.length
 at_:∀(i:Nat) (c:Addr),rows[i]?=some c->∃l,ls[i]?=some l/\H c=some (.lst (vN l))
 fr:∀c,c∈rows->H0 c=none
 fa:H0 a=none
theorem LkAt.push {H0 H:Hp}{a c:Addr}{rows:List Addr}{ls:List (List Nat)}{i:Nat}{l:List Nat}(x:Nat)(h:LkAt H0 H a rows ls)(hc:rows[i]?=some c)(hl:ls[i]?=some l) :
 LkAt H0 (upd H c (.lst (vN (l++[x])))) a rows (ls.set i (l++[x])):=by
 obtain⟨l',e',hcl⟩:=h.at_ i c hc;have el:l'=l:=abD (e'.symm.trans hl);subst el;have nac:a≠c:=by
  intro q;subst q;rw[h.lst]at hcl;injection hcl with q
  injection q with q
  cases rows with
  | nil=>simp at hc
  | cons r0 rs =>
   cases l' with
   | nil=>cases q
   | cons y ys=>simp[vN]at q
 refine⟨by rw[Aa5 nac];exact h.lst,h.nd,by rw[alL];exact h.len,fun j b hb=>?_,h.fr,h.fa⟩
 by_cases e:j=i
 ·subst e;have:b=c:=abD (hb.symm.trans hc);subst this;exact⟨_,agZ (aaB.mp hl).1,Aa1⟩
 ·obtain⟨m,em,hm⟩:=h.at_ j b hb;have nbc:b≠c:=fun q=>e (Au1 h.nd hb (by rw[q];exact hc));exact⟨m,by rw[agC (fun q=>e q.symm)];exact em,by rw[Aa5 nbc];exact hm⟩
theorem LkAt.same {H0 H H':Hp}{a:Addr}{rows:List Addr}{ls:List (List Nat)}(e:Same H H')(h:LkAt H0 H a rows ls):LkAt H0 H' a rows ls :=
 ⟨e _ _ h.lst,h.nd,h.len,fun i c hc=>let ⟨l,x,y⟩:=h.at_ i c hc;⟨l,x,e _ _ y⟩,h.fr,h.fa⟩
def Ac1 (ls:List (Nat×Nat))(v:Nat):List Nat:=ls.filterMap fun(l:Nat×Nat)=>if l.1=v then some l.2 else if l.2=v then some l.1 else none
theorem Aai {α:Type}{l:List α}{i:Nat}{x:α}(h:l[i]?=some x):l.take (i+1)=l.take i++[x]:=by
 obtain⟨hi,e⟩:=aaB.mp h;rw[List.take_succ_eq_append_getElem hi,e]
theorem Aok (ls:List (Nat×Nat))(l:Nat×Nat)(v:Nat):Ac1 (ls++[l]) v=Ac1 ls v++(if l.1=v then [l.2] else if l.2=v then [l.1] else []):=by
 unfold Ac1;rw[List.filterMap_append]
 congr 1
 by_cases a:l.1=v
 ·simp[a]
 ·by_cases b:l.2=v
  ·simp[a,b]
  ·simp[a,b]
theorem Agi (ls:List (Nat×Nat))(v:Nat):(Ac1 ls v).length<=ls.length:=List.length_filterMap_le _ _
theorem Ar7 {n:Nat}{ls:List (Nat×Nat)}{l:Nat×Nat}(h1:l.1<l.2)(h2:l.2<n) :
 (((aaT n).map (Ac1 ls)).set l.1 (Ac1 ls l.1++[l.2])).set l.2 (Ac1 ls l.2++[l.1])=(aaT n).map (Ac1 (ls++[l])):=by
 apply aiT
 ·simp
 ·intro i a b;simp only[alL,aaA,acK]at a;rw[List.getElem_set,List.getElem_set];simp only[aeI,aeG];rw[Aok]
  by_cases e2:l.2=i
  ·subst e2;rw[ifp rfl,ifn (by lia),ifp rfl]
  ·rw[ifn e2]
   by_cases e1:l.1=i
   ·subst e1;rw[ifp rfl,ifp rfl]
   ·rw[ifn e1,ifn e1,ifn e2,aeD]
abbrev Aec:afD:=top Ama
def Ag7 (C:Addr):Sp:=fun vs H Q _=>∃(d:Addr) (S:Plan) (pa la ma:Addr) (as ls ms:List Addr),vs=[.ref d]/\DrawAt C H d S pa la ma as ls ms/\(∀l,l∈S.lines->l.1<l.2/\l.2<S.pts.length)/\
 ∀(H':Hp) (a:Addr) (rows:List Addr),Same H H'->LkAt H H' a rows ((aaT S.pts.length).map S.near)->Q (.ref a) H'
theorem scLinks:Aaa ["drawing","links","first","second","point"] ["drawing"] (Aa6 Aec):=fsc
def Bea (x:Str):Scope:={ kind:=.function,names:=[(aaY ".0",.local),(x,.local)],isGenerator:=false,isCoroutine:=false }
theorem Aye:Ase ["drawing","links","first","second","point"] (Aa6 Aec) (Bea "point") [("point",4)]=true:=by decide +kernel
theorem Afv {f C:Addr}{fd:aaX}(F:Def K mg "links_of" Aec ["drawing"] f fd)(T:Ac7 K C):FnOk P w K mg base CX0 1 f fd ["drawing"] (Ag7 C):=by
 refine F.go scLinks fun cdv A o s H vs Q E hr h=>?_;obtain⟨d,S,pa,la,ma,as,ls,ms,rfl,D,lin,k⟩:=h;obtain⟨dx,hd⟩:=D.ins
 refine⟨_,Aa2 (Adm (i:=1) (own:=[("point",4)]) rfl scLinks.nd rfl rfl (Aes rfl rfl rfl rfl) (Aaw (Aaj (pv 0) rfl)) (Abu Aye) (fun _ _ _ _ _=>pG 4 scLinks.nd) (fun _ _ _ _ _=>Ad5) (fun _ _ _ _ _=>Abb Aa3))
  (Aa2 (Aao aaQ rfl (Aaw (Aaj (pv 0) rfl)) (Abi rfl (Aab (pG 2 scLinks.nd) (Aab (pG 3 scLinks.nd) Aax)))
   (Aa2 (Abc (Ad9 abK acG acF Ab7 (pIL (pv 1) (pv 2)) (Aa0 (pv 3) Aa3)))
   (Aa4 (Abc (Ad9 abK acG acF Ab7 (pIL (pv 1) (pv 3)) (Aa0 (pv 2) Aa3))))))
  (Aa4 (Aa9 (pv 1)))),?_⟩
 refine⟨_,rfl,d,C,dx,_,_,rfl,hd,T.cl,T.nP,Ad0 _ _ _ _ _,pa,rfl,⟨_,SqL.of D.pts⟩,fun a ha=>?_⟩;refine Adf (K:=K) (a:=pa) (xs:=as.map V.ref) (fun i H'=>∃rows,Same H H'/\LkAt H H' a rows (amH i []) ) ⟨[],Same.new ha,Aa1,by simp,rfl,by simp,by simp,ha⟩ ?_ ?_ ?_
 ·rintro i H' _ ⟨rows,s1,_⟩;exact SqL.of (s1 _ _ D.pts)
 ·rintro i x H' hi ⟨rows,s1,L⟩;have il:i<as.length:=by
   have:=(aaB.mp hi).1;simpa using this
  have:=D.nP;have:=D.ptsA.len;refine⟨rfl,?_⟩;unfold Asw;dsimp only
  first | rw[ifp rfl] | rw[ifp trivial]
  refine⟨abO _,fun c hc=>⟨rows.map V.ref,?_,?_,?_⟩⟩
  ·rw[Aa5 (Aa8 L.lst hc)];exact L.lst
  ·have:=L.len;rw[aeS]at this;rw[aaA,this];exact anU (show i<4097 by lia) (by decide)
  ·refine⟨rows++[c],?_,?_⟩
   ·intro b o e;have e':=s1 b o e;rw[Aa5 (by intro q;rw[q,L.fa]at e;cases e),Aa5 (Aa8 e' hc)];exact e'
   ·have nc:c∉rows:=by
     intro m;obtain⟨j,hj,ej⟩:=abX.1 m;obtain⟨l,_,hl⟩:=L.at_ j c (by rw[aaE hj,ej]);rw[hl]at hc;cases hc
    have nca:c≠a:=fun q=>by rw[q,L.lst]at hc;cases hc
    refine⟨?_,?_,?_,?_,?_,L.fa⟩
    ·rw[Aa1,aaU];rfl
    ·exact Am3 L.nd nc
    ·have:=L.len;rw[aaM,aeS];rw[aeS]at this;simp[this]
    ·intro j b hb
     by_cases ej:j<rows.length
     ·rw[acL ej]at hb;obtain⟨l,el,hl⟩:=L.at_ j b hb;have nba:b≠a:=by
       intro q;have:b∈rows:=aaJ hb;rw[q]at hl;rw[L.lst]at hl;injection hl with q2
       injection q2 with q2
       rw[agR]at el
       split at el
       ·injection el with el
        subst el;cases rows with
        | nil=>simp at ej
        | cons r0 rs=>simp[vN]at q2
       ·cases el
      have nbc:b≠c:=fun q=>nc (by rw[<-q];exact aaJ hb);refine⟨l,?_,by rw[Aa5 nba,Aa5 nbc];exact hl⟩;have:=L.len;rw[aeS]at this;rw[agR]at el ⊢;rw[ifp (by lia)]at el ⊢;exact el
     ·have:=(aaB.mp hb).1;simp at this;have ej':j=rows.length:=by lia
      subst ej';simp at hb;subst hb;have:=L.len;rw[aeS]at this;refine⟨[],?_,by rw[Aa5 nca,Aa1];rfl⟩;rw[agR,ifp (by lia)]
    ·intro b hb;rcases abH.1 hb with q | q
     ·exact L.fr b q
     ·rw[abF]at q;subst q;exact s1.free hc
 ·rintro H1 ⟨rows,s1,L⟩;rw[aaA,D.ptsA.len]at L;have L0:LkAt H H1 a rows ((aaT S.pts.length).map (Ac1 (S.lines.take 0))):=by
   have:(aaT S.pts.length).map (Ac1 (S.lines.take 0))=amH S.pts.length []:=by
    apply aiT
    ·simp
    ·intro i _ _;simp[Ac1]
   rw[this];exact L
  obtain⟨dx',hd'⟩:=(D.same s1).ins
  refine⟨_,rfl,d,C,dx',_,_,rfl,hd',T.cl,T.nL,Aft _ _ _ _ _,la,rfl,⟨_,SqL.of (s1 _ _ D.lns)⟩,Abn (K:=K) (a:=la) (xs:=ls.map V.ref)
   (fun i σ H'=>∃v2 v3 v4:Option V,σ=[some (.ref d),some (.ref a),v2,v3,v4]/\Same H H'/\LkAt H H' a rows ((aaT S.pts.length).map (Ac1 (S.lines.take i)))) ⟨_,_,_,rfl,s1,L0⟩ (fun i σ H' _ ⟨_,_,_,_,s2,_⟩=>SqL.of (s2 _ _ D.lns)) ?_ ?_⟩
  ·rintro i y σ H' hi ⟨v2,v3,v4,rfl,s2,L⟩;obtain⟨c,hc,rfl⟩:=Aac hi;obtain⟨l,hl,lc⟩:=D.lnsA.at_ i c hc;have ll:=lin l (aaJ hl);have nl:=D.nL;have tl:(S.lines.take i).length<=8192:=abI (by rw[abJ];exact alA _ _) nl;have rl:rows.length=S.pts.length:=by have:=L.len;simpa using this
   obtain⟨c1,hc1⟩ : ∃c1,rows[l.1]?=some c1:=⟨_,aaE (by lia)⟩
   obtain⟨c2,hc2⟩ : ∃c2,rows[l.2]?=some c2:=⟨_,aaE (by lia)⟩
   have e1:((aaT S.pts.length).map (Ac1 (S.lines.take i)))[l.1]?=some (Ac1 (S.lines.take i) l.1):=by
    rw[aaH,adK (by lia)];rfl
   have L1:=L.push l.2 hc1 e1;obtain⟨q1,eq1,hq1⟩:=L.at_ l.1 c1 hc1;rw[e1]at eq1;cases eq1;have e2:(((aaT S.pts.length).map (Ac1 (S.lines.take i))).set l.1 (Ac1 (S.lines.take i) l.1++[l.2]))[l.2]?=some (Ac1 (S.lines.take i) l.2):=by
    rw[agC (by lia),aaH,adK (by lia)];rfl
   have L2:=L1.push l.1 hc2 e2;obtain⟨q2,eq2,hq2⟩:=L1.at_ l.2 c2 hc2;rw[e2]at eq2;cases eq2;have z1:(vN (Ac1 (S.lines.take i) l.1)).length<abB:=by
    unfold vN;rw[aaA];exact abY (abI (Agi _ _) tl) (by decide)
   have z2:(vN (Ac1 (S.lines.take i) l.2)).length<abB:=by
    unfold vN;rw[aaA];exact abY (abI (Agi _ _) tl) (by decide)
   refine⟨c,_,rfl,SqT.of (s2 _ _ lc),rfl,_,_,rfl,_,_,rfl,rfl,?_⟩;refine⟨_,rfl,_,rfl,a,_,_,V.ref c1,rfl,rfl,SqL.of L.lst,Ae6 (by rw[aaH,hc1];rfl),.inl ⟨rfl,_,SqL.of hq1⟩,_,rfl,c1,_,_,rfl,rfl,hq1,z1,?_⟩;have ev1:vN (Ac1 (S.lines.take i) l.1)++[V.int (l.2:Nat)]=vN (Ac1 (S.lines.take i) l.1++[l.2]):=by unfold vN;rw[aaU];rfl
   rw[ev1];refine⟨_,rfl,_,rfl,a,_,_,V.ref c2,rfl,rfl,SqL.of L1.lst,Ae6 (by rw[aaH,hc2];rfl),.inl ⟨rfl,_,SqL.of hq2⟩,_,rfl,c2,_,_,rfl,rfl,hq2,z2,?_⟩;have ev2:vN (Ac1 (S.lines.take i) l.2)++[V.int (l.1:Nat)]=vN (Ac1 (S.lines.take i) l.2++[l.1]):=by unfold vN;rw[aaU];rfl
   rw[ev2];refine⟨_,_,_,rfl,?_,?_⟩
   ·intro b o e;have n1:b≠c1:=fun q=>by rw[q,L.fr c1 (aaJ hc1)]at e;cases e
    have n2:b≠c2:=fun q=>by rw[q,L.fr c2 (aaJ hc2)]at e;cases e
    rw[Aa5 n2,Aa5 n1];exact s2 b o e
   ·rw[Ar7 ll.1 ll.2,<-Aai hl]at L2;exact L2
  ·rintro σ H' ⟨v2,v3,v4,rfl,s2,L⟩;refine⟨_,rfl,?_⟩;rw[aaA,D.lnsA.len,acA]at L;exact k H' a rows s2 L
abbrev At4:afD:=top Akv
abbrev Ake:afD:=top Ajj
abbrev Ag9:afD:=top Akt
abbrev Aeu:afD:=top Aou
abbrev At3:afD:=top Ajl
abbrev Awm:afD:=top Agn
abbrev Akg:afD:=Agt (top Adp) 0
abbrev Aj0:afD:=Agt (top Adp) 1
abbrev Akf:afD:=Agt (top Adp) 2
abbrev Aod:afD:=Agt (top Adp) 3
def vB (b:List UInt8):List V:=b.map fun c=>V.int (c.toNat:Nat)
theorem Ai7:∀(l:List UInt8) (c:UInt8),ahV (l++[c])=ahV l+c.toNat*2 ^ (8*l.length)
 | [],c=>by simp[ahV]
 | x::r,c=>by
  show x.toNat+256*ahV (r++[c])=x.toNat+256*ahV r+c.toNat*2 ^ (8*(r.length+1));rw[Ai7 r c,ajY (8) r.length 1,Nat.pow_add];have:(2:Nat) ^ (8*1)=256:=by decide
  rw[this,ajY,<-Nat.mul_assoc (c.toNat),Nat.mul_comm 256 (c.toNat*_),Nat.add_assoc]
theorem Atz {b:List UInt8}{p i:Nat}{c:UInt8}(h:b[p+i]?=some c):aaW b p (i+1)=aaW b p i+c.toNat*2 ^ (8*i):=by
 unfold aaW;have hi:=(aaB.mp h).1;have e:(b.drop p)[i]?=some c:=by rw[akG];exact h
 rw[Aai e,Ai7,abJ,afO,ajI (by lia)]
theorem Aty (b:List UInt8)(p:Nat):aaW b p 0=0:=by unfold aaW;simp[ahV]
theorem Bar (b:List UInt8)(p:Nat):∀w,aaW b p w<2 ^ (8*w):=by
 intro w;unfold aaW;have key:∀l:List UInt8,ahV l<2 ^ (8*l.length):=by
  intro l
  induction l with
  | nil=>simp[ahV]
  | cons c r ih =>
   show c.toNat+256*ahV r<2 ^ (8*(r.length+1));rw[ajY,Nat.pow_add];have h1:=c.toNat_lt;have:(2:Nat) ^ (8*1)=256:=by decide
   rw[this];lia
 have h:=key ((b.drop p).take w);have:((b.drop p).take w).length<=w:=by rw[abJ];exact Nat.min_le_left _ _
 exact abV h (Nat.pow_le_pow_right (by decide) (by lia))
def Awc (K:abA):Sp:=fun vs H Q _=>∃(a:Addr) (b:List UInt8) (p w:Nat),vs=[.ref a,.int p,.int w]/\SqL K H a (vB b)/\p+w<=b.length/\w<=8/\Q (.int (aaW b p w:Nat)) H
theorem scNum:Aaa ["row","place","size","number","k"] ["row","place","size"] (Aa6 At4):=fsc
theorem Avj {f:Addr}{fd:aaX}(F:Def K mg "number_at" At4 ["row","place","size"] f fd)(nr:mg "range" = none):FnOk P w K mg base CX0 1 f fd ["row","place","size"] (Awc K):=by
 refine F.go scNum fun cdv A o s H vs Q E hr h=>?_;obtain⟨a,b,p,wd,rfl,hb,hl,hw,k⟩:=h
 refine⟨_,Aa2 (pS 3 scNum.nd Aa7)
  (Aa2 (Aao aaQ rfl (Abz rfl nr (Aa0 (pv 2) Aa3)) (pG 4 scNum.nd)
   (Aa4 (An8 (i:=3) scNum.nd rfl (akZ rfl) (Aay Ba8 (pIL (pv 0) (Aay Aef (pv 1) (pv 4))) (Aay Ack Aa7 (pv 4))) Arn)))
  (Aa4 (Aa9 (pv 3)))),?_⟩
 refine⟨_,rfl,(wd:Int),rfl,by lia,by lia,?_⟩;have e0:((wd:Int)).toNat=wd:=by lia
 rw[e0];refine Ac4 (n:=wd) (fun i σ H'=>H'=H/\∃v:Option V,σ=[some (.ref a),some (.int p),some (.int wd),some (.int (aaW b p i:Nat)),v]) ⟨rfl,none,by rw[Aty];rfl⟩ ?_ ?_
 ·rintro i σ H' hi ⟨rfl,v,rfl⟩;obtain⟨c,hc⟩ : ∃c,b[p+i]?=some c:=⟨_,aaE (by lia)⟩
  have at1:atI (vB b) ((p:Int)+((0:Int)+(i:Nat)))=some (V.int (c.toNat:Nat)):=Alg (j:=p+i) (by lia) (by unfold vB;rw[aaH,hc];rfl);have cl:=c.toNat_lt
  have cp:Bdy ((c.toNat:Nat):Int) (8*((0:Int)+(i:Nat))):=⟨by lia,by lia,by
   show((c.toNat:Nat):Int).natAbs<2 ^ 64;have:((c.toNat:Nat):Int).natAbs=c.toNat:=by lia
   rw[this];exact abV cl (by decide)⟩
  refine⟨_,rfl,_,rfl,_,rfl,_,rfl,_,_,rfl,rfl,a,_,_,_,rfl,rfl,hb,at1,_,rfl,_,_,rfl,rfl,.inl (by lia),_,_,rfl,rfl,cp,_,_,rfl,rfl,rfl,some (.int ((0:Int)+(i:Nat))),?_⟩;have e1:(8*((0:Int)+(i:Nat))).toNat=8*i:=by lia
  have e2:((aaW b p i:Nat):Int)+((c.toNat:Nat):Int)*2 ^ (8*((0:Int)+(i:Nat))).toNat=((aaW b p (i+1):Nat):Int):=by
   rw[Atz hc,e1,ahT,agS,Int.natCast_pow];rfl
  exact congrArg (fun z=>[some (V.ref a),some (.int p),some (.int wd),some (.int z),some (.int ((0:Int)+(i:Nat)))]) e2
 ·rintro σ H' ⟨rfl,v,rfl⟩;exact⟨_,rfl,k⟩
theorem TupsAt.nil {α:Type}{tv:α->List V}{H:Hp}:TupsAt tv H [] []:=⟨rfl,by simp⟩
theorem TupsAt.push {α:Type}{tv:α->List V}{H:Hp}{as:List Addr}{xs:List α}{t:Addr}{x:α}(h:TupsAt tv H as xs)(ht:H t=some (.tup (tv x))):TupsAt tv H (as++[t]) (xs++[x]):=by
 refine⟨by rw[aaM,aaM,h.len];rfl,fun j c hc=>?_⟩
 by_cases ej:j<as.length
 ·rw[acL ej]at hc;obtain⟨l,el,hl⟩:=h.at_ j c hc;exact⟨l,by rw[acL (by rw[<-h.len];exact ej)];exact el,hl⟩
 ·have:=(aaB.mp hc).1;simp at this;have:j=as.length:=by lia
  subst this;simp at hc;subst hc;exact⟨x,by rw[h.len,agB (aaK _)];simp,ht⟩
theorem TupsAt.lst {α:Type}{tv:α->List V}{H:Hp}{as:List Addr}{xs:List α}{q:Addr}{l l':List V}(h:TupsAt tv H as xs)(hq:H q=some (.lst l)):TupsAt tv (upd H q (.lst l')) as xs :=
 ⟨h.len,fun j c hc=>let ⟨x,e,hx⟩:=h.at_ j c hc;⟨x,e,by rw[Aa5 (Ac2 hx hq (by intro z;cases z))];exact hx⟩⟩
theorem Same.grow {H0 H H':Hp}{q:Addr}{o:HO}(s1:Same H0 H)(hq:H0 q=none)(s2:Same H H'):Same H0 (upd H' q o):=fun b u e=>by
 rw[Aa5 (Aa8 e hq)];exact s2 _ _ (s1 _ _ e)
def Tab (K:abA)(mg:Str->Option aaF)(x:Str)(ns:List Int):Prop:=∃a,mg x=some (.ref a)/\∀H,SqT K H a (ns.map V.int)
structure Cst (K:abA)(mg:Str->Option aaF):Prop where
 head:∃t,mg "HEAD_BYTES" = some (.int 20 t)
 letters:Tab K mg "LETTERS" [71,76,65,49]
 hsz:Tab K mg "HEAD_SIZES" [4,4,2,2,2,2]
 psz:Tab K mg "POINT_SIZES" [4,4]
 lsz:Tab K mg "LINE_SIZES" [2,2]
 msz:Tab K mg "MARK_SIZES" [4,4,2,2]
 nsum:mg "sum" = none
 ntup:mg "tuple" = none
def Aca (b:List UInt8):Nat->List Nat->List Nat
 | _,[]=>[]
 | p,s::r=>aaW b p s::Aca b (p+s) r
def vI (l:List Nat):List Int:=l.map fun(n:Nat)=>(n:Int)
theorem Az2 (l:List Nat):(vI l).sum=(l.sum:Nat):=by
 induction l with
 | nil=>rfl
 | cons a r ih=>show(a:Int)+(vI r).sum=_;rw[ih,amS];lia
theorem Az3 {l:List Nat}{i:Nat}{y:V}(h:((vI l).map V.int)[i]?=some y):∃n,l[i]?=some n/\y=V.int (n:Nat):=by
 unfold vI at h;rw[acC,aaH]at h;cases e:l[i]? with
 | none=>rw[e]at h;cases h
 | some c=>rw[e]at h;exact⟨c,rfl,(abD h).symm⟩
theorem Aeg (b:List UInt8):∀(l r:List Nat) (p:Nat),Aca b p (l++r)=Aca b p l++Aca b (p+l.sum) r
 | [],r,p=>by simp[Aca]
 | a::l,r,p=>by
  show aaW b p a::Aca b (p+a) (l++r)=aaW b p a::Aca b (p+a) l++Aca b (p+(a::l).sum) r;rw[Aeg b l r (p+a),amS,Nat.add_assoc];rfl
theorem Ai6 (b:List UInt8):∀(l:List Nat) (p:Nat),(Aca b p l).length=l.length
 | [],p=>rfl
 | a::l,p=>by show(Aca b (p+a) l).length+1=_;rw[Ai6];rfl
theorem Air {l:List Nat}{i n:Nat}(h:l[i]?=some n):(l.take (i+1)).sum=(l.take i).sum+n:=by
 rw[Aai h];simp
theorem Alo (l:List Nat)(i:Nat):(l.take i).sum<=l.sum:=by
 conv=>rhs;rw[<-afW i l]
 rw[List.sum_append];lia
def Amx (K:abA):Sp:=fun vs H Q _=>∃(a z:Addr) (b:List UInt8) (p:Nat) (ss:List Nat),vs=[.ref a,.int p,.ref z]/\SqL K H a (vB b)/\SqT K H z ((vI ss).map V.int)/\p+ss.sum<=b.length/\(∀n,n∈ss->n<=8)/\ss.length<=8/\
 ∀(H':Hp) (t:Addr),Same H H'->H' t=some (.tup (vN (Aca b p ss)))->Q (.ref t) H'
theorem scNums:Aaa ["row","place","sizes","numbers","size"] ["row","place","sizes"] (Aa6 Ake):=fsc
theorem Aqv {f fN:Addr}{fd fdN:aaX}(F:Def K mg "numbers_at" Ake ["row","place","sizes"] f fd)(FN:Def K mg "number_at" At4 ["row","place","size"] fN fdN)(nr:mg "range" = none)(nt:mg "tuple" = none) :
 FnOk P w K mg base CX0 2 f fd ["row","place","sizes"] (Amx K):=by
 have GN:FnOk P w K mg base CX0 1 fN fdN ["row","place","size"] (Awc K):=Avj FN nr;refine F.go scNums fun cdv A o s H vs Q E hr h=>?_;obtain⟨a,z,b,p,ss,rfl,hb,hz,hl,h8,n8,k⟩:=h
 refine⟨_,Aa2 (pS 3 scNums.nd (Abb Aa3))
  (Aa2 (Aao aaQ rfl (Akn (pv 2)) (pG 4 scNums.nd)
   (Aa2 (Abc (Ad9 abK acG acF Ab7 (pv 3) (Aa0 (pCD FN GN hr (Aa0 (pv 0) (Aa0 (pv 1) (Aa0 (pv 4) Aa3)))) Aa3)))
   (Aa4 (An8 (i:=1) scNums.nd rfl (akZ rfl) (pv 4) Arn))))
  (Aa4 (Aa9 (Agf Aep (by rfl) nt (by decide +kernel) (Aa0 (pv 3) Aa3))))),?_⟩
 refine⟨abO _,fun q hq=>?_⟩;have vl:((vI ss).map V.int).length=ss.length:=by unfold vI;simp
 refine⟨_,rfl,z,rfl,⟨_,Same.tup (Same.new hq) hz⟩,?_⟩;refine Agz (K:=K) (a:=z) (xs:=(vI ss).map V.int) (fun i σ H'=>∃(v:Option V),σ=[some (.ref a),some (.int (p+(ss.take i).sum:Nat)),some (.ref z),some (.ref q),v]/\Same H H'/\H' q=some (.lst (vN (Aca b p (ss.take i)))))
  ⟨none,by simp;rfl,Same.new hq,Aa1⟩ (fun i σ H' _ ⟨_,_,s1,_⟩=>Same.tup s1 hz) ?_ ?_
 ·rintro i y σ H' hi ⟨v,rfl,s1,hq'⟩;obtain⟨n,hn,rfl⟩:=Az3 hi;have il:=(aaB.mp hn).1;have e1:=Air hn;have e2:=Alo ss (i+1);refine⟨_,rfl,.inl ⟨rfl,_,SqL.of hq'⟩,_,rfl,_,rfl,_,rfl,a,b,p+(ss.take i).sum,n,rfl,s1.seq hb,by lia,h8 n (aaJ hn),q,_,_,rfl,rfl,hq',?_,?_⟩
  ·unfold vN;rw[aaA,Ai6,abJ];exact szN (by lia)
  ·have e3:((p+(ss.take i).sum:Nat):Int)+((n:Nat):Int)=((p+(ss.take (i+1)).sum:Nat):Int):=by lia
   refine⟨_,rfl,_,rfl,_,_,rfl,rfl,some (.int n),?_,Same.grow s1 hq (fun _ _ e=>e),?_⟩
   ·show [some (V.ref a),some (V.int (((p+(ss.take i).sum:Nat):Int)+((n:Nat):Int))),_,_,_]=_;rw[e3]
   ·rw[Aa1,Aai hn,Aeg];unfold vN;rw[aaU];rfl
 ·rintro σ H' ⟨v,rfl,s1,hq'⟩;rw[vl,acA]at hq';refine⟨_,rfl,q,_,rfl,.inl ⟨SqL.of hq',fun t ht=>?_⟩⟩;exact k _ t (s1.trans (Same.new ht)) Aa1
def thg (b:List UInt8)(st mn:Nat)(ss:List Nat):List (List Nat):=(aaT mn).map fun k=>Aca b (st+ss.sum*k) ss
theorem Acg (b:List UInt8)(st mn:Nat)(ss:List Nat):(thg b st mn ss).length=mn:=by unfold thg;simp
theorem Aip (b:List UInt8)(st:Nat){mn i:Nat}(ss:List Nat)(h:i<mn):(thg b st mn ss)[i]?=some (Aca b (st+ss.sum*i) ss):=by
 unfold thg;rw[aaH,adK h];rfl
def Amw (K:abA):Sp:=fun vs H Q _=>∃(a z:Addr) (b:List UInt8) (st mn:Nat) (ss:List Nat),vs=[.ref a,.int st,.int mn,.ref z]/\SqL K H a (vB b)/\SqT K H z ((vI ss).map V.int)/\st+ss.sum*mn<=b.length/\(∀n,n∈ss->n<=8)/\ss.length<=8/\ss.sum<4294967296/\mn<65536/\
 ∀(H':Hp) (q:Addr) (as:List Addr),Same H H'->H' q=some (.lst (as.map V.ref))->TupsAt vN H' as (thg b st mn ss)->Q (.ref q) H'
def Be8:Scope:={ kind:=.function,names:=[(aaY ".0",.local),(aaY "k",.local),(aaY "numbers_at",.globalImplicit),(aaY "place",.free),(aaY "row",.free),(aaY "sizes",.free),(aaY "step",.free)],isGenerator:=false,isCoroutine:=false }
theorem scThings:Aaa ["row","place","many","sizes","step","k"] ["row","place","many","sizes"] (Aa6 Ag9):=fsc
theorem Aus:Ase ["row","place","many","sizes","step","k"] (Aa6 Ag9) Be8 [("k",5)]=true:=by decide +kernel
theorem Aqt {f fN fM:Addr}{fd fdN fdM:aaX}(F:Def K mg "things_at" Ag9 ["row","place","many","sizes"] f fd)(FM:Def K mg "numbers_at" Ake ["row","place","sizes"] fM fdM)(FN:Def K mg "number_at" At4 ["row","place","size"] fN fdN)(nr:mg "range" = none)(c:Cst K mg) :
 FnOk P w K mg base CX0 3 f fd ["row","place","many","sizes"] (Amw K):=by
 have GM:FnOk P w K mg base CX0 2 fM fdM ["row","place","sizes"] (Amx K):=Aqv FM FN nr c.ntup;refine F.go scThings fun cdv A o s H vs Q E hr h=>?_;obtain⟨a,z,b,st,mn,ss,rfl,hb,hz,hl,h8,n8,sl,hm,k⟩:=h
 refine⟨_,Aa2 (Ave (i:=4) scThings.nd rfl (anD rfl) (Aae (Ac6 rfl) (by rfl) c.nsum (by decide +kernel) (Aa0 (pv 3) Aa3)))
  (Aa4 (Aa9 (Atg (te:=Aiq (Amx K) [] E0 (Ab6 (Abv 0) (Ab6 (tOp (rI0 fun i j=>.int (i+j)) (Abv 1) (tOp (rI CMul fun i j=>.int (i*j)) (Abv 4) (Abv 5))) (Ab6 (Abv 3) Ahb)))) (own:=[("k",5)]) rfl scThings.nd (Abz rfl nr (Aa0 (pv 2) Aa3)) (Abu Aus) (fun _ _ _ _ _=>pG 5 scThings.nd) (fun _ _ _ _ _=>Ad5)
   (fun _ _ _ _ _=>pCD FM GM hr (Aa0 (pv 0) (Aa0 (Aay Aef (pv 1) (Aay Ack (pv 4) (pv 5))) (Aa0 (pv 3) Aa3))))))),?_⟩
 refine⟨_,rfl,z,vI ss,_,rfl,hz,Az2 ss,?_⟩;refine⟨_,rfl,(mn:Int),rfl,by lia,by lia,?_⟩;have e0:((mn:Int)).toNat=mn:=by lia
 rw[e0];refine fun D1 hD1=>?_;refine Anl (n:=mn) (fun i H'=>∃as:List Addr,Same H H'/\H' D1=some (.lst (as.map V.ref))/\TupsAt vN H' as ((thg b st mn ss).take i)) ⟨[],Same.new hD1,Aa1,TupsAt.nil⟩ ?_ ?_
 ·rintro i H' hi ⟨as,s1,hd1,L⟩;refine⟨rfl,?_⟩;unfold Asw;dsimp only
  first | rw[ifp rfl] | rw[ifp trivial]
  have mul:ss.sum*(i+1)<=ss.sum*mn:=Nat.mul_le_mul_left _ hi;rw[ajY,Nat.mul_one]at mul;have e1:(st:Int)+((ss.sum:Nat):Int)*((0:Int)+(i:Nat))=((st+ss.sum*i:Nat):Int):=by
   rw[ahT,agS,Int.zero_add]
  have al:as.length=i:=by
   have:=L.len;rw[abJ,Acg]at this;lia
  refine⟨_,rfl,_,rfl,_,rfl,_,rfl,_,_,rfl,rfl,.inl (by lia),_,_,rfl,rfl,_,rfl,a,z,b,st+ss.sum*i,ss,(by rw[<-e1];rfl),s1.seq hb,Same.tup s1 hz,by lia,h8,n8,fun H2 t s2 ht=>?_⟩;refine⟨_,s2 _ _ hd1,by rw[aaA,al];exact anU (show i<65536 by lia) (by decide),as++[t],Same.grow s1 hD1 s2,?_,?_⟩
  ·rw[Aa1,aaU];rfl
  ·rw[Aai (Aip b st ss hi)];exact((L.same s2).push ht).lst (s2 _ _ hd1)
 ·rintro H' ⟨as,s1,hd1,L⟩;rw[aeP (by rw[Acg];lia)]at L;exact k H' D1 as s1 hd1 L
def Ajo (b:List UInt8):List Nat:=[aaW b 4 4,aaW b 8 4,aaW b 12 2,aaW b 14 2,aaW b 16 2,aaW b 18 2]
def Aiw (K:abA):Sp:=fun vs H Q _=>∃(a:Addr) (b:List UInt8),vs=[.ref a]/\SqL K H a (vB b)/\20<=b.length/\
 ∀(H':Hp) (t:Addr),Same H H'->H' t=some (.tup (vN (Ajo b)))->Q (.ref t) H'
theorem Asz:Aaa ["row"] ["row"] (Aa6 Aeu):=fsc
theorem Akp {f fN fM:Addr}{fd fdN fdM:aaX}(F:Def K mg "head_of" Aeu ["row"] f fd)(FM:Def K mg "numbers_at" Ake ["row","place","sizes"] fM fdM)(FN:Def K mg "number_at" At4 ["row","place","size"] fN fdN)(nr:mg "range" = none)(nl:mg "len" = none)(c:Cst K mg) :
 FnOk P w K mg base CX0 3 f fd ["row"] (Aiw K):=by
 have GM:FnOk P w K mg base CX0 2 fM fdM ["row","place","sizes"] (Amx K):=Aqv FM FN nr c.ntup;obtain⟨aL,mL,sL⟩:=c.letters;obtain⟨aH,mH,sH⟩:=c.hsz;refine F.go Asz fun cdv A o s H vs Q E hr h=>?_;obtain⟨a,b,rfl,hb,hl,k⟩:=h;refine⟨_,Aa4 (Aa9 (pCD FM GM hr (Aa0 (pv 0) (Aa0 (Aae Aad (by rfl) nl acB (Aa0 (Aaq (v:=V.ref aL) rfl mL rfl) Aa3)) (Aa0 (Aaq (v:=V.ref aH) rfl mH rfl) Aa3))))),?_⟩
 exact⟨_,rfl,aL,_,rfl,.inr (sL _),a,aH,b,4,[4,4,2,2,2,2],rfl,hb,sH _,by simp;lia,by decide,by decide,fun H' t s1 ht=>k H' t s1 ht⟩
def Av5 (K:abA):Sp:=fun vs H Q _=>∃(a:Addr) (b:List UInt8),vs=[.ref a]/\SqL K H a (vB b)/\20<=b.length/\∀H',Same H H'->Q (.int (20+8*aaW b 12 2+4*aaW b 14 2+12*aaW b 16 2:Nat)) H'
theorem scTold:Aaa ["row","head"] ["row"] (Aa6 At3):=fsc
theorem Ax7 {f fH fN fM:Addr}{fd fdH fdN fdM:aaX}(F:Def K mg "bytes_told" At3 ["row"] f fd)(FH:Def K mg "head_of" Aeu ["row"] fH fdH)(FM:Def K mg "numbers_at" Ake ["row","place","sizes"] fM fdM)(FN:Def K mg "number_at" At4 ["row","place","size"] fN fdN)(nr:mg "range" = none)(nl:mg "len" = none)(c:Cst K mg) :
 FnOk P w K mg base CX0 4 f fd ["row"] (Av5 K):=by
 have GH:FnOk P w K mg base CX0 3 fH fdH ["row"] (Aiw K):=Akp FH FM FN nr nl c;obtain⟨t1,c1⟩:=c.head;obtain⟨aP,mP,sP⟩:=c.psz;obtain⟨aL,mL,sL⟩:=c.lsz;obtain⟨aM,mM,sM⟩:=c.msz;refine F.go scTold fun cdv A o s H vs Q E hr h=>?_;obtain⟨a,b,rfl,hb,hl,k⟩:=h
 refine⟨_,Aa2 (pS 1 scTold.nd (pCD FH GH hr (Aa0 (pv 0) Aa3)))
  (Aa4 (Aa9 (Aay Aef (Aay Aef (Aay Aef (Aaq (v:=.int 20) rfl c1 ⟨t1,rfl⟩)
   (Aay Ack (Aae (Ac6 rfl) (by rfl) c.nsum (by decide +kernel) (Aa0 (Aaq (v:=V.ref aP) rfl mP rfl) Aa3)) (pIT (pv 1) Aa7)))
   (Aay Ack (Aae (Ac6 rfl) (by rfl) c.nsum (by decide +kernel) (Aa0 (Aaq (v:=V.ref aL) rfl mL rfl) Aa3)) (pIT (pv 1) Aa7)))
   (Aay Ack (Aae (Ac6 rfl) (by rfl) c.nsum (by decide +kernel) (Aa0 (Aaq (v:=V.ref aM) rfl mM rfl) Aa3)) (pIT (pv 1) Aa7))))),?_⟩
 refine⟨_,rfl,a,b,rfl,hb,hl,fun H1 t s1 ht=>?_⟩;have g:=SqT.of (K:=K) ht
 refine⟨aP,_,8,rfl,sP _,rfl,_,rfl,t,_,_,_,rfl,rfl,g,rfl,_,_,rfl,rfl,.inl (by decide),_,_,rfl,rfl,
  aL,_,4,rfl,sL _,rfl,_,rfl,t,_,_,_,rfl,rfl,g,rfl,_,_,rfl,rfl,.inl (by decide),_,_,rfl,rfl,
  aM,_,12,rfl,sM _,rfl,_,rfl,t,_,_,_,rfl,rfl,g,rfl,_,_,rfl,rfl,.inl (by decide),_,_,rfl,rfl,?_⟩
 have e:(20:Int)+8*((aaW b 12 2:Nat):Int)+4*((aaW b 14 2:Nat):Int)+12*((aaW b 16 2:Nat):Int)=((20+8*aaW b 12 2+4*aaW b 14 2+12*aaW b 16 2:Nat):Int):=by lia
 have k:=k H1 s1;rw[<-e]at k;exact k
def Alr (C:Addr):Sp:=fun vs H Q _=>∃(p dx:Addr) (w h:Nat) (pa la ma:Addr),vs=[.ref p,.int w,.int h,.ref pa,.ref la,.ref ma]/\H p=some (.ins C dx [])/\∀H':Hp,H' p=some (.ins C dx (dfs w h pa la ma))->(∀b o,H b=some o->b≠p->H' b=some o)->Q .non H'
theorem Aew (b:List UInt8)(p:Nat):aaW b p 4<4294967296:=Bar b p 4
theorem Abs {f:Str}{v:V}{fs:List (Str×V)}{n:Nat}(h:fs.length<=n):(Adx f v fs).length<=n+1:=abI (Ae2 f v fs) (Nat.succ_le_succ h)
theorem Ah1 (w h:Nat)(pa la ma:Addr):dfs w h pa la ma=[(aaY "width",V.int w),(aaY "height",V.int h),(aaY "points",V.ref pa),(aaY "lines",V.ref la),(aaY "marks",V.ref ma)]:=by
 unfold dfs;have e1:¬(aaY "width") = "height":=by decide +kernel
 have e2:¬(aaY "width") = "points":=by decide +kernel
 have e3:¬(aaY "width") = "lines":=by decide +kernel
 have e4:¬(aaY "width") = "marks":=by decide +kernel
 have e5:¬(aaY "height") = "points":=by decide +kernel
 have e6:¬(aaY "height") = "lines":=by decide +kernel
 have e7:¬(aaY "height") = "marks":=by decide +kernel
 have e8:¬(aaY "points") = "lines":=by decide +kernel
 have e9:¬(aaY "points") = "marks":=by decide +kernel
 have e10:¬(aaY "lines") = "marks":=by decide +kernel
 simp only[Adx,ifn e1,ifn e2,ifn e3,ifn e4,ifn e5,ifn e6,ifn e7,ifn e8,ifn e9,ifn e10]
theorem Auo (w h:Nat)(pa la ma x:Addr):Adx "points" (.ref x) (dfs w h pa la ma)=dfs w h x la ma:=by
 rw[Ah1,Ah1];have e2:¬(aaY "width") = "points":=by decide +kernel
 have e5:¬(aaY "height") = "points":=by decide +kernel
 simp only[Adx,ifn e2,ifn e5,if_true]
theorem Auq (w h:Nat)(pa la ma x:Addr):Adx "lines" (.ref x) (dfs w h pa la ma)=dfs w h pa x ma:=by
 rw[Ah1,Ah1];have e2:¬(aaY "width") = "lines":=by decide +kernel
 have e5:¬(aaY "height") = "lines":=by decide +kernel
 have e8:¬(aaY "points") = "lines":=by decide +kernel
 simp only[Adx,ifn e2,ifn e5,ifn e8,if_true]
theorem Aup (w h:Nat)(pa la ma x:Addr):Adx "marks" (.ref x) (dfs w h pa la ma)=dfs w h pa la x:=by
 rw[Ah1,Ah1];have e2:¬(aaY "width") = "marks":=by decide +kernel
 have e5:¬(aaY "height") = "marks":=by decide +kernel
 have e8:¬(aaY "points") = "marks":=by decide +kernel
 have e9:¬(aaY "lines") = "marks":=by decide +kernel
 simp only[Adx,ifn e2,ifn e5,ifn e8,ifn e9,if_true]
theorem Aml (w h:Nat)(pa la ma:Addr):(dfs w h pa la ma).length<1000:=by rw[Ah1];show 5<1000;decide
theorem Awj:Aaa ["self","width","height","points","lines","marks"] ["self","width","height","points","lines","marks"] (Aa6 Akg):=fsc
theorem Ang {f C:Addr}{fd:aaX}(F:Fun K "__init__" "Drawing.__init__" Akg f fd)(T:Ac7 K C):FnOk P w K mg base CX0 1 f fd ["self","width","height","points","lines","marks"] (Alr C):=by
 refine F.ok Awj (fun vs H Q E h=>?_) (fun cdv A outer s H vs Q E hr h=>?_)
 ·obtain⟨p,dx,w,h,pa,la,ma,rfl,_⟩:=h;rfl
 ·obtain⟨p,dx,w,h,pa,la,ma,rfl,hp,k⟩:=h;refine⟨_,Aa2 (Ad7 (pv 0) (pv 1) rfl) (Aa2 (Ad7 (pv 0) (pv 2) rfl) (Aa2 (Ad7 (pv 0) (pv 3) rfl) (Aa2 (Ad7 (pv 0) (pv 4) rfl) (Aa4 (Ad7 (pv 0) (pv 5) rfl))))),?_⟩;refine⟨_,rfl,_,rfl,p,C,dx,_,rfl,hp,T.cl,T.nW,(by show 0<1000;decide),?_⟩;have l0:([]:List (Str×V)).length<=0:=aaK _;refine⟨_,rfl,_,rfl,p,C,dx,_,rfl,Aa1,T.cl,T.nH,abY (Abs l0) (by decide),?_⟩
  refine⟨_,rfl,_,rfl,p,C,dx,_,rfl,Aa1,T.cl,T.nP,abY (Abs (Abs l0)) (by decide),?_⟩;refine⟨_,rfl,_,rfl,p,C,dx,_,rfl,Aa1,T.cl,T.nL,abY (Abs (Abs (Abs l0))) (by decide),?_⟩;refine⟨_,rfl,_,rfl,p,C,dx,_,rfl,Aa1,T.cl,T.nM,abY (Abs (Abs (Abs (Abs l0)))) (by decide),?_⟩;refine k _ Aa1 fun b o e hb=>?_;rw[Aa5 hb,Aa5 hb,Aa5 hb,Aa5 hb,Aa5 hb];exact e
theorem Azp:Aaa ["self","number"] ["self","number"] (Aa6 Aj0):=fsc
def Adw (C:Addr):Sp:=fun vs H Q _=>∃(d:Addr) (n:Nat),vs=[.ref d,.int n]/\Q (.int (acY n:Nat)) H
theorem Ae0 {f C:Addr}{fd:aaX}(F:Fun K "point_place" "Drawing.point_place" Aj0 f fd)(c:Cst K mg):FnOk P w K mg base CX0 1 f fd ["self","number"] (Adw C):=by
 obtain⟨t1,c1⟩:=c.head;obtain⟨aP,mP,sP⟩:=c.psz;refine F.ok Azp (fun vs H Q E h=>?_) (fun cdv A outer s H vs Q E hr h=>?_)
 ·obtain⟨d,n,rfl,_⟩:=h;rfl
 ·obtain⟨d,n,rfl,k⟩:=h;refine⟨_,Aa4 (Aa9 (Aay Aef (Aaq (v:=.int 20) rfl c1 ⟨t1,rfl⟩) (Aay Ack (Aae (Ac6 rfl) (by rfl) c.nsum (by decide +kernel) (Aa0 (Aaq (v:=V.ref aP) rfl mP rfl) Aa3)) (pv 1)))),?_⟩;refine⟨aP,_,8,rfl,sP _,rfl,_,rfl,_,_,rfl,rfl,.inl (by decide),_,_,rfl,rfl,?_⟩;have e:(20:Int)+8*(n:Int)=((acY n:Nat):Int):=by unfold acY Gla.HEAD;lia
  rw[<-e]at k;exact k
def Alq (C:Addr):Sp:=fun vs H Q _=>∃(d dx:Addr) (n wd ht:Nat) (pa la ma:Addr) (xs:List V),vs=[.ref d,.int n]/\H d=some (.ins C dx (dfs wd ht pa la ma))/\H pa=some (.lst xs)/\Q (.int (20+8*xs.length+4*n:Nat)) H
def Apz (C:Addr):Sp:=fun vs H Q _=>∃(d:Addr) (n:Nat) (S:Plan) (pa la ma:Addr) (as ls ms:List Addr),vs=[.ref d,.int n]/\DrawAt C H d S pa la ma as ls ms/\Q (.int (aeA S n:Nat)) H
theorem Azs:Aaa ["self","number"] ["self","number"] (Aa6 Akf):=fsc
theorem Aj7 {f fP C:Addr}{fd fdP:aaX}(F:Fun K "line_place" "Drawing.line_place" Akf f fd)(FP:Fun K "point_place" "Drawing.point_place" Aj0 fP fdP)(bP:Binds K fdP ["self","number"] [])(mP:All K C "point_place" fP)(T:Ac7 K C)(c:Cst K mg)(nl:mg "len" = none) :
 FnOk P w K mg base CX0 2 f fd ["self","number"] (Alq C):=by
 have GP:FnOk P w K mg base CX0 1 fP fdP ["self","number"] (Adw C):=Ae0 FP c;obtain⟨aL,mL,sL⟩:=c.lsz;refine F.ok Azs (fun vs H Q E h=>?_) (fun cdv A outer s H vs Q E hr h=>?_)
 ·obtain⟨d,dx,n,wd,ht,pa,la,ma,xs,rfl,_⟩:=h;rfl
 ·obtain⟨d,dx,n,wd,ht,pa,la,ma,xs,rfl,hd,hpa,k⟩:=h
  refine⟨_,Aa4 (Aa9 (Aay Aef (Ab2 (pv 0) T.cl mP GP hr bP .nil Abm (Aa0 (Aae Aad (by rfl) nl acB (Aa0 (Aaj (pv 0) rfl) Aa3)) Aa3))
   (Aay Ack (Aae (Ac6 rfl) (by rfl) c.nsum (by decide +kernel) (Aa0 (Aaq (v:=V.ref aL) rfl mL rfl) Aa3)) (pv 1)))),?_⟩
  refine⟨_,rfl,d,dx,_,rfl,hd,Ac5 _ _ _ _ _,_,rfl,d,C,dx,_,_,rfl,hd,T.cl,T.nP,Ad0 _ _ _ _ _,pa,_,rfl,.inl (SqL.of hpa),?_⟩;refine⟨d,xs.length,rfl,aL,_,4,rfl,sL _,rfl,_,rfl,_,_,rfl,rfl,.inl (by decide),_,_,rfl,rfl,?_⟩;have e:((acY xs.length:Nat):Int)+4*(n:Int)=((20+8*xs.length+4*n:Nat):Int):=by unfold acY Gla.HEAD;lia
  rw[<-e]at k;exact k
theorem Aqx {f fP C:Addr}{fd fdP:aaX}(F:Fun K "line_place" "Drawing.line_place" Akf f fd)(FP:Fun K "point_place" "Drawing.point_place" Aj0 fP fdP)(bP:Binds K fdP ["self","number"] [])(mP:All K C "point_place" fP)(T:Ac7 K C)(c:Cst K mg)(nl:mg "len" = none) :
 FnOk P w K mg base CX0 2 f fd ["self","number"] (Apz C) :=
 (Aj7 F FP bP mP T c nl).imp fun vs H Q E h=>by
  obtain⟨d,n,S,pa,la,ma,as,ls,ms,rfl,D,k⟩:=h;obtain⟨dx,hd⟩:=D.ins;refine⟨d,dx,n,_,_,pa,la,ma,_,rfl,hd,D.pts,?_⟩;have e:20+8*(as.map V.ref).length+4*n=aeA S n:=by rw[aaA,D.ptsX.len];rfl
  rw[e];exact k
def Apx (C:Addr):Sp:=fun vs H Q _=>∃(d dx:Addr) (n wd ht:Nat) (pa la ma:Addr) (xs ys:List V),vs=[.ref d,.int n]/\H d=some (.ins C dx (dfs wd ht pa la ma))/\H pa=some (.lst xs)/\H la=some (.lst ys)/\Q (.int (20+8*xs.length+4*ys.length+12*n:Nat)) H
def Amy (C:Addr):Sp:=fun vs H Q _=>∃(d:Addr) (n:Nat) (S:Plan) (pa la ma:Addr) (as ls ms:List Addr),vs=[.ref d,.int n]/\DrawAt C H d S pa la ma as ls ms/\Q (.int (afN S n:Nat)) H
theorem Azq:Aaa ["self","number"] ["self","number"] (Aa6 Aod):=fsc
theorem Anf {f fL fP C:Addr}{fd fdL fdP:aaX}(F:Fun K "mark_place" "Drawing.mark_place" Aod f fd)(FL:Fun K "line_place" "Drawing.line_place" Akf fL fdL)(bL:Binds K fdL ["self","number"] [])(mL:All K C "line_place" fL)
 (FP:Fun K "point_place" "Drawing.point_place" Aj0 fP fdP) (bP:Binds K fdP ["self","number"] []) (mP:All K C "point_place" fP) (T:Ac7 K C) (c:Cst K mg) (nl:mg "len" = none) :
 FnOk P w K mg base CX0 3 f fd ["self","number"] (Apx C):=by
 have GL:FnOk P w K mg base CX0 2 fL fdL ["self","number"] (Alq C):=Aj7 FL FP bP mP T c nl;obtain⟨aM,mM,sM⟩:=c.msz;refine F.ok Azq (fun vs H Q E h=>?_) (fun cdv A outer s H vs Q E hr h=>?_)
 ·obtain⟨d,dx,n,wd,ht,pa,la,ma,xs,ys,rfl,_⟩:=h;rfl
 ·obtain⟨d,dx,n,wd,ht,pa,la,ma,xs,ys,rfl,hd,hpa,hla,k⟩:=h
  refine⟨_,Aa4 (Aa9 (Aay Aef (Ab2 (pv 0) T.cl mL GL hr bL .nil Abm (Aa0 (Aae Aad (by rfl) nl acB (Aa0 (Aaj (pv 0) rfl) Aa3)) Aa3))
   (Aay Ack (Aae (Ac6 rfl) (by rfl) c.nsum (by decide +kernel) (Aa0 (Aaq (v:=V.ref aM) rfl mM rfl) Aa3)) (pv 1)))),?_⟩
  refine⟨_,rfl,d,dx,_,rfl,hd,Ac5 _ _ _ _ _,_,rfl,d,C,dx,_,_,rfl,hd,T.cl,T.nL,Aft _ _ _ _ _,la,_,rfl,.inl (SqL.of hla),?_⟩;refine⟨d,dx,ys.length,wd,ht,pa,la,ma,xs,rfl,hd,hpa,aM,_,12,rfl,sM _,rfl,_,rfl,_,_,rfl,rfl,.inl (by decide),_,_,rfl,rfl,?_⟩;have e:((20+8*xs.length+4*ys.length:Nat):Int)+12*(n:Int)=((20+8*xs.length+4*ys.length+12*n:Nat):Int):=by lia
  rw[<-e]at k;exact k
theorem Aqw {f fL fP C:Addr}{fd fdL fdP:aaX}(F:Fun K "mark_place" "Drawing.mark_place" Aod f fd)(FL:Fun K "line_place" "Drawing.line_place" Akf fL fdL)(bL:Binds K fdL ["self","number"] [])(mL:All K C "line_place" fL)
 (FP:Fun K "point_place" "Drawing.point_place" Aj0 fP fdP) (bP:Binds K fdP ["self","number"] []) (mP:All K C "point_place" fP) (T:Ac7 K C) (c:Cst K mg) (nl:mg "len" = none) :
 FnOk P w K mg base CX0 3 f fd ["self","number"] (Amy C) :=
 (Anf F FL bL mL FP bP mP T c nl).imp fun vs H Q E h=>by
  obtain⟨d,n,S,pa,la,ma,as,ls,ms,rfl,D,k⟩:=h;obtain⟨dx,hd⟩:=D.ins;refine⟨d,dx,n,_,_,pa,la,ma,_,_,rfl,hd,D.pts,D.lns,?_⟩;have e:20+8*(as.map V.ref).length+4*(ls.map V.ref).length+12*n=afN S n:=by rw[aaA,aaA,D.ptsX.len,D.lnsA.len];rfl
  rw[e];exact k
def Apu (K:abA)(C:Addr):Sp:=fun vs H Q _=>∃(a:Addr) (b:List UInt8),vs=[.ref a]/\SqL K H a (vB b)/\b.length=20+8*aaW b 12 2+4*aaW b 14 2+12*aaW b 16 2/\
 aaW b 12 2<=4096/\aaW b 14 2<=8192/\aaW b 16 2<=2048/\
 ∀(H':Hp) (d pa la ma:Addr) (as ls ms:List Addr),Same H H'->DrawAt C H' d (acD b) pa la ma as ls ms->Q (.ref d) H'
theorem TupsAt.conv {α β:Type}{tv:α->List V}{tu:β->List V}{H:Hp}{as:List Addr}{xs:List α}{ys:List β}(h:TupsAt tv H as xs)(len:xs.length=ys.length)(e:∀(i:Nat) (x:α),xs[i]?=some x->∃y,ys[i]?=some y/\tv x=tu y):TupsAt tu H as ys :=
 ⟨h.len.trans len,fun i c hc=>let ⟨x,ex,hx⟩:=h.at_ i c hc;let ⟨y,ey,ee⟩:=e i x ex;⟨y,ey,by rw[<-ee];exact hx⟩⟩
theorem TupsAt.ins {α:Type}{tv:α->List V}{H:Hp}{as:List Addr}{xs:List α}{q C dx:Addr}{fs:List (Str×V)}{o:HO}(h:TupsAt tv H as xs)(hq:H q=some (.ins C dx fs)):TupsAt tv (upd H q o) as xs :=
 ⟨h.len,fun j c hc=>let ⟨x,e,hx⟩:=h.at_ j c hc;⟨x,e,by rw[Aa5 (Ac2 hx hq (by intro z;cases z))];exact hx⟩⟩
theorem Same.chg {H0 H H':Hp}{q:Addr}{o:HO}(s1:Same H0 H)(hq:H0 q=none)(s2:Same H H'):Same H0 (upd H' q o):=fun b u e=>by
 rw[Aa5 (Aa8 e hq)];exact s2 _ _ (s1 _ _ e)
theorem scRead:Aaa ["row","head","drawing"] ["row"] (Aa6 Awm):=fsc
theorem Ax9 {f fN fM fT fH fI fP fL fK C:Addr}{fd fdN fdM fdT fdH fdI fdP fdL fdK:aaX}(F:Def K mg "read_drawing" Awm ["row"] f fd)(FT:Def K mg "things_at" Ag9 ["row","place","many","sizes"] fT fdT)(FH:Def K mg "head_of" Aeu ["row"] fH fdH)
 (FM:Def K mg "numbers_at" Ake ["row","place","sizes"] fM fdM) (FN:Def K mg "number_at" At4 ["row","place","size"] fN fdN)
 (FI:Fun K "__init__" "Drawing.__init__" Akg fI fdI) (bI:Binds K fdI ["self","width","height","points","lines","marks"] []) (M:Mk K C fI) (mC:mg "Drawing" = some (.ref C)) (T:Ac7 K C)
 (FK:Fun K "mark_place" "Drawing.mark_place" Aod fK fdK) (bK:Binds K fdK ["self","number"] []) (mK:All K C "mark_place" fK) (FL:Fun K "line_place" "Drawing.line_place" Akf fL fdL) (bL:Binds K fdL ["self","number"] []) (mL:All K C "line_place" fL)
 (FP:Fun K "point_place" "Drawing.point_place" Aj0 fP fdP) (bP:Binds K fdP ["self","number"] []) (mP:All K C "point_place" fP) (nr:mg "range" = none) (nl:mg "len" = none) (c:Cst K mg) :
 FnOk P w K mg base CX0 4 f fd ["row"] (Apu K C):=by
 have GT:FnOk P w K mg base CX0 3 fT fdT ["row","place","many","sizes"] (Amw K):=Aqt FT FM FN nr c;have GH:FnOk P w K mg base CX0 3 fH fdH ["row"] (Aiw K):=Akp FH FM FN nr nl c;have GI:FnOk P w K mg base CX0 1 fI fdI ["self","width","height","points","lines","marks"] (Alr C):=Ang FI T;have GP:FnOk P w K mg base CX0 1 fP fdP ["self","number"] (Adw C):=Ae0 FP c;have GL:FnOk P w K mg base CX0 2 fL fdL ["self","number"] (Alq C):=Aj7 FL FP bP mP T c nl
 have GK:FnOk P w K mg base CX0 3 fK fdK ["self","number"] (Apx C):=Anf FK FL bL mL FP bP mP T c nl;obtain⟨aP,gP,sP⟩:=c.psz;obtain⟨aL,gL,sL⟩:=c.lsz;obtain⟨aM,gM,sM⟩:=c.msz;refine F.go scRead fun cdv A o s H vs Q E hr h=>?_;obtain⟨a,b,rfl,hb,hl,hP,hL,hM,k⟩:=h;have hr1:Room 1 _:=hr.mono (by decide);have hr2:Room 2 _:=hr.mono (by decide)
 refine⟨_,Aa2 (pS 1 scRead.nd (pCD FH GH hr (Aa0 (pv 0) Aa3)))
  (Aa2 (pS 2 scRead.nd (Agd M GI (hr.mono (by decide)) rfl mC bI .nil Abm (Aa0 (pIT (pv 1) Aa7) (Aa0 (pIT (pv 1) Aa7) (Aa0 (Abb Aa3) (Aa0 (Abb Aa3) (Aa0 (Abb Aa3) Aa3)))))))
  (Aa2 (Ad7 (pv 2) (pCD FT GT hr (Aa0 (pv 0) (Aa0 (Ab2 (pv 2) T.cl mP GP hr1 bP .nil Abm (Aa0 Aa7 Aa3)) (Aa0 (pIT (pv 1) Aa7) (Aa0 (Aaq (v:=V.ref aP) rfl gP rfl) Aa3))))) rfl)
  (Aa2 (Ad7 (pv 2) (pCD FT GT hr (Aa0 (pv 0) (Aa0 (Ab2 (pv 2) T.cl mL GL hr2 bL .nil Abm (Aa0 Aa7 Aa3)) (Aa0 (pIT (pv 1) Aa7) (Aa0 (Aaq (v:=V.ref aL) rfl gL rfl) Aa3))))) rfl)
  (Aa2 (Ad7 (pv 2) (pCD FT GT hr (Aa0 (pv 0) (Aa0 (Ab2 (pv 2) T.cl mK GK hr bK .nil Abm (Aa0 Aa7 Aa3)) (Aa0 (pIT (pv 1) Aa7) (Aa0 (Aaq (v:=V.ref aM) rfl gM rfl) Aa3))))) rfl)
  (Aa4 (Aa9 (pv 2))))))),?_⟩
 refine⟨_,rfl,a,b,rfl,hb,by lia,fun H1 t s1 ht=>?_⟩;have g:=SqT.of (K:=K) ht;refine⟨_,rfl,t,_,_,_,rfl,rfl,g,rfl,_,rfl,t,_,_,_,rfl,rfl,g,rfl,abO _,fun p0 hp0=>⟨abO _,fun l0 hl0=>⟨abO _,fun m0 hm0=>?_⟩⟩⟩;have s2:Same H1 (upd H1 p0 (.lst [])):=Same.new hp0;have s3:=s2.trans (Same.new (o:=.lst []) hl0);have s4:=s3.trans (Same.new (o:=.lst []) hm0);have hp4:upd (upd (upd H1 p0 (.lst [])) l0 (.lst [])) m0 (.lst []) p0=some (.lst []):=(Same.new (o:=.lst []) hm0) _ _ ((Same.new (o:=.lst []) hl0) _ _ Aa1)
 generalize upd (upd (upd H1 p0 (.lst [])) l0 (.lst [])) m0 (.lst [])=H4 at *;intro x dx hx hdx ne;refine⟨x,dx,aaW b 4 4,aaW b 8 4,p0,l0,m0,rfl,Aa1,fun H5 hd keep=>⟨rfl,?_⟩⟩;have s45:Same H4 H5:=Same.made hx hdx keep;have s05:Same H H5:=(s1.trans s4).trans s45;have x0:H x=none:=(s1.trans s4).free hx;have t5:=s45 _ _ (s4 _ _ ht);generalize eP:aaW b 12 2=nP at *;generalize eL:aaW b 14 2=nL at *
 generalize eM:aaW b 16 2=nM at *;have g5:=SqT.of (K:=K) t5
 refine⟨_,rfl,_,rfl,x,dx,_,rfl,hd,Ac5 _ _ _ _ _,x,0,rfl,_,rfl,t,_,_,_,rfl,rfl,g5,rfl,
  a,aP,b,20,nP,[4,4],(by rw[<-eP];rfl),s05.seq hb,sP _,(by show 20+8*nP<=_;lia),by decide,by decide,by decide,by lia,fun H6 pa as s6 hpa Lp=>?_⟩
 have hd6:=s6 _ _ hd;refine⟨_,rfl,x,C,dx,_,rfl,hd6,T.cl,T.nP,Aml _ _ _ _ _,?_⟩;rw[Auo];have xpa:pa≠x:=Ac2 hpa hd6 (by intro z;cases z);have hpa7:upd H6 x (.ins C dx (dfs (aaW b 4 4) (aaW b 8 4) pa l0 m0)) pa=some (.lst (as.map V.ref)):=by rw[Aa5 xpa];exact hpa
 have s07:Same H (upd H6 x (.ins C dx (dfs (aaW b 4 4) (aaW b 8 4) pa l0 m0))):=Same.chg s05 x0 s6;have ht7:upd H6 x (.ins C dx (dfs (aaW b 4 4) (aaW b 8 4) pa l0 m0)) t=some (.tup (vN (Ajo b))):=by
  rw[Aa5 (Ac2 (s6 _ _ t5) hd6 (by intro z;cases z))];exact s6 _ _ t5
 have Lp7:TupsAt vN (upd H6 x (.ins C dx (dfs (aaW b 4 4) (aaW b 8 4) pa l0 m0))) as (thg b 20 nP [4,4]):=Lp.ins hd6;have hd7:upd H6 x (.ins C dx (dfs (aaW b 4 4) (aaW b 8 4) pa l0 m0)) x=some (.ins C dx (dfs (aaW b 4 4) (aaW b 8 4) pa l0 m0)):=Aa1;generalize upd H6 x (.ins C dx (dfs (aaW b 4 4) (aaW b 8 4) pa l0 m0))=H7 at *;have al:(as.map V.ref).length=nP:=by rw[aaA,Lp.len,Acg]
 have g7:=SqT.of (K:=K) ht7
 refine⟨_,rfl,_,rfl,x,dx,_,rfl,hd7,Ac5 _ _ _ _ _,x,dx,0,_,_,pa,l0,m0,_,rfl,hd7,hpa7,_,rfl,t,_,_,_,rfl,rfl,g7,rfl,
  a,aL,b,20+8*nP,nL,[2,2],(by rw[<-eL,al];rfl),s07.seq hb,sL _,(by show 20+8*nP+4*nL<=_;lia),by decide,by decide,by decide,by lia,fun H8 la ls s8 hla Ll=>?_⟩
 have hd8:=s8 _ _ hd7;refine⟨_,rfl,x,C,dx,_,rfl,hd8,T.cl,T.nL,Aml _ _ _ _ _,?_⟩;rw[Auq];have hla9:upd H8 x (.ins C dx (dfs (aaW b 4 4) (aaW b 8 4) pa la m0)) la=some (.lst (ls.map V.ref)):=by rw[Aa5 (Ac2 hla hd8 (by intro z;cases z))];exact hla
 have hpa9:upd H8 x (.ins C dx (dfs (aaW b 4 4) (aaW b 8 4) pa la m0)) pa=some (.lst (as.map V.ref)):=by rw[Aa5 xpa];exact s8 _ _ hpa7
 have s09:Same H (upd H8 x (.ins C dx (dfs (aaW b 4 4) (aaW b 8 4) pa la m0))):=Same.chg s07 x0 s8;have ht9:upd H8 x (.ins C dx (dfs (aaW b 4 4) (aaW b 8 4) pa la m0)) t=some (.tup (vN (Ajo b))):=by
  rw[Aa5 (Ac2 (s8 _ _ ht7) hd8 (by intro z;cases z))];exact s8 _ _ ht7
 have Lp9:TupsAt vN (upd H8 x (.ins C dx (dfs (aaW b 4 4) (aaW b 8 4) pa la m0))) as (thg b 20 nP [4,4]):=(Lp7.same s8).ins hd8;have Ll9:TupsAt vN (upd H8 x (.ins C dx (dfs (aaW b 4 4) (aaW b 8 4) pa la m0))) ls (thg b (20+8*nP) nL [2,2]):=Ll.ins hd8;have hd9:upd H8 x (.ins C dx (dfs (aaW b 4 4) (aaW b 8 4) pa la m0)) x=some (.ins C dx (dfs (aaW b 4 4) (aaW b 8 4) pa la m0)):=Aa1
 generalize upd H8 x (.ins C dx (dfs (aaW b 4 4) (aaW b 8 4) pa la m0))=H9 at *;have ll:(ls.map V.ref).length=nL:=by rw[aaA,Ll.len,Acg]
 have g9:=SqT.of (K:=K) ht9
 refine⟨_,rfl,_,rfl,x,dx,_,rfl,hd9,Ac5 _ _ _ _ _,x,dx,0,_,_,pa,la,m0,_,_,rfl,hd9,hpa9,hla9,_,rfl,t,_,_,_,rfl,rfl,g9,rfl,
  a,aM,b,20+8*nP+4*nL,nM,[4,4,2,2],(by rw[<-eM,al,ll];rfl),s09.seq hb,sM _,(by show 20+8*nP+4*nL+12*nM<=_;lia),by decide,by decide,by decide,by lia,fun H10 ma ms s10 hma Lm=>?_⟩
 have hd10:=s10 _ _ hd9;refine⟨_,rfl,x,C,dx,_,rfl,hd10,T.cl,T.nM,Aml _ _ _ _ _,?_⟩;rw[Aup];refine⟨_,rfl,?_⟩;have xma:ma≠x:=Ac2 hma hd10 (by intro z;cases z);have xla:la≠x:=Ac2 hla9 hd9 (by intro z;cases z);refine k _ x pa la ma as ls ms (Same.chg s09 x0 s10) ⟨⟨dx,Aa1⟩,?_,?_,?_,?_,?_,?_,?_,?_,Aew b 4,Aew b 8,?_,?_,?_⟩
 ·rw[Aa5 xpa];exact s10 _ _ hpa9
 ·rw[Aa5 xla];exact s10 _ _ hla9
 ·rw[Aa5 xma];exact hma
 ·refine((Lp9.same s10).ins hd10).conv (by rw[Acg];unfold acD;simp[eP]) fun i x hx=>?_
  have il:i<nP:=by have:=(aaB.mp hx).1;rwa [Acg]at this
  rw[Aip _ _ _ il]at hx;cases hx;refine⟨_,by unfold acD;simp only[eP];rw[aaH,adK il];rfl,rfl⟩
 ·have:=((Ll9.same s10).ins (o:=.ins C dx (dfs (aaW b 4 4) (aaW b 8 4) pa la ma)) hd10).conv (tu:=lnV) (ys:=(acD b).lines) (by rw[Acg];unfold acD;simp[eL]) fun i x hx=>by
   have il:i<nL:=by have:=(aaB.mp hx).1;rwa [Acg]at this
   rw[Aip _ _ _ il]at hx;cases hx;exact⟨_,by unfold acD;simp only[eP,eL];rw[aaH,adK il];rfl,rfl⟩
  exact⟨this.len,this.at_⟩
 ·refine(Lm.ins hd10).conv (by rw[Acg];unfold acD;simp[eM]) fun i x hx=>?_
  have il:i<nM:=by have:=(aaB.mp hx).1;rwa [Acg]at this
  rw[Aip _ _ _ il]at hx;cases hx;refine⟨_,by unfold acD;simp only[eP,eL,eM];rw[aaH,adK il];rfl,rfl⟩
 ·intro p hp;unfold acD at hp;simp only[aaN]at hp;obtain⟨i,_,rfl⟩:=hp;exact⟨Aew _ _,Aew _ _⟩
 ·intro m hm;unfold acD at hm;simp only[aaN]at hm;obtain⟨i,_,rfl⟩:=hm;exact⟨Aew _ _,Aew _ _⟩
 ·unfold acD;simp[eP];exact hP
 ·unfold acD;simp[eL];exact hL
 ·unfold acD;simp[eM];exact hM
theorem Abo {K:abA}{a:Addr}{xs:List V}{g:TG}{tb:TS}{D:Asm}{σ:L2.St}{H:Hp}(Pv:Nat->L2.St->Hp->Prop)(h0:Pv 0 σ H)(hl:∀i σ H,i<=xs.length->Pv i σ H->SqL K H a xs)
 (hs:∀i x σ H T,xs[i]?=some x->Pv i σ H->H T=none->g (.ref T) σ (upd H T (.tup [.int (i:Nat),x])) fun σ2 H2=>tb { D with nx:=Pv (i+1),ct:=Pv (i+1),bk:=D.nx } σ2 H2) (hd:∀σ H,Pv xs.length σ H->D.nx σ H) :
 ∃W:Nat->Nat->L2.St->Hp->Prop,(∃m,W 0 m σ H)/\∀i m σ H,W i m σ H->
  ((Ite K a).stop i H/\D.nx σ H)\/((Ite K a).go i H/\∃N:L2.St->Hp->Prop,(∀σ' H',N σ' H'->∃m',m'<m/\W (i+1) m' σ' H')/\∀x H',(Ite K a).yld i H x H'->g x σ H' fun σ2 H2=>tb { D with nx:=N,ct:=N,bk:=D.nx } σ2 H2):=by
 refine⟨fun i m σ H=>m=xs.length-i/\i<=xs.length/\Pv i σ H,⟨xs.length,by simp,abO _,h0⟩,?_⟩;rintro i m σ H ⟨rfl,hi,p⟩;have q:=hl i σ H hi p
 by_cases hlt:i<xs.length
 ·refine .inr ⟨⟨xs,xs[i],q,by simp[hlt]⟩,Pv (i+1),fun σ' H' p'=>⟨xs.length-(i+1),by lia,rfl,hlt,p'⟩,fun x H' y=>?_⟩;obtain⟨T,x',rfl,hT,rfl,y⟩:=y;exact hs i x' σ _ T (y xs q) p hT
 ·have e:i=xs.length:=by lia
  subst e;exact .inl ⟨⟨xs,q,aaK _⟩,hd σ H p⟩
theorem Acd {α:Type}{p:Nat->α->Bool}{l:List α}{i:Nat}{x:α}(h:l[i]?=some x)(hp:p i x=true)(hb:∀j y,j<i->l[j]?=some y->p j y=false):acR p l=some i:=by
 unfold acR;have hi:=(aaB.mp h).1;have:l.zipIdx.find? (fun(x:α×Nat)=>p x.2 x.1)=some (x,i):=by
  rw[ahD];refine⟨hp,i,by simpa using hi,?_,?_⟩
  ·rw[aoC];simp;exact(aaB.mp h).2
  ·intro j hj;rw[aoC];simp only[ahE,Bool.not_eq_true',Bool.not_eq_eq_eq_not,akI];exact hb j _ hj (aaE (by lia))
 rw[this];rfl
theorem Adt {α:Type}{p:Nat->α->Bool}{l:List α}(hb:∀j y,l[j]?=some y->p j y=false):acR p l=none:=by
 unfold acR;rw[amN,adN];rintro⟨y,j⟩ hm;rw[alC]at hm;simp only[hb j y hm];simp
def Atn:Option Nat->V
 | some n=>.int (n:Nat)
 | none=>.non
abbrev Bcd:afD:=top Ahj
abbrev Bcf:afD:=top Ajg
def Ad1 (S:Plan)(i:Nat)(x:Pt):Bool:=!(decide (x.x<=S.w)&&decide (x.y<=S.h))||(decide (0<i)&&(match S.pts[i-1]? with
 | some y=>!y.below x
 | none=>false))
theorem Any (S:Plan):agO (fun(p:Pt)=>decide (p.x<=S.w)&&decide (p.y<=S.h)) Pt.below S.pts=acR (Ad1 S) S.pts:=by
 unfold agO
 congr 1
 funext i x
 unfold Ad1;cases S.pts[i-1]?<;>rfl
def Adv (S:Plan)(i:Nat)(x:Nat×Nat):Bool:=!(decide (x.1<x.2)&&decide (x.2<S.pts.length))||(decide (0<i)&&(match S.lines[i-1]? with
 | some y=>!Gla.lineBelow y x
 | none=>false))
theorem Ao0 (S:Plan):agO (fun(l:Nat×Nat)=>decide (l.1<l.2)&&decide (l.2<S.pts.length)) aeY S.lines=acR (Adv S) S.lines:=by
 unfold agO
 congr 1
 funext i x
 unfold Adv;cases S.lines[i-1]?<;>rfl
structure TMeth (K:abA)(mg:Str->Option aaF)(C:Addr)(fP fL fM:Addr)(fdP fdL fdM:aaX):Prop where
 FP:Fun K "point_place" "Drawing.point_place" Aj0 fP fdP
 bP:Binds K fdP ["self","number"] []
 mP:All K C "point_place" fP
 FL:Fun K "line_place" "Drawing.line_place" Akf fL fdL
 bL:Binds K fdL ["self","number"] []
 mL:All K C "line_place" fL
 FM:Fun K "mark_place" "Drawing.mark_place" Aod fM fdM
 bM:Binds K fdM ["self","number"] []
 mM:All K C "mark_place" fM
 T:Ac7 K C
 c:Cst K mg
 nl:mg "len" = none
def Aea (C:Addr)(pre:Plan->Prop)(r:Plan->Option Nat):Sp:=fun vs H Q _=>∃(d:Addr) (S:Plan) (pa la ma:Addr) (as ls ms:List Addr),vs=[.ref d]/\DrawAt C H d S pa la ma as ls ms/\pre S/\∀H',Same H H'->Q (Atn (r S)) H'
theorem scWPt:Aaa ["drawing","number","point"] ["drawing"] (Aa6 Bcd):=fsc
theorem Bag {f fB C fP fL fM:Addr}{fd fdB fdP fdL fdM:aaX}(F:Def K mg "wrong_point" Bcd ["drawing"] f fd)(FB:DefB K mg fB fdB)(M:TMeth K mg C fP fL fM fdP fdL fdM)(ne:mg "enumerate" = none) :
 FnOk P w K mg base CX0 3 f fd ["drawing"] (Aea C (fun _=>True) fun S=>(acR (Ad1 S) S.pts).map acY):=by
 have GB:FnOk P w K mg base CX0 2 fB fdB ["q","p"] Aeb:=Ai5 FB;have GP:FnOk P w K mg base CX0 1 fP fdP ["self","number"] (Adw C):=Ae0 M.FP M.c;have T:=M.T;refine F.go scWPt fun cdv A o s H vs Q E hr h=>?_;obtain⟨d,S,pa,la,ma,as,ls,ms,rfl,D,_,k⟩:=h;have k:∀H',Same H H'->Q (Atn ((acR (Ad1 S) S.pts).map acY)) H':=k;have hr1:Room 1 _:=hr.mono (by decide)
 refine⟨_,Aa2 (Aao aaQ rfl (Ac0 rfl ne (Aa0 (Aaj (pv 0) rfl) Aa3)) (Abi rfl (Aab (pG 1 scWPt.nd) (Aab (pG 2 scWPt.nd) Aax)))
  (Aa2 (Aav (PW.pt (Aof (Aak Adb (pIT (pv 2) Aa7) (Aaj (pv 0) rfl) (Aan _)) (Ai2 (Aak Adb (pIT (pv 2) Aa7) (Aaj (pv 0) rfl) (Aan _)))))
   (Aa4 (Aa9 (Ab2 (pv 0) T.cl M.mP GP hr1 M.bP .nil Abm (Aa0 (pv 1) Aa3)))) Aag)
  (Aa4 (Aav (PW.pt (Agb (Aak Adb (pv 1) Aa7 (Aan _)) (Adz (Aqj (Ad6 (Aly GB hr rfl FB.mgf FB.fn.kp FB.b .nil Abm (Aa0 (pv 2) (Aa0 (pIL (Aaj (pv 0) rfl) (Aay Ac9 (pv 1) Aa7)) Aa3))))))))
   (Aa4 (Aa9 (Ab2 (pv 0) T.cl M.mP GP hr1 M.bP .nil Abm (Aa0 (pv 1) Aa3)))) Aag))))
  (Aa4 (Aa9 Acy)),?_⟩
 obtain⟨dx,hd⟩:=D.ins
 refine⟨_,rfl,d,C,dx,_,_,rfl,hd,T.cl,T.nP,Ad0 _ _ _ _ _,pa,_,rfl,SqL.of D.pts,Abo (K:=K) (a:=pa) (xs:=as.map V.ref) (fun i σ H'=>(∃v1 v2:Option V,σ=[some (.ref d),v1,v2])/\Same H H'/\∀j y,j<i->S.pts[j]?=some y->Ad1 S j y=false)
  ⟨⟨_,_,rfl⟩,Same.refl H,by intro j y hj;lia⟩ (fun i σ H' _ ⟨_,s1,_⟩=>SqL.of (s1 _ _ D.pts)) ?_ ?_⟩
 ·rintro i x σ H' t hi ⟨⟨v1,v2,rfl⟩,s1,inv⟩ ht;obtain⟨c,hc,rfl⟩:=Aac hi;obtain⟨p,hp,pc⟩:=D.ptsA.at_ i c hc;have s2:=s1.trans (Same.new (o:=.tup [.int (i:Nat),.ref c]) ht);have D2:=D.same s2;obtain⟨_,g⟩:=(pc.same s2).sq (K:=K);obtain⟨dx2,hd2⟩:=D2.ins;have noP:(dfs S.w S.h pa la ma).lookup ("point_place" : Str)=none:=Ac5 _ _ _ _ _;have ret:Ad1 S i p=true->∀H'',Same H H''->Q (.int (acY i:Nat)) H'':=fun e H'' s''=>by
   have:=k H'' s'';rw[Acd hp e inv]at this;exact this
  refine⟨t,_,rfl,SqT.of Aa1,rfl,_,_,rfl,_,_,rfl,rfl,?_⟩;have next:Ad1 S i p=false->∀H'',Same H H''->(∃v1 v2:Option V,[some (V.ref d),some (.int (i:Nat)),some (.ref c)]=[some (.ref d),v1,v2])/\Same H H''/\∀j y,j<i+1->S.pts[j]?=some y->Ad1 S j y=false:=fun e H'' s'' =>
   ⟨⟨_,_,rfl⟩,s'',fun j y hj hy=>by
    by_cases ej:j=i
    ·subst ej;rw[hp]at hy;cases hy;exact e
    ·exact inv j y (by lia) hy⟩
  have second:¬(S.w<p.x\/S.h<p.y)->Az9 (Bdl (Apm (tOp (rI0 fun i j=>.bl (decide (j<i))) (Abv 1) (tC (.int 0)))) (Bdj (tB (Aiq Aeb [] E0 (Ab6 (Abv 2) (Ab6 (tOp (Ayo K) (Bbq K (Abv 0) "points") (tOp (rI0 fun i j=>.int (i-j)) (Abv 1) (tC (.int 1)))) Ahb))))))
   (Aso (Asx C "point_place" (Adw C) [] E0 (Abv 0) (Ab6 (Abv 1) Ahb))) App
   { nx:=fun σ H'=>(∃v1 v2:Option V,σ=[some (.ref d),v1,v2])/\Same H H'/\∀j y,j<i+1->S.pts[j]?=some y->Ad1 S j y=false,rt:=Q,bk:=Aso (tC .non) { nx:=fun _ H'=>Q .non H',rt:=Q },ct:=fun σ H'=>(∃v1 v2:Option V,σ=[some (.ref d),v1,v2])/\Same H H'/\∀j y,j<i+1->S.pts[j]?=some y->Ad1 S j y=false }
   [some (V.ref d),some (.int (i:Nat)),some (.ref c)] (upd H' t (.tup [.int (i:Nat),.ref c])):=by
   intro ok;have ok1:(decide (p.x<=S.w)&&decide (p.y<=S.h))=true:=by simp;lia
   refine⟨_,rfl,_,_,rfl,rfl,_,rfl,?_⟩;refine Abj (fun e1=>?_) (fun e1=>?_)
   ·simp only[dtt]at e1;have i0:0<i:=by lia
    obtain⟨cp,hcp⟩ : ∃cp,as[i-1]?=some cp:=⟨_,aaE (by have:=(aaB.mp hc).1;lia)⟩
    obtain⟨pp,hpp,pcp⟩:=D.ptsA.at_ (i-1) cp hcp;have bad:Ad1 S i p = !pp.below p:=by
     unfold Ad1;rw[ok1,hpp];simp[i0]
    refine⟨_,rfl,_,rfl,d,C,dx2,_,_,rfl,hd2,T.cl,T.nP,Ad0 _ _ _ _ _,_,rfl,_,_,rfl,rfl,pa,_,_,V.ref cp,rfl,rfl,SqL.of D2.pts,Alg (j:=i-1) (by lia) (by rw[aaH,hcp];rfl),?_⟩;refine⟨c,cp,p,pp,rfl,pc.same s2,pcp.same s2,fun H3 s3=>⟨_,rfl,?_⟩⟩;have s23:=s2.trans s3;obtain⟨dx3,hd3⟩:=(D.same s23).ins;refine Abj (fun e2=>?_) (fun e2=>?_)
    ·refine⟨_,rfl,d,dx3,_,rfl,hd3,noP,_,rfl,d,i,rfl,?_⟩;exact ret (by rw[bad];exact e2) H3 s23
    ·exact next (by rw[bad];exact abZ.mpr e2) H3 s23
   ·simp only[dtt]at e1;refine next ?_ _ s2
    unfold Ad1;rw[ok1,dff (by lia)];rfl
  refine⟨_,rfl,c,_,_,_,rfl,rfl,g,atC,_,rfl,d,C,dx2,_,_,rfl,hd2,T.cl,T.nW,Ap4 _ _ _ _ _,_,_,rfl,rfl,_,rfl,?_⟩;refine Abj (fun e1=>?_) (fun e1=>?_)
  ·simp only[dtt]at e1;refine Arl ⟨_,rfl,d,dx2,_,rfl,hd2,noP,_,rfl,d,i,rfl,?_⟩;exact ret (by unfold Ad1;rw[show decide (p.x<=S.w)=false from dff (by lia)];rfl) _ s2
  simp only[dtt]at e1;refine⟨_,rfl,c,_,_,_,rfl,rfl,g,atC,_,rfl,d,C,dx2,_,_,rfl,hd2,T.cl,T.nH,Ap5 _ _ _ _ _,_,_,rfl,rfl,_,rfl,?_⟩;refine Abj (fun e2=>?_) (fun e2=>?_)
  ·simp only[dtt]at e2;refine⟨_,rfl,d,dx2,_,rfl,hd2,noP,_,rfl,d,i,rfl,?_⟩;exact ret (by unfold Ad1;rw[show decide (p.y<=S.h)=false from dff (by lia)];simp) _ s2
  ·simp only[dtt]at e2;exact second (by lia)
 ·rintro σ H' ⟨⟨v1,v2,rfl⟩,s1,inv⟩;have:=k H' s1;rw[Adt (fun j y hy=>inv j y (by rw[aaA,D.ptsA.len];exact(aaB.mp hy).1) hy)]at this;exact this
abbrev At5:afD:=top Agp
abbrev Bbv:afD:=top Adg
theorem LnAt.sq {K:abA}{H:Hp}{a:Addr}{l:Nat×Nat}(h:LnAt H a l):SqT K H a [.int l.1,.int l.2]:=SqT.of h
theorem LnAt.same {H H':Hp}{a:Addr}{l:Nat×Nat}(e:Same H H')(h:LnAt H a l):LnAt H' a l:=e _ _ h
theorem Au5 (l m:Nat×Nat):H3.lexLe [(l.1:Int),(l.2:Int)] [(m.1:Int),(m.2:Int)] = !Gla.lineBelow m l:=by
 rw[H3.lexLe_cons,H3.lexLe_cons,H3.lexLe_nil_nil];unfold aeY;rw[adC]
 by_cases e:(l.1:Int)=m.1
 ·rw[ifp e]
  by_cases e2:(l.2:Int)=m.2
  ·rw[ifp e2];simp;lia
  ·rw[ifn e2];simp;lia
 ·rw[ifn e];simp;lia
theorem scWLn:Aaa ["drawing","number","line"] ["drawing"] (Aa6 Bcf):=fsc
theorem Bai {f C fP fL fM:Addr}{fd fdP fdL fdM:aaX}(F:Def K mg "wrong_line" Bcf ["drawing"] f fd)(M:TMeth K mg C fP fL fM fdP fdL fdM)(ne:mg "enumerate" = none) :
 FnOk P w K mg base CX0 3 f fd ["drawing"] (Aea C (fun _=>True) fun S=>(acR (Adv S) S.lines).map (aeA S)):=by
 have GL:FnOk P w K mg base CX0 2 fL fdL ["self","number"] (Apz C):=Aqx M.FL M.FP M.bP M.mP M.T M.c M.nl;have T:=M.T;refine F.go scWLn fun cdv A o s H vs Q E hr h=>?_;obtain⟨d,S,pa,la,ma,as,ls,ms,rfl,D,_,k⟩:=h;have k:∀H',Same H H'->Q (Atn ((acR (Adv S) S.lines).map (aeA S))) H':=k
 refine⟨_,Aa2 (Aao aaQ rfl (Ac0 rfl ne (Aa0 (Aaj (pv 0) rfl) Aa3)) (Abi rfl (Aab (pG 1 scWLn.nd) (Aab (pG 2 scWLn.nd) Aax)))
  (Aa2 (Aav (PW.pt (Aof (Aak Bad (pIT (pv 2) Aa7) (pIT (pv 2) Aa7) (Aan _)) (Ai2 (Aak Bad (pIT (pv 2) Aa7) (Aae Aad (by rfl) M.nl acB (Aa0 (Aaj (pv 0) rfl) Aa3)) (Aan _)))))
   (Aa4 (Aa9 (Ab2 (pv 0) T.cl M.mL GL hr M.bL .nil Abm (Aa0 (pv 1) Aa3)))) Aag)
  (Aa4 (Aav (PW.pt (Agb (Aak Adb (pv 1) Aa7 (Aan _)) (Adz (Aak (Bab (Nat.lt_of_succ_lt (Agv hr))) (pv 2) (pIL (Aaj (pv 0) rfl) (Aay Ac9 (pv 1) Aa7)) (Aan _)))))
   (Aa4 (Aa9 (Ab2 (pv 0) T.cl M.mL GL hr M.bL .nil Abm (Aa0 (pv 1) Aa3)))) Aag))))
  (Aa4 (Aa9 Acy)),?_⟩
 obtain⟨dx,hd⟩:=D.ins
 refine⟨_,rfl,d,C,dx,_,_,rfl,hd,T.cl,T.nL,Aft _ _ _ _ _,la,_,rfl,SqL.of D.lns,Abo (K:=K) (a:=la) (xs:=ls.map V.ref) (fun i σ H'=>(∃v1 v2:Option V,σ=[some (.ref d),v1,v2])/\Same H H'/\∀j y,j<i->S.lines[j]?=some y->Adv S j y=false)
  ⟨⟨_,_,rfl⟩,Same.refl H,by intro j y hj;lia⟩ (fun i σ H' _ ⟨_,s1,_⟩=>SqL.of (s1 _ _ D.lns)) ?_ ?_⟩
 ·rintro i x σ H' t hi ⟨⟨v1,v2,rfl⟩,s1,inv⟩ ht;obtain⟨c,hc,rfl⟩:=Aac hi;obtain⟨l,hp,pc⟩:=D.lnsA.at_ i c hc;have s2:=s1.trans (Same.new (o:=.tup [.int (i:Nat),.ref c]) ht);have D2:=D.same s2;have g:=(pc.same s2).sq (K:=K);obtain⟨dx2,hd2⟩:=D2.ins;have noL:(dfs S.w S.h pa la ma).lookup ("line_place" : Str)=none:=Ac5 _ _ _ _ _;have ret:Adv S i l=true->Q (.int (aeA S i:Nat)) (upd H' t (.tup [.int (i:Nat),.ref c])):=fun e=>by
   have:=k _ s2;rw[Acd hp e inv]at this;exact this
  have next:Adv S i l=false->(∃v1 v2:Option V,[some (V.ref d),some (.int (i:Nat)),some (.ref c)]=[some (.ref d),v1,v2])/\Same H (upd H' t (.tup [.int (i:Nat),.ref c]))/\∀j y,j<i+1->S.lines[j]?=some y->Adv S j y=false:=fun e =>
   ⟨⟨_,_,rfl⟩,s2,fun j y hj hy=>by
    by_cases ej:j=i
    ·subst ej;rw[hp]at hy;cases hy;exact e
    ·exact inv j y (by lia) hy⟩
  refine⟨t,_,rfl,SqT.of Aa1,rfl,_,_,rfl,_,_,rfl,rfl,?_⟩;refine⟨_,rfl,c,_,_,_,rfl,rfl,g,rfl,_,rfl,c,_,_,_,rfl,rfl,g,rfl,_,_,rfl,rfl,_,rfl,?_⟩;refine Abj (fun e1=>?_) (fun e1=>?_)
  ·simp only[dtt]at e1;refine Arl ⟨_,rfl,d,dx2,_,rfl,hd2,noL,_,rfl,d,i,S,pa,la,ma,as,ls,ms,rfl,D2,?_⟩;exact ret (by unfold Adv;rw[show decide (l.1<l.2)=false from dff (by lia)];rfl)
  simp only[dtt]at e1;refine⟨_,rfl,c,_,_,_,rfl,rfl,g,rfl,_,rfl,d,C,dx2,_,_,rfl,hd2,T.cl,T.nP,Ad0 _ _ _ _ _,pa,_,rfl,.inl (SqL.of D2.pts),_,_,rfl,rfl,_,rfl,?_⟩;rw[aaA,D.ptsA.len];refine Abj (fun e2=>?_) (fun e2=>?_)
  ·simp only[dtt]at e2;refine⟨_,rfl,d,dx2,_,rfl,hd2,noL,_,rfl,d,i,S,pa,la,ma,as,ls,ms,rfl,D2,?_⟩;exact ret (by unfold Adv;rw[show decide (l.2<S.pts.length)=false from dff (by lia)];simp)
  simp only[dtt]at e2;have ok1:(decide (l.1<l.2)&&decide (l.2<S.pts.length))=true:=by simp;lia
  refine⟨_,rfl,_,_,rfl,rfl,_,rfl,?_⟩;refine Abj (fun e3=>?_) (fun e3=>?_)
  ·simp only[dtt]at e3;have i0:0<i:=by lia
   obtain⟨cp,hcp⟩ : ∃cp,ls[i-1]?=some cp:=⟨_,aaE (by have:=(aaB.mp hc).1;lia)⟩
   obtain⟨pp,hpp,pcp⟩:=D.lnsA.at_ (i-1) cp hcp;have bad:Adv S i l = !Gla.lineBelow pp l:=by
    unfold Adv;rw[ok1,hpp];simp[i0]
   refine⟨_,rfl,_,rfl,d,C,dx2,_,_,rfl,hd2,T.cl,T.nL,Aft _ _ _ _ _,_,rfl,_,_,rfl,rfl,la,_,_,V.ref cp,rfl,rfl,SqL.of D2.lns,Alg (j:=i-1) (by lia) (by rw[aaH,hcp];rfl),?_⟩;refine⟨c,cp,[(l.1:Int),(l.2:Int)],[(pp.1:Int),(pp.2:Int)],rfl,rfl,g,(pcp.same s2).sq,_,rfl,?_⟩;rw[Au5];refine Abj (fun e4=>?_) (fun e4=>?_)
   ·refine⟨_,rfl,d,dx2,_,rfl,hd2,noL,_,rfl,d,i,S,pa,la,ma,as,ls,ms,rfl,D2,?_⟩;exact ret (by rw[bad];exact e4)
   ·exact next (by rw[bad];exact abZ.mpr e4)
  ·simp only[dtt]at e3;refine next ?_
   unfold Adv;rw[ok1,dff (by lia)];rfl
 ·rintro σ H' ⟨⟨v1,v2,rfl⟩,s1,inv⟩;have:=k H' s1;rw[Adt (fun j y hy=>inv j y (by rw[aaA,D.lnsA.len];exact(aaB.mp hy).1) hy)]at this;exact this
abbrev Bck:afD:=top Agr
theorem DrawAt.pt {C:Addr}{H:Hp}{d:Addr}{S:Plan}{pa la ma:Addr}{as ls ms:List Addr}(D:DrawAt C H d S pa la ma as ls ms){i:Nat}(h:i<S.pts.length) :
 ∃c,as[i]?=some c/\PtAt H c (S.pt i)/\Abk (S.pt i):=by
 obtain⟨c,hc⟩ : ∃c,as[i]?=some c:=⟨_,aaE (by rw[D.ptsA.len];exact h)⟩
 obtain⟨p,hp,pc⟩:=D.ptsA.at_ i c hc;have e:S.pt i=p:=by unfold Plan.pt;rw[abN,hp];rfl
 rw[e];exact⟨c,hc,pc,D.smP p (aaJ hp)⟩
theorem atr {as:List Addr}{i:Nat}{c:Addr}(h:as[i]?=some c):atI (as.map V.ref) (i:Int)=some (V.ref c):=Ae6 (by rw[aaH,h];rfl)
def Av9 (C:Addr):Sp:=fun vs H Q _=>∃(d e:Addr) (l:Nat×Nat) (S:Plan) (pa la ma:Addr) (as ls ms:List Addr),vs=[.ref d,.ref e]/\DrawAt C H d S pa la ma as ls ms/\LnAt H e l/\l.1<l.2/\l.2<S.pts.length/\Q (.bl (Pg.hasPoint S l)) H
def Azk (C:Addr):Sp:=fun vs H Q _=>∃(d:Addr) (i:Nat) (l:Nat×Nat) (S:Plan) (pa la ma:Addr) (as ls ms:List Addr),vs=[.ref d,.int i]/\DrawAt C H d S pa la ma as ls ms/\S.lines[i]?=some l/\(∀m,m∈S.lines->m.1<m.2/\m.2<S.pts.length)/\Q (.bl (Pg.crossBefore S i l)) H
theorem scHasP:Aaa ["drawing","line","points","number"] ["drawing","line"] (Aa6 At5):=fsc
theorem Axh {f fO fT C:Addr}{fd fdO fdT:aaX}(F:Def K mg "has_point_on" At5 ["drawing","line"] f fd)(FO:Def K mg "is_on" Alu ["p","q","r"] fO fdO)(FT:Def K mg "turn_of" Acz ["p","q","r"] fT fdT)(nmin:mg "min" = none)(nmax:mg "max" = none)(nr:mg "range" = none)(T:Ac7 K C) :
 FnOk P w K mg base CX0 3 f fd ["drawing","line"] (Av9 C):=by
 have GO:FnOk P w K mg base CX0 2 fO fdO ["p","q","r"] Aq0:=Aqy FO FT nmin nmax;refine F.go scHasP fun cdv A o s H vs Q E hr h=>?_;obtain⟨d,e,l,S,pa,la,ma,as,ls,ms,rfl,D,he,l1,l2,k⟩:=h;obtain⟨dx,hd⟩:=D.ins;have g:=he.sq (K:=K)
 refine⟨_,Aa2 (pS 2 scHasP.nd (Aaj (pv 0) rfl))
  (Aa2 (Aao aaQ rfl (Ako rfl nr (Aa0 (Aay Aef (pIT (pv 1) Aa7) Aa7) (Aa0 (pIT (pv 1) Aa7) Aa3))) (pG 3 scHasP.nd)
   (Aa4 (Aav (Ad6 (pCD FO GO hr (Aa0 (pIL (pv 2) (pIT (pv 1) Aa7)) (Aa0 (pIL (pv 2) (pIT (pv 1) Aa7)) (Aa0 (pIL (pv 2) (pv 3)) Aa3)))))
    (Aa4 (Aa9 Acs)) Aag)))
  (Aa4 (Aa9 Acs))),?_⟩
 have nP:=D.nP;refine⟨_,rfl,d,C,dx,_,_,rfl,hd,T.cl,T.nP,Ad0 _ _ _ _ _,?_⟩;refine⟨_,rfl,e,_,_,_,rfl,rfl,g,rfl,_,_,rfl,rfl,_,rfl,e,_,_,_,rfl,rfl,g,rfl,_,_,rfl,by lia,?_⟩;have en:((l.2:Int)-((l.1:Int)+1)).toNat=l.2-(l.1+1):=by lia
 rw[en];obtain⟨c1,hc1,p1,q1⟩:=D.pt (i:=l.1) (by lia);obtain⟨c2,hc2,p2,q2⟩:=D.pt (i:=l.2) l2;refine Ac4 (n:=l.2-(l.1+1)) (fun i σ H'=>H'=H/\(∃v:Option V,σ=[some (.ref d),some (.ref e),some (.ref pa),v])/\∀j,j<i->aiC (S.pt l.1) (S.pt l.2) (S.pt (l.1+1+j))=false) ⟨rfl,⟨_,rfl⟩,by intro j hj;lia⟩ ?_ ?_
 ·rintro i σ H' hi ⟨rfl,⟨v,rfl⟩,inv⟩;obtain⟨c3,hc3,p3,q3⟩:=D.pt (i:=l.1+1+i) (by lia);have ei:(l.1:Int)+1+(i:Nat)=((l.1+1+i:Nat):Int):=by lia
  refine⟨_,rfl,_,rfl,e,_,_,_,rfl,rfl,g,rfl,pa,_,_,V.ref c1,rfl,rfl,SqL.of D.pts,atr hc1,_,rfl,_,rfl,e,_,_,_,rfl,rfl,g,rfl,pa,_,_,V.ref c2,rfl,rfl,SqL.of D.pts,atr hc2,_,rfl,_,rfl,pa,_,_,V.ref c3,rfl,rfl,SqL.of D.pts,(by show atI _ ((l.1:Int)+1+(i:Nat))=_;rw[ei];exact atr hc3),?_⟩;refine⟨c1,c2,c3,S.pt l.1,S.pt l.2,S.pt (l.1+1+i),rfl,p1,p2,p3,q1,q2,_,rfl,?_⟩;refine Abj (fun e1=>?_) (fun e1=>?_)
  ·have:Pg.hasPoint S l=true:=by
    unfold Pg.hasPoint;rw[aeJ];exact⟨i,abT.2 hi,e1⟩
   rw[this]at k;exact k
  ·refine⟨rfl,⟨_,rfl⟩,fun j hj=>?_⟩
   by_cases ej:j=i
   ·subst ej;exact abZ.mpr e1
   ·exact inv j (by lia)
 ·rintro σ H' ⟨rfl,⟨v,rfl⟩,inv⟩;have:Pg.hasPoint S l=false:=by
   unfold Pg.hasPoint;rw[agA];intro j hj;rw[inv j (abT.1 hj)];simp
  rw[this]at k;exact k
theorem scCrB:Aaa ["drawing","number","points","line","k","other"] ["drawing","number"] (Aa6 Bbv):=fsc
theorem Bap {f fX fQ fT C:Addr}{fd fdX fdQ fdT:aaX}(F:Def K mg "crosses_one_before" Bbv ["drawing","number"] f fd)(FX:Def K mg "crosses" Akh ["p","q","r","s"] fX fdX)(FQ:Def K mg "parts" Ai0 ["p","q","r","s"] fQ fdQ)(FT:Def K mg "turn_of" Acz ["p","q","r"] fT fdT)
 (nr:mg "range" = none) (T:Ac7 K C):FnOk P w K mg base CX0 4 f fd ["drawing","number"] (Azk C):=by
 have GX:FnOk P w K mg base CX0 3 fX fdX ["p","q","r","s"] Aq6:=Atx FX FQ FT;refine F.go scCrB fun cdv A o s H vs Q E hr h=>?_;obtain⟨d,n,l,S,pa,la,ma,as,ls,ms,rfl,D,hl,lin,k⟩:=h;obtain⟨dx,hd⟩:=D.ins
 refine⟨_,Aa2 (pS 2 scCrB.nd (Aaj (pv 0) rfl))
  (Aa2 (pS 3 scCrB.nd (pIL (Aaj (pv 0) rfl) (pv 1)))
  (Aa2 (Aao aaQ rfl (Abz rfl nr (Aa0 (pv 1) Aa3)) (pG 4 scCrB.nd)
   (Aa2 (pS 5 scCrB.nd (pIL (Aaj (pv 0) rfl) (pv 4)))
   (Aa4 (Aav (Adl Acl Acl (pIT (pv 5) Aa7) (pIT (pv 3) Aa7) (pIT (pv 5) Aa7))
    (Aa4 (Aav (Ad6 (pCD FX GX hr (Aa0 (pIL (pv 2) (pIT (pv 3) Aa7)) (Aa0 (pIL (pv 2) (pIT (pv 3) Aa7))
     (Aa0 (pIL (pv 2) (pIT (pv 5) Aa7)) (Aa0 (pIL (pv 2) (pIT (pv 5) Aa7)) Aa3))))))
     (Aa4 (Aa9 Acs)) Aag)) Aag))))
  (Aa4 (Aa9 Acs)))),?_⟩
 have nL:=D.nL;have hn:=(aaB.mp hl).1;obtain⟨cl,hcl⟩ : ∃c,ls[n]?=some c:=⟨_,aaE (by rw[D.lnsA.len];exact hn)⟩
 obtain⟨l',hl',pl⟩:=D.lnsA.at_ n cl hcl;rw[hl]at hl';cases hl';have ll:=lin l (aaJ hl);have g:=pl.sq (K:=K);obtain⟨c1,hc1,p1,q1⟩:=D.pt (i:=l.1) (by lia);obtain⟨c2,hc2,p2,q2⟩:=D.pt (i:=l.2) ll.2;refine⟨_,rfl,d,C,dx,_,_,rfl,hd,T.cl,T.nP,Ad0 _ _ _ _ _,?_⟩;refine⟨_,rfl,d,C,dx,_,_,rfl,hd,T.cl,T.nL,Aft _ _ _ _ _,_,rfl,la,_,_,V.ref cl,rfl,rfl,SqL.of D.lns,atr hcl,?_⟩;refine⟨_,rfl,(n:Int),rfl,by lia,by lia,?_⟩
 have en:((n:Int)).toNat=n:=by lia
 rw[en];refine Ac4 (n:=n) (fun i σ H'=>H'=H/\(∃v4 v5:Option V,σ=[some (.ref d),some (.int n),some (.ref pa),some (.ref cl),v4,v5])/\∀j m,j<i->S.lines[j]?=some m->(decide (m.1<l.1/\l.1<m.2)&&akA (S.pt l.1) (S.pt l.2) (S.pt m.1) (S.pt m.2))=false) ⟨rfl,⟨_,_,rfl⟩,by intro j m hj;lia⟩ ?_ ?_
 ·rintro i σ H' hi ⟨rfl,⟨v4,v5,rfl⟩,inv⟩;obtain⟨co,hco⟩ : ∃c,ls[i]?=some c:=⟨_,aaE (by rw[D.lnsA.len];lia)⟩
  obtain⟨m,hm,pm⟩:=D.lnsA.at_ i co hco;have mm:=lin m (aaJ hm);have gm:=pm.sq (K:=K);obtain⟨c3,hc3,p3,q3⟩:=D.pt (i:=m.1) (by lia);obtain⟨c4,hc4,p4,q4⟩:=D.pt (i:=m.2) mm.2;have next:(decide (m.1<l.1/\l.1<m.2)&&akA (S.pt l.1) (S.pt l.2) (S.pt m.1) (S.pt m.2))=false->∀j m',j<i+1->S.lines[j]?=some m'->(decide (m'.1<l.1/\l.1<m'.2)&&akA (S.pt l.1) (S.pt l.2) (S.pt m'.1) (S.pt m'.2))=false:=by
   intro e j m' hj hm'
   by_cases ej:j=i
   ·subst ej;rw[hm]at hm';cases hm';exact e
   ·exact inv j m' (by lia) hm'
  have ei:(0:Int)+(i:Nat)=((i:Nat):Int):=by lia
  refine⟨_,rfl,d,C,dx,_,_,rfl,hd,T.cl,T.nL,Aft _ _ _ _ _,_,rfl,la,_,_,V.ref co,rfl,rfl,SqL.of D.lns,(by show atI _ ((0:Int)+(i:Nat))=_;rw[ei];exact atr hco),?_⟩;refine⟨_,rfl,co,_,_,_,rfl,rfl,gm,rfl,_,rfl,cl,_,_,_,rfl,rfl,g,rfl,_,_,rfl,rfl,_,rfl,?_⟩;refine Abj (fun e1=>?_) (fun e1=>?_)
  ·simp only[dtt]at e1;refine⟨_,rfl,co,_,_,_,rfl,rfl,gm,rfl,_,_,rfl,rfl,_,rfl,?_⟩;refine Abj (fun e2=>?_) (fun e2=>?_)
   ·simp only[dtt]at e2;have ed:decide (m.1<l.1/\l.1<m.2)=true:=dft ⟨by lia,by lia⟩
    refine⟨_,rfl,_,rfl,cl,_,_,_,rfl,rfl,g,rfl,pa,_,_,V.ref c1,rfl,rfl,SqL.of D.pts,atr hc1,_,rfl,_,rfl,cl,_,_,_,rfl,rfl,g,rfl,pa,_,_,V.ref c2,rfl,rfl,SqL.of D.pts,atr hc2,
     _,rfl,_,rfl,co,_,_,_,rfl,rfl,gm,rfl,pa,_,_,V.ref c3,rfl,rfl,SqL.of D.pts,atr hc3,_,rfl,_,rfl,co,_,_,_,rfl,rfl,gm,rfl,pa,_,_,V.ref c4,rfl,rfl,SqL.of D.pts,atr hc4,?_⟩
    refine⟨c1,c2,c3,c4,S.pt l.1,S.pt l.2,S.pt m.1,S.pt m.2,rfl,p1,p2,p3,p4,q1,q2,q3,q4,_,rfl,?_⟩;refine Abj (fun e3=>?_) (fun e3=>?_)
    ·have:Pg.crossBefore S n l=true:=by
      unfold Pg.crossBefore;rw[aeJ];refine⟨m,?_,by rw[ed,e3];rfl⟩;rw[agH];exact⟨i,by lia,(aaB.mp hm).2⟩
     rw[this]at k;exact k
    ·exact⟨rfl,⟨_,_,rfl⟩,next (by rw[abZ.mpr e3,Bool.and_false])⟩
   ·simp only[dtt]at e2;exact⟨rfl,⟨_,_,rfl⟩,next (by rw[dff (by lia),ajS])⟩
  ·simp only[dtt]at e1;exact⟨_,rfl,Ali ⟨rfl,⟨_,_,rfl⟩,next (by rw[dff (by lia),ajS])⟩⟩
 ·rintro σ H' ⟨rfl,⟨v4,v5,rfl⟩,inv⟩;have:Pg.crossBefore S n l=false:=by
   unfold Pg.crossBefore;rw[agA];intro m hm;rw[agH]at hm;obtain⟨j,hj,e⟩:=hm;rw[inv j m (by lia) (by rw[<-e];exact aaE _)];simp
  rw[this]at k;exact k
abbrev Aqb:afD:=top Ahl
abbrev Aj1:afD:=top Aen
theorem Af9 {n i:Nat}{p:Nat->Bool}(hi:i<n)(hp:p i=true)(hb:∀j,j<i->p j=false):(aaT n).find? p=some i:=by
 rw[ahD];refine⟨hp,i,by simpa using hi,by simp,?_⟩;intro j hj;simp[hb j hj]
theorem Acv {n:Nat}{p:Nat->Bool}(hb:∀j,j<n->p j=false):(aaT n).find? p=none:=by
 rw[adN];intro j hj;rw[hb j (abT.1 hj)];simp
theorem scCrL:Aaa ["drawing","number","line"] ["drawing"] (Aa6 Bck):=fsc
theorem Bao {f fH fB fO fX fQ fT C fP fL fM:Addr}{fd fdH fdB fdO fdX fdQ fdT fdP fdL fdM:aaX}(F:Def K mg "crossed_line" Bck ["drawing"] f fd)(FH:Def K mg "has_point_on" At5 ["drawing","line"] fH fdH)(FB:Def K mg "crosses_one_before" Bbv ["drawing","number"] fB fdB)
 (FO:Def K mg "is_on" Alu ["p","q","r"] fO fdO) (FX:Def K mg "crosses" Akh ["p","q","r","s"] fX fdX) (FQ:Def K mg "parts" Ai0 ["p","q","r","s"] fQ fdQ) (FT:Def K mg "turn_of" Acz ["p","q","r"] fT fdT)
 (M:TMeth K mg C fP fL fM fdP fdL fdM) (nmin:mg "min" = none) (nmax:mg "max" = none) (nr:mg "range" = none) (ne:mg "enumerate" = none) :
 FnOk P w K mg base CX0 5 f fd ["drawing"] (Aea C (fun S=>Pg.R45 S/\S.w<=1048575) fun S=>(acR (afC S) S.lines).map (aeA S)):=by
 have T:=M.T;have GL:FnOk P w K mg base CX0 2 fL fdL ["self","number"] (Apz C):=Aqx M.FL M.FP M.bP M.mP M.T M.c M.nl;have GH:FnOk P w K mg base CX0 3 fH fdH ["drawing","line"] (Av9 C):=Axh FH FO FT nmin nmax nr T;have GB:FnOk P w K mg base CX0 4 fB fdB ["drawing","number"] (Azk C):=Bap FB FX FQ FT nr T;refine F.go scCrL fun cdv A o s H vs Q E hr h=>?_;obtain⟨d,S,pa,la,ma,as,ls,ms,rfl,D,⟨r,big⟩,k⟩:=h
 have k:∀H',Same H H'->Q (Atn ((acR (afC S) S.lines).map (aeA S))) H':=k;have hr2:Room 2 _:=hr.mono (by decide);have hr3:Room 3 _:=hr.mono (by decide)
 refine⟨_,Aa2 (Aao aaQ rfl (Ac0 rfl ne (Aa0 (Aaj (pv 0) rfl) Aa3)) (Abi rfl (Aab (pG 1 scCrL.nd) (Aab (pG 2 scCrL.nd) Aax)))
  (Aa4 (Aav (PW.pt (Aof (Ad6 (pCD FH GH hr3 (Aa0 (pv 0) (Aa0 (pv 2) Aa3)))) (Ai2 (Ad6 (pCD FB GB hr (Aa0 (pv 0) (Aa0 (pv 1) Aa3)))))))
   (Aa4 (Aa9 (Ab2 (pv 0) T.cl M.mL GL hr2 M.bL .nil Abm (Aa0 (pv 1) Aa3)))) Aag)))
  (Aa4 (Aa9 Acy)),?_⟩
 obtain⟨dx,hd⟩:=D.ins
 refine⟨_,rfl,d,C,dx,_,_,rfl,hd,T.cl,T.nL,Aft _ _ _ _ _,la,_,rfl,SqL.of D.lns,Abo (K:=K) (a:=la) (xs:=ls.map V.ref) (fun i σ H'=>(∃v1 v2:Option V,σ=[some (.ref d),v1,v2])/\Same H H'/\∀j y,j<i->S.lines[j]?=some y->afC S j y=false)
  ⟨⟨_,_,rfl⟩,Same.refl H,by intro j y hj;lia⟩ (fun i σ H' _ ⟨_,s1,_⟩=>SqL.of (s1 _ _ D.lns)) ?_ ?_⟩
 ·rintro i x σ H' t hi ⟨⟨v1,v2,rfl⟩,s1,inv⟩ ht;obtain⟨c,hc,rfl⟩:=Aac hi;obtain⟨l,hp,pc⟩:=D.lnsA.at_ i c hc;have s2:=s1.trans (Same.new (o:=.tup [.int (i:Nat),.ref c]) ht);have D2:=D.same s2;obtain⟨dx2,hd2⟩:=D2.ins;have noL:(dfs S.w S.h pa la ma).lookup ("line_place" : Str)=none:=Ac5 _ _ _ _ _;have ll:=r.lin l (aaJ hp);have te:afC S i l=(Pg.hasPoint S l||Pg.crossBefore S i l):=by
   have h1:=(aaB.mp hp)
   have:=r.touch_eq big i h1.1;rw[h1.2]at this;exact this
  have ret:afC S i l=true->Q (.int (aeA S i:Nat)) (upd H' t (.tup [.int (i:Nat),.ref c])):=fun e=>by
   have:=k _ s2;rw[Acd hp e inv]at this;exact this
  have next:afC S i l=false->(∃v1 v2:Option V,[some (V.ref d),some (.int (i:Nat)),some (.ref c)]=[some (.ref d),v1,v2])/\Same H (upd H' t (.tup [.int (i:Nat),.ref c]))/\∀j y,j<i+1->S.lines[j]?=some y->afC S j y=false:=fun e =>
   ⟨⟨_,_,rfl⟩,s2,fun j y hj hy=>by
    by_cases ej:j=i
    ·subst ej;rw[hp]at hy;cases hy;exact e
    ·exact inv j y (by lia) hy⟩
  refine⟨t,_,rfl,SqT.of Aa1,rfl,_,_,rfl,_,_,rfl,rfl,?_⟩;refine⟨_,rfl,_,rfl,d,c,l,S,pa,la,ma,as,ls,ms,rfl,D2,pc.same s2,ll.1,ll.2,_,rfl,?_⟩;refine Abj (fun e1=>?_) (fun e1=>?_)
  ·refine Arl ⟨_,rfl,d,dx2,_,rfl,hd2,noL,_,rfl,d,i,S,pa,la,ma,as,ls,ms,rfl,D2,?_⟩;exact ret (by rw[te,e1];rfl)
  refine⟨_,rfl,_,rfl,d,i,l,S,pa,la,ma,as,ls,ms,rfl,D2,hp,r.lin,_,rfl,?_⟩;refine Abj (fun e2=>?_) (fun e2=>?_)
  ·refine⟨_,rfl,d,dx2,_,rfl,hd2,noL,_,rfl,d,i,S,pa,la,ma,as,ls,ms,rfl,D2,?_⟩;exact ret (by rw[te,e2,Bool.or_true])
  ·exact next (by rw[te,abZ.mpr e1,abZ.mpr e2];rfl)
 ·rintro σ H' ⟨⟨v1,v2,rfl⟩,s1,inv⟩;have:=k H' s1;rw[Adt (fun j y hy=>inv j y (by rw[aaA,D.lnsA.len];exact(aaB.mp hy).1) hy)]at this;exact this
theorem scLoose:Aaa ["drawing","number","others"] ["drawing"] (Aa6 Aqb):=fsc
theorem Atu {f fK C fP fL fM:Addr}{fd fdK fdP fdL fdM:aaX}(F:Def K mg "loose_point" Aqb ["drawing"] f fd)(FK:Def K mg "links_of" Aec ["drawing"] fK fdK)(M:TMeth K mg C fP fL fM fdP fdL fdM)(ne:mg "enumerate" = none) :
 FnOk P w K mg base CX0 2 f fd ["drawing"] (Aea C (fun S=>∀l,l∈S.lines->l.1<l.2/\l.2<S.pts.length) fun S=>((aaT S.pts.length).find? fun(i:Nat)=>decide ((S.near i).length<2)).map acY):=by
 have T:=M.T;have GP:FnOk P w K mg base CX0 1 fP fdP ["self","number"] (Adw C):=Ae0 M.FP M.c;have GK:FnOk P w K mg base CX0 1 fK fdK ["drawing"] (Ag7 C):=Afv FK T;refine F.go scLoose fun cdv A o s H vs Q E hr h=>?_;obtain⟨d,S,pa,la,ma,as,ls,ms,rfl,D,lin,k⟩:=h;have k:∀H',Same H H'->Q (Atn (((aaT S.pts.length).find? fun(i:Nat)=>decide ((S.near i).length<2)).map acY)) H':=k
 refine⟨_,Aa2 (Aao aaQ rfl (Ac0 rfl ne (Aa0 (pCD FK GK hr (Aa0 (pv 0) Aa3)) Aa3)) (Abi rfl (Aab (pG 1 scLoose.nd) (Aab (pG 2 scLoose.nd) Aax)))
  (Aa4 (Aav (Aak Acl (Aae Aad (by rfl) M.nl acB (Aa0 (pv 2) Aa3)) Aa7 (Aan _)) (Aa4 (Aa9 (Ab2 (pv 0) T.cl M.mP GP hr M.bP .nil Abm (Aa0 (pv 1) Aa3)))) Aag)))
  (Aa4 (Aa9 Acy)),?_⟩
 refine⟨_,rfl,d,S,pa,la,ma,as,ls,ms,rfl,D,lin,fun H1 a rows s1 L=>?_⟩
 refine⟨a,_,rfl,SqL.of L.lst,Abo (K:=K) (a:=a) (xs:=rows.map V.ref) (fun i σ H'=>(∃v1 v2:Option V,σ=[some (.ref d),v1,v2])/\Same H1 H'/\∀j,j<i->decide ((S.near j).length<2)=false)
  ⟨⟨_,_,rfl⟩,Same.refl H1,by intro j hj;lia⟩ (fun i σ H' _ ⟨_,s2,_⟩=>SqL.of (s2 _ _ L.lst)) ?_ ?_⟩
 ·rintro i x σ H' t hi ⟨⟨v1,v2,rfl⟩,s2,inv⟩ ht;obtain⟨c,hc,rfl⟩:=Aac hi;have rl:rows.length=S.pts.length:=by have:=L.len;simpa using this
  have il:=(aaB.mp hc).1;obtain⟨l,el,hcl⟩:=L.at_ i c hc;have:l=S.near i:=by
   rw[aaH,adK (by lia)]at el;exact(abD el).symm
  subst this;have s3:=s2.trans (Same.new (o:=.tup [.int (i:Nat),.ref c]) ht);have D3:=D.same (s1.trans s3);obtain⟨dx2,hd2⟩:=D3.ins;have noP:(dfs S.w S.h pa la ma).lookup ("point_place" : Str)=none:=Ac5 _ _ _ _ _;refine⟨t,_,rfl,SqT.of Aa1,rfl,_,_,rfl,_,_,rfl,rfl,?_⟩;refine⟨_,rfl,c,_,rfl,.inl (SqL.of (s3 _ _ hcl)),_,_,rfl,rfl,_,rfl,?_⟩;have vl:(vN (S.near i)).length=(S.near i).length:=by unfold vN;rw[aaA]
  rw[vl];refine Abj (fun e1=>?_) (fun e1=>?_)
  ·simp only[dtt]at e1;refine⟨_,rfl,d,dx2,_,rfl,hd2,noP,_,rfl,d,i,rfl,?_⟩;have:=k _ (s1.trans s3);rw[Af9 (show i<S.pts.length by lia) (dft (show(S.near i).length<2 by lia)) inv]at this;exact this
  ·simp only[dtt]at e1;refine⟨⟨_,_,rfl⟩,s3,fun j hj=>?_⟩
   by_cases ej:j=i
   ·subst ej;exact dff (by lia)
   ·exact inv j (by lia)
 ·rintro σ H' ⟨⟨v1,v2,rfl⟩,s2,inv⟩;have rl:rows.length=S.pts.length:=by have:=L.len;simpa using this
  have:=k H' (s1.trans s2);rw[Acv (fun j hj=>inv j (by rw[aaA,rl];exact hj))]at this;exact this
def Aiu (C:Addr):Sp:=fun vs H Q _=>∃(d e:Addr) (z:Pt) (S:Plan) (pa la ma:Addr) (as ls ms:List Addr),vs=[.ref d,.ref e]/\DrawAt C H d S pa la ma as ls ms/\PtAt H e z/\Pg.R45 S/\Q (.bl (aiV S z)) H
theorem scOnSome:Aaa ["drawing","spot","points","first","second"] ["drawing","spot"] (Aa6 Aj1):=fsc
theorem Aqu {f fO fT C:Addr}{fd fdO fdT:aaX}(F:Def K mg "is_on_some_line" Aj1 ["drawing","spot"] f fd)(FO:Def K mg "is_on" Alu ["p","q","r"] fO fdO)(FT:Def K mg "turn_of" Acz ["p","q","r"] fT fdT)(nmin:mg "min" = none)(nmax:mg "max" = none)(T:Ac7 K C) :
 FnOk P w K mg base CX0 3 f fd ["drawing","spot"] (Aiu C):=by
 have GO:FnOk P w K mg base CX0 2 fO fdO ["p","q","r"] Aq0:=Aqy FO FT nmin nmax;refine F.go scOnSome fun cdv A o s H vs Q E hr h=>?_;obtain⟨d,e,z,S,pa,la,ma,as,ls,ms,rfl,D,hz,r,k⟩:=h;obtain⟨dx,hd⟩:=D.ins;obtain⟨_,gz⟩:=hz.sq (K:=K)
 refine⟨_,Aa2 (pS 2 scOnSome.nd (Aaj (pv 0) rfl))
  (Aa2 (Aao aaQ rfl (Aaw (Aaj (pv 0) rfl)) (Abi rfl (Aab (pG 3 scOnSome.nd) (Aab (pG 4 scOnSome.nd) Aax)))
   (Aa4 (Aav (PW.pt (Agb (Adl Ato Ato (pIT (pIL (pv 2) (pv 3)) Aa7) (pIT (pv 1) Aa7) (pIT (pIL (pv 2) (pv 4)) Aa7))
    (Adz (Ad6 (pCD FO GO hr (Aa0 (pIL (pv 2) (pv 3)) (Aa0 (pIL (pv 2) (pv 4)) (Aa0 (pv 1) Aa3))))))))
    (Aa4 (Aa9 Acs)) Aag)))
  (Aa4 (Aa9 Acs))),?_⟩
 refine⟨_,rfl,d,C,dx,_,_,rfl,hd,T.cl,T.nP,Ad0 _ _ _ _ _,?_⟩
 refine⟨_,rfl,d,C,dx,_,_,rfl,hd,T.cl,T.nL,Aft _ _ _ _ _,la,rfl,⟨_,SqL.of D.lns⟩,Abn (K:=K) (a:=la) (xs:=ls.map V.ref) (fun i σ H'=>H'=H/\(∃v3 v4:Option V,σ=[some (.ref d),some (.ref e),some (.ref pa),v3,v4])/\∀j l,j<i->S.lines[j]?=some l->aiC (S.pt l.1) (S.pt l.2) z=false)
  ⟨rfl,⟨_,_,rfl⟩,by intro j l hj;lia⟩ (fun i σ H' _ ⟨e',_⟩=>by rw[e'];exact SqL.of D.lns) ?_ ?_⟩
 ·rintro i y σ H' hi ⟨rfl,⟨v3,v4,rfl⟩,inv⟩;obtain⟨c,hc,rfl⟩:=Aac hi;obtain⟨l,hl,pl⟩:=D.lnsA.at_ i c hc;have ll:=r.lin l (aaJ hl);obtain⟨c1,hc1,p1,q1⟩:=D.pt (i:=l.1) (by lia);obtain⟨c2,hc2,p2,q2⟩:=D.pt (i:=l.2) ll.2;have ord:=(Pg.below_iff _ _).1 (r.ord l.1 l.2 ll.1 ll.2);obtain⟨_,g1⟩:=p1.sq (K:=K);obtain⟨_,g2⟩:=p2.sq (K:=K);have next:aiC (S.pt l.1) (S.pt l.2) z=false->∀j l',j<i+1->S.lines[j]?=some l'->aiC (S.pt l'.1) (S.pt l'.2) z=false:=by
   intro e j l' hj hl'
   by_cases ej:j=i
   ·subst ej;rw[hl]at hl';cases hl';exact e
   ·exact inv j l' (by lia) hl'
  have off:¬((S.pt l.1).y<=z.y/\z.y<=(S.pt l.2).y)->aiC (S.pt l.1) (S.pt l.2) z=false:=by
   intro ne;cases q:aiC (S.pt l.1) (S.pt l.2) z with
   | false=>rfl
   | true =>
    exfalso;unfold aiC Gla.between at q;simp at q;lia
  refine⟨c,_,rfl,pl.sq,rfl,_,_,rfl,_,_,rfl,rfl,?_⟩;refine⟨_,rfl,_,rfl,pa,_,_,V.ref c1,rfl,rfl,SqL.of D.pts,atr hc1,c1,_,_,_,rfl,rfl,g1,atC,_,rfl,e,_,_,_,rfl,rfl,gz,atC,_,_,rfl,rfl,_,rfl,?_⟩;refine Abj (fun e1=>?_) (fun e1=>?_)
  ·simp only[dtt]at e1;refine⟨_,rfl,_,rfl,pa,_,_,V.ref c2,rfl,rfl,SqL.of D.pts,atr hc2,c2,_,_,_,rfl,rfl,g2,atC,_,_,rfl,rfl,_,rfl,?_⟩;refine Abj (fun e2=>?_) (fun e2=>?_)
   ·refine⟨_,rfl,_,rfl,pa,_,_,V.ref c1,rfl,rfl,SqL.of D.pts,atr hc1,_,rfl,_,rfl,pa,_,_,V.ref c2,rfl,rfl,SqL.of D.pts,atr hc2,_,rfl,c1,c2,e,S.pt l.1,S.pt l.2,z,rfl,p1,p2,hz,q1,q2,_,rfl,?_⟩;refine Abj (fun e3=>?_) (fun e3=>?_)
    ·have:aiV S z=true:=by
      unfold aiV;rw[aeJ];exact⟨l,aaJ hl,e3⟩
     rw[this]at k;exact k
    ·exact⟨rfl,⟨_,_,rfl⟩,next (abZ.mpr e3)⟩
   ·simp only[dtt]at e2;exact Ali ⟨rfl,⟨_,_,rfl⟩,next (off (by lia))⟩
  ·simp only[dtt]at e1;exact⟨_,rfl,Ali (Ali ⟨rfl,⟨_,_,rfl⟩,next (off (by lia))⟩)⟩
 ·rintro σ H' ⟨rfl,⟨v3,v4,rfl⟩,inv⟩;have:aiV S z=false:=by
   unfold aiV;rw[agA];intro l hl;obtain⟨j,hj,ej⟩:=abX.1 hl;rw[inv j l (by rw[aaA,D.lnsA.len];exact hj) (by rw[<-ej];exact aaE hj)];simp
  rw[this]at k;exact k
abbrev Akd:afD:=top Aot
def fK (l:List Nat):List (Key×V):=l.map fun(n:Nat)=>((adD (n:Int):Key),V.bl true)
theorem Al4 (j:Nat):∀l:List Nat,(Ac8 (fK l) (adD (j:Int))).isSome=decide (j∈l)
 | []=>by simp[fK,Ac8]
 | x::r=>by
  show(Ac8 ((adD (x:Int),V.bl true)::fK r) (adD (j:Int))).isSome=_
  by_cases e:x=j
  ·subst e;rw[Ab9 rfl];simp
  ·have ne:¬(adD (x:Int):Key)=adD (j:Int):=fun q=>e (by have:=akR q;lia);rw[Aba ne,Al4 j r];simp[acU e]
theorem Avr {l:List Nat}{j:Nat}(h:j∉l):Aeq (fK l) (adD (j:Int)) (V.bl true)=fK (l++[j]):=by
 have:Ac8 (fK l) (adD (j:Int))=none:=by
  have:=Al4 j l;cases q:Ac8 (fK l) (adD (j:Int)) with
  | none=>rfl
  | some v=>rw[q]at this;simp[h]at this
 rw[Afu _ this];unfold fK;rw[aaU];rfl
def shV:Option Nat->V
 | some n=>.int (n:Nat)
 | none=>.non
theorem Asy (j:Nat)(o:Option Nat):Bca (V.int (j:Nat)) (shV o)=true:=by cases o<;>rfl
theorem Azn (j:Nat)(o:Option Nat):(!decide (V.int (j:Nat)=shV o))=decide (¬o=some j):=by
 cases o with
 | none=>simp[shV]
 | some n =>
  by_cases e:n=j
  ·subst e;simp[shV]
  ·have:¬V.int (j:Nat)=shV (some n):=fun q=>e (by unfold shV at q;injection q with q;lia);rw[dff this];simp[e]
theorem Acf (l:List Nat)(x:Nat):vN l++[V.int (x:Nat)]=vN (l++[x]):=by unfold vN;rw[aaU];rfl
theorem Ao8 (shut:Option Nat)(l:List Nat)(j:Nat)(z:List Nat×List Nat):Pg.stepP shut (l++[j]) z=if shut=some j\/j∈(Pg.stepP shut l z).2 then Pg.stepP shut l z else(j::(Pg.stepP shut l z).1,(Pg.stepP shut l z).2++[j]):=by
 unfold Pg.stepP;rw[List.foldl_append];rfl
def Ait:Sp:=fun vs H Q _=>∃(a:Addr) (rows:List Addr) (H0:Hp) (S:Plan) (st:Nat) (shut:Option Nat) (fin:Array Bool) (m:Nat),vs=[.ref a,.int st,shV shut]/\LkAt H0 H a rows ((aaT S.pts.length).map S.near)/\Pg.R45 S/\S.pts.length<=4096/\m<=5000/\Pg.Reach S shut fin m [st] [st]/\
 ∀(H':Hp) (p:Addr) (found:List Nat),Same H H'->H' p=some (.dK (fK found))->Pg.Sim S.pts.length shut found fin->Q (.ref p) H'
theorem scReach:Aaa ["links","start","shut","found","waiting","here","number"] ["links","start","shut"] (Aa6 Akd):=fsc
theorem Ane {f:Addr}{fd:aaX}(F:Def K mg "reached" Akd ["links","start","shut"] f fd):FnOk P w K mg base CX0 1 f fd ["links","start","shut"] Ait:=by
 refine F.go scReach fun cdv A o s H vs Q E hr h=>?_;obtain⟨a,rows,H0,S,st,shut,fin,m,rfl,L,r,nP,m5,R,k⟩:=h;have hu:=Agv hr
 refine⟨_,Aa2 (pS 3 scReach.nd (Ax2 (Atc (pv 1) Acs Ax0) rfl rfl (by simp) (by decide)))
  (Aa2 (pS 4 scReach.nd (Abb (Aa0 (pv 1) Aa3)))
  (Aa2 (Aj4 aaQ (Aed (pv 4) (fun _=>rfl))
   (Aa2 (pS 5 scReach.nd (Ba4 abK PySem.F.slot_list_pop PySem.F.type_list_pop Bat (pv 4)))
   (Aa4 (Aao aaQ rfl (Aaw (pIL (pv 0) (pv 5))) (pG 6 scReach.nd)
    (Aa4 (Aav (PW.pt (Agb (Aak Baa (pv 6) (pv 2) (Aan _)) (Adz (Ai4 (Ada hu (pv 6) (pv 3))))))
     (Aa2 (Ad8 hu (pv 3) (pv 6) Acs rfl) (Aa4 (Abc (Ad9 abK acG acF Ab7 (pv 4) (Aa0 (pv 6) Aa3))))) Aag))))))
  (Aa4 (Aa9 (pv 3))))),?_⟩
 intro fo hfo;refine⟨_,rfl,Aa1,[(adD (st:Int),V.bl true)],rfl,(by show 1<=15;decide),?_⟩;have ef:Ai9 [] [((adD (st:Int):Key),V.bl true)]=fK [st]:=rfl;rw[ef,Aw7];have s1:Same H (upd H fo (.dK (fK [st]))):=Same.new hfo;refine⟨_,rfl,sz1,fun wa hwa=>?_⟩;have s2:=s1.trans (Same.new (o:=.lst [.int (st:Nat)]) hwa);have nwf:fo≠wa:=fun q=>by rw[<-q,Aa1]at hwa;cases hwa
 have hfo0:H fo=none:=hfo;have hwa0:H wa=none:=s1.free hwa;have len2:∀{m todo found},Pg.Reach S shut fin m todo found->found.length<=4096:=fun {m todo found} R=>by
  obtain⟨⟨seen,sm,_⟩,_⟩:=R;have:=Pg.len_le sm.nod (m:=aaT S.pts.length) (fun x hx=>abT.2 (sm.lt x hx));rw[acK]at this;lia
 refine⟨fun m' σ H'=>m'<=m/\∃(todo found:List Nat) (v5 v6:Option V),σ=[some (.ref a),some (.int st),some (shV shut),some (.ref fo),some (.ref wa),v5,v6]/\Same H H'/\H' fo=some (.dK (fK found))/\H' wa=some (.lst (vN todo.reverse))/\Pg.Reach S shut fin m' todo found,
  ⟨m,aaK _,[st],[st],none,none,rfl,s2,by rw[Aa5 nwf,Aa1],Aa1,R⟩,?_⟩
 rintro m' σ H' ⟨mm,todo,found,v5,v6,rfl,s3,hf,hw,R'⟩;refine⟨_,rfl,_,.inl ⟨_,SqL.of hw,rfl⟩,?_⟩;refine Abj (fun e=>?_) (fun e=>?_)
 ·-- here=waiting.pop()
  cases todo with
  | nil=>simp[vN]at e
  | cons kk rr =>
   obtain⟨m1,em,R1⟩:=R'.step r;have kn:=R'.lt kk (by simp);have rl:rows.length=S.pts.length:=by have:=L.len;simpa using this
   obtain⟨c,hc⟩ : ∃c,rows[kk]?=some c:=⟨_,aaE (by lia)⟩
   obtain⟨l,el,hcl⟩:=L.at_ kk c hc;have:l=S.near kk:=by
    rw[aaH,adK kn]at el;exact(abD el).symm
   subst this;have ew:vN (kk::rr).reverse=vN rr.reverse++[V.int (kk:Nat)]:=by rw[aiI,Acf]
   have frw:∀b o,H b=some o->b≠fo/\b≠wa:=fun b o e=>⟨Aa8 e hfo0,Aa8 e hwa0⟩
   refine⟨fun σ' H''=>∃(v5 v6:Option V),σ'=[some (.ref a),some (.int st),some (shV shut),some (.ref fo),some (.ref wa),v5,v6]/\Same H H''/\H'' fo=some (.dK (fK (Pg.stepP shut (S.near kk) (rr,found)).2))/\H'' wa=some (.lst (vN (Pg.stepP shut (S.near kk) (rr,found)).1.reverse)),
    fun σ' H'' ⟨v5,v6,e1,e2,e3,e4⟩=>⟨m1,by lia,by lia,_,_,v5,v6,e1,e2,e3,e4,R1⟩,?_⟩
   refine⟨_,rfl,.inl ⟨rfl,_,SqL.of hw⟩,wa,_,V.int (kk:Nat),rfl,rfl,hw,by rw[ew];simp,?_⟩;rw[ew,List.dropLast_concat];have nfw:fo≠wa:=nwf;have s4:Same H (upd H' wa (.lst (vN rr.reverse))):=fun b o e=>by rw[Aa5 (frw b o e).2];exact s3 b o e
   have hcl4:=s4 _ _ hcl;refine⟨_,rfl,_,rfl,a,_,_,V.ref c,rfl,rfl,SqL.of (s4 _ _ L.lst),Ae6 (by rw[aaH,hc];rfl),c,rfl,⟨_,SqL.of hcl4⟩,?_⟩
   refine Abn (K:=K) (a:=c) (xs:=vN (S.near kk)) (fun i σ' H''=>∃(v6:Option V),σ'=[some (.ref a),some (.int st),some (shV shut),some (.ref fo),some (.ref wa),some (.int (kk:Nat)),v6]/\Same H H''/\
    H'' fo=some (.dK (fK (Pg.stepP shut ((S.near kk).take i) (rr,found)).2))/\H'' wa=some (.lst (vN (Pg.stepP shut ((S.near kk).take i) (rr,found)).1.reverse)))
    ⟨_,rfl,s4,by rw[Aa5 nfw];exact hf,Aa1⟩ (fun i σ' H'' _ ⟨_,_,s5,_⟩=>SqL.of (s5 _ _ hcl)) ?_ ?_
   ·rintro i y σ' H'' hi ⟨v6,rfl,s5,hf5,hw5⟩;obtain⟨j,hj,rfl⟩ : ∃j,(S.near kk)[i]?=some j/\y=V.int (j:Nat):=by
     unfold vN at hi;rw[aaH]at hi;cases q:(S.near kk)[i]? with
     | none=>rw[q]at hi;cases hi
     | some j=>rw[q]at hi;exact⟨j,rfl,(abD hi).symm⟩
    obtain⟨⟨seen,sm,le,_⟩,_⟩:=R';have nl:∀x,x∈(S.near kk).take i->x<S.pts.length:=fun x hx=>by
     rcases (Pg.mem_near5 (fun l hl=>(r.lin l hl).1) kk x).1 (afF hx)with q | q<;>(have:=r.lin _ q;simp only[]at this;lia)
    obtain⟨z1,z2,z3⟩:=Pg.step_sim ((S.near kk).take i) rr found seen nl sm;have lenF:(Pg.stepP shut ((S.near kk).take i) (rr,found)).2.length<=4096:=by
     have:=Pg.len_le z2.nod (m:=aaT S.pts.length) (fun x hx=>abT.2 (z2.lt x hx));rw[acK]at this;lia
    have lenT:(Pg.stepP shut ((S.near kk).take i) (rr,found)).1.length<=5000:=by
     rw[z1];simp only[aaZ]at le;lia
    have st1:=Ao8 shut ((S.near kk).take i) j (rr,found);rw[<-Aai hj]at st1;generalize Pg.stepP shut ((S.near kk).take i) (rr,found)=zz at *;refine⟨_,rfl,_,rfl,Asy j shut,_,rfl,?_⟩;rw[Azn];refine Abj (fun e1=>?_) (fun e1=>?_)
    ·simp only[dtt]at e1;refine⟨_,rfl,_,rfl,fo,_,rfl,DGet.k (k:=adD (j:Int)) hf5,_,rfl,?_⟩;rw[Al4];refine Abj (fun e2=>?_) (fun e2=>?_)
     ·have nj:j∉zz.2:=by
       intro q;rw[dft q]at e2;cases e2
      rw[ifn (by intro q;rcases q with q | q;exact e1 q;exact nj q)]at st1;have lk:(fK zz.2).length<abB:=by unfold fK;rw[aaA];exact abY lenF (by decide)
      refine⟨_,rfl,_,rfl,fo,_,rfl,DPut.k (k:=adD (j:Int)) hf5 lk,?_⟩;rw[Avr nj];have hw6:(upd H'' fo (.dK (fK (zz.2++[j])))) wa=some (.lst (vN zz.1.reverse)):=by rw[Aa5 (acU nfw)];exact hw5
      refine⟨_,rfl,.inl ⟨rfl,_,SqL.of hw6⟩,_,rfl,wa,_,_,rfl,rfl,hw6,by unfold vN;rw[aaA,ahR];exact abY lenT (by decide),?_⟩;refine⟨_,rfl,?_,?_,?_⟩
      ·intro b o e;rw[Aa5 (frw b o e).2,Aa5 (frw b o e).1];exact s5 b o e
      ·rw[Aa5 nfw,Aa1,st1]
      ·rw[Aa1,st1,Acf,aiI]
     ·have yj:j∈zz.2:=by
       apply acT;intro q;rw[dff q]at e2;exact e2 rfl
      rw[ifp (.inr yj)]at st1;exact⟨_,rfl,s5,by rw[st1];exact hf5,by rw[st1];exact hw5⟩
    ·simp only[dtt]at e1;have:shut=some j:=acT e1;rw[ifp (.inl this)]at st1;exact Ali ⟨_,rfl,s5,by rw[st1];exact hf5,by rw[st1];exact hw5⟩
   ·rintro σ' H'' ⟨v6,rfl,s5,hf5,hw5⟩;have el:(vN (S.near kk)).length=(S.near kk).length:=by unfold vN;rw[aaA]
    rw[el,acA]at hf5 hw5;exact⟨_,_,rfl,s5,hf5,hw5⟩
 ·cases todo with
  | cons kk rr=>exfalso;apply e;simp[vN]
  | nil=>exact⟨_,rfl,k H' fo found s3 hf R'.done⟩
abbrev Bcj:afD:=top Afs
abbrev Awn:afD:=top Afq
abbrev Bce:afD:=top Ajf
def Aco (S:Plan)(i:Nat)(x:Mark):Bool:=!Gla.clear S x.at_||(decide (0<i)&&(match S.marks[i-1]? with
 | some y=>!y.at_.below x.at_
 | none=>false))
theorem Anz (S:Plan):agO (Gla.markOk S) agT S.marks=acR (Aco S) S.marks:=by
 unfold agO
 congr 1
 funext i x
 unfold Aco;cases S.marks[i-1]?<;>rfl
def Bbw (S:Plan):Prop:=Pg.R45 S/\4<=S.pts.length
theorem scCut:Aaa ["drawing","found","number"] ["drawing"] (Aa6 Bcj):=fsc
theorem Ban {f fR fk C fP fL fM:Addr}{fd fdR fdK fdP fdL fdM:aaX}(F:Def K mg "cut_off_point" Bcj ["drawing"] f fd)(FR:Def K mg "reached" Akd ["links","start","shut"] fR fdR)(FK:Def K mg "links_of" Aec ["drawing"] fk fdK)(M:TMeth K mg C fP fL fM fdP fdL fdM)(nr:mg "range" = none) :
 FnOk P w K mg base CX0 2 f fd ["drawing"] (Aea C Bbw fun S=>((aaT S.pts.length).find? fun(i:Nat)=>!((ahH S.nears S.pts.length 0 (ahI S.pts.length)).getD i false)).map acY):=by
 have T:=M.T;have GP:FnOk P w K mg base CX0 1 fP fdP ["self","number"] (Adw C):=Ae0 M.FP M.c;have GK:FnOk P w K mg base CX0 1 fk fdK ["drawing"] (Ag7 C):=Afv FK T;have GR:FnOk P w K mg base CX0 1 fR fdR ["links","start","shut"] Ait:=Ane FR;refine F.go scCut fun cdv A o s H vs Q E hr h=>?_;obtain⟨d,S,pa,la,ma,as,ls,ms,rfl,D,⟨r,h4⟩,k⟩:=h;have k:∀H',Same H H'->Q (Atn (((aaT S.pts.length).find? fun(i:Nat)=>!((ahH S.nears S.pts.length 0 (ahI S.pts.length)).getD i false)).map acY)) H':=k
 have hu:=Agv hr
 refine⟨_,Aa2 (pS 1 scCut.nd (pCD FR GR hr (Aa0 (pCD FK GK hr (Aa0 (pv 0) Aa3)) (Aa0 Aa7 (Aa0 Acy Aa3)))))
  (Aa2 (Aao aaQ rfl (Abz rfl nr (Aa0 (Aae Aad (by rfl) M.nl acB (Aa0 (Aaj (pv 0) rfl) Aa3)) Aa3)) (pG 2 scCut.nd)
   (Aa4 (Aav (Ai4 (Ada hu (pv 2) (pv 1))) (Aa4 (Aa9 (Ab2 (pv 0) T.cl M.mP GP hr M.bP .nil Abm (Aa0 (pv 2) Aa3)))) Aag)))
  (Aa4 (Aa9 Acy))),?_⟩
 have nP:=D.nP;refine⟨_,rfl,d,S,pa,la,ma,as,ls,ms,rfl,D,r.lin,fun H1 a rows s1 L=>?_⟩;refine⟨a,rows,H,S,0,none,_,_,rfl,L,r,nP,by lia,Pg.Reach.start0 h4,fun H2 p found s2 hp sm=>?_⟩;have s12:=s1.trans s2;have D2:=D.same s12;obtain⟨dx,hd⟩:=D2.ins;have noP:(dfs S.w S.h pa la ma).lookup ("point_place" : Str)=none:=Ac5 _ _ _ _ _;refine⟨_,rfl,d,C,dx,_,_,rfl,hd,T.cl,T.nP,Ad0 _ _ _ _ _,pa,_,rfl,.inl (SqL.of D2.pts),?_⟩
 rw[aaA,D.ptsA.len];refine⟨(S.pts.length:Int),rfl,by lia,by lia,?_⟩;have en:((S.pts.length:Int)).toNat=S.pts.length:=by lia
 rw[en];refine Ac4 (n:=S.pts.length) (fun i σ H'=>H'=H2/\(∃v2:Option V,σ=[some (.ref d),some (.ref p),v2])/\∀j,j<i->(!((ahH S.nears S.pts.length 0 (ahI S.pts.length)).getD j false))=false) ⟨rfl,⟨_,rfl⟩,by intro j hj;lia⟩ ?_ ?_
 ·rintro i σ H' hi ⟨rfl,⟨v2,rfl⟩,inv⟩;have ei:(0:Int)+(i:Nat)=((i:Nat):Int):=by lia
  have seen:=sm.seen hi;refine⟨_,rfl,_,rfl,p,_,rfl,(by show DGet _ _ (V.int ((0:Int)+(i:Nat))) _;rw[ei];exact DGet.k (k:=adD (i:Int)) hp),_,rfl,?_⟩;rw[Al4];refine Abj (fun e=>?_) (fun e=>?_)
  ·have ni:i∉found:=by
    intro q;rw[dft q]at e;cases e
   refine⟨_,rfl,d,dx,_,rfl,hd,noP,_,rfl,d,i,(by show V.ref d::([V.int ((0:Int)+(i:Nat))]++[])=[V.ref d,V.int (i:Nat)];rw[ei];rfl),?_⟩;have:=k _ s12
   rw[Af9 hi (by
    cases q:(ahH S.nears S.pts.length 0 (ahI S.pts.length)).getD i false with
    | false=>rfl
    | true=>exact absurd (seen.1 q) ni) inv]at this
   exact this
  ·have yi:i∈found:=by
    apply acT;intro q;rw[dff q]at e;exact e rfl
   refine⟨rfl,⟨_,rfl⟩,fun j hj=>?_⟩
   by_cases ej:j=i
   ·subst ej;rw[seen.2 yi];rfl
   ·exact inv j (by lia)
 ·rintro σ H' ⟨rfl,⟨v2,rfl⟩,inv⟩;have:=k _ s12;rw[Acv inv]at this;exact this
theorem scPart:Aaa ["drawing","links","number","start"] ["drawing"] (Aa6 Awn):=fsc
theorem Axa {f fR fk C fP fL fM:Addr}{fd fdR fdK fdP fdL fdM:aaX}(F:Def K mg "parting_point" Awn ["drawing"] f fd)(FR:Def K mg "reached" Akd ["links","start","shut"] fR fdR)(FK:Def K mg "links_of" Aec ["drawing"] fk fdK)(M:TMeth K mg C fP fL fM fdP fdL fdM)(nr:mg "range" = none) :
 FnOk P w K mg base CX0 2 f fd ["drawing"] (Aea C Bbw fun S=>((aaT S.pts.length).find? (aiD S.nears S.pts.length)).map acY):=by
 have T:=M.T;have GP:FnOk P w K mg base CX0 1 fP fdP ["self","number"] (Adw C):=Ae0 M.FP M.c;have GK:FnOk P w K mg base CX0 1 fk fdK ["drawing"] (Ag7 C):=Afv FK T;have GR:FnOk P w K mg base CX0 1 fR fdR ["links","start","shut"] Ait:=Ane FR;refine F.go scPart fun cdv A o s H vs Q E hr h=>?_;obtain⟨d,S,pa,la,ma,as,ls,ms,rfl,D,⟨r,h4⟩,k⟩:=h;have k:∀H',Same H H'->Q (Atn (((aaT S.pts.length).find? (aiD S.nears S.pts.length)).map acY)) H':=k
 refine⟨_,Aa2 (pS 1 scPart.nd (pCD FK GK hr (Aa0 (pv 0) Aa3)))
  (Aa2 (Aao aaQ rfl (Abz rfl nr (Aa0 (Aae Aad (by rfl) M.nl acB (Aa0 (Aaj (pv 0) rfl) Aa3)) Aa3)) (pG 2 scPart.nd)
   (Aa2 (pS 3 scPart.nd (Ath (Aak Aoi (pv 2) Aa7 (Aan _)) Aa7 Aa7))
   (Aa4 (Aav (Aak Acl (Aae Asc (by rfl) M.nl acB (Aa0 (pCD FR GR hr (Aa0 (pv 1) (Aa0 (pv 3) (Aa0 (pv 2) Aa3)))) Aa3))
    (Aay Ac9 (Aae Aad (by rfl) M.nl acB (Aa0 (Aaj (pv 0) rfl) Aa3)) Aa7) (Aan _))
    (Aa4 (Aa9 (Ab2 (pv 0) T.cl M.mP GP hr M.bP .nil Abm (Aa0 (pv 2) Aa3)))) Aag))))
  (Aa4 (Aa9 Acy))),?_⟩
 have nP:=D.nP;refine⟨_,rfl,d,S,pa,la,ma,as,ls,ms,rfl,D,r.lin,fun H1 a rows s1 L=>?_⟩;have D1:=D.same s1;obtain⟨dx,hd⟩:=D1.ins;have noP:(dfs S.w S.h pa la ma).lookup ("point_place" : Str)=none:=Ac5 _ _ _ _ _;refine⟨_,rfl,d,C,dx,_,_,rfl,hd,T.cl,T.nP,Ad0 _ _ _ _ _,pa,_,rfl,.inl (SqL.of D1.pts),?_⟩;rw[aaA,D.ptsA.len];refine⟨(S.pts.length:Int),rfl,by lia,by lia,?_⟩;have en:((S.pts.length:Int)).toNat=S.pts.length:=by lia
 rw[en];refine Ac4 (n:=S.pts.length) (fun i σ H'=>Same H1 H'/\(∃v2 v3:Option V,σ=[some (.ref d),some (.ref a),v2,v3])/\∀j,j<i->aiD S.nears S.pts.length j=false) ⟨Same.refl _,⟨_,_,rfl⟩,by intro j hj;lia⟩ ?_ ?_
 ·rintro i σ H' hi ⟨s2,⟨v2,v3,rfl⟩,inv⟩;have ei:(0:Int)+(i:Nat)=((i:Nat):Int):=by lia
  have body:∀v:V,v=V.int ((if i=0 then 1 else 0:Nat):Nat)->Az9 (Apm (tOp (rI0 fun i j=>.bl (decide (i<j))) (tCB (fun xs H Q=>∃a kvs,xs=[V.ref a]/\H a=some (.dK kvs)/\Q (.int kvs.length) H) (Ab6 (Aiq Ait [] E0 (Ab6 (Abv 1) (Ab6 (Abv 3) (Ab6 (Abv 2) Ahb)))) Ahb))
   (tOp (rI0 fun i j=>.int (i-j)) (tCB (fun xs H Q=>∃p ys,xs=[.ref p]/\(SqL K H p ys\/SqT K H p ys)/\Q (.int ys.length) H) (Ab6 (Bbq K (Abv 0) "points") Ahb)) (tC (.int 1)))))
   (Aso (Asx C "point_place" (Adw C) [] E0 (Abv 0) (Ab6 (Abv 2) Ahb))) App
   { nx:=fun σ H'=>Same H1 H'/\(∃v2 v3:Option V,σ=[some (.ref d),some (.ref a),v2,v3])/\∀j,j<i+1->aiD S.nears S.pts.length j=false,rt:=Q,bk:=Aso (tC .non) { nx:=fun _ H'=>Q .non H',rt:=Q },ct:=fun σ H'=>Same H1 H'/\(∃v2 v3:Option V,σ=[some (.ref d),some (.ref a),v2,v3])/\∀j,j<i+1->aiD S.nears S.pts.length j=false }
   [some (V.ref d),some (.ref a),some (.int ((0:Int)+(i:Nat))),some v] H':=by
   rintro v rfl;refine⟨_,rfl,_,rfl,_,rfl,a,rows,H,S,(if i=0 then 1 else 0),some i,_,_,(by rw[ei];rfl),L.same s2,r,nP,(by lia:S.pts.length+1<=5000),Pg.Reach.startV hi h4,fun H3 p found s3 hp sm=>?_⟩;have s23:=s2.trans s3;have D3:=D1.same s23;obtain⟨dx3,hd3⟩:=D3.ins;refine⟨p,_,rfl,hp,_,rfl,d,C,dx3,_,_,rfl,hd3,T.cl,T.nP,Ad0 _ _ _ _ _,pa,_,rfl,.inl (SqL.of D3.pts),_,_,rfl,rfl,_,_,rfl,rfl,_,rfl,?_⟩;rw[aaA,D.ptsA.len]
   have lk:(fK found).length=found.length:=by unfold fK;rw[aaA]
   rw[lk];have cu:aiD S.nears S.pts.length i=true↔found.length<S.pts.length-1:=sm.cuts hi;refine Abj (fun e=>?_) (fun e=>?_)
   ·simp only[dtt]at e;refine⟨_,rfl,d,dx3,_,rfl,hd3,noP,_,rfl,d,i,(by show V.ref d::([V.int ((0:Int)+(i:Nat))]++[])=[V.ref d,V.int (i:Nat)];rw[ei];rfl),?_⟩;have:=k _ (s1.trans s23);rw[Af9 hi (cu.2 (by lia)) inv]at this;exact this
   ·simp only[dtt]at e;refine⟨s23,⟨_,_,rfl⟩,fun j hj=>?_⟩
    by_cases ej:j=i
    ·subst ej;cases q:aiD S.nears S.pts.length j with
     | false=>rfl
     | true=>have:=cu.1 q;lia
    ·exact inv j (by lia)
  refine⟨_,rfl,rfl,_,rfl,?_⟩;refine Abj (fun e=>?_) (fun e=>?_)
  ·have i0:i=0:=by
    have:=of_decide_eq_true e;injection this with this
    lia
   exact body _ (by rw[ifp i0];rfl)
  ·have i0:¬i=0:=by
    intro q;apply e;subst q;rfl
   exact body _ (by rw[ifn i0];rfl)
 ·rintro σ H' ⟨s2,⟨v2,v3,rfl⟩,inv⟩;have:=k _ (s1.trans s2);rw[Acv inv]at this;exact this
theorem Arm {A B:Prop}(h:A):if (!false)=true then A else B:=by rw[Bool.not_false,ifp rfl];exact h
theorem Bb6 {A B:Prop}(h:B):if (!true)=true then A else B:=by rw[akI,ifn abG];exact h
theorem scWMk:Aaa ["drawing","number","mark"] ["drawing"] (Aa6 Bce):=fsc
theorem Bah {f fB fS fO fT C fP fL fM:Addr}{fd fdB fdS fdO fdT fdP fdL fdM:aaX}(F:Def K mg "wrong_mark" Bce ["drawing"] f fd)(FB:DefB K mg fB fdB)(FS:Def K mg "is_on_some_line" Aj1 ["drawing","spot"] fS fdS)
 (FO:Def K mg "is_on" Alu ["p","q","r"] fO fdO) (FT:Def K mg "turn_of" Acz ["p","q","r"] fT fdT) (M:TMeth K mg C fP fL fM fdP fdL fdM) (nmin:mg "min" = none) (nmax:mg "max" = none) (ne:mg "enumerate" = none) :
 FnOk P w K mg base CX0 4 f fd ["drawing"] (Aea C Pg.R45 fun S=>(acR (Aco S) S.marks).map (afN S)):=by
 have T:=M.T;have GM:FnOk P w K mg base CX0 3 fM fdM ["self","number"] (Amy C):=Aqw M.FM M.FL M.bL M.mL M.FP M.bP M.mP M.T M.c M.nl;have GB:FnOk P w K mg base CX0 2 fB fdB ["q","p"] Aeb:=Ai5 FB;have GS:FnOk P w K mg base CX0 3 fS fdS ["drawing","spot"] (Aiu C):=Aqu FS FO FT nmin nmax T;refine F.go scWMk fun cdv A o s H vs Q E hr h=>?_;obtain⟨d,S,pa,la,ma,as,ls,ms,rfl,D,r,k⟩:=h
 have k:∀H',Same H H'->Q (Atn ((acR (Aco S) S.marks).map (afN S))) H':=k;have hr1:Room 2 _:=hr.mono (by decide)
 refine⟨_,Aa2 (Aao aaQ rfl (Ac0 rfl ne (Aa0 (Aaj (pv 0) rfl) Aa3)) (Abi rfl (Aab (pG 1 scWMk.nd) (Aab (pG 2 scWMk.nd) Aax)))
  (Aa2 (Aav (Aqj (PW.pt (Agb (Adl Acl Acl Aa7 (pIT (pv 2) Aa7) (Aaj (pv 0) rfl)) (Adz (Adl Acl Acl Aa7 (pIT (pv 2) Aa7) (Aaj (pv 0) rfl))))))
   (Aa4 (Aa9 (Ab2 (pv 0) T.cl M.mM GM hr M.bM .nil Abm (Aa0 (pv 1) Aa3)))) Aag)
  (Aa2 (Aav (PW.pt (Agb (Aak Adb (pv 1) Aa7 (Aan _)) (Adz (Aqj (Ad6 (pCD FB.toDef GB hr1 (Aa0 (pv 2) (Aa0 (pIL (Aaj (pv 0) rfl) (Aay Ac9 (pv 1) Aa7)) Aa3))))))))
   (Aa4 (Aa9 (Ab2 (pv 0) T.cl M.mM GM hr M.bM .nil Abm (Aa0 (pv 1) Aa3)))) Aag)
  (Aa4 (Aav (Ad6 (pCD FS GS hr (Aa0 (pv 0) (Aa0 (pv 2) Aa3))))
   (Aa4 (Aa9 (Ab2 (pv 0) T.cl M.mM GM hr M.bM .nil Abm (Aa0 (pv 1) Aa3)))) Aag)))))
  (Aa4 (Aa9 Acy)),?_⟩
 obtain⟨dx,hd⟩:=D.ins
 refine⟨_,rfl,d,C,dx,_,_,rfl,hd,T.cl,T.nM,Amk _ _ _ _ _,ma,_,rfl,SqL.of D.mks,Abo (K:=K) (a:=ma) (xs:=ms.map V.ref) (fun i σ H'=>(∃v1 v2:Option V,σ=[some (.ref d),v1,v2])/\Same H H'/\∀j y,j<i->S.marks[j]?=some y->Aco S j y=false)
  ⟨⟨_,_,rfl⟩,Same.refl H,by intro j y hj;lia⟩ (fun i σ H' _ ⟨_,s1,_⟩=>SqL.of (s1 _ _ D.mks)) ?_ ?_⟩
 ·rintro i x σ H' t hi ⟨⟨v1,v2,rfl⟩,s1,inv⟩ ht;obtain⟨c,hc,rfl⟩:=Aac hi;obtain⟨p0,hp0,pc⟩:=D.mksA.at_ i c hc;rw[aaH]at hp0;obtain⟨mk,hp,e0⟩ : ∃mk,S.marks[i]?=some mk/\mk.at_=p0:=by
   cases q:S.marks[i]? with
   | none=>rw[q]at hp0;cases hp0
   | some mk=>rw[q]at hp0;exact⟨mk,rfl,abD hp0⟩
  subst e0;have s2:=s1.trans (Same.new (o:=.tup [.int (i:Nat),.ref c]) ht);have D2:=D.same s2;obtain⟨_,g⟩:=(pc.same s2).sq (K:=K);obtain⟨dx2,hd2⟩:=D2.ins;have noM:(dfs S.w S.h pa la ma).lookup ("mark_place" : Str)=none:=Ac5 _ _ _ _ _;have ret:Aco S i mk=true->∀H'',Same H H''->Q (.int (afN S i:Nat)) H'':=fun e H'' s''=>by
   have:=k H'' s'';rw[Acd hp e inv]at this;exact this
  have outB:¬(0<mk.at_.x/\mk.at_.x<S.w/\0<mk.at_.y/\mk.at_.y<S.h)->Aco S i mk=true:=fun q=>by
   have:akK S mk.at_=false:=by
    cases z:akK S mk.at_ with
    | false=>rfl
    | true=>have:=(Pg.clear_iff S mk.at_).1 z;exact absurd ⟨this.1,this.2.1,this.2.2.1,this.2.2.2.1⟩ q
   unfold Aco;rw[this];rfl
  have next:Aco S i mk=false->∀H'',Same H H''->(∃v1 v2:Option V,[some (V.ref d),some (.int (i:Nat)),some (.ref c)]=[some (.ref d),v1,v2])/\Same H H''/\∀j y,j<i+1->S.marks[j]?=some y->Aco S j y=false:=fun e H'' s'' =>
   ⟨⟨_,_,rfl⟩,s'',fun j y hj hy=>by
    by_cases ej:j=i
    ·subst ej;rw[hp]at hy;cases hy;exact e
    ·exact inv j y (by lia) hy⟩
  refine⟨t,_,rfl,SqT.of Aa1,rfl,_,_,rfl,_,_,rfl,rfl,?_⟩;refine⟨_,rfl,c,_,_,_,rfl,rfl,g,atC,_,_,rfl,rfl,_,rfl,?_⟩;refine Abj (fun e1=>?_) (fun e1=>?_)
  rotate_left
  ·simp only[dtt]at e1;exact⟨_,rfl,Ali (Arm ⟨_,rfl,d,dx2,_,rfl,hd2,noM,_,rfl,d,i,S,pa,la,ma,as,ls,ms,rfl,D2,ret (outB (by lia)) _ s2⟩)⟩
  simp only[dtt]at e1;refine⟨_,rfl,d,C,dx2,_,_,rfl,hd2,T.cl,T.nW,Ap4 _ _ _ _ _,_,_,rfl,rfl,_,rfl,?_⟩;refine Abj (fun e2=>?_) (fun e2=>?_)
  rotate_left
  ·simp only[dtt]at e2;exact Arm ⟨_,rfl,d,dx2,_,rfl,hd2,noM,_,rfl,d,i,S,pa,la,ma,as,ls,ms,rfl,D2,ret (outB (by lia)) _ s2⟩
  simp only[dtt]at e2;refine⟨_,rfl,c,_,_,_,rfl,rfl,g,atC,_,_,rfl,rfl,_,rfl,?_⟩;refine Abj (fun e3=>?_) (fun e3=>?_)
  rotate_left
  ·simp only[dtt]at e3;exact⟨_,rfl,Arm ⟨_,rfl,d,dx2,_,rfl,hd2,noM,_,rfl,d,i,S,pa,la,ma,as,ls,ms,rfl,D2,ret (outB (by lia)) _ s2⟩⟩
  simp only[dtt]at e3;refine⟨_,rfl,d,C,dx2,_,_,rfl,hd2,T.cl,T.nH,Ap5 _ _ _ _ _,_,_,rfl,rfl,_,rfl,?_⟩
  by_cases e4:(mk.at_.y:Int)<(S.h:Nat)
  rotate_left
  ·rw[dff e4];exact Arm ⟨_,rfl,d,dx2,_,rfl,hd2,noM,_,rfl,d,i,S,pa,la,ma,as,ls,ms,rfl,D2,ret (outB (by lia)) _ s2⟩
  rw[dft e4];refine Bb6 ?_;have clr:akK S mk.at_ = !Gla.onLines S mk.at_:=by
   unfold akK;rw[dft (show 0<mk.at_.x by lia),dft (show mk.at_.x<S.w by lia),dft (show 0<mk.at_.y by lia),dft (show mk.at_.y<S.h by lia)];rfl
  have last:∀H3,Same H H3->(aiV S mk.at_=false->Aco S i mk=false)->Az9 (tB (Aiq (Aiu C) [] E0 (Ab6 (Abv 0) (Ab6 (Abv 2) Ahb)))) (Aso (Asx C "mark_place" (Amy C) [] E0 (Abv 0) (Ab6 (Abv 1) Ahb))) App
   { nx:=fun σ H'=>(∃v1 v2:Option V,σ=[some (.ref d),v1,v2])/\Same H H'/\∀j y,j<i+1->S.marks[j]?=some y->Aco S j y=false,rt:=Q,bk:=Aso (tC .non) { nx:=fun _ H'=>Q .non H',rt:=Q },ct:=fun σ H'=>(∃v1 v2:Option V,σ=[some (.ref d),v1,v2])/\Same H H'/\∀j y,j<i+1->S.marks[j]?=some y->Aco S j y=false }
   [some (V.ref d),some (.int (i:Nat)),some (.ref c)] H3:=by
   intro H3 s3 hb;have D3:=D.same s3;obtain⟨dx3,hd3⟩:=D3.ins;refine⟨_,rfl,_,rfl,d,c,mk.at_,S,pa,la,ma,as,ls,ms,rfl,D3,pc.same s3,r,_,rfl,?_⟩;refine Abj (fun e5=>?_) (fun e5=>?_)
   ·refine⟨_,rfl,d,dx3,_,rfl,hd3,noM,_,rfl,d,i,S,pa,la,ma,as,ls,ms,rfl,D3,ret ?_ _ s3⟩;unfold Aco;rw[clr,e5];rfl
   ·exact next (hb (abZ.mpr e5)) _ s3
  refine⟨_,rfl,_,_,rfl,rfl,_,rfl,?_⟩;refine Abj (fun e5=>?_) (fun e5=>?_)
  ·simp only[dtt]at e5;have i0:0<i:=by lia
   obtain⟨cp,hcp⟩ : ∃cp,ms[i-1]?=some cp:=⟨_,aaE (by have:=(aaB.mp hc).1;lia)⟩
   obtain⟨q0,hq0,pcp⟩:=D.mksA.at_ (i-1) cp hcp;rw[aaH]at hq0;obtain⟨mp,hmp,e0⟩ : ∃mp,S.marks[i-1]?=some mp/\mp.at_=q0:=by
    cases q:S.marks[i-1]? with
    | none=>rw[q]at hq0;cases hq0
    | some mp=>rw[q]at hq0;exact⟨mp,rfl,abD hq0⟩
   subst e0;refine⟨_,rfl,_,rfl,d,C,dx2,_,_,rfl,hd2,T.cl,T.nM,Amk _ _ _ _ _,_,rfl,_,_,rfl,rfl,ma,_,_,V.ref cp,rfl,rfl,SqL.of D2.mks,Alg (j:=i-1) (by lia) (by rw[aaH,hcp];rfl),?_⟩;refine⟨c,cp,mk.at_,mp.at_,rfl,pc.same s2,pcp.same s2,fun H3 s3=>⟨_,rfl,?_⟩⟩;have s23:=s2.trans s3;have D3:=D.same s23;obtain⟨dx3,hd3⟩:=D3.ins;refine Abj (fun e6=>?_) (fun e6=>?_)
   ·refine⟨_,rfl,d,dx3,_,rfl,hd3,noM,_,rfl,d,i,S,pa,la,ma,as,ls,ms,rfl,D3,ret ?_ _ s23⟩;unfold Aco;rw[hmp];simp only[e6];simp[i0]
   ·refine last H3 s23 fun z=>?_;unfold Aco;rw[clr,z,hmp];simp only[abZ.mpr e6];simp
  ·simp only[dtt]at e5;refine Ali (last _ s2 fun z=>?_);unfold Aco;rw[clr,z,dff (show ¬0<i by lia)];rfl
 ·rintro σ H' ⟨⟨v1,v2,rfl⟩,s1,inv⟩;have:=k H' s1;have ml:ms.length=S.marks.length:=by have:=D.mksA.len;simpa using this
  rw[Adt (fun j y hy=>inv j y (by rw[aaA,ml];exact(aaB.mp hy).1) hy)]at this;exact this
end Gc
end
section
namespace L2
open PySem PySem.Spec PyProof.Rows
def Aqg:V->List V->Hp->VK->Prop:=fun x vs H Q=>∃l xs y,∃(k:Nat) (i:Int),x=.ref l/\vs=[.int i,y]/\i=(k:Nat)/\H l=some (.lst xs)/\k<=xs.length/\xs.length<abB/\Q .non (upd H l (.lst (xs.take k++y::xs.drop k)))
theorem Ar8 {X:Cx}:MtM X "list.insert" Aqg:=by
 intro p_ s σ H x vs v us Q I rx rv h;obtain⟨l,xs,y,k,i,rfl,rfl,hi,hH,hk,hz,q⟩:=h;cases rx;obtain⟨u1,u2,rfl,ru1,ru⟩:=rv.two;obtain⟨t,rfl⟩:=ru1;obtain⟨z,its,n,r,hl,e⟩:=I.lstM hH;have hs:abB=16777216:=sizeLine_eq;have hf:Builtin.List.listFitsIndex i=true:=fitsIndex_both (by lia) (by lia);have hzs:its.toArray.size<=abB:=by rw[aaP];lia
 refine call_meets alH ⟨_,e,rfl⟩ PySem.F.entry_list_insert (PySem.F.args_list_insert_3 _ _ _) (PySem.AutoSeq1.list_insert_list_int_val_1 l _ n i t u2 (by simp[hf]) hzs) ⟨e,?_⟩;refine⟨.non,_,I.lset (its':=its.take k++u2::its.drop k) hH e ?_ ((r.take k).append (.cons ru (r.drop k))) ?_,rfl,q⟩
 ·show(its.toArray.extract 0 (if i<0 then(i+(its.toArray.size:Int)).toNat else min i.toNat its.toArray.size)).push u2++its.toArray.extract (if i<0 then(i+(its.toArray.size:Int)).toNat else min i.toNat its.toArray.size)=_;rw[ifn (by lia)];have:min i.toNat its.toArray.size=k:=by rw[aaP];lia
  rw[this];apply Array.toList_inj.1;simp;rw[aeP (by simp)]
 ·rw[aaM,aaZ,abJ,afO];lia
end L2
namespace Gc
open PySem PySem.Spec PyProof.Rows L2
open Gla (Pt Plan Mark)
abbrev Aoe:afD:=top Amb
theorem Akj (S:Plan)(m x:Nat):∀(B C:List Nat),(∀y,y∈B->0<afT (S.pt m) (S.pt x) (S.pt y))->Pg.putL S m x (B++C)=B++Pg.putL S m x C
 | [],_,_=>rfl
 | y::B,C,h=>by
  show(if 0<afT (S.pt m) (S.pt x) (S.pt y)then y::Pg.putL S m x (B++C)else _)=_;rw[ifp (h y (by simp)),Akj S m x B C (fun z hz=>h z (by simp[hz]))];rfl
theorem Awz (S:Plan){m x k:Nat}{row:List Nat}(h1:∀i y,k<=i->row[i]?=some y->0<afT (S.pt m) (S.pt x) (S.pt y))(h2:k=0\/∃y,row[k-1]?=some y/\¬0<afT (S.pt m) (S.pt x) (S.pt y))(hk:k<=row.length) :
 Pg.putL S m x row.reverse=(row.take k++x::row.drop k).reverse:=by
 have e:row.reverse=(row.drop k).reverse++(row.take k).reverse:=by rw[<-ahQ,afW]
 rw[e,Akj S m x _ _ (by
  intro y hy;rw[aiR]at hy;obtain⟨j,hj,ej⟩:=abX.1 hy;rw[akN]at ej
  exact h1 (k+j) y (by lia) (by rw[<-ej];exact aaE _))]
 rw[ahQ,aiI,aeN]
 congr 1
 rcases h2 with h2 | ⟨y,hy,nt⟩
 ·subst h2;simp[Pg.putL]
 ·rcases Nat.eq_zero_or_pos k with k0 | k0
  ·subst k0;simp[Pg.putL]
  ·obtain⟨j,rfl⟩ : ∃j,k=j+1:=⟨k-1,by lia⟩
   rw[Nat.add_sub_cancel]at hy;rw[Aai hy,ahQ];show Pg.putL S m x (y::(row.take j).reverse)=_;unfold Pg.putL;rw[ifn nt];rfl
def Av8 (K:abA):Sp:=fun vs H Q _=>∃(pa nb:Addr) (m:Nat) (ns:List Nat) (S:Plan) (as:List Addr),vs=[.ref pa,.int m,.ref nb]/\H pa=some (.lst (as.map V.ref))/\PtsAt H as S.pts/\(∀p,p∈S.pts->Abk p)/\m<S.pts.length/\H nb=some (.lst (vN ns))/\(∀x,x∈ns->x<S.pts.length)/\ns.length<=8192/\
 ∀(H':Hp) (p:Addr),Same H H'->H p=none->H' p=some (.lst (vN (Pg.leftward S m ns)))->Q (.ref p) H'
theorem Ak4 {l:List Nat}{i:Nat}{y:V}(h:(vN l)[i]?=some y):∃j,l[i]?=some j/\y=V.int (j:Nat):=by
 unfold vN at h;rw[aaH]at h;cases q:l[i]? with
 | none=>rw[q]at h;cases h
 | some j=>rw[q]at h;exact⟨j,rfl,(abD h).symm⟩
theorem Az1 {l:List Nat}{i j:Nat}(h:l[i]?=some j):(vN l)[i]?=some (V.int (j:Nat)):=by unfold vN;rw[aaH,h];rfl
theorem Aqh {H:Hp}{as:List Addr}{S:Plan}(hp:PtsAt H as S.pts)(sm:∀p,p∈S.pts->Abk p){i:Nat}(h:i<S.pts.length):∃c,as[i]?=some c/\PtAt H c (S.pt i)/\Abk (S.pt i):=by
 obtain⟨c,hc⟩ : ∃c,as[i]?=some c:=⟨_,aaE (by rw[hp.len];exact h)⟩
 obtain⟨p,hp',pc⟩:=hp.at_ i c hc;have e:S.pt i=p:=by unfold Plan.pt;rw[abN,hp'];rfl
 rw[e];exact⟨c,hc,pc,sm p (aaJ hp')⟩
variable {P:abS}{w:adI}{K:abA}{mg:Str->Option aaF}{base:Heap}
theorem scLeft:Aaa ["points","middle","numbers","row","number","k"] ["points","middle","numbers"] (Aa6 Aoe):=fsc
theorem Axe {f fT:Addr}{fd fdT:aaX}(F:Def K mg "leftward" Aoe ["points","middle","numbers"] f fd)(FT:Def K mg "turn_of" Acz ["p","q","r"] fT fdT)(nl:mg "len" = none):FnOk P w K mg base CX0 2 f fd ["points","middle","numbers"] (Av8 K):=by
 have GT:FnOk P w K mg base CX0 1 fT fdT ["p","q","r"] Ahw:=Aj6 FT;refine F.go scLeft fun cdv A o s H vs Q E hr h=>?_;obtain⟨pa,nb,m,ns,S,as,rfl,hpa,hp,sm,mn,hnb,nlt,n8,k⟩:=h
 refine⟨_,Aa2 (pS 3 scLeft.nd (Abb Aa3))
  (Aa2 (Aao aaQ rfl (Aaw (pv 2)) (pG 4 scLeft.nd)
   (Aa2 (pS 5 scLeft.nd (Aae Aad (by rfl) nl acB (Aa0 (pv 3) Aa3)))
   (Aa2 (Aj4 aaQ (PW.pt (Agb (Aak Adb (pv 5) Aa7 (Aan _)) (Adz (Aak Adb (pCD FT GT hr (Aa0 (pIL (pv 0) (pv 1)) (Aa0 (pIL (pv 0) (pv 4)) (Aa0 (pIL (pv 0) (pIL (pv 3) (Aay Ac9 (pv 5) Aa7))) Aa3)))) Aa7 (Aan _)))))
    (Aa4 (An8 (i:=5) scLeft.nd rfl (akZ rfl) Aa7 Bb9)))
   (Aa4 (Abc (Ad9 abK alH PySem.F.type_list_insert Ar8 (pv 3) (Aa0 (pv 5) (Aa0 (pv 4) Aa3))))))))
  (Aa4 (Aa9 (pv 3)))),?_⟩
 refine⟨abO _,fun ro hro=>?_⟩
 refine⟨_,rfl,nb,rfl,⟨_,SqL.of (Same.new hro _ _ hnb)⟩,Abn (K:=K) (a:=nb) (xs:=vN ns) (fun i σ H'=>(∃v4 v5:Option V,σ=[some (.ref pa),some (.int m),some (.ref nb),some (.ref ro),v4,v5])/\Same H H'/\H' ro=some (.lst (vN ((ns.take i).foldl (fun row x=>Pg.putL S m x row) []).reverse))/\((ns.take i).foldl (fun row x=>Pg.putL S m x row) []).length=i)
  ⟨⟨_,_,rfl⟩,Same.new hro,Aa1,rfl⟩ (fun i σ H' _ ⟨_,s1,_⟩=>SqL.of (s1 _ _ hnb)) ?_ ?_⟩
 ·rintro i y σ H' hi ⟨⟨v4,v5,rfl⟩,s1,hr',hlen⟩;obtain⟨x,hx,rfl⟩:=Ak4 hi;have xn:=nlt x (aaJ hx);have il:=(aaB.mp hx).1;obtain⟨cm,hcm,pm,qm⟩:=Aqh hp sm mn;obtain⟨cx,hcx,px,qx⟩:=Aqh hp sm xn;have mem:∀z,z∈(ns.take i).foldl (fun row x=>Pg.putL S m x row) []->z<S.pts.length:=fun z hz=>by
   rcases (Pg.mem_left' S m z (ns.take i) []).1 hz with q | q
   ·exact nlt z (afF q)
   ·simp at q
  have ef:(ns.take (i+1)).foldl (fun row x=>Pg.putL S m x row) []=Pg.putL S m x ((ns.take i).foldl (fun row x=>Pg.putL S m x row) []):=by
   rw[Aai hx,List.foldl_append];rfl
  rw[ef];generalize hR:(ns.take i).foldl (fun row x=>Pg.putL S m x row) []=R at *;obtain⟨row,rfl⟩ : ∃row:List Nat,R=row.reverse:=⟨R.reverse,by simp⟩
  rw[anV]at hr';rw[ahR]at hlen;have memr:∀z,z∈row->z<S.pts.length:=fun z hz=>mem z (by rw[aiR];exact hz);have vl:(vN row).length=row.length:=by unfold vN;rw[aaA]
  refine⟨_,rfl,ro,_,rfl,.inl (SqL.of hr'),?_⟩;rw[vl]
  refine⟨fun mm σ H''=>H''=H'/\∃kk:Nat,mm=kk/\kk<=row.length/\σ=[some (.ref pa),some (.int m),some (.ref nb),some (.ref ro),some (.int (x:Nat)),some (.int (kk:Nat))]/\∀j z,kk<=j->row[j]?=some z->0<afT (S.pt m) (S.pt x) (S.pt z),
   ⟨row.length,rfl,row.length,rfl,aaK _,rfl,fun j z hj hz=>by have:=(aaB.mp hz).1;lia⟩,?_⟩
  rintro mm σ H'' ⟨rfl,kk,ek,kl,rfl,inv⟩;have fin:(kk=0\/∃z,row[kk-1]?=some z/\¬0<afT (S.pt m) (S.pt x) (S.pt z))->Aza (tBM K "list" Aqg (Abv 3) (Ab6 (Abv 5) (Ab6 (Abv 4) Ahb))) { nx:=fun σ H'=>(∃v4 v5:Option V,σ=[some (.ref pa),some (.int m),some (.ref nb),some (.ref ro),v4,v5])/\Same H H'/\H' ro=some (.lst (vN (Pg.putL S m x row.reverse).reverse))/\(Pg.putL S m x row.reverse).length=i+1,rt:=Q,bk:=Aso (Abv 3) { nx:=fun _ H'=>Q .non H',rt:=Q },ct:=fun σ H'=>(∃v4 v5:Option V,σ=[some (.ref pa),some (.int m),some (.ref nb),some (.ref ro),v4,v5])/\Same H H'/\H' ro=some (.lst (vN (Pg.putL S m x row.reverse).reverse))/\(Pg.putL S m x row.reverse).length=i+1 }
   [some (.ref pa),some (.int m),some (.ref nb),some (.ref ro),some (.int (x:Nat)),some (.int (kk:Nat))] H'':=by
   intro st;have pe:=Awz S inv st kl;refine⟨_,rfl,.inl ⟨rfl,_,SqL.of hr'⟩,_,rfl,_,rfl,ro,_,V.int (x:Nat),kk,_,rfl,rfl,rfl,hr',by rw[vl];exact kl,by rw[vl];exact szN (by lia),?_⟩;refine⟨⟨_,_,rfl⟩,?_,?_,?_⟩
   ·intro b o e;rw[Aa5 (Aa8 e hro)];exact s1 b o e
   ·rw[Aa1,pe,anV];unfold vN;rw[aaU,abE,List.map_take,List.map_drop]
   ·rw[pe,ahR,aaM,aaZ,abJ,afO];lia
  refine⟨_,rfl,_,_,rfl,rfl,_,rfl,?_⟩
  by_cases k0:kk=0
  ·subst k0;rw[dff (by lia)];exact Ali (Ali (fin (.inl rfl)))
  ·rw[dft (by lia)];refine Arl ?_;obtain⟨z,hz⟩ : ∃z,row[kk-1]?=some z:=⟨_,aaE (by lia)⟩
   obtain⟨cz,hcz,pz,qz⟩:=Aqh hp sm (memr z (aaJ hz));refine⟨_,rfl,_,rfl,pa,_,_,V.ref cm,rfl,rfl,SqL.of (s1 _ _ hpa),atr hcm,_,rfl,_,rfl,pa,_,_,V.ref cx,rfl,rfl,SqL.of (s1 _ _ hpa),atr hcx,_,rfl,_,rfl,_,rfl,_,_,rfl,rfl,ro,_,_,V.int (z:Nat),rfl,rfl,SqL.of hr',Alg (j:=kk-1) (by lia) (Az1 hz),pa,_,_,V.ref cz,rfl,rfl,SqL.of (s1 _ _ hpa),atr hcz,?_⟩;refine⟨cm,cx,cz,_,_,_,rfl,pm.same s1,px.same s1,pz.same s1,qm,qx,_,_,rfl,rfl,_,rfl,?_⟩
   refine Abj (fun e1=>?_) (fun e1=>?_)
   ·simp only[dtt]at e1;refine⟨fun σ' H3=>H3=H''/\σ'=[some (.ref pa),some (.int m),some (.ref nb),some (.ref ro),some (.int (x:Nat)),some (.int ((kk-1:Nat):Nat))],?_,?_⟩
    ·rintro σ' H3 ⟨rfl,rfl⟩;refine⟨kk-1,by lia,rfl,kk-1,rfl,by lia,rfl,fun j z' hj hz'=>?_⟩
     by_cases ej:j=kk-1
     ·subst ej;rw[hz]at hz';cases hz';exact e1
     ·exact inv j z' (by lia) hz'
    ·refine⟨_,rfl,_,_,rfl,rfl,rfl,?_⟩;have:((kk:Nat):Int)-1=((kk-1:Nat):Int):=by lia
     exact congrArg (fun q=>[some (V.ref pa),some (.int m),some (.ref nb),some (.ref ro),some (.int (x:Nat)),some (.int q)]) this
   ·simp only[dtt]at e1;exact fin (.inr ⟨z,hz,e1⟩)
 ·rintro σ H' ⟨⟨v4,v5,rfl⟩,s1,hr',hlen⟩;have vl:(vN ns).length=ns.length:=by unfold vN;rw[aaA]
  rw[vl,acA]at hr';exact⟨_,rfl,k H' ro s1 hro hr'⟩
end Gc
end
section
namespace Gc
open PySem PySem.Spec PyProof.Rows L2
open Gla (Pt Plan Mark)
abbrev Aoc:afD:=top Aor
abbrev Aqc:afD:=top Ajk
abbrev Awr:afD:=top Akw
def Bbs (x y:Str):Scope:={ kind:=.function,names:=[(aaY ".0",.local),(x,.local),(y,.free)],isGenerator:=false,isCoroutine:=false }
theorem Ank (S:Plan)(m x:Nat):∀l,(Pg.putL S m x l).length=l.length+1
 | []=>rfl
 | y::r=>by
  unfold Pg.putL
  split
  ·rw[aaZ,Ank S m x r,aaZ]
  ·rfl
theorem Afg (S:Plan)(m:Nat)(ns:List Nat):(Pg.leftward S m ns).length=ns.length:=by
 have key:∀(ns acc:List Nat),(ns.foldl (fun row x=>Pg.putL S m x row) acc).length=ns.length+acc.length:=by
  intro ns
  induction ns with
  | nil=>intro acc;simp
  | cons x r ih=>intro acc;rw[aeC,ih,Ank,aaZ];lia
 unfold Pg.leftward;rw[ahR,key];rfl
def Awv (S:Plan)(m:Nat)(ns:List Nat):List Nat:=Pg.leftward S m (ns.filter fun x=>decide (m<x))++Pg.leftward S m (ns.filter fun x=>decide (x<m))
def Av6 (K:abA):Sp:=fun vs H Q _=>∃(pa nb:Addr) (m:Nat) (ns:List Nat) (S:Plan) (as:List Addr),vs=[.ref pa,.int m,.ref nb]/\H pa=some (.lst (as.map V.ref))/\PtsAt H as S.pts/\(∀p,p∈S.pts->Abk p)/\m<S.pts.length/\H nb=some (.lst (vN ns))/\(∀x,x∈ns->x<S.pts.length)/\ns.length<=8192/\
 ∀(H':Hp) (p:Addr),Same H H'->H p=none->H' p=some (.lst (vN (Awv S m ns)))->Q (.ref p) H'
variable {P:abS}{w:adI}{K:abA}{mg:Str->Option aaF}{base:Heap}
theorem scRing:Aaa ["points","middle","numbers","behind","ahead","number"] ["points","middle","numbers"] (Aa6 Aoc):=fsc
theorem Avz:Ase ["points","middle","numbers","behind","ahead","number"] (Aa6 Aoc) (Bbs "number" "middle") [("number",5)]=true:=by decide +kernel
theorem Ax8 {f fF fT:Addr}{fd fdF fdT:aaX}(F:Def K mg "ring_of" Aoc ["points","middle","numbers"] f fd)(FF:Def K mg "leftward" Aoe ["points","middle","numbers"] fF fdF)(FT:Def K mg "turn_of" Acz ["p","q","r"] fT fdT)(nl:mg "len" = none) :
 FnOk P w K mg base CX0 3 f fd ["points","middle","numbers"] (Av6 K):=by
 have GF:FnOk P w K mg base CX0 2 fF fdF ["points","middle","numbers"] (Av8 K):=Axe FF FT nl;refine F.go scRing fun cdv A o s H vs Q E hr h=>?_;obtain⟨pa,nb,m,ns,S,as,rfl,hpa,hp,sm,mn,hnb,nlt,n8,k⟩:=h
 refine⟨_,Aa2 (Adm (i:=3) (own:=[("number",5)]) rfl scRing.nd rfl rfl (Aes rfl rfl rfl rfl) (Aaw (pv 2)) (Abu Avz) (fun _ _ _ _ _=>pG 5 scRing.nd) (fun _ _ _ _ _=>Aqi (Aak Adb (pv 5) (pv 1) (Aan _))) (fun _ _ _ _ _=>pv 5))
  (Aa2 (Adm (i:=4) (own:=[("number",5)]) rfl scRing.nd rfl rfl (Aes rfl rfl rfl rfl) (Aaw (pv 2)) (Abu Avz) (fun _ _ _ _ _=>pG 5 scRing.nd) (fun _ _ _ _ _=>Aqi (Aak Acl (pv 5) (pv 1) (Aan _))) (fun _ _ _ _ _=>pv 5))
  (Aa4 (Aa9 (Aay Aqs (pCD FF GF hr (Aa0 (pv 0) (Aa0 (pv 1) (Aa0 (pv 3) Aa3)))) (pCD FF GF hr (Aa0 (pv 0) (Aa0 (pv 1) (Aa0 (pv 4) Aa3)))))))),?_⟩
 have vl:(vN ns).length=ns.length:=by unfold vN;rw[aaA]
 refine⟨_,rfl,nb,rfl,⟨_,SqL.of hnb⟩,fun D1 hD1=>?_⟩;refine Adf (K:=K) (a:=nb) (xs:=vN ns) (fun i H'=>Same H H'/\H' D1=some (.lst (vN ((ns.take i).filter fun x=>decide (m<x))))) ⟨Same.new hD1,Aa1⟩ (fun i H' _ ⟨s1,_⟩=>SqL.of (s1 _ _ hnb)) ?_ ?_
 ·rintro i y H' hi ⟨s1,hd⟩;obtain⟨x,hx,rfl⟩:=Ak4 hi;have il:=(aaB.mp hx).1;refine⟨rfl,_,rfl,_,rfl,_,_,rfl,rfl,_,rfl,?_⟩;have fe:(ns.take (i+1)).filter (fun x=>decide (m<x))=(ns.take i).filter (fun x=>decide (m<x))++(if m<x then [x] else []):=by
   rw[Aai hx,akH];congr 1
   by_cases q:m<x<;>simp[q]
  refine Abj (fun e=>?_) (fun e=>?_)
  ·simp only[dtt]at e;rw[ifp (by lia)]at fe;refine⟨_,rfl,_,hd,?_,?_,?_⟩
   ·unfold vN;rw[aaA];exact abY (abI (aeT _ _) (by rw[abJ];lia:_<=8192)) (by decide)
   ·intro b o q;rw[Aa5 (Aa8 q hD1)];exact s1 b o q
   ·rw[Aa1,fe,Acf]
  ·simp only[dtt]at e;rw[ifn (by lia),aeD]at fe;exact⟨s1,by rw[fe];exact hd⟩
 rintro H1 ⟨s1,hd1⟩;rw[vl,acA]at hd1;refine⟨_,rfl,nb,rfl,⟨_,SqL.of (s1 _ _ hnb)⟩,fun D2 hD2=>?_⟩;refine Adf (K:=K) (a:=nb) (xs:=vN ns) (fun i H'=>Same H1 H'/\H' D2=some (.lst (vN ((ns.take i).filter fun x=>decide (x<m))))) ⟨Same.new hD2,Aa1⟩ (fun i H' _ ⟨s2,_⟩=>SqL.of (s2 _ _ (s1 _ _ hnb))) ?_ ?_
 ·rintro i y H' hi ⟨s2,hd⟩;obtain⟨x,hx,rfl⟩:=Ak4 hi;have il:=(aaB.mp hx).1;refine⟨rfl,_,rfl,_,rfl,_,_,rfl,rfl,_,rfl,?_⟩;have fe:(ns.take (i+1)).filter (fun x=>decide (x<m))=(ns.take i).filter (fun x=>decide (x<m))++(if x<m then [x] else []):=by
   rw[Aai hx,akH];congr 1
   by_cases q:x<m<;>simp[q]
  refine Abj (fun e=>?_) (fun e=>?_)
  ·simp only[dtt]at e;rw[ifp (by lia)]at fe;refine⟨_,rfl,_,hd,?_,?_,?_⟩
   ·unfold vN;rw[aaA];exact abY (abI (aeT _ _) (by rw[abJ];lia:_<=8192)) (by decide)
   ·intro b o q;rw[Aa5 (Aa8 q hD2)];exact s2 b o q
   ·rw[Aa1,fe,Acf]
  ·simp only[dtt]at e;rw[ifn (by lia),aeD]at fe;exact⟨s2,by rw[fe];exact hd⟩
 rintro H2 ⟨s2,hd2⟩;rw[vl,acA]at hd2;have s12:=s1.trans s2;have sub1:∀x,x∈ns.filter (fun x=>decide (m<x))->x<S.pts.length:=fun x hx=>nlt x (adJ.1 hx).1;have sub2:∀x,x∈ns.filter (fun x=>decide (x<m))->x<S.pts.length:=fun x hx=>nlt x (adJ.1 hx).1;have l1:=aeT (fun x=>decide (m<x)) ns;have l2:=aeT (fun x=>decide (x<m)) ns;refine⟨_,rfl,_,rfl,_,rfl,pa,D1,m,_,S,as,rfl,s12 _ _ hpa,hp.same s12,sm,mn,s2 _ _ hd1,sub1,by lia,fun H3 p1 s3 f1 hp1=>?_⟩
 have s13:=s12.trans s3;refine⟨_,rfl,_,rfl,_,rfl,pa,D2,m,_,S,as,rfl,s13 _ _ hpa,hp.same s13,sm,mn,s3 _ _ hd2,sub2,by lia,fun H4 p2 s4 f2 hp2=>?_⟩;have s14:=s13.trans s4;refine⟨p1,p2,_,_,rfl,rfl,s4 _ _ hp1,hp2,?_,fun p hpn=>?_⟩
 ·unfold vN;rw[aaA,aaA,Afg,Afg];exact abI (show _<=16384 by lia) (by decide)
 ·refine k _ p (s14.trans (Same.new hpn)) (s14.free hpn) ?_;rw[Aa1];unfold Awv vN;rw[aaU]
def Ak7 (C:Addr):Sp:=fun vs H Q _=>∃(d o:Addr) (l:List Nat) (S:Plan) (pa la ma:Addr) (as ls ms:List Addr),vs=[.ref d,.ref o]/\DrawAt C H d S pa la ma as ls ms/\H o=some (.lst (vN l))/\(∀x,x∈l->x<S.pts.length)/\l.length<=20000/\
 ∀(H':Hp) (p:Addr) (cs:List Addr),Same H H'->H p=none->H' p=some (.lst (cs.map V.ref))->PtsAt H' cs (l.map S.pt)->Q (.ref p) H'
theorem Afy {as:List Addr}{x:Nat}{c:Addr}(h:as[x]?=some c):as.getD x 0=c:=by rw[abN,h];rfl
theorem scCorn:Aaa ["drawing","outline","number"] ["drawing","outline"] (Aa6 Aqc):=fsc
theorem Bbg:Ase ["drawing","outline","number"] (Aa6 Aqc) (Bbs "number" "drawing") [("number",2)]=true:=by decide +kernel
theorem Aqz {f C:Addr}{fd:aaX}(F:Def K mg "corners_of" Aqc ["drawing","outline"] f fd)(T:Ac7 K C):FnOk P w K mg base CX0 1 f fd ["drawing","outline"] (Ak7 C):=by
 refine F.go scCorn fun cdv A o s H vs Q E hr h=>?_;obtain⟨d,o,l,S,pa,la,ma,as,ls,ms,rfl,D,ho,lt,l2,k⟩:=h;refine⟨_,Aa4 (Aa9 (Atg (te:=tOp (Ayo K) (Bbq K (Abv 0) "points") (Abv 2)) (own:=[("number",2)]) rfl scCorn.nd (Aaw (pv 1)) (Abu Bbg) (fun _ _ _ _ _=>pG 2 scCorn.nd) (fun _ _ _ _ _=>Ad5) (fun _ _ _ _ _=>pIL (Aaj (pv 0) rfl) (pv 2)))),?_⟩;have vl:(vN l).length=l.length:=by unfold vN;rw[aaA]
 refine⟨_,rfl,o,rfl,⟨_,SqL.of ho⟩,fun D1 hD1=>?_⟩;refine Adf (K:=K) (a:=o) (xs:=vN l) (fun i H'=>Same H H'/\H' D1=some (.lst (((l.take i).map fun x=>as.getD x 0).map V.ref))) ⟨Same.new hD1,Aa1⟩ (fun i H' _ ⟨s1,_⟩=>SqL.of (s1 _ _ ho)) ?_ ?_
 ·rintro i y H' hi ⟨s1,hd1⟩;obtain⟨x,hx,rfl⟩:=Ak4 hi;have il:=(aaB.mp hx).1;obtain⟨c,hc,pc,sc⟩:=D.pt (lt x (aaJ hx));have D2:=D.same s1;obtain⟨dx,hd⟩:=D2.ins;refine⟨rfl,?_⟩;unfold Asw;dsimp only
  first | rw[ifp rfl] | rw[ifp trivial]
  refine⟨_,rfl,d,C,dx,_,_,rfl,hd,T.cl,T.nP,Ad0 _ _ _ _ _,_,rfl,pa,_,_,V.ref c,rfl,rfl,SqL.of D2.pts,atr hc,_,hd1,?_,?_,?_⟩
  ·rw[aaA,aaA,abJ];exact szN (by lia)
  ·intro b q e;rw[Aa5 (Aa8 e hD1)];exact s1 b q e
  ·rw[Aa1,Aai hx,aaU,aaU];show _=some (HO.lst (_++[V.ref (as.getD x 0)]));rw[Afy hc]
 ·rintro H' ⟨s1,hd1⟩;rw[vl,acA]at hd1;refine k H' D1 _ s1 hD1 hd1 ⟨by simp,fun i c hc=>?_⟩;rw[aaH]at hc;cases q:l[i]? with
  | none=>rw[q]at hc;cases hc
  | some x =>
   rw[q]at hc;obtain⟨c',hc',pc,_⟩:=D.pt (lt x (aaJ q));have:c=c':=by
    have:=abD hc;rw[<-this];exact Afy hc'
   subst this;exact⟨S.pt x,by rw[aaH,q];rfl,pc.same s1⟩
structure ShAt (H:Hp)(rs:List Addr)(qs:List (List Pt)):Prop where
 len:rs.length=qs.length
 at_:∀(i:Nat) (c:Addr),rs[i]?=some c->∃(q:List Pt) (cs:List Addr) (l:Pt),qs[i]?=some q/\H c=some (.lst (cs.map V.ref))/\PtsAt H cs q/\q[q.length-1]?=some l/\∀p,p∈q->Abk p
theorem ShAt.same {H H':Hp}{rs:List Addr}{qs:List (List Pt)}(e:Same H H')(h:ShAt H rs qs):ShAt H' rs qs :=
 ⟨h.len,fun i c hc=>let ⟨q,cs,l,a,b,d,f,g⟩:=h.at_ i c hc;⟨q,cs,l,a,e _ _ b,d.same e,f,g⟩⟩
def hoB (z:Pt)(q:List Pt):Bool:=hoS z false (q.getD (q.length-1) ⟨0,0⟩) q
theorem Arr {z l:Pt}{q:List Pt}(h:q[q.length-1]?=some l):hoB z q=hoS z false l q:=by unfold hoB;rw[abN,h];rfl
def Arq (z:Pt)(qs:List (List Pt)):Int:=match qs.findIdx? (hoB z) with
 | some i=>(i:Nat)
 | none=>-1
def Aq2:Sp:=fun vs H Q _=>∃(a c:Addr) (rs:List Addr) (qs:List (List Pt)) (z:Pt),vs=[.ref a,.ref c]/\H a=some (.lst (rs.map V.ref))/\ShAt H rs qs/\PtAt H c z/\∀H',Same H H'->Q (.int (Arq z qs)) H'
theorem Afl {α:Type}{p:α->Bool}{l:List α}{i:Nat}{x:α}(h:l[i]?=some x)(hp:p x=true)(hb:∀j y,j<i->l[j]?=some y->p y=false):l.findIdx? p=some i:=by
 rw[List.findIdx?_eq_some_iff_getElem];obtain⟨hi,e⟩:=aaB.mp h;refine⟨hi,by rw[e];exact hp,fun j hj=>?_⟩;rw[hb j _ hj (aaE (by lia))];simp
theorem scHold:Aaa ["shapes","spot","number","corners"] ["shapes","spot"] (Aa6 Awr):=fsc
theorem Axf {f fH fR fT:Addr}{fd fdH fdR fdT:aaX}(F:Def K mg "holder_of" Awr ["shapes","spot"] f fd)(FH:Def K mg "holds" An2 ["corners","spot"] fH fdH)(FR:Def K mg "is_right_of" Akc ["p","q","spot"] fR fdR)(FT:Def K mg "turn_of" Acz ["p","q","r"] fT fdT)(ne:mg "enumerate" = none) :
 FnOk P w K mg base CX0 4 f fd ["shapes","spot"] Aq2:=by
 have GH:FnOk P w K mg base CX0 3 fH fdH ["corners","spot"] Aq1:=Atv FH FR FT;refine F.go scHold fun cdv A o s H vs Q E hr h=>?_;obtain⟨a,cz,rs,qs,z,rfl,ha,sh,hz,k⟩:=h
 refine⟨_,Aa2 (Aao aaQ rfl (Ac0 rfl ne (Aa0 (pv 0) Aa3)) (Abi rfl (Aab (pG 2 scHold.nd) (Aab (pG 3 scHold.nd) Aax)))
  (Aa4 (Aav (Ad6 (pCD FH GH hr (Aa0 (pv 3) (Aa0 (pv 1) Aa3)))) (Aa4 (Aa9 (pv 2))) Aag)))
  (Aa4 (Aa9 (Alw Ag5 Aa7))),?_⟩
 refine⟨_,rfl,a,_,rfl,SqL.of ha,Abo (K:=K) (a:=a) (xs:=rs.map V.ref) (fun i σ H'=>(∃v2 v3:Option V,σ=[some (.ref a),some (.ref cz),v2,v3])/\Same H H'/\∀j q,j<i->qs[j]?=some q->hoB z q=false)
  ⟨⟨_,_,rfl⟩,Same.refl H,by intro j q hj;lia⟩ (fun i σ H' _ ⟨_,s1,_⟩=>SqL.of (s1 _ _ ha)) ?_ ?_⟩
 ·rintro i x σ H' t hi ⟨⟨v2,v3,rfl⟩,s1,inv⟩ ht;obtain⟨c,hc,rfl⟩:=Aac hi;have s2:=s1.trans (Same.new (o:=.tup [.int (i:Nat),.ref c]) ht);obtain⟨q,cs,l,hq,hcs,pts,hl,sm⟩:=(sh.same s2).at_ i c hc;refine⟨t,_,rfl,SqT.of Aa1,rfl,_,_,rfl,_,_,rfl,rfl,?_⟩;refine⟨_,rfl,_,rfl,c,cz,cs,q,l,z,rfl,hcs,pts,hl,sm,hz.same s2,_,rfl,?_⟩;refine Abj (fun e=>?_) (fun e=>?_)
  ·have:=k _ s2;unfold Arq at this;rw[Afl hq (by rw[Arr hl];exact e) inv]at this;exact⟨_,rfl,this⟩
  ·refine⟨⟨_,_,rfl⟩,s2,fun j q' hj hq'=>?_⟩
   by_cases ej:j=i
   ·subst ej;rw[hq]at hq';cases hq';rw[Arr hl];exact abZ.mpr e
   ·exact inv j q' (by lia) hq'
 ·rintro σ H' ⟨⟨v2,v3,rfl⟩,s1,inv⟩;have:=k H' s1;unfold Arq at this;have no:qs.findIdx? (hoB z)=none:=by
   rw[List.findIdx?_eq_none_iff];intro q hq;obtain⟨j,hj,ej⟩:=abX.1 hq;exact inv j q (by rw[aaA,sh.len];exact hj) (by rw[<-ej];exact aaE hj)
  rw[no]at this;exact⟨_,rfl,this⟩
abbrev At2:afD:=top Axv
def wK (e:Nat×Nat):List Key:=[adD (e.1:Int),adD (e.2:Int)]
theorem Aht {e f:Nat×Nat}(h:wK e=wK f):e=f:=by
 unfold wK at h;simp only[aeX,and_true]at h;have h1:=akR h.1;have h2:=akR h.2;exact ahX (by lia) (by lia)
def gK (l:List (Nat×Nat)):List (List Key×V):=l.map fun e=>(wK e,V.bl true)
theorem Al1 (e:Nat×Nat):∀l:List (Nat×Nat),(Ac8 (gK l) (wK e)).isSome=decide (e∈l)
 | []=>by simp[gK,Ac8]
 | x::r=>by
  show(Ac8 ((wK x,V.bl true)::gK r) (wK e)).isSome=_
  by_cases q:x=e
  ·subst q;rw[Ab9 rfl];simp
  ·have ne:¬wK x=wK e:=fun z=>q (Aht z);rw[Aba ne,Al1 e r];simp[acU q]
theorem Avo {l:List (Nat×Nat)}{e:Nat×Nat}(h:e∉l):Aeq (gK l) (wK e) (V.bl true)=gK (l++[e]):=by
 have:Ac8 (gK l) (wK e)=none:=by
  have:=Al1 e l;cases q:Ac8 (gK l) (wK e) with
  | none=>rfl
  | some v=>rw[q]at this;simp[h]at this
 rw[Afu _ this];unfold gK;rw[aaU];rfl
structure Bdx (H:Hp)(f:Addr)(S:Plan)(kvs:List (List Key×V)):Prop where
 dic:H f=some (.dT kvs)
 val:∀u v,Pg.adj S u v->∃c,Ac8 kvs (wK (u,v))=some (.ref c)/\LnAt H c (v,S.next u v)
theorem LnAt.key {H:Hp}{c:Addr}{e:Nat×Nat}(h:LnAt H c e):H c=some (.tup ((wK e).map kV)):=h
def Av4:Sp:=fun vs H Q _=>∃(f c g:Addr) (S:Plan) (kvs:List (List Key×V)) (s:Nat×Nat) (G:List (Nat×Nat)),vs=[.ref f,.ref c,.ref g]/\Pg.Rules S/\S.lines.length<=8192/\Bdx H f S kvs/\LnAt H c s/\Pg.adj S s.1 s.2/\H g=some (.dT (gK G))/\f≠g/\
 (∀x,x∈Pg.orb S s->x∉G)/\G.length<=20000/\
 ∀(H':Hp) (p:Addr),(∀b o,H b=some o->b≠g->H' b=some o)->H p=none->H' p=some (.lst (vN (Pg.Vs S s)))->H' g=some (.dT (gK (G++Pg.orb S s)))->Q (.ref p) H'
theorem scWalk:Aaa ["follow","start","gone","outline","step"] ["follow","start","gone"] (Aa6 At2):=fsc
theorem Ax6 {f:Addr}{fd:aaX}(F:Def K mg "walk" At2 ["follow","start","gone"] f fd):FnOk P w K mg base CX0 1 f fd ["follow","start","gone"] Av4:=by
 refine F.go scWalk fun cdv A o s H vs Q E hr h=>?_;obtain⟨fo,c,g,S,kvs,st,G,rfl,r,nL,FO,hc,ast,hg,nfg,dis,nG,k⟩:=h;have hu:=Agv hr
 refine⟨_,Aa2 (pS 3 scWalk.nd (Abb Aa3))
  (Aa2 (pS 4 scWalk.nd (pv 1))
  (Aa2 (Aj4 aaQ (Ai4 (Ada hu (pv 4) (pv 2)))
   (Aa2 (Ad8 hu (pv 2) (pv 4) Acs rfl)
   (Aa2 (Abc (Ad9 abK acG acF Ab7 (pv 3) (Aa0 (pIT (pv 4) Aa7) Aa3)))
   (Aa4 (pS 4 scWalk.nd (Alx hu (pv 0) (pv 4) (fun _ _=>rfl)))))))
  (Aa4 (Aa9 (pv 3))))),?_⟩
 obtain⟨m,per⟩:=r.per ast;have eo:=Pg.orb_per per;have nod:=r.orb_nodup ast;refine⟨abO _,fun ou hou=>?_⟩;refine⟨_,rfl,?_⟩;have ngo:g≠ou:=Aa8 hg hou
 refine⟨fun mm σ H'=>∃kk c',mm=m-kk/\kk<=m/\σ=[some (.ref fo),some (.ref c),some (.ref g),some (.ref ou),some (.ref c')]/\(∀b o,H b=some o->b≠g->H' b=some o)/\LnAt H c' (Pg.itr S kk st)/\
  H' g=some (.dT (gK (G++(aaT kk).map fun j=>Pg.itr S j st)))/\H' ou=some (.lst (vN ((aaT kk).map fun j=>(Pg.itr S j st).1))),
  ⟨m,0,c,by lia,by lia,rfl,fun b o e _=>Same.new hou b o e,hc,by rw[Aa5 ngo];simpa using hg,Aa1⟩,?_⟩
 rintro mm σ H' ⟨kk,c',em,km,rfl,keep,hc',hg',hou'⟩;have ak:=r.itr_adj ast kk;have ncg:c'≠g:=Ac2 hc' hg (by intro z;cases z);have hc2:LnAt H' c' (Pg.itr S kk st):=keep _ _ hc' ncg;refine⟨_,rfl,_,rfl,g,_,rfl,DGet.t hg' hc2.key,_,rfl,?_⟩;rw[Al1];have mp:=per.pos
 by_cases e:kk=m
 ·subst e;have yes:Pg.itr S kk st∈G++(aaT kk).map fun j=>Pg.itr S j st:=by
   rw[per.back];exact abH.2 (.inr (aaN.2 ⟨0,abT.2 (by lia),rfl⟩))
  rw[dft yes];refine Bb6 ⟨_,rfl,k H' ou keep hou ?_ ?_⟩
  ·rw[hou'];unfold Pg.Vs;rw[eo,acC];rfl
  ·rw[hg',eo]
 ·have no:Pg.itr S kk st∉G++(aaT kk).map fun j=>Pg.itr S j st:=by
   intro q;rcases abH.1 q with z | z
   ·exact dis _ ((r.mem_orb ast).2 ⟨kk,rfl⟩) z
   ·obtain⟨j,hj,ej⟩:=aaN.1 z;rw[abT]at hj;have e1:Pg.itr S kk st=Pg.itr S j (Pg.itr S (kk-j) st):=by rw[<-Pg.itr_add];congr 1;lia
    rw[e1]at ej;exact per.first (kk-j) (by lia) (by lia) (r.itr_inj ast (r.itr_adj ast _) j ej).symm
  rw[dff no];refine Arm ?_;have ml:=per.le;have lg:(gK (G++(aaT kk).map fun j=>Pg.itr S j st)).length<abB:=by
   unfold gK;rw[aaA,aaM,aaA,acK];exact szN (by lia)
  obtain⟨cn,vn,ln⟩:=FO.val _ _ ak
  refine⟨fun σ' H3=>∃c'',σ'=[some (.ref fo),some (.ref c),some (.ref g),some (.ref ou),some (.ref c'')]/\(∀b o,H b=some o->b≠g->H3 b=some o)/\LnAt H c'' (Pg.itr S (kk+1) st)/\
   H3 g=some (.dT (gK (G++(aaT (kk+1)).map fun j=>Pg.itr S j st)))/\H3 ou=some (.lst (vN ((aaT (kk+1)).map fun j=>(Pg.itr S j st).1))),
   fun σ' H3 ⟨c'',e1,e2,e3,e4,e5⟩=>⟨m-(kk+1),by lia,kk+1,c'',rfl,by lia,e1,e2,e3,e4,e5⟩,?_⟩
  refine⟨_,rfl,_,rfl,g,_,rfl,DPut.t hg' hc2.key lg,?_⟩;rw[Avo no];have er:(G++(aaT kk).map fun j=>Pg.itr S j st)++[Pg.itr S kk st]=G++(aaT (kk+1)).map fun j=>Pg.itr S j st:=by
   rw[afG,aaU,aeN];rfl
  rw[er];have hou2:(upd H' g (.dT (gK (G++(aaT (kk+1)).map fun j=>Pg.itr S j st)))) ou=some (.lst (vN ((aaT kk).map fun j=>(Pg.itr S j st).1))):=by rw[Aa5 (acU ngo)];exact hou'
  have hc3:LnAt (upd H' g (.dT (gK (G++(aaT (kk+1)).map fun j=>Pg.itr S j st)))) c' (Pg.itr S kk st):=by
   show(upd H' g _) c'=_;rw[Aa5 ncg];exact hc2
  refine⟨_,rfl,.inl ⟨rfl,_,SqL.of hou2⟩,_,rfl,c',_,_,_,rfl,rfl,hc3.sq,rfl,ou,_,_,rfl,rfl,hou2,?_,?_⟩
  ·unfold vN;rw[aaA,aaA,acK];exact szN (by lia)
  have nco:c'≠ou:=Aa8 hc' hou;have nfo:fo≠ou:=Aa8 FO.dic hou;have ffin:∀o2,(upd (upd H' g o2) ou (.lst (vN ((aaT kk).map fun j=>(Pg.itr S j st).1)++[V.int ((Pg.itr S kk st).1:Nat)]))) fo=some (.dT kvs):=fun o2=>by
   rw[Aa5 nfo,Aa5 nfg];exact keep _ _ FO.dic nfg
  refine⟨_,rfl,_,rfl,fo,V.ref cn,rfl,?_,?_⟩
  ·have h2:(upd (upd H' g (.dT (gK (G++(aaT (kk+1)).map fun j=>Pg.itr S j st)))) ou (.lst (vN ((aaT kk).map fun j=>(Pg.itr S j st).1)++[V.int ((Pg.itr S kk st).1:Nat)]))) c'=some (.tup ((wK (Pg.itr S kk st)).map kV)):=by
    rw[Aa5 nco];exact hc3
   have:=DGet.t (ffin _) h2;have e3:wK (Pg.itr S kk st)=wK ((Pg.itr S kk st).1,(Pg.itr S kk st).2):=rfl;rw[e3,vn]at this;exact this
  ·refine⟨cn,rfl,?_,?_,?_,?_⟩
   ·intro b o e' nb;rw[Aa5 (Aa8 e' hou),Aa5 nb];exact keep b o e' nb
   ·rw[Pg.itr_succ];exact ln
   ·rw[Aa5 ngo,Aa1]
   ·rw[Aa1,Acf,afG,aaU];rfl
abbrev An1:afD:=top Agm
def Abh (S:Plan)(m:Nat):List (Nat×Nat):=(Pg.ringOf S m).map fun x=>(x,m)
def Ab1 (S:Plan)(n:Nat):List (Nat×Nat):=(aaT n).flatMap (Abh S)
structure FoI (S:Plan)(H:Hp)(kvs:List (List Key×V))(E:List (Nat×Nat)):Prop where
 keys:kvs.map (·.1)=E.map wK
 val:∀e,e∈E->∃c,Ac8 kvs (wK e)=some (.ref c)/\LnAt H c (e.2,S.next e.1 e.2)
theorem Ag4 {κ:Type}[DecidableEq κ]{kvs:List (κ×V)}{k:κ}(h:k∉kvs.map (·.1)):Ac8 kvs k=none:=by
 cases q:Ac8 kvs k with
 | none=>rfl
 | some v=>exact absurd (Aw6 q) h
theorem Amu {κ:Type}[DecidableEq κ]{kvs:List (κ×V)}{k k':κ}{v:V}(h:k'∉kvs.map (·.1)):Ac8 (kvs++[(k',v)]) k=if k'=k then some v else Ac8 kvs k:=by
 rw[Ag3]
 ·by_cases e:k'=k
  ·subst e;simp
  ·rw[ifn e]
   first | rw[ifn (acU e)] | simp[acU e]
 ·exact Ag4 h
theorem FoI.push {S:Plan}{H H':Hp}{kvs:List (List Key×V)}{E:List (Nat×Nat)}{e:Nat×Nat}{c:Addr}(I:FoI S H kvs E)(s:Same H H')(ne:e∉E)(hc:LnAt H' c (e.2,S.next e.1 e.2)) :
 Aeq kvs (wK e) (.ref c)=kvs++[(wK e,.ref c)]/\FoI S H' (kvs++[(wK e,.ref c)]) (E++[e]):=by
 have nk:wK e∉kvs.map (·.1):=by
  rw[I.keys];intro q;obtain⟨x,hx,ex⟩:=aaN.1 q;exact ne (by rw[<-Aht ex];exact hx)
 refine⟨Afu _ (Ag4 nk),⟨by rw[aaU,aaU,I.keys];rfl,fun x hx=>?_⟩⟩;rcases abH.1 hx with q | q
 ·obtain⟨b,vb,lb⟩:=I.val x q;refine⟨b,?_,s _ _ lb⟩;rw[Amu nk,ifn (fun z=>ne (by rw[Aht z];exact q))];exact vb
 ·rw[abF]at q;subst q;exact⟨c,by rw[Amu nk,ifp rfl],hc⟩
theorem Aqe {S:Plan}(r:Pg.Rules S){m i x:Nat}(hm:m<S.pts.length)(hx:(Pg.ringOf S m)[i]?=some x):atI (vN (Pg.ringOf S m)) ((i:Int)-1)=some (V.int (S.next x m:Nat)):=by
 obtain⟨l,a,e1,e2⟩:=r.rot.rot m hm;have nx:(a::l)[i]?=some (S.next x m):=by rw[<-e2,aaH,hx];rfl
 rw[e1];cases i with
 | zero =>
  have ea:a=S.next x m:=abD nx
  have:vN (l++[a])=vN l++[V.int (a:Nat)]:=(Acf l a).symm;rw[this,<-ea];exact Aut _ _
 | succ j =>
  have nl:l[j]?=some (S.next x m):=nx;have hj:=(aaB.mp nl).1;refine Alg (j:=j) (by lia) (Az1 ?_);rw[acL hj];exact nl
theorem Aex {S:Plan}(r:Pg.Rules S)(n:Nat)(e:Nat×Nat):e∈Ab1 S n↔e.2<n/\Pg.adj S e.2 e.1:=by
 unfold Ab1 Abh;simp only[adG,abT,aaN];constructor
 ·rintro⟨m,hm,x,hx,rfl⟩;exact⟨hm,(Pg.mem_ring r m x).1 hx⟩
 ·intro h;exact⟨e.2,h.1,e.1,(Pg.mem_ring r e.2 e.1).2 h.2,rfl⟩
def Apr (C:Addr):Sp:=fun vs H Q _=>∃(d:Addr) (S:Plan) (pa la ma:Addr) (as ls ms:List Addr),vs=[.ref d]/\DrawAt C H d S pa la ma as ls ms/\Pg.Rules S/\
 ∀(H':Hp) (f:Addr) (kvs:List (List Key×V)) (E:List (Nat×Nat)),Same H H'->H f=none->Bdx H' f S kvs->kvs.map (·.1)=E.map wK->E.Nodup->(∀e,e∈E↔Pg.adj S e.1 e.2)->Q (.ref f) H'
theorem Adn {S:Plan}(r:Pg.Rules S):∀n,n<=S.pts.length->(Ab1 S n).Nodup
 | 0,_=>by simp[Ab1]
 | n+1,h=>by
  have ih:=Adn r n (by lia);have e:Ab1 S (n+1)=Ab1 S n++Abh S n:=by unfold Ab1;rw[afG,aeO];simp
  rw[e,aeM];refine⟨ih,?_,?_⟩
  ·unfold Abh;rw[abQ,adL];apply (abQ.1 (r.rot.nod n (by lia))).imp;intro a b h q;exact h (Prod.mk.inj q).1
  ·intro a ha b hb q;have:=(Aex r n a).1 ha;unfold Abh at hb;obtain⟨x,_,rfl⟩:=aaN.1 hb;rw[q]at this;simp only[]at this;lia
theorem scSteps:Aaa ["drawing","follow","middle","numbers","ring","k","number"] ["drawing"] (Aa6 An1):=fsc
theorem Atq {f fk fG fF fT C:Addr}{fd fdK fdG fdF fdT:aaX}(F:Def K mg "steps_behind" An1 ["drawing"] f fd)(FK:Def K mg "links_of" Aec ["drawing"] fk fdK)(FG:Def K mg "ring_of" Aoc ["points","middle","numbers"] fG fdG)
 (FF:Def K mg "leftward" Aoe ["points","middle","numbers"] fF fdF) (FT:Def K mg "turn_of" Acz ["p","q","r"] fT fdT) (T:Ac7 K C) (nl:mg "len" = none) (ne:mg "enumerate" = none):FnOk P w K mg base CX0 4 f fd ["drawing"] (Apr C):=by
 have GK:FnOk P w K mg base CX0 1 fk fdK ["drawing"] (Ag7 C):=Afv FK T;have GG:FnOk P w K mg base CX0 3 fG fdG ["points","middle","numbers"] (Av6 K):=Ax8 FG FF FT nl;refine F.go scSteps fun cdv A o s H vs Q E hr h=>?_;obtain⟨d,S,pa,la,ma,as,ls,ms,rfl,D,r,k⟩:=h;have hu:=Agv hr;have hr1:Room 1 _:=hr.mono (by decide)
 refine⟨_,Aa2 (pS 1 scSteps.nd Aee)
  (Aa2 (Aao aaQ rfl (Ac0 rfl ne (Aa0 (pCD FK GK hr1 (Aa0 (pv 0) Aa3)) Aa3)) (Abi rfl (Aab (pG 2 scSteps.nd) (Aab (pG 3 scSteps.nd) Aax)))
   (Aa2 (pS 4 scSteps.nd (pCD FG GG hr (Aa0 (Aaj (pv 0) rfl) (Aa0 (pv 2) (Aa0 (pv 3) Aa3)))))
   (Aa4 (Aao aaQ rfl (Ac0 rfl ne (Aa0 (pv 4) Aa3)) (Abi rfl (Aab (pG 5 scSteps.nd) (Aab (pG 6 scSteps.nd) Aax)))
    (Aa4 (Ad8 hu (pv 1) (Abd (Aa0 (pv 6) (Aa0 (pv 2) Aa3))) (Abd (Aa0 (pv 2) (Aa0 (pIL (pv 4) (Aay Ac9 (pv 5) Aa7)) Aa3))) rfl))))))
  (Aa4 (Aa9 (pv 1)))),?_⟩
 intro fo hfo;have s0:Same H (upd H fo (.dT [])):=Same.new hfo;refine⟨_,rfl,d,S,pa,la,ma,as,ls,ms,rfl,D.same s0,r.lin,fun H1 a rows s1 L=>?_⟩;have s01:=s0.trans s1;have hfo1:H1 fo=some (.dT []):=s1 _ _ Aa1;have nP:=D.nP;have nL:=D.nL;have rl:rows.length=S.pts.length:=by have:=L.len;simpa using this
 have lenE:∀E:List (Nat×Nat),E.Nodup->(∀e,e∈E->Pg.adj S e.1 e.2)->E.length<=16384:=fun E nd ad=>by
  have:=Pg.len_le nd (m:=anE S) (fun e he=>(Pg.mem_ways S e).2 (ad e he));rw[Pg.len_ways]at this;lia
 have nd_all:=Adn r S.pts.length (aaK _);have lkeep:∀{H':Hp},(∀b o,H1 b=some o->b≠fo->H' b=some o)->H' a=some (.lst (rows.map V.ref)):=fun {H'} kp=>kp a _ L.lst (Ac2 L.lst hfo1 (by intro z;cases z))
 refine⟨a,_,rfl,SqL.of L.lst,Abo (K:=K) (a:=a) (xs:=rows.map V.ref) (fun i σ H'=>(∃v2 v3 v4 v5 v6:Option V,σ=[some (.ref d),some (.ref fo),v2,v3,v4,v5,v6])/\(∀b o,H1 b=some o->b≠fo->H' b=some o)/\∃kvs,H' fo=some (.dT kvs)/\FoI S H' kvs (Ab1 S i))
  ⟨⟨_,_,_,_,_,rfl⟩,fun b o e _=>e,[],hfo1,rfl,by intro e he;simp[Ab1]at he⟩ (fun i σ H' _ ⟨_,kp,_⟩=>SqL.of (lkeep kp)) ?_ ?_⟩
 ·rintro i x σ H' t hi ⟨⟨v2,v3,v4,v5,v6,rfl⟩,kp,kvs,hf,I⟩ ht;obtain⟨c,hc,rfl⟩:=Aac hi;have il:i<S.pts.length:=by have:=(aaB.mp hc).1;lia
  obtain⟨l,el,hcl⟩:=L.at_ i c hc;have:l=S.near i:=by
   rw[aaH,adK il]at el;exact(abD el).symm
  subst this;have s2:Same H' (upd H' t (.tup [.int (i:Nat),.ref c])):=Same.new ht;have keepD:∀{H'':Hp},(∀b o,H1 b=some o->b≠fo->H'' b=some o)->Same H H'':=fun {H''} kp b o e=>kp b o (s01 b o e) (Aa8 e hfo);have kp2:∀b o,H1 b=some o->b≠fo->(upd H' t (.tup [.int (i:Nat),.ref c])) b=some o:=fun b o e n=>s2 _ _ (kp b o e n);have D2:=D.same (keepD kp2);obtain⟨dx,hd⟩:=D2.ins;have ncf:c≠fo:=Ac2 hcl hfo1 (by intro z;cases z)
  have nn:∀y,y∈S.near i->y<S.pts.length:=fun y hy=>(r.adj_lt ((Pg.mem_near r i y).1 hy)).2.1;have n8:(S.near i).length<=8192:=abI (Agi S.lines i) nL;refine⟨t,_,rfl,SqT.of Aa1,rfl,_,_,rfl,_,_,rfl,rfl,?_⟩;refine⟨_,rfl,d,C,dx,_,_,rfl,hd,T.cl,T.nP,Ad0 _ _ _ _ _,_,rfl,_,rfl,pa,c,i,S.near i,S,as,rfl,D2.pts,D2.ptsA,D2.smP,il,kp2 _ _ hcl ncf,nn,n8,fun H3 ri s3 fri hri=>?_⟩;have ering:Awv S i (S.near i)=Pg.ringOf S i:=rfl
  rw[ering]at hri;have hf3:=s3 _ _ (s2 _ _ hf);have kp3:∀b o,H1 b=some o->b≠fo->H3 b=some o:=fun b o e n=>s3 _ _ (kp2 b o e n);have I3:FoI S H3 kvs (Ab1 S i):=⟨I.keys,fun e he=>let ⟨b,x,y⟩:=I.val e he;⟨b,x,s3 _ _ (s2 _ _ y)⟩⟩
  have nrf:ri≠fo:=fun q=>by rw[q,s2 _ _ hf]at fri;cases fri
  refine⟨_,rfl,ri,_,rfl,SqL.of hri,Abo (K:=K) (a:=ri) (xs:=vN (Pg.ringOf S i)) (fun j σ H'=>(∃v5 v6:Option V,σ=[some (.ref d),some (.ref fo),some (.int (i:Nat)),some (.ref c),some (.ref ri),v5,v6])/\(∀b o,H3 b=some o->b≠fo->H' b=some o)/\∃kvs,H' fo=some (.dT kvs)/\FoI S H' kvs (Ab1 S i++(Abh S i).take j))
   ⟨⟨_,_,rfl⟩,fun b o e _=>e,kvs,hf3,by simpa using I3⟩ (fun j σ H' _ ⟨_,kp,_⟩=>SqL.of (kp _ _ hri nrf)) ?_ ?_⟩
  ·rintro j y σ H4 t2 hj ⟨⟨v5,v6,rfl⟩,kp4,kvs4,hf4,I4⟩ ht2;obtain⟨x,hx,rfl⟩:=Ak4 hj;have s4:Same H4 (upd H4 t2 (.tup [.int (j:Nat),.int (x:Nat)])):=Same.new ht2;have hri4:=s4 _ _ (kp4 _ _ hri nrf);have wx:(Abh S i)[j]?=some (x,i):=by unfold Abh;rw[aaH,hx];rfl
   have nin:((x,i):Nat×Nat)∉Ab1 S i++(Abh S i).take j:=by
    intro q;have nd2:=Adn r (i+1) (by lia);have e:Ab1 S (i+1)=Ab1 S i++Abh S i:=by unfold Ab1;rw[afG,aeO];simp
    rw[e]at nd2;have sub:(Ab1 S i++(Abh S i).take j++(Abh S i).drop j).Nodup:=by rw[aeN,afW];exact nd2
    rw[Adu wx,aeM]at sub;exact sub.2.2 _ q (x,i) (by simp) rfl
   refine⟨t2,_,rfl,SqT.of Aa1,rfl,_,_,rfl,_,_,rfl,rfl,?_⟩;refine⟨_,rfl,_,rfl,_,rfl,_,_,rfl,rfl,ri,_,_,V.int (S.next x i:Nat),rfl,rfl,SqL.of hri4,Aqe r il hx,sz2,fun t3 ht3=>?_⟩;have s5:=Same.new (o:=.tup [.int (i:Nat),.int (S.next x i:Nat)]) ht3;refine⟨_,rfl,_,rfl,_,rfl,sz2,fun t4 ht4=>?_⟩;have s6:=Same.new (o:=.tup [.int (x:Nat),.int (i:Nat)]) ht4;have s46:=(s4.trans s5).trans s6;have hf6:=s46 _ _ hf4
   have lt3:LnAt (upd (upd (upd H4 t2 (.tup [.int (j:Nat),.int (x:Nat)])) t3 (.tup [.int (i:Nat),.int (S.next x i:Nat)])) t4 (.tup [.int (x:Nat),.int (i:Nat)])) t3 (i,S.next x i):=s6 _ _ Aa1;have n3f:t3≠fo:=fun q=>by rw[q,s4 _ _ hf4]at ht3;cases ht3
   have ln:kvs4.length<abB:=by
    have e1:kvs4.length=(Ab1 S i++(Abh S i).take j).length:=by
     have:=congrArg afK I4.keys;simpa using this
    have nd3:(Ab1 S i++(Abh S i).take j).Nodup:=by
     have nd2:=Adn r (i+1) (by lia);have e:Ab1 S (i+1)=Ab1 S i++Abh S i:=by unfold Ab1;rw[afG,aeO];simp
     rw[e,<-afW j (Abh S i),<-aeN]at nd2;exact(aeM.1 nd2).1
    have:=lenE _ nd3 (fun e he=>by
     rcases abH.1 he with q | q
     ·exact r.draw.sym _ _ ((Aex r i e).1 q).2
     ·have:=afF q;unfold Abh at this;obtain⟨z,hz,rfl⟩:=aaN.1 this
      exact r.draw.sym _ _ ((Pg.mem_ring r i z).1 hz))
    rw[e1];exact abY this (by decide)
   refine⟨fo,_,rfl,DPut.t (k:=wK (x,i)) hf6 Aa1 ln,?_⟩;obtain⟨pe,I5⟩:=I4.push (e:=(x,i)) (c:=t3) s46 nin lt3;rw[pe];refine⟨⟨_,_,rfl⟩,?_,_,Aa1,?_⟩
   ·intro b o e n;rw[Aa5 n];exact s46 _ _ (kp4 b o e n)
   ·have I6:FoI S (upd (upd (upd (upd H4 t2 (.tup [.int (j:Nat),.int (x:Nat)])) t3 (.tup [.int (i:Nat),.int (S.next x i:Nat)])) t4 (.tup [.int (x:Nat),.int (i:Nat)])) fo (.dT (kvs4++[(wK (x,i),.ref t3)]))) (kvs4++[(wK (x,i),.ref t3)]) ((Ab1 S i++(Abh S i).take j)++[(x,i)]) :=
     ⟨I5.keys,fun e he=>let ⟨b,p,q⟩:=I5.val e he;⟨b,p,by show(upd _ fo _) b=_;rw[Aa5 (Ac2 q hf6 (by intro z;cases z))];exact q⟩⟩
    rw[aeN,<-Aai wx]at I6;exact I6
  ·rintro σ H4 ⟨⟨v5,v6,rfl⟩,kp4,kvs4,hf4,I4⟩;have wl:(vN (Pg.ringOf S i)).length=(Abh S i).length:=by unfold vN Abh;rw[aaA,aaA]
   rw[wl,acA]at I4;refine⟨⟨_,_,_,_,_,rfl⟩,fun b o e n=>kp4 _ _ (kp3 b o e n) n,kvs4,hf4,?_⟩;have e:Ab1 S (i+1)=Ab1 S i++Abh S i:=by unfold Ab1;rw[afG,aeO];simp
   rw[e];exact I4
 ·rintro σ H' ⟨⟨v2,v3,v4,v5,v6,rfl⟩,kp,kvs,hf,I⟩;rw[aaA,rl]at I;have mem:∀e,e∈Ab1 S S.pts.length↔Pg.adj S e.1 e.2:=fun e=>by
   rw[Aex r];constructor
   ·intro q;exact r.draw.sym _ _ q.2
   ·intro q;exact⟨(r.adj_lt q).2.1,r.draw.sym _ _ q⟩
  refine⟨_,rfl,k H' fo kvs (Ab1 S S.pts.length) (fun b o e=>kp b o (s01 b o e) (Aa8 e hfo)) hfo ⟨hf,fun u v a=>?_⟩ I.keys nd_all mem⟩;exact I.val (u,v) ((mem (u,v)).2 a)
end Gc
end
section
namespace Gc
open Gla (Pt Plan Mark)
theorem Aw4 (b:Nat)(r:List Nat):(b::r).zip ((b::r).drop 1++(b::r).take 1)=(b::r).zip (r++[b]):=rfl
def Abw (b:Nat):List Nat->Nat
 | []=>b
 | c::r=>Abw c r
theorem Af1 (b:Nat):∀r:List Nat,(b::r)[(b::r).length-1]?=some (Abw b r)
 | []=>rfl
 | c::r=>by
  have:=Af1 c r;show(b::c::r)[(c::r).length]?=_;have e:(b::c::r)[(c::r).length]?=(c::r)[(c::r).length-1]?:=by
   rw[show(c::r).length=((c::r).length-1)+1 from by simp];rfl
  rw[e];exact this
theorem Aij (S:Plan)(a:Nat):∀(r:List Nat) (b:Nat),(((b::r).zip (r++[a])).map fun(x:Nat×Nat)=>((S.pt x.1).x:Int)*((S.pt x.2).y:Int)-((S.pt x.2).x:Int)*((S.pt x.1).y:Int)).foldr (fun(a b:Int)=>a+b) 0=arS (S.pt b) (r.map S.pt)+arT (S.pt (Abw b r)) (S.pt a)
 | [],b=>by
  simp only[ajF,aeF,akL,abE,agM,alN,List.foldr_nil,arS,Abw,arT];rw[afL ((S.pt a).x:Int)];lia
 | c::r,b=>by
  have ih:=Aij S a r c;simp only[adP,aeF,abE,alN]at ih ⊢;rw[ih];simp only[arS,Abw,arT];rw[afL ((S.pt c).x:Int) ((S.pt b).y:Int)];lia
theorem Ayi (S:Plan){l:List Nat}{p:Pt}(h:(l.map S.pt)[(l.map S.pt).length-1]?=some p):arS p (l.map S.pt)=akJ S l:=by
 cases l with
 | nil=>simp at h
 | cons b r =>
  unfold akJ;rw[Aw4,Aij S b r b];have:p=S.pt (Abw b r):=by
   rw[aaA,aaH,Af1 b r]at h;exact(abD h).symm
  subst this;show arS _ (S.pt b::r.map S.pt)=_;simp only[arS];lia
def inB (z p q:Pt):Bool:=(decide (p.y<=z.y)&&(decide (z.y<q.y)&&decide (0<afT p q z)))||(decide (q.y<=z.y)&&(decide (z.y<p.y)&&decide (afT p q z<0)))
theorem An5 (z p q:Pt):Acx p q z=inB z p q:=by
 have t:=Pg.turn_rev p q z;unfold Acx inB
 by_cases h1:p.y<=z.y/\z.y<q.y
 ·rw[ifp h1,dft h1.1,dft h1.2,dff (show ¬z.y<p.y by lia)];simp
 ·rw[ifn h1]
  by_cases h2:q.y<=z.y/\z.y<p.y
  ·rw[ifp h2,dft h2.1,dft h2.2,dff (show ¬z.y<q.y by lia),t];simp
  ·rw[ifn h2]
   symm
   rw[abZ];intro q;simp only[Bool.or_eq_true,acH,dtt]at q;lia
def par (n:Nat):Bool:=decide (n%2=1)
theorem Atl (n:Nat):par (n+1) = !par n:=by
 unfold par;rcases Nat.mod_two_eq_zero_or_one n with e | e
 ·rw[dft (show(n+1)%2=1 by lia),dff (show ¬n%2=1 by lia)];rfl
 ·rw[dff (show ¬(n+1)%2=1 by lia),dft e];rfl
def Avy (S:Plan)(z:Pt)(zs:List (Nat×Nat)):Nat:=(zs.filter fun(x:Nat×Nat)=>inB z (S.pt x.1) (S.pt x.2)).length
theorem Anw (S:Plan)(z:Pt)(x:Nat×Nat)(zs:List (Nat×Nat)):par (Avy S z (x::zs))=(inB z (S.pt x.1) (S.pt x.2) != par (Avy S z zs)):=by
 unfold Avy
 by_cases h:inB z (S.pt x.1) (S.pt x.2)=true
 ·rw[amT (by exact h),aaZ,Atl,h];simp
 ·rw[amU (by exact h),abZ.mpr h];simp
theorem Ayb (S:Plan)(z:Pt):par (Avy S z [])=false:=rfl
theorem Aic (S:Plan)(z:Pt)(a:Nat):∀(r:List Nat) (b:Nat) (w:Bool),hoS z (if Acx (S.pt (Abw b r)) (S.pt a) z=true then !w else w) (S.pt b) (r.map S.pt)=(w != par (Avy S z ((b::r).zip (r++[a]))))
 | [],b,w=>by
  show(if Acx (S.pt b) (S.pt a) z=true then !w else w)=(w != par (Avy S z [(b,a)]));rw[Anw,Ayb,An5];cases inB z (S.pt b) (S.pt a)<;>cases w<;>rfl
 | c::r,b,w=>by
  have ih:=Aic S z a r c (if Acx (S.pt b) (S.pt c) z=true then !w else w);show hoS z (if Acx (S.pt b) (S.pt c) z=true then !(if Acx (S.pt (Abw c r)) (S.pt a) z=true then !w else w) else(if Acx (S.pt (Abw c r)) (S.pt a) z=true then !w else w)) (S.pt c) (r.map S.pt)=(w != par (Avy S z ((b,c)::(c::r).zip (r++[a]))));have sw:∀(p q w:Bool),(if p=true then !(if q=true then !w else w) else(if q=true then !w else w))=(if q=true then !(if p=true then !w else w) else(if p=true then !w else w)):=by decide
  rw[sw,ih,Anw,An5];cases inB z (S.pt b) (S.pt c)<;>cases w<;>cases par (Avy S z ((c::r).zip (r++[a])))<;>rfl
theorem Arp (S:Plan)(z:Pt){l:List Nat}(h:l≠[]):hoB z (l.map S.pt)=anY S l z:=by
 cases l with
 | nil=>exact absurd rfl h
 | cons b r =>
  have hl:((b::r).map S.pt)[((b::r).map S.pt).length-1]?=some (S.pt (Abw b r)):=by
   rw[aaA,aaH,Af1 b r];rfl
  rw[Arr hl];show hoS z false (S.pt (Abw b r)) (S.pt b::r.map S.pt)=_;have e:=Aic S z b r b false;show hoS z (if Acx (S.pt (Abw b r)) (S.pt b) z=true then !false else false) (S.pt b) (r.map S.pt)=_;rw[e,Bool.false_bne];rfl
end Gc
end
section
namespace Gc
open PySem PySem.Spec PyProof.Rows L2
open Gla (Pt Plan Mark)
abbrev Ai1:afD:=Agt (top Aox) 0
abbrev Bcg:afD:=top Aos
def vfs (rf dr pn:V):List (Str×V):=Adx "panes" pn (Adx "drawing" dr (Adx "refusal" rf []))
theorem Ayz (rf dr pn:V):(vfs rf dr pn).lookup ("refusal" : Str)=some rf:=by
 unfold vfs;simp only[Aaz];rw[ifn (by decide +kernel),ifn (by decide +kernel),ifp trivial]
theorem Bc0 (rf dr pn:V):(vfs rf dr pn).lookup ("drawing" : Str)=some dr:=by
 unfold vfs;simp only[Aaz];rw[ifn (by decide +kernel),ifp trivial]
structure Ap9 (K:abA)(C:Addr):Prop where
 cl:Cls K C
 nR:NoAttr K C "refusal"
 nD:NoAttr K C "drawing"
 nP:NoAttr K C "panes"
def Aiv (C:Addr):Sp:=fun vs H Q _=>∃(p dx:Addr) (rf dr pn:V),vs=[.ref p,rf,dr,pn]/\H p=some (.ins C dx [])/\∀H':Hp,H' p=some (.ins C dx (vfs rf dr pn))->(∀b o,H b=some o->b≠p->H' b=some o)->Q .non H'
def RefAt (C:Addr)(H:Hp)(v:Addr)(l:List Int):Prop:=∃dx ra pa,H v=some (.ins C dx (vfs (.ref ra) .non (.ref pa)))/\H ra=some (.lst (l.map V.int))/\H pa=some (.lst [])
def Apt (C:Addr):Sp:=fun vs H Q _=>∃(r p:Int),vs=[.int r,.int p]/\∀(H':Hp) (v:Addr),Same H H'->RefAt C H' v [-5,r,p]->Q (.ref v) H'
variable {P:abS}{w:adI}{K:abA}{mg:Str->Option aaF}{base:Heap}
theorem Awi:Aaa ["self","refusal","drawing","panes"] ["self","refusal","drawing","panes"] (Aa6 Ai1):=fsc
theorem Aj8 {f C:Addr}{fd:aaX}(F:Fun K "__init__" "Verdict.__init__" Ai1 f fd)(T:Ap9 K C):FnOk P w K mg base CX0 1 f fd ["self","refusal","drawing","panes"] (Aiv C):=by
 refine F.ok Awi (fun vs H Q E h=>?_) (fun cdv A outer s H vs Q E hr h=>?_)
 ·obtain⟨p,dx,rf,dr,pn,rfl,_⟩:=h;rfl
 ·obtain⟨p,dx,rf,dr,pn,rfl,hp,k⟩:=h;refine⟨_,Aa2 (Ad7 (pv 0) (pv 1) rfl) (Aa2 (Ad7 (pv 0) (pv 2) rfl) (Aa4 (Ad7 (pv 0) (pv 3) rfl))),?_⟩;have l0:([]:List (Str×V)).length<=0:=aaK _;refine⟨_,rfl,_,rfl,p,C,dx,_,rfl,hp,T.cl,T.nR,(by show 0<1000;decide),?_⟩;refine⟨_,rfl,_,rfl,p,C,dx,_,rfl,Aa1,T.cl,T.nD,abY (Abs l0) (by decide),?_⟩;refine⟨_,rfl,_,rfl,p,C,dx,_,rfl,Aa1,T.cl,T.nP,abY (Abs (Abs l0)) (by decide),?_⟩
  refine k _ Aa1 fun b o e hb=>?_;rw[Aa5 hb,Aa5 hb,Aa5 hb];exact e
theorem Bcc:Aaa ["rule","place"] ["rule","place"] (Aa6 Bcg):=fsc
theorem Avi {f fI C:Addr}{fd fdI:aaX}(F:Def K mg "refused" Bcg ["rule","place"] f fd)(FI:Fun K "__init__" "Verdict.__init__" Ai1 fI fdI)(bI:Binds K fdI ["self","refusal","drawing","panes"] [])(M:Mk K C fI)(mC:mg "Verdict" = some (.ref C))(T:Ap9 K C) :
 FnOk P w K mg base CX0 3 f fd ["rule","place"] (Apt C):=by
 have GI:FnOk P w K mg base CX0 1 fI fdI ["self","refusal","drawing","panes"] (Aiv C):=Aj8 FI T;refine F.go Bcc fun cdv A o s H vs Q E hr h=>?_;obtain⟨r,p,rfl,k⟩:=h;refine⟨_,Aa4 (Aa9 (Agd M GI hr rfl mC bI .nil Abm (Aa0 (Abb (Aa0 (Alw Ag5 Aa7) (Aa0 (pv 0) (Aa0 (pv 1) Aa3)))) (Aa0 Acy (Aa0 (Abb Aa3) Aa3))))),?_⟩;refine⟨_,rfl,_,rfl,_,rfl,sz3,fun ra hra=>?_⟩
 have s1:=Same.new (o:=.lst [.int (-5),.int r,.int p]) hra;refine⟨abO _,fun pa hpa=>?_⟩;have s2:=s1.trans (Same.new (o:=.lst []) hpa);intro x dx hx hdx ne;refine⟨x,dx,.ref ra,.non,.ref pa,rfl,Aa1,fun H4 hd keep=>⟨rfl,?_⟩⟩;have s34:=Same.made hx hdx keep;refine k H4 x (s2.trans s34) ⟨dx,ra,pa,hd,s34 _ _ ?_,s34 _ _ Aa1⟩;exact Same.new hpa _ _ Aa1
abbrev An3:afD:=top Amd
def eL (S:Plan)(on:Pt->Bool)(i:Nat):List Nat:=(aaT i).filter fun(j:Nat)=>on (S.pt j)
theorem Ajq (S:Plan)(on:Pt->Bool)(i:Nat):eL S on (i+1)=if on (S.pt i)=true then eL S on i++[i] else eL S on i:=by
 unfold eL;rw[afG,akH]
 by_cases h:on (S.pt i)=true
 ·rw[ifp h];simp[h]
 ·rw[ifn h];simp[h]
theorem Avs (S:Plan)(on:Pt->Bool)(i:Nat):(eL S on i).length<=i:=by
 unfold eL;have:=aeT (fun(j:Nat)=>on (S.pt j)) (aaT i);rw[acK]at this;exact this
structure Four (H H':Hp)(be le ri ab:Addr)(l1 l2 l3 l4:List Nat):Prop where
 s:Same H H'
 h1:H' be=some (.lst (vN l1))
 h2:H' le=some (.lst (vN l2))
 h3:H' ri=some (.lst (vN l3))
 h4:H' ab=some (.lst (vN l4))
structure Bbl (H:Hp)(be le ri ab:Addr):Prop where
 n1:H be=none
 n2:H le=none
 n3:H ri=none
 n4:H ab=none
 d12:be≠le
 d13:be≠ri
 d14:be≠ab
 d23:le≠ri
 d24:le≠ab
 d34:ri≠ab
section
variable {H H':Hp}{be le ri ab:Addr}{l1 l2 l3 l4:List Nat}
theorem Four.p1 (n:Bbl H be le ri ab)(f:Four H H' be le ri ab l1 l2 l3 l4)(x:Nat):Four H (upd H' be (.lst (vN l1++[V.int (x:Nat)]))) be le ri ab (l1++[x]) l2 l3 l4 :=
 ⟨fun b o e=>by rw[Aa5 (Aa8 e n.n1)];exact f.s b o e,by rw[Aa1,Acf],by rw[Aa5 (acU n.d12)];exact f.h2,by rw[Aa5 (acU n.d13)];exact f.h3,by rw[Aa5 (acU n.d14)];exact f.h4⟩
theorem Four.p2 (n:Bbl H be le ri ab)(f:Four H H' be le ri ab l1 l2 l3 l4)(x:Nat):Four H (upd H' le (.lst (vN l2++[V.int (x:Nat)]))) be le ri ab l1 (l2++[x]) l3 l4 :=
 ⟨fun b o e=>by rw[Aa5 (Aa8 e n.n2)];exact f.s b o e,by rw[Aa5 n.d12];exact f.h1,by rw[Aa1,Acf],by rw[Aa5 (acU n.d23)];exact f.h3,by rw[Aa5 (acU n.d24)];exact f.h4⟩
theorem Four.p3 (n:Bbl H be le ri ab)(f:Four H H' be le ri ab l1 l2 l3 l4)(x:Nat):Four H (upd H' ri (.lst (vN l3++[V.int (x:Nat)]))) be le ri ab l1 l2 (l3++[x]) l4 :=
 ⟨fun b o e=>by rw[Aa5 (Aa8 e n.n3)];exact f.s b o e,by rw[Aa5 n.d13];exact f.h1,by rw[Aa5 n.d23];exact f.h2,by rw[Aa1,Acf],by rw[Aa5 (acU n.d34)];exact f.h4⟩
theorem Four.p4 (n:Bbl H be le ri ab)(f:Four H H' be le ri ab l1 l2 l3 l4)(x:Nat):Four H (upd H' ab (.lst (vN l4++[V.int (x:Nat)]))) be le ri ab l1 l2 l3 (l4++[x]) :=
 ⟨fun b o e=>by rw[Aa5 (Aa8 e n.n4)];exact f.s b o e,by rw[Aa5 n.d14];exact f.h1,by rw[Aa5 n.d24];exact f.h2,by rw[Aa5 n.d34];exact f.h3,by rw[Aa1,Acf]⟩
theorem Four.more {H2:Hp}(f:Four H H' be le ri ab l1 l2 l3 l4)(e:Same H' H2):Four H H2 be le ri ab l1 l2 l3 l4:=⟨f.s.trans e,e _ _ f.h1,e _ _ f.h2,e _ _ f.h3,e _ _ f.h4⟩
end
theorem Afx {b:Bool}{H1:Hp}{A:Prop}(R:Hp->Prop){N:Hp->Prop}(hB:b=false->R H1)(hA:b=true->(∀H2,R H2->N H2)->A)(cont:∀H2,R H2->N H2):if b=true then A else N H1 :=
 Abj (fun e=>hA e cont) (fun e=>cont H1 (hB (abZ.mpr e)))
theorem Akz (a b:Nat):decide (V.int (a:Nat)=V.int (b:Nat))=(a==b):=by
 by_cases e:a=b
 ·subst e;simp
 ·have:¬V.int (a:Nat)=V.int (b:Nat):=fun q=>e (by injection q with q;lia);rw[dff this];simp[e]
def onB:Pt->Bool:=fun p=>p.y==0
def onL:Pt->Bool:=fun p=>p.x==0
def onR (S:Plan):Pt->Bool:=fun p=>p.x==S.w
def onA (S:Plan):Pt->Bool:=fun p=>p.y==S.h
def Aq5 (C:Addr):Sp:=fun vs H Q _=>∃(d:Addr) (S:Plan) (pa la ma:Addr) (as ls ms:List Addr),vs=[.ref d]/\DrawAt C H d S pa la ma as ls ms/\S.pts.length<=4096/\
 ∀(H':Hp) (t be le ri ab:Addr),H' t=some (.tup [.ref be,.ref le,.ref ri,.ref ab])->Four H H' be le ri ab (aeK S onB) (aeK S onL) (aeK S (onR S)) (aeK S (onA S))->Q (.ref t) H'
theorem scEdges:Aaa ["drawing","below","left","right","above","number","point"] ["drawing"] (Aa6 An3):=fsc
theorem Atw {f C:Addr}{fd:aaX}(F:Def K mg "edges_of" An3 ["drawing"] f fd)(T:Ac7 K C)(ne:mg "enumerate" = none):FnOk P w K mg base CX0 1 f fd ["drawing"] (Aq5 C):=by
 refine F.go scEdges fun cdv A o s H vs Q E hr h=>?_;obtain⟨d,S,pa,la,ma,as,ls,ms,rfl,D,nP,k⟩:=h
 refine⟨_,Aa2 (pS 1 scEdges.nd (Abb Aa3))
  (Aa2 (pS 2 scEdges.nd (Abb Aa3))
  (Aa2 (pS 3 scEdges.nd (Abb Aa3))
  (Aa2 (pS 4 scEdges.nd (Abb Aa3))
  (Aa2 (Aao aaQ rfl (Ac0 rfl ne (Aa0 (Aaj (pv 0) rfl) Aa3)) (Abi rfl (Aab (pG 5 scEdges.nd) (Aab (pG 6 scEdges.nd) Aax)))
   (Aa2 (Aav (Aak Aoi (pIT (pv 6) Aa7) Aa7 (Aan _)) (Aa4 (Abc (Ad9 abK acG acF Ab7 (pv 1) (Aa0 (pv 5) Aa3)))) Aag)
   (Aa2 (Aav (Aak Aoi (pIT (pv 6) Aa7) Aa7 (Aan _)) (Aa4 (Abc (Ad9 abK acG acF Ab7 (pv 2) (Aa0 (pv 5) Aa3)))) Aag)
   (Aa2 (Aav (Aak Aoi (pIT (pv 6) Aa7) (Aaj (pv 0) rfl) (Aan _)) (Aa4 (Abc (Ad9 abK acG acF Ab7 (pv 3) (Aa0 (pv 5) Aa3)))) Aag)
   (Aa4 (Aav (Aak Aoi (pIT (pv 6) Aa7) (Aaj (pv 0) rfl) (Aan _)) (Aa4 (Abc (Ad9 abK acG acF Ab7 (pv 4) (Aa0 (pv 5) Aa3)))) Aag))))))
  (Aa4 (Aa9 (Abd (Aa0 (pv 1) (Aa0 (pv 2) (Aa0 (pv 3) (Aa0 (pv 4) Aa3))))))))))),?_⟩
 refine⟨abO _,fun be hbe=>⟨abO _,fun le hle=>⟨abO _,fun ri hri=>⟨abO _,fun ab hab=>?_⟩⟩⟩⟩;have s1:=Same.new (o:=.lst []) hbe;have s2:=s1.trans (Same.new (o:=.lst []) hle);have s3:=s2.trans (Same.new (o:=.lst []) hri);have s4:=s3.trans (Same.new (o:=.lst []) hab);have d12:be≠le:=fun q=>by rw[<-q,Aa1]at hle;cases hle
 have d23:le≠ri:=fun q=>by rw[<-q,Aa1]at hri;cases hri
 have d34:ri≠ab:=fun q=>by rw[<-q,Aa1]at hab;cases hab
 have d13:be≠ri:=fun q=>by rw[<-q,Aa5 d12,Aa1]at hri;cases hri
 have d24:le≠ab:=fun q=>by rw[<-q,Aa5 d23,Aa1]at hab;cases hab
 have d14:be≠ab:=fun q=>by rw[<-q,Aa5 d13,Aa5 d12,Aa1]at hab;cases hab
 have nw:Bbl H be le ri ab:=⟨hbe,s1.free hle,s2.free hri,s3.free hab,d12,d13,d14,d23,d24,d34⟩
 have f0:Four H (upd (upd (upd (upd H be (.lst [])) le (.lst [])) ri (.lst [])) ab (.lst [])) be le ri ab [] [] [] [] :=
  ⟨s4,by rw[Aa5 d14,Aa5 d13,Aa5 d12,Aa1];rfl,by rw[Aa5 d24,Aa5 d23,Aa1];rfl,by rw[Aa5 d34,Aa1];rfl,by rw[Aa1];rfl⟩
 generalize upd (upd (upd (upd H be (.lst [])) le (.lst [])) ri (.lst [])) ab (.lst [])=H0 at *;have D0:=D.same f0.s;obtain⟨dx,hd⟩:=D0.ins
 refine⟨_,rfl,d,C,dx,_,_,rfl,hd,T.cl,T.nP,Ad0 _ _ _ _ _,pa,_,rfl,SqL.of D0.pts,Abo (K:=K) (a:=pa) (xs:=as.map V.ref) (fun i σ H'=>(∃v5 v6:Option V,σ=[some (.ref d),some (.ref be),some (.ref le),some (.ref ri),some (.ref ab),v5,v6])/\Four H H' be le ri ab (eL S onB i) (eL S onL i) (eL S (onR S) i) (eL S (onA S) i))
  ⟨⟨_,_,rfl⟩,f0⟩ (fun i σ H' _ ⟨_,f⟩=>SqL.of (f.s _ _ D.pts)) ?_ ?_⟩
 ·rintro i x σ H' t hi ⟨⟨v5,v6,rfl⟩,f⟩ ht;obtain⟨c,hc,rfl⟩:=Aac hi;obtain⟨p,hp,pc⟩:=D.ptsX.at_ i c hc;have il:=(aaB.mp hp).1;have ep:S.pt i=p:=by unfold akP;rw[abN,hp];rfl
  have f1:=f.more (Same.new (o:=.tup [.int (i:Nat),.ref c]) ht);have lenE:∀on,(vN (eL S on i)).length<abB:=fun on=>by
   unfold vN;rw[aaA];have:=Avs S on i;exact szN (by lia)
  refine⟨t,_,rfl,SqT.of Aa1,rfl,_,_,rfl,_,_,rfl,rfl,?_⟩;generalize upd H' t (.tup [.int (i:Nat),.ref c])=H1 at *;have E1:=Ajq S onB i;have E2:=Ajq S onL i;have E3:=Ajq S (onR S) i;have E4:=Ajq S (onA S) i;rw[ep]at E1 E2 E3 E4;refine⟨_,rfl,c,_,_,_,rfl,rfl,SqT.of (K:=K) (f1.s _ _ pc),rfl,rfl,_,rfl,?_⟩;refine Afx (fun H2=>Four H H2 be le ri ab (eL S onB (i+1)) (eL S onL i) (eL S (onR S) i) (eL S (onA S) i)) (fun e=>?_) (fun e ct=>?_) (fun H2 f2=>?_)
  ·rw[E1,ifn (by have:=Akz p.y 0;rw[show onB p=(p.y==0)from rfl,<-this];exact abZ.mp e)];exact f1
  ·refine⟨_,rfl,.inl ⟨rfl,_,SqL.of f1.h1⟩,_,rfl,be,_,_,rfl,rfl,f1.h1,lenE _,ct _ ?_⟩;rw[E1,ifp (by have:=Akz p.y 0;rw[show onB p=(p.y==0)from rfl,<-this];exact e)];exact f1.p1 nw i
  refine⟨_,rfl,c,_,_,_,rfl,rfl,SqT.of (K:=K) (f2.s _ _ pc),rfl,rfl,_,rfl,?_⟩;refine Afx (fun H2=>Four H H2 be le ri ab (eL S onB (i+1)) (eL S onL (i+1)) (eL S (onR S) i) (eL S (onA S) i)) (fun e=>?_) (fun e ct=>?_) (fun H3 f3=>?_)
  ·rw[E2,ifn (by have:=Akz p.x 0;rw[show onL p=(p.x==0)from rfl,<-this];exact abZ.mp e)];exact f2
  ·refine⟨_,rfl,.inl ⟨rfl,_,SqL.of f2.h2⟩,_,rfl,le,_,_,rfl,rfl,f2.h2,lenE _,ct _ ?_⟩;rw[E2,ifp (by have:=Akz p.x 0;rw[show onL p=(p.x==0)from rfl,<-this];exact e)];exact f2.p2 nw i
  obtain⟨dx3,hd3⟩:=(D.same f3.s).ins;refine⟨_,rfl,c,_,_,_,rfl,rfl,SqT.of (K:=K) (f3.s _ _ pc),rfl,_,rfl,d,C,dx3,_,_,rfl,hd3,T.cl,T.nW,Ap4 _ _ _ _ _,rfl,_,rfl,?_⟩;refine Afx (fun H2=>Four H H2 be le ri ab (eL S onB (i+1)) (eL S onL (i+1)) (eL S (onR S) (i+1)) (eL S (onA S) i)) (fun e=>?_) (fun e ct=>?_) (fun H4 f4=>?_)
  ·rw[E3,ifn (by have:=Akz p.x S.w;rw[show onR S p=(p.x==S.w)from rfl,<-this];exact abZ.mp e)];exact f3
  ·refine⟨_,rfl,.inl ⟨rfl,_,SqL.of f3.h3⟩,_,rfl,ri,_,_,rfl,rfl,f3.h3,lenE _,ct _ ?_⟩;rw[E3,ifp (by have:=Akz p.x S.w;rw[show onR S p=(p.x==S.w)from rfl,<-this];exact e)];exact f3.p3 nw i
  obtain⟨dx4,hd4⟩:=(D.same f4.s).ins;refine⟨_,rfl,c,_,_,_,rfl,rfl,SqT.of (K:=K) (f4.s _ _ pc),rfl,_,rfl,d,C,dx4,_,_,rfl,hd4,T.cl,T.nH,Ap5 _ _ _ _ _,rfl,_,rfl,?_⟩;refine Afx (fun H2=>Four H H2 be le ri ab (eL S onB (i+1)) (eL S onL (i+1)) (eL S (onR S) (i+1)) (eL S (onA S) (i+1))) (fun e=>?_) (fun e ct=>?_) (fun H5 f5=>⟨⟨_,_,rfl⟩,f5⟩)
  ·rw[E4,ifn (by have:=Akz p.y S.h;rw[show onA S p=(p.y==S.h)from rfl,<-this];exact abZ.mp e)];exact f4
  ·refine⟨_,rfl,.inl ⟨rfl,_,SqL.of f4.h4⟩,_,rfl,ab,_,_,rfl,rfl,f4.h4,lenE _,ct _ ?_⟩;rw[E4,ifp (by have:=Akz p.y S.h;rw[show onA S p=(p.y==S.h)from rfl,<-this];exact e)];exact f4.p4 nw i
 ·rintro σ H' ⟨⟨v5,v6,rfl⟩,f⟩;rw[aaA,D.ptsA.len]at f;refine⟨_,rfl,_,rfl,_,rfl,_,rfl,sz4,fun t ht=>?_⟩;exact k _ t be le ri ab Aa1 (f.more (Same.new ht))
def Aww (K:abA):R2:=fun x y H Q=>∃d xs,Dp K H x d/\Dp K H y (.list xs)/\agV xs=true/\d.canLay0=true/\d.depth<=60/\Q (.bl (!xs.any fun z=>akD z d)) H
theorem Aqr {X:Cx}(hu:X.A.units+64<cLine):OpR X (compareOp .NotIn) (Aww X.K):=by
 intro p_ s σ H x y v u Q I rx ry h;obtain⟨d,xs,hd,hx,cx,cd,dd,q⟩:=h;obtain⟨as,r1⟩:=Dp.reads I d x v hd rx;obtain⟨bs,r2⟩:=Dp.reads I (.list xs) y u hx ry;refine SeqAt.notIn_list_reads r2 r1 cx cd ?_ ⟨.bl _,H,I,rfl,q⟩;have:=alA (PyData.depthAll xs) d.depth;lia
def ptD (p:Pt):PyData:=.tuple [.int p.x,.int p.y]
theorem Aqk (p:Pt):(ptD p).canLay0=true:=by simp[ptD,PyData.canLay0,agV]
theorem Aqm (p:Pt):(ptD p).depth<=60:=by simp[ptD,PyData.depth,PyData.depthAll]
theorem An7:∀l:List Pt,agV (l.map ptD)=true
 | []=>by simp[agV]
 | p::l=>by rw[abE];simp[agV,Aqk,An7 l]
theorem Aql (p q:Pt):akD (ptD p) (ptD q)=(p==q):=by
 obtain⟨a,b⟩:=p;obtain⟨c,d⟩:=q;simp only[ptD,akD,PyData.eqvAll];rw[adC];simp;lia
theorem Atb (l:List Pt)(q:Pt):((l.map ptD).any fun z=>akD z (ptD q))=l.contains q:=by
 rw[List.any_map];rw[adC,aeJ,aeU];constructor
 ·rintro⟨x,hx,e⟩;simp only[Function.comp,Aql,beq_iff_eq]at e;rw[<-e];exact hx
 ·intro h;exact⟨q,h,by simp[Aql]⟩
theorem PtX.dp {K:abA}{H:Hp}{a:Addr}{p:Pt}(h:H a=some (.tup (ptV p))):Dp K H (.ref a) (ptD p):=Dp.tup (SqT.of h) (.cons (.int _) (.cons (.int _) .nil))
theorem Avt {K:abA}{H:Hp}:∀(as:List Addr) (ps:List Pt),TupsAt ptV H as ps->Amr K H (as.map V.ref) (ps.map ptD)
 | [],[],_=>.nil
 | [],_::_,h=>by have:=h.len;simp at this
 | _::_,[],h=>by have:=h.len;simp at this
 | a::as,p::ps,h=>by
  obtain⟨q,e,ha⟩:=h.at_ 0 a rfl;cases e;exact .cons (PtX.dp ha) (Avt as ps ⟨by have:=h.len;simpa using this,fun i c hc=>h.at_ (i+1) c hc⟩)
theorem TupsAt.dp {K:abA}{H:Hp}{a:Addr}{as:List Addr}{ps:List Pt}(h:TupsAt ptV H as ps)(ha:H a=some (.lst (as.map V.ref))):Dp K H (.ref a) (.list (ps.map ptD)):=Dp.lst (SqL.of ha) (Avt as ps h)
abbrev Awp:afD:=top Aji
theorem Ah4 {S:Plan}{l:List Nat}(hs:l.Pairwise (·<·)):ahB S l=true↔∀(k a b:Nat),l[k]?=some a->l[k+1]?=some b->((a,b):Nat×Nat)∈S.lines:=by
 have lt:∀(k a b:Nat),l[k]?=some a->l[k+1]?=some b->a<b:=fun k a b ha hb=>by
  obtain⟨h1,rfl⟩:=aaB.mp ha;obtain⟨h2,rfl⟩:=aaB.mp hb;exact afA.mp hs k (k+1) h1 h2 (by lia)
 unfold ahB;rw[agI];constructor
 ·intro h k a b ha hb;have m:((a,b):Nat×Nat)∈l.zip (l.drop 1):=by
   apply aaJ (i:=k);rw[amJ];exact⟨ha,by rw[akG,ahG];exact hb⟩
  have:=h _ m;have ab:=lt k a b ha hb;unfold aoF at this;rw[aeU]at this;simp only[ajI (aeW ab),alB (aeW ab)]at this;exact this
 ·rintro h ⟨a,b⟩ m;obtain⟨k,hk⟩:=aeR.mp m;rw[amJ,akG,ahG]at hk;have ab:=lt k a b hk.1 hk.2;unfold aoF;rw[aeU];simp only[ajI (aeW ab),alB (aeW ab)];exact h k a b hk.1 hk.2
theorem Abt (S:Plan)(on:Pt->Bool):(aeK S on).Pairwise (·<·):=aiG _ agY
theorem Ag0 (S:Plan)(on:Pt->Bool):(aeK S on).length<=S.pts.length:=Avs S on S.pts.length
def Amo (S:Plan):List Pt:=[⟨0,0⟩,⟨S.w,0⟩,⟨0,S.h⟩,⟨S.w,S.h⟩]
def As1 (S:Plan):List (List Nat):=[aeK S onB,aeK S onL,aeK S (onR S),aeK S (onA S)]
theorem Agy (S:Plan):agN S=true↔(∀q,q∈Amo S->S.pts.contains q=true)/\∀l,l∈As1 S->ahB S l=true:=by
 have e:agN S=(S.pts.contains ⟨0,0⟩&&(S.pts.contains ⟨S.w,0⟩&&(S.pts.contains ⟨0,S.h⟩&&(S.pts.contains ⟨S.w,S.h⟩&&(ahB S (aeK S onB)&&(ahB S (aeK S (onA S))&&(ahB S (aeK S onL)&&ahB S (aeK S (onR S))))))))):=rfl;rw[e];simp only[acH,Amo,As1,List.forall_mem_cons];constructor
 ·rintro⟨a,b,c,d,f,g,h,i⟩;exact⟨⟨a,b,c,d,by intro x hx;cases hx⟩,f,h,i,g,by intro x hx;cases hx⟩
 ·rintro⟨⟨a,b,c,d,_⟩,f,h,i,g,_⟩;exact⟨a,b,c,d,f,g,h,i⟩
def frm (S:Plan):Option Nat:=if agN S=true then none else some (acY 0)
theorem Ay3 {S:Plan}(h:¬agN S=true):frm S=some (acY 0):=by unfold frm;rw[ifn h]
structure JoI (S:Plan)(kvs:List (List Key×V))(i:Nat):Prop where
 len:kvs.length<=i
 has:∀e:Nat×Nat,(Ac8 kvs (wK e)).isSome=decide (e∈S.lines.take i)
theorem JoI.put {S:Plan}{kvs:List (List Key×V)}{i:Nat}{l:Nat×Nat}(I:JoI S kvs i)(h:S.lines[i]?=some l)(v:V):JoI S (Aeq kvs (wK l) v) (i+1) :=
 ⟨by have:=Acu kvs (wK l) v;have:=I.len;lia,fun e=>by
  rw[Ast,Aai h]
  by_cases q:wK e=wK l
  ·rw[ifp q];have:=Aht q;subst this;simp
  ·rw[ifn q,I.has e];have:e≠l:=fun z=>q (by rw[z])
   simp[this]⟩
theorem scOpen:Aaa ["drawing","width","height","corner","joined","line","edge","k"] ["drawing"] (Aa6 Awp):=fsc
theorem Axc {f fE C fP fL fM:Addr}{fd fdE fdP fdL fdM:aaX}(F:Def K mg "open_frame" Awp ["drawing"] f fd)(FE:Def K mg "edges_of" An3 ["drawing"] fE fdE)(M:TMeth K mg C fP fL fM fdP fdL fdM)(ne:mg "enumerate" = none)(nr:mg "range" = none) :
 FnOk P w K mg base CX0 2 f fd ["drawing"] (Aea C (fun _=>True) frm):=by
 have T:=M.T;have GE:FnOk P w K mg base CX0 1 fE fdE ["drawing"] (Aq5 C):=Atw FE T ne;have GP:FnOk P w K mg base CX0 1 fP fdP ["self","number"] (Adw C):=Ae0 M.FP M.c;refine F.go scOpen fun cdv A o s H vs Q E hr h=>?_;obtain⟨d,S,pa,la,ma,as,ls,ms,rfl,D,_,k⟩:=h;have k:∀H',Same H H'->Q (Atn (frm S)) H':=k;have hu:=Agv hr;have hu64:=hr.units
 refine⟨_,Aa2 (pS 1 scOpen.nd (Aaj (pv 0) rfl))
  (Aa2 (pS 2 scOpen.nd (Aaj (pv 0) rfl))
  (Aa2 (Aao aaQ rfl (Akn (Abd (Aa0 (Abd (Aa0 Aa7 (Aa0 Aa7 Aa3))) (Aa0 (Abd (Aa0 (pv 1) (Aa0 Aa7 Aa3))) (Aa0 (Abd (Aa0 Aa7 (Aa0 (pv 2) Aa3))) (Aa0 (Abd (Aa0 (pv 1) (Aa0 (pv 2) Aa3))) Aa3)))))) (pG 3 scOpen.nd)
   (Aa4 (Aav (Aak (Aqr hu64) (pv 3) (Aaj (pv 0) rfl) rfl) (Aa4 (Aa9 (Ab2 (pv 0) T.cl M.mP GP hr M.bP .nil Abm (Aa0 Aa7 Aa3)))) Aag)))
  (Aa2 (pS 4 scOpen.nd Aee)
  (Aa2 (Aao aaQ rfl (Aaw (Aaj (pv 0) rfl)) (pG 5 scOpen.nd)
   (Aa4 (Ad8 hu (pv 4) (pv 5) Acs rfl)))
  (Aa2 (Aao aaQ rfl (Akn (pCD FE GE hr (Aa0 (pv 0) Aa3))) (pG 6 scOpen.nd)
   (Aa4 (Aao aaQ rfl (Ako rfl nr (Aa0 Aa7 (Aa0 (Aae Aad (by rfl) M.nl acB (Aa0 (pv 6) Aa3)) Aa3))) (pG 7 scOpen.nd)
    (Aa4 (Aav (Ai4 (Ada hu (Abd (Aa0 (pIL (pv 6) (Aay Ac9 (pv 7) Aa7)) (Aa0 (pIL (pv 6) (pv 7)) Aa3))) (pv 4))) (Aa4 (Aa9 (Ab2 (pv 0) T.cl M.mP GP hr M.bP .nil Abm (Aa0 Aa7 Aa3)))) Aag)))))
  (Aa4 (Aa9 Acy))))))),?_⟩
 obtain⟨dx,hd⟩:=D.ins;have noP:(dfs S.w S.h pa la ma).lookup ("point_place" : Str)=none:=Ac5 _ _ _ _ _;have bad:¬agN S=true->∀H',Same H H'->Q (.int (acY 0:Nat)) H':=fun e H' s'=>by
  have:=k H' s';rw[Ay3 e]at this;exact this
 refine⟨_,rfl,d,C,dx,_,_,rfl,hd,T.cl,T.nW,Ap4 _ _ _ _ _,?_⟩;refine⟨_,rfl,d,C,dx,_,_,rfl,hd,T.cl,T.nH,Ap5 _ _ _ _ _,?_⟩;refine⟨sz2,fun t1 ht1=>?_⟩;have s1:=Same.new (o:=.tup [.int 0,.int 0]) ht1;refine⟨_,rfl,sz2,fun t2 ht2=>?_⟩;have s2:=Same.new (o:=.tup [.int S.w,.int 0]) ht2;refine⟨_,rfl,sz2,fun t3 ht3=>?_⟩;have s3:=Same.new (o:=.tup [.int 0,.int S.h]) ht3;refine⟨_,rfl,_,rfl,sz2,fun t4 ht4=>?_⟩
 have s4:=Same.new (o:=.tup [.int S.w,.int S.h]) ht4;refine⟨sz4,fun tt htt=>?_⟩;have s5:=Same.new (o:=.tup [.ref t1,.ref t2,.ref t3,.ref t4]) htt;have s15:=(((s1.trans s2).trans s3).trans s4).trans s5;have cp:TupsAt ptV (upd (upd (upd (upd (upd H t1 (.tup [.int 0,.int 0])) t2 (.tup [.int S.w,.int 0])) t3 (.tup [.int 0,.int S.h])) t4 (.tup [.int S.w,.int S.h])) tt (.tup [.ref t1,.ref t2,.ref t3,.ref t4])) [t1,t2,t3,t4] (Amo S):=by
  refine⟨rfl,fun i c hc=>?_⟩
  match i,hc with
  | 0,hc=>cases hc;exact⟨_,rfl,s5 _ _ (s4 _ _ (s3 _ _ (s2 _ _ Aa1)))⟩
  | 1,hc=>cases hc;exact⟨_,rfl,s5 _ _ (s4 _ _ (s3 _ _ Aa1))⟩
  | 2,hc=>cases hc;exact⟨_,rfl,s5 _ _ (s4 _ _ Aa1)⟩
  | 3,hc=>cases hc;exact⟨_,rfl,s5 _ _ Aa1⟩
  | n+4,hc=>simp at hc
 have htup:=Aa1 (H:=(upd (upd (upd (upd H t1 (.tup [.int 0,.int 0])) t2 (.tup [.int S.w,.int 0])) t3 (.tup [.int 0,.int S.h])) t4 (.tup [.int S.w,.int S.h]))) (a:=tt) (o:=HO.tup [.ref t1,.ref t2,.ref t3,.ref t4]);refine⟨tt,rfl,⟨_,SqT.of htup⟩,?_⟩;refine Agz (K:=K) (a:=tt) (xs:=[t1,t2,t3,t4].map V.ref) (fun i σ H'=>(∃v3:Option V,σ=[some (.ref d),some (.int S.w),some (.int S.h),v3,none,none,none,none])/\Same H H'/\H' tt=some (.tup [.ref t1,.ref t2,.ref t3,.ref t4])/\TupsAt ptV H' [t1,t2,t3,t4] (Amo S)/\∀j q,j<i->(Amo S)[j]?=some q->S.pts.contains q=true)
  ⟨⟨_,rfl⟩,s15,htup,cp,by intro j q hj;lia⟩ (fun i σ H' _ ⟨_,_,ht,_⟩=>SqT.of ht) ?_ ?_
 ·rintro i x σ H' hi ⟨⟨v3,rfl⟩,sH,hT,cp',inv⟩;obtain⟨c,hc,rfl⟩:=Aac hi;obtain⟨q,hq,pc⟩:=cp'.at_ i c hc;have D':=D.same sH;obtain⟨dx',hd'⟩:=D'.ins;refine⟨_,rfl,_,rfl,d,C,dx',_,_,rfl,hd',T.cl,T.nP,Ad0 _ _ _ _ _,ptD q,S.pts.map ptD,PtX.dp pc,TupsAt.dp D'.ptsX D'.pts,An7 _,Aqk _,Aqm _,_,rfl,?_⟩;rw[Atb];refine Abj (fun e=>?_) (fun e=>?_)
  ·refine⟨_,rfl,d,dx',_,rfl,hd',noP,d,0,rfl,?_⟩;refine bad (fun z=>?_) _ sH;have:=((Agy S).1 z).1 q (aaJ hq);rw[this]at e;cases e
  ·refine⟨⟨_,rfl⟩,sH,hT,cp',fun j q' hj hq'=>?_⟩
   by_cases ej:j=i
   ·subst ej;rw[hq]at hq';cases hq';cases z:S.pts.contains q with
    | true=>rfl
    | false=>rw[z]at e;exact absurd rfl e
   ·exact inv j q' (by lia) hq'
 rintro σ H1 ⟨⟨v3,rfl⟩,sH1,_,_,inv⟩;have corners:∀q,q∈Amo S->S.pts.contains q=true:=fun q hq=>by
  obtain⟨j,hj⟩:=aeR.mp hq;refine inv j q ?_ hj;have:=(aaB.mp hj).1;simpa [Amo] using this
 intro jo hjo;have D2:=D.same sH1;have sJ:=Same.new (o:=HO.dT []) hjo;have hjo2:(upd H1 jo (.dT [])) jo=some (.dT []):=Aa1;have nP:=D.nP;have nL:=D.nL;have DJ:=D2.same sJ;obtain⟨dxJ,hdJ⟩:=DJ.ins;refine⟨_,rfl,d,C,dxJ,_,_,rfl,hdJ,T.cl,T.nL,Aft _ _ _ _ _,la,rfl,⟨_,SqL.of DJ.lns⟩,?_⟩;refine Abn (K:=K) (a:=la) (xs:=ls.map V.ref) (fun i σ H'=>(∃v5:Option V,σ=[some (.ref d),some (.int S.w),some (.int S.h),v3,some (.ref jo),v5,none,none])/\Same H1 H'/\∃kvs,H' jo=some (.dT kvs)/\JoI S kvs i)
  ⟨⟨_,rfl⟩,sJ,[],hjo2,aaK _,fun e=>by simp[Asu]⟩ (fun i σ H' _ ⟨_,s',_⟩=>SqL.of (s' _ _ D2.lns)) ?_ ?_
 ·rintro i x σ H' hi ⟨⟨v5,rfl⟩,s',kvs,hj,I⟩;obtain⟨c,hc,rfl⟩:=Aac hi;obtain⟨l,hl,lc⟩:=(D2.lnsA.same s').at_ i c hc;have il:=(aaB.mp hl).1;refine⟨_,rfl,_,rfl,jo,_,rfl,DPut.t (k:=wK l) hj lc (abY (abI I.len (show i<=8192 by lia)) (by decide)),?_⟩;exact⟨⟨_,rfl⟩,fun b o e=>by rw[Aa5 (Aa8 e hjo)];exact s' b o e,_,Aa1,I.put hl _⟩
 rintro σ H3 ⟨⟨v5,rfl⟩,s3',kvs,hj3,I⟩;rw[aaA,D.lnsA.len]at I;have has:∀e:Nat×Nat,(Ac8 kvs (wK e)).isSome=decide (e∈S.lines):=fun e=>by
  have:=I.has e;rw[acA]at this;exact this
 have sH3:=sH1.trans s3';refine⟨_,rfl,d,S,pa,la,ma,as,ls,ms,rfl,D.same sH3,nP,fun H4 t be le ri ab ht fr=>?_⟩;have s4':=fr.s;have hj4:=s4' _ _ hj3;refine⟨t,rfl,⟨_,SqT.of ht⟩,?_⟩;have rows:∀(i:Nat) (c:Addr),[be,le,ri,ab][i]?=some c->∃l,(As1 S)[i]?=some l/\H4 c=some (.lst (vN l))/\l.Pairwise (·<·)/\l.length<=S.pts.length:=fun i c hc=>by
  match i,hc with
  | 0,hc=>cases hc;exact⟨_,rfl,fr.h1,Abt _ _,Ag0 _ _⟩
  | 1,hc=>cases hc;exact⟨_,rfl,fr.h2,Abt _ _,Ag0 _ _⟩
  | 2,hc=>cases hc;exact⟨_,rfl,fr.h3,Abt _ _,Ag0 _ _⟩
  | 3,hc=>cases hc;exact⟨_,rfl,fr.h4,Abt _ _,Ag0 _ _⟩
  | n+4,hc=>simp at hc
 refine Agz (K:=K) (a:=t) (xs:=[be,le,ri,ab].map V.ref) (fun i σ H'=>(∃v6 v7:Option V,σ=[some (.ref d),some (.int S.w),some (.int S.h),v3,some (.ref jo),v5,v6,v7])/\Same H4 H'/\∀j l,j<i->(As1 S)[j]?=some l->ahB S l=true)
  ⟨⟨_,_,rfl⟩,Same.refl _,by intro j l hj;lia⟩ (fun i σ H' _ ⟨_,s',_⟩=>SqT.of (s' _ _ ht)) ?_ ?_
 ·rintro i x σ H5 hi ⟨⟨v6,v7,rfl⟩,s5',inv5⟩;obtain⟨c,hc,rfl⟩:=Aac hi;obtain⟨l,hl,hcl,srt,ll⟩:=rows i c hc;have hc5:=s5' _ _ hcl;have vl:(vN l).length=l.length:=by unfold vN;rw[aaA]
  refine⟨_,rfl,c,_,rfl,.inl (SqL.of hc5),_,_,rfl,by rw[vl];lia,?_⟩;rw[vl];have en:((l.length:Int)-1).toNat=l.length-1:=by lia
  rw[en];refine Ac4 (n:=l.length-1) (fun j σ H'=>(∃v7:Option V,σ=[some (.ref d),some (.int S.w),some (.int S.h),v3,some (.ref jo),v5,some (.ref c),v7])/\Same H4 H'/\∀m a b,m<j->l[m]?=some a->l[m+1]?=some b->((a,b):Nat×Nat)∈S.lines)
   ⟨⟨_,rfl⟩,s5',by intro m a b hm;lia⟩ ?_ ?_
  ·rintro j σ H6 hj ⟨⟨v7,rfl⟩,s6,inv6⟩;obtain⟨a,ha⟩ : ∃a,l[j]?=some a:=⟨_,aaE (by lia)⟩
   obtain⟨b,hb⟩ : ∃b,l[j+1]?=some b:=⟨_,aaE (by lia)⟩
   have hc6:=s6 _ _ hcl;have va:(vN l)[j]?=some (V.int (a:Nat)):=by unfold vN;rw[aaH,ha];rfl
   have vb:(vN l)[j+1]?=some (V.int (b:Nat)):=by unfold vN;rw[aaH,hb];rfl
   refine⟨_,rfl,_,rfl,_,_,rfl,rfl,c,_,_,V.int (a:Nat),rfl,rfl,SqL.of hc6,Alg (j:=j) (by lia) va,_,rfl,_,rfl,c,_,_,V.int (b:Nat),rfl,rfl,SqL.of hc6,Alg (j:=j+1) (by lia) vb,sz2,fun u hu=>?_⟩;have s7:=s6.trans (Same.new (o:=.tup [.int (a:Nat),.int (b:Nat)]) hu);refine⟨_,rfl,jo,_,rfl,DGet.t (k:=wK (a,b)) (s7 _ _ hj4) Aa1,_,rfl,?_⟩;rw[has];refine Abj (fun e=>?_) (fun e=>?_)
   ·have s8:=(sH3.trans s4').trans s7;obtain⟨dx8,hd8⟩:=(D.same s8).ins;refine⟨_,rfl,d,dx8,_,rfl,hd8,noP,d,0,rfl,?_⟩;refine bad (fun z=>?_) _ s8;have:=(Ah4 srt).1 (((Agy S).1 z).2 l (aaJ hl)) j a b ha hb;rw[dft this]at e;cases e
   ·refine⟨⟨_,rfl⟩,s7,fun m a' b' hm ha' hb'=>?_⟩
    by_cases em:m=j
    ·subst em;rw[ha]at ha';rw[hb]at hb';cases ha';cases hb';apply acT;intro q;rw[dff q]at e;exact e rfl
    ·exact inv6 m a' b' (by lia) ha' hb'
  ·rintro σ H6 ⟨⟨v7,rfl⟩,s6,inv6⟩;refine⟨⟨_,_,rfl⟩,s6,fun j l' hj hl'=>?_⟩
   by_cases ej:j=i
   ·subst ej;rw[hl]at hl';cases hl';refine(Ah4 srt).2 fun m a b ha hb=>inv6 m a b ?_ ha hb;have:=(aaB.mp hb).1;lia
   ·exact inv5 j l' (by lia) hl'
 ·rintro σ H5 ⟨⟨v6,v7,rfl⟩,s5',inv5⟩;have:=k H5 ((sH3.trans s4').trans s5')
  have ok:agN S=true:=(Agy S).2 ⟨corners,fun l hl=>by
   obtain⟨j,hj⟩:=aeR.mp hl;refine inv5 j l ?_ hj;have:=(aaB.mp hj).1
   simpa [As1] using this⟩
  unfold frm at this;rw[ifp ok]at this;exact this
abbrev Aws:afD:=top Ahp
def headN:List (Nat×Nat×Nat×Nat):=[(4,4,16,1048575),(8,4,16,1048575),(12,2,4,4096),(14,2,4,8192),(16,2,1,2048),(18,2,0,0)]
def Ab3 (b:List UInt8)(n:Nat×Nat×Nat×Nat):Bool:=decide (aaW b n.1 n.2.1<n.2.2.1)||decide (n.2.2.2<aaW b n.1 n.2.1)
def told (b:List UInt8):Nat:=20+8*aaW b 12 2+4*aaW b 14 2+12*aaW b 16 2
def brk (b:List UInt8):Option (Nat×Nat) :=
 if b.length<20 then some (1,b.length)
 else if b.take 4≠ajK then some (1,0)
 else match headN.find? (Ab3 b) with
  | some n=>some (2,n.1)
  | none=>if b.length≠told b then some (3,20)else none
def prV:Option (Nat×Nat)->List V
 | some e=>[.int (e.1:Nat),.int (e.2:Nat)]
 | none=>[]
structure THead (K:abA)(mg:Str->Option aaF)(aH:Addr)(hs:List Addr):Prop where
 mH:mg "HEAD_NUMBERS" = some (.ref aH)
 sH:∀H,SqT K H aH (hs.map V.ref)
 len:hs.length=6
 at_:∀(i:Nat) (c:Addr),hs[i]?=some c->∃n,headN[i]?=some n/\∀H,SqT K H c [.int (n.1:Nat),.int (n.2.1:Nat),.int (n.2.2.1:Nat),.int (n.2.2.2:Nat)]
def Aq3 (K:abA):Sp:=fun vs H Q _=>∃(a:Addr) (b:List UInt8),vs=[.ref a]/\SqL K H a (vB b)/\b.length<=200000/\∀(H':Hp) (t:Addr),Same H H'->H' t=some (.tup (prV (brk b)))->Q (.ref t) H'
theorem Bez {xs:List V}(h:4<=xs.length):Asr xs none (some 4)=xs.take 4:=by
 have e1:HT.sIx xs.length 0 none=0:=rfl;have e2:HT.sIx xs.length xs.length (some 4)=4:=by simp[HT.sIx];lia
 unfold Asr;rw[e1,e2];rfl
theorem Art {n:Nat×Nat×Nat×Nat}(h:n∈headN):n.1+n.2.1<=20/\n.2.1<=8:=by
 simp only[headN,aaG,List.not_mem_nil,or_false]at h;rcases h with rfl | rfl | rfl | rfl | rfl | rfl<;>decide
theorem Ar9 (c0 c1 c2 c3:UInt8)(r:List UInt8):(!PyData.eqv (.tuple [.int (c0.toNat:Nat),.int (c1.toNat:Nat),.int (c2.toNat:Nat),.int (c3.toNat:Nat)]) (.tuple [.int 71,.int 76,.int 65,.int 49]))=decide ((c0::c1::c2::c3::r).take 4≠ajK):=by
 simp only[akD,PyData.eqvAll,ajK,List.take];rw[adC];have q:∀(c:UInt8) (n:Nat) (h:n<256),c=ajP n↔c.toNat=n:=fun c n h=>by
  rw[<-UInt8.toNat_inj];simp;lia
 have q0:=q c0 71 (by decide);have q1:=q c1 76 (by decide);have q2:=q c2 65 (by decide);have q3:=q c3 49 (by decide);simp only[UInt8.reduceOfNat]at q0 q1 q2 q3;simp[q0,q1,q2,q3];lia
theorem scHead:Aaa ["row","place","size","least","most","number"] ["row"] (Aa6 Aws):=fsc
theorem Axg {f fN fT fH fM aH:Addr}{hs:List Addr}{fd fdN fdT fdH fdM:aaX}(F:Def K mg "broken_head" Aws ["row"] f fd)(FT:Def K mg "bytes_told" At3 ["row"] fT fdT)(FH:Def K mg "head_of" Aeu ["row"] fH fdH)(FM:Def K mg "numbers_at" Ake ["row","place","sizes"] fM fdM)(FN:Def K mg "number_at" At4 ["row","place","size"] fN fdN)
 (TH:THead K mg aH hs) (nr:mg "range" = none) (nl:mg "len" = none) (c:Cst K mg) :
 FnOk P w K mg base CX0 5 f fd ["row"] (Aq3 K):=by
 have GN:FnOk P w K mg base CX0 1 fN fdN ["row","place","size"] (Awc K):=Avj FN nr;have GT:FnOk P w K mg base CX0 4 fT fdT ["row"] (Av5 K):=Ax7 FT FH FM FN nr nl c;obtain⟨aL,mL,sL⟩:=c.letters;obtain⟨t1,c1⟩:=c.head;have nt:=c.ntup;refine F.go scHead fun cdv A o s H vs Q E hr h=>?_;obtain⟨a,b,rfl,ha,bl,k⟩:=h;have hu64:=hr.units;have hr1:Room 1 _:=hr.mono (by decide)
 refine⟨_,Aa2 (Aav (Aak Acl (Aae Aad (by rfl) nl acB (Aa0 (pv 0) Aa3)) (Aaq (v:=.int 20) rfl c1 ⟨t1,rfl⟩) (Aan _)) (Aa4 (Aa9 (Abd (Aa0 Aa7 (Aa0 (Aae Aad (by rfl) nl acB (Aa0 (pv 0) Aa3)) Aa3))))) Aag)
  (Aa2 (Aav (Aak (Ba9 hu64) (Agf Aep (by rfl) nt (by decide +kernel) (Aa0 (Ana Awe (pv 0) Aqp (Aqo (Aae Aad (by rfl) nl acB (Aa0 (Aaq (v:=V.ref aL) rfl mL rfl) Aa3)))) Aa3)) (Aaq (v:=V.ref aL) rfl mL rfl) (Aan _)) (Aa4 (Aa9 (Abd (Aa0 Aa7 (Aa0 Aa7 Aa3))))) Aag)
  (Aa2 (Aao aaQ rfl (Akn (Aaq (v:=V.ref aH) rfl TH.mH rfl)) (Abi rfl (Aab (pG 1 scHead.nd) (Aab (pG 2 scHead.nd) (Aab (pG 3 scHead.nd) (Aab (pG 4 scHead.nd) Aax)))))
   (Aa2 (pS 5 scHead.nd (pCD FN GN hr1 (Aa0 (pv 0) (Aa0 (pv 1) (Aa0 (pv 2) Aa3)))))
   (Aa4 (Aav (PW.pt (Aof (Aak Acl (pv 5) (pv 3) (Aan _)) (Ai2 (Aak Adb (pv 5) (pv 4) (Aan _))))) (Aa4 (Aa9 (Abd (Aa0 Aa7 (Aa0 (pv 1) Aa3))))) Aag))))
  (Aa2 (Aav (Aak Baa (Aae Aad (by rfl) nl acB (Aa0 (pv 0) Aa3)) (pCD FT GT hr (Aa0 (pv 0) Aa3)) (Aan _)) (Aa4 (Aa9 (Abd (Aa0 Aa7 (Aa0 Aa7 Aa3))))) Aag)
  (Aa4 (Aa9 (Abd Aa3)))))),?_⟩
 have vl:(vB b).length=b.length:=by unfold vB;rw[aaA]
 refine⟨_,rfl,a,_,rfl,.inl (ha),_,_,rfl,rfl,_,rfl,?_⟩;rw[vl];refine Abj (fun e=>?_) (fun e=>?_)
 ·simp only[dtt]at e;have lt:b.length<20:=by lia
  refine⟨_,rfl,a,_,rfl,.inl (ha),sz2,fun t ht=>?_⟩;refine k _ t (Same.new ht) ?_;have eb:brk b=some (1,b.length):=by unfold brk;rw[ifp lt]
  rw[Aa1,eb,vl];rfl
 simp only[dtt]at e;have ge:20<=b.length:=by lia
 obtain⟨c0,c1,c2,c3,r,hb⟩ : ∃c0 c1 c2 c3 r,c0::c1::c2::c3::r=b:=by
  clear k ha
  match b,ge with
  | c0::c1::c2::c3::r,_=>exact⟨c0,c1,c2,c3,r,rfl⟩
 have ev:(vB b).take 4=[.int (c0.toNat:Nat),.int (c1.toNat:Nat),.int (c2.toNat:Nat),.int (c3.toNat:Nat)]:=by rw[<-hb];rfl
 refine⟨_,rfl,aL,_,rfl,.inr (sL _),4,rfl,a,_,rfl,ha,fun p hp=>?_⟩;rw[Bez (by rw[vl];lia),ev];refine⟨p,_,rfl,.inl ⟨SqL.of Aa1,fun q hq=>?_⟩⟩;have s1:=Same.new (o:=.lst [.int (c0.toNat:Nat),.int (c1.toNat:Nat),.int (c2.toNat:Nat),.int (c3.toNat:Nat)]) hp;have s2:=s1.trans (Same.new (o:=.tup [.int (c0.toNat:Nat),.int (c1.toNat:Nat),.int (c2.toNat:Nat),.int (c3.toNat:Nat)]) hq)
 refine⟨.tuple [.int (c0.toNat:Nat),.int (c1.toNat:Nat),.int (c2.toNat:Nat),.int (c3.toNat:Nat)],.tuple [.int 71,.int 76,.int 65,.int 49],
  .tup (SqT.of Aa1) (.cons (.int _) (.cons (.int _) (.cons (.int _) (.cons (.int _) .nil)))),.tup (sL _) (.cons (.int _) (.cons (.int _) (.cons (.int _) (.cons (.int _) .nil)))),rfl,rfl,_,rfl,?_⟩
 rw[Ar9 c0 c1 c2 c3 r,hb];refine Abj (fun e1=>?_) (fun e1=>?_)
 ·refine⟨sz2,fun t ht=>?_⟩;refine k _ t (s2.trans (Same.new ht)) ?_;have eb:brk b=some (1,0):=by unfold brk;rw[ifn (by lia),ifp (of_decide_eq_true e1)]
  rw[Aa1,eb];rfl
 have mg4:¬b.take 4≠ajK:=fun z=>e1 (dft z);generalize upd (upd H p _) q _=H2 at *;refine⟨aH,rfl,⟨_,TH.sH _⟩,?_⟩;refine Agz (K:=K) (a:=aH) (xs:=hs.map V.ref) (fun i σ H'=>(∃v1 v2 v3 v4 v5:Option V,σ=[some (.ref a),v1,v2,v3,v4,v5])/\H'=H2/\∀j n,j<i->headN[j]?=some n->Ab3 b n=false)
  ⟨⟨_,_,_,_,_,rfl⟩,rfl,by intro j n hj;lia⟩ (fun i σ H' _ _=>TH.sH _) ?_ ?_
 ·rintro i x σ H' hi ⟨⟨v1,v2,v3,v4,v5,rfl⟩,rfl,inv⟩;obtain⟨cc,hc,rfl⟩:=Aac hi;obtain⟨n,hn,sq⟩:=TH.at_ i cc hc;obtain⟨f1,f2⟩:=Art (aaJ hn);refine⟨cc,_,rfl,sq _,rfl,_,_,rfl,_,_,rfl,_,_,rfl,_,_,rfl,rfl,?_⟩;refine⟨_,rfl,_,rfl,_,rfl,a,b,n.1,n.2.1,rfl,s2.seq ha,by lia,f2,?_⟩;have hit:Ab3 b n=true->∀t,H' t=none->Q (.ref t) (upd H' t (.tup [.int 2,.int (n.1:Nat)])):=fun eb t ht=>by
   refine k _ t (s2.trans (Same.new ht)) ?_;have:headN.find? (Ab3 b)=some n:=by
    rw[ahD];obtain⟨hi',en⟩:=aaB.mp hn;refine⟨eb,i,hi',en,fun j hj=>?_⟩;rw[inv j _ hj (aaE (by lia))];rfl
   have eb:brk b=some (2,n.1):=by unfold brk;rw[ifn (by lia),ifn mg4,this]
   rw[Aa1,eb];rfl
  refine⟨_,rfl,_,rfl,_,_,rfl,rfl,_,rfl,?_⟩;refine Abj (fun e2=>?_) (fun e2=>?_)
  ·simp only[dtt]at e2;refine Arl ⟨_,rfl,sz2,hit ?_⟩;unfold Ab3;rw[dft (by lia)];rfl
  ·simp only[dtt]at e2;refine⟨_,rfl,_,rfl,_,_,rfl,rfl,_,rfl,?_⟩;refine Abj (fun e3=>?_) (fun e3=>?_)
   ·simp only[dtt]at e3;refine⟨_,rfl,sz2,hit ?_⟩;unfold Ab3;rw[dft (show n.2.2.2<_ by lia)];simp
   ·simp only[dtt]at e3;refine⟨⟨_,_,_,_,_,rfl⟩,rfl,fun j m hj hm=>?_⟩
    by_cases ej:j=i
    ·subst ej;rw[hn]at hm;cases hm;unfold Ab3;rw[dff (by lia),dff (by lia)];rfl
    ·exact inv j m (by lia) hm
 rintro σ H' ⟨⟨v1,v2,v3,v4,v5,rfl⟩,rfl,inv⟩;have none':headN.find? (Ab3 b)=none:=by
  rw[adN];intro n hn;obtain⟨j,hj⟩:=aeR.mp hn;rw[inv j n (by rw[aaA,TH.len];exact(aaB.mp hj).1) hj];simp
 refine⟨_,rfl,a,_,rfl,.inl (s2.seq ha),_,rfl,a,b,rfl,s2.seq ha,ge,fun H5 s5=>⟨rfl,_,rfl,?_⟩⟩;rw[vl];refine Abj (fun e2=>?_) (fun e2=>?_)
 ·refine⟨sz2,fun t ht=>?_⟩;refine k _ t ((s2.trans s5).trans (Same.new ht)) ?_;have e3:(!decide (V.int ((b.length:Nat):Int)=V.int ((told b:Nat):Int)))=true:=e2;have nq:b.length≠told b:=fun z=>by
   rw[<-z,dft rfl]at e3;cases e3
  have eb:brk b=some (3,20):=by unfold brk;rw[ifn (by lia),ifn mg4,none'];simp only[];rw[ifp nq]
  rw[Aa1,eb];rfl
 ·refine⟨abO _,fun t ht=>?_⟩;refine k _ t ((s2.trans s5).trans (Same.new ht)) ?_;have nq:¬b.length≠told b:=fun z=>by
   apply e2;show(!decide (V.int ((b.length:Nat):Int)=V.int ((told b:Nat):Int)))=true;rw[dff (fun q=>z (by injection q with q;lia))];rfl
  have eb:brk b=none:=by unfold brk;rw[ifn (by lia),ifn mg4,none'];simp only[];rw[ifn nq]
  rw[Aa1,eb];rfl
def Aze (Kn:Addr->Sp->Prop)(E:XK)(tf:TE)(t:TA):TE:=fun σ H Q=>tf σ H fun v H1=>∃f sp,v=.ref f/\Kn f sp/\t σ H1 fun vs H2=>sp vs H2 Q E
theorem Atk {X:Cx}{CX:CXT}{k:Nat}{ps:List Str}{E:XK}{x:Str}{p pos:Pos}{e:adX}{es:List adX}{tf:TE}{t:TA}(Kn:Addr->Sp->Prop)
 (OK:∀f sp,Kn f sp->∃fd k',k'<=k/\FnOk X.prog X.w X.K X.mg X.base CX k' f fd ps sp/\agE X.K (.ref f)=true/\Binds X.K fd ps []) (hr:Room k X.A) (hx:Ah9 CX X E) (hn:PE X (.Name x p) tf)
 (ha:PA X (e::es) t) (he:abL (e::es) X.env=(false,eval e X.env)::abL es X.env:=by rfl) (hpl:(afI pos (abL es X.env)).any (·.1)=false:=by rfl) :
 PE X (.Call (.Name x p) (e::es) [] pos) (Aze Kn E tf t):=by
 intro p_ s σ H Q I h;refine wpAny_Call_Name_kw (thn (hn p_ s σ H _ I h) fun v s1 ⟨y,H1,I1,r1,q1⟩=>?_);obtain⟨f,sp,rfl,kn,q⟩:=q1;cases r1;obtain⟨fd,k',kl,F,hk,hb⟩:=OK f sp kn;refine ajO (h₀:=X.base) I1.ok.mod.kin hk (thn (ha pos p_ s1 σ H1 _ I1 q) fun us s2 ⟨vs,H2,I2,r,q2⟩=>⟨I2.kIn,?_⟩) he hpl;exact Aqd (dvs:=[]) F (hr.mono kl) hb .nil hx I2 r (by rw[aeD];exact q2)
abbrev Awu:afD:=top Af4
structure Aha where
 pre:Plan->Prop
 r:Plan->Option Nat
def Alk:Nat->List Aha->Plan->Option (Nat×Nat)
 | _,[],_=>none
 | n,l::ls,S=>match l.r S with
  | some p=>some (n,p)
  | none=>Alk (n+1) ls S
def Ayu (S:Plan):List Aha->Prop
 | []=>True
 | l::ls=>l.pre S/\(l.r S=none->Ayu S ls)
structure Aw1 (K:abA)(mg:Str->Option aaF)(Kn:Addr->Sp->Prop)(C:Addr)(aD:Addr)(rs:List Addr)(ls:List Aha):Prop where
 mD:mg "DRAWING_RULES" = some (.ref aD)
 sD:∀H,SqT K H aD (rs.map V.ref)
 len:rs.length=ls.length
 at_:∀(i:Nat) (c:Addr),rs[i]?=some c->∃l f,ls[i]?=some l/\Kn f (Aea C l.pre l.r)/\∀H,SqT K H c [.int ((4+i:Nat):Int),.ref f]
def Aq7 (C:Addr)(ls:List Aha):Sp:=fun vs H Q _=>∃(d:Addr) (S:Plan) (pa la ma:Addr) (as lls ms:List Addr),vs=[.ref d]/\DrawAt C H d S pa la ma as lls ms/\Ayu S ls/\∀(H':Hp) (t:Addr),Same H H'->H' t=some (.tup (prV (Alk 4 ls S)))->Q (.ref t) H'
theorem Ah7 {S:Plan}:∀(n i:Nat) (ls:List Aha),(∀j l,j<i->ls[j]?=some l->l.r S=none)->i<=ls.length->Alk n ls S=Alk (n+i) (ls.drop i) S
 | n,0,ls,_,_=>rfl
 | n,i+1,[],_,h=>by simp at h
 | n,i+1,l::ls,no,h=>by
  have e:=no 0 l (by lia) rfl;have ih:=Ah7 (n+1) i ls (fun j l' hj hl=>no (j+1) l' (by lia) hl) (by simpa using h);show(match l.r S with | some p=>some (n,p) | none=>Alk (n+1) ls S)=_;rw[e];show Alk (n+1) ls S=_;rw[ih,aoD,show n+1+i=n+(i+1)by lia]
theorem Akk {S:Plan}:∀(i:Nat) (ls:List Aha),Ayu S ls->(∀j l,j<i->ls[j]?=some l->l.r S=none)->Ayu S (ls.drop i)
 | 0,ls,h,_=>h
 | i+1,[],_,_=>trivial
 | i+1,l::ls,h,no=>Akk i ls (h.2 (no 0 l (by lia) rfl)) (fun j l' hj hl=>no (j+1) l' (by lia) hl)
theorem scBrkD:Aaa ["drawing","rule","look","place"] ["drawing"] (Aa6 Awu):=fsc
theorem Axk {f C aD:Addr}{rs:List Addr}{ls:List Aha}{fd:aaX}{k0:Nat}(Kn:Addr->Sp->Prop)(OK:∀f sp,Kn f sp->∃fd k',k'<=k0/\FnOk P w K mg base CX0 k' f fd ["drawing"] sp/\agE K (.ref f)=true/\Binds K fd ["drawing"] [])
 (F:Def K mg "broken_drawing" Awu ["drawing"] f fd) (TL:Aw1 K mg Kn C aD rs ls):FnOk P w K mg base CX0 (k0+1) f fd ["drawing"] (Aq7 C ls):=by
 refine F.go scBrkD fun cdv A o s H vs Q E hr h=>?_;obtain⟨d,S,pa,la,ma,as,lls,ms,rfl,D,pr,k⟩:=h
 refine⟨_,Aa2 (Aao aaQ rfl (Akn (Aaq (v:=V.ref aD) rfl TL.mD rfl)) (Abi rfl (Aab (pG 1 scBrkD.nd) (Aab (pG 2 scBrkD.nd) Aax)))
  (Aa2 (pS 3 scBrkD.nd (Atk Kn OK hr Abm (pv 2) (Aa0 (pv 0) Aa3)))
  (Aa4 (Aav (Aak Ax4 (pv 3) Acy (Aan _)) (Aa4 (Aa9 (Abd (Aa0 (pv 1) (Aa0 (pv 3) Aa3))))) Aag))))
  (Aa4 (Aa9 (Abd Aa3))),?_⟩
 refine⟨aD,rfl,⟨_,TL.sD _⟩,?_⟩;refine Agz (K:=K) (a:=aD) (xs:=rs.map V.ref) (fun i σ H'=>(∃v1 v2 v3:Option V,σ=[some (.ref d),v1,v2,v3])/\Same H H'/\∀j l,j<i->ls[j]?=some l->l.r S=none)
  ⟨⟨_,_,_,rfl⟩,Same.refl _,by intro j l hj;lia⟩ (fun i σ H' _ _=>TL.sD _) ?_ ?_
 ·rintro i x σ H' hi ⟨⟨v1,v2,v3,rfl⟩,s1,inv⟩;obtain⟨c,hc,rfl⟩:=Aac hi;obtain⟨l,f',hl,kn,sq⟩:=TL.at_ i c hc;have il:=(aaB.mp hl).1;have ed:ls.drop i=l::ls.drop (i+1):=by
   rw[amK il,(aaB.mp hl).2]
  have eb:=Ah7 (S:=S) 4 i ls inv (by lia);have pl:=Akk i ls pr inv;rw[ed]at eb pl;refine⟨c,_,rfl,sq _,rfl,_,_,rfl,_,_,rfl,rfl,?_⟩;refine⟨_,rfl,f',_,rfl,kn,_,rfl,d,S,pa,la,ma,as,lls,ms,rfl,D.same s1,pl.1,fun H2 s2=>?_⟩;have s12:=s1.trans s2;refine⟨_,rfl,rfl,_,rfl,?_⟩;cases q:l.r S with
  | some p =>
   refine Arl ?_;refine⟨_,rfl,_,rfl,sz2,fun t ht=>?_⟩;refine k _ t (s12.trans (Same.new ht)) ?_;have:Alk 4 ls S=some (4+i,p):=by
    rw[eb];show(match l.r S with | some p=>some (4+i,p) | none=>_)=_;rw[q]
   rw[Aa1,this];rfl
  | none =>
   refine Ali ⟨⟨_,_,_,rfl⟩,s12,fun j l' hj hl'=>?_⟩
   by_cases ej:j=i
   ·subst ej;rw[hl]at hl';cases hl';exact q
   ·exact inv j l' (by lia) hl'
 ·rintro σ H' ⟨⟨v1,v2,v3,rfl⟩,s1,inv⟩;rw[aaA,TL.len]at inv;refine⟨abO _,fun t ht=>?_⟩;refine k _ t (s1.trans (Same.new ht)) ?_;have eb:=Ah7 (S:=S) 4 ls.length ls inv (aaK _);rw[aiU]at eb;rw[Aa1,eb];rfl
def Ask (C:Addr)(H:Hp)(v:Addr)(l:List Int)(dr pn:V):Prop:=∃dx ra,H v=some (.ins C dx (vfs (.ref ra) dr pn))/\H ra=some (.lst (l.map V.int))
theorem RefAt.verd {C:Addr}{H:Hp}{v:Addr}{l:List Int}(h:RefAt C H v l):∃pa,Ask C H v l .non (.ref pa):=let ⟨dx,ra,pa,a,b,_⟩:=h;⟨pa,dx,ra,a,b⟩
def Aq4 (K:abA)(C:Addr)(rf:List UInt8->List Int)(More:Hp->List UInt8->V->V->Prop):Sp:=fun vs H Q _=>∃(a:Addr) (b:List UInt8),vs=[.ref a]/\SqL K H a (vB b)/\b.length<=200000/\
 ∀(H':Hp) (v:Addr) (dr pn:V),Same H H'->Ask C H' v (rf b) dr pn->(rf b=[]->More H' b dr pn)->Q (.ref v) H'
abbrev Awq:afD:=top Ahn
def Apy (K:abA):Sp:=fun vs H Q _=>∃(a:Addr) (b:List UInt8),vs=[.ref a]/\SqL K H a (vB b)/\Q (.bl (decide (131072<b.length))) H
theorem Azr:Aaa ["row"] ["row"] (Aa6 Awq):=fsc
theorem Axd {f:Addr}{fd:aaX}(F:Def K mg "is_too_long" Awq ["row"] f fd)(nl:mg "len" = none)(mb:∃t,mg "MOST_BYTES" = some (.int 131072 t)):FnOk P w K mg base CX0 1 f fd ["row"] (Apy K):=by
 obtain⟨tk,mb⟩:=mb;refine F.go Azr fun cdv A o s H vs Q E hr h=>?_;obtain⟨a,b,rfl,ha,k⟩:=h;have vl:(vB b).length=b.length:=by unfold vB;rw[aaA]
 refine⟨_,Aa4 (Aa9 (Age Adb (Aae Aad (by rfl) nl acB (Aa0 (pv 0) Aa3)) (Aaq (v:=V.int 131072) rfl mb ⟨_,rfl⟩) (Aan _))),?_⟩;refine⟨_,rfl,a,_,rfl,.inl ha,_,_,rfl,rfl,?_⟩;have e:decide ((131072:Int)<((vB b).length:Nat))=decide (131072<b.length):=by rw[vl];exact decide_eq_decide.mpr (by lia)
 rw[<-e]at k;exact k
abbrev Awt:afD:=top Aov
theorem Aur {b:List UInt8}(h:brk b=none):b.length=told b/\aaW b 12 2<=4096/\aaW b 14 2<=8192/\aaW b 16 2<=2048:=by
 unfold brk at h
 by_cases h1:b.length<20
 ·rw[ifp h1]at h;cases h
 rw[ifn h1]at h
 by_cases h2:b.take 4≠ajK
 ·rw[ifp h2]at h;cases h
 rw[ifn h2]at h;cases q:headN.find? (Ab3 b) with
 | some n=>rw[q]at h;cases h
 | none =>
  rw[q]at h
  by_cases h3:b.length≠told b
  ·simp only[]at h;rw[ifp h3]at h;cases h
  rw[adN]at q;have g:=fun n hn=>q n hn;have g1:=g (12,2,4,4096) (by decide);have g2:=g (14,2,4,8192) (by decide);have g3:=g (16,2,1,2048) (by decide);simp[Ab3]at g1 g2 g3;exact⟨by lia,by lia,by lia,by lia⟩
def Aki (e:Nat×Nat):List Int:=[-5,(e.1:Nat),(e.2:Nat)]
def Apd (ls:List Aha)(rfP:Plan->List Int)(b:List UInt8):List Int :=
 if 131072<b.length then [-6] else match brk b with
  | some e=>Aki e
  | none=>match Alk 4 ls (acD b) with
   | some e=>Aki e
   | none=>rfP (acD b)
def Alp (C CV:Addr)(Ass:Plan->Prop)(rfP:Plan->List Int)(Ajz:Hp->Plan->V->V->Prop):Sp:=fun vs H Q _=>∃(d:Addr) (S:Plan) (pa la ma:Addr) (as ls ms:List Addr),vs=[.ref d]/\DrawAt C H d S pa la ma as ls ms/\Ass S/\
 ∀(H':Hp) (v:Addr) (dr pn:V),Same H H'->Ask CV H' v (rfP S) dr pn->(rfP S=[]->Ajz H' S dr pn)->Q (.ref v) H'
structure Kwn (P:abS)(w:adI)(K:abA)(mg:Str->Option aaF)(base:Heap)(k0:Nat)(nm:Str)(ps:List Str)(sp:Sp)(f:Addr)(fd:aaX):Prop where
 ok:FnOk P w K mg base CX0 k0 f fd ps sp
 mg:mg nm=some (.ref f)
 kp:agE K (.ref f)=true
 b:Binds K fd ps []
theorem pCK {X:Cx}{x:Str}{e:adX}{es:List adX}{t:TA}{pos pos':Pos}{k:Nat}{f:Addr}{fd:aaX}{ps:List Str}{sp:Sp}(G:Kwn X.prog X.w X.K X.mg X.base k x ps sp f fd)(hr:Room k X.A)(ha:PA X (e::es) t)(hg:Gl X x:=by rfl)(hdb:(x==("__debug__" : Str))=false:=by decide)(he:abL (e::es) X.env=(false,eval e X.env)::abL es X.env:=by rfl)(hpl:(afI pos (abL es X.env)).any (·.1)=false:=by rfl) :
 PE X (.Call (.Name x pos') (e::es) [] pos) (Aiq sp [] E0 t):=Aly G.ok hr hg G.mg G.kp G.b .nil Abm ha hdb he hpl
theorem scExam:Aaa ["row","broken","drawing"] ["row"] (Aa6 Awt):=fsc
theorem Axi {f fI C CV fH fR fB fP fX fL:Addr}{fd fdI fdH fdR fdB fdP fdX fdL:aaX}{k0:Nat}{ls:List Aha}{Ass:Plan->Prop}{rfP:Plan->List Int}{Ajz:Hp->Plan->V->V->Prop}
 (F:Def K mg "examine" Awt ["row"] f fd) (FI:Fun K "__init__" "Verdict.__init__" Ai1 fI fdI) (bI:Binds K fdI ["self","refusal","drawing","panes"] []) (M:Mk K CV fI) (mC:mg "Verdict" = some (.ref CV)) (T:Ap9 K CV)
 (kI:2<=k0) (GH:Kwn P w K mg base k0 "broken_head" ["row"] (Aq3 K) fH fdH) (GX:Kwn P w K mg base k0 "refused" ["rule","place"] (Apt CV) fX fdX) (GR:Kwn P w K mg base k0 "read_drawing" ["row"] (Apu K C) fR fdR)
 (GB:Kwn P w K mg base k0 "broken_drawing" ["drawing"] (Aq7 C ls) fB fdB) (GP:Kwn P w K mg base k0 "judge_panes" ["drawing"] (Alp C CV Ass rfP Ajz) fP fdP)
 (GL:Kwn P w K mg base k0 "is_too_long" ["row"] (Apy K) fL fdL) (hL:∀b,brk b=none->Ayu (acD b) ls) (hP:∀b,brk b=none->Alk 4 ls (acD b)=none->Ass (acD b)) :
 FnOk P w K mg base CX0 (k0+1) f fd ["row"] (Aq4 K CV (Apd ls rfP) fun H b dr pn=>Ajz H (acD b) dr pn):=by
 have GI:FnOk P w K mg base CX0 1 fI fdI ["self","refusal","drawing","panes"] (Aiv CV):=Aj8 FI T;refine F.go scExam fun cdv A o s H vs Q E hr h=>?_;obtain⟨a,b,rfl,ha,bl,k⟩:=h;have hr2:Room 2 _:=hr.mono kI
 refine⟨_,Aa2 (Aav (Ad6 (pCK GL hr (Aa0 (pv 0) Aa3)))
  (Aa4 (Aa9 (Agd M GI hr2 rfl mC bI .nil Abm (Aa0 (Abb (Aa0 (Alw Ag5 Aa7) Aa3)) (Aa0 Acy (Aa0 (Abb Aa3) Aa3)))))) Aag)
  (Aa2 (pS 1 scExam.nd (pCK GH hr (Aa0 (pv 0) Aa3)))
  (Aa2 (Aav (Aed (pv 1) (fun _=>rfl)) (Aa4 (Aa9 (pCK GX hr (Aa0 (pIT (pv 1) Aa7) (Aa0 (pIT (pv 1) Aa7) Aa3))))) Aag)
  (Aa2 (pS 2 scExam.nd (pCK GR hr (Aa0 (pv 0) Aa3)))
  (Aa2 (pS 1 scExam.nd (pCK GB hr (Aa0 (pv 2) Aa3)))
  (Aa2 (Aav (Aed (pv 1) (fun _=>rfl)) (Aa4 (Aa9 (pCK GX hr (Aa0 (pIT (pv 1) Aa7) (Aa0 (pIT (pv 1) Aa7) Aa3))))) Aag)
  (Aa4 (Aa9 (pCK GP hr (Aa0 (pv 2) Aa3))))))))),?_⟩
 have vl:(vB b).length=b.length:=by unfold vB;rw[aaA]
 have refd:∀(e:Nat×Nat),Apd ls rfP b=Aki e->∀(H':Hp) (v:Addr),Same H H'->RefAt CV H' v [-5,(e.1:Nat),(e.2:Nat)]->Q (.ref v) H':=fun e ee H' v s' rr=>by
  obtain⟨pa,vd⟩:=rr.verd;refine k H' v .non (.ref pa) s' (by rw[ee];exact vd) (fun z=>?_);rw[ee]at z;cases z
 refine⟨_,rfl,a,b,rfl,ha,_,rfl,?_⟩;refine Abj (fun e=>?_) (fun e=>?_)
 ·simp only[dtt]at e;have er:Apd ls rfP b=[-6]:=by unfold Apd;rw[ifp (by lia)]
  refine⟨_,rfl,sz1,fun ra hra=>?_⟩;have s1:=Same.new (o:=.lst [.int (-6)]) hra;refine⟨abO _,fun pa hpa=>?_⟩;have s2:=s1.trans (Same.new (o:=.lst []) hpa);intro x dx hx hdx ne;refine⟨x,dx,.ref ra,.non,.ref pa,rfl,Aa1,fun H4 hd keep=>⟨rfl,?_⟩⟩;have s34:=Same.made hx hdx keep;refine k H4 x .non (.ref pa) (s2.trans s34) ⟨dx,ra,hd,s34 _ _ ?_⟩ (fun z=>by rw[er]at z;cases z);rw[er];exact Same.new hpa _ _ Aa1
 simp only[dtt]at e;have small':¬131072<b.length:=by lia
 refine⟨_,rfl,a,b,rfl,ha,bl,fun H1 t s1 ht=>?_⟩;refine⟨_,rfl,_,.inr (.inl ⟨_,SqT.of ht,rfl⟩),?_⟩;cases q:brk b with
 | some e1 =>
  rw[q]at ht;refine Arl ?_;refine⟨_,rfl,t,_,_,_,rfl,rfl,SqT.of ht,rfl,_,rfl,t,_,_,_,rfl,rfl,SqT.of ht,rfl,_,_,rfl,fun H2 v s2 rr=>?_⟩;exact refd e1 (by unfold Apd;rw[ifn small',q]) H2 v (s1.trans s2) rr
 | none =>
  refine Ali ?_;obtain⟨b1,b2,b3,b4⟩:=Aur q;refine⟨_,rfl,a,b,rfl,s1.seq ha,b1,b2,b3,b4,fun H2 d pa la ma as lls ms s2 D=>?_⟩;refine⟨_,rfl,d,_,pa,la,ma,as,lls,ms,rfl,D,hL b q,fun H3 t3 s3 ht3=>?_⟩;refine⟨_,rfl,_,.inr (.inl ⟨_,SqT.of ht3,rfl⟩),?_⟩;have s13:=(s1.trans s2).trans s3;cases q2:Alk 4 ls (acD b) with
  | some e1 =>
   rw[q2]at ht3;refine Arl ?_;refine⟨_,rfl,t3,_,_,_,rfl,rfl,SqT.of ht3,rfl,_,rfl,t3,_,_,_,rfl,rfl,SqT.of ht3,rfl,_,_,rfl,fun H4 v s4 rr=>?_⟩;exact refd e1 (by unfold Apd;rw[ifn small',q];simp only[];rw[q2]) H4 v (s13.trans s4) rr
  | none =>
   refine Ali ?_;have er:Apd ls rfP b=rfP (acD b):=by unfold Apd;rw[ifn small',q];simp only[];rw[q2]
   refine⟨_,rfl,d,_,pa,la,ma,as,lls,ms,rfl,D.same s3,hP b q q2,fun H4 v dr pn s4 vd mo=>?_⟩;exact k H4 v dr pn (s13.trans s4) (by rw[er];exact vd) (fun z=>mo (by rw[<-er];exact z))
abbrev Awo:afD:=top Ahk
def wI (e:Nat×Nat):List Int:=[(e.1:Int),(e.2:Int)]
theorem Ajc (a b:Nat×Nat):G.ltI (wI a) (wI b)=decide (a.1<b.1\/(a.1=b.1/\a.2<b.2)):=by
 have e:G.ltI (wI a) (wI b)=(decide ((a.1:Int)<b.1)||(!decide ((b.1:Int)<a.1)&&(decide ((a.2:Int)<b.2)||(!decide ((b.2:Int)<a.2)&&false)))):=rfl;rw[e,adC];simp;lia
theorem Als {st:List (Nat×Nat)}(nd:st.Nodup)(h:(st.map wI).Pairwise (fun a b=>G.ltI b a=false)):st.Pairwise Pg.lexLt:=by
 rw[adL]at h;have:=abQ.1 nd;refine(h.and this).imp ?_;rintro a b ⟨h1,h2⟩;rw[Ajc,decide_eq_false_iff_not]at h1;unfold Pg.lexLt;have:¬(a.1=b.1/\a.2=b.2):=fun q=>h2 (ahX q.1 q.2);lia
structure RowsAt (H:Hp)(rs:List Addr)(O:List (List Nat)):Prop where
 len:rs.length=O.length
 at_:∀(i:Nat) (c:Addr),rs[i]?=some c->∃l,O[i]?=some l/\H c=some (.lst (vN l))
theorem RowsAt.same {H H':Hp}{rs:List Addr}{O:List (List Nat)}(e:Same H H')(h:RowsAt H rs O):RowsAt H' rs O :=
 ⟨h.len,fun i c hc=>let ⟨l,a,b⟩:=h.at_ i c hc;⟨l,a,e _ _ b⟩⟩
theorem RowsAt.keep {H H':Hp}{rs:List Addr}{O:List (List Nat)}(e:∀c,c∈rs->∀o,H c=some o->H' c=some o)(h:RowsAt H rs O):RowsAt H' rs O :=
 ⟨h.len,fun i c hc=>let ⟨l,a,b⟩:=h.at_ i c hc;⟨l,a,e c (aaJ hc) _ b⟩⟩
theorem RowsAt.push {H:Hp}{rs:List Addr}{O:List (List Nat)}{p:Addr}{l:List Nat}(h:RowsAt H rs O)(hp:H p=some (.lst (vN l))):RowsAt H (rs++[p]) (O++[l]):=by
 refine⟨by rw[aaM,aaM,h.len];rfl,fun j c hc=>?_⟩
 by_cases ej:j<rs.length
 ·rw[acL ej]at hc;obtain⟨m,em,hm⟩:=h.at_ j c hc;exact⟨m,by rw[acL (by rw[<-h.len];exact ej)];exact em,hm⟩
 ·have:=(aaB.mp hc).1;simp at this;have:j=rs.length:=by lia
  subst this;simp at hc;subst hc;exact⟨l,by rw[h.len,agB (aaK _)];simp,hp⟩
def Apw (C:Addr):Sp:=fun vs H Q _=>∃(d:Addr) (S:Plan) (pa la ma:Addr) (as ls ms:List Addr),vs=[.ref d]/\DrawAt C H d S pa la ma as ls ms/\Pg.Rules S/\
 ∀(H':Hp) (p:Addr) (rs:List Addr) (O:List (List Nat)),Same H H'->H p=none->H' p=some (.lst (rs.map V.ref))->RowsAt H' rs O->O.length<=20000->O.Nodup->(∀l,l∈O↔l∈S.outlines)->(∀l,l∈O->l≠[]/\(∀x,x∈l->x<S.pts.length)/\l.length<=20000)->Q (.ref p) H'
theorem Ail (S:Plan):(anE S).length=2*S.lines.length:=by
 unfold anE;rw[List.length_flatMap]
 induction S.lines with
 | nil=>rfl
 | cons a r ih=>simp only[abE,amS,aaZ,adO]at *;lia
theorem mem_ways {S:Plan}{e:Nat×Nat}(h:Pg.adj S e.1 e.2):e∈anE S:=by
 unfold anE;rw[adG];rcases h with h | h
 ·exact⟨_,h,by simp⟩
 ·exact⟨_,h,by simp⟩
structure OutS (S:Plan)(done:List (Nat×Nat))(z:List (Nat×Nat)×List (List Nat)):Prop where
 inv:Pg.OutInv S done z
 nod:z.1.Nodup
 adj:∀x,x∈z.1->Pg.adj S x.1 x.2
 len:z.2.length<=done.length
 row:∀l,l∈z.2->∃s:Nat×Nat,Pg.adj S s.1 s.2/\l=Pg.Vs S s
theorem OutS.dis {S:Plan}(r:Pg.Rules S){done:List (Nat×Nat)}{z:List (Nat×Nat)×List (List Nat)}{s:Nat×Nat}(I:OutS S done z)(ad:∀x,x∈done->Pg.adj S x.1 x.2)(as:Pg.adj S s.1 s.2)(h:s∉z.1):∀x,x∈Pg.orb S s->x∉z.1:=fun x hx hz=>by
 obtain⟨t,ht,hxt⟩:=(I.inv.gone x).1 hz;exact h ((I.inv.gone s).2 ⟨t,ht,r.orb_trans (ad t ht) hxt (r.orb_back as hx)⟩)
theorem OutS.step {S:Plan}(r:Pg.Rules S){st done rest:List (Nat×Nat)}{s:Nat×Nat}{z:List (Nat×Nat)×List (List Nat)}(e:st=done++s::rest)(so:st.Pairwise Pg.lexLt)(mem:∀x,x∈st↔Pg.adj S x.1 x.2)(I:OutS S done z):OutS S (done++[s]) (Pg.outStep S z s):=by
 have as:Pg.adj S s.1 s.2:=(mem s).1 (by rw[e];simp);have ad:∀x,x∈done->Pg.adj S x.1 x.2:=fun x hx=>(mem x).1 (by rw[e];simp[hx]);refine⟨I.inv.step r e so mem,?_,?_,?_,?_⟩
 ·unfold Pg.outStep
  by_cases g:s∈z.1
  ·rw[ifp g];exact I.nod
  ·rw[ifn g];show(z.1++Pg.orb S s).Nodup;rw[aeM];exact⟨I.nod,r.orb_nodup as,fun a ha b hb q=>I.dis r ad as g b hb (by rw[<-q];exact ha)⟩
 ·unfold Pg.outStep
  by_cases g:s∈z.1
  ·rw[ifp g];exact I.adj
  ·rw[ifn g];intro x hx;rcases abH.1 hx with q | q
   ·exact I.adj x q
   ·exact r.orb_adj as q
 ·have:=I.len;unfold Pg.outStep;rw[aaM]
  by_cases g:s∈z.1
  ·rw[ifp g];lia
  ·rw[ifn g];dsimp only
   split
   ·rw[aaM];simp;lia
   ·lia
 ·unfold Pg.outStep
  by_cases g:s∈z.1
  ·rw[ifp g];exact I.row
  ·rw[ifn g];dsimp only
   split
   ·intro l hl;rcases abH.1 hl with q | q
    ·exact I.row l q
    ·rw[abF]at q;exact⟨s,as,q⟩
   ·exact I.row
theorem OutS.bound {S:Plan}{done:List (Nat×Nat)}{z:List (Nat×Nat)×List (List Nat)}(I:OutS S done z):z.1.length<=2*S.lines.length:=by
 rw[<-Ail];exact Pg.len_le I.nod fun x hx=>mem_ways (I.adj x hx)
theorem Ajy {S:Plan}(r:Pg.Rules S){s:Nat×Nat}(as:Pg.adj S s.1 s.2):Pg.Vs S s≠[]/\(∀x,x∈Pg.Vs S s->x<S.pts.length)/\(Pg.Vs S s).length<=2*S.lines.length:=by
 refine⟨fun h=>?_,fun x hx=>?_,?_⟩
 ·have:=r.orb_self as;unfold Pg.Vs at h;rw[List.map_eq_nil_iff]at h;rw[h]at this;cases this
 ·unfold Pg.Vs at hx;obtain⟨e,he,rfl⟩:=aaN.1 hx;rcases r.orb_adj as he with q | q
  ·have:=r.lin _ q;simp only at this;lia
  ·have:=r.lin _ q;simp only at this;lia
 ·unfold Pg.Vs;rw[aaA,<-Ail];exact Pg.len_le (r.orb_nodup as) fun x hx=>mem_ways (r.orb_adj as hx)
theorem scOuts:Aaa ["drawing","follow","gone","outlines","step","outline"] ["drawing"] (Aa6 Awo):=fsc
theorem Axb {f fS fW fA fC fk fG fF fT C:Addr}{fd fdS fdW fdA fdC fdK fdG fdF fdT:aaX}(F:Def K mg "outlines_of" Awo ["drawing"] f fd)(FS:Def K mg "steps_behind" An1 ["drawing"] fS fdS)(FW:Def K mg "walk" At2 ["follow","start","gone"] fW fdW)(FA:Def K mg "twice_area" At6 ["corners"] fA fdA)(FC:Def K mg "corners_of" Aqc ["drawing","outline"] fC fdC)
 (FK:Def K mg "links_of" Aec ["drawing"] fk fdK) (FG:Def K mg "ring_of" Aoc ["points","middle","numbers"] fG fdG) (FF:Def K mg "leftward" Aoe ["points","middle","numbers"] fF fdF) (FT:Def K mg "turn_of" Acz ["p","q","r"] fT fdT) (T:Ac7 K C) (nl:mg "len" = none) (ne:mg "enumerate" = none) (ns:mg "sorted" = none) :
 FnOk P w K mg base CX0 5 f fd ["drawing"] (Apw C):=by
 have GS:FnOk P w K mg base CX0 4 fS fdS ["drawing"] (Apr C):=Atq FS FK FG FF FT T nl ne;have GW:FnOk P w K mg base CX0 1 fW fdW ["follow","start","gone"] Av4:=Ax6 FW;have GA:FnOk P w K mg base CX0 1 fA fdA ["corners"] Ava:=Axl FA;have GC:FnOk P w K mg base CX0 1 fC fdC ["drawing","outline"] (Ak7 C):=Aqz FC T;refine F.go scOuts fun cdv A o s H vs Q E hr h=>?_;obtain⟨d,S,pa,la,ma,as_,ls,ms,rfl,D,r,k⟩:=h
 have hr1:Room 1 _:=hr.mono (by decide);have hu:=Agv hr
 refine⟨_,Aa2 (pS 1 scOuts.nd (pCD FS GS hr (Aa0 (pv 0) Aa3)))
  (Aa2 (pS 2 scOuts.nd Aee)
  (Aa2 (pS 3 scOuts.nd (Abb Aa3))
  (Aa2 (Aao aaQ rfl (Aaw (Aae (Aju rfl) (by rfl) ns (by decide +kernel) (Aa0 (pv 1) Aa3))) (pG 4 scOuts.nd)
   (Aa4 (Aav (Ai4 (Ada hu (pv 4) (pv 2)))
    (Aa2 (pS 5 scOuts.nd (pCD FW GW hr1 (Aa0 (pv 1) (Aa0 (pv 4) (Aa0 (pv 2) Aa3)))))
    (Aa4 (Aav (Aak Adb (pCD FA GA hr1 (Aa0 (pCD FC GC hr1 (Aa0 (pv 0) (Aa0 (pv 5) Aa3))) Aa3)) Aa7 (Aan _))
     (Aa4 (Abc (Ad9 abK acG acF Ab7 (pv 3) (Aa0 (pv 5) Aa3)))) Aag))) Aag)))
  (Aa4 (Aa9 (pv 3)))))),?_⟩
 refine⟨_,rfl,d,S,pa,la,ma,as_,ls,ms,rfl,D,r,fun H1 fo kvs Ew s1 hfo FO ek nE mE=>?_⟩;refine fun g hg=>⟨abO _,fun p hp=>?_⟩
 have s2:Same H1 (upd H1 g (.dT [])):=Same.new hg;have s3:Same H1 (upd (upd H1 g (.dT [])) p (.lst [])):=s2.trans (Same.new hp);have hg3:upd (upd H1 g (.dT [])) p (.lst []) g=some (.dT []):=(Same.new hp) _ _ Aa1;have hp3:upd (upd H1 g (.dT [])) p (.lst []) p=some (.lst []):=Aa1;have p1:H1 p=none:=s2.free hp;generalize upd (upd H1 g (.dT [])) p (.lst [])=H3 at *;have ek2:kvs.map (·.1)=(Ew.map wI).map (·.map adD):=by rw[ek,acC];rfl
 refine⟨_,rfl,fo,kvs,Ew.map wI,rfl,s3 _ _ FO.dic,ek2,(fun e he=>by obtain⟨x,_,rfl⟩:=aaN.1 he;simp[wI]),fun q l hq pm kl pw=>?_⟩;obtain⟨st,pst,est⟩:=G.perm_map_inv pm Ew rfl;have nst:st.Nodup:=pst.nodup_iff.mpr nE;have so:st.Pairwise Pg.lexLt:=Als nst (by rw[<-est,adL];exact pw);have mem:∀x,x∈st↔Pg.adj S x.1 x.2:=fun x=>(pst.mem_iff).trans (mE x);have q1:H1 q=none:=s3.free hq
 have s4:Same H3 (upd H3 q (.lst (l.map fun x=>V.ref x.1))):=Same.new hq;have hg4:=s4 _ _ hg3;have hp4:=s4 _ _ hp3;have hq4:upd H3 q (.lst (l.map fun x=>V.ref x.1)) q=some (.lst (l.map fun x=>V.ref x.1)):=Aa1;have kl4:Abr (upd H3 q (.lst (l.map fun x=>V.ref x.1))) l:=fun x hx=>⟨s4 _ _ (kl x hx).1,(kl x hx).2⟩
 have s14:=s3.trans s4;generalize upd H3 q (.lst (l.map fun x=>V.ref x.1))=H4 at *;have pq:p≠q:=fun z=>by rw[z]at hp3;rw[hp3]at hq;cases hq
 have pg:p≠g:=Ac2 hp4 hg4 (by intro z;cases z);have qg:q≠g:=Ac2 hq4 hg4 (by intro z;cases z);have stl:st.length<=2*S.lines.length:=by rw[<-Ail];exact Pg.len_le nst fun x hx=>mem_ways ((mem x).1 hx)
 have nL:=D.nL;have ll:l.length=st.length:=by have:=congrArg afK est;simpa using this
 refine⟨q,rfl,⟨_,SqL.of hq4⟩,Abn (K:=K) (a:=q) (xs:=l.map fun x=>V.ref x.1) (fun i σ H'=>(∃v4 v5:Option V,σ=[some (.ref d),some (.ref fo),some (.ref g),some (.ref p),v4,v5])/\Same H1 H'/\H' q=some (.lst (l.map fun x=>V.ref x.1))/\Abr H' l/\
  ∃(z:List (Nat×Nat)×List (List Nat)) (rs:List Addr),OutS S (st.take i) z/\H' g=some (.dT (gK z.1))/\H' p=some (.lst (rs.map V.ref))/\RowsAt H' rs z.2)
  ⟨⟨_,_,rfl⟩,s14,hq4,kl4,([],[]),[],⟨⟨by simp,by simp,by simp⟩,by simp,by simp,by simp,by simp⟩,hg4,hp4,rfl,by simp⟩ (fun i σ H' _ ⟨_,_,h,_⟩=>SqL.of h) ?_ ?_⟩
 ·rintro i x σ H' hi ⟨⟨v4,v5,rfl⟩,sH,hqH,klH,z,rs,OI,hgH,hpH,RA⟩;rw[aaH]at hi;cases hli:l[i]? with
  | none=>rw[hli]at hi;cases hi
  | some c =>
   rw[hli]at hi;cases hi;have il:=(aaB.mp hli).1;obtain⟨stp,hst⟩ : ∃e,st[i]?=some e:=⟨_,aaE (by lia)⟩
   have ec:c.2=wI stp:=by
    have:=congrArg (fun y=>y[i]?) est;simp only[aaH,hli,hst]at this;exact abD this
   have lnc:LnAt H' c.1 stp:=by
    have:=(klH c (aaJ hli)).1;rw[ec]at this;exact this
   have as:Pg.adj S stp.1 stp.2:=(mem stp).1 (aaJ hst);have est2:st=st.take i++stp::st.drop (i+1):=by
    rw[<-Adu hst,afW]
   have ad:∀x,x∈st.take i->Pg.adj S x.1 x.2:=fun x hx=>(mem x).1 (afF hx);have OI2:=OI.step r est2 so mem;rw[<-Aai hst]at OI2;have zb:=OI.bound;refine⟨_,rfl,_,rfl,g,_,rfl,DGet.t hgH lnc.key,_,rfl,?_⟩;rw[Al1];refine Abj (fun e=>?_) (fun e=>?_)
   ·have ng:stp∉z.1:=by simpa using e
    have dis:=OI.dis r ad as ng;have vf:=Ajy r as;refine⟨_,rfl,_,rfl,_,rfl,fo,c.1,g,S,kvs,stp,z.1,rfl,r,by lia,⟨sH _ _ FO.dic,fun u v huv=>let ⟨b,hb,lb⟩:=FO.val u v huv;⟨b,hb,sH _ _ lb⟩⟩,lnc,as,hgH,Aa8 FO.dic hg,dis,by lia,fun H5 o keep ho hov hg5=>?_⟩;have k5:Same H1 H5:=fun b u hb=>keep b u (sH b u hb) (fun z=>by rw[z,hg]at hb;cases hb);have hp5:=keep p _ hpH pg;have hq5:=keep q _ hqH qg
    have D5:=D.same (s1.trans k5);have row5:RowsAt H5 rs z.2:=RA.keep fun b hb u hu=>keep b u hu fun zz=>by
     obtain⟨j,hj⟩:=aeR.1 hb;obtain⟨m,_,hm⟩:=RA.at_ j b hj;rw[zz,hgH]at hm;cases hm
    refine⟨_,rfl,_,rfl,d,o,Pg.Vs S stp,S,pa,la,ma,as_,ls,ms,rfl,D5,hov,vf.2.1,by lia,fun H6 pc cs s6 hpc hcs pts=>?_⟩;obtain⟨lst,hlst⟩ : ∃x,((Pg.Vs S stp).map S.pt)[((Pg.Vs S stp).map S.pt).length-1]?=some x:=by
     have:(Pg.Vs S stp).length≠0:=fun z=>vf.1 (aiN.mp z);exact⟨_,aaE (by rw[aaA];lia)⟩
    refine⟨pc,cs,_,lst,rfl,hcs,pts,hlst,?_,?_⟩
    ·intro x hx;obtain⟨y,hy,rfl⟩:=aaN.1 hx;exact(D.pt (vf.2.1 y hy)).choose_spec.2.2
    rw[Ayi S hlst];refine⟨_,_,rfl,rfl,_,rfl,?_⟩;have row6:=row5.same s6;have hp6:=s6 _ _ hp5;have hq6:=s6 _ _ hq5;have hg6:=s6 _ _ hg5;have k6:=k5.trans s6;have kl6:Abr H6 l:=fun x hx=>⟨s6 _ _ (keep _ _ (klH x hx).1 (Ac2 (klH x hx).1 hgH (by intro z;cases z))),(klH x hx).2⟩
    refine Abj (fun e2=>?_) (fun e2=>?_)
    ·have pos:0<akJ S (Pg.Vs S stp):=by simpa using e2
     have ez:Pg.outStep S z stp=(z.1++Pg.orb S stp,z.2++[Pg.Vs S stp]):=by unfold Pg.outStep;rw[ifn ng,ifp pos]
     rw[ez]at OI2;have o6:=s6 _ _ hov;refine⟨_,rfl,.inl ⟨rfl,_,SqL.of hp6⟩,_,rfl,p,_,_,rfl,rfl,hp6,?_,⟨_,_,rfl⟩,?_,?_,?_,(z.1++Pg.orb S stp,z.2++[Pg.Vs S stp]),rs++[o],OI2,?_,?_,?_⟩
     ·rw[aaA,row6.len];have:=OI.len;rw[abJ]at this;exact szN (by lia)
     ·intro b u hb;rw[Aa5 (Aa8 hb p1)];exact k6 b u hb
     ·rw[Aa5 (acU pq)];exact hq6
     ·intro x hx;refine⟨?_,(kl6 x hx).2⟩;rw[Aa5 (Ac2 (kl6 x hx).1 hp6 (by intro z;cases z))];exact(kl6 x hx).1
     ·rw[Aa5 (acU pg)];exact hg6
     ·rw[Aa1,aaU];rfl
     ·have ne0:∀(c:Addr) (m:List Nat),m≠[]->H6 c=some (.lst (vN m))->c≠p:=fun c m hm hc zz=>by
       rw[zz,hp6]at hc;injection hc with hc
       injection hc with hc
       cases m with
       | nil=>exact hm rfl
       | cons a b =>
        cases rs with
        | nil=>cases hc
        | cons a' b'=>injection hc with hc _;cases hc
      have rowp:RowsAt H6 (rs++[o]) (z.2++[Pg.Vs S stp]):=row6.push o6;refine rowp.keep fun b hb u hu=>?_;obtain⟨j,hj⟩:=aeR.1 hb;obtain⟨m,em,hm⟩:=rowp.at_ j b hj;obtain⟨sx,ax,rfl⟩:=OI2.row m (aaJ em);rw[Aa5 (ne0 b _ (Ajy r ax).1 hm)];exact hu
    ·have npos:¬0<akJ S (Pg.Vs S stp):=by simpa using e2
     have ez:Pg.outStep S z stp=(z.1++Pg.orb S stp,z.2):=by unfold Pg.outStep;rw[ifn ng,ifn npos]
     rw[ez]at OI2;exact⟨⟨_,_,rfl⟩,k6,hq6,kl6,(z.1++Pg.orb S stp,z.2),rs,OI2,hg6,hp6,row6⟩
   ·have yg:stp∈z.1:=by
     cases q:decide (stp∈z.1) with
     | true=>exact of_decide_eq_true q
     | false=>rw[q]at e;exact absurd rfl e
    have ez:Pg.outStep S z stp=z:=by unfold Pg.outStep;rw[ifp yg]
    rw[ez]at OI2;exact⟨⟨_,_,rfl⟩,sH,hqH,klH,z,rs,OI2,hgH,hpH,RA⟩
 ·rintro σ H' ⟨⟨v4,v5,rfl⟩,sH,hqH,klH,z,rs,OI,hgH,hpH,RA⟩;rw[aaA,ll,acA]at OI;have fin:∀l,l∈z.2↔l∈S.outlines:=fun l=>by
   rw[OI.inv.mem,r.mem_outlines];constructor
   ·rintro⟨a,ha,b⟩;exact⟨a,(mem a).1 ha,b⟩
   ·rintro⟨a,ha,b⟩;exact⟨a,(mem a).2 ha,b⟩
  refine⟨_,rfl,k H' p rs z.2 (s1.trans sH) (s1.free p1) hpH RA ?_ OI.inv.nod fin ?_⟩
  ·have:=OI.len;lia
  ·intro l hl;obtain⟨sx,ax,rfl⟩:=OI.row l hl;have:=Ajy r ax;exact⟨this.1,this.2.1,by lia⟩
abbrev sJP:afD:=top Ahm
def rfP (S:Plan):List Int:=match aiL S S.outlines 0 [] S.marks with
 | some i=>Aki (12,afN S i)
 | none=>if S.marks.length<S.outlines.length then Aki (13,S.size)else []
def Ass (S:Plan):Prop:=Pg.Rules S/\∀m,m∈S.marks->akK S m.at_=true
def Ajz (C:Addr)(H:Hp)(S:Plan)(dr pn:V):Prop:=∃(d p pa la ma:Addr) (as ls ms rs:List Addr) (O:List (List Nat)),dr=.ref d/\pn=.ref p/\DrawAt C H d S pa la ma as ls ms/\H p=some (.lst (rs.map V.ref))/\RowsAt H rs O/\S.panes=O.map some/\
 Ass S/\S.marks.length=S.outlines.length/\O.Nodup/\(∀l,l∈O↔l∈S.outlines)/\∀l,l∈O->l≠[]/\(∀x,x∈l->x<S.pts.length)/\l.length<=20000
theorem ShAt.push {H:Hp}{rs:List Addr}{qs:List (List Pt)}{c:Addr}{q:List Pt}{cs:List Addr}{l:Pt}(h:ShAt H rs qs)(h1:H c=some (.lst (cs.map V.ref)))(h2:PtsAt H cs q)(h3:q[q.length-1]?=some l)(h4:∀p,p∈q->Abk p):ShAt H (rs++[c]) (qs++[q]):=by
 refine⟨by rw[aaM,aaM,h.len];rfl,fun j b hb=>?_⟩
 by_cases ej:j<rs.length
 ·rw[acL ej]at hb;obtain⟨q',cs',l',a,r⟩:=h.at_ j b hb;exact⟨q',cs',l',by rw[acL (by rw[<-h.len];exact ej)];exact a,r⟩
 ·have:=(aaB.mp hb).1;simp at this;have:j=rs.length:=by lia
  subst this;simp at hb;subst hb;exact⟨q,cs,l,by rw[h.len,agB (aaK _)];simp,h1,h2,h3,h4⟩
theorem ShAt.lst {H:Hp}{rs:List Addr}{qs:List (List Pt)}{D:Addr}{o l0:List V}(h:ShAt H rs qs)(hD:H D=some (.lst l0))(nD:∀c,c∈rs->c≠D):ShAt (upd H D (.lst o)) rs qs :=
 ⟨h.len,fun j b hb=>by
  obtain⟨q',cs',l',a,h1,h2,r⟩:=h.at_ j b hb;refine⟨q',cs',l',a,by rw[Aa5 (nD b (aaJ hb))];exact h1,⟨h2.len,fun i c hc=>?_⟩,r⟩;obtain⟨p,e,rr,hp⟩:=h2.at_ i c hc
  exact⟨p,e,rr,by rw[Aa5 (Ac2 hp hD (by intro z;cases z))];exact hp⟩⟩
def shp (S:Plan)(O:List (List Nat)):List (List Pt):=O.map fun l=>l.map S.pt
theorem Ay0 {S:Plan}{O:List (List Nat)}{z:Pt}{k:Nat}(hk:k<O.length)(ne:∀l,l∈O->l≠[])(h1:anY S O[k] z=true)(h2:∀j (hj:j<k),anY S (O[j]'(by lia)) z=false):Arq z (shp S O)=(k:Nat):=by
 unfold Arq;rw[Afl (i:=k) (x:=O[k].map S.pt) (by unfold shp;rw[aaH,aaE hk];rfl) (by rw[Arp S z (ne _ (acX hk))];exact h1) (fun j y hj hy=>?_)];unfold shp at hy;rw[aaH,aaE (show j<O.length by lia)]at hy;cases hy;rw[Arp S z (ne _ (acX _))];exact h2 j hj
theorem Ahu (S:Plan)(all:List (List Nat))(i:Nat)(had:List (Option (List Nat)))(m:Mark)(r:List Mark):aiL S all i had (m::r)=if had.contains (S.among all m.at_)=true then some i else aiL S all (i+1) (S.among all m.at_::had) r:=rfl
structure MarkI (S:Plan)(O:List (List Nat))(i:Nat)(ks:List Nat):Prop where
 len:ks.length=i
 nod:ks.Nodup
 lt:∀k,k∈ks->k<O.length
 eq:(S.marks.take i).map (fun m=>S.among S.outlines m.at_)=ks.map fun k=>some (O.getD k [])
 tw:aiL S S.outlines i ((ks.map fun k=>some (O.getD k [])).reverse) (S.marks.drop i)=aiL S S.outlines 0 [] S.marks
theorem MarkI.has {S:Plan}{O:List (List Nat)}{i k:Nat}{ks:List Nat}(M:MarkI S O i ks)(nO:O.Nodup)(hk:k<O.length):((ks.map fun k=>some (O.getD k [])).reverse).contains (some O[k])=decide (k∈ks):=by
 rw[adC,aeU,aiR,aaN,dtt];constructor
 ·rintro⟨j,hj,e⟩;have lj:=M.lt j hj;have e:=abD e;rw[abN,aaE lj]at e;have:j=k:=Au1 nO (aaE lj) (by rw[aaE hk,<-e];rfl);rw[<-this];exact hj
 ·intro h;exact⟨k,h,by rw[abN,aaE hk];rfl⟩
theorem Af8 {O:List (List Nat)}{k:Nat}(hk:k<O.length):O.getD k []=O[k]:=by rw[abN,aaE hk];rfl
theorem MarkI.hit {S:Plan}{O:List (List Nat)}{i k:Nat}{ks:List Nat}{m:Mark}(M:MarkI S O i ks)(nO:O.Nodup)(hk:k<O.length)(hm:S.marks[i]?=some m)(ha:S.among S.outlines m.at_=some O[k])(h:k∈ks):aiL S S.outlines 0 [] S.marks=some i:=by
 rw[<-M.tw,Adu hm,Ahu,ha,M.has nO hk,dft h,ifp rfl]
theorem MarkI.miss {S:Plan}{O:List (List Nat)}{i k:Nat}{ks:List Nat}{m:Mark}(M:MarkI S O i ks)(nO:O.Nodup)(hk:k<O.length)(hm:S.marks[i]?=some m)(ha:S.among S.outlines m.at_=some O[k])(h:k∉ks):MarkI S O (i+1) (ks++[k]):=by
 refine⟨by rw[aaM,M.len];rfl,?_,?_,?_,?_⟩
 ·rw[aeM];exact⟨M.nod,by simp,fun a ha b hb q=>h (by rw[abF]at hb;rw[<-hb,<-q];exact ha)⟩
 ·intro x hx;rcases abH.1 hx with q | q
  ·exact M.lt x q
  ·rw[abF]at q;rw[q];exact hk
 ·rw[Aai hm,aaU,aaU,M.eq];simp only[abE,agM,ha,Af8 hk]
 ·rw[<-M.tw,Adu hm,Ahu,ha,M.has nO hk,dff h,ifn abG,aaU,ahQ];simp only[abE,agM,aiI,List.reverse_nil,ajF,adP,Af8 hk]
theorem MarkI.done {S:Plan}{O:List (List Nat)}{ks:List Nat}(M:MarkI S O S.marks.length ks):aiL S S.outlines 0 [] S.marks=none/\S.panes=(ks.map fun k=>O.getD k []).map some:=by
 constructor
 ·rw[<-M.tw,aiU];rfl
 ·have:=M.eq;rw[acA]at this;unfold Gla.Plan.panes;rw[acC];exact this
theorem MarkI.all {S:Plan}{O:List (List Nat)}{n:Nat}{ks:List Nat}(M:MarkI S O n ks)(nO:O.Nodup)(mO:∀l,l∈O↔l∈S.outlines)(h:¬n<O.length) :
 n=O.length/\(ks.map fun k=>O.getD k []).Nodup/\(∀l,l∈(ks.map fun k=>O.getD k [])↔l∈S.outlines)/\∀l,l∈(ks.map fun k=>O.getD k [])->l∈O:=by
 have sub:∀k,k∈ks->k∈aaT O.length:=fun k hk=>abT.2 (M.lt k hk);have le:=Pg.len_le M.nod sub;rw[acK,M.len]at le;have en:n=O.length:=by lia
 have all:∀k,k<O.length->k∈ks:=fun k hk=>by
  apply acT;intro nk
  have:=Pg.len_le (l:=k::ks) (m:=aaT O.length) (abR.2 ⟨nk,M.nod⟩) (fun x hx=>by
   rcases aaG.1 hx with q | q
   ·rw[q];exact abT.2 hk
   ·exact sub x q)
  rw[acK,aaZ,M.len]at this;lia
 have toO:∀l,l∈(ks.map fun k=>O.getD k [])->l∈O:=fun l hl=>by
  obtain⟨k,hk,rfl⟩:=aaN.1 hl;rw[Af8 (M.lt k hk)];exact acX _
 refine⟨en,?_,fun l=>⟨fun hl=>(mO l).1 (toO l hl),fun hl=>?_⟩,toO⟩
 ·rw[abQ,adL];refine afY ?_ (abQ.1 M.nod);intro a b ha hb ne q;rw[Af8 (M.lt a ha),Af8 (M.lt b hb)]at q;exact ne (Au1 nO (aaE (M.lt a ha)) (by rw[aaE (M.lt b hb),<-q]))
 ·obtain⟨k,hk,ek⟩:=abX.1 ((mO l).2 hl);exact aaN.2 ⟨k,all k hk,by rw[Af8 hk];exact ek⟩
def Be9:Scope:={ kind:=.function,names:=[(aaY ".0",.local),(aaY "outline",.local),(aaY "corners_of",.globalImplicit),(aaY "drawing",.free)],isGenerator:=false,isCoroutine:=false }
theorem scJP:Aaa ["drawing","outlines","shapes","marked","panes","number","mark","found","outline"] ["drawing"] (Aa6 sJP):=fsc
theorem Bf1:Ase ["drawing","outlines","shapes","marked","panes","number","mark","found","outline"] (Aa6 sJP) Be9 [("outline",8)]=true:=by decide +kernel
theorem Bcx {f fO fC fH fX fI C CV fP fL fM:Addr}{fd fdO fdC fdH fdX fdI fdP fdL fdM:aaX}{k0:Nat}(F:Def K mg "judge_panes" sJP ["drawing"] f fd)(k5:3<=k0)(GO:Kwn P w K mg base k0 "outlines_of" ["drawing"] (Apw C) fO fdO)(GC:Kwn P w K mg base k0 "corners_of" ["drawing","outline"] (Ak7 C) fC fdC)
 (GH:Kwn P w K mg base k0 "holder_of" ["shapes","spot"] Aq2 fH fdH) (GX:Kwn P w K mg base k0 "refused" ["rule","place"] (Apt CV) fX fdX) (FI:Fun K "__init__" "Verdict.__init__" Ai1 fI fdI) (bI:Binds K fdI ["self","refusal","drawing","panes"] []) (M:Mk K CV fI) (mC:mg "Verdict" = some (.ref CV)) (TV:Ap9 K CV)
 (TM:TMeth K mg C fP fL fM fdP fdL fdM) (ne:mg "enumerate" = none):FnOk P w K mg base CX0 (k0+1) f fd ["drawing"] (Alp C CV Ass rfP (Ajz C)):=by
 have GI:FnOk P w K mg base CX0 1 fI fdI ["self","refusal","drawing","panes"] (Aiv CV):=Aj8 FI TV;have GM:FnOk P w K mg base CX0 3 fM fdM ["self","number"] (Amy C):=Aqw TM.FM TM.FL TM.bL TM.mL TM.FP TM.bP TM.mP TM.T TM.c TM.nl;have T:=TM.T;refine F.go scJP fun cdv A o s H vs Q E hr h=>?_;obtain⟨d,S,pa,la,ma,as,ls,ms,rfl,D,pre,k⟩:=h;have hr3:Room 3 _:=hr.mono k5;have hr2:Room 2 _:=hr.mono (by lia)
 have hu:=Agv hr
 refine⟨_,Aa2 (pS 1 scJP.nd (pCK GO hr (Aa0 (pv 0) Aa3)))
  (Aa2 (Adm (i:=2) (te:=Aiq (Ak7 C) [] E0 (Ab6 (Abv 0) (Ab6 (Abv 8) Ahb))) (own:=[("outline",8)]) rfl scJP.nd rfl rfl (Aes rfl rfl rfl rfl) (Aaw (pv 1)) (Abu Bf1) (fun _ _ _ _ _=>pG 8 scJP.nd) (fun _ _ _ _ _=>Ad5)
   (fun _ _ _ _ _=>pCK GC hr (Aa0 (pv 0) (Aa0 (pv 8) Aa3))))
  (Aa2 (pS 3 scJP.nd Ati)
  (Aa2 (pS 4 scJP.nd (Abb Aa3))
  (Aa2 (Aao aaQ rfl (Ac0 rfl ne (Aa0 (Aaj (pv 0) rfl) Aa3)) (Abi rfl (Aab (pG 5 scJP.nd) (Aab (pG 6 scJP.nd) Aax)))
   (Aa2 (pS 7 scJP.nd (pCK GH hr (Aa0 (pv 2) (Aa0 (pv 6) Aa3))))
   (Aa2 (Aav (Ai4 (Ba6 hu (pv 7) (pv 3))) (Aa4 (Aa9 (pCK GX hr (Aa0 Aa7 (Aa0 (Ab2 (pv 0) T.cl TM.mM GM hr3 TM.bM .nil Abm (Aa0 (pv 5) Aa3)) Aa3))))) Aag)
   (Aa2 (Ad8 hu (pv 3) (pv 7) Acs rfl)
   (Aa4 (Abc (Ad9 abK acG acF Ab7 (pv 4) (Aa0 (pIL (pv 1) (pv 7)) Aa3))))))))
  (Aa2 (Aav (Aak Acl (Aae Aad (by rfl) TM.nl acB (Aa0 (pv 4) Aa3)) (Aae Aad (by rfl) TM.nl acB (Aa0 (pv 1) Aa3)) (Aan _))
   (Aa4 (Aa9 (pCK GX hr (Aa0 Aa7 (Aa0 (Ab2 (pv 0) T.cl TM.mM GM hr3 TM.bM .nil Abm (Aa0 (Aae Aad (by rfl) TM.nl acB (Aa0 (Aaj (pv 0) rfl) Aa3)) Aa3)) Aa3))))) Aag)
  (Aa4 (Aa9 (Agd M GI hr2 rfl mC bI .nil Abm (Aa0 (Abb Aa3) (Aa0 (pv 0) (Aa0 (pv 4) Aa3))))))))))),?_⟩
 obtain⟨r,clr⟩:=pre;refine⟨_,rfl,d,S,pa,la,ma,as,ls,ms,rfl,D,r,fun H1 po ro O s1 hpo1 hpo RA lO nO mO fO=>?_⟩;refine⟨_,rfl,po,rfl,⟨_,SqL.of hpo⟩,fun sh hsh=>?_⟩;refine Adf (K:=K) (a:=po) (xs:=ro.map V.ref) (fun i H'=>∃ss:List Addr,Same H1 H'/\H' sh=some (.lst (ss.map V.ref))/\ShAt H' ss (shp S (O.take i))/\∀c,c∈ss->c≠sh)
  ⟨[],Same.new hsh,Aa1,⟨rfl,by simp⟩,by simp⟩ (fun i H' _ ⟨_,s2,_⟩=>SqL.of (s2 _ _ hpo)) ?_ ?_
 ·rintro i y H' hi ⟨ss,s2,hs2,SH,nsh⟩;obtain⟨c,hc,rfl⟩:=Aac hi;obtain⟨l,hl,hcl⟩:=RA.at_ i c hc;have il:=(aaB.mp hl).1;obtain⟨f1,f2,f3⟩:=fO l (aaJ hl);refine⟨rfl,?_⟩;unfold Asw;dsimp only
  first | rw[ifp rfl] | rw[ifp trivial]
  refine⟨_,rfl,_,rfl,d,c,l,S,pa,la,ma,as,ls,ms,rfl,D.same (s1.trans s2),s2 _ _ hcl,f2,f3,fun H3 p cs s3 hp hcs pts=>?_⟩;have psh:p≠sh:=fun z=>by rw[z,hs2]at hp;cases hp
  obtain⟨lst,hlst⟩ : ∃x,(l.map S.pt)[(l.map S.pt).length-1]?=some x:=by
   have:l.length≠0:=fun z=>f1 (aiN.mp z);exact⟨_,aaE (by rw[aaA];lia)⟩
  have sm:∀p,p∈l.map S.pt->Abk p:=fun x hx=>by
   obtain⟨y,hy,rfl⟩:=aaN.1 hx;exact(D.pt (f2 y hy)).choose_spec.2.2
  have nss:∀c,c∈ss++[p]->c≠sh:=fun c hc=>by
   rcases abH.1 hc with q | q
   ·exact nsh c q
   ·rw[abF]at q;rw[q];exact psh
  refine⟨_,s3 _ _ hs2,?_,ss++[p],Same.grow s2 hsh s3,?_,?_,nss⟩
  ·rw[aaA,SH.len];unfold shp;rw[aaA,abJ];exact szN (by lia)
  ·rw[Aa1,aaU];rfl
  ·have:=(SH.same s3).push hcs pts hlst sm;rw[Aai hl];unfold shp;rw[aaU];exact this.lst (s3 _ _ hs2) nss
 ·rintro H2 ⟨ss,s2,hs2,SH,nsh⟩;rw[aaA,RA.len,acA]at SH;refine fun mk hmk=>⟨abO _,fun pn hpn=>?_⟩
  have s3:Same H2 (upd H2 mk (.dK [])):=Same.new hmk;have s4:Same H2 (upd (upd H2 mk (.dK [])) pn (.lst [])):=s3.trans (Same.new hpn);have hmk4:upd (upd H2 mk (.dK [])) pn (.lst []) mk=some (.dK (fK [])):=(Same.new hpn) _ _ Aa1;have hpn4:upd (upd H2 mk (.dK [])) pn (.lst []) pn=some (.lst (([]:List Nat).map fun k=>V.ref (ro.getD k 0))):=Aa1;have hpn2:H2 pn=none:=s3.free hpn;generalize upd (upd H2 mk (.dK [])) pn (.lst [])=H4 at *
  have s12:=s1.trans s2;have s14:=s12.trans s4;have D4:=D.same s14;obtain⟨dx4,hd4⟩:=D4.ins
  refine⟨_,rfl,d,C,dx4,_,_,rfl,hd4,T.cl,T.nM,Amk _ _ _ _ _,ma,_,rfl,SqL.of D4.mks,Abo (K:=K) (a:=ma) (xs:=ms.map V.ref) (fun i σ H'=>(∃v5 v6 v7 v8:Option V,σ=[some (.ref d),some (.ref po),some (.ref sh),some (.ref mk),some (.ref pn),v5,v6,v7,v8])/\Same H2 H'/\
   ∃ks:List Nat,MarkI S O i ks/\H' mk=some (.dK (fK ks))/\H' pn=some (.lst (ks.map fun k=>V.ref (ro.getD k 0))))
   ⟨⟨_,_,_,_,rfl⟩,s4,[],⟨rfl,by simp,by simp,by simp,by simp⟩,hmk4,hpn4⟩ (fun i σ H' _ ⟨_,s5,_⟩=>SqL.of (s5 _ _ (s12 _ _ D.mks))) ?_ ?_⟩
  ·rintro i x σ H' t hi ⟨⟨v5,v6,v7,v8,rfl⟩,s5,ks,MI,hmkH,hpnH⟩ ht;obtain⟨c,hc,rfl⟩:=Aac hi;obtain⟨m,hm,hcm⟩:=D.mksX.at_ i c hc;have st:=Same.new (o:=.tup [.int (i:Nat),.ref c]) ht;have s6:=s5.trans st;have hmk6:=st _ _ hmkH;have hpn6:=st _ _ hpnH;refine⟨t,_,rfl,SqT.of Aa1,rfl,_,_,rfl,_,_,rfl,rfl,?_⟩;generalize upd H' t (.tup [.int (i:Nat),.ref c])=H6 at *;obtain⟨kk,hkk,am,h1,h2⟩:=Pg.among_at r nO mO (clr m (aaJ hm))
   have hol:=Ay0 (S:=S) (O:=O) hkk (fun l hl=>(fO l hl).1) h1 h2;have pc:PtAt H6 c m.at_:=⟨_,(s12.trans s6) _ _ hcm⟩
   refine⟨_,rfl,_,rfl,sh,c,ss,shp S O,m.at_,rfl,s6 _ _ hs2,SH.same s6,pc,fun H7 s7=>?_⟩;rw[hol];have hmk7:=s7 _ _ hmk6;have hpn7:=s7 _ _ hpn6;have s27:=s6.trans s7;refine⟨_,rfl,_,rfl,mk,_,rfl,DGet.k (k:=adD (kk:Int)) hmk7,_,rfl,?_⟩;rw[Al4];refine Abj (fun e=>?_) (fun e=>?_)
   ·have hin:kk∈ks:=of_decide_eq_true e;have tw:=MI.hit nO hkk hm am hin;have er:rfP S=Aki (12,afN S i):=by unfold rfP;rw[tw]
    obtain⟨dx7,hd7⟩:=(D.same (s12.trans s27)).ins;refine⟨_,rfl,d,dx7,_,rfl,hd7,Ac5 _ _ _ _ _,_,rfl,d,i,S,pa,la,ma,as,ls,ms,rfl,D.same (s12.trans s27),12,_,rfl,fun H8 v s8 rr=>?_⟩;obtain⟨pv',vd⟩:=RefAt.verd rr;refine k H8 v .non (.ref pv') ((s12.trans s27).trans s8) (by rw[er];exact vd) (fun z=>by rw[er]at z;cases z)
   ·have nin:kk∉ks:=fun z=>e (dft z);have MI2:=MI.miss nO hkk hm am nin;obtain⟨ck,hck⟩ : ∃ck,ro[kk]?=some ck:=⟨_,aaE (by rw[RA.len];exact hkk)⟩
    have mkl:=MI.len;have il:=(aaB.mp hm).1;have nM:=D.nM;refine⟨_,rfl,_,rfl,mk,_,rfl,DPut.k (k:=adD (kk:Int)) hmk7 ?_,?_⟩
    ·unfold fK;rw[aaA];exact szN (by lia)
    rw[Avr nin];have mkn:H2 mk=none:=hmk;have npm:pn≠mk:=Ac2 hpn7 hmk7 (by intro z;cases z);have hpn8:upd H7 mk (.dK (fK (ks++[kk]))) pn=some (.lst (ks.map fun k=>V.ref (ro.getD k 0))):=by rw[Aa5 npm];exact hpn7
    have s28:Same H2 (upd H7 mk (.dK (fK (ks++[kk])))):=fun b u hb=>by rw[Aa5 (Aa8 hb mkn)];exact s27 b u hb
    refine⟨_,rfl,.inl ⟨rfl,_,SqL.of hpn8⟩,_,rfl,_,rfl,po,_,_,V.ref ck,rfl,rfl,SqL.of (s28 _ _ (s2 _ _ hpo)),atr hck,pn,_,_,rfl,rfl,hpn8,?_,⟨_,_,_,_,rfl⟩,?_,ks++[kk],MI2,?_,?_⟩
    ·rw[aaA];exact szN (by lia)
    ·intro b u hb;rw[Aa5 (Aa8 hb hpn2)];exact s28 b u hb
    ·rw[Aa5 (acU npm),Aa1]
    ·rw[Aa1,aaU];show _=some (HO.lst (_++[V.ref (ro.getD kk 0)]));rw[Afy hck]
  ·rintro σ H' ⟨⟨v5,v6,v7,v8,rfl⟩,s5,ks,MI,hmkH,hpnH⟩;rw[aaA,D.mksX.len]at MI;obtain⟨tw,pns⟩:=MI.done;have ol:=Pg.outs_len r nO mO;have s15:=s12.trans s5;refine⟨_,rfl,pn,_,rfl,.inl (SqL.of hpnH),_,rfl,po,_,rfl,.inl (SqL.of (s5 _ _ (s2 _ _ hpo))),_,_,rfl,rfl,_,rfl,?_⟩;rw[aaA,aaA,MI.len,RA.len,ol];refine Abj (fun e=>?_) (fun e=>?_)
   ·simp only[dtt]at e;have er:rfP S=Aki (13,S.size):=by unfold rfP;rw[tw];simp only[];rw[ifp (by lia)]
    have D5:=D.same s15;obtain⟨dx5,hd5⟩:=D5.ins;refine⟨_,rfl,d,dx5,_,rfl,hd5,Ac5 _ _ _ _ _,_,rfl,d,C,dx5,_,_,rfl,hd5,T.cl,T.nM,Amk _ _ _ _ _,ma,_,rfl,.inl (SqL.of D5.mks),d,S.marks.length,S,pa,la,ma,as,ls,ms,by rw[aaA,D.mksX.len];rfl,D5,13,_,rfl,fun H8 v s8 rr=>?_⟩;obtain⟨pv',vd⟩:=RefAt.verd rr;exact k H8 v .non (.ref pv') (s15.trans s8) (by rw[er];exact vd) (fun z=>by rw[er]at z;cases z)
   ·simp only[dtt]at e;have er:rfP S=[]:=by unfold rfP;rw[tw];simp only[];rw[ifn (by lia)]
    refine⟨abO _,fun ra hra=>⟨_,rfl,_,rfl,?_⟩⟩;have s6:=Same.new (o:=.lst []) hra;intro x dx hx hdx nee;refine⟨x,dx,.ref ra,.ref d,.ref pn,rfl,Aa1,fun H7 hd7 keep=>⟨rfl,?_⟩⟩;have s7:=Same.made hx hdx keep;have s67:=s6.trans s7;refine k H7 x (.ref d) (.ref pn) (s15.trans s67) ⟨dx,ra,hd7,by rw[er];exact s7 _ _ Aa1⟩ (fun _=>?_);obtain⟨a1,a2,a3,a4⟩:=MI.all nO mO (by lia);refine⟨d,pn,pa,la,ma,as,ls,ms,ks.map fun k=>ro.getD k 0,ks.map fun k=>O.getD k [],rfl,rfl,D.same (s15.trans s67),?_,⟨by simp,fun i c hc=>?_⟩,pns,⟨r,clr⟩,by lia,a2,a3,fun l hl=>fO l (a4 l hl)⟩
    ·rw[acC];exact s67 _ _ hpnH
    ·rw[aaH]at hc;cases q:ks[i]? with
     | none=>rw[q]at hc;cases hc
     | some kk =>
      rw[q]at hc;have lk:=MI.lt kk (aaJ q);obtain⟨ck,hck⟩ : ∃ck,ro[kk]?=some ck:=⟨_,aaE (by rw[RA.len];exact lk)⟩
      have:ro.getD kk 0=c:=abD hc;rw[Afy hck]at this;subst this;obtain⟨l,hl,hcl⟩:=RA.at_ kk ck hck;refine⟨l,?_,(s2.trans (s5.trans s67)) _ _ hcl⟩;rw[aaH,q];show some (O.getD kk [])=some l;rw[abN,hl];rfl
end Gc
end
section
namespace Gc
open Gla (Pt Plan Mark)
def k4:Aha:=⟨fun _=>True,fun S=>(acR (Ad1 S) S.pts).map acY⟩
def k5:Aha:=⟨fun _=>True,fun S=>(acR (Adv S) S.lines).map (aeA S)⟩
def k6:Aha:=⟨fun _=>True,frm⟩
def k7:Aha:=⟨fun S=>Pg.R45 S/\S.w<=1048575,fun S=>(acR (afC S) S.lines).map (aeA S)⟩
def k8:Aha:=⟨fun S=>∀l,l∈S.lines->l.1<l.2/\l.2<S.pts.length,fun S=>((aaT S.pts.length).find? fun(i:Nat)=>decide ((S.near i).length<2)).map acY⟩
def k9:Aha:=⟨Bbw,fun S=>((aaT S.pts.length).find? fun(i:Nat)=>!((ahH S.nears S.pts.length 0 (ahI S.pts.length)).getD i false)).map acY⟩
def k10:Aha:=⟨Bbw,fun S=>((aaT S.pts.length).find? (aiD S.nears S.pts.length)).map acY⟩
def k11:Aha:=⟨Pg.R45,fun S=>(acR (Aco S) S.marks).map (afN S)⟩
def Adc:List Aha:=[k4,k5,k6,k7,k8,k9,k10,k11]
theorem map_none {α β:Type}{f:α->β}{o:Option α}(h:o.map f=none):o=none:=by cases o with | none=>rfl | some x=>cases h
theorem r45 {S:Plan}(h4:k4.r S=none)(h5:k5.r S=none):Pg.R45 S:=Pg.R45.of (by rw[Any];exact map_none h4) (by rw[Ao0];exact map_none h5)
structure Asl (S:Plan):Prop where
 w1:16<=S.w
 w2:S.w<=1048575
 h1:16<=S.h
 h2:S.h<=1048575
 p4:4<=S.pts.length
theorem Aqn {S:Plan}(h:Asl S):Ayu S Adc:=by
 refine⟨trivial,fun e4=>⟨trivial,fun e5=>⟨trivial,fun e6=>⟨⟨r45 e4 e5,h.w2⟩,fun e7=>⟨(r45 e4 e5).lin,fun e8=>⟨⟨r45 e4 e5,h.p4⟩,fun e9=>⟨⟨r45 e4 e5,h.p4⟩,fun e10=>⟨r45 e4 e5,fun _=>trivial⟩⟩⟩⟩⟩⟩⟩⟩
theorem Alb {S:Plan}:∀{n:Nat} {ls:List Aha},Alk n ls S=none->∀l,l∈ls->l.r S=none
 | _,[],_,l,hl=>by cases hl
 | n,x::r,h,l,hl=>by
  have h:(match x.r S with | some p=>some (n,p) | none=>Alk (n+1) r S)=none:=h;cases q:x.r S with
  | some p=>rw[q]at h;cases h
  | none =>
   rw[q]at h;rcases aaG.1 hl with e | e
   ·rw[e];exact q
   ·exact Alb h l e
theorem Auk {S:Plan}(h:frm S=none):agN S=true:=by
 unfold frm at h
 by_cases q:agN S=true
 ·exact q
 ·rw[ifn q]at h;cases h
theorem Aog {S:Plan}(h:Asl S)(e:Alk 4 Adc S=none):Ass S:=by
 have a:=Alb e;have e4:=a k4 (by simp[Adc]);have e5:=a k5 (by simp[Adc]);have e6:=a k6 (by simp[Adc]);have e7:=a k7 (by simp[Adc]);have e8:=a k8 (by simp[Adc]);have e9:=a k9 (by simp[Adc]);have e10:=a k10 (by simp[Adc]);have e11:=a k11 (by simp[Adc]);refine⟨Pg.Rules.of h.w1 h.w2 h.h1 h.p4 (r45 e4 e5) (Auk e6) (map_none e7) (map_none e8) (map_none e9) (map_none e10),fun m hm=>?_⟩
 have q:agO (Gla.markOk S) agT S.marks=none:=by rw[Anz];exact map_none e11
 exact(Pg.firstBad_none q).1 m hm
def fl (e:Gla.Fault):List Int:=[-5,(e.rule:Nat),(e.place:Nat)]
theorem Aul (S:Plan):(match Alk 4 Adc S with | some e=>Aki e | none=>rfP S)=(match S.fault with | some e=>fl e | none=>[]):=by
 unfold Gla.Plan.fault;rw[Any,Ao0];have step:∀(n:Nat) (l:Aha) (ls:List Aha),Alk n (l::ls) S=match l.r S with | some p=>some (n,p) | none=>Alk (n+1) ls S:=fun _ _ _=>rfl
 unfold Adc;rw[step];show(match (match (acR (Ad1 S) S.pts).map acY with | some p=>some (4,p) | none=>_)with | some e=>Aki e | none=>rfP S)=_;cases acR (Ad1 S) S.pts with
 | some i=>rfl
 | none =>
 simp only[afS];rw[step];show(match (match (acR (Adv S) S.lines).map (aeA S)with | some p=>some (5,p) | none=>_)with | some e=>Aki e | none=>rfP S)=_;cases acR (Adv S) S.lines with
 | some i=>rfl
 | none =>
 simp only[afS];rw[step];show(match (match frm S with | some p=>some (6,p) | none=>_)with | some e=>Aki e | none=>rfP S)=_;unfold frm
 by_cases f6:agN S=true
 ·rw[ifp f6,ifn (by rw[f6];decide)];simp only[];rw[step];show(match (match (acR (afC S) S.lines).map (aeA S)with | some p=>some (7,p) | none=>_)with | some e=>Aki e | none=>rfP S)=_;cases acR (afC S) S.lines with
  | some i=>rfl
  | none =>
  simp only[afS];rw[step];show(match (match ((aaT S.pts.length).find? fun(i:Nat)=>decide ((S.near i).length<2)).map acY with | some p=>some (8,p) | none=>_)with | some e=>Aki e | none=>rfP S)=_;cases (aaT S.pts.length).find? fun(i:Nat)=>decide ((S.near i).length<2) with
  | some i=>rfl
  | none =>
  simp only[afS];rw[step];show(match (match ((aaT S.pts.length).find? fun(i:Nat)=>!((ahH S.nears S.pts.length 0 (ahI S.pts.length)).getD i false)).map acY with | some p=>some (9,p) | none=>_)with | some e=>Aki e | none=>rfP S)=_;cases (aaT S.pts.length).find? fun(i:Nat)=>!((ahH S.nears S.pts.length 0 (ahI S.pts.length)).getD i false) with
  | some i=>rfl
  | none =>
  simp only[afS];rw[step];show(match (match ((aaT S.pts.length).find? (aiD S.nears S.pts.length)).map acY with | some p=>some (10,p) | none=>_)with | some e=>Aki e | none=>rfP S)=_;cases (aaT S.pts.length).find? (aiD S.nears S.pts.length) with
  | some i=>rfl
  | none =>
  simp only[afS];rw[step,Anz];show(match (match (acR (Aco S) S.marks).map (afN S)with | some p=>some (11,p) | none=>none)with | some e=>Aki e | none=>rfP S)=_;cases acR (Aco S) S.marks with
  | some i=>rfl
  | none =>
  simp only[afS];unfold rfP;cases aiL S S.outlines 0 [] S.marks with
  | some i=>rfl
  | none =>
   simp only[]
   by_cases q:S.marks.length<S.outlines.length
   ·rw[ifp q,ifp q];rfl
   ·rw[ifn q,ifn q]
 ·rw[ifn f6,ifp (by simpa using f6)];rfl
theorem Amg (b:List UInt8)(p w lo hi:Nat):Ab3 b (p,w,lo,hi)=false↔adM lo hi (aaW b p w)=true:=by
 unfold Ab3 adM;simp only[];rw[agD,acH,decide_eq_false_iff_not,decide_eq_false_iff_not,dtt,dtt];lia
theorem Bbe (b:List UInt8):(match brk b with | some e=>Aki e | none=>match (acD b).fault with | some e=>fl e | none=>[])=(match aeB b with | .error e=>fl e | .ok _=>[]):=by
 unfold brk aeB;have hd:Gla.HEAD=20:=rfl;rw[hd]
 by_cases h1:b.length<20
 ·rw[ifp h1,ifp h1];rfl
 rw[ifn h1,ifn h1]
 by_cases h2:b.take 4≠ajK
 ·rw[ifp h2,ifp h2];rfl
 rw[ifn h2,ifn h2];have nn:∀(n:Nat×Nat×Nat×Nat) (l:List (Nat×Nat×Nat×Nat)),(n::l).find? (Ab3 b)=if Ab3 b n=true then some n else l.find? (Ab3 b):=fun n l=>by
  rw[afX];cases Ab3 b n<;>rfl
 unfold headN;have go:∀(p w lo hi:Nat),Ab3 b (p,w,lo,hi) = !(adM lo hi (aaW b p w)):=fun p w lo hi=>by
  have:=Amg b p w lo hi;cases q:Ab3 b (p,w,lo,hi) with
  | false=>rw[this.1 q];rfl
  | true =>
   cases q2:adM lo hi (aaW b p w) with
   | false=>rfl
   | true=>rw[this.2 q2]at q;cases q
 simp only[nn,go,List.find?_nil];have w1:adM 16 1048575 (aaW b 4 4)=adM akU alZ (aaW b 4 4):=rfl;have w2:adM 16 1048575 (aaW b 8 4)=adM akU alZ (aaW b 8 4):=rfl;have w3:adM 4 4096 (aaW b 12 2)=adM 4 Gla.POINTS (aaW b 12 2):=rfl;have w4:adM 4 8192 (aaW b 14 2)=adM 4 Gla.LINES (aaW b 14 2):=rfl
 have w5:adM 1 2048 (aaW b 16 2)=adM 1 Gla.MARKS (aaW b 16 2):=rfl;rw[w1,w2,w3,w4,w5];cases adM akU alZ (aaW b 4 4) with
 | false=>rfl
 | true =>
 cases adM akU alZ (aaW b 8 4) with
 | false=>rfl
 | true =>
 cases adM 4 Gla.POINTS (aaW b 12 2) with
 | false=>rfl
 | true =>
 cases adM 4 Gla.LINES (aaW b 14 2) with
 | false=>rfl
 | true =>
 cases adM 1 Gla.MARKS (aaW b 16 2) with
 | false=>rfl
 | true =>
 have w6:adM 0 0 (aaW b 18 2)=decide (aaW b 18 2=0):=by
  unfold adM;rw[adC];simp
 rw[w6]
 by_cases h8:aaW b 18 2=0
 ·simp only[h8,decide_true,akI,aeV,if_false,ne_eq,not_true_eq_false];have tl:told b=20+8*aaW b 12 2+4*aaW b 14 2+12*aaW b 16 2:=rfl;rw[<-tl]
  by_cases h9:b.length=told b
  ·simp only[h9,not_true_eq_false,if_false];cases (acD b).fault<;>rfl
  ·simp only[h9,not_false_eq_true,if_true];rfl
 ·simp only[h8,decide_false,Bool.not_false,akI,aeV,if_false,if_true,ne_eq,not_false_eq_true];rfl
theorem Ars {b:List UInt8}(h:brk b=none):Asl (acD b):=by
 unfold brk at h
 by_cases h1:b.length<20
 ·rw[ifp h1]at h;cases h
 rw[ifn h1]at h
 by_cases h2:b.take 4≠ajK
 ·rw[ifp h2]at h;cases h
 rw[ifn h2]at h;cases q:headN.find? (Ab3 b) with
 | some n=>rw[q]at h;cases h
 | none =>
  rw[adN]at q;have g:=fun n hn=>q n hn;have g1:=g (12,2,4,4096) (by decide);have g2:=g (4,4,16,1048575) (by decide);have g3:=g (8,4,16,1048575) (by decide);simp[Ab3]at g1 g2 g3;refine⟨?_,?_,?_,?_,?_⟩
  ·show 16<=aaW b 4 4;lia
  ·show aaW b 4 4<=1048575;lia
  ·show 16<=aaW b 8 4;lia
  ·show aaW b 8 4<=1048575;lia
  ·show 4<=((aaT (aaW b 12 2)).map _).length;rw[aaA,acK];lia
theorem Arz {b:List UInt8}(h:b.length<=131072):Apd Adc rfP b=(match aeB b with | .error e=>fl e | .ok _=>[]):=by
 rw[<-Bbe];unfold Apd;rw[ifn (by lia)];cases brk b with
 | some e=>rfl
 | none=>exact Aul (acD b)
theorem Au8 {b:List UInt8}{S:Plan}(h:aeB b=.ok S):S=acD b:=by
 unfold aeB at h
 split at h
 ·cases h
 split at h
 ·cases h
 split at h
 ·cases h
 split at h
 ·cases h
 split at h
 ·cases h
 split at h
 ·cases h
 split at h
 ·cases h
 split at h
 ·cases h
 split at h
 ·cases h
 split at h
 ·cases h
 ·injection h with h;exact h.symm
end Gc
end
section
namespace Gc
open PySem PySem.Spec PyProof.Rows L2
theorem us0 {us:List aaF}{n:Nat}(h:us.length=n+1):∃a l,us=a::l/\l.length=n:=by
 cases us with
 | nil=>cases h
 | cons a l=>exact⟨a,l,rfl,Nat.succ.inj h⟩
theorem us1 {us:List aaF}(h:us.length=1):∃a,us=[a]:=by
 obtain⟨a,l,rfl,k⟩:=us0 h;obtain rfl:=aiN.mp k;exact⟨a,rfl⟩
theorem us2 {us:List aaF}(h:us.length=2):∃a b,us=[a,b]:=by
 obtain⟨a,l,rfl,k⟩:=us0 h;obtain⟨b,rfl⟩:=us1 k;exact⟨a,b,rfl⟩
theorem us3 {us:List aaF}(h:us.length=3):∃a b c,us=[a,b,c]:=by
 obtain⟨a,l,rfl,k⟩:=us0 h;obtain⟨b,c,rfl⟩:=us2 k;exact⟨a,b,c,rfl⟩
theorem us4 {us:List aaF}(h:us.length=4):∃a b c d,us=[a,b,c,d]:=by
 obtain⟨a,l,rfl,k⟩:=us0 h;obtain⟨b,c,d,rfl⟩:=us3 k;exact⟨a,b,c,d,rfl⟩
theorem us6 {us:List aaF}(h:us.length=6):∃a b c d e f,us=[a,b,c,d,e,f]:=by
 obtain⟨a,l,rfl,k⟩:=us0 h;obtain⟨b,l,rfl,m⟩:=us0 k;obtain⟨c,d,e,f,rfl⟩:=us4 m;exact⟨a,b,c,d,e,f,rfl⟩
def Bbn (K:abA)(x:Str)(st:afD):Prop:=∃(f:Addr) (oc:aaF) (od:Option Addr) (kV dc pm:aaF) (an:Option Addr) (cd ct:aaF) (sl:Array (Option aaF)),
 agQ K aaV x=some (some (.ref f))/\K.lookup f=some ⟨oc,od,.func (akC x x (Ach st) (Abp st) (Aa6 st) .none kV dc pm an cd ct),sl⟩/\akQ K cd x=true/\agE K (.ref f)=true
def Aar (K:abA)(x:Str)(st:afD)(ps:List Str):Prop:=∀{h:Heap} {mg:Str->Option aaF},K.In h->h.Ns aaV mg->∃f fd,Def K mg x st ps f fd
def Aik (K:abA)(C:Addr)(m q:Str)(st:afD)(ps:List Str):Prop:=∃f fd,Fun K m q st f fd/\Binds K fd ps []/\All K C m f
def Bds (x q:Str)(st:afD)(ps:List Str):Prop:=∀(kV doc pm:aaF) (an:Option Addr) (cdv ct:aaF) (us:List aaF),us.length=ps.length->bindArgs (akC x q (Ach st) (Abp st) (Aa6 st) .none kV doc pm an cdv ct) ⟨us,[]⟩=pure (ps.zip us)
section
variable {K:abA}{x q:Str}{st:afD}{ps:List Str}{f C:Addr}{oc kV dc pm cd ct:aaF}{od an:Option Addr}{sl:Array (Option aaF)}
theorem dI (a:agQ K aaV x=some (some (.ref f)):=by k_is)(l:K.lookup f=some ⟨oc,od,.func (akC x x (Ach st) (Abp st) (Aa6 st) .none kV dc pm an cd ct),sl⟩:=by k_is)(c:akQ K cd x=true:=by k_is)(k:agE K (.ref f)=true:=by k_is)
 (hb:Bds x x st ps:=by intro _ _ _ _ _ _ us hl;first | (obtain⟨_,rfl⟩:=Gc.us1 hl;rfl) | (obtain⟨_,_,rfl⟩:=Gc.us2 hl;rfl) | (obtain⟨_,_,_,rfl⟩:=Gc.us3 hl;rfl) | (obtain⟨_,_,_,_,rfl⟩:=Gc.us4 hl;rfl)):Aar K x st ps:=fun X G=>⟨f,_,Agx l c k,ajN X G a,(Agx l c k).binds hb⟩
theorem mI (a:afB K (.ref C) x=some (some (.ref f)):=by k_is)(i:W.isFn K (.ref f)=true:=by k_is)(l:K.lookup f=some ⟨oc,od,.func (akC x q (Ach st) (Abp st) (Aa6 st) .none kV dc pm an cd ct),sl⟩:=by k_is)(c:akQ K cd q=true:=by k_is)(k:agE K (.ref f)=true:=by k_is)
 (hb:Bds x q st ps:=by intro _ _ _ _ _ _ us hl;first | (obtain⟨_,_,rfl⟩:=Gc.us2 hl;rfl) | (obtain⟨_,_,_,_,rfl⟩:=Gc.us4 hl;rfl) | (obtain⟨_,_,_,_,_,_,rfl⟩:=Gc.us6 hl;rfl)):Aik K C x q st ps:=⟨f,_,Agx l c k,(Agx l c k).binds hb,a,i,k⟩
end
structure ClsIn (K:abA)(x:Str)(C:Addr):Prop where
 at_:agQ K aaV x=some (some (.ref C))
 pg:akY K C Str.empty=true
 hd:amM K C=true
 po:W.plainOver K C=true
 sa:afB K (.ref C) "__setattr__" = some (some (.builtin "object.__setattr__"))
 makes:W.makesIn K C=true
 kp:agE K (.ref C)=true
def TupV (K:abA)(a:Addr)(us:List aaF):Prop:=∃(od:Option Addr) (n:Nat) (sl:Array (Option aaF)),K.lookup a=some ⟨.type "tuple",od,.seq us.toArray n,sl⟩
def IntTup (K:abA)(a:Addr)(ns:List Int):Prop:=∃ts:List Tok,ts.length=ns.length/\TupV K a (ns.zipWith (fun n t=>afM n t) ts)
def TabIn (K:abA)(x:Str)(ns:List Int):Prop:=∃a,agQ K aaV x=some (some (.ref a))/\IntTup K a ns
def LookTup (K:abA)(c:Addr)(n:Int)(x:Str):Prop:=∃(f:Addr) (t:Tok),TupV K c [.int n t,.ref f]/\agQ K aaV x=some (some (.ref f))
section
variable {K:abA}{mg:Str->Option aaF}{h:Heap}
theorem Acm {x:Str}(X:K.In h)(G:h.Ns aaV mg)(e:agQ K aaV x=some none):mg x=none:=W.mg_none_of X G e
theorem ClsIn.cls {x:Str}{C:Addr}(c:ClsIn K x C):Cls K C:=⟨c.pg,c.hd,c.po,c.sa⟩
theorem ClsIn.mgC {x:Str}{C:Addr}(c:ClsIn K x C)(X:K.In h)(G:h.Ns aaV mg):mg x=some (.ref C):=ajN X G c.at_
theorem TupV.sq {a:Addr}{us:List aaF}{vs:List V}(t:TupV K a us)(H:Hp)(r:Vals vs us)(n:us.length<=100):SqT K H a vs:=by
 obtain⟨od,n',sl,e⟩:=t;exact .inr ⟨_,_,n',e,rfl,rfl,by rw[aaP];exact abI n (by decide),r⟩
theorem Ams:∀(ns:List Int) (ts:List Tok),ts.length=ns.length->Vals (ns.map V.int) (ns.zipWith (fun n t=>afM n t) ts)
 | [],[],_=>.nil
 | n::ns,t::ts,h=>.cons ⟨t,rfl⟩ (Ams ns ts (by simpa using h))
 | [],_::_,h=>by simp at h
 | _::_,[],h=>by simp at h
theorem IntTup.sq {a:Addr}{ns:List Int}(t:IntTup K a ns)(H:Hp)(n:ns.length<=100:=by decide):SqT K H a (ns.map V.int):=by
 obtain⟨ts,l,t⟩:=t;exact TupV.sq t H (Ams ns ts l) (by rw[List.length_zipWith,l,Nat.min_self];exact n)
theorem TabIn.tab {x:Str}{ns:List Int}(t:TabIn K x ns)(X:K.In h)(G:h.Ns aaV mg)(n:ns.length<=100:=by decide):Tab K mg x ns:=by
 obtain⟨a,e,t⟩:=t;exact⟨a,ajN X G e,fun H=>t.sq H n⟩
theorem LookTup.sq {c f:Addr}{n:Int}{x:Str}(t:LookTup K c n x)(X:K.In h)(G:h.Ns aaV mg)(hf:mg x=some (.ref f))(H:Hp):SqT K H c [.int n,.ref f]:=by
 obtain⟨f',tk,t,e⟩:=t;have:=hf.symm.trans (ajN X G e);cases this;exact t.sq H (.cons ⟨tk,rfl⟩ (.cons rfl .nil)) (by show 2<=100;decide)
end
end Gc
end
section
namespace Gc
open PySem PySem.Spec PyProof.Rows L2
open Gla (Pt Plan Mark)
structure Src (K:abA)(C CV:Addr):Prop where
 f_number_at:Aar K "number_at" At4 ["row","place","size"]
 f_numbers_at:Aar K "numbers_at" Ake ["row","place","sizes"]
 f_things_at:Aar K "things_at" Ag9 ["row","place","many","sizes"]
 f_head_of:Aar K "head_of" Aeu ["row"]
 f_bytes_told:Aar K "bytes_told" At3 ["row"]
 f_read_drawing:Aar K "read_drawing" Awm ["row"]
 f_turn_of:Aar K "turn_of" Acz ["p","q","r"]
 f_by_height:Aar K "by_height" sBy ["spot"]
 f_comes_behind:Aar K "comes_behind" Aj2 ["q","p"]
 f_is_on:Aar K "is_on" Alu ["p","q","r"]
 f_parts:Aar K "parts" Ai0 ["p","q","r","s"]
 f_crosses:Aar K "crosses" Akh ["p","q","r","s"]
 f_twice_area:Aar K "twice_area" At6 ["corners"]
 f_is_right_of:Aar K "is_right_of" Akc ["p","q","spot"]
 f_holds:Aar K "holds" An2 ["corners","spot"]
 f_links_of:Aar K "links_of" Aec ["drawing"]
 f_reached:Aar K "reached" Akd ["links","start","shut"]
 f_leftward:Aar K "leftward" Aoe ["points","middle","numbers"]
 f_ring_of:Aar K "ring_of" Aoc ["points","middle","numbers"]
 f_steps_behind:Aar K "steps_behind" An1 ["drawing"]
 f_walk:Aar K "walk" At2 ["follow","start","gone"]
 f_corners_of:Aar K "corners_of" Aqc ["drawing","outline"]
 f_outlines_of:Aar K "outlines_of" Awo ["drawing"]
 f_holder_of:Aar K "holder_of" Awr ["shapes","spot"]
 f_is_too_long:Aar K "is_too_long" Awq ["row"]
 f_broken_head:Aar K "broken_head" Aws ["row"]
 f_wrong_point:Aar K "wrong_point" Bcd ["drawing"]
 f_wrong_line:Aar K "wrong_line" Bcf ["drawing"]
 f_edges_of:Aar K "edges_of" An3 ["drawing"]
 f_open_frame:Aar K "open_frame" Awp ["drawing"]
 f_has_point_on:Aar K "has_point_on" At5 ["drawing","line"]
 f_crosses_one_before:Aar K "crosses_one_before" Bbv ["drawing","number"]
 f_crossed_line:Aar K "crossed_line" Bck ["drawing"]
 f_loose_point:Aar K "loose_point" Aqb ["drawing"]
 f_cut_off_point:Aar K "cut_off_point" Bcj ["drawing"]
 f_parting_point:Aar K "parting_point" Awn ["drawing"]
 f_is_on_some_line:Aar K "is_on_some_line" Aj1 ["drawing","spot"]
 f_wrong_mark:Aar K "wrong_mark" Bce ["drawing"]
 f_broken_drawing:Aar K "broken_drawing" Awu ["drawing"]
 f_refused:Aar K "refused" Bcg ["rule","place"]
 f_judge_panes:Aar K "judge_panes" sJP ["drawing"]
 f_examine:Aar K "examine" Awt ["row"]
 cD:ClsIn K "Drawing" C
 cV:ClsIn K "Verdict" CV
 m_init:Aik K C "__init__" "Drawing.__init__" Akg ["self","width","height","points","lines","marks"]
 m_point_place:Aik K C "point_place" "Drawing.point_place" Aj0 ["self","number"]
 m_line_place:Aik K C "line_place" "Drawing.line_place" Akf ["self","number"]
 m_mark_place:Aik K C "mark_place" "Drawing.mark_place" Aod ["self","number"]
 m_initV:Aik K CV "__init__" "Verdict.__init__" Ai1 ["self","refusal","drawing","panes"]
 nD_width:NoAttr K C "width"
 nD_height:NoAttr K C "height"
 nD_points:NoAttr K C "points"
 nD_lines:NoAttr K C "lines"
 nD_marks:NoAttr K C "marks"
 nV_refusal:NoAttr K CV "refusal"
 nV_drawing:NoAttr K CV "drawing"
 nV_panes:NoAttr K CV "panes"
 n_sum:agQ K aaV "sum" = some none
 n_tuple:agQ K aaV "tuple" = some none
 n_range:agQ K aaV "range" = some none
 n_len:agQ K aaV "len" = some none
 n_min:agQ K aaV "min" = some none
 n_max:agQ K aaV "max" = some none
 n_enumerate:agQ K aaV "enumerate" = some none
 n_sorted:agQ K aaV "sorted" = some none
 c_head:∃t,agQ K aaV "HEAD_BYTES" = some (some (.int 20 t))
 c_most:∃t,agQ K aaV "MOST_BYTES" = some (some (.int 131072 t))
 t_LETTERS:TabIn K "LETTERS" [71,76,65,49]
 t_HEAD_SIZES:TabIn K "HEAD_SIZES" [4,4,2,2,2,2]
 t_POINT_SIZES:TabIn K "POINT_SIZES" [4,4]
 t_LINE_SIZES:TabIn K "LINE_SIZES" [2,2]
 t_MARK_SIZES:TabIn K "MARK_SIZES" [4,4,2,2]
 h_nums:∃a c0 c1 c2 c3 c4 c5:Addr,agQ K aaV "HEAD_NUMBERS" = some (some (.ref a))/\TupV K a [.ref c0,.ref c1,.ref c2,.ref c3,.ref c4,.ref c5]/\IntTup K c0 [4,4,16,1048575]/\IntTup K c1 [8,4,16,1048575]/\IntTup K c2 [12,2,4,4096]/\IntTup K c3 [14,2,4,8192]/\IntTup K c4 [16,2,1,2048]/\IntTup K c5 [18,2,0,0]
 h_rules:∃a c0 c1 c2 c3 c4 c5 c6 c7:Addr,agQ K aaV "DRAWING_RULES" = some (some (.ref a))/\TupV K a [.ref c0,.ref c1,.ref c2,.ref c3,.ref c4,.ref c5,.ref c6,.ref c7]/\LookTup K c0 4 "wrong_point"/\LookTup K c1 5 "wrong_line"/\LookTup K c2 6 "open_frame"/\LookTup K c3 7 "crossed_line"/\LookTup K c4 8 "loose_point"/\LookTup K c5 9 "cut_off_point"/\LookTup K c6 10 "parting_point"/\LookTup K c7 11 "wrong_mark"
section
variable {P:abS}{w:adI}{K:abA}{mg:Str->Option aaF}{h base:Heap}{C CV:Addr}
theorem Src.cst (S:Src K C CV)(X:K.In h)(G:h.Ns aaV mg):Cst K mg :=
 ⟨let ⟨t,e⟩:=S.c_head;⟨t,ajN X G e⟩,S.t_LETTERS.tab X G,S.t_HEAD_SIZES.tab X G,S.t_POINT_SIZES.tab X G,S.t_LINE_SIZES.tab X G,S.t_MARK_SIZES.tab X G,Acm X G S.n_sum,Acm X G S.n_tuple⟩
theorem Src.tdraw (S:Src K C CV):Ac7 K C:=⟨S.cD.cls,S.nD_width,S.nD_height,S.nD_points,S.nD_lines,S.nD_marks⟩
theorem Src.tverd (S:Src K C CV):Ap9 K CV:=⟨S.cV.cls,S.nV_refusal,S.nV_drawing,S.nV_panes⟩
theorem Src.tmeth (S:Src K C CV)(X:K.In h)(G:h.Ns aaV mg):∃fP fL fM fdP fdL fdM,TMeth K mg C fP fL fM fdP fdL fdM:=by
 obtain⟨fP,fdP,FP,bP,mP⟩:=S.m_point_place;obtain⟨fL,fdL,FL,bL,mL⟩:=S.m_line_place;obtain⟨fM,fdM,FM,bM,mM⟩:=S.m_mark_place;exact⟨fP,fL,fM,fdP,fdL,fdM,FP,bP,mP,FL,bL,mL,FM,bM,mM,S.tdraw,S.cst X G,Acm X G S.n_len⟩
theorem Src.thead (S:Src K C CV)(X:K.In h)(G:h.Ns aaV mg):∃aH hs,THead K mg aH hs:=by
 obtain⟨a,c0,c1,c2,c3,c4,c5,e,t,t0,t1,t2,t3,t4,t5⟩:=S.h_nums;refine⟨a,[c0,c1,c2,c3,c4,c5],ajN X G e,fun H=>t.sq H (vs:=[.ref c0,.ref c1,.ref c2,.ref c3,.ref c4,.ref c5]) (.cons rfl (.cons rfl (.cons rfl (.cons rfl (.cons rfl (.cons rfl .nil)))))) (by show 6<=100;decide),rfl,fun i c hc=>?_⟩
 match i,hc with
 | 0,hc=>cases hc;exact⟨_,rfl,fun H=>t0.sq H⟩
 | 1,hc=>cases hc;exact⟨_,rfl,fun H=>t1.sq H⟩
 | 2,hc=>cases hc;exact⟨_,rfl,fun H=>t2.sq H⟩
 | 3,hc=>cases hc;exact⟨_,rfl,fun H=>t3.sq H⟩
 | 4,hc=>cases hc;exact⟨_,rfl,fun H=>t4.sq H⟩
 | 5,hc=>cases hc;exact⟨_,rfl,fun H=>t5.sq H⟩
 | n+6,hc=>simp at hc
theorem Src.comesB (S:Src K C CV)(X:K.In h)(G:h.Ns aaV mg):∃f fd,DefB K mg f fd:=let ⟨f,fd,F⟩:=S.f_comes_behind X G;⟨f,fd,F,S.f_by_height X G⟩
def KnL (P:abS)(w:adI)(K:abA)(mg:Str->Option aaF)(base:Heap)(f:Addr)(sp:Sp):Prop:=∃fd k',k'<=5/\FnOk P w K mg base CX0 k' f fd ["drawing"] sp/\agE K (.ref f)=true/\Binds K fd ["drawing"] []
theorem Src.tlooks (S:Src K C CV)(X:K.In h)(G:h.Ns aaV mg):∃aD rs,Aw1 K mg (KnL P w K mg base) C aD rs Adc:=by
 obtain⟨fP,fL,fM,fdP,fdL,fdM,M⟩:=S.tmeth X G;have ne:=Acm X G S.n_enumerate;have nr:=Acm X G S.n_range;have nmin:=Acm X G S.n_min;have nmax:=Acm X G S.n_max;have T:=S.tdraw;obtain⟨_,_,B⟩:=S.comesB X G;obtain⟨_,_,fT⟩:=S.f_turn_of X G;obtain⟨_,_,fO⟩:=S.f_is_on X G;obtain⟨_,_,fX⟩:=S.f_crosses X G;obtain⟨_,_,fQ⟩:=S.f_parts X G;obtain⟨_,_,fHP⟩:=S.f_has_point_on X G;obtain⟨_,_,fCB⟩:=S.f_crosses_one_before X G
 obtain⟨_,_,fK⟩:=S.f_links_of X G;obtain⟨_,_,fR⟩:=S.f_reached X G;obtain⟨_,_,fE⟩:=S.f_edges_of X G;obtain⟨_,_,fS⟩:=S.f_is_on_some_line X G;obtain⟨g0,gd0,F0⟩:=S.f_wrong_point X G;obtain⟨g1,gd1,F1⟩:=S.f_wrong_line X G;obtain⟨g2,gd2,F2⟩:=S.f_open_frame X G;obtain⟨g3,gd3,F3⟩:=S.f_crossed_line X G;obtain⟨g4,gd4,F4⟩:=S.f_loose_point X G;obtain⟨g5,gd5,F5⟩:=S.f_cut_off_point X G;obtain⟨g6,gd6,F6⟩:=S.f_parting_point X G
 obtain⟨g7,gd7,F7⟩:=S.f_wrong_mark X G;obtain⟨a,c0,c1,c2,c3,c4,c5,c6,c7,e,t,t0,t1,t2,t3,t4,t5,t6,t7⟩:=S.h_rules;refine⟨a,[c0,c1,c2,c3,c4,c5,c6,c7],ajN X G e,fun H=>t.sq H (vs:=[.ref c0,.ref c1,.ref c2,.ref c3,.ref c4,.ref c5,.ref c6,.ref c7]) (.cons rfl (.cons rfl (.cons rfl (.cons rfl (.cons rfl (.cons rfl (.cons rfl (.cons rfl .nil)))))))) (by show 8<=100;decide),rfl,fun i c hc=>?_⟩
 match i,hc with
 | 0,hc=>cases hc;exact⟨_,g0,rfl,⟨gd0,3,by decide,Bag F0 B M ne,F0.fn.kp,F0.b⟩,fun H=>t0.sq X G F0.mgf H⟩
 | 1,hc=>cases hc;exact⟨_,g1,rfl,⟨gd1,3,by decide,Bai F1 M ne,F1.fn.kp,F1.b⟩,fun H=>t1.sq X G F1.mgf H⟩
 | 2,hc=>cases hc;exact⟨_,g2,rfl,⟨gd2,2,by decide,Axc F2 fE M ne nr,F2.fn.kp,F2.b⟩,fun H=>t2.sq X G F2.mgf H⟩
 | 3,hc=>cases hc;exact⟨_,g3,rfl,⟨gd3,5,by decide,Bao F3 fHP fCB fO fX fQ fT M nmin nmax nr ne,F3.fn.kp,F3.b⟩,fun H=>t3.sq X G F3.mgf H⟩
 | 4,hc=>cases hc;exact⟨_,g4,rfl,⟨gd4,2,by decide,Atu F4 fK M ne,F4.fn.kp,F4.b⟩,fun H=>t4.sq X G F4.mgf H⟩
 | 5,hc=>cases hc;exact⟨_,g5,rfl,⟨gd5,2,by decide,Ban F5 fR fK M nr,F5.fn.kp,F5.b⟩,fun H=>t5.sq X G F5.mgf H⟩
 | 6,hc=>cases hc;exact⟨_,g6,rfl,⟨gd6,2,by decide,Axa F6 fR fK M nr,F6.fn.kp,F6.b⟩,fun H=>t6.sq X G F6.mgf H⟩
 | 7,hc=>cases hc;exact⟨_,g7,rfl,⟨gd7,4,by decide,Bah F7 B fS fO fT M nmin nmax ne,F7.fn.kp,F7.b⟩,fun H=>t7.sq X G F7.mgf H⟩
 | n+8,hc=>simp at hc
theorem Src.exam (S:Src K C CV)(X:K.In h)(G:h.Ns aaV mg):∃f fd,Kwn P w K mg base 7 "examine" ["row"] (Aq4 K CV (Apd Adc rfP) fun H b dr pn=>Ajz C H (acD b) dr pn) f fd:=by
 obtain⟨fP,fL,fM,fdP,fdL,fdM,M⟩:=S.tmeth X G;have ne:=Acm X G S.n_enumerate;have nr:=Acm X G S.n_range;have nl:=Acm X G S.n_len;have ns:=Acm X G S.n_sorted;have c:=S.cst X G;have T:=S.tdraw;obtain⟨_,_,fT⟩:=S.f_turn_of X G;obtain⟨_,_,fN⟩:=S.f_number_at X G;obtain⟨_,_,fNs⟩:=S.f_numbers_at X G;obtain⟨_,_,fTh⟩:=S.f_things_at X G;obtain⟨_,_,fHo⟩:=S.f_head_of X G;obtain⟨_,_,fTo⟩:=S.f_bytes_told X G
 obtain⟨_,_,fK⟩:=S.f_links_of X G;obtain⟨_,_,fG⟩:=S.f_ring_of X G;obtain⟨_,_,fF⟩:=S.f_leftward X G;obtain⟨_,_,fSt⟩:=S.f_steps_behind X G;obtain⟨_,_,fW⟩:=S.f_walk X G;obtain⟨_,_,fA⟩:=S.f_twice_area X G;obtain⟨_,_,fC⟩:=S.f_corners_of X G;obtain⟨_,_,fOu⟩:=S.f_outlines_of X G;obtain⟨_,_,fH⟩:=S.f_holder_of X G;obtain⟨_,_,fHs⟩:=S.f_holds X G;obtain⟨_,_,fRt⟩:=S.f_is_right_of X G;obtain⟨_,_,fBh⟩:=S.f_broken_head X G
 obtain⟨_,_,fRf⟩:=S.f_refused X G;obtain⟨_,_,fRd⟩:=S.f_read_drawing X G;obtain⟨_,_,fBd⟩:=S.f_broken_drawing X G;obtain⟨_,_,fJ⟩:=S.f_judge_panes X G;obtain⟨_,_,fL'⟩:=S.f_is_too_long X G;obtain⟨_,_,fE⟩:=S.f_examine X G;obtain⟨_,_,FI,bI,mI⟩:=S.m_init;obtain⟨_,_,FV,bV,mV⟩:=S.m_initV;obtain⟨aH,hs,TH⟩:=S.thead X G;obtain⟨aD,rs,TL⟩:=S.tlooks (P:=P) (w:=w) (base:=base) X G;have MD:Mk K C _:=⟨S.cD.makes,mI.at_,mI.fn,S.cD.kp⟩
 have MV:Mk K CV _:=⟨S.cV.makes,mV.at_,mV.fn,S.cV.kp⟩
 have mgD:=S.cD.mgC X G;have mgV:=S.cV.mgC X G;have kH:Kwn P w K mg base 6 "broken_head" ["row"] (Aq3 K) _ _:=⟨(Axg fBh fTo fHo fNs fN TH nr nl c).mono (by decide),fBh.mgf,fBh.fn.kp,fBh.b⟩
 have kX:Kwn P w K mg base 6 "refused" ["rule","place"] (Apt CV) _ _:=⟨(Avi fRf FV bV MV mgV S.tverd).mono (by decide),fRf.mgf,fRf.fn.kp,fRf.b⟩
 have kX5:Kwn P w K mg base 5 "refused" ["rule","place"] (Apt CV) _ _:=⟨(Avi fRf FV bV MV mgV S.tverd).mono (by decide),fRf.mgf,fRf.fn.kp,fRf.b⟩
 have kR:Kwn P w K mg base 6 "read_drawing" ["row"] (Apu K C) _ _:=⟨(Ax9 fRd fTh fHo fNs fN FI bI MD mgD T M.FM M.bM M.mM M.FL M.bL M.mL M.FP M.bP M.mP nr nl c).mono (by decide),fRd.mgf,fRd.fn.kp,fRd.b⟩
 have kB:Kwn P w K mg base 6 "broken_drawing" ["drawing"] (Aq7 C Adc) _ _:=⟨Axk (KnL P w K mg base) (fun _ _ h=>h) fBd TL,fBd.mgf,fBd.fn.kp,fBd.b⟩
 have kO:Kwn P w K mg base 5 "outlines_of" ["drawing"] (Apw C) _ _:=⟨Axb fOu fSt fW fA fC fK fG fF fT T nl ne ns,fOu.mgf,fOu.fn.kp,fOu.b⟩
 have kC:Kwn P w K mg base 5 "corners_of" ["drawing","outline"] (Ak7 C) _ _:=⟨(Aqz fC T).mono (by decide),fC.mgf,fC.fn.kp,fC.b⟩
 have kHo:Kwn P w K mg base 5 "holder_of" ["shapes","spot"] Aq2 _ _:=⟨(Axf fH fHs fRt fT ne).mono (by decide),fH.mgf,fH.fn.kp,fH.b⟩
 have kP:Kwn P w K mg base 6 "judge_panes" ["drawing"] (Alp C CV Ass rfP (Ajz C)) _ _:=⟨Bcx fJ (by decide) kO kC kHo kX5 FV bV MV mgV S.tverd M ne,fJ.mgf,fJ.fn.kp,fJ.b⟩
 have kL:Kwn P w K mg base 6 "is_too_long" ["row"] (Apy K) _ _:=⟨(Axd fL' nl (let ⟨t,e⟩:=S.c_most;⟨t,ajN X G e⟩)).mono (by decide),fL'.mgf,fL'.fn.kp,fL'.b⟩
 exact⟨_,_,Axi fE FV bV MV mgV S.tverd (by decide) kH kX kR kB kP kL (fun b hb=>Aqn (Ars hb)) (fun b hb e=>Aog (Ars hb) e),fE.mgf,fE.fn.kp,fE.b⟩
end
def toB (ns:List Int):List UInt8:=ns.map fun(z:Int)=>ajP z.toNat
def byts (ns:List Int):Prop:=∀n,n∈ns->0<=n/\n<=255
theorem toB_len (ns:List Int):(toB ns).length=ns.length:=by unfold toB;rw[aaA]
theorem toB_v:∀(ns:List Int),byts ns->vB (toB ns)=ns.map V.int
 | [],_=>rfl
 | n::r,h=>by
  have hn:=h n (.head _);show V.int ((ajP n.toNat).toNat:Nat)::vB (toB r)=V.int n::r.map V.int;rw[toB_v r fun m hm=>h m (.tail _ hm)];have:(((ajP n.toNat).toNat:Nat):Int)=n:=by
   rw[UInt8.toNat_ofNat'];lia
  rw[this]
theorem Apl (ns:List Int)(h:byts ns):ajH ns=some (toB ns):=by
 unfold ajH;rw[ifp];· rfl
 unfold NeutralIO.bytes;rw[agI];intro n hn;have:=h n hn;simp;lia
theorem Baf {b:List UInt8}(h:b.length<=60000)(f:Plan->aoE):ajZ b f=(match aeB b with | .error e=>.refused (fl e) | .ok S=>f S):=by
 unfold ajZ GlaPlans.sized;have e:[b].any (fun b=>decide (akT<b.length))=false:=by
  have:¬akT<b.length:=by unfold akT;lia
  simp[this]
 rw[e,ifn abG];unfold GlaPlans.ofPlan;cases aeB b<;>rfl
abbrev rfB:List UInt8->List Int:=Apd Adc rfP
theorem Avd {b:List UInt8}(h:b.length<=60000)(e:rfB b=[]):aeB b=.ok (acD b):=by
 have:=Arz (b:=b) (by lia);unfold rfB at e;rw[e]at this;cases q:aeB b with
 | error f=>rw[q]at this;cases this
 | ok S=>rw[Au8 q]
theorem Asv {b:List UInt8}(h:b.length<=60000)(f:Plan->aoE):afV (ajZ b f)=if rfB b=[] then afV (f (acD b))else rfB b:=by
 rw[Baf h]
 by_cases e:rfB b=[]
 ·rw[ifp e,Avd h e]
 ·rw[ifn e];have:=Arz (b:=b) (by lia);cases q:aeB b with
  | error g=>rw[q]at this;rw[show rfB b=fl g from this];rfl
  | ok S=>rw[q]at this;exact absurd this e
abbrev Be6 (K:abA)(C CV:Addr):Sp:=Aq4 K CV rfB fun H b dr pn=>Ajz C H (acD b) dr pn
end Gc
end
section
namespace Gc
open PySem PySem.Spec PyProof.Rows L2
abbrev Bbt:afD:=top Am8
def Azi:Sp:=fun vs H Q _=>∃(a:Addr) (xs:List V),vs=[.ref a]/\H a=some (.lst xs)/\xs.length<=1000000/\∀(H':Hp) (r:Addr),Same H H'->H' r=some (.lst (.int 0::.int xs.length::xs))->Q (.ref r) H'
variable {P:abS}{w:adI}{K:abA}{mg:Str->Option aaF}{base:Heap}
theorem Bcb:Aaa ["row"] ["row"] (Aa6 Bbt):=fsc
theorem Bak {f:Addr}{fd:aaX}(F:Def K mg "row_told" Bbt ["row"] f fd)(nl:mg "len" = none):FnOk P w K mg base CX0 1 f fd ["row"] Azi:=by
 refine F.go Bcb fun cdv A o s H vs Q E hr h=>?_;obtain⟨a,xs,rfl,ha,l,k⟩:=h;refine⟨_,Aa4 (Aa9 (Aay Aqs (Abb (Aa0 Aa7 (Aa0 (Aae Aad (by rfl) nl acB (Aa0 (pv 0) Aa3)) Aa3))) (pv 0))),?_⟩;refine⟨_,rfl,a,_,rfl,.inl (SqL.of ha),sz2,fun t ht=>⟨_,rfl,t,a,_,_,rfl,rfl,Aa1,(Same.new ht) _ _ ha,?_,fun r hr=>?_⟩⟩
 ·exact abI (show 2+xs.length<=1000002 by lia) (by decide)
 ·exact k _ r ((Same.new ht).trans (Same.new hr)) Aa1
end Gc
end
section
namespace Gc
open PySem PySem.Spec PyProof.Rows L2
open Gla (Pt Plan Mark)
abbrev sBO:afD:=top Ame
def leN (s n:Nat):List Nat:=(aaT s).map fun k=>n/2 ^ (8*k)%256
def bO (ns sz:List Nat):List Nat:=(ns.zip sz).flatMap fun p=>leN p.2 p.1
theorem Avk:∀(s n:Nat),leN s n=(Gla.le s n).map fun(b:UInt8)=>b.toNat
 | 0,_=>rfl
 | s+1,n=>by
  show leN (s+1) n=(ajP (n%256)).toNat::(Gla.le s (n/256)).map fun(b:UInt8)=>b.toNat;rw[<-Avk s (n/256)];unfold leN;rw[agX,abE,acC]
  congr 1
  ·simp
  ·refine ajW fun k _=>?_;show n/2 ^ (8*(k+1))%256=n/256/2 ^ (8*k)%256;rw[Nat.div_div_eq_div_mul,show 8*(k+1)=8+8*k by lia,Nat.pow_add]
theorem Ae3 (s n:Nat):(leN s n).length=s:=by unfold leN;rw[aaA,acK]
theorem Axr {s n j:Nat}(h:j<s):(leN s n)[j]?=some (n/2 ^ (8*j)%256):=by unfold leN;rw[aaH,adK h];rfl
theorem Asg:∀(ns sz:List Nat),(∀s,s∈sz->s<=10)->(bO ns sz).length<=10*sz.length
 | [],sz,_=>by unfold bO;simp
 | _::_,[],_=>by unfold bO;simp
 | n::ns,s::sz,h=>by
  have:=Asg ns sz fun x hx=>h x (.tail _ hx);have hs:=h s (.head _);show(leN s n++bO ns sz).length<=_;rw[aaM,Ae3,aaZ];lia
theorem Ayf {ns sz:List Nat}{i n m:Nat}(hn:ns[i]?=some n)(hm:sz[i]?=some m):bO (ns.take (i+1)) (sz.take (i+1))=bO (ns.take i) (sz.take i)++leN m n:=by
 have l1:=(aaB.mp hn).1;have l2:=(aaB.mp hm).1;unfold bO;rw[Aai hn,Aai hm,List.zip_append (by rw[abJ,abJ];lia),aeO]
 congr 1
 simp
theorem Ayd (n j:Nat):alF ((n:Int)/2 ^ (8*((0:Int)+(j:Nat))).toNat) 255=((n/2 ^ (8*j)%256:Nat):Int):=by
 have e:(8*((0:Int)+(j:Nat))).toNat=8*j:=by lia
 rw[PyProof.Rows.bitAnd_m8,e];have p:((2:Int) ^ (8*j))=((2 ^ (8*j):Nat):Int):=by rw[Int.natCast_pow];rfl
 rw[p];generalize 2 ^ (8*j)=z;rfl
def Bdp (K:abA):Sp:=fun vs H Q _=>∃(a b:Addr) (ns sz:List Nat),vs=[.ref a,.ref b]/\SqT K H a (vN ns)/\SqT K H b (vN sz)/\ns.length=sz.length/\sz.length<=10/\(∀s,s∈sz->s<=10)/\
 ∀(H':Hp) (r:Addr),Same H H'->H r=none->H' r=some (.lst (vN (bO ns sz)))->Q (.ref r) H'
variable {P:abS}{w:adI}{K:abA}{mg:Str->Option aaF}{base:Heap}
theorem scBO:Aaa ["numbers","sizes","row","number","size","k"] ["numbers","sizes"] (Aa6 sBO):=fsc
theorem Bf2:Ase ["numbers","sizes","row","number","size","k"] (Aa6 sBO) (Bbs "k" "number") [("k",5)]=true:=by decide +kernel
theorem Bcz {f:Addr}{fd:aaX}(F:Def K mg "bytes_of" sBO ["numbers","sizes"] f fd)(nz:mg "zip" = none)(nr:mg "range" = none):FnOk P w K mg base CX0 1 f fd ["numbers","sizes"] (Bdp K):=by
 refine F.go scBO fun cdv A o s H vs Q E hr h=>?_;obtain⟨a,b,ns,sz,rfl,ha,hb,ll,l10,s10,k⟩:=h
 refine⟨_,Aa2 (pS 2 scBO.nd (Abb Aa3))
  (Aa2 (Aao aaQ rfl (Aqq rfl nz (Aa0 (pv 0) (Aa0 (pv 1) Aa3))) (Abi rfl (Aab (Alv (i:=3) scBO.nd rfl (anD rfl)) (Aab (pG 4 scBO.nd) Aax)))
   (Aa4 (Abc (Ad9 abK agG agF Aej (pv 2) (Aa0 (Atg (te:=tOp (rI0 fun i j=>.int (alF i j)) (tOp (rI (fun _ j=>0<=j) fun i j=>.int (i/2 ^ j.toNat)) (Abv 3) (tOp (rI CMul fun i j=>.int (i*j)) (tC (.int 8)) (Abv 5))) (tC (.int 255))) (own:=[("k",5)]) rfl scBO.nd (Abz rfl nr (Aa0 (pv 4) Aa3)) (Abu Bf2) (fun _ _ _ _ _=>Alv (i:=5) scBO.nd rfl (akZ rfl)) (fun _ _ _ _ _=>Ad5)
    (fun _ _ _ _ _=>Aay Bae (Aay Ba7 (pv 3) (Aay Ack Aa7 (pv 5))) Aa7)) Aa3)))))
  (Aa4 (Aa9 (pv 2)))),?_⟩
 refine⟨abO _,fun r hr0=>?_⟩;have vl:∀l:List Nat,(vN l).length=l.length:=fun l=>by unfold vN;rw[aaA]
 refine⟨_,rfl,_,rfl,a,b,_,_,rfl,Ae9 (Same.new hr0) ha,Ae9 (Same.new hr0) hb,Anp (K:=K) (a:=a) (b:=b) (xs:=vN ns) (ys:=vN sz) (fun i σ H'=>(∃v3 v4 v5:Option V,σ=[some (.ref a),some (.ref b),some (.ref r),v3,v4,v5])/\Same H H'/\H' r=some (.lst (vN (bO (ns.take i) (sz.take i)))))
  ⟨⟨_,_,_,rfl⟩,Same.new hr0,Aa1⟩ (by rw[vl,vl,ll]) (fun i σ H' _ ⟨_,s1,_⟩=>⟨Ae9 s1 ha,Ae9 s1 hb⟩) ?_ ?_⟩
 ·rintro i x y σ H' t hx hy ⟨⟨v3,v4,v5,rfl⟩,s1,hr1⟩ ht;obtain⟨n,hn,rfl⟩ : ∃n,ns[i]?=some n/\x=.int (n:Nat):=by
   unfold vN at hx;rw[aaH]at hx;cases q:ns[i]? with
   | none=>rw[q]at hx;cases hx
   | some n=>rw[q]at hx;cases hx;exact⟨n,rfl,rfl⟩
  obtain⟨m,hm,rfl⟩ : ∃m,sz[i]?=some m/\y=.int (m:Nat):=by
   unfold vN at hy;rw[aaH]at hy;cases q:sz[i]? with
   | none=>rw[q]at hy;cases hy
   | some n=>rw[q]at hy;cases hy;exact⟨n,rfl,rfl⟩
  have m10:=s10 m (aaJ hm);have st:=Same.new (o:=.tup [.int (n:Nat),.int (m:Nat)]) ht;refine⟨t,_,rfl,SqT.of Aa1,rfl,_,_,rfl,_,_,rfl,rfl,?_⟩;have s2:=s1.trans st;have hr2:=st _ _ hr1;generalize upd H' t (.tup [.int (n:Nat),.int (m:Nat)])=H2 at *;refine⟨_,rfl,.inl ⟨rfl,_,SqL.of hr2⟩,_,rfl,(m:Int),rfl,by lia,by lia,fun D1 hD1=>?_⟩;rw[afH];refine Anl (n:=m) (fun j H3=>Same H2 H3/\H3 D1=some (.lst (vN ((leN m n).take j)))) ⟨Same.new hD1,Aa1⟩ ?_ ?_
  ·rintro j H3 hj ⟨s3,hd3⟩;refine⟨rfl,?_⟩;unfold Asw;dsimp only
   first | rw[ifp rfl] | rw[ifp trivial]
   refine⟨_,rfl,_,rfl,_,_,rfl,rfl,.inl (by lia),_,_,rfl,rfl,by lia,_,_,rfl,rfl,_,hd3,?_,fun b2 u2 h2=>?_,?_⟩
   ·rw[vl,abJ];exact szN (by lia)
   ·rw[Aa5 (Aa8 h2 hD1)];exact s3 _ _ h2
   ·rw[Aa1];dsimp only;rw[Ayd,Aai (Axr hj)];unfold vN;rw[aaU];rfl
  ·rintro H3 ⟨s3,hd3⟩;rw[aeP (by rw[Ae3];exact aaK _)]at hd3;have bl:=Asg (ns.take i) (sz.take i) fun x hx=>s10 x (afF hx);rw[abJ]at bl;refine⟨r,D1,_,_,rfl,rfl,s3 _ _ hr2,hd3,?_,⟨_,_,_,rfl⟩,fun b2 u2 h2=>?_,?_⟩
   ·rw[vl,vl,Ae3];exact abI (show _<=110 by lia) (by decide)
   ·rw[Aa5 (Aa8 h2 hr0)];exact s3 _ _ (s2 _ _ h2)
   ·rw[Aa1,Ayf hn hm];unfold vN;rw[aaU]
 ·rintro σ H' ⟨⟨v3,v4,v5,rfl⟩,s1,hr1⟩;rw[vl,acA,aeP (by lia)]at hr1;exact⟨_,rfl,k H' r s1 hr0 hr1⟩
abbrev sHF:afD:=top Amc
abbrev sWD:afD:=top Afp
structure DrW (C:Addr)(H:Hp)(d:Addr)(S:Plan)(pa la ma:Addr)(as ls ms:List Addr):Prop where
 ins:∃dx,H d=some (.ins C dx (dfs S.w S.h pa la ma))
 pts:H pa=some (.lst (as.map V.ref))
 lns:H la=some (.lst (ls.map V.ref))
 mks:H ma=some (.lst (ms.map V.ref))
 ptsX:TupsAt ptV H as S.pts
 lnsA:LnsAt H ls S.lines
 mksX:TupsAt mkV H ms S.marks
 nP:S.pts.length<=20000
 nL:S.lines.length<=20000
 nM:S.marks.length<=20000
theorem DrW.same {C:Addr}{H H':Hp}{d:Addr}{S:Plan}{pa la ma:Addr}{as ls ms:List Addr}(e:Same H H')(D:DrW C H d S pa la ma as ls ms):DrW C H' d S pa la ma as ls ms :=
 ⟨let ⟨dx,h⟩:=D.ins;⟨dx,e _ _ h⟩,e _ _ D.pts,e _ _ D.lns,e _ _ D.mks,D.ptsX.same e,D.lnsA.same e,D.mksX.same e,D.nP,D.nL,D.nM⟩
theorem DrawAt.dw {C:Addr}{H:Hp}{d:Addr}{S:Plan}{pa la ma:Addr}{as ls ms:List Addr}(D:DrawAt C H d S pa la ma as ls ms):DrW C H d S pa la ma as ls ms :=
 ⟨D.ins,D.pts,D.lns,D.mks,D.ptsX,D.lnsA,D.mksX,by have:=D.nP;lia,by have:=D.nL;lia,by have:=D.nM;lia⟩
def hdN (S:Plan):List Nat:=[S.w,S.h,S.pts.length,S.lines.length,S.marks.length,0]
def Bc8 (C:Addr):Sp:=fun vs H Q _=>∃(d:Addr) (S:Plan) (pa la ma:Addr) (as ls ms:List Addr),vs=[.ref d]/\DrW C H d S pa la ma as ls ms/\∀t,H t=none->Q (.ref t) (upd H t (.tup (vN (hdN S))))
def ptN (p:Pt):List Nat:=bO [p.x,p.y] [4,4]
def lnN (l:Nat×Nat):List Nat:=bO [l.1,l.2] [2,2]
def mkN (m:Mark):List Nat:=bO [m.at_.x,m.at_.y,m.glass,m.painting] [4,4,2,2]
def wrN (S:Plan):List Nat:=[71,76,65,49]++bO (hdN S) [4,4,2,2,2,2]++S.pts.flatMap ptN++S.lines.flatMap lnN++S.marks.flatMap mkN
theorem Ayy (S:Plan):wrN S=(Gla.writePlan S).map fun(b:UInt8)=>b.toNat:=by
 unfold wrN Gla.writePlan ptN lnN mkN hdN bO;simp only[aaU,List.map_flatMap,aeF,akF,aiJ,List.flatMap_nil,aeD,Avk,aeN];rfl
def Bdm (C:Addr):Sp:=fun vs H Q _=>∃(d:Addr) (S:Plan) (pa la ma:Addr) (as ls ms:List Addr),vs=[.ref d]/\DrW C H d S pa la ma as ls ms/\∀(H':Hp) (r:Addr),Same H H'->H' r=some (.lst (vN (wrN S)))->Q (.ref r) H'
theorem Beb:Aaa ["drawing"] ["drawing"] (Aa6 sHF):=fsc
theorem Bam {f C:Addr}{fd:aaX}(F:Def K mg "head_for" sHF ["drawing"] f fd)(T:Ac7 K C)(nl:mg "len" = none):FnOk P w K mg base CX0 1 f fd ["drawing"] (Bc8 C):=by
 refine F.go Beb fun cdv A o s H vs Q E hr h=>?_;obtain⟨d,S,pa,la,ma,as,ls,ms,rfl,D,k⟩:=h;obtain⟨dx,hd⟩:=D.ins
 refine⟨_,Aa4 (Aa9 (Abd (Aa0 (Aaj (pv 0) rfl) (Aa0 (Aaj (pv 0) rfl)
  (Aa0 (Aae Aad (by rfl) nl acB (Aa0 (Aaj (pv 0) rfl) Aa3)) (Aa0 (Aae Aad (by rfl) nl acB (Aa0 (Aaj (pv 0) rfl) Aa3)) (Aa0 (Aae Aad (by rfl) nl acB (Aa0 (Aaj (pv 0) rfl) Aa3)) (Aa0 Aa7 Aa3)))))))),?_⟩
 refine⟨_,rfl,d,C,dx,_,_,rfl,hd,T.cl,T.nW,Ap4 _ _ _ _ _,_,rfl,d,C,dx,_,_,rfl,hd,T.cl,T.nH,Ap5 _ _ _ _ _,?_⟩;refine⟨_,rfl,d,C,dx,_,_,rfl,hd,T.cl,T.nP,Ad0 _ _ _ _ _,pa,_,rfl,.inl (SqL.of D.pts),?_⟩;refine⟨_,rfl,d,C,dx,_,_,rfl,hd,T.cl,T.nL,Aft _ _ _ _ _,la,_,rfl,.inl (SqL.of D.lns),?_⟩;refine⟨_,rfl,d,C,dx,_,_,rfl,hd,T.cl,T.nM,Amk _ _ _ _ _,ma,_,rfl,.inl (SqL.of D.mks),?_⟩;refine⟨(by show 6<=abB;decide),fun t ht=>?_⟩
 rw[aaA,aaA,aaA,D.ptsX.len,D.lnsA.len,D.mksX.len];exact k t ht
theorem Apg (a b:List Nat):vN (a++b)=vN a++vN b:=by unfold vN;rw[aaU]
theorem Ads {α:Type}(g:α->List Nat)(k:Nat)(hg:∀x,(g x).length<=k):∀l:List α,(l.flatMap g).length<=k*l.length
 | []=>by simp
 | x::l=>by
  have:=Ads g k hg l;have:=hg x;rw[aiJ,aaM,aaZ,Nat.mul_succ];lia
theorem Ajp {C:Addr}{K:abA}{α:Type}{tv:α->List V}{nv:α->List Nat}{sz:List Nat}{g:α->List Nat}{H:Hp}{a r d:Addr}{as:List Addr}{xs:List α}{pre:List Nat}{v2 v3 v4:Option V}{j:Nat}{bT:Addr}{D:Asm}{tb:TS}{tg:TG}
 (hr:H r=some (.lst (vN pre))) (ha:H a=some (.lst (as.map V.ref))) (L:TupsAt tv H as xs) (nr:r≠a)
 (step:∀(i:Nat) (x:α) (c:Addr) (σ:L2.St) (H':Hp) (N:L2.St->Hp->Prop),xs[i]?=some x->(∃w2 w3 w4:Option V,σ=[some (.ref d),some (.ref r),w2,w3,w4])->H' c=some (.tup (tv x))->H' r=some (.lst (vN (pre++(xs.take i).flatMap g)))->(∀b o,H b=some o->b≠r->H' b=some o)->
  (∀σ' H'',(∃w2 w3 w4:Option V,σ'=[some (.ref d),some (.ref r),w2,w3,w4])->(∀b o,H' b=some o->b≠r->H'' b=some o)->H'' r=some (.lst (vN (pre++(xs.take i).flatMap g++g x)))->N σ' H'')->tg (.ref c) σ H' fun σ2 H2=>tb { D with nx:=N,ct:=N,bk:=D.nx } σ2 H2)
 (fin:∀σ' H',(∃w2 w3 w4:Option V,σ'=[some (.ref d),some (.ref r),w2,w3,w4])->(∀b o,H b=some o->b≠r->H' b=some o)->H' r=some (.lst (vN (pre++xs.flatMap g)))->D.nx σ' H') :
 ∃W:Nat->Nat->L2.St->Hp->Prop,(∃m,W 0 m [some (.ref d),some (.ref r),v2,v3,v4] H)/\∀i m σ H,W i m σ H->
  ((Itl K a).stop i H/\D.nx σ H)\/((Itl K a).go i H/\∃N:L2.St->Hp->Prop,(∀σ' H',N σ' H'->∃m',m'<m/\W (i+1) m' σ' H')/\∀x H',(Itl K a).yld i H x H'->tg x σ H' fun σ2 H2=>tb { D with nx:=N,ct:=N,bk:=D.nx } σ2 H2):=by
 refine Abn (K:=K) (a:=a) (xs:=as.map V.ref) (fun i σ H'=>(∃w2 w3 w4:Option V,σ=[some (.ref d),some (.ref r),w2,w3,w4])/\(∀b o,H b=some o->b≠r->H' b=some o)/\H' r=some (.lst (vN (pre++(xs.take i).flatMap g)))) ⟨⟨_,_,_,rfl⟩,fun b o e _=>e,by simpa using hr⟩ (fun i σ H' _ ⟨_,k1,_⟩=>SqL.of (k1 _ _ ha (acU nr))) ?_ ?_
 ·rintro i y σ H' hi ⟨hσ,k1,hr1⟩;obtain⟨c,hc,rfl⟩:=Aac hi;obtain⟨x,hx,hcx⟩:=L.at_ i c hc;have ncr:c≠r:=Ac2 hcx hr (by intro z;cases z);refine step i x c σ H' _ hx hσ (k1 _ _ hcx ncr) hr1 k1 fun σ' H'' hs k2 h2=>⟨hs,fun b o e n=>k2 b o (k1 b o e n) n,?_⟩
  rw[h2,Aai hx,aeO,aeN];simp
 ·rintro σ H' ⟨hσ,k1,hr1⟩;rw[aaA,L.len,acA]at hr1;exact fin σ H' hσ k1 hr1
theorem TupsAt.but {α:Type}{tv:α->List V}{H H':Hp}{as:List Addr}{xs:List α}{r:Addr}{zs:List V}(h:TupsAt tv H as xs)(k:∀b o,H b=some o->b≠r->H' b=some o)(hr:H r=some (.lst zs)):TupsAt tv H' as xs :=
 ⟨h.len,fun i c hc=>let ⟨x,ex,hx⟩:=h.at_ i c hc;⟨x,ex,k _ _ hx (Ac2 hx hr (by intro z;cases z))⟩⟩
theorem Aj3 (p:Pt):(ptN p).length=8:=by unfold ptN bO;simp[Ae3]
theorem Ajd (l:Nat×Nat):(lnN l).length=4:=by unfold lnN bO;simp[Ae3]
theorem Am5 (m:Mark):(mkN m).length=12:=by unfold mkN bO;simp[Ae3]
theorem scWD:Aaa ["drawing","row","point","line","mark"] ["drawing"] (Aa6 sWD):=fsc
theorem Bcr {f fB fH C:Addr}{fd fdB fdH:aaX}(F:Def K mg "write_drawing" sWD ["drawing"] f fd)(FB:Def K mg "bytes_of" sBO ["numbers","sizes"] fB fdB)(FH:Def K mg "head_for" sHF ["drawing"] fH fdH)(T:Ac7 K C)(c:Cst K mg)(nl:mg "len" = none)(nz:mg "zip" = none)(nr:mg "range" = none)(nli:mg "list" = none) :
 FnOk P w K mg base CX0 2 f fd ["drawing"] (Bdm C):=by
 have GB:FnOk P w K mg base CX0 1 fB fdB ["numbers","sizes"] (Bdp K):=Bcz FB nz nr;have GH:FnOk P w K mg base CX0 1 fH fdH ["drawing"] (Bc8 C):=Bam FH T nl;obtain⟨aL,mL,sL⟩:=c.letters;obtain⟨aH,mH,sH⟩:=c.hsz;obtain⟨aP,mP,sP⟩:=c.psz;obtain⟨aN,mN,sN⟩:=c.lsz;obtain⟨aM,mM,sM⟩:=c.msz;refine F.go scWD fun cdv A o s H vs Q E hr h=>?_;obtain⟨d,S,pa,la,ma,as,ls,ms,rfl,D,k⟩:=h
 refine⟨_,Aa2 (pS 1 scWD.nd (Aay Aqs (Agf Ala rfl nli (by decide +kernel) (Aa0 (Aaq (v:=V.ref aL) rfl mL rfl) Aa3)) (pCD FB GB hr (Aa0 (pCD FH GH hr (Aa0 (pv 0) Aa3)) (Aa0 (Aaq (v:=V.ref aH) rfl mH rfl) Aa3)))))
  (Aa2 (Aao aaQ rfl (Aaw (Aaj (pv 0) rfl)) (pG 2 scWD.nd) (Aa4 (Abc (Ad9 abK agG agF Aej (pv 1) (Aa0 (pCD FB GB hr (Aa0 (pv 2) (Aa0 (Aaq (v:=V.ref aP) rfl mP rfl) Aa3))) Aa3)))))
  (Aa2 (Aao aaQ rfl (Aaw (Aaj (pv 0) rfl)) (pG 3 scWD.nd) (Aa4 (Abc (Ad9 abK agG agF Aej (pv 1) (Aa0 (pCD FB GB hr (Aa0 (pv 3) (Aa0 (Aaq (v:=V.ref aN) rfl mN rfl) Aa3))) Aa3)))))
  (Aa2 (Aao aaQ rfl (Aaw (Aaj (pv 0) rfl)) (pG 4 scWD.nd) (Aa4 (Abc (Ad9 abK agG agF Aej (pv 1) (Aa0 (pCD FB GB hr (Aa0 (pv 4) (Aa0 (Aaq (v:=V.ref aM) rfl mM rfl) Aa3))) Aa3)))))
  (Aa4 (Aa9 (pv 1)))))),?_⟩
 refine⟨aL,_,rfl,.inr (sL H),fun t0 ht0=>?_⟩;have s1:=Same.new (o:=.lst [.int 71,.int 76,.int 65,.int 49]) ht0;refine⟨_,rfl,d,S,pa,la,ma,as,ls,ms,rfl,D.same s1,fun t ht=>?_⟩;have s2:=Same.new (o:=.tup (vN (hdN S))) ht;refine⟨t,aH,hdN S,[4,4,2,2,2,2],rfl,SqT.of Aa1,sH _,rfl,(by decide),(by decide),fun H3 b0 s3 hb0 hb3=>?_⟩;have h03:H3 t0=some (.lst [.int 71,.int 76,.int 65,.int 49]):=s3 _ _ (s2 _ _ Aa1)
 have s13:=(s1.trans s2).trans s3;have bl:=Asg (hdN S) [4,4,2,2,2,2] (by decide);have vl:∀l:List Nat,(vN l).length=l.length:=fun l=>by unfold vN;rw[aaA]
 refine⟨t0,b0,_,_,rfl,rfl,h03,hb3,?_,fun r hr0=>?_⟩
 ·rw[vl];exact abI (show 4+_<=1000 by simp at bl;lia) (by decide)
 have H4r:upd H3 r (.lst ([.int 71,.int 76,.int 65,.int 49]++vN (bO (hdN S) [4,4,2,2,2,2]))) r=some (.lst (vN ([71,76,65,49]++bO (hdN S) [4,4,2,2,2,2]))):=by rw[Aa1];unfold vN;rw[aaU];rfl
 have s4:=Same.new (o:=.lst ([.int 71,.int 76,.int 65,.int 49]++vN (bO (hdN S) [4,4,2,2,2,2]))) hr0;have D4:=(D.same s13).same s4;have r0:H r=none:=s13.free hr0;have s14:=s13.trans s4;generalize upd H3 r (.lst ([.int 71,.int 76,.int 65,.int 49]++vN (bO (hdN S) [4,4,2,2,2,2])))=H4 at *;have nrp:r≠pa:=fun z=>by have:=D.pts;rw[<-z,r0]at this;cases this
 have nrl:r≠la:=fun z=>by have:=D.lns;rw[<-z,r0]at this;cases this
 have nrm:r≠ma:=fun z=>by have:=D.mks;rw[<-z,r0]at this;cases this
 obtain⟨dx,hd4⟩:=D4.ins;have nrd:d≠r:=Ac2 hd4 H4r (by intro z;cases z);have L0:([71,76,65,49]++bO (hdN S) [4,4,2,2,2,2]).length<=100:=by rw[aaM];simp at bl ⊢;lia
 have np:=D.nP;have nL:=D.nL;have nM:=D.nM;refine⟨_,rfl,d,C,dx,_,_,rfl,hd4,T.cl,T.nP,Ad0 _ _ _ _ _,pa,rfl,⟨_,SqL.of D4.pts⟩,Ajp (C:=C) (j:=0) (bT:=0) (nv:=fun _=>[]) (sz:=[]) (g:=ptN) H4r D4.pts D4.ptsX nrp ?_ ?_⟩
 ·rintro i x c σ H' N hx ⟨w2,w3,w4,rfl⟩ hc hr1 k1 nx;refine⟨_,rfl,.inl ⟨rfl,_,SqL.of hr1⟩,_,rfl,c,aP,[x.x,x.y],[4,4],rfl,SqT.of hc,sP _,rfl,(by decide),(by decide),fun H5 b s5 hb0 hb5=>?_⟩;refine⟨r,b,_,_,rfl,rfl,s5 _ _ hr1,hb5,?_,nx _ _ ⟨_,_,_,rfl⟩ (fun b2 o e n=>by rw[Aa5 n];exact s5 _ _ e) (by rw[Aa1];exact congrArg (fun z=>some (HO.lst z)) (Apg _ _).symm)⟩;have fl:=Ads ptN 8 (fun x=>aeL (Aj3 x)) (S.pts.take i)
  rw[abJ]at fl;rw[vl,vl,aaM,show(bO [x.x,x.y] [4,4]).length=8 from Aj3 x];exact abI (show _<=500000 by lia) (by decide)
 rintro σ5 H5 ⟨w2,w3,w4,rfl⟩ k5 hr5;have fl1:=Ads ptN 8 (fun x=>aeL (Aj3 x)) S.pts;have L1:([71,76,65,49]++bO (hdN S) [4,4,2,2,2,2]++S.pts.flatMap ptN).length<=100+8*S.pts.length:=by rw[aaM];lia
 refine⟨_,rfl,d,C,dx,_,_,rfl,k5 _ _ hd4 nrd,T.cl,T.nL,Aft _ _ _ _ _,la,rfl,⟨_,SqL.of (k5 _ _ D4.lns (acU nrl))⟩,Ajp (C:=C) (j:=0) (bT:=0) (nv:=fun _=>[]) (sz:=[]) (g:=lnN) hr5 (k5 _ _ D4.lns (acU nrl)) (TupsAt.but (tv:=lnV) (⟨D4.lnsA.len,D4.lnsA.at_⟩ : TupsAt lnV H4 ls S.lines) k5 H4r) nrl ?_ ?_⟩
 ·rintro i x c σ H' N hx ⟨w2,w3,w4,rfl⟩ hc hr1 k1 nx;refine⟨_,rfl,.inl ⟨rfl,_,SqL.of hr1⟩,_,rfl,c,aN,[x.1,x.2],[2,2],rfl,SqT.of hc,sN _,rfl,(by decide),(by decide),fun H5 b s5 hb0 hb5=>?_⟩;refine⟨r,b,_,_,rfl,rfl,s5 _ _ hr1,hb5,?_,nx _ _ ⟨_,_,_,rfl⟩ (fun b2 o e n=>by rw[Aa5 n];exact s5 _ _ e) (by rw[Aa1];exact congrArg (fun z=>some (HO.lst z)) (Apg _ _).symm)⟩;have fl:=Ads lnN 4 (fun x=>aeL (Ajd x)) (S.lines.take i)
  rw[abJ]at fl;rw[vl,vl,aaM,show(bO [x.1,x.2] [2,2]).length=4 from Ajd x];exact abI (show _<=500000 by lia) (by decide)
 rintro σ6 H6 ⟨w2,w3,w4,rfl⟩ k6 hr6;have fl2:=Ads lnN 4 (fun x=>aeL (Ajd x)) S.lines;have L2:([71,76,65,49]++bO (hdN S) [4,4,2,2,2,2]++S.pts.flatMap ptN++S.lines.flatMap lnN).length<=100+8*S.pts.length+4*S.lines.length:=by rw[aaM];lia
 have k46:∀b o,H4 b=some o->b≠r->H6 b=some o:=fun b o e n=>k6 b o (k5 b o e n) n;refine⟨_,rfl,d,C,dx,_,_,rfl,k46 _ _ hd4 nrd,T.cl,T.nM,Amk _ _ _ _ _,ma,rfl,⟨_,SqL.of (k46 _ _ D4.mks (acU nrm))⟩,Ajp (C:=C) (j:=0) (bT:=0) (nv:=fun _=>[]) (sz:=[]) (g:=mkN) hr6 (k46 _ _ D4.mks (acU nrm)) (TupsAt.but D4.mksX k46 H4r) nrm ?_ ?_⟩
 ·rintro i x c σ H' N hx ⟨w2,w3,w4,rfl⟩ hc hr1 k1 nx;refine⟨_,rfl,.inl ⟨rfl,_,SqL.of hr1⟩,_,rfl,c,aM,[x.at_.x,x.at_.y,x.glass,x.painting],[4,4,2,2],rfl,SqT.of hc,sM _,rfl,(by decide),(by decide),fun H5 b s5 hb0 hb5=>?_⟩;refine⟨r,b,_,_,rfl,rfl,s5 _ _ hr1,hb5,?_,nx _ _ ⟨_,_,_,rfl⟩ (fun b2 o e n=>by rw[Aa5 n];exact s5 _ _ e) (by rw[Aa1];exact congrArg (fun z=>some (HO.lst z)) (Apg _ _).symm)⟩
  have fl:=Ads mkN 12 (fun x=>aeL (Am5 x)) (S.marks.take i);rw[abJ]at fl;rw[vl,vl,aaM,show(bO [x.at_.x,x.at_.y,x.glass,x.painting] [4,4,2,2]).length=12 from Am5 x];exact abI (show _<=500000 by lia) (by decide)
 rintro σ7 H7 ⟨w2,w3,w4,rfl⟩ k7 hr7
 exact⟨_,rfl,k H7 r (fun b o e=>by
  have n:b≠r:=Aa8 e r0
  exact k7 b o (k46 b o (s14 _ _ e) n) n) hr7⟩
abbrev sTG:afD:=top Ago
abbrev sDT:afD:=top Agq
def Bdn (C:Addr):Sp:=fun vs H Q _=>∃(d:Addr) (S:Plan) (pa la ma:Addr) (as ls ms:List Addr),vs=[.ref d]/\DrW C H d S pa la ma as ls ms/\∀H',Same H H'->Q (.bl (!S.fits)) H'
def nJ (l:List Nat):List Int:=l.map fun(n:Nat)=>(n:Int)
def drN (S:Plan):List Int:=if S.fits=true then 0::(wrN S).length::nJ (wrN S)else [-6]
def Bc9 (C:Addr):Sp:=fun vs H Q _=>∃(d:Addr) (S:Plan) (pa la ma:Addr) (as ls ms:List Addr),vs=[.ref d]/\DrW C H d S pa la ma as ls ms/\∀(H':Hp) (r:Addr),Same H H'->H' r=some (.lst ((drN S).map V.int))->Q (.ref r) H'
theorem scTG:Aaa ["drawing","number","bounds"] ["drawing"] (Aa6 sTG):=fsc
theorem Bec:Aaa ["drawing"] ["drawing"] (Aa6 sDT):=fsc
def okH (S:Plan)(i:Nat):Prop:=∀j x n,j<i->(hdN S)[j]?=some x->headN[j]?=some n->x<=n.2.2.2
theorem Ans (S:Plan):S.fits=true↔okH S 6:=by
 constructor
 ·intro h j x n hj hx hn;unfold Gla.Plan.fits at h;simp only[acH,dtt]at h;obtain⟨h1,h2,h3,h4,h5⟩:=h
  match j,hj with
  | 0,_=>cases hx;cases hn;exact h1
  | 1,_=>cases hx;cases hn;exact h2
  | 2,_=>cases hx;cases hn;exact h3
  | 3,_=>cases hx;cases hn;exact h4
  | 4,_=>cases hx;cases hn;exact h5
  | 5,_=>cases hx;cases hn;exact aaK _
 ·intro h;unfold Gla.Plan.fits;simp only[acH,dtt];exact⟨h 0 _ _ (by decide) rfl rfl,h 1 _ _ (by decide) rfl rfl,h 2 _ _ (by decide) rfl rfl,h 3 _ _ (by decide) rfl rfl,h 4 _ _ (by decide) rfl rfl⟩
theorem Bcs {f fH C aH:Addr}{fd fdH:aaX}{hs:List Addr}(F:Def K mg "is_too_great" sTG ["drawing"] f fd)(FH:Def K mg "head_for" sHF ["drawing"] fH fdH)(T:Ac7 K C)(TH:THead K mg aH hs)(nl:mg "len" = none)(nz:mg "zip" = none):FnOk P w K mg base CX0 2 f fd ["drawing"] (Bdn C):=by
 have GH:FnOk P w K mg base CX0 1 fH fdH ["drawing"] (Bc8 C):=Bam FH T nl;refine F.go scTG fun cdv A o s H vs Q E hr h=>?_;obtain⟨d,S,pa,la,ma,as,ls,ms,rfl,D,k⟩:=h
 refine⟨_,Aa2 (Aao aaQ rfl (Aqq rfl nz (Aa0 (pCD FH GH hr (Aa0 (pv 0) Aa3)) (Aa0 (Aaq (v:=V.ref aH) rfl TH.mH rfl) Aa3))) (Abi rfl (Aab (pG 1 scTG.nd) (Aab (pG 2 scTG.nd) Aax)))
  (Aa4 (Aav (Aak Adb (pv 1) (pIT (pv 2) Aa7) (Aan _)) (Aa4 (Aa9 Acs)) Aag)))
  (Aa4 (Aa9 Acs)),?_⟩
 refine⟨_,rfl,d,S,pa,la,ma,as,ls,ms,rfl,D,fun t0 ht0=>?_⟩;have s1:=Same.new (o:=.tup (vN (hdN S))) ht0;have h6:(vN (hdN S)).length=6:=rfl
 refine⟨t0,aH,vN (hdN S),hs.map V.ref,rfl,SqT.of Aa1,TH.sH _,Anp (K:=K) (a:=t0) (b:=aH) (xs:=vN (hdN S)) (ys:=hs.map V.ref) (fun i σ H'=>(∃v1 v2:Option V,σ=[some (.ref d),v1,v2])/\Same (upd H t0 (.tup (vN (hdN S)))) H'/\okH S i)
  ⟨⟨_,_,rfl⟩,Same.refl _,fun j x n hj=>absurd hj (Nat.not_lt_zero _)⟩ (by rw[h6,aaA,TH.len]) (fun i σ H' _ ⟨_,s2,_⟩=>⟨SqT.of (s2 _ _ Aa1),TH.sH _⟩) ?_ ?_⟩
 ·rintro i x y σ H' t hx hy ⟨⟨v1,v2,rfl⟩,s2,ok⟩ ht;obtain⟨c,hc,rfl⟩:=Aac hy;obtain⟨n,hn,sc⟩:=TH.at_ i c hc;obtain⟨m,hm,rfl⟩ : ∃m,(hdN S)[i]?=some m/\x=.int (m:Nat):=by
   unfold vN at hx;rw[aaH]at hx;cases q:(hdN S)[i]? with
   | none=>rw[q]at hx;cases hx
   | some n=>rw[q]at hx;cases hx;exact⟨n,rfl,rfl⟩
  have st:=Same.new (o:=.tup [.int (m:Nat),.ref c]) ht;refine⟨t,_,rfl,SqT.of Aa1,rfl,_,_,rfl,_,_,rfl,rfl,?_⟩;refine⟨_,rfl,_,rfl,c,_,_,.int (n.2.2.2:Nat),rfl,rfl,sc _,rfl,_,_,rfl,rfl,_,rfl,?_⟩;refine Abj (fun e=>?_) (fun e=>?_)
  ·simp only[dtt]at e;have nf:S.fits=false:=by
    cases q:S.fits with
    | false=>rfl
    | true=>have:=(Ans S).1 q i m n (by have:=(aaB.mp hm).1;exact this) hm hn;lia
   have:=k _ ((s1.trans s2).trans st);rw[nf]at this;exact this
  ·simp only[dtt]at e;refine⟨⟨_,_,rfl⟩,s2.trans st,fun j x2 n2 hj h1 h2=>?_⟩
   by_cases z:j=i
   ·subst z;rw[hm]at h1;rw[hn]at h2;cases h1;cases h2;lia
   ·exact ok j x2 n2 (by lia) h1 h2
 ·rintro σ H' ⟨⟨v1,v2,rfl⟩,s2,ok⟩;have:=k H' (s1.trans s2);rw[(Ans S).2 ok]at this;exact this
theorem Aw5 (S:Plan):(wrN S).length=20+8*S.pts.length+4*S.lines.length+12*S.marks.length:=by
 have f:∀{α:Type} (g:α->List Nat) (k:Nat),(∀x,(g x).length=k)->∀l:List α,(l.flatMap g).length=k*l.length:=fun {α} g k hg l=>by
  induction l with
  | nil=>simp
  | cons x l ih=>rw[aiJ,aaM,hg,ih,aaZ,Nat.mul_succ];lia
 unfold wrN;rw[aaM,aaM,aaM,aaM,f ptN 8 Aj3,f lnN 4 Ajd,f mkN 12 Am5];have:(bO (hdN S) [4,4,2,2,2,2]).length=16:=by unfold bO hdN;simp[Ae3]
 rw[this];simp
theorem Bcy {f fG fW fR C:Addr}{fd fdG fdW fdR:aaX}(F:Def K mg "drawing_told" sDT ["drawing"] f fd)(FG:Def K mg "is_too_great" sTG ["drawing"] fG fdG)(GG:FnOk P w K mg base CX0 2 fG fdG ["drawing"] (Bdn C))(FW:Def K mg "write_drawing" sWD ["drawing"] fW fdW)(GW:FnOk P w K mg base CX0 2 fW fdW ["drawing"] (Bdm C))(FR:Def K mg "row_told" Bbt ["row"] fR fdR)(nl:mg "len" = none) :
 FnOk P w K mg base CX0 3 f fd ["drawing"] (Bc9 C):=by
 have GR:FnOk P w K mg base CX0 1 fR fdR ["row"] Azi:=Bak FR nl;refine F.go Bec fun cdv A o s H vs Q E hr h=>?_;obtain⟨d,S,pa,la,ma,as,ls,ms,rfl,D,k⟩:=h;have hr1:Room 1 _:=hr.mono (by decide)
 refine⟨_,Aa2 (Aav (Aed (pCD FG GG hr (Aa0 (pv 0) Aa3)) (fun _=>rfl)) (Aa4 (Aa9 (Abb (Aa0 (Alw Ag5 Aa7) Aa3)))) Aag)
  (Aa4 (Aa9 (pCD FR GR hr1 (Aa0 (pCD FW GW hr (Aa0 (pv 0) Aa3)) Aa3)))),?_⟩
 refine⟨_,rfl,d,S,pa,la,ma,as,ls,ms,rfl,D,fun H1 s1=>?_⟩;refine⟨!S.fits,rfl,?_⟩;cases hf:S.fits with
 | false =>
  refine Arl ?_;refine⟨_,rfl,sz1,fun q hq=>k _ q (s1.trans (Same.new hq)) ?_⟩;rw[Aa1];unfold drN;rw[hf,ifn abG];rfl
 | true =>
  refine Ali ?_;refine⟨_,rfl,d,S,pa,la,ma,as,ls,ms,rfl,D.same s1,fun H2 r s2 hr2=>⟨r,_,rfl,hr2,?_,fun H3 q s3 hq=>k H3 q ((s1.trans s2).trans s3) ?_⟩⟩
  ·have n1:=D.nP;have n2:=D.nL;have n3:=D.nM;unfold vN;rw[aaA,Aw5];lia
  ·rw[hq];unfold drN;rw[hf,ifp rfl];unfold vN nJ;simp only[abE,aaA,acC];rfl
abbrev sPO:afD:=top Am9
abbrev Bbu:afD:=top Aku
structure PrsAt (H:Hp)(cs:List Addr)(xs:List (Pt×Pt)):Prop where
 len:cs.length=xs.length
 at_:∀(i:Nat) (c:Addr),cs[i]?=some c->∃x a b,xs[i]?=some x/\H c=some (.tup [.ref a,.ref b])/\H a=some (.tup (ptV x.1))/\H b=some (.tup (ptV x.2))
def Tk (H H':Hp):Prop:=∀b ts,H b=some (.tup ts)->H' b=some (.tup ts)
theorem Tk.of {H H':Hp}(e:Same H H'):Tk H H':=fun _ _ h=>e _ _ h
theorem Tk.at_ {H:Hp}{q:Addr}{o u:HO}(h:H q=some o)(n:∀ts,o≠.tup ts):Tk H (upd H q u):=fun b ts e=>by
 rw[Aa5 fun z=>by rw[z,h]at e;cases e;exact n _ rfl];exact e
theorem PrsAt.tk {H H':Hp}{cs:List Addr}{xs:List (Pt×Pt)}(h:PrsAt H cs xs)(e:Tk H H'):PrsAt H' cs xs:=⟨h.len,fun i c hc=>let ⟨x,a,b,h1,h2,h3,h4⟩:=h.at_ i c hc;⟨x,a,b,h1,e _ _ h2,e _ _ h3,e _ _ h4⟩⟩
theorem TupsAt.tk {α:Type}{tv:α->List V}{H H':Hp}{as:List Addr}{xs:List α}(h:TupsAt tv H as xs)(e:Tk H H'):TupsAt tv H' as xs:=⟨h.len,fun i c hc=>let ⟨x,h1,h2⟩:=h.at_ i c hc;⟨x,h1,e _ _ h2⟩⟩
theorem PrsAt.push {H:Hp}{cs:List Addr}{xs:List (Pt×Pt)}{t a b:Addr}{x:Pt×Pt}(h:PrsAt H cs xs)(ht:H t=some (.tup [.ref a,.ref b]))(ha:H a=some (.tup (ptV x.1)))(hb:H b=some (.tup (ptV x.2))):PrsAt H (cs++[t]) (xs++[x]):=by
 refine⟨by rw[aaM,aaM,h.len];rfl,fun i c hc=>?_⟩
 by_cases e:i<cs.length
 ·rw[acL e]at hc;rw[acL (by rw[<-h.len];exact e)];exact h.at_ i c hc
 ·have:=(aaB.mp hc).1;rw[aaM]at this;obtain rfl:i=cs.length:=by simp at this;lia
  simp at hc;subst hc;exact⟨x,a,b,by rw[h.len];simp,ht,ha,hb⟩
def Bdo (C:Addr):Sp:=fun vs H Q _=>∃(d:Addr) (S:Plan) (pa la ma:Addr) (as ls ms:List Addr),vs=[.ref d]/\DrW C H d S pa la ma as ls ms/\(∀l,l∈S.lines->l.1<S.pts.length/\l.2<S.pts.length)/\
 ∀(H':Hp) (p:Addr) (cs:List Addr),Same H H'->H' p=some (.lst (cs.map V.ref))->PrsAt H' cs S.drawn->Q (.ref p) H'
def Bdq (x y z:Str):Scope:={ kind:=.function,names:=[(aaY ".0",.local),(x,.local),(y,.local),(z,.free)],isGenerator:=false,isCoroutine:=false }
theorem As3 {S:Plan}{i:Nat}{l:Nat×Nat}(h:S.lines[i]?=some l):S.drawn[i]?=some (S.pt l.1,S.pt l.2):=by unfold akV;rw[aaH,h];rfl
theorem Ah0 (S:Plan):S.drawn.length=S.lines.length:=by unfold akV;rw[aaA]
theorem Av3 {H:Hp}{as:List Addr}{S:Plan}(L:TupsAt ptV H as S.pts){i:Nat}(hi:i<S.pts.length):∃c,as[i]?=some c/\H c=some (.tup (ptV (S.pt i))):=by
 obtain⟨c,hc⟩ : ∃c,as[i]?=some c:=⟨_,aaE (by rw[L.len];exact hi)⟩
 obtain⟨p,hp,e⟩:=L.at_ i c hc;refine⟨c,hc,?_⟩;unfold akP;rw[abN,hp];exact e
theorem scPO:Aaa ["drawing","points","first","second"] ["drawing"] (Aa6 sPO):=fsc
theorem Bf0:Ase ["drawing","points","first","second"] (Aa6 sPO) (Bdq "first" "second" "points") [("first",2),("second",3)]=true:=by decide +kernel
theorem Bcu {f C:Addr}{fd:aaX}(F:Def K mg "pairs_of" sPO ["drawing"] f fd)(T:Ac7 K C):FnOk P w K mg base CX0 1 f fd ["drawing"] (Bdo C):=by
 refine F.go scPO fun cdv A o s H vs Q E hr h=>?_;obtain⟨d,S,pa,la,ma,as,ls,ms,rfl,D,lin,k⟩:=h;obtain⟨dx,hd⟩:=D.ins
 refine⟨_,Aa2 (pS 1 scPO.nd (Aaj (pv 0) rfl) (hx:=anD rfl))
  (Aa4 (Aa9 (Atg (g:=Bd7 K 2 (Arw (Ahq 2) (Arw (Ahq 3) Bd8))) (te:=Bbp (Ab6 (tOp (Ayo K) (Abv 1) (Abv 2)) (Ab6 (tOp (Ayo K) (Abv 1) (Abv 3)) Ahb))) (own:=[("first",2),("second",3)]) rfl scPO.nd (Aaw (Aaj (pv 0) rfl)) (Abu Bf0) (fun _ _ _ _ _=>Abi rfl (Aab (pG 2 scPO.nd) (Aab (pG 3 scPO.nd) Aax))) (fun _ _ _ _ _=>Ad5)
   (fun _ _ _ _ _=>Abd (Aa0 (pIL (pv 1) (pv 2)) (Aa0 (pIL (pv 1) (pv 3)) Aa3)))))),?_⟩
 refine⟨_,rfl,d,C,dx,_,_,rfl,hd,T.cl,T.nP,Ad0 _ _ _ _ _,_,rfl,d,C,dx,_,_,rfl,hd,T.cl,T.nL,Aft _ _ _ _ _,la,rfl,⟨_,SqL.of D.lns⟩,fun D1 hD1=>?_⟩;refine Adf (K:=K) (a:=la) (xs:=ls.map V.ref) (fun i H'=>∃cs:List Addr,Same H H'/\H' D1=some (.lst (cs.map V.ref))/\PrsAt H' cs (S.drawn.take i)) ⟨[],Same.new hD1,Aa1,rfl,fun i c h=>by cases h⟩ (fun i H' _ ⟨_,s1,_⟩=>SqL.of (s1 _ _ D.lns)) ?_ ?_
 ·rintro i y H' hi ⟨cs,s1,hd1,L⟩;obtain⟨c,hc,rfl⟩:=Aac hi;obtain⟨l,hl,lc⟩:=D.lnsA.at_ i c hc;have ll:=lin l (aaJ hl);have il:=(aaB.mp hl).1;have lc':H c=some (.tup [.int l.1,.int l.2]):=lc;obtain⟨a,ha,ea⟩:=Av3 D.ptsX ll.1;obtain⟨b,hb,eb⟩:=Av3 D.ptsX ll.2;have hpa:=s1 _ _ D.pts;have cl:cs.length=i:=by
   have:=L.len;rw[abJ,Ah0]at this;lia
  refine⟨c,_,rfl,SqT.of (s1 _ _ lc'),rfl,_,_,rfl,_,_,rfl,rfl,rfl,?_⟩;unfold Asw;dsimp only
  first | rw[ifp rfl] | rw[ifp trivial]
  refine⟨_,rfl,_,rfl,pa,_,_,V.ref a,rfl,rfl,SqL.of hpa,atr ha,_,rfl,_,rfl,pa,_,_,V.ref b,rfl,rfl,SqL.of hpa,atr hb,sz2,fun t ht=>?_⟩;have s2:=Same.new (o:=.tup [.ref a,.ref b]) ht;have n1:=D.nL;refine⟨_,s2 _ _ hd1,by rw[aaA,cl];exact szN (by lia),cs++[t],Same.grow s1 hD1 s2,?_,?_⟩
  ·rw[Aa1,aaU];rfl
  ·rw[Aai (As3 hl)];refine PrsAt.tk (PrsAt.push (L.tk (.of s2)) Aa1 (s2 _ _ (s1 _ _ ea)) (s2 _ _ (s1 _ _ eb))) (Tk.at_ (s2 _ _ hd1) (by intro _ z;cases z))
 ·rintro H' ⟨cs,s1,hd1,L⟩;rw[aaA,D.lnsA.len,<-Ah0,acA]at L;exact k H' D1 cs s1 hd1 L
def Alj (xs:List (Pt×Pt)):List Pt:=xs.flatMap fun x=>[x.1,x.2]
def pN (p:Pt):Nat×Nat:=(p.x,p.y)
theorem Avh {p q:Pt}(h:pN p=pN q):p=q:=by
 cases p;cases q;unfold pN at h;cases h;rfl
def hI (ns:List Int):List Int:=[ns.getD 1 0,ns.getD 0 0]
def WP (ns:List Int):Prop:=∃(p:Pt) (r:List Int),ns=(p.x:Int)::(p.y:Int)::r
theorem Bdt:Av0 Azl WP hI:=fun H a ns Q ⟨p,r,e⟩ h q=>by
 subst e;exact⟨a,p,rfl,⟨r.map V.int,h⟩,fun t ht=>q t _ (Same.new ht) Aa1⟩
def ptI (p:Pt):List Int:=[(p.x:Int),(p.y:Int)]
theorem Bax (p q:Pt)(r s:List Int):G.ltI (hI ((p.x:Int)::(p.y:Int)::r)) (hI ((q.x:Int)::(q.y:Int)::s))=p.below q:=by
 have:=Ajc (p.y,p.x) (q.y,q.x);rw[show G.ltI (hI ((p.x:Int)::(p.y:Int)::r)) (hI ((q.x:Int)::(q.y:Int)::s))=G.ltI (wI (p.y,p.x)) (wI (q.y,q.x))from rfl,this];rw[adC];unfold Pt.below;simp
theorem Asf {p q:Pt}(h:q.below p=false)(n:p≠q):p.below q=true:=by
 unfold Pt.below at *;simp at *
 by_cases e:p.y<q.y
 ·exact .inl e
 ·refine .inr ⟨by lia,?_⟩;have e2:p.y=q.y:=by lia
  have:=h.2 e2.symm;have:p.x≠q.x:=fun z=>n (by cases p;cases q;cases z;cases e2;rfl);lia
theorem Bba {l:List (Nat×Nat)}{e:Nat×Nat}(h:e∈l):Aeq (gK l) (wK e) (V.bl true)=gK l:=by
 have a:((gK l).any fun kv=>decide (kv.1=wK e))=true:=by rw[Acq,Al1,dtt];exact h
 unfold Aeq;rw[ifp a];have:∀kv∈gK l,(if kv.1=wK e then(kv.1,V.bl true)else kv)=kv:=fun kv hk=>by
  obtain⟨x,_,rfl⟩:=aaN.1 hk
  split<;>rfl
 rw[ajW this,List.map_id']
def Aw0 (D:List (Nat×Nat))(e:Nat×Nat):List (Nat×Nat):=if e∈D then D else D++[e]
theorem Avp (D:List (Nat×Nat))(e:Nat×Nat):Aeq (gK D) (wK e) (V.bl true)=gK (Aw0 D e):=by
 unfold Aw0
 by_cases h:e∈D
 ·rw[ifp h,Bba h]
 ·rw[ifn h,Avo h]
theorem Ayk {D:List (Nat×Nat)}{e:Nat×Nat}(h:D.Nodup):(Aw0 D e).Nodup:=by
 unfold Aw0
 by_cases q:e∈D
 ·rw[ifp q];exact h
 ·rw[ifn q];exact Am3 h q
theorem Auy {D:List (Nat×Nat)}{e x:Nat×Nat}:x∈Aw0 D e↔x∈D\/x=e:=by
 unfold Aw0
 by_cases q:e∈D
 ·rw[ifp q];exact⟨.inl,fun h=>h.elim id fun z=>by rw[z];exact q⟩
 ·rw[ifn q,abH,abF]
def few (xs:List (Pt×Pt)):Prop:=∀l:List Pt,l.Nodup->(∀p,p∈l->p∈Alj xs)->l.length<=20000
structure Ptd (xs:List (Pt×Pt))(ps:List Pt):Prop where
 mem:∀p,p∈ps↔p∈Alj xs
 ord:ps.Pairwise fun p q=>p.below q=true
theorem Ah8 (p:Pt):p.below p=false:=by unfold Pt.below;simp
theorem Ptd.nd {xs:List (Pt×Pt)}{ps:List Pt}(h:Ptd xs ps):ps.Nodup:=h.ord.imp fun {a b} e z=>by subst z;rw[Ah8]at e;cases e
def Azj:Sp:=fun vs H Q _=>∃(p:Addr) (cs:List Addr) (xs:List (Pt×Pt)),vs=[.ref p]/\H p=some (.lst (cs.map V.ref))/\PrsAt H cs xs/\few xs/\
 ∀(H':Hp) (q:Addr) (as:List Addr) (ps:List Pt),Same H H'->H q=none->H' q=some (.lst (as.map V.ref))->TupsAt ptV H' as ps->Ptd xs ps->Q (.ref q) H'
theorem As0 {xs:List (Pt×Pt)}{i:Nat}{x:Pt×Pt}(h:xs[i]?=some x):Alj (xs.take (i+1))=Alj (xs.take i)++[x.1,x.2]:=by
 unfold Alj;rw[Aai h,aeO];simp
theorem Al5 {xs:List (Pt×Pt)}{i:Nat}{p:Pt}(h:p∈Alj (xs.take i)):p∈Alj xs:=by
 obtain⟨x,hx,hp⟩:=adG.1 h;exact adG.2 ⟨x,afF hx,hp⟩
def Fnd (D:List (Nat×Nat))(ps:List Pt):Prop:=D.Nodup/\∀e,e∈D↔e∈ps.map pN
theorem Fnd.add {D:List (Nat×Nat)}{ps:List Pt}(h:Fnd D ps)(p:Pt):Fnd (Aw0 D (pN p)) (ps++[p]):=⟨Ayk h.1,fun e=>by rw[Auy,h.2,aaU,abH];simp⟩
theorem Fnd.pts {D:List (Nat×Nat)}{ps:List Pt}(h:Fnd D ps):∃l:List Pt,l.Nodup/\D=l.map pN/\∀p,p∈l↔p∈ps:=by
 refine⟨D.map fun e=>⟨e.1,e.2⟩,?_,?_,fun p=>?_⟩
 ·rw[abQ,adL];exact(abQ.1 h.1).imp fun {a b} n z=>n (by cases a;cases b;injection z with z1 z2;subst z1;subst z2;rfl)
 ·rw[acC];exact(List.map_id' D).symm
 ·rw[aaN];constructor
  ·rintro⟨e,he,rfl⟩;obtain⟨q,hq,rfl⟩:=aaN.1 ((h.2 e).1 he);exact hq
  ·intro hp;exact⟨pN p,(h.2 _).2 (aaN.2 ⟨p,hp,rfl⟩),rfl⟩
theorem Fnd.len {D:List (Nat×Nat)}{ps:List Pt}{xs:List (Pt×Pt)}(h:Fnd D ps)(fw:few xs)(s:∀p,p∈ps->p∈Alj xs):D.length<=20000:=by
 obtain⟨l,a,rfl,b⟩:=h.pts;rw[aaA];exact fw l a fun p hp=>s p ((b p).1 hp)
theorem TupsAt.keys {α:Type}{tv:α->List V}{ti:α->List Int}(e:∀x,tv x=(ti x).map V.int/\ti x≠[]){H:Hp}{as:List Addr}{xs:List α}(h:TupsAt tv H as xs):∃L:List (Addr×List Int),L.map (·.1)=as/\L.map (·.2)=xs.map ti/\Abr H L:=by
 refine⟨as.zip (xs.map ti),List.map_fst_zip (by rw[aaA,h.len];exact aaK _),List.map_snd_zip (by rw[aaA,h.len];exact aaK _),fun p hp=>?_⟩;obtain⟨i,hi,ep⟩:=abX.1 hp;rw[List.getElem_zip]at ep;subst ep;rw[List.length_zip,aaA]at hi;obtain⟨x,hx,hc⟩:=h.at_ i as[i] (aaE (by lia));rw[aaE (by lia)]at hx
 cases hx;dsimp only;rw[aeI,<-(e _).1];exact⟨hc,(e _).2⟩
theorem Aln {α:Type}{tv:α->List V}{ti:α->List Int}(e:∀x,tv x=(ti x).map V.int/\ti x≠[]){H:Hp}{l:List (Addr×List Int)}{xs:List α}(h:l.map (·.2)=xs.map ti)(k:Abr H l):TupsAt tv H (l.map (·.1)) xs:=by
 have lp:l.length=xs.length:=by have:=congrArg afK h;simpa using this
 refine⟨by rw[aaA,lp],fun i c hc=>?_⟩;have il:i<l.length:=by have:=(aaB.mp hc).1;rwa [aaA]at this
 rw[aaH,aaE il]at hc;cases hc;have e2:(l.map (·.2))[i]?=(xs.map ti)[i]?:=by rw[h]
 rw[aaH,aaH,aaE il,aaE (by lia)]at e2;refine⟨xs[i],aaE (by lia),?_⟩;rw[(e _).1,<-abD e2];exact(k _ (acX il)).1
theorem Alt {α:Type}{ti:α->List Int}{R:List Int->List Int->Prop}{l:List (Addr×List Int)}{xs:List α}(h:l.map (·.2)=xs.map ti)(k:l.Pairwise fun p q=>R p.2 q.2):xs.Pairwise fun a b=>R (ti a) (ti b):=by
 have:(l.map (·.2)).Pairwise R:=adL.2 k;rw[h]at this;exact adL.1 this
theorem Bcl (p:Pt):ptV p=(ptI p).map V.int/\ptI p≠[]:=⟨rfl,by unfold ptI;simp⟩
theorem scPts:Aaa ["pairs","found","first","second"] ["pairs"] (Aa6 Bbu):=fsc
theorem Bal {f fB:Addr}{fd fdB:aaX}(F:Def K mg "points_of" Bbu ["pairs"] f fd)(FB:Def K mg "by_height" sBy ["spot"] fB fdB)(ns:mg "sorted" = none):FnOk P w K mg base CX0 4 f fd ["pairs"] Azj:=by
 have GB:FnOk P w K mg base CX0 1 fB fdB ["spot"] Azl:=Axj FB;refine F.go scPts fun cdv A o s H vs Q E hr h=>?_;obtain⟨p,cs,xs,rfl,hp,PR,fw,k⟩:=h;have hu:=Agv hr
 refine⟨_,Aa2 (pS 1 scPts.nd Aee)
  (Aa2 (Aao aaQ rfl (Aaw (pv 0)) (Abi rfl (Aab (pG 2 scPts.nd) (Aab (pG 3 scPts.nd) Aax)))
   (Aa2 (Ad8 hu (pv 1) (pv 2) Acs rfl) (Aa4 (Ad8 hu (pv 1) (pv 3) Acs rfl))))
  (Aa4 (Aa9 (Atf (W:=WP) (g:=hI) GB hr FB.b Bdt rfl ns FB.mgf (pv 1))))),?_⟩
 refine fun d hd=>?_;have s0:=Same.new (o:=.dT []) hd
 refine⟨_,rfl,p,rfl,⟨_,SqL.of (s0 _ _ hp)⟩,Abn (K:=K) (a:=p) (xs:=cs.map V.ref) (fun i σ H'=>(∃v2 v3:Option V,σ=[some (.ref p),some (.ref d),v2,v3])/\Same H H'/\∃D,H' d=some (.dT (gK D))/\Fnd D (Alj (xs.take i)))
  ⟨⟨_,_,rfl⟩,s0,[],Aa1,List.nodup_nil,fun e=>by simp[Alj]⟩ (fun i σ H' _ ⟨_,s1,_⟩=>SqL.of (s1 _ _ hp)) ?_ ?_⟩
 ·rintro i y σ H' hi ⟨⟨v2,v3,rfl⟩,s1,D,hD,fD⟩;obtain⟨c,hc,rfl⟩:=Aac hi;obtain⟨x,a,b,hx,ec,ea,eb⟩:=PR.at_ i c hc;have ln:=fD.len fw fun q hq=>Al5 hq;have ln':=(fD.add x.1).len fw fun q hq=>by
   rcases abH.1 hq with hq | hq
   ·exact Al5 hq
   ·rw[abF]at hq;subst hq;exact adG.2 ⟨x,aaJ hx,by simp⟩
  refine⟨c,_,rfl,SqT.of (s1 _ _ ec),rfl,_,_,rfl,_,_,rfl,rfl,?_⟩;refine⟨_,rfl,_,rfl,d,_,rfl,DPut.t (k:=wK (pN x.1)) hD (s1 _ _ ea) (by unfold gK;rw[aaA];exact abY ln (by decide)),?_⟩;rw[Avp];have s2:Same H (upd H' d (.dT (gK (Aw0 D (pN x.1))))):=fun a2 u h2=>by rw[Aa5 (Aa8 h2 hd)];exact s1 a2 u h2
  refine⟨_,rfl,_,rfl,d,_,rfl,DPut.t (k:=wK (pN x.2)) Aa1 (s2 _ _ eb) (by unfold gK;rw[aaA];exact abY ln' (by decide)),?_⟩;rw[Avp];refine⟨⟨_,_,rfl⟩,fun a2 u h2=>by rw[Aa5 (Aa8 h2 hd)];exact s2 a2 u h2,_,Aa1,?_⟩;rw[As0 hx];have:=(fD.add x.1).add x.2;rw[aeN]at this;exact this
 ·rintro σ H' ⟨⟨v2,v3,rfl⟩,s1,D,hD,fD⟩;rw[aaA,PR.len,acA]at fD;have ln:=fD.len fw fun q hq=>hq;obtain⟨l,nl,rfl,ml⟩:=fD.pts;rw[aaA]at ln;refine⟨_,rfl,d,_,l.map ptI,rfl,hD,?_,?_,?_,fun H2 q L s2 hq0 hq kL pL so=>?_⟩
  ·unfold gK;rw[acC,acC,acC];rfl
  ·intro e he;obtain⟨p,_,rfl⟩:=aaN.1 he;exact⟨by unfold ptI;simp,⟨p,[],rfl⟩,by unfold hI;simp⟩
  ·rw[aaA];lia
  ·obtain⟨ps,pp,ep⟩:=G.perm_map_inv pL l rfl;refine k H2 q (L.map (·.1)) ps (s1.trans s2) (s1.free hq0) (by rw[acC];exact hq) ((Aln Bcl ep kL).same s2) ⟨fun p=>(pp.mem_iff).trans (ml p),?_⟩;exact((Alt (R:=fun a b=>G.ltI (hI b) (hI a)=false) ep so).and (pp.nodup_iff.mpr nl)).imp fun {a b} h=>Asf ((Bax b a [] []).symm.trans h.1) h.2
abbrev sNA:afD:=top Afr
def nmK (n:Nat)(ps:List Pt):List (List Key×V):=(ps.zipIdx n).map fun x=>(wK (pN x.1),V.int (x.2:Nat))
theorem Am1 {p:Pt}:∀(ps:List Pt) (n:Nat),p∈ps->Ac8 (nmK n ps) (wK (pN p))=some (V.int ((n+ps.idxOf p:Nat)))
 | [],_,h=>by cases h
 | a::l,n,h=>by
  show Ac8 ((wK (pN a),V.int (n:Nat))::nmK (n+1) l) (wK (pN p))=_
  by_cases q:a=p
  ·subst q;rw[Ab9 rfl];simp
  ·rw[Aba fun z=>q (Avh (Aht z)),Am1 l (n+1) (by cases h with | head=>exact absurd rfl q | tail _ h=>exact h),List.idxOf_cons,beq_eq_false_iff_ne.mpr q]
   congr 2
   show((n+1+l.idxOf p:Nat):Int)=((n+(l.idxOf p+1):Nat):Int);lia
theorem Axn {p:Pt}{l:List Pt}(h:p∉l):Aeq (nmK 0 l) (wK (pN p)) (V.int (l.length:Nat))=nmK 0 (l++[p]):=by
 have:Ac8 (nmK 0 l) (wK (pN p))=none:=Ag4 fun m=>by
  obtain⟨y,hy,e⟩:=aaN.1 m;obtain⟨z,hz,rfl⟩:=aaN.1 hy;have:=List.mem_zipIdx hz;have e2:=Avh (Aht e);rw[<-e2,this.2.2]at h;exact h (acX _)
 rw[Afu _ this];unfold nmK;rw[List.zipIdx_append,aaU,ahE];rfl
def lnO (ps:List Pt)(x:Pt×Pt):Nat×Nat:=(min (ps.idxOf x.1) (ps.idxOf x.2),max (ps.idxOf x.1) (ps.idxOf x.2))
structure Bbz (xs:List (Pt×Pt))(mk:List Mark)(S:Plan):Prop where
 pt:Ptd xs S.pts
 ln:S.lines.Perm (xs.map (lnO S.pts))
 lo:S.lines.Pairwise fun a b=>aeY b a=false
 mp:S.marks.Perm mk
 mo:S.marks.Pairwise fun a b=>b.at_.below a.at_=false
def Bc7 (C:Addr):Sp:=fun vs H Q _=>∃(w h:Nat) (p m:Addr) (cs ms:List Addr) (xs:List (Pt×Pt)) (mk:List Mark),vs=[.int w,.int h,.ref p,.ref m]/\H p=some (.lst (cs.map V.ref))/\PrsAt H cs xs/\few xs/\xs.length<=20000/\H m=some (.lst (ms.map V.ref))/\TupsAt mkV H ms mk/\mk.length<=20000/\
 ∀(H':Hp) (d:Addr) (S:Plan) (pa la ma:Addr) (as ls ms':List Addr),Same H H'->DrW C H' d S pa la ma as ls ms'->S.w=w->S.h=h->Bbz xs mk S->Q (.ref d) H'
def mkI (m:Mark):List Int:=[(m.at_.x:Int),(m.at_.y:Int),(m.glass:Int),(m.painting:Int)]
theorem Bau (m:Mark):mkV m=(mkI m).map V.int/\mkI m≠[]:=⟨rfl,by unfold mkI;simp⟩
theorem Bay (l:Nat×Nat):lnV l=(wI l).map V.int/\wI l≠[]:=⟨rfl,by unfold wI;simp⟩
theorem Bd1 (a b:Nat×Nat):G.ltI (wI a) (wI b)=aeY a b:=by
 rw[Ajc,adC];unfold aeY;simp
theorem Aek {xs:List (Pt×Pt)}{x:Pt×Pt}(h:x∈xs):x.1∈Alj xs/\x.2∈Alj xs:=⟨adG.2 ⟨x,h,by simp⟩,adG.2 ⟨x,h,by simp⟩⟩
theorem Bav (a b:Nat):(if (b:Int)<(a:Int) then(b:Int) else(a:Int))=((min a b:Nat):Int):=by split<;>lia
theorem Baw (a b:Nat):(if (b:Int)>(a:Int) then(b:Int) else(a:Int))=((max a b:Nat):Int):=by split<;>lia
theorem scNA:Aaa ["width","height","pairs","marks","points","numbers","number","point","lines","first","second","ends"] ["width","height","pairs","marks"] (Aa6 sNA):=fsc
theorem Bcv {f fB fP fI C:Addr}{fd fdB fdP fdI:aaX}(F:Def K mg "numbered_anew" sNA ["width","height","pairs","marks"] f fd)(FP:Def K mg "points_of" Bbu ["pairs"] fP fdP)(FB:Def K mg "by_height" sBy ["spot"] fB fdB)(FI:Fun K "__init__" "Drawing.__init__" Akg fI fdI)(bI:Binds K fdI ["self","width","height","points","lines","marks"] [])(M:Mk K C fI)(mC:mg "Drawing" = some (.ref C))(T:Ac7 K C)
 (ns:mg "sorted" = none) (nmi:mg "min" = none) (nma:mg "max" = none) (ne:mg "enumerate" = none):FnOk P w K mg base CX0 5 f fd ["width","height","pairs","marks"] (Bc7 C):=by
 have GP:FnOk P w K mg base CX0 4 fP fdP ["pairs"] Azj:=Bal FP FB ns;have GB:FnOk P w K mg base CX0 1 fB fdB ["spot"] Azl:=Axj FB;have GI:FnOk P w K mg base CX0 1 fI fdI ["self","width","height","points","lines","marks"] (Alr C):=Ang FI T;refine F.go scNA fun cdv A o s H vs Q E hr h=>?_;obtain⟨w,h,p,m,cs,ms,xs,mk,rfl,hp,PR,fw,xl,hm,TM,ml,k⟩:=h;have hu:=Agv hr;have hr3:Room 3 _:=hr.mono (by decide)
 refine⟨_,Aa2 (pS 4 scNA.nd (pCD FP GP hr (Aa0 (pv 2) Aa3)))
  (Aa2 (pS 5 scNA.nd Aee)
  (Aa2 (Aao aaQ rfl (Ac0 rfl ne (Aa0 (pv 4) Aa3)) (Abi rfl (Aab (pG 6 scNA.nd) (Aab (pG 7 scNA.nd) Aax)))
   (Aa4 (Ad8 hu (pv 5) (pv 7) (pv 6) rfl)))
  (Aa2 (pS 8 scNA.nd (Abb Aa3))
  (Aa2 (Aao aaQ rfl (Aaw (pv 2)) (Abi rfl (Aab (pG 9 scNA.nd) (Aab (pG 10 scNA.nd) Aax)))
   (Aa2 (pS 11 scNA.nd (Abd (Aa0 (Alx hu (pv 5) (pv 9) (fun _ _=>rfl)) (Aa0 (Alx hu (pv 5) (pv 10) (fun _ _=>rfl)) Aa3))))
   (Aa4 (Abc (Ad9 abK acG acF Ab7 (pv 8) (Aa0 (Abd (Aa0 (Aae (Asa rfl) (by rfl) nmi (by decide +kernel) (Aa0 (pv 11) Aa3)) (Aa0 (Aae (Asb rfl) (by rfl) nma (by decide +kernel) (Aa0 (pv 11) Aa3)) Aa3))) Aa3))))))
  (Aa4 (Aa9 (Agd M GI (hr.mono (by decide)) rfl mC bI .nil Abm (Aa0 (pv 0) (Aa0 (pv 1) (Aa0 (pv 4) (Aa0 (Aae Ajt (by rfl) ns (by decide +kernel) (Aa0 (pv 8) Aa3)) (Aa0 (Ate (W:=WP) (g:=hI) GB hr3 FB.b Bdt rfl ns FB.mgf (pv 3)) Aa3)))))))))))),?_⟩
 refine⟨_,rfl,p,cs,xs,rfl,hp,PR,fw,fun H1 q as ps s1 hq0 hq TP pt=>?_⟩;have nps:=pt.nd;have lps:ps.length<=20000:=fw ps nps fun z hz=>(pt.mem z).1 hz;refine fun d hd=>?_;have sd:=Same.new (o:=.dT []) hd;have d0:H d=none:=s1.free hd
 refine⟨_,rfl,q,_,rfl,SqL.of (sd _ _ hq),Abo (K:=K) (a:=q) (xs:=as.map V.ref) (fun i σ H'=>(∃v6 v7:Option V,σ=[some (.int w),some (.int h),some (.ref p),some (.ref m),some (.ref q),some (.ref d),v6,v7,none,none,none,none])/\Same H1 H'/\H' d=some (.dT (nmK 0 (ps.take i))))
  ⟨⟨_,_,rfl⟩,sd,Aa1⟩ (fun i σ H' _ ⟨_,s2,_⟩=>SqL.of (s2 _ _ hq)) ?_ ?_⟩
 ·rintro i x σ H' t hi ⟨⟨v6,v7,rfl⟩,s2,hdH⟩ ht;obtain⟨c,hc,rfl⟩:=Aac hi;obtain⟨z,hz,ec⟩:=TP.at_ i c hc;have il:=(aaB.mp hz).1;have st:=Same.new (o:=.tup [.int (i:Nat),.ref c]) ht;have tl:(ps.take i).length=i:=by rw[abJ];lia
  have nin:z∉ps.take i:=fun mm=>by
   obtain⟨j,hj,ej⟩:=abX.1 mm;rw[akM]at ej;have:=Au1 nps (aaE (show j<ps.length by lia)) (by rw[ej];exact hz);lia
  refine⟨t,_,rfl,SqT.of Aa1,rfl,_,_,rfl,_,_,rfl,rfl,?_⟩;refine⟨_,rfl,_,rfl,_,rfl,d,_,rfl,DPut.t (k:=wK (pN z)) (st _ _ hdH) (st _ _ (s2 _ _ ec)) (by unfold nmK;rw[aaA,List.length_zipIdx,tl];exact szN (by lia)),?_⟩;have e1:=Axn nin;rw[tl]at e1;rw[e1,<-Aai hz];exact⟨⟨_,_,rfl⟩,fun a2 u h2=>by rw[Aa5 (Aa8 h2 hd)];exact st _ _ (s2 a2 u h2),Aa1⟩
 rintro σ H2 ⟨⟨v6,v7,rfl⟩,s2,hdH⟩;rw[aaA,TP.len,acA]at hdH;have s12:=s1.trans s2;refine⟨abO _,fun r hr0=>?_⟩;have sr:=Same.new (o:=.lst []) hr0;have s13:=s12.trans sr;have r0:H r=none:=s12.free hr0;have r1:H1 r=none:=s2.free hr0
 refine⟨_,rfl,p,rfl,⟨_,SqL.of (s13 _ _ hp)⟩,Abn (K:=K) (a:=p) (xs:=cs.map V.ref) (fun i σ H'=>(∃v9 v10 v11:Option V,σ=[some (.int w),some (.int h),some (.ref p),some (.ref m),some (.ref q),some (.ref d),v6,v7,some (.ref r),v9,v10,v11])/\Same H1 H'/\H' d=some (.dT (nmK 0 ps))/\∃ls,H' r=some (.lst (ls.map V.ref))/\TupsAt lnV H' ls ((xs.take i).map (lnO ps)))
  ⟨⟨_,_,_,rfl⟩,s2.trans sr,sr _ _ hdH,[],Aa1,TupsAt.nil⟩ (fun i σ H' _ ⟨_,s4,_⟩=>SqL.of (s4 _ _ (s1 _ _ hp))) ?_ ?_⟩
 ·rintro i y σ H' hi ⟨⟨v9,v10,v11,rfl⟩,s4,hd4,ls,hr4,L⟩;obtain⟨c,hc,rfl⟩:=Aac hi;obtain⟨x,a,b,hx,ec,ea,eb⟩:=PR.at_ i c hc;have il:=(aaB.mp hx).1;have mx:=Aek (aaJ hx);have s04:=s1.trans s4;have ll:ls.length=i:=by have:=L.len;rw[aaA,abJ]at this;lia
  refine⟨c,_,rfl,SqT.of (s04 _ _ ec),rfl,_,_,rfl,_,_,rfl,rfl,?_⟩;have g1:=DGet.t hd4 (k:=wK (pN x.1)) (s04 _ _ ea);have g2:=DGet.t hd4 (k:=wK (pN x.2)) (s04 _ _ eb);rw[Am1 ps 0 ((pt.mem _).2 mx.1),ahE]at g1;rw[Am1 ps 0 ((pt.mem _).2 mx.2),ahE]at g2;refine⟨_,rfl,_,rfl,d,_,rfl,g1,_,rfl,_,rfl,d,_,rfl,g2,sz2,fun t ht=>?_⟩;have st:=Same.new (o:=.tup [.int (ps.idxOf x.1:Nat),.int (ps.idxOf x.2:Nat)]) ht
  have ht2:upd H' t (.tup [.int (ps.idxOf x.1:Nat),.int (ps.idxOf x.2:Nat)]) t=some (.tup [.int (ps.idxOf x.1:Nat),.int (ps.idxOf x.2:Nat)]):=Aa1;have L5:=L.same st;have hr5:=st _ _ hr4;have hd5:=st _ _ hd4;have s5:=s4.trans st;generalize upd H' t (.tup [.int (ps.idxOf x.1:Nat),.int (ps.idxOf x.2:Nat)])=H5 at *;refine⟨_,rfl,.inl ⟨rfl,_,SqL.of hr5⟩,_,rfl,t,_,_,rfl,SqT.of ht2,_,rfl,t,_,_,rfl,SqT.of ht2,sz2,fun t2 ht3=>?_⟩
  rw[Bav,Baw];have st3:=Same.new (o:=.tup [.int ((min (ps.idxOf x.1) (ps.idxOf x.2):Nat):Int),.int ((max (ps.idxOf x.1) (ps.idxOf x.2):Nat):Int)]) ht3;have L6:=(L5.same st3).push (x:=lnO ps x) Aa1;have hr6:=st3 _ _ hr5;have hd6:=st3 _ _ hd5;have s6:=s5.trans st3;generalize upd H5 t2 (.tup [.int ((min (ps.idxOf x.1) (ps.idxOf x.2):Nat):Int),.int ((max (ps.idxOf x.1) (ps.idxOf x.2):Nat):Int)])=H6 at *
  refine⟨r,_,_,rfl,rfl,hr6,by rw[aaA,ll];exact szN (by lia),⟨_,_,_,rfl⟩,?_,?_,ls++[t2],?_,?_⟩
  ·intro a2 u h2;rw[Aa5 (Aa8 h2 r1)];exact s6 a2 u h2
  ·rw[Aa5 (Ac2 hd6 hr6 (by intro z;cases z))];exact hd6
  ·rw[Aa1,aaU];rfl
  ·rw[Aai hx,aaU];exact L6.lst hr6
 rintro σ H4 ⟨⟨v9,v10,v11,rfl⟩,s4,hd4,ls,hr4,L⟩;rw[aaA,PR.len,acA]at L;have s04:=s1.trans s4;obtain⟨LL,l1,l2,l3⟩:=L.keys Bay;have lLL:LL.length=xs.length:=by have:=congrArg afK l2;simpa using this
 refine⟨_,rfl,_,rfl,_,rfl,_,rfl,r,LL,rfl,by rw[hr4,<-l1,acC];rfl,l3,by lia,fun la L' hla pL soL=>?_⟩;obtain⟨lines,pl,el⟩:=G.perm_map_inv (pL.map (·.2)) (xs.map (lnO ps)) l2;have s5:=Same.new (o:=.lst (L'.map fun p=>V.ref p.1)) hla;have kL':Abr H4 L':=fun z hz=>l3 z (pL.mem_iff.1 hz);have TL:=(Aln Bay el kL').same s5;have hla5:upd H4 la (.lst (L'.map fun p=>V.ref p.1)) la=some (.lst ((L'.map (·.1)).map V.ref)):=by rw[Aa1,acC];rfl
 have s05:=s04.trans s5;have s15:=s4.trans s5;generalize upd H4 la (.lst (L'.map fun p=>V.ref p.1))=H5 at *;obtain⟨MM,m1,m2,m3⟩:=(TM.same s05).keys Bau;have lMM:MM.length=mk.length:=by have:=congrArg afK m2;simpa using this
 refine⟨_,rfl,m,MM,rfl,by rw[s05 _ _ hm,<-m1,acC];rfl,m3,?_,by lia,fun H6 ma M' s6 hma0 hma pM soM=>?_⟩
 ·intro z hz;have:z.2∈mk.map mkI:=by rw[<-m2];exact aaN.2 ⟨z,hz,rfl⟩
  obtain⟨mm,_,e⟩:=aaN.1 this;rw[<-e];exact⟨⟨mm.at_,_,rfl⟩,by unfold hI;simp⟩
 obtain⟨marks,pm,em⟩:=G.perm_map_inv (pM.map (·.2)) mk m2;have kM':Abr H5 M':=fun z hz=>m3 z (pM.mem_iff.1 hz);have TM6:=(Aln Bau em kM').same s6;intro x dx hx hdx nxd;refine⟨x,dx,w,h,q,la,ma,rfl,Aa1,fun H7 hd7 keep=>⟨rfl,?_⟩⟩;have s67:Same H6 H7:=Same.made hx hdx keep;have s17:=(s15.trans s6).trans s67;have s57:=s6.trans s67;have nl:lines.length=xs.length:=by have:=pl.length_eq;simpa using this
 have nm:marks.length=mk.length:=pm.length_eq;refine k H7 x ⟨w,h,ps,lines,marks⟩ q la ma as (L'.map (·.1)) (M'.map (·.1)) ((s05.trans s6).trans s67) ⟨⟨dx,hd7⟩,s17 _ _ hq,s57 _ _ hla5,?_,TP.same s17,?_,TM6.same s67,lps,by rw[nl];exact xl,by rw[nm];exact ml⟩ rfl rfl ⟨pt,pl,?_,pm,?_⟩
 ·have:=s67 _ _ hma;rw[this,acC];rfl
 ·have:=TL.same s57;exact⟨this.len,this.at_⟩
 ·exact(Alt (R:=fun a b=>G.ltI b a=false) el soL).imp fun {a b} e=>(Bd1 b a).symm.trans e
 ·exact(Alt (R:=fun a b=>G.ltI (hI b) (hI a)=false) em soM).imp fun {a b} e=>(Bax b.at_ a.at_ _ _).symm.trans e
abbrev sMv:afD:=top Aua
structure Lam where
 qual:Str
 params:aiH
 body:adX
 scope:Scope
 y:Str
 px:Str
 py:Str
 tb:TE
 fx:Int->Int->Int->Int
 fy:Int->Int->Int->Int
structure Lam.Ok (L:Lam):Prop where
 s:Bdw L.qual L.params L.body L.scope L.px L.py L.y
 b:∀(X:Cx) (s:aaI) (H:Hp) (f c c':Addr),PE (Aya X L.scope L.qual f L.y c c' L.px L.py s H) L.body L.tb
 t:∀(a b:Nat) (n:Int) (H:Hp) (Q:VK),a<4294967296->b<4294967296->(∀t,H t=none->Q (.ref t) (upd H t (.tup [.int (L.fx n a b),.int (L.fy n a b)])))->L.tb [some (.int a),some (.int b),some (.int n)] H Q
def lamH (L:Lam)(mg:Str->Option aaF)(H:Hp)(f' c:Addr):Prop:=∃(c':Addr) (oc:Obj) (ctv:aaF),H f'=some (Afz f' (Aon mg L.qual L.params L.body L.scope L.y c c' ctv))/\H c'=some (Afz c' oc)/\CodO L.qual oc
theorem lamH.same {L:Lam}{mg:Str->Option aaF}{H H':Hp}{f' c:Addr}(h:lamH L mg H f' c)(e:Same H H'):lamH L mg H' f' c:=let ⟨c',oc,ctv,a,b,d⟩:=h;⟨c',oc,ctv,e _ _ a,e _ _ b,d⟩
def tCl (L:Lam)(mg:Str->Option aaF)(base:Heap)(i:Nat)(t:TA):TE:=fun σ H Q=>∃f',σ[i]?=some (some (.ref f'))/\t σ H fun vs H1=>∃(a b n:Int) (c c':Addr) (oc:Obj) (ctv:aaF),vs=[.int a,.int b]/\
 H1 f'=some (Afz f' (Aon mg L.qual L.params L.body L.scope L.y c c' ctv))/\H1 c'=some (Afz c' oc)/\CodO L.qual oc/\CelI base c n/\L.tb [some (.int a),some (.int b),some (.int n)] H1 Q
theorem Ax3 {L:Lam}{X:Cx}{k' i:Nat}{z:Str}{e:adX}{es:List adX}{t:TA}{p pos:Pos}(S:L.Ok)(hr:Room (k'+1) X.A)(hcm:X.calm=true)(ha:PA X (e::es) t)(hN:X.N[i]?=some z:=by rfl)(hv:Vis X.env.scope z:=by first | exact .inr (.inl rfl) | exact .inr (.inr rfl))
 (hd:(z==("__debug__" : Str))=false:=by decide) (hcd:(z==("__classdict__" : Str))=false:=by decide) (he:abL (e::es) X.env=(false,eval e X.env)::abL es X.env:=by rfl) (hpl:(afI pos (abL es X.env)).any (·.1)=false:=by rfl) :
 PE X (.Call (.Name z p) (e::es) [] pos) (tCl L X.mg X.base i t):=Ba3 S.s hr hcm hN hv ha (S.b X) hd hcd he hpl
def mvP (mv:Pt->Pt)(x:Pt×Pt):Pt×Pt:=(mv x.1,mv x.2)
def mvM (mv:Pt->Pt)(m:Mark):Mark:={ m with at_:=mv m.at_ }
def Bbr (C:Addr)(L:Lam)(mg:Str->Option aaF)(c:Addr)(n:Int):Sp:=fun vs H Q _=>∃(d:Addr) (S:Plan) (pa la ma:Addr) (as ls ms:List Addr) (w h:Nat) (f':Addr) (mv:Pt->Pt),vs=[.ref d,.int w,.int h,.ref f']/\DrW C H d S pa la ma as ls ms/\(∀l,l∈S.lines->l.1<S.pts.length/\l.2<S.pts.length)/\
 lamH L mg H f' c/\(∀p,p∈S.pts\/p∈S.marks.map (·.at_)->Abk p/\L.fx n p.x p.y=(mv p).x/\L.fy n p.x p.y=(mv p).y)/\few (S.drawn.map (mvP mv))/\
 ∀(H':Hp) (d':Addr) (S':Plan) (pa la ma:Addr) (as ls ms:List Addr),Same H H'->DrW C H' d' S' pa la ma as ls ms->S'.w=w->S'.h=h->Bbz (S.drawn.map (mvP mv)) (S.marks.map (mvM mv)) S'->Q (.ref d') H'
theorem Ajr {S:Plan}(lin:∀l,l∈S.lines->l.1<S.pts.length/\l.2<S.pts.length){x:Pt×Pt}(h:x∈S.drawn):x.1∈S.pts/\x.2∈S.pts:=by
 obtain⟨l,hl,rfl⟩:=aaN.1 h;have:=lin l hl;unfold akP;dsimp only;rw[abN,aaE this.1,abN,aaE this.2];exact⟨acX _,acX _⟩
theorem scMv:Aaa ["drawing","width","height","place_of","pairs","p","q","marks","mark"] ["drawing","width","height","place_of"] (Aa6 sMv):=fsc
theorem Bdc:Ase ["drawing","width","height","place_of","pairs","p","q","marks","mark"] (Aa6 sMv) (Bdq "p" "q" "place_of") [("p",5),("q",6)]=true:=by decide +kernel
theorem Bdb:Ase ["drawing","width","height","place_of","pairs","p","q","marks","mark"] (Aa6 sMv) (Bbs "mark" "place_of") [("mark",8)]=true:=by decide +kernel
theorem Bcw {L:Lam}(LO:L.Ok){f fN fO C c:Addr}{n:Int}{fd fdN fdO:aaX}(F:Def K mg "moved" sMv ["drawing","width","height","place_of"] f fd)(FO:Def K mg "pairs_of" sPO ["drawing"] fO fdO)(FN:Def K mg "numbered_anew" sNA ["width","height","pairs","marks"] fN fdN)(GN:FnOk P w K mg base CX0 5 fN fdN ["width","height","pairs","marks"] (Bc7 C))(T:Ac7 K C)(cel:CelI base c n) :
 FnOk P w K mg base CX0 6 f fd ["drawing","width","height","place_of"] (Bbr C L mg c n):=by
 have GO:FnOk P w K mg base CX0 1 fO fdO ["drawing"] (Bdo C):=Bcu FO T;refine F.go scMv fun cdv A o s H vs Q E hr h=>?_;obtain⟨d,S,pa,la,ma,as,ls,ms,w,h,f',mv,rfl,D,lin,lm,hmv,fw,k⟩:=h;have hr1:Room 1 _:=hr.mono (by decide)
 refine⟨_,Aa2 (Adm (i:=4) (g:=Bd7 K 2 (Arw (Ahq 5) (Arw (Ahq 6) Bd8))) (te:=Bbp (Ab6 (tCl L mg base 3 (Ab6 (tOp (Aqf K) (Abv 5) (tC (.int 0))) (Ab6 (tOp (Aqf K) (Abv 5) (tC (.int 1))) Ahb))) (Ab6 (tCl L mg base 3 (Ab6 (tOp (Aqf K) (Abv 6) (tC (.int 0))) (Ab6 (tOp (Aqf K) (Abv 6) (tC (.int 1))) Ahb))) Ahb))) (own:=[("p",5),("q",6)]) rfl scMv.nd rfl rfl (Aes rfl rfl rfl rfl)
  (Aaw (pCD FO GO hr1 (Aa0 (pv 0) Aa3))) (Abu Bdc) (fun _ _ _ _ _=>Abi rfl (Aab (pG 5 scMv.nd) (Aab (pG 6 scMv.nd) Aax))) (fun _ _ _ _ _=>Ad5)
  (fun _ _ _ _ _=>Abd (Aa0 (Ax3 (k':=0) LO hr1 rfl (Aa0 (pIT (pv 5) Aa7) (Aa0 (pIT (pv 5) Aa7) Aa3))) (Aa0 (Ax3 (k':=0) LO hr1 rfl (Aa0 (pIT (pv 6) Aa7) (Aa0 (pIT (pv 6) Aa7) Aa3))) Aa3))))
  (Aa2 (Adm (i:=7) (te:=tOp (Azy K) (tCl L mg base 3 (Ab6 (tOp (Aqf K) (Abv 8) (tC (.int 0))) (Ab6 (tOp (Aqf K) (Abv 8) (tC (.int 1))) Ahb))) (tSl (Bdr K) (Abv 8) (Az8 (tC (.int 2))) Apo)) (own:=[("mark",8)]) rfl scMv.nd rfl rfl (Aes rfl rfl rfl rfl)
   (Aaw (Aaj (pv 0) rfl)) (Abu Bdb) (fun _ _ _ _ _=>pG 8 scMv.nd) (fun _ _ _ _ _=>Ad5)
   (fun _ _ _ _ _=>Aay Ax5 (Ax3 (k':=0) LO hr1 rfl (Aa0 (pIT (pv 8) Aa7) (Aa0 (pIT (pv 8) Aa7) Aa3))) (Ana Azm (pv 8) (Aqo Aa7) Aqp)))
  (Aa4 (Aa9 (pCD FN GN hr (Aa0 (pv 1) (Aa0 (pv 2) (Aa0 (pv 4) (Aa0 (pv 7) Aa3)))))))),?_⟩
 refine⟨_,rfl,d,S,pa,la,ma,as,ls,ms,rfl,D,lin,fun H1 p cs s1 hp PR=>?_⟩;refine⟨p,rfl,⟨_,SqL.of hp⟩,fun D1 hD1=>?_⟩;have dl:=Ah0 S;have nL:=D.nL;have nM:=D.nM;refine Adf (K:=K) (a:=p) (xs:=cs.map V.ref) (fun i H'=>∃qs:List Addr,Same H1 H'/\H' D1=some (.lst (qs.map V.ref))/\PrsAt H' qs ((S.drawn.take i).map (mvP mv))) ⟨[],Same.new hD1,Aa1,rfl,fun i c h=>by cases h⟩ (fun i H' _ ⟨_,s2,_⟩=>SqL.of (s2 _ _ hp)) ?_ ?_
 ·rintro i y H' hi ⟨qs,s2,hd2,L2⟩;obtain⟨b,hb,rfl⟩:=Aac hi;obtain⟨x,a1,a2,hx,ec,e1,e2⟩:=PR.at_ i b hb;have il:=(aaB.mp hx).1;obtain⟨x1,x2⟩:=Ajr lin (aaJ hx);obtain⟨sm1,fx1,fy1⟩:=hmv _ (.inl x1);obtain⟨sm2,fx2,fy2⟩:=hmv _ (.inl x2);have ql:qs.length=i:=by have:=L2.len;rw[aaA,abJ]at this;lia
  refine⟨b,_,rfl,SqT.of (s2 _ _ ec),rfl,_,_,rfl,_,_,rfl,rfl,rfl,?_⟩;unfold Asw;dsimp only
  first | rw[ifp rfl] | rw[ifp trivial]
  have s02:=s1.trans s2;obtain⟨c',oc,ctv,l1,l2,l3⟩:=lm.same s02;have g1:SqT K H' a1 [.int (x.1.x:Nat),.int (x.1.y:Nat)]:=SqT.of (s2 _ _ e1);refine⟨f',rfl,_,rfl,a1,_,_,_,rfl,rfl,g1,atC,_,rfl,a1,_,_,_,rfl,rfl,g1,atC,_,_,n,c,c',oc,ctv,rfl,l1,l2,l3,cel,LO.t _ _ _ _ _ sm1.1 sm1.2 fun t ht=>?_⟩;rw[fx1,fy1];have st:=Same.new (o:=.tup [.int ((mv x.1).x:Nat),.int ((mv x.1).y:Nat)]) ht;have ht1:upd H' t (.tup [.int ((mv x.1).x:Nat),.int ((mv x.1).y:Nat)]) t=some (.tup (ptV (mv x.1))):=Aa1
  have s3:=s2.trans st;have L3:=L2.tk (.of st);have hd3:=st _ _ hd2;have l1:=st _ _ l1;have l2:=st _ _ l2;generalize upd H' t (.tup [.int ((mv x.1).x:Nat),.int ((mv x.1).y:Nat)])=H3 at *;have g2:SqT K H3 a2 [.int (x.2.x:Nat),.int (x.2.y:Nat)]:=SqT.of (s3 _ _ e2);refine⟨f',rfl,_,rfl,a2,_,_,_,rfl,rfl,g2,atC,_,rfl,a2,_,_,_,rfl,rfl,g2,atC,_,_,n,c,c',oc,ctv,rfl,l1,l2,l3,cel,LO.t _ _ _ _ _ sm2.1 sm2.2 fun u hu=>?_⟩
  rw[fx2,fy2];have su:=Same.new (o:=.tup [.int ((mv x.2).x:Nat),.int ((mv x.2).y:Nat)]) hu;have hu1:upd H3 u (.tup [.int ((mv x.2).x:Nat),.int ((mv x.2).y:Nat)]) u=some (.tup (ptV (mv x.2))):=Aa1;have s4:=s3.trans su;have L4:=L3.tk (.of su);have hd4:=su _ _ hd3;have ht4:=su _ _ ht1;generalize upd H3 u (.tup [.int ((mv x.2).x:Nat),.int ((mv x.2).y:Nat)])=H4 at *;refine⟨sz2,fun v hv=>?_⟩;have sv:=Same.new (o:=.tup [.ref t,.ref u]) hv
  refine⟨_,sv _ _ hd4,by rw[aaA,ql];exact szN (by lia),qs++[v],Same.grow s4 hD1 sv,?_,?_⟩
  ·rw[Aa1,aaU];rfl
  ·rw[Aai hx,aaU];exact PrsAt.tk (PrsAt.push (x:=mvP mv x) (L4.tk (.of sv)) Aa1 (sv _ _ ht4) (sv _ _ hu1)) (Tk.at_ (sv _ _ hd4) (by intro _ z;cases z))
 rintro H2 ⟨qs,s2,hd2,L2⟩;rw[aaA,PR.len,acA]at L2;have s02:=s1.trans s2;have D2:=D.same s02;obtain⟨dx,hdd⟩:=D2.ins;refine⟨_,rfl,d,C,dx,_,_,rfl,hdd,T.cl,T.nM,Amk _ _ _ _ _,ma,rfl,⟨_,SqL.of D2.mks⟩,fun D3 hD3=>?_⟩;refine Adf (K:=K) (a:=ma) (xs:=ms.map V.ref) (fun i H'=>∃ns:List Addr,Same H2 H'/\H' D3=some (.lst (ns.map V.ref))/\TupsAt mkV H' ns ((S.marks.take i).map (mvM mv))) ⟨[],Same.new hD3,Aa1,TupsAt.nil⟩ (fun i H' _ ⟨_,s3,_⟩=>SqL.of (s3 _ _ D2.mks)) ?_ ?_
 ·rintro i y H' hi ⟨ns,s3,hd3,L3⟩;obtain⟨b,hb,rfl⟩:=Aac hi;obtain⟨m,hm,ec⟩:=D2.mksX.at_ i b hb;have il:=(aaB.mp hm).1;obtain⟨sm1,fx1,fy1⟩:=hmv m.at_ (.inr (aaN.2 ⟨m,aaJ hm,rfl⟩));have nl:ns.length=i:=by have:=L3.len;rw[aaA,abJ]at this;lia
  refine⟨rfl,?_⟩;unfold Asw;dsimp only
  first | rw[ifp rfl] | rw[ifp trivial]
  obtain⟨c',oc,ctv,l1,l2,l3⟩:=(lm.same s02).same s3;have g1:SqT K H' b [.int (m.at_.x:Nat),.int (m.at_.y:Nat),.int (m.glass:Nat),.int (m.painting:Nat)]:=SqT.of (s3 _ _ ec);refine⟨f',rfl,_,rfl,b,_,_,_,rfl,rfl,g1,atC,_,rfl,b,_,_,_,rfl,rfl,g1,atC,_,_,n,c,c',oc,ctv,rfl,l1,l2,l3,cel,LO.t _ _ _ _ _ sm1.1 sm1.2 fun t ht=>?_⟩;rw[fx1,fy1];have st:=Same.new (o:=.tup [.int ((mv m.at_).x:Nat),.int ((mv m.at_).y:Nat)]) ht
  have ht1:upd H' t (.tup [.int ((mv m.at_).x:Nat),.int ((mv m.at_).y:Nat)]) t=some (.tup [.int ((mv m.at_).x:Nat),.int ((mv m.at_).y:Nat)]):=Aa1;have s4:=s3.trans st;have L4:=L3.same st;have hd4:=st _ _ hd3;generalize upd H' t (.tup [.int ((mv m.at_).x:Nat),.int ((mv m.at_).y:Nat)])=H4 at *;refine⟨_,rfl,2,rfl,b,_,rfl,SqT.of (s4 _ _ ec),(by show ¬((2:Nat)=0/\_);lia),fun u hu=>?_⟩;have su:=Same.new (o:=.tup (Asr (mkV m) (some 2) none)) hu
  refine⟨t,u,_,[.int (m.glass:Nat),.int (m.painting:Nat)],rfl,rfl,SqT.of (su _ _ ht1),SqT.of Aa1,by simp,sz4,⟨fun z=>by simp at z,fun _ v hv=>?_⟩⟩;have s5:=s4.trans su;have L5:=L4.same su;have hd5:=su _ _ hd4;generalize upd H4 u (.tup (Asr (mkV m) (some 2) none))=H5 at *;have sv:=Same.new (o:=.tup ([.int ((mv m.at_).x:Nat),.int ((mv m.at_).y:Nat)]++[.int (m.glass:Nat),.int (m.painting:Nat)])) hv
  refine⟨_,sv _ _ hd5,by rw[aaA,nl];exact szN (by lia),ns++[v],Same.grow s5 hD3 sv,?_,?_⟩
  ·rw[Aa1,aaU];rfl
  ·rw[Aai hm,aaU];exact((L5.same sv).push (x:=mvM mv m) Aa1).lst (sv _ _ hd5)
 rintro H3 ⟨ns,s3,hd3,L3⟩;rw[aaA,D2.mksX.len,acA]at L3;refine⟨_,rfl,_,rfl,_,rfl,_,rfl,w,h,D1,D3,qs,ns,_,_,rfl,s3 _ _ hd2,L2.tk (.of s3),fw,by rw[aaA];lia,hd3,L3,by rw[aaA];lia,fun H4 d' S' pa' la' ma' as' ls' ms' s4 D4 w4 h4 N4=>?_⟩;exact k H4 d' S' pa' la' ma' as' ls' ms' ((s02.trans s3).trans s4) D4 w4 h4 N4
end Gc
end
section
namespace Gc
open Gla (Pt Plan Mark)
section
variable {α:Type}{before:α->α->Bool}
structure Ayv (before:α->α->Bool):Prop where
 asym:∀a b,before a b=true->before b a=false
 nt:∀a b c,before b a=false->before c b=false->before c a=false
theorem Aev (x:α):∀l:List α,(anX before x l).Perm (x::l)
 | []=>.refl _
 | y::r=>by
  unfold anX
  split
  ·exact .refl _
  ·exact((Aev x r).cons y).trans (.swap ..)
theorem Adh:∀l:List α,(aiW before l).Perm l
 | []=>.refl _
 | x::r=>(Aev x _).trans ((Adh r).cons x)
theorem Ai3 (O:Ayv before)(x:α):∀l:List α,l.Pairwise (fun a b=>before b a=false)->(anX before x l).Pairwise (fun a b=>before b a=false)
 | [],_=>List.pairwise_singleton _ _
 | y::r,h=>by
  unfold anX;have ⟨h1,h2⟩:=acP.1 h
  split
  ·rename_i e
   have q:=O.asym _ _ e;refine acP.2 ⟨fun z hz=>?_,h⟩;rcases aaG.1 hz with rfl | hz
   ·exact q
   ·exact O.nt _ _ _ q (h1 z hz)
  ·rename_i e
   refine acP.2 ⟨fun z hz=>?_,Ai3 O x r h2⟩;rcases aaG.1 ((Aev x r).mem_iff.1 hz)with rfl | hz
   ·simpa using e
   ·exact h1 z hz
theorem Afi (O:Ayv before):∀l:List α,(aiW before l).Pairwise (fun a b=>before b a=false)
 | []=>.nil
 | x::r=>Ai3 O x _ (Afi O r)
theorem Af6 (O:Ayv before){l l':List α}(an:∀a b,a∈l->b∈l->before b a=false->before a b=false->a=b)(p:l'.Perm l)(s:l'.Pairwise fun a b=>before b a=false):l'=aiW before l :=
 List.Perm.eq_of_pairwise (fun a b ha hb=>an a b (p.mem_iff.1 ha) ((Adh l).mem_iff.1 hb)) s (Afi O l) (p.trans (Adh l).symm)
end
theorem below_iff (p q:Pt):p.below q=true↔p.y<q.y\/(p.y=q.y/\p.x<q.x):=by unfold Pt.below;simp
theorem Ajv (p q:Pt):p.below q=false↔q.y<p.y\/(p.y=q.y/\q.x<=p.x):=by
 rw[<-Bool.not_eq_true,below_iff];lia
theorem Avl (a b:Nat×Nat):aeY a b=true↔a.1<b.1\/(a.1=b.1/\a.2<b.2):=by unfold aeY;simp
theorem Axs (a b:Nat×Nat):aeY a b=false↔b.1<a.1\/(a.1=b.1/\b.2<=a.2):=by
 rw[<-Bool.not_eq_true,Avl];lia
theorem or_pt:Ayv Pt.below:=⟨fun a b h=>by rw[below_iff]at h;rw[Ajv];lia,fun a b c h k=>by rw[Ajv]at *;lia⟩
theorem Bco:Ayv aeY:=⟨fun a b h=>by rw[Avl]at h;rw[Axs];lia,fun a b c h k=>by rw[Axs]at *;lia⟩
theorem Bcn:Ayv agT:=⟨fun a b h=>or_pt.asym _ _ h,fun a b c h k=>or_pt.nt _ _ _ h k⟩
theorem Anx {p q:Pt}(h:q.below p=false)(k:p.below q=false):p=q:=by
 rw[Ajv]at *;cases p;cases q;simp only[Pt.mk.injEq]at *;lia
theorem Aum {α:Type}[BEq α][LawfulBEq α]{l:List α}(h:l.Nodup):l.Perm l.eraseDups:=(alY h (Pg.nd_eraseDups _ _ (aaK _))).2 fun a=>ahY.symm
theorem Bas {w h:Nat}{pts:List Pt}{xs:List (Pt×Pt)}{mk:List Mark}{S:Plan}(N:Bbz xs mk S)(hw:S.w=w)(hh:S.h=h)(hp:∀p,p∈pts↔p∈Alj xs)(hl:(xs.map (lnO S.pts)).Nodup)(hm:∀a b,a∈mk->b∈mk->a.at_=b.at_->a=b):S=Gla.numbered w h pts xs mk:=by
 have e1:S.pts=aiW Pt.below pts.eraseDups:=Af6 or_pt (fun a b _ _ h k=>Anx h k) ((alY N.pt.nd (Pg.nd_eraseDups _ _ (aaK _))).2 fun a=>by rw[ahY,hp,N.pt.mem]) (N.pt.ord.imp fun {a b} h=>or_pt.asym _ _ h);have e2:S.lines=aiW aeY ((xs.map (lnO S.pts)).eraseDups):=Af6 Bco (fun a b _ _ h k=>by rw[Axs]at *;exact ahX (by lia) (by lia)) (N.ln.trans (Aum hl)) N.lo
 have e3:S.marks=aiW agT mk:=Af6 Bcn (fun a b ha hb h k=>hm a b ha hb (Anx h k)) N.mp N.mo;unfold Gla.numbered;rw[<-e3];dsimp only;rw[<-e1];have:(xs.map fun(l:Pt×Pt)=>(min (S.pts.idxOf l.1) (S.pts.idxOf l.2),max (S.pts.idxOf l.1) (S.pts.idxOf l.2)))=xs.map (lnO S.pts):=rfl;rw[this,<-e2,<-hw,<-hh]
structure Nice (S:Plan):Prop where
 inp:∀p,p∈S.pts->p.x<=S.w/\p.y<=S.h
 inm:∀m,m∈S.marks->m.at_.x<=S.w/\m.at_.y<=S.h
 ndp:S.pts.Nodup
 lin:∀l,l∈S.lines->l.1<l.2/\l.2<S.pts.length
 lnd:S.lines.Nodup
 cov:∀p,p∈S.pts->p∈Alj S.drawn
 mkd:∀a b,a∈S.marks->b∈S.marks->a.at_=b.at_->a=b
 nP:S.pts.length<=4096
theorem Nice.lin' {S:Plan}(N:Nice S)(l:Nat×Nat)(h:l∈S.lines):l.1<S.pts.length/\l.2<S.pts.length:=by have:=N.lin l h;lia
theorem Acj {S:Plan}{i:Nat}(h:i<S.pts.length):S.pt i=S.pts[i]:=by
 unfold akP;rw[abN,aaE h];rfl
theorem Avm {S:Plan}{p:Pt}(h:p∈S.pts):S.pt (S.pts.idxOf p)=p:=by
 rw[Acj (adS h)];exact ahZ _
theorem Nice.inj {S:Plan}(N:Nice S){i j:Nat}(hi:i<S.pts.length)(hj:j<S.pts.length)(e:S.pt i=S.pt j):i=j:=by
 rw[Acj hi,Acj hj]at e;exact(aiS N.ndp).1 e
theorem Agu {ps:List Pt}{p q:Pt}(hp:p∈ps)(hq:q∈ps)(e:ps.idxOf p=ps.idxOf q):p=q:=by
 have a:=ahZ (adS hp);have b:=ahZ (adS hq);simp only[e]at a;exact a.symm.trans b
theorem Baz {ps:List Pt}{x y:Pt×Pt}(h1:x.1∈ps)(h2:x.2∈ps)(h3:y.1∈ps)(h4:y.2∈ps)(e:lnO ps x=lnO ps y):(x.1=y.1/\x.2=y.2)\/(x.1=y.2/\x.2=y.1):=by
 unfold lnO at e;injection e with a b
 by_cases c:ps.idxOf x.1=ps.idxOf y.1
 ·exact .inl ⟨Agu h1 h3 c,Agu h2 h4 (by lia)⟩
 ·exact .inr ⟨Agu h1 h4 (by lia),Agu h2 h3 (by lia)⟩
section
variable {S S':Plan}{mv:Pt->Pt}{w h:Nat}
theorem Nice.moved (N:Nice S)(inj:∀p q:Pt,p.x<=S.w->p.y<=S.h->q.x<=S.w->q.y<=S.h->mv p=mv q->p=q)(into:∀p:Pt,p.x<=S.w->p.y<=S.h->(mv p).x<=w/\(mv p).y<=h)(A:Bbz (S.drawn.map (mvP mv)) (S.marks.map (mvM mv)) S')(hw:S'.w=w)(hh:S'.h=h):S'=S.moved w h mv/\Nice S':=by
 have din:∀{x},x∈S.drawn->x.1∈S.pts/\x.2∈S.pts:=fun hx=>Ajr N.lin' hx;have mem:∀p,p∈S'.pts↔∃q,q∈S.pts/\mv q=p:=fun p=>by
  rw[A.pt.mem];constructor
  ·intro hp;obtain⟨y,hy,hp⟩:=adG.1 hp;obtain⟨x,hx,rfl⟩:=aaN.1 hy;rcases aaG.1 hp with rfl | hp
   ·exact⟨x.1,(din hx).1,rfl⟩
   ·rw[abF]at hp;subst hp;exact⟨x.2,(din hx).2,rfl⟩
  ·rintro⟨q,hq,rfl⟩;obtain⟨x,hx,hq⟩:=adG.1 (N.cov q hq);refine adG.2 ⟨mvP mv x,aaN.2 ⟨x,hx,rfl⟩,?_⟩;rcases aaG.1 hq with rfl | hq
   ·exact .head _
   ·rw[abF]at hq;subst hq;exact .tail _ (.head _)
 have xin:∀{x},x∈S.drawn->mv x.1∈S'.pts/\mv x.2∈S'.pts:=fun hx=>⟨(mem _).2 ⟨_,(din hx).1,rfl⟩,(mem _).2 ⟨_,(din hx).2,rfl⟩⟩
 have mi:∀{p q},p∈S.pts->q∈S.pts->mv p=mv q->p=q:=fun hp hq e=>inj _ _ (N.inp _ hp).1 (N.inp _ hp).2 (N.inp _ hq).1 (N.inp _ hq).2 e;have mm:∀a b,a∈S.marks.map (mvM mv)->b∈S.marks.map (mvM mv)->a.at_=b.at_->a=b:=fun a b ha hb e=>by
  obtain⟨a,ga,rfl⟩:=aaN.1 ha;obtain⟨b,gb,rfl⟩:=aaN.1 hb;rw[N.mkd a b ga gb (inj _ _ (N.inm _ ga).1 (N.inm _ ga).2 (N.inm _ gb).1 (N.inm _ gb).2 e)]
 have nl:((S.drawn.map (mvP mv)).map (lnO S'.pts)).Nodup:=by
  unfold akV;rw[acC,acC,abQ,adL];refine afY (fun {a b} ha hb ne e=>?_) (abQ.1 N.lnd);have xa:(S.pt a.1,S.pt a.2)∈S.drawn:=aaN.2 ⟨a,ha,rfl⟩;have xb:(S.pt b.1,S.pt b.2)∈S.drawn:=aaN.2 ⟨b,hb,rfl⟩;have la:=N.lin a ha;have lb:=N.lin b hb;have J:∀{i j},i<S.pts.length->j<S.pts.length->mv (S.pt i)=mv (S.pt j)->i=j:=fun {i j} hi hj q=>N.inj hi hj (mi (by rw[Acj hi];exact acX _) (by rw[Acj hj];exact acX _) q)
  rcases Baz (xin xa).1 (xin xa).2 (xin xb).1 (xin xb).2 e with ⟨q1,q2⟩ | ⟨q1,q2⟩
  ·exact ne (ahX (J (by lia) (by lia) q1) (J (by lia) (by lia) q2))
  ·have:=J (by lia) (by lia) q1;have:=J (by lia) (by lia) q2;lia
 refine⟨Bas A hw hh (fun p=>?_) nl mm,?_⟩
 ·rw[aaN];exact(mem p).symm.trans (A.pt.mem p)
 have lm:∀l,l∈S'.lines↔∃x,x∈S.drawn/\lnO S'.pts (mvP mv x)=l:=fun l=>by
  rw[A.ln.mem_iff,acC,aaN];rfl
 refine⟨fun p hp=>?_,fun m hm=>?_,A.pt.nd,fun l hl=>?_,A.ln.nodup_iff.2 nl,fun p hp=>?_,fun a b ha hb=>mm a b (A.mp.mem_iff.1 ha) (A.mp.mem_iff.1 hb),?_⟩
 ·obtain⟨q,hq,rfl⟩:=(mem p).1 hp;rw[hw,hh];exact into q (N.inp q hq).1 (N.inp q hq).2
 ·obtain⟨m,gm,rfl⟩:=aaN.1 (A.mp.mem_iff.1 hm);rw[hw,hh];exact into m.at_ (N.inm m gm).1 (N.inm m gm).2
 ·obtain⟨x,hx,rfl⟩:=(lm l).1 hl;obtain⟨i1,i2⟩:=xin hx;have l1:=adS i1;have l2:=adS i2;have ne:S'.pts.idxOf (mv x.1)≠S'.pts.idxOf (mv x.2):=fun z=>by
   obtain⟨l,gl,rfl⟩:=aaN.1 hx;have:=N.lin l gl;have:=N.inj (by lia) (by lia) (mi (din hx).1 (din hx).2 (Agu i1 i2 z));lia
  show min (S'.pts.idxOf (mv x.1)) (S'.pts.idxOf (mv x.2))<max (S'.pts.idxOf (mv x.1)) (S'.pts.idxOf (mv x.2))/\max (S'.pts.idxOf (mv x.1)) (S'.pts.idxOf (mv x.2))<S'.pts.length;lia
 ·have:∀x,x∈S.drawn->mv x.1∈Alj S'.drawn/\mv x.2∈Alj S'.drawn:=fun x hx=>by
   have hl:=(lm _).2 ⟨x,hx,rfl⟩;have hd:(S'.pt (lnO S'.pts (mvP mv x)).1,S'.pt (lnO S'.pts (mvP mv x)).2)∈S'.drawn:=aaN.2 ⟨_,hl,rfl⟩;obtain⟨i1,i2⟩:=xin hx;have p1:=Avm i1;have p2:=Avm i2
   by_cases c:S'.pts.idxOf (mv x.1)<=S'.pts.idxOf (mv x.2)
   ·have e:lnO S'.pts (mvP mv x)=(S'.pts.idxOf (mv x.1),S'.pts.idxOf (mv x.2)):=ahX (ajI c) (alB c);rw[e,p1,p2]at hd;exact Aek hd
   ·have e:lnO S'.pts (mvP mv x)=(S'.pts.idxOf (mv x.2),S'.pts.idxOf (mv x.1)):=ahX (Nat.min_eq_right (by show S'.pts.idxOf (mv x.2)<=S'.pts.idxOf (mv x.1);lia)) (Nat.max_eq_left (by show S'.pts.idxOf (mv x.2)<=S'.pts.idxOf (mv x.1);lia));rw[e,p1,p2]at hd;exact(Aek hd).symm
  obtain⟨y,hy,hp⟩:=adG.1 ((A.pt.mem p).1 hp);obtain⟨x,hx,rfl⟩:=aaN.1 hy;rcases aaG.1 hp with rfl | hp
  ·exact(this x hx).1
  ·rw[abF]at hp;subst hp;exact(this x hx).2
 ·have:=Pg.len_le A.pt.nd fun p hp=>show p∈S.pts.map mv by rw[aaN];exact(mem p).1 hp
  rw[aaA]at this;exact abI this N.nP
theorem Nice.few (N:Nice S)(mv:Pt->Pt):few (S.drawn.map (mvP mv)):=fun l nl hl=>by
 have:=Pg.len_le nl fun p hp=>show p∈S.pts.map mv by
  obtain⟨y,hy,hp⟩:=adG.1 (hl p hp);obtain⟨x,hx,rfl⟩:=aaN.1 hy;have d:=Ajr N.lin' hx;rcases aaG.1 hp with rfl | hp
  ·exact aaN.2 ⟨_,d.1,rfl⟩
  ·rw[abF]at hp;subst hp;exact aaN.2 ⟨_,d.2,rfl⟩
 rw[aaA]at this;have:=N.nP;lia
end
theorem Axo {b:List UInt8}(r:Ass (acD b))(nP:(acD b).pts.length<=4096)(ok:aeB b=.ok (acD b)):Nice (acD b):=by
 obtain⟨r,cl⟩:=r;have fn:(acD b).fault=none:=by
  unfold aeB at ok
  repeat' split at ok
  all_goals first | (cases ok;done) | assumption
 generalize acD b=S at *;have inS:∀p,p∈S.pts->∃i,i<S.pts.length/\S.pt i=p:=fun p hp=>by
  obtain⟨i,hi,rfl⟩:=abX.1 hp;exact⟨i,hi,Acj hi⟩
 refine⟨fun p hp=>?_,fun m hm=>?_,?_,r.lin,r.lnd,fun p hp=>?_,?_,nP⟩
 ·obtain⟨i,hi,rfl⟩:=inS p hp;exact⟨r.inx i hi,r.iny i hi⟩
 ·have:=cl m hm;unfold akK at this;simp only[acH,dtt]at this;lia
 ·rw[abQ,afA];intro i j hi hj hij z;have:=r.ord i j hij hj;rw[Acj hi,Acj hj,z,Ah8]at this;cases this
 ·obtain⟨i,hi,rfl⟩:=inS p hp;have d:=r.deg i hi;have:∃j,j∈S.near i:=by
   cases q:S.near i with
   | nil=>rw[q]at d;simp at d
   | cons j _=>exact⟨j,.head _⟩
  obtain⟨j,hj⟩:=this;obtain⟨l,hl,e⟩:=afP.1 hj;have m:=Aek (xs:=S.drawn) (aaN.2 ⟨l,hl,rfl⟩)
  split at e
  ·rename_i q;subst q;exact m.1
  ·split at e
   ·rename_i q;subst q;exact m.2
   ·cases e
 ·have fb:agO (Gla.markOk S) agT S.marks=none:=by
   unfold Gla.Plan.fault at fn;dsimp only at fn
   repeat' split at fn
   all_goals first | (cases fn;done) | assumption
  have ch:=Pg.chain_all (R:=fun p q=>agT p q=true) (fun _ _ _ a b=>Pg.below_trans a b) (Pg.firstBad_none fb).2;intro a b ha hb e;obtain⟨i,hi,rfl⟩:=abX.1 ha;obtain⟨j,hj,rfl⟩:=abX.1 hb;have no:∀i j (hi:i<S.marks.length) (hj:j<S.marks.length),i<j->S.marks[i].at_≠S.marks[j].at_:=fun i j hi hj hij z=>by
   have:=ch j i hij hj;unfold agT at this;rw[z,Ah8]at this;cases this
  rcases acE i j with q | q | q
  ·exact absurd e (no i j hi hj q)
  ·subst q;rfl
  ·exact absurd e.symm (no j i hj hi q)
end Gc
end
section
namespace Gc
open PySem PySem.Spec PyProof.Rows L2
open Gla (Pt Plan Mark)
def SameT (H H':Hp):Prop:=∀b o,H b=some o->(∀ps,o≠.tbl ps)->H' b=some o
theorem SameT.of {H H':Hp}(e:Same H H'):SameT H H':=fun b o h _=>e b o h
theorem SameT.trans {H H' H2:Hp}(e:SameT H H')(f:SameT H' H2):SameT H H2:=fun b o h n=>f b o (e b o h n) n
theorem DrW.sameT {C:Addr}{H H':Hp}{d:Addr}{S:Plan}{pa la ma:Addr}{as ls ms:List Addr}(e:SameT H H')(D:DrW C H d S pa la ma as ls ms):DrW C H' d S pa la ma as ls ms :=
 have t:Tk H H':=fun _ _ h=>e _ _ h (by intro _ z;cases z)
 ⟨let ⟨dx,h⟩:=D.ins;⟨dx,e _ _ h (by intro _ z;cases z)⟩,e _ _ D.pts (by intro _ z;cases z),e _ _ D.lns (by intro _ z;cases z),e _ _ D.mks (by intro _ z;cases z),D.ptsX.tk t,⟨D.lnsA.len,fun i c hc=>let ⟨p,a,b⟩:=D.lnsA.at_ i c hc;⟨p,a,t _ _ b⟩⟩,D.mksX.tk t,D.nP,D.nL,D.nM⟩
def Beq (s:Option afD):adX:=match s with
 | some (.Return (some (.Call _ as _ _)) _)=>as.getLast?.getD (.Name "x" ⟨0,0,0,0⟩)
 | some (.Assign _ (.Call _ as _ _) _)=>as.getLast?.getD (.Name "x" ⟨0,0,0,0⟩)
 | _=>.Name "x" ⟨0,0,0,0⟩
def Bet:adX->aiH
 | .Lambda a _ _ _=>a
 | _=>⟨[],[],none,[],[],none,[]⟩
def Bes:adX->adX
 | .Lambda _ b _ _=>b
 | e=>e
def Ber:adX->Scope
 | .Lambda _ _ s _=>s
 | _=>{ kind:=.function,names:=[],isGenerator:=false,isCoroutine:=false }
theorem Arb {x:Str}{v:afJ}:∀{l:List (Str×afJ)},l.lookup x=some v->(x,v)∈l
 | [],h=>by cases h
 | (a,b)::r,h=>by
  rw[acW]at h;cases q:x==a with
  | true=>rw[q]at h;cases h;rw[eq_of_beq q];exact .head _
  | false=>rw[q]at h;exact .tail _ (Arb h)
theorem Au6 {sc:Scope}{z:Str}(d:∀y∈sc.names,y.2=.cell \/y.2=.free ->y.1=z)(x:Str)(h:sc.names.lookup x=some .cell \/sc.names.lookup x=some .free):x=z:=h.elim (fun h=>d _ (Arb h) (.inl rfl)) fun h=>d _ (Arb h) (.inr rfl)
def TabH (qual:Str)(pos:Pos)(Pt:Addr)(H:Hp):Prop:=∃ps:Array aaF,H Pt=some (.tbl ps)/\TriplesOk ps.toList/\
 (codeAmong pos ps.toList=none\/∃c' oc,codeAmong pos ps.toList=some (.ref c')/\H c'=some (Afz c' oc)/\CodO qual oc)
theorem TabH.same {qual:Str}{pos:Pos}{Pt:Addr}{H H':Hp}(h:TabH qual pos Pt H)(e:Same H H'):TabH qual pos Pt H':=by
 obtain⟨ps,a,b,c⟩:=h;refine⟨ps,e _ _ a,b,c.imp id ?_⟩;rintro⟨c',oc,d,f,g⟩;exact⟨c',oc,d,e _ _ f,g⟩
theorem Bb0 {X:Cx}{L:Lam}{Pt:Addr}{pos:Pos}{σ:L2.St}{H:Hp}{Q:VK}(h:TabH L.qual pos Pt H)(k:∀c f' H',X.env.cells.lookup L.y=some c->SameT H H'->TabH L.qual pos Pt H'->lamH L X.mg H' f' c->Q (.ref f') H'):Bdk X Pt L.y L.qual L.params L.body L.scope pos σ H Q:=by
 obtain⟨ps,hP,tr,h⟩:=h;refine⟨ps,hP,tr,?_⟩;rcases h with h | ⟨c',oc,h1,h2,h3⟩
 ·refine .inl ⟨h,fun c c' oc f' ctv hc co h1 h2 ne=>?_⟩;have n1:Pt≠c':=Aa8 hP h1;have n2:Pt≠f':=Aa8 hP h2;have eP:upd (upd (upd H Pt (.tbl (ps ++ #[rawInt pos.line,rawInt pos.col,.ref c']))) c' (Afz c' oc)) f' (Afz f' (Aon X.mg L.qual L.params L.body L.scope L.y c c' ctv)) Pt=some (.tbl (ps ++ #[rawInt pos.line,rawInt pos.col,.ref c'])):=by rw[Aa5 n2,Aa5 n1,Aa1]
  have eC:upd (upd (upd H Pt (.tbl (ps ++ #[rawInt pos.line,rawInt pos.col,.ref c']))) c' (Afz c' oc)) f' (Afz f' (Aon X.mg L.qual L.params L.body L.scope L.y c c' ctv)) c'=some (Afz c' oc):=by rw[Aa5 ne,Aa1]
  refine k c f' _ hc (fun b o e n=>?_) ⟨_,eP,?_,.inr ⟨c',oc,?_,eC,co⟩⟩ ⟨c',oc,ctv,Aa1,eC,co⟩
  ·have b1:b≠Pt:=fun z=>by rw[z,hP]at e;cases e;exact n _ rfl
   rw[Aa5 (Aa8 e h2),Aa5 (Aa8 e h1),Aa5 b1];exact e
  ·rw[aoA];exact TriplesOk_snoc _ _ _ _ tr
  ·rw[aoA];exact codeAmong_snoc _ tr h
 ·refine .inr ⟨c',oc,h1,h2,h3,fun c f' ctv hc hf=>?_⟩;have s:=Same.new (o:=Afz f' (Aon X.mg L.qual L.params L.body L.scope L.y c c' ctv)) hf;exact k c f' _ hc (.of s) ⟨ps,s _ _ hP,tr,.inr ⟨c',oc,h1,s _ _ h2,h3⟩⟩ ⟨c',oc,ctv,Aa1,s _ _ h2,h3⟩
variable {P:abS}{w:adI}{K:abA}{mg:Str->Option aaF}{base:Heap}
theorem okT {x qual:Str}{st:afD}{f cT:Addr}{fd:aaX}{N ps:List Str}{k:Nat}{sp:Sp}(F:Fun K x qual st f fd)(S:Aaa N ps (Aa6 st))(hc:fd.code=.ref cT)(len:∀vs H Q E,sp vs H Q E->vs.length=ps.length)
 (hbody:∀(A:adE) (outer:List Env) (s:aaI) (H:Hp) (vs:List V) (Q:VK) (E:XK),Room k (A.deeper (envOfC qual (Aa6 st) s.heap.objs.size f (.ref cT)))->sp vs H Q E->
  ∃t,PSs (Avw CX0 P w K mg base N qual (Aa6 st) f (.ref cT) A outer s H E).nox (Abp st) t/\t { nx:=fun _ H'=>Q .non H',rt:=Q } (start N vs) H):FnOk P w K mg base CX0 (k+1) f fd ps sp:=by
 obtain⟨oc,od,kV,doc,pm,an,cdv,ct,osl,rfl,lk,hcd⟩:=F.ex;obtain rfl:cdv=.ref cT:=hc;refine Bbb lk hcd S len fun A outer s H vs Q E hr hsp=>?_;obtain⟨t,h,q⟩:=hbody A outer s H vs Q E hr hsp;exact⟨t,h.nox,q⟩
def Av7 (C Pt:Addr)(qual:Str)(pos:Pos)(pre:List V)(to:Plan->Plan):Sp:=fun vs H Q _=>∃(d:Addr) (S:Plan) (pa la ma:Addr) (as ls ms:List Addr),vs=V.ref d::pre/\DrW C H d S pa la ma as ls ms/\Nice S/\S.w<4294967296/\S.h<4294967296/\TabH qual pos Pt H/\
 ∀(H':Hp) (d':Addr) (pa la ma:Addr) (as ls ms:List Addr),SameT H H'->TabH qual pos Pt H'->DrW C H' d' (to S) pa la ma as ls ms->Nice (to S)->Q (.ref d') H'
def spICT (K:abA)(Pt:Addr)(f:Nat->List UInt8->List Int):Sp:=fun vs H Q _=>∃(n:Nat) (a:Addr) (b:List UInt8),vs=[.int n,.ref a]/\SqL K H a (vB b)/\b.length<=60000/\n<18446744073709551616/\H Pt=some (.tbl #[])/\∀(H':Hp) (p:Addr),H' p=some (.lst ((f n b).map V.int))->Q (.ref p) H'
theorem TabH.new {qual:Str}{pos:Pos}{Pt:Addr}{H:Hp}(h:H Pt=some (.tbl #[])):TabH qual pos Pt H:=⟨#[],h,trivial,.inl rfl⟩
theorem Ay6 (S:Plan):drN S=afV (GlaPlans.told S):=by
 unfold drN GlaPlans.told
 by_cases h:S.fits=true
 ·rw[ifp h,ifp h,Ayy];unfold nJ;show _=0::amG _;unfold amG PlanNeutral.rowN;rw[acC,aaA,aaA];rfl
 ·rw[ifn h,ifn h];rfl
def Ao2 (K:abA)(x:Str)(st:afD)(ps:List Str)(cT:Addr):Prop:=∀{h:Heap} {mg:Str->Option aaF},K.In h->h.Ns aaV mg->∃f fd,Def K mg x st ps f fd/\fd.code=.ref cT
theorem dIT {K:abA}{x:Str}{st:afD}{ps:List Str}{f cT:Addr}{oc kV dc pm ct:aaF}{od an:Option Addr}{sl:Array (Option aaF)}(a:agQ K aaV x=some (some (.ref f)):=by k_is)(l:K.lookup f=some ⟨oc,od,.func (akC x x (Ach st) (Abp st) (Aa6 st) .none kV dc pm an (.ref cT) ct),sl⟩:=by k_is)(c:akQ K (.ref cT) x=true:=by k_is)(k:agE K (.ref f)=true:=by k_is)
 (hb:Bds x x st ps:=by intro _ _ _ _ _ _ us hl;first | (obtain⟨_,rfl⟩:=Gc.us1 hl;rfl) | (obtain⟨_,_,rfl⟩:=Gc.us2 hl;rfl)):Ao2 K x st ps cT:=fun X G=>⟨f,_,⟨Agx l c k,ajN X G a,(Agx l c k).binds hb⟩,rfl⟩
theorem tab_is {K:abA}{x:Str}{f c T:Addr}{oc oc':aaF}{od od':Option Addr}{fd:aaX}{sl sl':Array (Option aaF)}{vs:Array aaF}(a:agQ K aaV x=some (some (.ref f)))(l:K.lookup f=some ⟨oc,od,.func fd,sl⟩)(e:fd.code=.ref c)(m:K.lookup c=some ⟨oc',od',.fields vs,sl'⟩)(v:vs[11]?=some (.ref T)):W.tabIn K x=some (c,T):=by
 unfold W.tabIn;simp only[a,l,e,m,v]
theorem walkT {r:W.OpenSpec}{k:Nat}{q:abS}{loose:List Str}{XP:(Str->Option aaF)->Heap->Prop}{YP:adI->Heap->Prop}{d:DefRec}{K:Params->abA}{ps:List Str}{sp:abA->Addr->Sp}{x:Str}{st:afD}{qs:List Str}{dx:DefRec}
 (hwell:r.wellSaid=true) (hdf:d.params.defaults=[]) (hlen:r.args.length=ps.length) (hr:Room k callerA) (hrec:(recsOf q).find? (fun e=>e.name==x)=some dx)
 (hT:∃cT Tb,(∀P,W.tabIn (K P) x=some (cT,Tb))/\(∀P,(K P).lookup Tb=none)/\aaV≠Tb/\∀P,Ao2 (K P) x st qs cT) (hY:∀(w:adI) (h:Heap),YP w h->(K w.params).In h)
 (F:∀(cT Tb:Addr) (w:adI) (mg:Str->Option aaF) (fa:Addr) (h:Heap),aaV≠Tb->Ao2 (K w.params) x st qs cT->(K w.params).In h->h.Ns aaV mg->mg d.name=some (.ref fa)->
  ∃fd:aaX,(∀(s:aaI) (us:List aaF),us.length=ps.length->BindsTo s fd ⟨us,[]⟩ (ps.zip us))/\
   ∀base:Heap,(K w.params).In base->base.Ns aaV mg->base.BuiltinsAt mg Tb->ajT base cT Tb->FnOk r.prog w (K w.params) mg base CX0 k fa fd ps (sp (K w.params) Tb))
 (hsp:∀(Tb:Addr) (K:abA) (H:Hp) (xs:List V) (a:W.Codec.denoteAll r.args),Auz Tb H->W.Codec.withinAll r.args a=true->W.Codec.app r.args r.asked a=true->DwAll K H xs (W.Codec.encAll r.args a)->
  sp K Tb xs H (fun v H'=>Dw K H' v (r.ret.enc (W.Codec.app r.args r.f a))) fun _ _ _=>False) :
 W.WalkOS q loose XP YP r d [] (fun f vs=>PySem.call f vs):=by
 obtain⟨cT,Tb,h1,h2,h3,h4⟩:=hT;exact Ao3 (sp:=fun K=>sp K Tb) hwell hdf hlen hr hrec h1 h2 h3 hY (fun w mg fa h _ X G e=>F cT Tb w mg fa h h3 (h4 _) X G e) (hsp Tb)
structure SrcM (K:abA):Prop where
 d_bo:Aar K "bytes_of" sBO ["numbers","sizes"]
 d_hf:Aar K "head_for" sHF ["drawing"]
 d_wd:Aar K "write_drawing" sWD ["drawing"]
 d_tg:Aar K "is_too_great" sTG ["drawing"]
 d_row:Aar K "row_told" Bbt ["row"]
 d_dt:Aar K "drawing_told" sDT ["drawing"]
 d_po:Aar K "pairs_of" sPO ["drawing"]
 d_pts:Aar K "points_of" Bbu ["pairs"]
 d_na:Aar K "numbered_anew" sNA ["width","height","pairs","marks"]
 d_mv:Aar K "moved" sMv ["drawing","width","height","place_of"]
 n_zip:agQ K aaV "zip" = some none
 n_list:agQ K aaV "list" = some none
section
variable {P:abS}{w:adI}{K:abA}{mg:Str->Option aaF}{h base:Heap}{C CV:Addr}
theorem SrcM.told (M:SrcM K)(S:Src K C CV)(X:K.In h)(G:h.Ns aaV mg):∃f fd,Def K mg "drawing_told" sDT ["drawing"] f fd/\FnOk P w K mg base CX0 3 f fd ["drawing"] (Bc9 C):=by
 obtain⟨_,_,FB⟩:=M.d_bo X G;obtain⟨_,_,FH⟩:=M.d_hf X G;obtain⟨_,_,FW⟩:=M.d_wd X G;obtain⟨_,_,FG⟩:=M.d_tg X G;obtain⟨_,_,FR⟩:=M.d_row X G;obtain⟨f,fd,F⟩:=M.d_dt X G;obtain⟨aH,hs,TH⟩:=S.thead X G;have nl:=Acm X G S.n_len;have nz:=Acm X G M.n_zip;exact⟨f,fd,F,Bcy F FG (Bcs FG FH S.tdraw TH nl nz) FW (Bcr FW FB FH S.tdraw (S.cst X G) nl nz (Acm X G S.n_range) (Acm X G M.n_list)) FR nl⟩
theorem SrcM.numb (M:SrcM K)(S:Src K C CV)(X:K.In h)(G:h.Ns aaV mg):∃f fd,Def K mg "numbered_anew" sNA ["width","height","pairs","marks"] f fd/\∀base:Heap,FnOk P w K mg base CX0 5 f fd ["width","height","pairs","marks"] (Bc7 C):=by
 obtain⟨_,_,FP⟩:=M.d_pts X G;obtain⟨f,fd,F⟩:=M.d_na X G;obtain⟨_,_,FY⟩:=S.f_by_height X G;obtain⟨_,_,FI,bI,mI⟩:=S.m_init;exact⟨f,fd,F,fun base=>Bcv F FP FY FI bI ⟨S.cD.makes,mI.at_,mI.fn,S.cD.kp⟩ (S.cD.mgC X G) S.tdraw (Acm X G S.n_sorted) (Acm X G S.n_min) (Acm X G S.n_max) (Acm X G S.n_enumerate)⟩
theorem SrcM.moved (M:SrcM K)(S:Src K C CV)(X:K.In h)(G:h.Ns aaV mg){L:Lam}(LO:L.Ok):∃f fd,Def K mg "moved" sMv ["drawing","width","height","place_of"] f fd/\∀(base':Heap) (c:Addr) (n:Int),CelI base' c n->FnOk P w K mg base' CX0 6 f fd ["drawing","width","height","place_of"] (Bbr C L mg c n):=by
 obtain⟨_,_,FO⟩:=M.d_po X G;obtain⟨f,fd,F⟩:=M.d_mv X G;obtain⟨_,_,FN,GN⟩:=M.numb (P:=P) (w:=w) S X G;exact⟨f,fd,F,fun base' c n cel=>Bcw LO F FO FN (GN base') S.tdraw cel⟩
end
abbrev sQt:afD:=top Af3
abbrev Awl:afD:=top Axw
abbrev xQt:adX:=Beq (Abp sQt).getLast?
abbrev lQt:Lam:=⟨"quarter_turned.<locals>.<lambda>",Bet xQt,Bes xQt,Ber xQt,"height","x","y",Bbp (Ab6 (tOp (rI0 fun i j=>.int (i-j)) (Abv 2) (Abv 1)) (Ab6 (Abv 0) Ahb)),fun n _ b=>n-b,fun _ a _=>a⟩
abbrev pQt:Pos:=xQt.pos
theorem Beo:lQt.Ok where
 s:=⟨rfl,rfl,rfl,by decide +kernel,Au6 (by decide +kernel),rfl,rfl,rfl,by decide +kernel,fun _ _ _ _ _ _=>rfl⟩
 b:=fun X s H f c c'=>Abd (Aa0 (Aay Ac9 (pv 2) (pv 1)) (Aa0 (pv 0) Aa3))
 t:=fun a b n H Q ha hb k=>⟨_,rfl,_,rfl,_,_,rfl,rfl,_,rfl,sz2,k⟩
def qtP (S:Plan):Plan:=S.moved S.h S.w fun p=>⟨S.h-p.y,p.x⟩
def ansTurn (n:Nat)(b:List UInt8):List Int:=if 3<n then [-1] else if rfB b=[] then drN (ajJ n (acD b))else rfB b
theorem scQt:Aaa ["drawing","height"] ["drawing"] (Aa6 sQt):=fsc
theorem Bct {f fM C cT Tb:Addr}{fd fdM:aaX}(F:Def K mg "quarter_turned" sQt ["drawing"] f fd)(hc:fd.code=.ref cT)(FM:Def K mg "moved" sMv ["drawing","width","height","place_of"] fM fdM)(GM:∀(base':Heap) (c:Addr) (n:Int),CelI base' c n->FnOk P w K mg base' CX0 6 fM fdM ["drawing","width","height","place_of"] (Bbr C lQt mg c n))
 (T:Ac7 K C) (hb:base.BuiltinsAt mg Tb) (hC:ajT base cT Tb) (hne:aaV≠Tb):FnOk P w K mg base CX0 7 f fd ["drawing"] (Av7 C Tb lQt.qual pQt [] qtP):=by
 refine okT F.fn scQt hc (fun vs H Q E h=>?_) (fun A outer s H vs Q E hr h=>?_)
 ·obtain⟨d,S,pa,la,ma,as,ls,ms,rfl,_⟩:=h;rfl
 ·obtain⟨d,S,pa,la,ma,as,ls,ms,rfl,D,N,wS,hS,tb,k⟩:=h;obtain⟨dx,hd⟩:=D.ins
  refine⟨_,Aa2 (pS 1 scQt.nd (Aaj (pv 0) rfl) (hx:=anD rfl))
   (Aa4 (Aa9 (Atj (j:=1) (sp:=fun c n=>Bbr C lQt mg c n) GM hr rfl FM.mgf FM.fn.kp FM.b rfl rfl rfl
    (Aa0 (pv 0) (Aa0 (pv 1) (Aa0 (Aaj (pv 0) rfl) (Aa0 (Ba1 (qual:=lQt.qual) (y:=lQt.y) (Pt:=Tb) rfl rfl hC (Ajs rfl) (fun c h=>by cases h;rfl) hb hne) Aa3))))))),?_⟩
  refine⟨_,rfl,d,C,dx,_,_,rfl,hd,T.cl,T.nH,Ap5 _ _ _ _ _,_,rfl,_,rfl,_,rfl,d,C,dx,_,_,rfl,hd,T.cl,T.nW,Ap4 _ _ _ _ _,Bb0 (L:=lQt) tb fun c f' H1 hc1 sT tb1 lm=>⟨_,rfl,fun c2 hc2=>?_⟩⟩;obtain rfl:c=c2:=abD (hc1.symm.trans hc2);refine⟨d,S,pa,la,ma,as,ls,ms,S.h,S.w,f',fun p=>⟨S.h-p.y,p.x⟩,rfl,D.sameT sT,N.lin',lm,fun p hp=>?_,N.few _,fun H2 d' S' pa' la' ma' as' ls' ms' s2 D2 w2 h2 A=>?_⟩
  ·have:p.x<=S.w/\p.y<=S.h:=hp.elim (N.inp p) fun z=>by obtain⟨m,hm,rfl⟩:=aaN.1 z;exact N.inm m hm
   exact⟨⟨by lia,by lia⟩,by show(S.h:Int)-p.y=((S.h-p.y:Nat):Int);lia,rfl⟩
  ·obtain⟨e,N'⟩:=N.moved (mv:=fun p=>⟨S.h-p.y,p.x⟩) (fun p q p1 p2 q1 q2 e=>by cases p;cases q;simp only[Pt.mk.injEq]at *;lia) (fun p p1 p2=>⟨Nat.sub_le _ _,p1⟩) A w2 h2;have e:S'=qtP S:=e;subst e;exact k H2 d' pa' la' ma' as' ls' ms' (sT.trans (.of s2)) (tb1.same s2) D2 N'
theorem scTrn:Aaa ["quarters","cartoon","verdict","drawing","quarter"] ["quarters","cartoon"] (Aa6 Awl):=fsc
theorem Baj {f fE fF fT C CV Tb:Addr}{fd fdE fdF fdT:aaX}(F:Def K mg "turn" Awl ["quarters","cartoon"] f fd)(GE:Kwn P w K mg base 7 "examine" ["row"] (Be6 K C CV) fE fdE)(FF:Def K mg "quarter_turned" sQt ["drawing"] fF fdF)(GF:FnOk P w K mg base CX0 7 fF fdF ["drawing"] (Av7 C Tb lQt.qual pQt [] qtP))
 (FT:Def K mg "drawing_told" sDT ["drawing"] fT fdT) (GT:FnOk P w K mg base CX0 3 fT fdT ["drawing"] (Bc9 C)) (T:Ap9 K CV) (nr:mg "range" = none):FnOk P w K mg base CX0 8 f fd ["quarters","cartoon"] (spICT K Tb ansTurn):=by
 refine F.go scTrn fun cdv A o s H vs Q E hr h=>?_;obtain⟨n,a,b,rfl,ha,bl,nl,hP,k⟩:=h
 refine⟨_,Aa2 (Aav (Aak Adb (pv 0) Aa7 (Aan _)) (Aa4 (Aa9 (Abb (Aa0 (Alw Ag5 Aa7) Aa3)))) Aag)
  (Aa2 (pS 2 scTrn.nd (pCK GE hr (Aa0 (pv 1) Aa3)))
  (Aa2 (Aav (Aed (Aaj (pv 2) rfl) (fun _=>rfl)) (Aa4 (Aa9 (Aaj (pv 2) rfl))) Aag)
  (Aa2 (pS 3 scTrn.nd (Aaj (pv 2) rfl))
  (Aa2 (Aao aaQ rfl (Abz rfl nr (Aa0 (pv 0) Aa3)) (pG 4 scTrn.nd) (Aa4 (pS 3 scTrn.nd (pCD FF GF hr (Aa0 (pv 3) Aa3)))))
  (Aa4 (Aa9 (pCD FT GT (hr.mono (by decide)) (Aa0 (pv 3) Aa3)))))))),?_⟩
 refine⟨_,rfl,_,_,rfl,rfl,_,rfl,?_⟩;refine Abj (fun e=>?_) (fun e=>?_)
 ·simp only[dtt]at e;refine⟨_,rfl,sz1,fun p hp=>k _ p ?_⟩;rw[Aa1];unfold ansTurn;rw[ifp (by lia)];rfl
 simp only[dtt]at e;have n1:¬3<n:=by lia
 refine⟨_,rfl,a,b,rfl,ha,by lia,fun H1 v dr pn s1 vd more=>?_⟩;obtain⟨dx,ra,hv,hra⟩:=vd;refine⟨_,rfl,v,CV,dx,_,_,rfl,hv,T.cl,T.nR,Ayz _ _ _,_,.inl ⟨_,SqL.of hra,rfl⟩,?_⟩;refine Abj (fun e2=>?_) (fun e2=>?_)
 ·refine⟨_,rfl,v,CV,dx,_,_,rfl,hv,T.cl,T.nR,Ayz _ _ _,k H1 ra ?_⟩;unfold ansTurn;rw[ifn n1,ifn (fun z=>by rw[z]at e2;simp at e2)];exact hra
 have e0:rfB b=[]:=by
  cases q:rfB b with
  | nil=>rfl
  | cons x r=>rw[q]at e2;exact absurd (by simp) e2
 obtain⟨d,p,pa,la,ma,as,ls,ms,rs,O,rfl,rfl,D,hp,RA,pan,pre,_⟩:=more e0;refine⟨_,rfl,v,CV,dx,_,_,rfl,hv,T.cl,T.nD,Bc0 _ _ _,?_⟩;refine⟨_,rfl,(n:Int),rfl,by lia,by lia,?_⟩;rw[afH];refine Ac4 (n:=n) (fun i σ H'=>∃(d:Addr) (v4:Option V) (pa la ma:Addr) (as ls ms:List Addr),σ=[some (.int n),some (.ref a),some (.ref v),some (.ref d),v4]/\DrW C H' d (ajJ i (acD b)) pa la ma as ls ms/\Nice (ajJ i (acD b))/\(ajJ i (acD b)).w<4294967296/\(ajJ i (acD b)).h<4294967296/\TabH lQt.qual pQt Tb H')
  ⟨d,_,pa,la,ma,as,ls,ms,rfl,D.dw,Axo pre D.nP (Avd bl e0),D.smW,D.smH,.new (s1 _ _ hP)⟩ ?_ ?_
 ·rintro i σ H' hi ⟨d,v4,pa,la,ma,as,ls,ms,rfl,D,N,w1,h1,tb⟩;refine⟨_,rfl,d,_,pa,la,ma,as,ls,ms,rfl,D,N,w1,h1,tb,fun H2 d' pa' la' ma' as' ls' ms' sT tb2 D2 N2=>?_⟩;exact⟨d',_,pa',la',ma',as',ls',ms',rfl,D2,N2,h1,w1,tb2⟩
 ·rintro σ H' ⟨d,v4,pa,la,ma,as,ls,ms,rfl,D,N,w1,h1,tb⟩;refine⟨_,rfl,d,_,pa,la,ma,as,ls,ms,rfl,D,fun H3 r s3 hr3=>k H3 r ?_⟩;rw[hr3];unfold ansTurn;rw[ifn n1,ifp e0]
theorem trn_due {z:Int}{ns:List Int}(hz:0<=z)(h:byts ns)(l:ns.length<=60000):PyYqglaa.turn z ns=ansTurn z.toNat (toB ns):=by
 have lb:=toB_len ns;have e1:PyYqglaa.turn z ns=afV (akO (.turn (toB ns) z.toNat)):=by
  show(match (do some (GlaPlans.Call.turn (<-ajH ns) (<-anC z)):Option GlaPlans.Call)with | some x=>afV (akO x) | none=>[])=_;rw[Apl ns h];unfold anC;rw[ifn (by lia)];rfl
 rw[e1];unfold akO ansTurn
 by_cases q:3<z.toNat
 ·rw[ifp q,ifp (by show decide (z.toNat<=3)=false;simp;lia)];rfl
 ·rw[ifn q,ifn (by show ¬decide (z.toNat<=3)=false;simp;lia)];show afV (ajZ _ _)=_;rw[Asv (by lia),Ay6]
end Gc
end
namespace Gc
open PySem PySem.Spec PyProof.Rows L2
theorem all_fn {P:abS}{w:adI}{K:abA}{h:Heap}{mg:Str->Option aaF}{fa C CV:Addr}(X:K.In h)(G:h.Ns aaV mg)(hfa:mg "turn" = some (.ref fa))(S:Src K C CV)(D:Bbn K "turn" Awl){cT Tb:Addr}(M:SrcM K)(DT:Ao2 K "quarter_turned" sQt ["drawing"] cT)(hne:aaV≠Tb) :
 ∃fd:aaX,(∀(s:aaI) (us:List aaF),us.length=(["quarters","cartoon"]:List Str).length->BindsTo s fd ⟨us,[]⟩ ((["quarters","cartoon"]:List Str).zip us))/\∀base:Heap,K.In base->base.Ns aaV mg->base.BuiltinsAt mg Tb->ajT base cT Tb->FnOk P w K mg base CX0 8 fa fd ["quarters","cartoon"] (spICT K Tb ansTurn):=by
 obtain⟨f,oc,od,kV,dc,pm,an,cd,ct,sl,a,l,c,k⟩:=D;have e:=hfa.symm.trans (ajN X G a);cases e;have F:=Agx (st:=Awl) l c k;have b:=F.binds (ps:=["quarters","cartoon"]) fun _ _ _ _ _ _ us hl=>by obtain⟨_,_,rfl⟩:=us2 hl;rfl
 refine⟨akC "turn" "turn" (Ach Awl) (Abp Awl) (Aa6 Awl) .none kV dc pm an cd ct,fun s us hu=>by obtain⟨_,_,rfl⟩:=us2 hu;exact .of_eq rfl,fun base _ _ hbm hC=>?_⟩;obtain⟨fE,fdE,KE⟩:=S.exam (P:=P) (w:=w) (base:=base) X G;obtain⟨_,_,FD,hcd⟩:=DT X G;obtain⟨_,_,FM,GM⟩:=M.moved (P:=P) (w:=w) S X G Beo;obtain⟨_,_,FT,GT⟩:=M.told (P:=P) (w:=w) (base:=base) S X G;exact Baj ⟨F,hfa,b⟩ KE FD (Bct FD hcd FM GM S.tdraw hbm hC hne) FT GT S.tverd (Acm X G S.n_range)
end Gc
namespace PySem.W.Fast
def tw10099426537821908655:=0
def tw10110977220098048758:=0
def tw10132860859234863248:=0
def tw10156966459442152947:=0
def tw1020844436511029853:=0
def tw10278648135484366250:=0
def tw10352537227251517526:=0
def tw10367919454492941400:=0
def tw10429001674381657639:=0
def tw10524464657526925309:=0
def tw10527742235956079286:=0
def tw10549995519639846795:=0
def tw10591003529797903713:=0
def tw10635135234405299875:=0
def tw10757970582068907915:=0
def tw10839139269371693764:=0
def tw1084449655892648468:=0
def tw10887165863887070081:=0
def tw10961234834799762123:=0
def tw11025113952068735820:=0
def tw11034357615655316215:=0
def tw1110114994320399768:=0
def tw11119935836700178218:=0
def tw11127885201315527435:=0
def tw11149949505628555185:=0
def tw11162980346805497979:=0
def tw11335379611340106876:=0
def tw11387135659006976922:=0
def tw11391422725570939600:=0
def tw11517629248818833410:=0
def tw11545392283859679161:=0
def tw11636967578107549873:=0
def tw11666274577354794967:=0
def tw11779847716357219122:=0
def tw1181175454848381352:=0
def tw11812541781797020:=0
def tw11812787914546520098:=0
def tw11836907624903114043:=0
def tw11841191971022463458:=0
def tw11870771971739158:=0
def tw11968359848566832449:=0
def tw11983609026286320230:=0
def tw11990266760025719547:=0
def tw12004693356268202242:=0
def tw12027556038666856159:=0
def tw12032005838344580117:=0
def tw12043287123291551535:=0
def tw12081225537473263254:=0
def tw12094540754158608386:=0
def tw12104577386907065982:=0
def tw1215173106263964673:=0
def tw12223343548299603227:=0
def tw12323902810372509194:=0
def tw12328861617539285822:=0
def tw12340829775820519316:=0
def tw12340944463038678331:=0
def tw12477987502346455963:=0
def tw12526390418526837865:=0
def tw12582084608248115645:=0
def tw12721865029237271911:=0
def tw12830774918303258075:=0
def tw1287564705243848740:=0
def tw12885198228182103904:=0
def tw1288531389146753458:=0
def tw12908436170854108044:=0
def tw12915646981386230774:=0
def tw12953708523610534423:=0
def tw12985199935395733039:=0
def tw1301333909893762947:=0
def tw13029877331070699624:=0
def tw13032954864418301204:=0
def tw1308592548299816887:=0
def tw13176022615212511513:=0
def tw13296661136996649753:=0
def tw13321467191480879919:=0
def tw13348599580584854658:=0
def tw13349826247403199957:=0
def tw13373261510493743560:=0
def tw13385805060091612854:=0
def tw13503628876999671424:=0
def tw13543001743239456875:=0
def tw13614629535354100854:=0
def tw13630823842618187546:=0
def tw13673495286152455203:=0
def tw13696828223979574174:=0
def tw13702934353236446863:=0
def tw13709902388614401798:=0
def tw13728148725447079503:=0
def tw137500529467120176:=0
def tw13759137024738990638:=0
def tw1377134022141866204:=0
def tw13803956446075230252:=0
def tw13809044085361104267:=0
def tw13818770355842911964:=0
def tw13846687543908616069:=0
def tw13876738072675397030:=0
def tw13884839901469789391:=0
def tw13929664463429929611:=0
def tw13934368076328422268:=0
def tw13951929824597481645:=0
def tw1398307242222865051:=0
def tw14022089648591033170:=0
def tw14038800179931830816:=0
def tw14103007904072690258:=0
def tw14154029990225979315:=0
def tw14185688719665534940:=0
def tw14200774051402778732:=0
def tw14209285310855856150:=0
def tw14223392705052649826:=0
def tw14226918034914518159:=0
def tw14290324753549230381:=0
def tw1429204340703384130:=0
def tw14320827689486221812:=0
def tw14382585596579642295:=0
def tw1439893349420787683:=0
def tw14407299389005748351:=0
def tw14436345351006416163:=0
def tw14515486424815499250:=0
def tw14604521980364500117:=0
def tw14683119832810624853:=0
def tw14692347822768405543:=0
def tw14700045202303829985:=0
def tw14715182199473034036:=0
def tw14879325990511891198:=0
def tw14881422065051535034:=0
def tw14881766655334648843:=0
def tw14886813359024279820:=0
def tw14961805459864479658:=0
def tw15107418858950434908:=0
def tw15183417689141731570:=0
def tw15260703649229976156:=0
def tw1536034235309040942:=0
def tw15425562878860383114:=0
def tw15439458235396733986:=0
def tw15447587668645163201:=0
def tw15451352398378811696:=0
def tw15458102356951006598:=0
def tw15466357178195119143:=0
def tw1546954440462623271:=0
def tw15540797047618455522:=0
def tw15665678409889644394:=0
def tw15688691818545877505:=0
def tw15689804898109976881:=0
def tw15731076262139760767:=0
def tw15782947350347310103:=0
def tw15800693005485586066:=0
def tw15828169522908902645:=0
def tw15864309207057009686:=0
def tw15906730489889702021:=0
def tw15965692172349804922:=0
def tw15990337872130956721:=0
def tw16229598633143121432:=0
def tw16444090259105753573:=0
def tw16469549547096042908:=0
def tw16505836802995178341:=0
def tw1654560889797444591:=0
def tw16573889459397046776:=0
def tw16659102279617926701:=0
def tw16688472190713552732:=0
def tw16703869396687155340:=0
def tw16740548901536123221:=0
def tw16763945819121716974:=0
def tw1683106543044827466:=0
def tw16842013859577574704:=0
def tw16844229370175148821:=0
def tw16877063894743562683:=0
def tw16892900516231225305:=0
def tw16897565123941530302:=0
def tw16934798420108912402:=0
def tw16939307305702539215:=0
def tw17012783823189680135:=0
def tw17180996641792338555:=0
def tw17211460833852429903:=0
def tw1721872104598474767:=0
def tw17220084908544842606:=0
def tw17254775642782790082:=0
def tw17256708736251605986:=0
def tw17273911850026174407:=0
def tw17342363995026319064:=0
def tw17419199236344441511:=0
def tw17427704420047209051:=0
def tw17451003244222589876:=0
def tw17550399556741538234:=0
def tw17648335081373669797:=0
def tw17648776401902948610:=0
def tw17674956211401917517:=0
def tw17686654513999742472:=0
def tw1770843242353157859:=0
def tw17751802690991343571:=0
def tw17787089674407009680:=0
def tw17873752855863251391:=0
def tw17883655581482127288:=0
def tw17906114993607113115:=0
def tw17920827620881791175:=0
def tw17942544559975864988:=0
def tw17950599921428960735:=0
def tw17951261040826470199:=0
def tw1813816356781371851:=0
def tw18151068221394061256:=0
def tw18186062305068551430:=0
def tw18190004881255740682:=0
def tw18194673979304395572:=0
def tw18196124886255027276:=0
def tw18197713919441535973:=0
def tw18371994337796508055:=0
def tw1901936295895004769:=0
def tw1918754530657732443:=0
def tw1971811617508772387:=0
def tw1996696700129328419:=0
def tw2068588457491734254:=0
def tw2075829554723247520:=0
def tw2091505855911755257:=0
def tw2093139859387607955:=0
def tw2098300461976357639:=0
def tw2126734924719971443:=0
def tw2138884667475663361:=0
def tw2201033292126170325:=0
def tw2203997187455641665:=0
def tw2220726605805507684:=0
def tw2275975710909665259:=0
def tw2314292735425684508:=0
def tw2361041792326911626:=0
def tw2370440720287080527:=0
def tw2475253594012600915:=0
def tw2673971623960903969:=0
def tw2683979129454321806:=0
def tw2702076995538063594:=0
def tw2787023814218628063:=0
def tw2801141343970904071:=0
def tw286617116454197072:=0
def tw2873279411727074486:=0
def tw2905320307918043637:=0
def tw292834160916924035:=0
def tw3054817850084191766:=0
def tw3064691109730836142:=0
def tw3079732427568538567:=0
def tw3171331111477391088:=0
def tw3267106617604903666:=0
def tw3288217814814082891:=0
def tw3290866119208651577:=0
def tw3357235083506488726:=0
def tw3473478133716122588:=0
def tw3508326500013198387:=0
def tw3508744158466693792:=0
def tw3599242795311082202:=0
def tw3610950306625065986:=0
def tw3611168235838942561:=0
def tw3619992924859243946:=0
def tw3624782026943116276:=0
def tw3685039371481444383:=0
def tw3710303406358594391:=0
def tw371353101069494629:=0
def tw3732703520415612035:=0
def tw3736915041098340841:=0
def tw3756457662768512748:=0
def tw3798739753016482524:=0
def tw3916363272049822818:=0
def tw3941736174035298204:=0
def tw3950267905879624008:=0
def tw4029810766226865418:=0
def tw4161583125772020801:=0
def tw4182429224271414045:=0
def tw4195723338160869622:=0
def tw4206196347100140132:=0
def tw4237073414443205738:=0
def tw4288520068326245014:=0
def tw4305771806700260000:=0
def tw432261784438189523:=0
def tw4370382362873033626:=0
def tw4417854165081241573:=0
def tw4465293008860466131:=0
def tw44964590245851498:=0
def tw4509353523555611564:=0
def tw454618144060173446:=0
def tw4559517768889407461:=0
def tw4612817191614590860:=0
def tw4855846558609977415:=0
def tw4869667349988416723:=0
def tw4907159919588661501:=0
def tw4928362589610839972:=0
def tw4941137919330206541:=0
def tw4941640849037614027:=0
def tw4944227929253045902:=0
def tw5040707730763479616:=0
def tw5074162538818574633:=0
def tw5077944509058713286:=0
def tw5106533803750152500:=0
def tw5160361282834248918:=0
def tw5181681001768993140:=0
def tw5206344686626322938:=0
def tw5253566054294006959:=0
def tw527369091731013580:=0
def tw5276819138465206083:=0
def tw5440296983544614184:=0
def tw5451741962364977940:=0
def tw5486976004285884506:=0
def tw5498793007669609103:=0
def tw5579683293167027540:=0
def tw5591491540460167195:=0
def tw5594335175432552923:=0
def tw5597062764362810353:=0
def tw5598134047055108253:=0
def tw565958084654651157:=0
def tw570638097734979982:=0
def tw5733412892956832763:=0
def tw5735497611471625766:=0
def tw5757468117323892544:=0
def tw580117591893878958:=0
def tw5822714066683799791:=0
def tw5874375280765475355:=0
def tw5959705485979936018:=0
def tw5978848215842262268:=0
def tw617678672299976575:=0
def tw6196216520365400610:=0
def tw6313129317463335479:=0
def tw6342996291776104893:=0
def tw6422007533939633054:=0
def tw6423297900054428389:=0
def tw6474846089333038055:=0
def tw6516601200027495703:=0
def tw65320992049198809:=0
def tw657906345376215830:=0
def tw6640948933315015318:=0
def tw6659539916786016896:=0
def tw6691256707055035859:=0
def tw6784717693552236733:=0
def tw6789758036367810570:=0
def tw6823369396647608713:=0
def tw6839789528997994752:=0
def tw6860966938094543063:=0
def tw6884601425700152417:=0
def tw6911290544851544915:=0
def tw6924352355659187743:=0
def tw6987522789624034855:=0
def tw7000718215512551616:=0
def tw702104001867989917:=0
def tw7056441186375074857:=0
def tw7067462802988111420:=0
def tw7164785543766069619:=0
def tw7216867799183637781:=0
def tw7231206565210655107:=0
def tw7247492152271387565:=0
def tw7256094325745661227:=0
def tw7295654185577627354:=0
def tw7300353315629997134:=0
def tw7328687341259391518:=0
def tw7349012804523919574:=0
def tw73773483226083158:=0
def tw7398891575570536735:=0
def tw7419147849923806712:=0
def tw7434306507783690018:=0
def tw7479373916241828877:=0
def tw7572530442754987371:=0
def tw7674703743704921373:=0
def tw7685832017142707703:=0
def tw7791132224529253160:=0
def tw7803096404197763201:=0
def tw7875086015475531493:=0
def tw7939906055460573224:=0
def tw7986353567504227623:=0
def tw8010092958239633986:=0
def tw807128114244508000:=0
def tw8081421509682390622:=0
def tw8146529907553082917:=0
def tw8168245073288306242:=0
def tw819172665943434487:=0
def tw8195717870365098709:=0
def tw8223295699353616199:=0
def tw8323381376153808856:=0
def tw8356297746367852631:=0
def tw8427598322702742720:=0
def tw8436925724421231972:=0
def tw8455859044141625328:=0
def tw8469948066833387138:=0
def tw847856647163816727:=0
def tw8483081536693586009:=0
def tw8545631270243198752:=0
def tw8561907664960517227:=0
def tw8570515306734237857:=0
def tw8593150519212077966:=0
def tw8615538159014543596:=0
def tw8639508333382971696:=0
def tw8712622669657974867:=0
def tw8759074765661176337:=0
def tw8763064372524410652:=0
def tw8786778433037418649:=0
def tw8824294152749180926:=0
def tw8919509442869066722:=0
def tw8928888929533243139:=0
def tw8932511611454490978:=0
def tw8945123469531971666:=0
def tw9013093641288393539:=0
def tw9063946938436732166:=0
def tw9067353025084240693:=0
def tw9114769589100288389:=0
def tw9124484620528646849:=0
def tw915269535013140763:=0
def tw9239534490191715422:=0
def tw9333713060085364072:=0
def tw9338690109526786:=0
def tw9345232827422391580:=0
def tw9376812626216986537:=0
def tw9399668236046665204:=0
def tw9442652661385325188:=0
def tw9451132449814312957:=0
def tw9460534208118268099:=0
def tw9470638521524438248:=0
def tw9551419636722866975:=0
def tw9609501177381405714:=0
def tw9629253186479724980:=0
def tw9676077056970720278:=0
def tw9701320521839869798:=0
def tw9708991076430496898:=0
def tw9711147070056690000:=0
def tw9794637022419749362:=0
def tw9837017913455955194:=0
def tw9883575731208783886:=0
def tw9912255548131415688:=0
def tw9950081451444974108:=0
def tw9979135007299173867:=0
def tw9999489772634630322:=0
end PySem.W.Fast
open PySem PySem.W PyProof.Rows
set_option maxRecDepth 100000 in
set_option maxHeartbeats 0 in
theorem PySem.Challenge.cw_glasscartoons_s08_turn_holds : PySem.Challenge.rw_glasscartoons_s08_turn.Holds := by
 w_on;k_headS;(case hw=>exact⟨[.int 0,.list []],by decide +kernel,by decide +kernel⟩)
 k_fillS
 refine Gc.walkT (r:=PySem.Challenge.rw_glasscartoons_s08_turn) (k:=8) (x:="quarter_turned") (st:=Gc.sQt) (qs:=["drawing"]) (ps:=["quarters","cartoon"]) (sp:=fun K Tb=>Gc.spICT K Tb Gc.ansTurn) (by decide +kernel) rfl rfl ⟨rfl,by decide,by decide⟩ rfl ⟨_,_,fun P=>Gc.tab_is (by k_is) (by k_is) (by rfl) (by k_is) (by rfl),fun P=>by first | exact rfl | with_unfolding_all rfl,by decide,fun P=>Gc.dIT⟩ (fun w h Y=>W.kIn_of Y) ?F ?S
 case F =>
  intro cT Tb w mg fa h hne DT KX G hmg;exact Gc.all_fn KX G hmg
   ⟨Gc.dI,
   Gc.dI,
   Gc.dI,
   Gc.dI,
   Gc.dI,
   Gc.dI,
   Gc.dI,
   Gc.dI,
   Gc.dI,
   Gc.dI,
   Gc.dI,
   Gc.dI,
   Gc.dI,
   Gc.dI,
   Gc.dI,
   Gc.dI,
   Gc.dI,
   Gc.dI,
   Gc.dI,
   Gc.dI,
   Gc.dI,
   Gc.dI,
   Gc.dI,
   Gc.dI,
   Gc.dI,
   Gc.dI,
   Gc.dI,
   Gc.dI,
   Gc.dI,
   Gc.dI,
   Gc.dI,
   Gc.dI,
   Gc.dI,
   Gc.dI,
   Gc.dI,
   Gc.dI,
   Gc.dI,
   Gc.dI,
   Gc.dI,
   Gc.dI,
   Gc.dI,
   Gc.dI,
   ⟨by k_is,by k_is,by k_is,by k_is,by k_is,by k_is,by k_is⟩,
   ⟨by k_is,by k_is,by k_is,by k_is,by k_is,by k_is,by k_is⟩,
   Gc.mI,
   Gc.mI,
   Gc.mI,
   Gc.mI,
   Gc.mI,
   by show afB _ _ _=_;k_is,
   by show afB _ _ _=_;k_is,
   by show afB _ _ _=_;k_is,
   by show afB _ _ _=_;k_is,
   by show afB _ _ _=_;k_is,
   by show afB _ _ _=_;k_is,
   by show afB _ _ _=_;k_is,
   by show afB _ _ _=_;k_is,
   by k_is,
   by k_is,
   by k_is,
   by k_is,
   by k_is,
   by k_is,
   by k_is,
   by k_is,
   ⟨_,by k_is⟩,
   ⟨_,by k_is⟩,
   ⟨_,by k_is,[_,_,_,_],rfl,_,_,_,by k_is⟩,
   ⟨_,by k_is,[_,_,_,_,_,_],rfl,_,_,_,by k_is⟩,
   ⟨_,by k_is,[_,_],rfl,_,_,_,by k_is⟩,
   ⟨_,by k_is,[_,_],rfl,_,_,_,by k_is⟩,
   ⟨_,by k_is,[_,_,_,_],rfl,_,_,_,by k_is⟩,
   ⟨_,_,_,_,_,_,_,by k_is,⟨_,_,_,by k_is⟩,⟨[_,_,_,_],rfl,_,_,_,by k_is⟩,⟨[_,_,_,_],rfl,_,_,_,by k_is⟩,⟨[_,_,_,_],rfl,_,_,_,by k_is⟩,⟨[_,_,_,_],rfl,_,_,_,by k_is⟩,⟨[_,_,_,_],rfl,_,_,_,by k_is⟩,⟨[_,_,_,_],rfl,_,_,_,by k_is⟩⟩,
   ⟨_,_,_,_,_,_,_,_,_,by k_is,⟨_,_,_,by k_is⟩,⟨_,_,⟨_,_,_,by k_is⟩,by k_is⟩,⟨_,_,⟨_,_,_,by k_is⟩,by k_is⟩,⟨_,_,⟨_,_,_,by k_is⟩,by k_is⟩,⟨_,_,⟨_,_,_,by k_is⟩,by k_is⟩,⟨_,_,⟨_,_,_,by k_is⟩,by k_is⟩,⟨_,_,⟨_,_,_,by k_is⟩,by k_is⟩,⟨_,_,⟨_,_,_,by k_is⟩,by k_is⟩,⟨_,_,⟨_,_,_,by k_is⟩,by k_is⟩⟩⟩
   ⟨_,_,_,_,_,_,_,_,_,_,by k_is,by k_is,by k_is,by k_is⟩
   ⟨Gc.dI,Gc.dI,Gc.dI,Gc.dI,Gc.dI,Gc.dI,Gc.dI,Gc.dI,Gc.dI,Gc.dI,by k_is,by k_is⟩ DT hne
 case S =>
  intro Tb K H xs a hO hwi hask hx;cases hx with
  | cons h0 h2 =>
   cases h0;cases h2 with
   | cons h1 h3 =>
    cases h3;cases h1 with
    | lst hs ha =>
     have e:=L2.ints_dw a.2.1 _ ha;subst e;have q:(Codec.inInt 0 18446744073709551615 a.1&&((Codec.inLen 0 60000 a.2.1&&a.2.1.all (Codec.inInt 0 255))&&true))=true:=hwi;rw[acH,acH,acH]at q;have hz:=(alD.mp q.1).1;have hl:=(Codec.inNat_iff.mp q.2.1.1).2;have hi:Gc.byts a.2.1:=fun n hn=>alD.mp (agI.mp q.2.1.2 n hn);have ez:((a.1.toNat:Nat):Int)=a.1:=Int.toNat_of_nonneg hz
     refine⟨a.1.toNat,_,Gc.toB a.2.1,by rw[ez],by rw[Gc.toB_v _ hi];exact hs,by rw[Gc.toB_len];lia,by have:=(alD.mp q.1).2;lia,hO.1,fun H' p hp=>?_⟩;rw[<-Gc.trn_due hz hi hl]at hp;exact .lst (L2.SqL.of hp) (L2.dw_ints _)
