import PyProof.Rows.All
import Wide.All
import OpenK.AllK
import Wide.FinOn
import Lean
import PyProof.EqAt
import PyProof.EqKinds
import PyProof.TupleCall
import PyProof.ListRange
import PyProof.TupleOfSeq
import PyProof.WalksS
import PyProof.CollectWalk
import KE.KRevIter
import PyProof.P3In
import PyProof.SumAnyB
import PyProof.NeKinds
import KE.KEqDict
import PyProof.RulesAssignMore
import PyProof.SetRoads
import PyProof.Rows.SetFrom
import KE.KDictOf
import PyProof.Draws
import KE.KIsAll
import KE.KDictList
import PySem.Challenge.RW_struckdeeds_k22_whole_alike_within_rows
set_option Elab.async false
set_option linter.all false
set_option maxRecDepth 100000
set_option compiler.extract_closed false
set_option maxHeartbeats 4000000
open PySem.Challenge renaming pw_struckdeeds_k22_whole_alike_within_rows->ad
open Option renaming some->al,none->am
open PySem renaming Value->ao,Shared->aq,sizeLine->aB,wpAny_loadPart_at->a0,mainGlobals->bd,wpAny_field->bf,wpAny_mono->bg,World->bj,Program->bn,Expr->bp,compareOp->bq,wpAny_holding->bt,wpAny_isSubtype_exc->bu,wpAny_standAt->bv,Around->ca,wpAny_call_entry->cb,foldedSetIterable->ce,Heap->cr,wpAny_truthy_bool->cx,Obj->cE,treeTable->cN,wpAny_Call_Name_kw->cR,sizeLine_eq->c0,wpAny_seqItems->c3,sysModules->c4,wpAny_setField_rec->da,wpAny_rule->db,assignEach->dc,rawInt->dk,wpAny_setField->dl,IsPair->dm,FuncData->dV,typeLookup->ea,wpAny_passesOwn->ed,binaryOp->ee,NameKind->eg,cLine->ej,OsState->en,wpAny_typeOf->eo,noFill_tuple_add->et,Stmt->eu,Pos->ew,wpAny_loadPart'->eH,wpAny_execs_nil->eN,wpAny_getItem_str_slice->e5,Scope->fc,Params->fi,builtinLookup_eq_fast->fk,wpAny_onRaise->ft,seq_tuple_add->fw,getItem->fx,behindInMarks->fy,wpAny_of_eq->fz,sliceBounds->fN,codeAny_builtin->ge,IsZip->gg,bootBuiltins->gl,swapsWith->gt,noteFrame->g0,wpAny_pyIter_tuple->g5,tupleKind_room_in1->g8,wpAny_pyIter_list->h7,valueAt->ik,wpAny_newList->io,comprehension->ip,wpAny_isInstance->iu,take_succ_filter->iv,ExcBaseFacts->iD,Env->i3,wpAny_specialOf->ji,typeLookup_type->jj,post_val_or_str->jm,field->ka,wpAny_updateSeq_pair->kb,firstArgMember->kn,assign->ko,IsPart->kt
open Bool renaming true->ap,false->aw
open PyProof.Rows renaming seqObj->cz,kindOf->ga,envOfC->gc,AllBare->im,slicePart_none->kf,entry_tuple_getitem->kx
open PySem.Str renaming ofString->a0Q
open PySem.Value renaming ref->a0X,none->a1X,str->c0J
open List renaming mem_cons_self->a0Z,length_take->a0J,take_length->a1Q,getElem_mem->a1J,contains_cons->a1K,take_add_one->a1V,range->a2Q,lookup_cons->a3W,getElem?_eq_none->a4J,append_nil->a4W,length_drop->a4V,filterMap_cons->a5X,pairwise_cons->a5J,foldl_append->a6J,filter_sublist->a7K,filter_cons->a8W,all_eq_true->a8V,zip_cons_cons->a9Q,getElem?_zip_eq_some->a9Z,flatMap_cons->a9K,ext_getElem?->a9W,sum_cons->b0Z,length_reverse->b0J,flatMap_append->b0K,any_eq_true->b1Q,mem_singleton->b1Z,take_append_drop->b1V,map_id->b2Q,find?_cons->b2X,reverse_cons->b2K,pairwise_map->b2W,perm_ext_iff_of_nodup->b3Q,mem_of_mem_take->b3J,replicate->b3W,of_mem_zip->b4X,foldl_cons->b4Z,any_cons->b4J,take_of_length_le->b5K,drop_eq_nil_of_le->b5W,getElem?_set_ne->b6X,length_nil->b6V,map_nil->b8X,length->b9Q,getElem_map->b9K
open PySem.PyData renaming str->a0K,eqv->a0W,depth->a2Z,depthAll->a2W,keyHash->b0W,canLayAll0->b5Z,int->b8Z,tuple->b9V,strOk->c0Q
open Bool renaming and_eq_true->a0V,eq_iff_iff->a3Q,false_eq_true->b4K,true_and->b9X,not_true->b9Z
open Sum renaming inr->a1Z
open PySem.Builtin.SmallTypes renaming nextOf->a1W,ownedTupleIsFree->a2V,ownedTupleHandOut->b7J
open PySem.W renaming nsIn->a2X,mg_none_of->a2J,kia_one->a3J,keepIn->a3K,fnOf->a5Z,boot_heap->a5V,mg_of->a6X,kHook->a6V,topRun->a8J,findIn->a8K,codeIn->b0Q,segRunT->b1X,piecesOf->b3X,segRun_of->b4W,restOf->b5X,isFn->b5J,callWith_K->b6K,boot_drawn->b6W,piece_app->b7K,boot_toks->b7W,cellsFrom_some->b8K,looks_findIn->c0Z
open PySem.Builtin.Tuple renaming tupleExact->a2K,tupleItemsOf->b6Q
open PySem.Builtin.Slice renaming slicePlaces->a3X,sliceAdjust->a7J,sliceApplied->b0V
open PySem.Heap renaming get?_update_self->a3Z,size_push->a9X
open PyProof.Rows renaming slot_tuple_getitem->a3V
open PySem.Builtin.Str renaming occurrences->a4Q
open Option renaming some->a4X,isSome_map->a4K,none->b8J
open Ne renaming symm->a4Z
open Array renaming length_toList->a5Q,getElem?_toList->b1W,getElem?_eq_getElem->b3K,getD_eq_getD_getElem?->b6J,getElem?_eq_none->b9W
open Nat renaming le_succ->a5K,ne_of_gt->a5W,add_le_add->a9J,lt_trichotomy->b8W,lt_succ_of_lt->b8V,le_add_right->c0X
open PySem renaming mem_of_lookup->a6Q
open PySem.F renaming slot_tuple_iterator_next->a6Z,args_tuple_add_2->a6K,entry_tuple_add->a7Q,slot_tuple_add->a7X,excBase_ValueError->b6Z,args_tuple_iterator_next_1->b7Z,entry_tuple_iterator_next->b7V
open False renaming elim->a6W
open PySem.Obj renaming mapSeq->a7Z,data_mapFields->b1J,mapFields->b2V
open Int renaming emod_nonneg->a7W,toNat_natCast->a9V,emod_lt_of_pos->b1K
open PySem.NameKind renaming free->a7V
open List.Pairwise renaming nil->a8Q
open Classical renaming byContradiction->a8X
open True renaming intro->a8Z
open PySem.Builtin.List renaming listExtendWith->b0X,listTooLong->b2J
open PySem.Txt renaming slice->b2Z
open PySem.W.OpenRow renaming toRowW->b3Z
open ForInStep renaming yield->b3V
open PySem.Spec renaming ltCps->b4Q
open PySem.W.RowW renaming records->b4V
open PySem.W.OpenLaw renaming row->b5Q
open PySem.Heap.SameBut renaming update->b5V
open PySem.W.Hook renaming val->b7Q,obs->b7X
open PySem.Calls renaming call_function_entry->b8Q,callWith_builtin->b9J
open PyProof.Rows.IsTup renaming new->c0K
open PySem renaming wpAny_bind->zZ,wpAny_pure->zY,codeAny_mono->xN,wpAny_newObj_type->xM
open List renaming length_map->zX,getElem?_eq_getElem->zV,mem_map->zL,size_toArray->zJ,map_cons->zI,getElem?_map->zF,map_map->zD,mem_append_right->zB,mem_append_left->zA,length_append->yY,mem_cons->yX,mem_append->yW,mem_cons_of_mem->yV,getD_eq_getElem?_getD->yU,getElem?_eq_some_iff->yT,length_cons->yR,getElem?_append_left->yQ,mem_of_getElem?->yN,map_congr_left->yM,mem_filter->yL,length_filter_le->yJ,getElem?_range->xZ,length_range->xY,not_mem_nil->xW,nodup_cons->xV,filter_map->xU,map_append->xI
open PySem.Heap renaming get?_push_of_some->zW,lt_size->zM,get?_push_size->yZ,get?_update_other->yC,get?_update_ne->yB
open Nat renaming le_refl->zR,lt_of_le_of_lt->zQ,lt_of_lt_of_le->zP,le_trans->zN,ne_of_lt->zC,lt_irrefl->yF,le_of_ble_eq_true->yD,zero_le->xT,le_of_lt->xR,lt_trans->xQ
open PySem.SeqAt renaming shaped->zH,canLay_of_shaped->zG
open Option renaming isSome_iff_exists->xX
open PySem.Calls renaming spliced_cons->xP
open PyProof.Rows renaming envOfC->xL,callWith_type1->xH,sortedS->xG
open PySem.Builtin.Int renaming intBits->xJ
open List renaming toArray->y9
local macro_rules | `(#[$e,*])=>if e.getElems.isEmpty then Lean.Macro.throwUnsupported else `(⟨$e,*⟩)
abbrev sT (n:Nat):PySem.Stmt:=ad.main.body.getD n (.Pass #[0,0,0,0])
abbrev Frg:=PySem.W.Frag
theorem nft:¬(aw=ap):=Bool.false_ne_true
namespace L2
open PySem PySem.Spec PyProof.Rows
abbrev Key:=Sum Int Str
def OF:Key->ao->Bool
 | .inl k,v=>Value.isInt k v
 | .inr x,v=>Value.isStrOf x v
def A4J (w:bj):Key->Int
 | .inl k=>hashInt k
 | .inr x=>hashStr w x
theorem B7:∀{k:Key}{v:ao},OF k v=ap->(∃i t,k=Sum.inl i/\v=Value.int i t)\/(∃x t,k=a1Z x/\v=c0J x t)
 | .inl i,v,h=>by obtain⟨t,e⟩:=Value.isInt_shape (k:=i) (v:=v) h;exact .inl #[i,t,rfl,e]
 | .inr x,v,h=>by obtain⟨t,e⟩:=Value.isStrOf_shape (x:=x) (v:=v) h;exact .inr #[x,t,rfl,e]
theorem gL (i:Int) (t:Tok):OF (.inl i) (.int i t)=true:=by simp[OF,Value.isInt]
theorem gN (x:Str) (t:Tok):OF (.inr x) (.str x t)=true:=by simp[OF,Value.isStrOf]
theorem A0g (a b:Int):decide ((Sum.inl a:Key)=Sum.inl b)=(a==b):=by
 by_cases e:a=b;. subst e;simp
 . have h:¬(Sum.inl a:Key)=Sum.inl b:=λq=>e (Sum.inl.inj q);rw[decide_eq_false h];exact(beq_eq_false_iff_ne.mpr e).symm
theorem A0h (a b:Str):decide ((a1Z a:Key)=a1Z b)=decide (a=b):=by
 by_cases e:a=b;. subst e;simp
 . have h:¬(a1Z a:Key)=a1Z b:=λq=>e (Sum.inr.inj q);rw[decide_eq_false h,decide_eq_false e]
theorem A0i (a:Int) (b:Str):decide ((Sum.inl a:Key)=a1Z b)=false:=decide_eq_false (λq=>nomatch q)
theorem A0j (a:Str) (b:Int):decide ((a1Z a:Key)=Sum.inl b)=false:=decide_eq_false (λq=>nomatch q)
def AV (prog:bn) (w:bj):PySem.KeyKind prog w Key where
 is:=OF
 hash:=A4J w
 inj:=λv a b ha hb=>by
   rcases B7 ha with ⟨i,t,rfl,rfl⟩ | ⟨x,t,rfl,rfl⟩
   . rcases B7 hb with ⟨j,u,rfl,e⟩ | ⟨y,u,rfl,e⟩
     . injection e with e1 _;rw[e1]
     . exact nomatch e
   . rcases B7 hb with ⟨j,u,rfl,e⟩ | ⟨y,u,rfl,e⟩
     . exact nomatch e
     . injection e with e1 _;rw[e1]
 byValue:=λk v h=>by rcases B7 h with ⟨i,t,rfl,rfl⟩ | ⟨x,t,rfl,rfl⟩ <;> rfl
 pyHash:=λhv h=>by
   rcases B7 hv with ⟨i,t,rfl,rfl⟩ | ⟨x,t,rfl,rfl⟩
   . exact wpAny_pyHash_int h
   . exact wpAny_pyHash_str h
 eqBool:=λhu hv h=>by
   rcases B7 hu with ⟨i,t,rfl,rfl⟩ | ⟨x,t,rfl,rfl⟩
   . rcases B7 hv with ⟨j,u,rfl,rfl⟩ | ⟨y,u,rfl,rfl⟩
     . rw[A0g] at h;exact wpAny_eqBool_int h
     . rw[A0i] at h;exact SeqAt.EqAt.int_str i t y u _ _ _ _ h
   . rcases B7 hv with ⟨j,u,rfl,rfl⟩ | ⟨y,u,rfl,rfl⟩
     . rw[A0j] at h;exact SeqAt.EqAt.str_int x t j u _ _ _ _ h
     . rw[A0h] at h;exact wpAny_eqBool_str h
 «strs»:=λk x t v h=>by
   rcases B7 h with ⟨i,u,rfl,e⟩ | ⟨y,u,rfl,e⟩
   . exact nomatch e
   . injection e with e1 _;subst e1;cases v <;> rfl
theorem X1 (prog:bn) (w:bj) (i:Int) (t:Tok):(AV prog w).is (.inl i) (.int i t)=true:=gL i t
theorem OG (prog:bn) (w:bj) (x:Str) (t:Tok):(AV prog w).is (.inr x) (.str x t)=true:=gN x t
inductive V where
 | non | bl (b:Bool) | int (i:Int) | str (x:Str) | byt (b:Array UInt8) | flt (b:UInt64) | ref (a:Addr) | ty (n:String)
 deriving DecidableEq
def RelV:V->ao->Prop
 | .non,u=>u=a1X
 | .bl b,u=>u=Value.bool b
 | .int i,u=>∃t,u=Value.int i t
 | .str x,u=>∃t,u=c0J x t
 | .byt b,u=>∃t,u=Value.bytes b t
 | .flt b,u=>∃t,u=Value.float b t
 | .ref a,u=>u=a0X a
 | .ty n,u=>u=Value.type n
abbrev Vals:List V->List ao->Prop:=Paired RelV
theorem Vals.length (r:Vals xs e):xs.length=e.length:=Paired.length r
theorem Vals.get:∀{xs:List V}{n:List ao}{i:Nat}{x:V},Vals xs n->xs[i]?=al x->∃u,n[i]?=al u/\RelV x u
 | _,_,_,_,.nil,e=>by simp at e
 | _,_,0,_,.cons r _,e=>by simp at e;subst e;exact#[_,rfl,r]
 | _,_,i+1,x,.cons _ t,e=>by obtain⟨u,h1,m⟩:=Vals.get (i:=i) (x:=x) t (by simpa using e);exact#[u,by simpa using h1,m]
theorem Vals.append:∀{xs ys:List V}{e n:List ao},Vals xs e->Vals ys n->Vals (xs++ys) (e++n)
 | _,_,_,_,.nil,s=>s
 | _,_,_,_,.cons r t,s=>.cons r (Vals.append t s)
theorem Vals.take:∀{xs:List V}{e:List ao}(n:Nat),Vals xs e->Vals (xs.take n) (e.take n)
 | _,_,0,_=>.nil
 | _,_,_+1,.nil=>.nil
 | _,_,n+1,.cons r t=>.cons r (Vals.take n t)
theorem Vals.drop:∀{xs:List V}{e:List ao}(n:Nat),Vals xs e->Vals (xs.drop n) (e.drop n)
 | _,_,0,r=>r
 | _,_,_+1,.nil=>.nil
 | _,_,n+1,.cons _ t=>Vals.drop n t
def RelO:Option V->Option ao->Prop
 | some v,al u=>RelV v u
 | none,am=>True
 | _,_=>False
def KV {B:Type}:List (B×V)->List (B×ao)->Prop:=Paired λ(p:B×V) (q:B×ao)=>p.1=q.1/\RelV p.2 q.2
def kV:Key->V
 | .inl i=>.int i
 | .inr x=>.str x
inductive HO where
 | lst (xs:List V)
 | tup (xs:List V)
 | dK (kvs:List (Key×V)) | dT (kvs:List (List Key×V))
 | set (S:Int->Bool) (n:Nat)
 | ins (C dx:Addr) (fs:List (Str×V))
 | own (x:Addr)
 | xd (fs:List (Str×V))
 | met (f x:Addr)
 | rng (lo hi:Int)
 | frz (o:cE) (u:HO)
 | tbl (ps:Array ao)
 | ext (φ:cr->Prop)
abbrev Hp:=Addr->Option HO
def upd (H:Hp) (a:Addr) (o:HO):Hp:=λb=>if b=a then al o else H b
theorem AE :upd H a o a=al o:=by unfold upd;rw[if_pos rfl]
theorem AH (h:b≠a):upd H a o b=H b:=by unfold upd;rw[if_neg h]
theorem A2w {H:Hp}(h:H a=al o) (h':H b=al u) (d:o≠u):a≠b:=by intro e;subst e;rw[h] at h';exact d (Option.some.inj h')
theorem B2 {H:Hp}(h:H a=al o) (h':H b=am):a≠b:=by intro e;subst e;rw[h] at h';cases h'
section
variable (P:bn) (w:bj)
def ObjOk (H:Hp) (h:cr) (a:Addr):HO->Prop
 | .lst e=>e.length<=aB/\∃(r:List ao) (n:Nat),Vals e r/\h.get? a=al { cls:=.type "list", data:=.seq r.toArray n }
 | .tup e=>e.length<=aB/\∃r:List ao,Vals e r/\IsTup h a r.toArray
 | .dK kvs=>kvs.length<=aB/\(a==c4)=aw/\∃g,KV kvs g/\h.DictOf (AV P w) a g
 | .dT kvs=>kvs.length<=aB/\(a==c4)=aw/\∃e:List (List Key×Addr×ao),
     Paired (λ(p:List Key×V) (q:List Key×Addr×ao)=>p.1=q.1/\H q.2.1=al (.tup (p.1.map kV))/\RelV p.2 q.2.2) kvs e /\
     ∃o I j,h.get? a=al o/\o.ExactDict/\o.data = .dict I j/\I.toList=e.map (entryOfKey (tupleKind (AV P w)))/\(e.map (·.1)).Nodup
 | .set S n=>h.SetOf (intKind P w) a S n
 | .ins C m fs=>H m=al (.own a)/\fs.length<=1000/\m≠a/\h.get? a=al (PySem.W.instObj C m) /\∃i,h.Ns1 m i/\(∀f,RelO (fs.lookup f) (i f))/\PySem.Within i (fs.map (·.1))
 | .own _=>∃o,h.get? a=al o
 | .xd fs=>∃i,h.Ns1 a i/\∀f,RelO (fs.lookup f) (i f)
 | .rng k hi=>∃t u v,h.get? a=al { cls:=.type "range", data:=.fields (y9 [.int k t,.int hi u,.int 1 v]) }
 | .frz o u=>h.get? a=al o/\ObjOk H h a u
 | .tbl y=>h.get? a=al { cls:=.none,data:=.fields y }
 | .met f x=>h.get? a=al (PySem.W.methodObj (.ref f) (.ref x))
 | .ext b=>b h/\(∃o,h.get? a=al o)/\∀h1 c:cr,b h1->(∀o,h1.get? a=al o->c.get? a=al o)->b c
def HOk (H:Hp) (h:cr):Prop:=∀a o,H a=al o->ObjOk P w H h a o
end
section
variable {P:bn}{w:bj}{H H':Hp}{h h':cr}{a:Addr}{o:HO}
theorem ObjOk.lt (x:ObjOk P w H h a o):a < h.objs.size:=by
 cases o with
 | lst t=>obtain⟨_,_,_,_,e⟩:=x;exact zM e
 | tup t=>obtain⟨_,_,_,p⟩:=x;exact p.lt
 | dK kvs=>obtain⟨_,_,_,_,o,_,_,e,_⟩:=x;exact zM e
 | dT kvs=>obtain⟨_,_,_,_,o,_,_,e,_⟩:=x;exact zM e
 | set S n=>obtain⟨o,_,_,_,e,_⟩:=x;exact zM e
 | ins C i fs=>obtain⟨_,_,_,e,_⟩:=x;exact zM e
 | own y=>obtain⟨_,e⟩:=x;exact zM e
 | xd fs=>obtain⟨_,⟨_,_,_,e,_⟩,_⟩:=x;exact zM e
 | rng r hi=>obtain⟨_,_,_,e⟩:=x;exact zM e
 | frz m u=>obtain⟨e,_⟩:=x;exact zM e
 | tbl b=>exact zM (show h.get? a=al _ from x)
 | met f y=>exact zM (show h.get? a=al _ from x)
 | ext c=>obtain⟨_,⟨_,e⟩,_⟩:=x;exact zM e
theorem Paired.mapP :∀{e:List i}{n:List m},Paired F e n->(∀a b,F a b->G a b)->Paired G e n
 | _,_,.nil,_=>.nil
 | _,_,.cons r t,f=>.cons (f _ _ r) (Paired.mapP t f)
theorem ObjOk.stay (x:ObjOk P w H h a o) (k:∀b u,(b=a\/H b=al (.own a))->h.get? b=al u->h'.get? b=al u) (ho:∀b,H b=al (.own a)->H' b=al (.own a)) (D:∀b xs,H b=al (.tup xs)->H' b=al (.tup xs)):ObjOk P w H' h' a o:=by
 induction o with
 | lst xs=>obtain⟨z,g,n,r,e⟩:=x;exact#[z,g,n,r,k _ _ (.inl rfl) e]
 | tup xs=>obtain⟨z,g,r,i,e,c⟩:=x;exact#[z,g,r,i,k _ _ (.inl rfl) e,c]
 | dK kvs=>obtain⟨z,y,G,r,i,I,m,e,c⟩:=x;exact#[z,y,G,r,i,I,m,k _ _ (.inl rfl) e,c]
 | dT kvs=> obtain⟨z,y,xs,r,i,I,m,e,c⟩:=x;exact#[z,y,xs,Paired.mapP r λp q z=>#[z.1,D _ _ z.2.1,z.2.2],i,I,m,k _ _ (.inl rfl) e,c]
 | set S n=>obtain⟨i,I,m,t,e,c⟩:=x;exact#[i,I,m,t,k _ _ (.inl rfl) e,c]
 | ins C J fs=> obtain⟨d,z,B,e,j,⟨T,I,m,M,c⟩,r⟩:=x;exact#[ho _ d,z,B,k _ _ (.inl rfl) e,j,#[T,I,m,k _ _ (.inr d) M,c],r]
 | own y=>obtain⟨i,e⟩:=x;exact#[i,k _ _ (.inl rfl) e]
 | xd fs=>obtain⟨j,⟨T,I,m,e,c⟩,r⟩:=x;exact#[j,#[T,I,m,k _ _ (.inl rfl) e,c],r]
 | rng L hi=>obtain⟨t,u,v,e⟩:=x;exact#[t,u,v,k _ _ (.inl rfl) e]
 | frz i u U=>obtain⟨e,q⟩:=x;exact#[k _ _ (.inl rfl) e,U q]
 | tbl N=> have e:h.get? a=al { cls:=.none,data:=.fields N }:=x;show h'.get? a=al { cls:=.none,data:=.fields N };exact k a _ (.inl rfl) e
 | met f y=> have e:h.get? a=al (PySem.W.methodObj (.ref f) (.ref y)):=x;show h'.get? a=al (PySem.W.methodObj (.ref f) (.ref y));exact k a _ (.inl rfl) e
 | ext Q=>obtain⟨p,⟨o,e⟩,O⟩:=x;exact#[O _ _ p λo q=>k _ _ (.inl rfl) q,#[o,k _ _ (.inl rfl) e],O]
theorem HOk.lt (x:HOk P w H h) (e:H a=al o):a < h.objs.size:=(x a o e).lt
theorem HOk.fresh (x:HOk P w H h) (e:h.objs.size<=a):H a=none:=by
 cases q:H a with
 | none=>rfl
 | some u=>exact absurd (zP (x.lt q) e) (yF _)
theorem HOk.kept (x:HOk P w H h) (k:∀b u,h.get? b=al u->h'.get? b=al u):HOk P w H h':=λa o e=>
 (x a o e).stay (λb u _ q=>k b u q) (λ_ q=>q) λ_ _ q=>q
theorem HOk.laid (x:HOk P w H h) (k:∀b u,h.get? b=al u->h'.get? b=al u) (hp:h.objs.size<=a) (new:ObjOk P w (upd H a o) h' a o):HOk P w (upd H a o) h':=λb u e=>by
 have hn:=x.fresh hp;by_cases hb:b=a;. subst hb;rw[AE] at e;cases e;exact new
 . rw[AH hb] at e;exact(x b u e).stay (λc v _ q=>k c v q) (λc q=>by rw[AH (B2 q hn)];exact q) λc t q=>by rw[AH (B2 q hn)];exact q
end
def Rd (H:Hp) (a:Addr) (u:HO):Prop:=H a=al u\/∃o,H a=al (.frz o u)
theorem Rd.ok (r:Rd H a u) (x:HOk P w H h):ObjOk P w H h a u:=by
 rcases r with r | ⟨o,r⟩
 . exact x a u r
 . obtain⟨_,q⟩:=x a _ r;exact q
def Mut:Option HO->Prop
 | some (.lst _)=>True
 | some (.dK _)=>True
 | some (.dT _)=>True
 | some (.set _ _)=>True
 | some (.ins _ _ _)=>True
 | some (.ext _)=>True
 | _=>False
section
theorem HOk.write (ok:HOk P w H h) (t:Mut (H x)) (he:e=x\/H e=al (.own x)) (k:∀b u,b≠e->h.get? b=al u->h'.get? b=al u) (p:∃u,h'.get? e=al u) (new:ObjOk P w (upd H x o') h' x o'):HOk P w (upd H x o') h':=λb u q=>by
 have i:∀c y,H c=al (.own y)->c≠x:=λc y r z=>by subst z;rw[r] at t;exact t
 have m:∀c n,H c=al (.tup n)->c≠x:=λc n r z=>by subst z;rw[r] at t;exact t
 by_cases hb:b=x;. subst hb;rw[AE] at q;cases q;exact new
 . rw[AH hb] at q;by_cases hbe:b=e
   . have f:H b=al (.own x):=by
       rcases he with z | z;. exact absurd (hbe.trans z) hb
       . rw[hbe];exact z
     rw[q] at f;cases f;obtain⟨v,S⟩:=p;exact#[v,by rw[hbe];exact S]
   . refine(ok b u q).stay (λc v hc r=>k c v ?_ r) (λc r=>by rw[AH (i c b r)];exact r) λc n r=>by rw[AH (m c n r)];exact r
     rcases hc with rfl | hc;. exact hbe
     . rintro rfl;rcases he with z | z;. exact i c b hc z
       . rw[hc] at z;cases z;exact hb rfl
end
structure Un (fs ex:List Addr) (H H':Hp) (h h':cr):Prop where
 keep:∀b o,h.get? b=al o->H b=am->b∉fs->b∉ex->h'.get? b=al o
 slot:∀b o,h.get? b=al o->H b=am->b∈fs->b∉ex->∃sl,h'.get? b=al { o with slots:=sl }
 free:∀b o,h.get? b=al o->H b=am->b∉ex->H' b=am
 there:∀b o,h.get? b=al o->b∉ex->∃o',h'.get? b=al o'
 tups:∀b xs,H b=al (.tup xs)->H' b=al (.tup xs)
 frzs:∀b o u,H b=al (.frz o u)->H' b=al (.frz o u)
 tbls:∀b ps,H b=al (.tbl ps)->∃more,H' b=al (.tbl (ps++more))
section
variable {fs Cc ex zw:List Addr}{H H1 H2:Hp}{h h1 h2 h':cr}{a x e:Addr}{o:HO}
theorem Un.any (u:Un fs ex H H1 h h1) (q:h.get? b=al t) (n:H b=am) (hx:b∉ex):∃sl,h1.get? b=al { t with slots:=sl }:=by
 by_cases hb:b∈fs;. exact u.slot b t q n hb hx
 . exact#[t.slots,u.keep b t q n hb hx]
theorem Un.kept (k:∀b u,h.get? b=al u->h'.get? b=al u):Un fs ex H H h h':=#[λb t q _ _ _=>k b t q,λb t q _ _ _=>#[t.slots,k b t q],λ_ _ _ n _=>n,λb t q _=>#[t,k b t q],λ_ _ q=>q,λ_ _ _ q=>q,λ_ i q=>#[#[],by rw[q];simp]]
theorem Un.refl:Un fs ex H H h h:=Un.kept λ_ _ q=>q
theorem Un.laid (k:∀b u,h.get? b=al u->h'.get? b=al u) (hp:h.objs.size<=a) (hn:H a=am):Un fs ex H (upd H a o) h h' where
 keep:=λb u q _ _ _=>k b u q
 slot:=λb u q _ _ _=>#[u.slots,k b u q]
 free:=λb u q n _=>by rw[AH (zC (zP (zM q) hp))];exact n
 there:=λb u q _=>#[u,k b u q]
 tups:=λb xs q=>by rw[AH (B2 q hn)];exact q
 frzs:=λb u xs q=>by rw[AH (B2 q hn)];exact q
 tbls:=λb ps q=>#[#[],by rw[AH (B2 q hn),q];simp]
theorem Un.write (t:Mut (H x)) (he:e=x\/H e=al (.own x)) (k:∀b u,b≠e->h.get? b=al u->h'.get? b=al u) (p:∃u,h'.get? e=al u):Un fs ex H (upd H x o) h h':=by
 have hx:∀b,H b=am->b≠x:=λb n z=>by subst z;rw[n] at t;exact t
 have hb:∀b,H b=am->b≠e:=λb n z=>by
   subst z;rcases he with r | r;. exact hx b n r
   . rw[n] at r;cases r
 have i:∀b u,H b=al u->¬Mut (al u)->b≠x:=λb u q T z=>by subst z;rw[q] at t;exact T t
 refine#[λb u q n _ _=>k b u (hb b n) q,λb u q n _ _=>#[u.slots,k b u (hb b n) q],λb u q n _=>by rw[AH (hx b n)];exact n,λb u q _=>?_,
   λb m q=>by rw[AH (i b _ q λz=>z)];exact q,λb u m q=>by rw[AH (i b _ q λz=>z)];exact q,λb c q=>#[#[],by rw[AH (i b _ q λz=>z),q];simp]];by_cases hbe:b=e
 . subst hbe;exact p
 . exact#[u,k b u hbe q]
end
def trk (h:cr) (H:Hp):List Addr:=(a2Q h.objs.size).filter λa=>(H a).isSome
def UP (h:cr) (H:Hp):Heap:=PySem.W.hideAll h (trk h H)
theorem gQ (h:cr) (H:Hp):(UP h H).objs.size=h.objs.size:=PySem.W.hideAll_size _ _
theorem kW (e:h.get? b=al o) (n:H b=am):(UP h H).get? b=al o:=
 PySem.W.hideAll_get _ e λx=>by have q:(H b).isSome=true:=(yL.mp x).2;rw[n] at q;simp at q
theorem t8 (e:(UP h H).get? b=al o):h.get? b=al o/\H b=none:=by
 have e':h.get? b=al o:=PySem.W.of_hideAll (trk h H) e;refine#[e',?_];cases q:H b with
 | none=>rfl
 | some x=> have t:b∈trk h H:=yL.mpr #[List.mem_range.mpr (zM e'),by simp[q]];have z:(UP h H).get? b=none:=PySem.W.hideAll_none (trk h H) t;rw[z] at e;cases e
structure Mod (K:Frg) (mg:Str->Option ao) (base:cr):Prop where
 kin:K.In base
 glob:base.Ns bd mg
 blt:∃mb,base.Ns builtinsNs mb/\∀x:Str,x ≠ "__name__" -> mb x=gl x
 nolimit:base.NoLimit
structure Cx where
 prog:bn
 w:bj
 K:Frg
 mg:Str->Option ao
 base:cr
 A:ca
 N:List Str
 s₀:aq
 H₀:Hp
 env:i3
 outer:List i3
 stack:List i3
 ex:List Addr
 fn:Str->Bool
 calm:Bool
 pn:List (Addr×cE)
 xe:ao->aq->Prop
def frs (l:List i3):List Addr:=l.filterMap (·.frame)
abbrev Cx.fs (X:Cx):List Addr:=frs X.outer
def Vis (f:fc) (x:Str):Prop:=f.names.lookup x=al .local\/f.names.lookup x=al .cell\/f.names.lookup x=al .free
def Loc (f:fc) (x:Str):Prop:=f.names.lookup x=al .local\/f.names.lookup x=al .cell
def A4K (env:i3) (h:cr) (m:Str->Option ao) (x:Str) (u:ao):Prop:=(env.kindOf x=al .local/\m x=al u)\/((env.kindOf x=al .cell\/env.kindOf x=al .free)/\∃c,env.cells.lookup x=al c/\h.IsCell c (al u))
structure Cx.Ok (X:Cx):Prop where
 mod:Mod X.K X.mg X.base
 kind:X.env.scope.kind = .function
 glob:X.env.globals=bd
 blt:X.env.builtins=builtinsNs
 above:X.s₀.heap.objs.size<=X.env.locals
 inj:∀x y c,X.env.cells.lookup x=al c->X.env.cells.lookup y=al c->x=y
 has:∀x,(X.env.kindOf x=al .cell\/X.env.kindOf x=al .free)->∃c,X.env.cells.lookup x=al c
 cab:∀x c,X.fn x=ap->X.env.cells.lookup x=al c->X.s₀.heap.objs.size<=c
 hd:X.calm=ap->X.A.handled=am
 frames:X.A.frames=al X.stack
 stk:X.stack=X.outer\/(X.stack=X.env::X.outer/\X.env.frame=al X.env.locals)
 exf:∀b∈X.ex,b≠X.env.locals/\∀x c,X.env.cells.lookup x=al c->c≠b
 bs:∀b o,X.base.get? b=al o->X.s₀.heap.get? b=al o/\X.H₀ b=am
 bsz:X.base.objs.size<=X.s₀.heap.objs.size
 noex:∀b o,X.base.get? b=al o->b∉X.ex
 exfs:∀b∈X.ex,b∉X.fs
 funs:X.s₀.heap.FunFrames X.base X.outer
 frf:∀b∈X.fs,X.H₀ b=am
structure Inv (X:Cx) (pins:List (Addr×cE)) (σ:List (Option V)) (H:Hp) (s:aq):Prop where
 ok:X.Ok
 os:s.os=X.s₀.os
 bare:im s.gens
 base:Un X.fs X.ex X.H₀ H X.s₀.heap s.heap
 loc:∃m,s.heap.Ns X.env.locals m/\∀(i:Nat) (x:Str) (v:V),X.N[i]?=al x->σ[i]?=al (al v)->Vis X.env.scope x->∃u,RelV v u/\A4K X.env s.heap m x u
 cell:∀x c,X.env.cells.lookup x=al c->∃v,s.heap.IsCell c v
 free:H X.env.locals=am
 freeC:∀x c,X.env.cells.lookup x=al c->H c=am
 pin:∀p∈X.pn++pins,s.heap.get? p.1=al p.2/\H p.1=am/\p.1≠X.env.locals/\p.1∉X.fs/\∀v,p.2.data≠.cell v
 hok:HOk X.prog X.w H s.heap
 len:σ.length=X.N.length
section
variable {X:Cx}{pins:List (Addr×cE)}{σ:List (Option V)}{H H':Hp}{s:aq}{h':cr}
theorem Cx.Ok.nofr (ok:X.Ok) (e:X.base.get? b=al o):b∉X.fs:=λhb=>by have:=(ok.funs.mem hb).1;rw[e] at this;cases this
theorem Inv.bs (I:Inv X pins σ H s):∀b o,X.base.get? b=al o->s.heap.get? b=al o/\H b=none:=λb o e=>
 #[I.base.keep b o (I.ok.bs b o e).1 (I.ok.bs b o e).2 (I.ok.nofr e) (I.ok.noex b o e),I.base.free b o (I.ok.bs b o e).1 (I.ok.bs b o e).2 (I.ok.noex b o e)]
theorem Inv.bk (I:Inv X pins σ H s):∀b o,X.base.get? b=al o->s.heap.get? b=al o:=λb o e=>(I.bs b o e).1
theorem Inv.mod (I:Inv X pins σ H s):Mod X.K X.mg X.base:=I.ok.mod
theorem Inv.kIn (I:Inv X pins σ H s):X.K.In s.heap:=I.ok.mod.kin.keeps I.bk
theorem Inv.lt (I:Inv X pins σ H s):X.env.locals < s.heap.objs.size:=let #[_,hn,_]:=I.loc;hn.lt
theorem Inv.sz (I:Inv X pins σ H s):X.s₀.heap.objs.size<=s.heap.objs.size:=zN I.ok.above (xR I.lt)
theorem Inv.nofs (I:Inv X pins σ H s) {a:Addr}(h:s.heap.objs.size<=a):a∉X.fs:=λhb=>by obtain⟨_,o,ho,_⟩:=I.ok.funs.mem hb;exact absurd (zP (zM ho) (zN I.sz h)) (yF _)
theorem Inv.cne (I:Inv X pins σ H s):∀x c,X.env.cells.lookup x=al c->c≠X.env.locals:=λx c e z=>by obtain⟨v,o,ho,hd⟩:=I.cell x c e;obtain⟨m,⟨i,n,t,f,M,_⟩,_⟩:=I.loc;rw[z,f] at ho;cases ho;rw[M] at hd;cases hd
theorem Inv.funs (I:Inv X pins σ H s):s.heap.FunFrames X.base X.outer:=by
 have all:∀(l:List i3),(∀b∈frs l,b∈X.fs)->X.s₀.heap.FunFrames X.base l->s.heap.FunFrames X.base l:=by
   intro l;induction l with
   | nil=>intro _ _;trivial
   | cons env r U=> intro hs t;obtain⟨hk,⟨L,o,M,hn,ho,hd⟩,hr⟩:=t;have hL:L∈X.fs:=hs L (by unfold frs;rw[a5X,M];exact a0Z);obtain⟨sl,e⟩:=I.base.slot L o ho (I.ok.frf L hL) hL λz=>I.ok.exfs L z hL;exact#[hk,#[L,_,M,hn,e,hd],U (λb hb=>hs b (by unfold frs;rw[a5X,M];exact yV _ hb)) hr]
 exact all X.outer (λ_ hb=>hb) I.ok.funs
theorem Inv.stack (I:Inv X pins σ H s):s.heap.FunFrames X.base X.stack:=by
 rcases I.ok.stk with e | ⟨e,M⟩
 . rw[e];exact I.funs
 . rw[e];obtain⟨m,hn,_⟩:=I.loc;refine .cons (by rw[I.ok.kind];decide) M hn ?_ I.funs;exact Heap.get?_none_of_le (zN I.ok.bsz I.ok.above)
theorem Inv.stkSub (I:Inv X pins σ H s):∀b∈frs X.stack,b∈X.env.locals::X.fs:=λb hb=>by
 rcases I.ok.stk with e | ⟨e,M⟩
 . rw[e] at hb;exact yV _ hb
 . rw[e] at hb;unfold frs at hb;rw[a5X,M] at hb;exact hb
theorem Inv.stkFree (I:Inv X pins σ H s):∀b∈frs X.stack,H b=none:=λb hb=>by
 rcases yX.mp (I.stkSub b hb) with e | hb;. rw[e];exact I.free
 . obtain⟨_,o,ho,_⟩:=I.ok.funs.mem hb;exact I.base.free b o ho (I.ok.frf b hb) λz=>I.ok.exfs b z hb
theorem Inv.step {ch:List Addr}(I:Inv X pins σ H s) (U:∀b∈ch,(b∈X.ex\/X.s₀.heap.objs.size<=b)/\b≠X.env.locals/\(∀x c,X.env.cells.lookup x=al c->c≠b)/\∀p∈X.pn++pins,p.1≠b) (keep:∀b o,b≠X.env.locals->b∉X.fs->b∉ch->s.heap.get? b=al o->H b=am->h'.get? b=al o) (slot:∀b o,b≠X.env.locals->b∈X.fs->b∉ch->s.heap.get? b=al o->H b=am->∃sl,h'.get? b=al { o with slots:=sl }) (free:∀b o,b∉ch->s.heap.get? b=al o->H b=am->H' b=am) (there:∀b o,b∉ch->s.heap.get? b=al o->∃t,h'.get? b=al t) (tups:∀b xs,H b=al (.tup xs)->H' b=al (.tup xs)) (frzs:∀b o u,H b=al (.frz o u)->H' b=al (.frz o u)) (tbls:∀b ps,H b=al (.tbl ps)->∃more,H' b=al (.tbl (ps++more))) (ns:∀m,s.heap.Ns X.env.locals m->h'.Ns X.env.locals m) (hok:HOk X.prog X.w H' h') (hg:im g') :
   Inv X pins σ H' { s with heap:=h',gens:=g',drawn:=d',toks:=t' }:=by
 have g:∀b o,X.s₀.heap.get? b=al o->b≠X.env.locals:=λb o e=>zC (zP (zM e) I.ok.above);have f:∀b o,X.s₀.heap.get? b=al o->b∉X.ex->b∉ch:=λb o e hx hb=>by
   rcases (U b hb).1 with z | z;. exact hx z
   . exact absurd (zP (zM e) z) (yF _)
 have cellK:∀x c,X.env.cells.lookup x=al c->∀v,s.heap.IsCell c v->h'.IsCell c v:=λx c e v #[o,ho,hd]=>by
   have M:c∉ch:=λz=>(U c z).2.2.1 x c e rfl;by_cases hc:c∈X.fs;. obtain⟨sl,q⟩:=slot c o (I.cne x c e) hc M ho (I.freeC x c e);exact#[_,q,hd]
   . exact#[o,keep c o (I.cne x c e) hc M ho (I.freeC x c e),hd]
 refine#[I.ok,I.os,hg,#[λb o e n hb hx=>?_,λb o e n hb hx=>?_,λb o e n hx=>?_,λb o e hx=>?_,λb xs e=>tups b xs (I.base.tups b xs e),λb o xs e=>frzs b o xs (I.base.frzs b o xs e),λb ps e=>?_],?_,λx c e=>?_,?_,λx c e=>?_,λp hp=>?_,hok,I.len];. exact keep b o (g b o e) hb (f b o e hx) (I.base.keep b o e n hb hx) (I.base.free b o e n hx)
 . obtain⟨sl,h⟩:=I.base.slot b o e n hb hx;obtain⟨B,j⟩:=slot b _ (g b o e) hb (f b o e hx) h (I.base.free b o e n hx);exact#[B,j]
 . obtain⟨t,h⟩:=I.base.there b o e hx;exact free b t (f b o e hx) h (I.base.free b o e n hx)
 . obtain⟨t,h⟩:=I.base.there b o e hx;exact there b t (f b o e hx) h
 . obtain⟨S,h⟩:=I.base.tbls b ps e;obtain⟨D,j⟩:=tbls b _ h;exact#[S++D,by rw[j,Array.append_assoc]]
 . obtain⟨m,hn,O⟩:=I.loc;refine#[m,ns m hn,λi x v h j N=>?_];obtain⟨u,r,l⟩:=O i x v h j N;refine#[u,r,?_];rcases l with l | ⟨k,c,e,z⟩
   . exact .inl l
   . exact .inr #[k,c,e,cellK x c e _ z]
 . obtain⟨v,z⟩:=I.cell x c e;exact#[v,cellK x c e v z]
 . obtain⟨m,⟨o,_,_,ho,_⟩,_⟩:=I.loc;exact free _ o (λz=>(U _ z).2.1 rfl) ho I.free
 . obtain⟨v,o,ho,hd⟩:=I.cell x c e;exact free c o (λz=>(U c z).2.2.1 x c e rfl) ho (I.freeC x c e)
 . obtain⟨e,n,y,T,d⟩:=I.pin p hp;have M:p.1∉ch:=λz=>(U p.1 z).2.2.2 p hp rfl;exact#[keep p.1 p.2 y T M e n,free p.1 p.2 M e n,y,T,d]
theorem Inv.un (I:Inv X pins σ H s) (u:Un X.fs [] H H' s.heap h') (hok:HOk X.prog X.w H' h'):Inv X pins σ H' { s with heap:=h',toks:=t' }:=by obtain⟨m,⟨o,p,i,ho,r⟩,_⟩:=id I.loc;obtain⟨sl,hL⟩:=u.any ho I.free (by simp);exact I.step (g':=s.gens) (d':=s.drawn) (ch:=[]) (λ_ z=>nomatch z) (λb o _ hb _ e n=>u.keep b o e n hb (by simp)) (λb o _ hb _ e n=>u.slot b o e n hb (by simp)) (λb o _ e n=>u.free b o e n (by simp)) (λb o _ e=>u.there b o e (by simp)) u.tups u.frzs u.tbls (λc x=>by obtain⟨g,t,D,f,L⟩:=x;rw[ho] at f;cases f;exact#[_,t,D,hL,L]) hok I.bare
theorem Inv.call (I:Inv X pins σ H s) (u:Un (frs X.stack) ch H H' s.heap h') (hok:HOk X.prog X.w H' h') (hg:im g') (U:∀b∈ch,(b∈X.ex\/X.s₀.heap.objs.size<=b)/\b≠X.env.locals/\(∀x c,X.env.cells.lookup x=al c->c≠b)/\∀p∈X.pn++pins,p.1≠b) :
   Inv X pins σ H' { s with heap:=h',gens:=g',drawn:=d',toks:=t' }:=by obtain⟨m,⟨o,h,g,ho,r⟩,_⟩:=id I.loc;obtain⟨sl,hL⟩:=u.any ho I.free λz=>(U _ z).2.1 rfl;exact I.step (ch:=ch) U (λb o hL hb hc e n=>u.keep b o e n (λz=>(yX.mp (I.stkSub b z)).elim hL hb) hc) (λb o _ _ hc e n=>u.any e n hc) (λb o hc e n=>u.free b o e n hc) (λb o hc e=>u.there b o e hc) u.tups u.frzs u.tbls (λj i=>by obtain⟨k,t,D,f,L⟩:=i;rw[ho] at f;cases f;exact#[_,t,D,hL,L]) hok hg
theorem Inv.turned (I:Inv X pins σ H s) (k:∀b o,b≠it->s.heap.get? b=al o->h'.get? b=al o) (hn:H it=am) (hL:it≠X.env.locals) (h1:it∈X.ex\/X.s₀.heap.objs.size<=it) (g:∀x c,X.env.cells.lookup x=al c->c≠it) (J:∀p∈X.pn++pins,p.1≠it):Inv X pins σ H { s with heap:=h',toks:=t' }:=by
 have t:∀b u,H b=al u->b≠it:=λb u e z=>by rw[z,hn] at e;cases e
 refine I.step (g':=s.gens) (d':=s.drawn) (ch:=[it]) (λb hb=>?_) (λb o _ _ hc e _=>k b o (λz=>hc (by simp[z])) e) (λb o _ _ hc e _=>#[o.slots,k b o (λz=>hc (by simp[z])) e]) (λ_ _ _ _ n=>n)
   (λb o hc e=>#[o,k b o (λz=>hc (by simp[z])) e]) (λ_ _ e=>e) (λ_ _ _ e=>e) (λb j e=>#[#[],by rw[e];simp]) (λm h=>?_) (λb u e=>?_) I.bare
 . have e:b=it:=by simpa using hb
   subst e;exact#[h1,hL,g,J]
 . obtain⟨o,f,i,ho,r⟩:=h;exact#[o,f,i,k _ o (a4Z hL) ho,r]
 . refine(I.hok b u e).stay (λc v hc q=>k c v ?_ q) (λ_ q=>q) λ_ _ q=>q;rcases hc with z | z;. rw[z];exact t b u e
   . exact t c _ z
theorem Inv.tok (I:Inv X pins σ H s) (t:Nat):Inv X pins σ H { s with toks:=t }:=I.un (h':=s.heap) (t':=t) Un.refl I.hok
theorem Inv.kept (I:Inv X pins σ H s) (k:∀b u,s.heap.get? b=al u->h'.get? b=al u):Inv X pins σ H { s with heap:=h',toks:=t' }:=I.un (Un.kept k) (I.hok.kept k)
theorem Inv.laid {a:Addr}(I:Inv X pins σ H s) (k:∀b u,s.heap.get? b=al u->h'.get? b=al u) (hp:s.heap.objs.size<=a) (new:ObjOk X.prog X.w (upd H a o) h' a o) :
   Inv X pins σ (upd H a o) { s with heap:=h',toks:=t' }:=I.un (Un.laid k hp (I.hok.fresh hp)) (I.hok.laid k hp new)
theorem Inv.write (I:Inv X pins σ H s) (t:Mut (H x)) (he:e=x\/H e=al (.own x)) (k:∀b u,b≠e->s.heap.get? b=al u->h'.get? b=al u) (r:∃u,h'.get? e=al u) (new:ObjOk X.prog X.w (upd H x o) h' x o):Inv X pins σ (upd H x o) { s with heap:=h',toks:=t' }:=I.un (Un.write t he k r) (I.hok.write t he k r new)
theorem Inv.weak (I:Inv X pins σ H s) (r:b.length=σ.length) (w:∀(i:Nat) v,b[i]?=al (al v)->σ[i]?=al (al v)):Inv X pins b H s:=#[I.ok,I.os,I.bare,I.base,let #[m,hn,D]:=I.loc;#[m,hn,λi x v h j e=>D i x v h (w i v j) e],I.cell,I.free,I.freeC,I.pin,I.hok,r.trans I.len]
theorem Inv.pins_of (I:Inv X pins σ H s) (h:∀p∈i,s.heap.get? p.1=al p.2/\H p.1=am/\p.1≠X.env.locals/\p.1∉X.fs/\∀v,p.2.data≠.cell v):Inv X i σ H s:=#[I.ok,I.os,I.bare,I.base,I.loc,I.cell,I.free,I.freeC,λp hp=>(yW.mp hp).elim (λz=>I.pin p (zA _ z)) (h p),I.hok,I.len]
theorem X2 {N:List Str}(hN:N.Nodup) {i j:Nat}{x:Str}(a:N[i]?=al x) (b:N[j]?=al x):i=j:=by obtain⟨h1,h⟩:=yT.mp a;obtain⟨t,e⟩:=yT.mp b;exact(List.getElem_inj hN).mp (h.trans e.symm)
theorem gR (I:Inv X pins σ H s) (hN:X.N.Nodup) (hi:X.N[i]?=al x) (hx:Loc X.env.scope x) (r:RelV v u) (h:∀s',Inv X pins (σ.set i (al v)) H s'->(∃a,Heap.SameBut a s.heap s'.heap/\(a=X.env.locals\/X.env.cells.lookup x=al a))->Q () s') (hf:X.fn x=ap\/X.env.scope.names.lookup x=al .local:=by first | exact .inl rfl | exact .inr rfl | assumption):wpAny M A (storeName X.env x u) Q E s:=by
 obtain⟨m,hn,hl⟩:=id I.loc;have xl:(X.env.scope.kind==.class||(X.env.scope.kind==.module&&X.env.locals != X.env.globals))=false:=by rw[I.ok.kind];rfl
 have F_:i < σ.length:=by rw[I.len];exact(yT.mp hi).1
 have cne:=I.cne;have tracked:∀{a:Addr}{h':cr},(∃o,s.heap.get? a=al o/\H a=am)->Heap.SameBut a s.heap h'->HOk X.prog X.w H h':=λ{a h'} ha hs b ob e=>by
   obtain⟨_,_,wu⟩:=ha;refine(I.hok b ob e).stay (λc S hc q=>(hs.2 c ?_).trans q) (λ_ q=>q) λ_ _ q=>q;rintro rfl;rcases hc with rfl | hc;. rw[wu] at e;cases e
   . rw[wu] at hc;cases hc
 rcases hx with hk | hk
 . refine wpAny_storeName_local hk hn (λh' cy hs=>?_) xl;obtain⟨oL,_,_,sr,_⟩:=id hn;refine h _ #[I.ok,I.os,I.bare,#[λb o e n hb hx=>?_,λb o e n hb hx=>?_,I.base.free,λb o e hx=>?_,I.base.tups,I.base.frzs,I.base.tbls],#[_,cy,λj y U t f D=>?_],λy c e=>?_,I.free,I.freeC,λp hp=>?_,tracked #[oL,sr,I.free] hs,by simpa using I.len] #[_,hs,.inl rfl];. exact(hs.2 b (zC (zP (zM e) I.ok.above))).trans (I.base.keep b o e n hb hx)
   . obtain⟨sl,t⟩:=I.base.slot b o e n hb hx;exact#[sl,(hs.2 b (zC (zP (zM e) I.ok.above))).trans t]
   . obtain⟨G,t⟩:=I.base.there b o e hx;exact#[G,(hs.2 b (zC (zP (zM e) I.ok.above))).trans t]
   . by_cases g:j=i;. subst g;rw[hi] at t;cases t;rw[List.getElem?_set_self F_] at f;cases f;exact#[u,r,.inl #[hk,by simp]]
     . rw[b6X (a4Z g)] at f;obtain⟨J,L,q⟩:=hl j y U t f D;refine#[J,L,?_];rcases q with ⟨k,e⟩ | ⟨k,c,e,z⟩
       . refine .inl #[k,?_];have:y≠x:=λe=>g (X2 hN t (e▸hi));simp[this,e]
       . exact .inr #[k,c,e,z.sameBut hs (cne y c e)]
   . obtain⟨S,z⟩:=I.cell y c e;exact#[S,z.sameBut hs (cne y c e)]
   . obtain⟨e,n,O,B,d⟩:=I.pin p hp;exact#[(hs.2 p.1 O).trans e,n,O,B,d]
 . have Y:X.fn x=true:=by
     rcases hf with z | z;. exact z
     . rw[z] at hk;cases hk
   obtain⟨c,hc⟩:=I.ok.has x (.inl hk);obtain⟨S,z⟩:=I.cell x c hc;refine wpAny_storeName_cell I.ok.kind hk hc z (λh' rz hs=>?_);obtain⟨oc,Z,Dk⟩:=id z;refine h { s with heap:=h' } #[I.ok,I.os,I.bare,#[λb o e n hb hx=>?_,λb o e n hb hx=>?_,I.base.free,λb o e hx=>?_,I.base.tups,I.base.frzs,I.base.tbls],#[m,hn.sameBut hs (a4Z (cne x c hc)),λj y U t f D=>?_],λy T e=>?_,I.free,I.freeC,λp hp=>?_,tracked #[oc,Z,I.freeC x c hc] hs,by simpa using I.len] #[c,hs,.inr hc];. exact(hs.2 b (zC (zP (zM e) (I.ok.cab x c Y hc)))).trans (I.base.keep b o e n hb hx)
   . obtain⟨sl,t⟩:=I.base.slot b o e n hb hx;exact#[sl,(hs.2 b (zC (zP (zM e) (I.ok.cab x c Y hc)))).trans t]
   . obtain⟨G,t⟩:=I.base.there b o e hx;exact#[G,(hs.2 b (zC (zP (zM e) (I.ok.cab x c Y hc)))).trans t]
   . by_cases g:j=i;. subst g;rw[hi] at t;cases t;rw[List.getElem?_set_self F_] at f;cases f;exact#[u,r,.inr #[.inl hk,c,hc,rz]]
     . rw[b6X (a4Z g)] at f;obtain⟨J,L,q⟩:=hl j y U t f D;refine#[J,L,?_];rcases q with q | ⟨k,T,e,z'⟩
       . exact .inl q
       . refine .inr #[k,T,e,z'.sameBut hs ?_];rintro rfl;exact g (X2 hN t (I.ok.inj _ _ _ e hc▸hi))
   . by_cases hcc:T=c;. subst hcc;exact#[_,rz]
     . obtain⟨w2,z2⟩:=I.cell y T e;exact#[w2,z2.sameBut hs hcc]
   . obtain⟨e,n,O,B,d⟩:=I.pin p hp;refine#[(hs.2 p.1 ?_).trans e,n,O,B,d];intro q;rw[q,Z] at e;have q':oc=p.2:=Option.some.inj e;exact d S (by rw[<-q'];exact Dk)
theorem IW (I:Inv X pins σ H s) (hN:X.N.Nodup) (hi:X.N[i]?=al x) (hx:Loc X.env.scope x) (r:RelV v u) (h:∀s',Inv X pins (σ.set i (al v)) H s'->Q () s') (e:X.fn x=ap\/X.env.scope.names.lookup x=al .local:=by first | exact .inl rfl | exact .inr rfl | assumption):wpAny M A (storeName X.env x u) Q E s:=
 gR I hN hi hx r (λs' L _=>h s' L) e
theorem Inv.call' (I:Inv X pins σ H s) (ho:s'.os=s.os) (u:Un (frs X.stack) ch H H' s.heap s'.heap) (hok:HOk X.prog X.w H' s'.heap) (hg:im s'.gens) (U:∀b∈ch,(b∈X.ex\/X.s₀.heap.objs.size<=b)/\b≠X.env.locals/\(∀x c,X.env.cells.lookup x=al c->c≠b)/\∀p∈X.pn++pins,p.1≠b):Inv X pins σ H' s':=by obtain⟨h',g',d',t',t⟩:=s';have e:t=s.os:=ho;subst e;exact I.call (g':=g') (t':=t') (d':=d') u hok hg U
end
abbrev XK:=ao->Option Addr->Hp->Prop
abbrev St:=List (Option V)
abbrev VK:=V->Hp->Prop
abbrev TE:=St->Hp->VK->Prop
abbrev TT:=St->Hp->(Bool->Hp->Prop)->Prop
abbrev TA:=St->Hp->(List V->Hp->Prop)->Prop
structure Ends where
 nx:St->Hp->Prop
 rt:VK
 bk:St->Hp->Prop:=λ_ _=>False
 ct:St->Hp->Prop:=λ_ _=>False
abbrev TS:=Ends->St->Hp->Prop
def EP (X:Cx) (pins:List (Addr×cE)) (e:St) (Q:VK) (u:ao) (s':aq):Prop:=∃v H',Inv X pins e H' s'/\RelV v u/\Q v H'
def TP (X:Cx) (pins:List (Addr×cE)) (e:St) (Q:Bool->Hp->Prop) (b:Bool) (s':aq):Prop:=∃H',Inv X pins e H' s'/\Q b H'
def AP (X:Cx) (pins:List (Addr×cE)) (n:St) (Q:List V->Hp->Prop) (t:List ao) (s':aq):Prop:=∃e H',Inv X pins n H' s'/\Vals e t/\Q e H'
def SP (X:Cx) (pins:List (Addr×cE)) (D:Ends) (f:Flow) (s':aq):Prop:=
 match f with
 | .next=>∃b H',Inv X pins b H' s'/\D.nx b H'
 | .brk=>∃b H',Inv X pins b H' s'/\D.bk b H'
 | .cont=>∃b H',Inv X pins b H' s'/\D.ct b H'
 | .ret u=>∃v b H',Inv X pins b H' s'/\RelV v u/\D.rt v H'
def PE (X:Cx) (e:bp) (t:TE):Prop:=∀(pins:List (Addr×cE)) (s:aq) (n:St) (H:Hp) (Q:VK),Inv X pins n H s->t n H Q->wpAny (model X.prog X.w) X.A (eval e X.env) (EP X pins n Q) X.xe s
def PT (X:Cx) (e:bp) (t:TT):Prop:=∀(pins:List (Addr×cE)) (s:aq) (n:St) (H:Hp) (Q:Bool->Hp->Prop),Inv X pins n H s->t n H Q->wpAny (model X.prog X.w) X.A (isTrue e X.env (eval e X.env)) (TP X pins n Q) X.xe s
def PW (X:Cx) (e:bp) (t:TT):Prop:=∀(whole:Sem ao) (pins:List (Addr×cE)) (s:aq) (n:St) (H:Hp) (Q:Bool->Hp->Prop),Inv X pins n H s->t n H Q->wpAny (model X.prog X.w) X.A (isTrue e X.env whole) (TP X pins n Q) X.xe s
theorem PW.pt {X:Cx}{e:bp}{t:TT}(h:PW X e t):PT X e t:=h _
def PA (X:Cx) (es:List bp) (t:TA):Prop:=∀(pos:ew) (pins:List (Addr×cE)) (s:aq) (e:St) (H:Hp) (Q:List V->Hp->Prop),Inv X pins e H s->t e H Q->wpAny (model X.prog X.w) X.A (spliced (backTo pos (starEach es X.env))) (AP X pins e Q) X.xe s
def PS (X:Cx) (st:eu) (t:TS):Prop:=∀(pins:List (Addr×cE)) (s:aq) (e:St) (H:Hp) (D:Ends),Inv X pins e H s->t D e H->wpAny (model X.prog X.w) X.A (exec st X.env) (SP X pins D) X.xe s
def PSs (X:Cx) (st:List eu) (t:TS):Prop:=∀(pins:List (Addr×cE)) (s:aq) (e:St) (H:Hp) (D:Ends),Inv X pins e H s->t D e H->wpAny (model X.prog X.w) X.A (execs st X.env) (SP X pins D) X.xe s
theorem thn {t:Sem e}(h:wpAny M A t Q E s) (T:∀a s,Q a s->b a s):wpAny M A t b E s:=bg h T λ_ _ x=>x
section
variable {X:Cx}
def X3 (i:Nat):TE:=λe H Q=>∃v,e[i]?=al (al v)/\Q v H
def tC (v:V):TE:=λ_ H Q=>Q v H
theorem l0 {i:Nat}{x:Str}{pos:ew}(hN:X.N[i]?=al x) (S:Vis X.env.scope x) (hd:(x==("__debug__":Str))=false:=by decide) (b:(x==("__classdict__":Str))=false:=by decide):PE X (.Name x pos) (X3 i):=by
 intro pins s f H Q I h;obtain⟨v,e,h⟩:=h;obtain⟨m,hn,n⟩:=I.loc;obtain⟨u,r,l⟩:=n i x v hN e S;have fin:EP X pins f Q u s:=#[v,H,I,r,h]
 rcases l with ⟨hk,p⟩ | ⟨hk,c,hc,t⟩
 . exact wpAny_Name (wpAny_loadName_local I.ok.kind hk hn p fin) hd
 . rcases hk with hk | hk;. exact wpAny_Name (wpAny_loadName_cell I.ok.kind hk hc t fin) hd
   . exact wpAny_Name (wpAny_loadName_free I.ok.kind hk hc t fin b) hd
theorem A0k {i j pos}:PE X (.Constant (.int i) j pos) (tC (.int i)):=λ_ _ _ H _ I h=>wpAny_Constant_int #[.int i,H,I.tok _,#[_,rfl],h]
theorem A2x {b j pos}:PE X (.Constant (.bool b) j pos) (tC (.bl b)):=λ_ _ _ H _ I h=>Constant_bool #[.bl b,H,I,rfl,h]
theorem A0l {j pos}:PE X (.Constant .none j pos) (tC .non):=λ_ _ _ H _ I h=>Constant_none #[.non,H,I,rfl,h]
theorem A0m {x j pos}:PE X (.Constant (.str x) j pos) (tC (.str x)):=λ_ _ _ H _ I h=>Calls.Constant_str #[.str x,H,I.tok _,#[_,rfl],h]
def Gl (X:Cx) (x:Str):Prop:=X.env.kindOf x=al .globalImplicit
theorem G1 {E:ao->aq->Prop}{pins:List (Addr×cE)}{s:aq}{t:St}{H:Hp}{x:Str}{u:ao}{pos:ew}{Q:ao->aq->Prop}(I:Inv X pins t H s) (hg:Gl X x) (e:X.mg x=al u) (h:Q u s) (hd:(x==("__debug__":Str))=false:=by decide):wpAny (model X.prog X.w) X.A (eval (.Name x pos) X.env) Q E s:=
 Calls.Name_function_global I.ok.kind hg (Calls.loadGlobal_global (by rw[I.ok.glob];exact I.mod.glob.keeps I.bk) e h) hd
theorem IX {E:ao->aq->Prop}{pins:List (Addr×cE)}{s:aq}{n:St}{H:Hp}{x:Str}{u:ao}{pos:ew}{Q:ao->aq->Prop}(I:Inv X pins n H s) (hg:Gl X x) (t:X.mg x=am) (S:gl x=al u) (h:Q u s) (hn:x ≠ "__name__" := by decide) (hd:(x==("__debug__":Str))=false:=by decide):wpAny (model X.prog X.w) X.A (eval (.Name x pos) X.env) Q E s:=by obtain⟨i,h1,e⟩:=I.mod.blt;exact Calls.Name_function_global I.ok.kind hg (Calls.loadGlobal_builtin (by rw[I.ok.glob];exact I.mod.glob.keeps I.bk) t (by rw[I.ok.blt];exact h1.keeps I.bk) ((e x hn).trans S) h) hd
theorem UQ (hg:Gl X x) (e:X.mg x=al u) (r:RelV v u) (hd:(x==("__debug__":Str))=false:=by decide):PE X (.Name x pos) (tC v):=
 λ_ _ _ H _ I h=>G1 I hg e #[v,H,I,r,h] hd
theorem HM {x:Str}{v:V}{u:ao}{pos:ew}(hg:Gl X x) (e:X.mg x=am) (S:gl x=al u) (r:RelV v u) (hn:x ≠ "__name__" := by decide) (hd:(x==("__debug__":Str))=false:=by decide):PE X (.Name x pos) (tC v):=
 λ_ _ _ H _ I h=>IX I hg e S #[v,H,I,r,h] hn hd
variable {a b:bp}{ta tb:TE}{pos:ew}
def PC (X:Cx) (h:CmpOp) (a b:bp) (t:TE):Prop:=∀(pins:List (Addr×cE)) (s:aq) (e:St) (H:Hp) (Q:VK),Inv X pins e H s->t e H Q ->
   wpAny (model X.prog X.w) X.A (eval a X.env) (λv z=>wpAny (model X.prog X.w) X.A (eval b X.env) (λu G=>wpAny (model X.prog X.w) X.A (bq h v u) (EP X pins e Q) X.xe G) X.xe z) X.xe s
def tB (t:TE):TT:=λe H Q=>t e H λx m=>∃c,x = .bl c/\Q c m
theorem l6 {e:CmpOp}{t:TE}(h:PC X e a b t) (h1:fy e b=false:=by first | exact nobehind _ (by decide) (by decide) | rfl):PE X (.Compare a [e] [b] pos) t:=λpins s i H Q I n=>wpAny_Compare1 (h pins s i H Q I n) h1
theorem UR {e:CmpOp}{t:TE}(h:PC X e a b t) (h1:fy e b=false:=by first | exact nobehind _ (by decide) (by decide) | rfl):PT X (.Compare a [e] [b] pos) (tB t):=by intro pins s p H Q I i;refine wpAny_isTrue_Compare1 (thn (h pins s p H _ I i) λv f h1=>thn h1 λu g n=>thn n λc j #[x,m,G,r,T]=>?_) h1;obtain⟨d,rfl,q⟩:=T;cases r;exact cx #[m,G,q]
theorem A0n {e:bp}{t:TE}(h:PE X e t) (he:∀whole,isTrue e X.env whole=(do let v <- whole;standAt e.pos;holding [v] (truthy v)):=by intro _;rfl):PT X e (tB t):=by intro pins s r H Q I n;refine isTrue_plain (thn (h pins s r H _ I n) λv p #[x,m,G,i,T]=>?_) (he _);obtain⟨d,rfl,q⟩:=T;cases i;exact cx #[m,G,q]
variable {tA vw:TT}{rest:List bp}
def A2y (t u:TT):TT:=λe H Q=>t e H λc m=>if c=ap then u e m Q else Q aw m
def tOr (t u:TT):TT:=λe H Q=>t e H λc m=>if c=ap then Q ap m else u e m Q
def A2z (t:TT):TT:=λe H Q=>t e H λc m=>Q (!c) m
theorem pw_and1 (g:PT X a tA):PW X (.BoolOp .And [a] pos) tA:=by
 intro m pins s t H Q I h;refine isTrue_and (thn (g pins s t H Q I h) λc n e=>?_);cases c with
 | true=>exact isTrue_and_nil e
 | false=>exact e
theorem pw_or1 (g:PT X a tA):PW X (.BoolOp .Or [a] pos) tA:=by
 intro m pins s t H Q I h;refine isTrue_or (thn (g pins s t H Q I h) λc n e=>?_);cases c with
 | false=>exact isTrue_or_nil e
 | true=>exact e
theorem pw_and (g:PT X a tA) (hb:PW X (.BoolOp .And (b::rest) pos) vw):PW X (.BoolOp .And (a::b::rest) pos) (A2y tA vw):=by
 intro n pins s e H Q I h;refine isTrue_and (thn (g pins s e H _ I h) λc t #[m,G,T]=>?_);cases c with
 | true=>exact hb n pins t e m Q G T
 | false=>exact#[m,G,T]
theorem pw_or (g:PT X a tA) (hb:PW X (.BoolOp .Or (b::rest) pos) vw):PW X (.BoolOp .Or (a::b::rest) pos) (tOr tA vw):=by
 intro n pins s e H Q I h;refine isTrue_or (thn (g pins s e H _ I h) λc t #[m,G,T]=>?_);cases c with
 | true=>exact#[m,G,T]
 | false=>exact hb n pins t e m Q G T
theorem A0o (g:PT X a tA):PT X (.UnaryOp .Not a pos) (A2z tA):=by intro pins s e H Q I h;exact isTrue_not (g pins s e H (λc m=>Q (!c) m) I h)
def A0E (ta tb:TE):TE:=λe H Q=>ta e H λx m=>∃c,x = .bl c/\if c=ap then tb e m Q else Q (.bl aw) m
def A3A (ta tb:TE):TE:=λe H Q=>ta e H λx m=>∃c,x = .bl c/\if c=ap then Q (.bl ap) m else tb e m Q
def A0F (ta:TE):TE:=λe H Q=>ta e H λx m=>∃c,x = .bl c/\Q (.bl (!c)) m
theorem A0p {n} {t:TE}(h:PE X a t):PE X (.BoolOp n [a] pos) t:=λpins s i H Q I e=>BoolOp_one (h pins s i H Q I e)
theorem A0q (g:PE X a ta) (hb:PE X (.BoolOp .And (b::rest) pos) tb):PE X (.BoolOp .And (a::b::rest) pos) (A0E ta tb):=by
 intro pins s e H Q I h;refine BoolOp_and (thn (g pins s e H _ I h) λv t #[x,m,G,q,T]=>?_);obtain⟨c,rfl,T⟩:=T;cases q;refine cx ?_;cases c with
 | true=>exact hb pins t e m Q G T
 | false=>exact#[.bl aw,m,G,rfl,T]
theorem A3B (g:PE X a ta) (hb:PE X (.BoolOp .Or (b::rest) pos) tb):PE X (.BoolOp .Or (a::b::rest) pos) (A3A ta tb):=by
 intro pins s e H Q I h;refine BoolOp_or (thn (g pins s e H _ I h) λv t #[x,m,G,q,T]=>?_);obtain⟨c,rfl,T⟩:=T;cases q;refine cx ?_;cases c with
 | false=>exact hb pins t e m Q G T
 | true=>exact#[.bl ap,m,G,rfl,T]
theorem A0r (g:PE X a ta):PE X (.UnaryOp .Not a pos) (A0F ta):=by intro pins s e H Q I h;refine UnaryOp_ (thn (g pins s e H _ I h) λv t #[x,m,G,q,T]=>?_);obtain⟨c,rfl,T⟩:=T;cases q;exact not_of (cx #[.bl (!c),m,G,rfl,T])
def tIf (t:TT) (ta tb:TE):TE:=λe H Q=>t e H λc m=>if c=ap then ta e m Q else tb e m Q
theorem l7 {c:bp}(hc:PT X c tA) (g:PE X a ta) (hb:PE X b tb):PE X (.IfExp c a b pos) (tIf tA ta tb):=by
 intro pins s e H Q I h;refine wpAny_IfExp (thn (hc pins s e H _ I h) λd t #[m,G,T]=>?_);cases d with
 | true=>exact g pins t e m Q G T
 | false=>exact hb pins t e m Q G T
end
def SqL (K:Frg) (H:Hp) (a:Addr) (xs:List V):Prop:=
 Rd H a (.lst xs) \/∃(o:cE) (e:Array ao) (n:Nat),K.lookup a=al o/\o.cls = .type "list" /\ o.dict=am/\o.data = .seq e n/\e.size<=aB/\Vals xs e.toList
def SqT (K:Frg) (H:Hp) (a:Addr) (xs:List V):Prop:=
 Rd H a (.tup xs) \/∃(o:cE) (e:Array ao) (n:Nat),K.lookup a=al o/\o.cls = .type "tuple" /\ o.data = .seq e n/\e.size<=aB/\Vals xs e.toList
def A4L:ao->Option V
 | .none=>al .non
 | .bool b=>al (.bl b)
 | .int i _=>al (.int i)
 | .str x _=>al (.str x)
 | .bytes b _=>al (.byt b)
 | .float b _=>al (.flt b)
 | .ref a=>al (.ref a)
 | .type n=>al (.ty n)
 | _=>am
theorem RelV.abs (r:RelV x u):A4L u=al x:=by
 cases x with
 | non=>cases r;rfl
 | bl _=>cases r;rfl
 | int _=>obtain⟨t,rfl⟩:=r;rfl
 | str _=>obtain⟨t,rfl⟩:=r;rfl
 | byt _=>obtain⟨t,rfl⟩:=r;rfl
 | flt _=>obtain⟨t,rfl⟩:=r;rfl
 | ref _=>cases r;rfl
 | ty _=>cases r;rfl
theorem RelV.inj (r:RelV x u) (q:RelV y u):x=y:=Option.some.inj (r.abs.symm.trans q.abs)
theorem Vals.inj:∀{xs ys:List V}{e:List ao},Vals xs e->Vals ys e->xs=ys
 | _,_,_,.nil,.nil=>rfl
 | _,_,_,.cons r t,.cons L Y=>by rw[r.inj L,Vals.inj t Y]
section
variable {X:Cx}{pins:List (Addr×cE)}{σ:St}{H:Hp}{s:aq}{a:Addr}{xs ys:List V}
theorem SqL.of {K:Frg}(h:H a=al (.lst xs)):SqL K H a xs:=.inl (.inl h)
theorem Inv.list (I:Inv X pins σ H s) (h:SqL X.K H a xs):∃t:List ao,Vals xs t/\PlainL s.heap a t.toArray/\xs.length<=sizeLine:=by
 rcases h with h | ⟨o,t,n,hk,hc,hd,hs,q,r⟩
 . obtain⟨z,t,n,r,e⟩:=h.ok I.hok;exact#[t,r,#[_,n,e,rfl,rfl,rfl],z]
 . refine#[t.toList,r,#[o,n,I.kIn a o hk,hc,hd,by simpa using hs],?_];have e:=r.length;simp only[a5Q] at e;lia
theorem Inv.tuple (I:Inv X pins σ H s) (h:SqT X.K H a xs):∃t:List ao,Vals xs t/\IsTup s.heap a t.toArray/\xs.length<=sizeLine:=by
 rcases h with h | ⟨o,t,n,hk,hc,hs,q,r⟩
 . obtain⟨z,t,r,p⟩:=h.ok I.hok;exact#[t,r,p,z]
 . refine#[t.toList,r,#[o,I.kIn a o hk,hc,n,by simpa using hs],?_];have e:=r.length;simp only[a5Q] at e;lia
theorem Inv.list_inj (I:Inv X pins σ H s) (h:SqL X.K H a xs) (h':SqL X.K H a ys):xs=ys:=by
 obtain⟨t,r,⟨o,n,e,_,_,d⟩,_⟩:=I.list h;obtain⟨its',L,⟨p,m,e',_,_,y⟩,_⟩:=I.list h';rw[e] at e';cases e';rw[d] at y;injection y with i _;have:t=its':=by simpa using congrArg Array.toList i
 subst this;exact r.inj L
theorem Inv.tuple_inj (I:Inv X pins σ H s) (h:SqT X.K H a xs) (h':SqT X.K H a ys):xs=ys:=by
 obtain⟨t,r,⟨o,e,_,n,d⟩,_⟩:=I.tuple h;obtain⟨its',L,⟨p,e',_,m,y⟩,_⟩:=I.tuple h';rw[e] at e';cases e';rw[d] at y;injection y with i _;have:t=its':=by simpa using congrArg Array.toList i
 subst this;exact r.inj L
end
abbrev Cx.wish (X:Cx) (E:ao->aq->Prop):Cx:={ X with xe:=E }
abbrev Cx.nox (X:Cx):Cx:=X.wish λ_ _=>False
theorem Cx.Ok.wish {X:Cx}(ok:X.Ok) (E:ao->aq->Prop):(X.wish E).Ok:=#[ok.mod,ok.kind,ok.glob,ok.blt,ok.above,ok.inj,ok.has,ok.cab,ok.hd,ok.frames,ok.stk,ok.exf,ok.bs,ok.bsz,ok.noex,ok.exfs,ok.funs,ok.frf]
theorem Cx.Ok.unwish {X:Cx}(ok:(X.wish E).Ok):X.Ok:=#[ok.mod,ok.kind,ok.glob,ok.blt,ok.above,ok.inj,ok.has,ok.cab,ok.hd,ok.frames,ok.stk,ok.exf,ok.bs,ok.bsz,ok.noex,ok.exfs,ok.funs,ok.frf]
section
variable {X:Cx}{pins:List (Addr×cE)}{σ:St}{H:Hp}{s:aq}{E:ao->aq->Prop}
theorem Inv.wish (I:Inv X pins σ H s) (E:ao->aq->Prop):Inv (X.wish E) pins σ H s:=#[I.ok.wish E,I.os,I.bare,I.base,I.loc,I.cell,I.free,I.freeC,I.pin,I.hok,I.len]
theorem Inv.unwish (I:Inv (X.wish E) pins σ H s):Inv X pins σ H s:=#[I.ok.unwish,I.os,I.bare,I.base,I.loc,I.cell,I.free,I.freeC,I.pin,I.hok,I.len]
theorem SP.unwish (h:SP (X.wish E) pins D f s'):SP X pins D f s':=by
 cases f with
 | next=>obtain⟨b,H',I,q⟩:=h;exact#[b,H',I.unwish,q]
 | brk=>obtain⟨b,H',I,q⟩:=h;exact#[b,H',I.unwish,q]
 | cont=>obtain⟨b,H',I,q⟩:=h;exact#[b,H',I.unwish,q]
 | ret u=>obtain⟨v,b,H',I,r,q⟩:=h;exact#[v,b,H',I.unwish,r,q]
theorem PSs.nox {st:List eu}(h:PSs X.nox st t):PSs X st t:=λpins s σ H D I e=>
 bg (h pins s σ H D (I.wish _) e) (λ_ _ q=>q.unwish) λ_ _ z=>a6W z
end
section
variable {X:Cx}{st:eu}{rest:List eu}{t u:TS}{e:bp}{te:TE}{pos:ew}
def A0G:TS:=λD n H=>D.nx n H
def l9 (t u:TS):TS:=λD n H=>t { D with nx:=u D } n H
theorem t9:PSs X [] A0G:=λ_ _ n H _ I h=>eN #[n,H,I,h]
theorem Q0 (h1:PS X st t) (n:PSs X rest u):PSs X (st::rest) (l9 t u):=by
 intro pins s r H D I h;refine wpAny_execs_cons (thn (h1 pins s r H { D with nx:=u D } I h) λf i q=>?_);cases f with
 | next=> obtain⟨b,H',L,q⟩:=q;exact n pins i b H' D L q
 | ret v=>exact q
 | brk=>exact q
 | cont=>exact q
theorem MB (h1:PS X st t):PSs X [st] t:=by
 intro pins s n H D I h;refine wpAny_execs_cons (thn (h1 pins s n H D I h) λf i q=>?_);cases f with
 | next=>exact eN q
 | ret v=>exact q
 | brk=>exact q
 | cont=>exact q
theorem Inv.quiet {n:St}(I:Inv X pins n H s):interactive X.env=false:=by simp[interactive,I.ok.kind]
def lA (te:TE):TS:=λD n H=>te n H λ_ m=>D.nx n m
theorem tD (he:PE X e te) (hs:gt e am pos.line X.env=pure false:=by rfl):PS X (.Expr e pos) (lA te):=by intro pins s n H D I h;exact wpAny_Expr_any (thn (he pins s n H _ I h) λv i #[x,m,G,q,T]=>#[n,m,G,T]) I.quiet hs
def A0s (te:TE):TS:=λD n H=>te n H D.rt
theorem A0t (he:PE X e te):PS X (.Return (al e) pos) (A0s te):=by intro pins s n H D I h;exact wpAny_Return_some (thn (he pins s n H _ I h) λv i #[x,m,G,q,T]=>#[x,n,m,G,q,T])
def A0u (c:TT) (t u:TS):TS:=λD n H=>c n H λb m=>if b=ap then t D n m else u D n m
theorem A3C {c:bp}{a b:List eu}{Y:TT}(hc:PT X c Y) (g:PSs X a t) (hb:PSs X b u):PS X (.If c a b pos) (A0u Y t u):=by
 intro pins s n H D I h;refine wpAny_If (thn (hc pins s n H _ I h) λd i #[m,G,T]=>?_);cases d with
 | true=>exact g pins i n m D G T
 | false=>exact hb pins i n m D G T
end
abbrev TG:=V->St->Hp->(St->Hp->Prop)->Prop
abbrev TGs:=List V->St->Hp->(St->Hp->Prop)->Prop
def PG (X:Cx) (target:bp) (t:TG):Prop:=∀(pins:List (Addr×cE)) (s:aq) (e:St) (H:Hp) (v:V) (u:ao) (Q:St->Hp->Prop),Inv X pins e H s->RelV v u->t v e H Q ->
   wpAny (model X.prog X.w) X.A (ko target X.env u) (λ_ s'=>∃b H',Inv X pins b H' s'/\Q b H') X.xe s
def PGs (X:Cx) (ts:List bp) (t:TGs):Prop:=∀(pins:List (Addr×cE)) (s:aq) (i:St) (H:Hp) (n:List V) (e:List ao) (Q:St->Hp->Prop),Inv X pins i H s->Vals n e->t n i H Q ->
   wpAny (model X.prog X.w) X.A (assignInOrder ((dc ts X.env).map (·.2)) e) (λ_ s'=>∃b H',Inv X pins b H' s'/\Q b H') X.xe s
abbrev TIp:=V->V->Hp->VK->Prop
def PIp (X:Cx) (h:Operator) (t:TIp):Prop:=∀(pins:List (Addr×cE)) (s:aq) (e:St) (H:Hp) (x y:V) (v u:ao) (Q:VK),Inv X pins e H s->RelV x v->RelV y u->t x y H Q ->
   wpAny (model X.prog X.w) X.A (inplaceOp h v u) (EP X pins e Q) X.xe s
section
variable {X:Cx}{pos:ew}
def Q1 (i:Nat):TG:=λv e H Q=>Q (e.set i (al v)) H
theorem US {i:Nat}{x:Str}(hN:X.N.Nodup) (hi:X.N[i]?=al x) (hx:Loc X.env.scope x) (M:X.fn x=ap\/X.env.scope.names.lookup x=al .local:=by first | exact .inl rfl | exact .inr rfl | assumption):PG X (.Name x pos) (Q1 i):=by intro pins s e H v u Q I r h;exact wpAny_assign_Name (IW I hN hi hx r (λs' L=>#[_,H,L,h]) M)
def A0v:TGs:=λe t H Q=>e=[]/\Q t H
def lB (t:TG) (u:TGs):TGs:=λe n H Q=>∃v r,e=v::r/\t v n H λb H'=>u r b H' Q
theorem tE:PGs X [] A0v:=by intro pins s t H i n Q I r h;obtain⟨e,h⟩:=h;subst e;cases r;exact assignInOrder_nil #[t,H,I,h]
theorem lC {e:bp}{es:List bp}{t:TG}{u:TGs}(h1:PG X e t) (p:PGs X es u) (hs:(dc (e::es) X.env).map (·.2)=ko e X.env::(dc es X.env).map (·.2):=by rfl):PGs X (e::es) (lB t u):=by
 intro pins s f H k g Q I r h;obtain⟨v,j,i,h⟩:=h;subst i;cases r with
 | cons r b=> rw[hs];refine assignInOrder_cons (thn (h1 pins s f H _ _ _ I r h) λ_ c #[n,m,G,T]=>?_);exact p pins c n m _ _ Q G b T
def tF (K:Frg) (n:Nat) (t:TGs):TG:=λv i H Q=>∃a e,v = .ref a/\SqT K H a e/\e.length=n/\t e i H Q
theorem lD {es:List bp}{k:Nat}{t:TGs}{n:Nat}(hc:X.calm=ap) (h:PGs X es t) (hn:(dc es X.env).length=n:=by rfl) (B:(dc es X.env).findIdx? (·.1)=none:=by rfl):PG X (.Tuple es k pos) (tF X.K n t):=by intro pins s p H v u Q I r i;obtain⟨a,q,c,hq,g,i⟩:=i;subst c;cases r;obtain⟨x,m,j,y⟩:=I.tuple hq;refine assign_Tuple_tuple (I.ok.hd hc) j (by simp[hn,<-g,m.length]) B λf hx=>?_;have G:Inv X pins p H { s with heap:=f }:=I.kept (t':=s.toks) λb o e=>hx b o (zC (zM e)) e;exact h pins _ p H q _ Q G (by simpa using m) i
def tG (t:TE) (g:TG):TS:=λD e H=>t e H λx m=>g x e m D.nx
theorem lG {r e:bp}{t:TE}{g:TG}(he:PE X e t) (hg:PG X r g) (hs:swapsWithSole [r] e pos.line X.env=pure false:=by rfl) (i:swappedStores [r] e X.env=pure none:=by rfl)
   (h1:(dc [r] X.env).map (·.2)=[ko r X.env]:=by rfl):PS X (.Assign [r] e pos) (tG t g):=by intro pins s n H D I h;refine wpAny_Assign_stores (thn (he pins s n H _ I h) λv b #[x,m,G,p,T]=>?_) hs i;rw[h1];exact thn (hg pins b n m x v _ G p T) λ_ c q=>q
theorem A0w {i:Nat}{x:Str}{e:bp}{t:TE}{pos':ew}(hN:X.N.Nodup) (hi:X.N[i]?=al x) (hx:Loc X.env.scope x) (he:PE X e t) (hs:gt e (al (.Name x pos')) pos.line X.env=pure false:=by rfl) (M:X.fn x=ap\/X.env.scope.names.lookup x=al .local:=by first | exact .inl rfl | exact .inr rfl | assumption) :
   PS X (.Assign [.Name x pos'] e pos) (tG t (Q1 i)):=by intro pins s r H D I h;refine wpAny_Assign_Name (thn (he pins s r H _ I h) λv p #[y,m,G,q,T]=>?_) hs;exact IW G hN hi hx q (λb n=>#[_,m,n,T]) M
def A3D (i j:Nat) (t:TA):TS:=λD e H=>t e H λn m=>∃v w,n=[v,w]/\D.nx ((e.set i (al v)).set j (al w)) m
theorem UT {i j:Nat}{x y:Str}{a b:bp}{u:TA}{k c pt:ew}{m k2 pt2} (hc:X.calm=ap) (hN:X.N.Nodup) (hi:X.N[i]?=al x) (Q:X.N[j]?=al y) (B:i≠j) (hx:X.env.scope.names.lookup x=al .local) (hy:X.env.scope.names.lookup y=al .local) (L:PA X [a,b] u) (U:swappedStores [.Tuple [.Name x k,.Name y c] m pt] (.Tuple [a,b] k2 pt2) X.env=pure (al [x,y])) (hs:swapsWithSole [.Tuple [.Name x k,.Name y c] m pt] (.Tuple [a,b] k2 pt2) pos.line X.env=pure false:=by rfl) :
   PS X (.Assign [.Tuple [.Name x k,.Name y c] m pt] (.Tuple [a,b] k2 pt2) pos) (A3D i j u):=by
 intro pins s z H D I h;rw[exec_Assign_arm];refine zZ (bv ?_);rw[hs];refine zZ (zY ?_);rw[if_neg (by decide)];refine zZ (Tuple_ (thn (L _ pins s z H _ I h) λus t #[vs,f,G,r1,T]=>?_));obtain⟨v,w,J,T⟩:=T;subst J;obtain⟨n,r,rfl,rv,Y⟩:∃n r,us=[n,r]/\RelV v n/\RelV w r:=by
   cases r1 with
   | cons p q=>
     cases q with
     | cons Z q'=> cases q';exact#[_,_,rfl,p,Z]
 refine xM ?_ (by show 2<=aB;decide);have O:Inv X pins z f { t with heap:=t.heap.push { cls:=.type "tuple", data:=.seq [n,r].toArray } }:=G.kept (t':=t.toks) λb o e=>zW _ e;rw[U];refine zZ (zY ?_);show wpAny (model X.prog X.w) X.A (do rule "assign.swapped-stores";let items <- unpackItems (.ref t.heap.objs.size) 2 am;assignInOrder [λv=>bindName X.env y v,λv=>bindName X.env x v] items.reverse;pure Flow.next) _ _ _;refine zZ (db (zZ (unpackItems_tuple (items:=(y9 [n,r])) (I.ok.hd hc) (c0K t.heap _) λh' pj=>?_)));have S:=O.kept (h':=h') (t':=t.toks) λb o e=>pj b o (zC (zM e)) e;show wpAny _ _ (assignInOrder [λv=>bindName X.env y v,λv=>bindName X.env x v] [r,n] >>= λ_=>pure Flow.next) _ _ _;refine zZ (assignInOrder_cons (wpAny_bindName (IW S hN Q (.inl hy) Y (λs2 M=>?_) (.inr hy))));refine assignInOrder_cons (wpAny_bindName (IW M hN hi (.inl hx) rv (λs3 g=>assignInOrder_nil (zY ?_)) (.inr hx)));rw[List.set_comm _ _ (a4Z B)] at g;exact#[_,f,g,T]
def A3E (i:Nat) (t:TE) (p:TIp):TS:=λD e H=>∃x,e[i]?=al (al x)/\t e H λy m=>p x y m λz f=>D.nx (e.set i (al z)) f
theorem UU {i:Nat}{x:Str}{e:bp}{b:TE}{n:Operator}{f:TIp}{pos':ew}(hN:X.N.Nodup) (hi:X.N[i]?=al x) (hx:Loc X.env.scope x) (he:PE X e b) (ho:PIp X n f) (J:X.fn x=ap\/X.env.scope.names.lookup x=al .local:=by first | exact .inl rfl | exact .inr rfl | assumption) :
   PS X (.AugAssign (.Name x pos') n e pos) (A3E i b f):=by
 intro pins s g H D I h;obtain⟨v,B,h⟩:=h;obtain⟨m,hn,L⟩:=I.loc;have M:Vis X.env.scope x:=by rcases hx with k | k;exact .inl k;exact .inr (.inl k)
 obtain⟨u,r,l⟩:=L i x v hi B M;refine wpAny_AugAssign_Name ?_;have p:wpAny (model X.prog X.w) X.A (eval e X.env) (λw G=>wpAny (model X.prog X.w) X.A (inplaceOp n u w) (λr t=>wpAny (model X.prog X.w) X.A (storeName X.env x r) (λ_=>SP X pins D .next) X.xe t) X.xe G) X.xe s:=by refine thn (he pins s g H _ I h) λw s1 #[y,j,T,r1,Y]=>?_;refine thn (ho pins s1 g j v y u w _ T r r1 Y) λz s2 #[zv,q,O,r2,Z]=>?_;exact IW O hN hi hx r2 (λs3 S=>#[_,q,S,Z]) J
 rcases l with ⟨hk,Q⟩ | ⟨hk,c,hc,U⟩
 . exact wpAny_loadName_local I.ok.kind hk hn Q p
 . rcases hk with hk | hk;. exact wpAny_loadName_cell I.ok.kind hk hc U p
   . rcases hx with k | k;. have:X.env.scope.names.lookup x=al .free:=hk;rw[k] at this;cases this
     . have:X.env.scope.names.lookup x=al .free:=hk;rw[k] at this;cases this
def ipI (f:Int->Int->Int):TIp:=λx y H Q=>∃i j,x = .int i/\y = .int j/\Q (.int (f i j)) H
theorem A0x:PIp X .Add (ipI λi j=>i+j):=by intro pins s m H x y v u Q I r M h;obtain⟨i,j,e,n,q⟩:=h;subst e;subst n;obtain⟨t,rfl⟩:=r;obtain⟨Y,rfl⟩:=M;exact iadd_int #[.int _,H,I.tok _,#[_,rfl],q]
def lH (c:TT) (r:TS):TS:=λD e H=>∃W:Nat->St->Hp->Prop,(∃m,W m e H)/\∀m e H,W m e H ->
 c e H λb n=>if b=ap then ∃N:St->Hp->Prop,(∀t H',N t H'->∃i,i < m/\W i t H')/\r { D with nx:=N,ct:=N,bk:=D.nx } e n else D.nx e n
theorem lI {c:bp}{body:List eu}{Y:TT}{y:TS}(hp:PassesOwn (model X.prog X.w) X.A X.env X.xe) (hc:PT X c Y) (hb:PSs X body y):PS X (.While c body [] pos) (lH Y y):=by
 intro pins s M H D I h;obtain⟨W,⟨z,Z⟩,turn⟩:=h;refine wpAny_While (codeAny_whileLoop (λn s'=>∃t H',Inv X pins t H' s'/\W n t H') ?_ z #[M,H,I,Z]);rintro n T ⟨e,k,G,S⟩;refine ed hp (thn (hc pins T e k _ G (turn n e k S)) λb O #[q,u,B]=>?_);cases b with
 | true=>
   obtain⟨N,hN,B⟩:=B;rw[if_pos rfl];refine ed hp (thn (hb pins O e q _ u B) λf J r=>?_);cases f with
   | next=> obtain⟨U,i,m,g⟩:=r;obtain⟨p,x,j⟩:=hN U i g;exact#[p,x,U,i,m,j]
   | cont=> obtain⟨U,i,m,g⟩:=r;obtain⟨p,x,j⟩:=hN U i g;exact#[p,x,U,i,m,j]
   | brk=>exact r
   | ret v=>exact r
 | false=> rw[if_neg nft];exact eN #[e,q,u,B]
end
structure It where
 go:Nat->Hp->Prop
 yld:Nat->Hp->V->Hp->Prop
 stop:Nat->Hp->Prop
def MC (X:Cx) (pins:List (Addr×cE)) (H:Hp) (b:Addr):Prop:=
 H b=am/\b≠X.env.locals/\b∉X.fs/\(b∈X.ex\/X.s₀.heap.objs.size<=b)/\(∀x c,X.env.cells.lookup x=al c->c≠b)/\∀p∈X.pn++pins,p.1≠b
theorem Inv.fpOk {X:Cx}{pins:List (Addr×cE)}{t:St}{H H':Hp}{s:aq}{b:Addr}(I:Inv X pins t H s) (hb:s.heap.objs.size<=b) (hn:H' b=am):MC X pins H' b:=by
 refine#[hn,a5W (zP I.lt hb),I.nofs hb,.inr (zN I.sz hb),λx c e z=>?_,λp hp z=>?_];. obtain⟨v,q⟩:=I.cell x c e;exact absurd (zP q.lt (by rw[z];exact hb)) (yF _)
 . exact absurd (zP (zM (I.pin p hp).1) (by rw[z];exact hb)) (yF _)
structure Turn (P:bn) (w:bj) (K:Frg) (tg:bp) (J:It) (fp:List Addr) (it:Addr) (tn:Nat->cr->Prop):Prop where
 mem:it∈fp
 obj:∀i h,tn i h->∀b∈fp,∃o,h.get? b=al o/\∀v,o.data≠.cell v
 keep:∀i h h',tn i h->(∀b∈fp,∀o,h.get? b=al o->h'.get? b=al o)->tn i h'
 item:∀(X:Cx),X.prog=P->X.w=w->X.K=K->X.calm=ap->∀(i:Nat) (pins:List (Addr×cE)) (s:aq) (σ:St) (H:Hp) (E:ao->aq->Prop),Inv X pins σ H s->(∀b∈fp,MC X pins H b)->tn i s.heap->J.go i H ->
   wpAny (model P w) X.A (pyNext (.ref it)) (λr s1=>∃u,r=al u /\
     wpAny (model P w) X.A (letOwnedTupleGo tg (.ref it) u) (λ_ s2=>∃x H',Inv X pins σ H' s2/\RelV x u/\J.yld i H x H'/\tn (i+1) s2.heap/\∀b∈fp,H' b=am) E s1) E s
 done:∀(X:Cx),X.prog=P->X.w=w->X.K=K->X.calm=ap->∀(i:Nat) (pins:List (Addr×cE)) (s:aq) (σ:St) (H:Hp) (E:ao->aq->Prop),Inv X pins σ H s->(∀b∈fp,MC X pins H b)->tn i s.heap->J.stop i H ->
   wpAny (model P w) X.A (pyNext (.ref it)) (λr s1=>r=am/\Inv X pins σ H s1) E s
 self:∀(A:ca) (i:Nat) (s:aq) (Q:ao->aq->Prop) (E:ao->aq->Prop),tn i s.heap->Q (.ref it) s->wpAny (model P w) A (pyIter (.ref it)) Q E s
abbrev TI:=St->Hp->(It->Hp->Prop)->Prop
def PIE (X:Cx) (pins:List (Addr×cE)) (n:St) (r:bp) (R:It->Hp->Prop) (t:ao) (v:aq):Prop:=∃(L:Addr) (e:List Addr) (Z:Nat->cr->Prop) (J:It) (H':Hp),t = .ref L/\Inv X pins n H' v/\Turn X.prog X.w X.K r J e L Z/\Z 0 v.heap/\(∀b∈e,MC X pins H' b)/\R J H'
def PI (X:Cx) (r iter:bp) (n:TI):Prop:=∀(pins:List (Addr×cE)) (s:aq) (e:St) (H:Hp) (R:It->Hp->Prop),Inv X pins e H s->n e H R ->
   wpAny (model X.prog X.w) X.A (eval iter X.env) (λv t=>wpAny (model X.prog X.w) X.A (pyIter v) (PIE X pins e r R) X.xe t) X.xe s
theorem dI (ho:s.heap.get? it=al o) (hc:o.cls = .type n) (hd:o.data = .fields vs) (hn:["enumerate","zip","dict_itemiterator","dict_reverseitemiterator","odict_iterator","itertools.zip_longest","itertools.pairwise"].contains n=aw) (T:Q () s):wpAny M A (letOwnedTupleGo r (.ref it) u) Q E s:=by
 unfold letOwnedTupleGo;cases r <;> first
   | exact zY T
   | (cases u <;> first
       | exact zY T
       | (refine zZ (wpAny_load ho ?_)
          rw[hc,hd];show wpAny M A (if (["enumerate","zip","dict_itemiterator","dict_reverseitemiterator","odict_iterator","itertools.zip_longest","itertools.pairwise"].contains n&&vs[0]?==al (dk _))=ap then _ else _) Q E s;rw[if_neg (by intro h;rw[hn,Bool.false_and] at h;cases h)];exact zY T))
def Itl (K:Frg) (a:Addr):It:=#[λi H=>∃t x,SqL K H a t/\t[i]?=al x,λi H x H'=>H'=H/\∀t,SqL K H a t->t[i]?=al x,λi H=>∃t,SqL K H a t/\t.length<=i]
def Itt (K:Frg) (a:Addr):It:=#[λi H=>∃t x,SqT K H a t/\t[i]?=al x,λi H x H'=>H'=H/\∀t,SqT K H a t->t[i]?=al x,λi H=>∃t,SqT K H a t/\t.length<=i]
def Itr (e:Int) (n:Nat):It:=#[λi _=>i < n,λi H x H'=>H'=H/\x = .int (e+i),λi _=>n<=i]
theorem gS {P:bn}{w:bj}{K:Frg}{tg:bp}(a it:Addr):Turn P w K tg (Itl K a) [it] it (λi h=>h.IsListIter it a i) where
 mem:=by simp
 obj:=λi h st b hb=>by
   have e:b=it:=by simpa using hb
   subst e;obtain⟨o,e,c,d⟩:=st;exact⟨o,e,λv z=>by rw[d] at z;cases z⟩
 keep:=λi h h' st k=>st.at λo e=>k it (by simp) o e
 item:=by intro X hP hw hK hc i pins s σ H E I hf st hg;subst hP hw hK;obtain⟨xs,x,hq,hx⟩:=hg;obtain⟨aa,rv,p,hz⟩:=I.list hq;obtain⟨u,hu,ru⟩:=rv.get hx;obtain⟨f0,f1,f2,f3,f4,f5⟩:=hf it (by simp);refine wpAny_pyNext_list_item st p.isList (x:=u) (by simpa using hu) λh' ii sb=>?_;have I1:Inv X pins σ H { s with heap:=h' }:=I.turned (t':=s.toks) (λb o hb e=>(sb.2 b hb).trans e) f0 f1 f3 f4 f5;obtain⟨o,e,c,d⟩:=id ii;exact#[u,rfl,dI (s:={ s with heap:=h' }) e c d (by decide) #[x,H,I1,ru,#[rfl,λys hy=>by rw[I.list_inj hy hq];exact hx],ii,λb hb=>(hf b hb).1]]
 done:=by intro X hP hw hK hc i pins s σ H E I hf st hg;subst hP hw hK;obtain⟨xs,hq,hx⟩:=hg;obtain⟨aa,rv,p,hz⟩:=I.list hq;obtain⟨f0,f1,f2,f3,f4,f5⟩:=hf it (by simp);have hl:=rv.length;exact wpAny_pyNext_list_end (I.ok.hd hc) st p.isList (by simp;lia) λh' eb=>#[rfl,I.turned (t':=s.toks) (λb o hb e=>eb b o hb e) f0 f1 f3 f4 f5]
 self:=λ_ _ _ _ _ st h=>wpAny_pyIter_listiter st h
theorem aO {P:bn}{w:bj}{K:Frg}{tg:bp}(a it:Addr):Turn P w K tg (Itt K a) [it] it (λi h=>h.IsTupleIter it a i) where
 mem:=by simp
 obj:=λi h st b hb=>by
   have e:b=it:=by simpa using hb
   subst e;obtain⟨o,e,c,d⟩:=st;exact⟨o,e,λv z=>by rw[d] at z;cases z⟩
 keep:=λi h h' st k=>st.at λo e=>k it (by simp) o e
 item:=by intro X hP hw hK hc i pins s σ H E I hf st hg;subst hP hw hK;obtain⟨xs,x,hq,hx⟩:=hg;obtain⟨aa,rv,p,hz⟩:=I.tuple hq;obtain⟨u,hu,ru⟩:=rv.get hx;obtain⟨f0,f1,f2,f3,f4,f5⟩:=hf it (by simp);refine wpAny_pyNext_tuple_item st (show s.heap.IsTuple a aa.toArray from p) (x:=u) (by simpa using hu) λh' ii sb=>?_;have I1:Inv X pins σ H { s with heap:=h' }:=I.turned (t':=s.toks) (λb o hb e=>(sb.2 b hb).trans e) f0 f1 f3 f4 f5;obtain⟨o,e,c,d⟩:=id ii;exact#[u,rfl,dI (s:={ s with heap:=h' }) e c d (by decide) #[x,H,I1,ru,#[rfl,λys hy=>by rw[I.tuple_inj hy hq];exact hx],ii,λb hb=>(hf b hb).1]]
 done:=by intro X hP hw hK hc i pins s σ H E I hf st hg;subst hP hw hK;obtain⟨xs,hq,hx⟩:=hg;obtain⟨aa,rv,p,hz⟩:=I.tuple hq;obtain⟨f0,f1,f2,f3,f4,f5⟩:=hf it (by simp);have hl:=rv.length;exact wpAny_pyNext_tuple_end (I.ok.hd hc) st (show s.heap.IsTuple a aa.toArray from p) (by simp;lia) λh' eb=>#[rfl,I.turned (t':=s.toks) (λb o hb e=>eb b o hb e) f0 f1 f3 f4 f5]
 self:=λ_ _ _ _ _ st h=>wpAny_pyIter_tupleiter st h
theorem aP {P:bn}{w:bj}{K:Frg}{tg:bp}(it:Addr) (lo:Int) (n:Nat):Turn P w K tg (Itr lo n) [it] it (λi h=>IsRangeIter h it (lo+(i:Nat)*1) ((n:Int) - (i:Nat)) 1) where
 mem:=by simp
 obj:=λi h st b hb=>by
   have e:b=it:=by simpa using hb
   subst e;exact⟨_,st,λv z=>by have z':Data.fields _=Data.cell v:=z;cases z'⟩
 keep:=λi h h' st k=>k it (by simp) _ st
 item:=by intro X hP hw hK hc i pins s σ H E I hf st hg;subst hP hw hK;obtain⟨f0,f1,f2,f3,f4,f5⟩:=hf it (by simp);have W:=Walks.range (prog:=X.prog) (w:=X.w) (I.ok.hd hc) it lo 1 n;refine W.item i s _ _ hg st λv h' tk hv ii kk=>?_;obtain⟨t,rfl⟩:=hv;have I1:Inv X pins σ H { s with heap:=h',toks:=tk }:=I.turned (λb o hb e=>kk b o (by simpa using hb) e) f0 f1 f3 f4 f5;refine#[_,rfl,dI (s:={ s with heap:=h',toks:=tk }) (n:= "range_iterator") ii rfl rfl (by decide) #[.int (lo+i),H,I1,#[t,?_],#[rfl,rfl],ii,λb hb=>(hf b hb).1]];rw[Int.mul_one]
 done:=by intro X hP hw hK hc i pins s σ H E I hf st hg;subst hP hw hK;obtain⟨f0,f1,f2,f3,f4,f5⟩:=hf it (by simp);exact wpAny_pyNext_range_end (I.ok.hd hc) st (by have:n<=i:=hg;lia) λh' eb=>#[rfl,I.turned (t':=s.toks) (λb o hb e=>eb b o hb e) f0 f1 f3 f4 f5]
 self:=λ_ _ _ _ _ st h=>wpAny_pyIter_rangeiter st h
section
variable {X:Cx}{tg:bp}
theorem lJ {i:St}(I:Inv X pins i H s) (h1 : -(2 ^ 62)<=n) (r:n < 2 ^ 62) (J : -(2 ^ 62)<=hi) (m:hi < 2 ^ 62) (q:R (Itr n (hi - n).toNat) H):wpAny (model X.prog X.w) X.A (pyIter (.ref s.heap.objs.size)) (PIE X pins i tg R) E { s with heap:=s.heap.push { cls:=.type "range", data:=.fields (y9 [.int n t,.int hi u,.int 1 v]) },toks:=tk }:=by
 refine wpAny_pyIter_range (IsRange.new ..) (small_one h1 r J m) ?_;have G:Inv X pins i H { s with heap:=s.heap.push { cls:=.type "range", data:=.fields (y9 [.int n t,.int hi u,.int 1 v]) },toks:=tk }:=I.kept λb o e=>zW _ e;refine#[(s.heap.push { cls:=.type "range", data:=.fields (y9 [.int n t,.int hi u,.int 1 v]) }).objs.size,[(s.heap.push { cls:=.type "range", data:=.fields (y9 [.int n t,.int hi u,.int 1 v]) }).objs.size],_,_,H,rfl,
   G.kept (t':=tk) λb o e=>zW _ e,aP _ n (hi - n).toNat,?_,λb hb=>?_,q]
 . have h:n+((0:Nat):Int)*1=n:=by simp
   have j:(((hi - n).toNat:Nat):Int) - ((0:Nat):Int)=Builtin.Range.rangeSize n hi 1:=by rw[rangeSize_one];split <;> lia
   show IsRangeIter _ _ (n+((0:Nat):Int)*1) ((((hi - n).toNat:Nat):Int) - ((0:Nat):Int)) 1;rw[h,j];exact yZ _ rfl
 . have e:b=(s.heap.push { cls:=.type "range", data:=.fields (y9 [.int n t,.int hi u,.int 1 v]) }).objs.size:=by simpa using hb
   subst e;exact G.fpOk (zR _) (G.hok.fresh (zR _))
def A0H (e:TA):TI:=λn H R=>e n H λt m=>∃j:Int,t=[.int j]/\-(2 ^ 62)<=j/\j < 2 ^ 62/\R (Itr 0 j.toNat) m
theorem gT {a:bp}{n:TA}{p pos:ew}(hg:Gl X "range") (x:X.mg "range"=am) (g:PA X [a] n) (hs:starEach [a] X.env=[(aw,eval a X.env)]:=by rfl):PI X tg (.Call (.Name "range" p) [a] [] pos) (A0H n):=by
 intro pins s b H R I h;refine Call_ (IX I hg x boot_range (xH (thn (g pos pins s b H _ I h) λk f #[u,c,G,i,T]=>?_) hs rfl));obtain⟨j,e,T,B,q⟩:=T;subst e;cases i with
 | cons r m=> cases m;obtain⟨t,rfl⟩:=r;exact call_range_1 (lJ G (by lia) (by lia) T B (by simpa using q))
def A0y (c:TI) (g:TG) (p:TS):TS:=λD e H=>c e H λJ r=>∃W:Nat->Nat->St->Hp->Prop,(∃m,W 0 m e r)/\∀i m e H,W i m e H ->(J.stop i H/\D.nx e H)\/(J.go i H/\∃N:St->Hp->Prop,(∀b H',N b H'->∃n,n < m/\W (i+1) n b H')/\∀x H',J.yld i H x H'->g x e H' λt f=>p { D with nx:=N,ct:=N,bk:=D.nx } t f)
def Q2 (e:List Addr) (h:cr):List (Addr×cE):=e.filterMap λb=>(h.get? b).map λo=>(b,o)
theorem E1 (hb:b∈t) (e:h.get? b=al o):(b,o)∈Q2 t h:=List.mem_filterMap.mpr #[b,hb,by rw[e];rfl]
theorem gU (hp:p∈Q2 t h):p.1∈t/\h.get? p.1=al p.2:=by
 obtain⟨b,hb,e⟩:=List.mem_filterMap.mp hp;cases q:h.get? b with
 | none=>rw[q] at e;cases e
 | some o=> rw[q] at e;have e':(b,o)=p:=Option.some.inj e;subst e';exact#[hb,q]
theorem Inv.pinned {n:St}(I:Inv X pins n H s) (M:∀b∈t,MC X pins H b) (ho:∀b∈t,∃o,s.heap.get? b=al o/\∀v,o.data≠.cell v):Inv X (pins++Q2 t s.heap) n H s:=
 I.pins_of λp hp=>(yW.mp hp).elim (λz=>I.pin p (zB _ z)) λz=>by obtain⟨hb,e⟩:=gU z;obtain⟨i,r,Q,_⟩:=M p.1 hb;obtain⟨o,e',d⟩:=ho p.1 hb;rw[e] at e';cases e';exact#[e,i,r,Q,d]
theorem Inv.unpinned {e:St}(I:Inv X (pins++pl) e H s):Inv X pins e H s:=I.pins_of λp hp=>I.pin p (zB _ (zA _ hp))
theorem lK {iter:bp}{body:List eu}{wi:TI}{g:TG}{tb:TS}{pos:ew}(hp:PassesOwn (model X.prog X.w) X.A X.env X.xe) (hc:X.calm=ap) (hi:PI X tg iter wi) (hg:PG X tg g) (hb:PSs X body tb) (hs:∀x,ce iter X.env x=pure x:=by intro _;rfl):PS X (.For tg iter body [] pos) (A0y wi g tb):=by
 intro pins s σ H D I h;refine wpAny_For (thn (hi pins s σ H _ I h) λv s1 h1=>thn h1 λCe s2 h2=>?_) hs;obtain⟨it,c,tn,J,H2,e,I2,T,f_,Q,W,⟨m0,w0⟩,turn⟩:=h2;subst e;have stat:∀{H':Hp},(∀b∈c,H' b=am)->∀b∈c,MC X pins H' b:=λhn b hb=>#[hn b hb,(Q b hb).2]
 refine codeAny_forLoop_any (λn s'=>∃i p H',Inv X pins p H' s'/\tn i s'.heap/\(∀b∈c,H' b=am)/\W i n p H') ?_ m0 #[0,σ,H2,I2,f_,λb hb=>(Q b hb).1,w0];rintro n Y ⟨i,U,q,G,L,z_,w3⟩;rcases turn i n U q w3 with ⟨stop,qn⟩ | ⟨go,N,hN,step⟩
 . refine ed hp (thn (T.done X rfl rfl rfl hc i pins Y U q X.xe G (stat z_) L stop) λr s4 #[hr,I4]=>?_);subst hr;exact eN #[U,q,I4,qn]
 . refine ed hp (thn (T.item X rfl rfl rfl hc i pins Y U q X.xe G (stat z_) L go) λr s4 #[u,hr,h4]=>?_);subst hr;refine ed hp (thn h4 λ_ Z #[x,M,I5,r5,y5,y,yz]=>?_);have Dl:=I5.pinned (stat yz) (T.obj _ _ y);refine ed hp (thn (hg _ Z U M x u _ Dl r5 (step x M y5)) λ_ s6 #[S,H6,I6,q6]=>?_);refine ed hp (thn (hb _ s6 S H6 _ I6 q6) λf z j=>?_);have again:∀{t:St}{O:Hp},Inv X (pins++Q2 c Z.heap) t O z->N t O->∃m,m < n/\∃i p H',Inv X pins p H' z/\tn i z.heap/\(∀b∈c,H' b=am)/\W i m p H':=λ{t O} B k=>by obtain⟨m',hm,w7⟩:=hN t O k;refine#[m',hm,i+1,t,O,B.unpinned,T.keep _ _ _ y λb hb o e=>(B.pin (b,o) (zB _ (zB _ (E1 hb e)))).1,λb hb=>?_,w7];obtain⟨o,e,d⟩:=T.obj _ _ y b hb;exact(B.pin (b,o) (zB _ (zB _ (E1 hb e)))).2.1
   cases f with
   | next=>obtain⟨t,O,B,k⟩:=j;exact again B k
   | cont=>obtain⟨t,O,B,k⟩:=j;exact again B k
   | brk=>obtain⟨t,O,B,j⟩:=j;exact#[t,O,B.unpinned,j]
   | ret v=>obtain⟨x7,t,O,B,r7,j⟩:=j;exact#[x7,t,O,B.unpinned,r7,j]
end
abbrev R2:=V->V->Hp->VK->Prop
def OpR (X:Cx) (f:ao->ao->Sem ao) (r:R2):Prop:=∀(pins:List (Addr×cE)) (s:aq) (e:St) (H:Hp) (x y:V) (v u:ao) (Q:VK),Inv X pins e H s->RelV x v->RelV y u->r x y H Q ->
   wpAny (model X.prog X.w) X.A (f v u) (EP X pins e Q) X.xe s
def UnR (X:Cx) (f:ao->Sem ao) (r:V->Hp->VK->Prop):Prop:=∀(pins:List (Addr×cE)) (s:aq) (e:St) (H:Hp) (x:V) (v:ao) (Q:VK),Inv X pins e H s->RelV x v->r x H Q ->
   wpAny (model X.prog X.w) X.A (f v) (EP X pins e Q) X.xe s
def CN (X:Cx) (f:ao) (r:List V->Hp->VK->Prop):Prop:=∀(pins:List (Addr×cE)) (s:aq) (n:St) (H:Hp) (t:List V) (e:List ao) (Q:VK),Inv X pins n H s->Vals t e->r t H Q ->
   wpAny (model X.prog X.w) X.A (call f e) (EP X pins n Q) X.xe s
def tOp (r:R2) (j t:TE):TE:=λe H Q=>j e H λx m=>t e m λy f=>r x y f Q
def tUn (r:V->Hp->VK->Prop) (j:TE):TE:=λe H Q=>j e H λx m=>r x m Q
def rI (C:Int->Int->Prop) (g:Int->Int->V):R2:=λx y H Q=>∃i j,x = .int i/\y = .int j/\C i j/\Q (g i j) H
def rI0 (g:Int->Int->V):R2:=λx y H Q=>∃i j,x = .int i/\y = .int j/\Q (g i j) H
def rU (g:Int->V):V->Hp->VK->Prop:=λx H Q=>∃i,x = .int i/\Q (g i) H
section
variable {X:Cx}{a b c:bp}{ta tb tc:TE}{pos:ew}
theorem A0z (g:PE X a ta) (hb:PE X b tb) {pins:List (Addr×cE)}{s:aq}{t:St}{H:Hp}{R:V->V->Hp->Prop}(I:Inv X pins t H s) (h:ta t H λx m=>tb t m λy e=>R x y e) {Q:ao->aq->Prop}{f:ao->ao->Sem ao} (M:∀v u n x y e,Inv X pins t e n->RelV x v->RelV y u->R x y e->wpAny (model X.prog X.w) X.A (f v u) Q X.xe n) :
   wpAny (model X.prog X.w) X.A (eval a X.env) (λv z=>wpAny (model X.prog X.w) X.A (eval b X.env) (λu G=>wpAny (model X.prog X.w) X.A (f v u) Q X.xe G) X.xe z) X.xe s:=by refine thn (g pins s t H _ I h) λv j #[x,m,i,q,T]=>?_;refine thn (hb pins j t m _ i T) λu n #[y,e,r,p,B]=>?_;exact M v u n x y e r q p B
theorem KO {e:Operator}{r:R2}(ho:OpR X (ee e) r) (g:PE X a ta) (hb:PE X b tb):PE X (.BinOp a e b pos) (tOp r ta tb):=by intro pins s i H Q I h;exact wpAny_BinOp (A0z g hb I h λv u n x y f m t Z q=>ho pins n i f x y v u Q m t Z q)
theorem A3F {e:UnaryOp}{r:V->Hp->VK->Prop}(ho:UnR X (unaryOp e) r) (g:PE X a ta):PE X (.UnaryOp e a pos) (tUn r ta):=by intro pins s t H Q I h;exact UnaryOp_ (thn (g pins s t H _ I h) λv n #[x,m,G,q,T]=>ho pins n t m x v Q G q T)
theorem opI {g:Int->Int->Int} (rule:∀(i j:Int) (t u:Tok) (s:aq) (Q:ao->aq->Prop) (E:ao->aq->Prop),C i j->Q (.int (g i j) s.toks) { s with toks:=s.toks+1 }->wpAny (model X.prog X.w) X.A (f (.int i t) (.int j u)) Q E s) :
   OpR X f (rI C λi j=>.int (g i j)):=by intro pins s n H x y v u Q I e Z h;obtain⟨i,j,rfl,rfl,hc,q⟩:=h;obtain⟨t,rfl⟩:=e;obtain⟨Y,rfl⟩:=Z;exact rule i j t Y s _ _ hc #[.int (g i j),H,I.tok _,#[_,rfl],q]
theorem A3G {g:Int->Int->Int} (rule:∀(i j:Int) (t u:Tok) (s:aq) (Q:ao->aq->Prop) (E:ao->aq->Prop),Q (.int (g i j) s.toks) { s with toks:=s.toks+1 }->wpAny (model X.prog X.w) X.A (f (.int i t) (.int j u)) Q E s) :
   OpR X f (rI0 λi j=>.int (g i j)):=by intro pins s n H x y v u Q I e Z h;obtain⟨i,j,rfl,rfl,q⟩:=h;obtain⟨t,rfl⟩:=e;obtain⟨Y,rfl⟩:=Z;exact rule i j t Y s _ _ #[.int (g i j),H,I.tok _,#[_,rfl],q]
theorem tH {g:Int->Int->Bool} (rule:∀(i j:Int) (t u:Tok) (s:aq) (Q:ao->aq->Prop) (E:ao->aq->Prop),Q (.bool (g i j)) s->wpAny (model X.prog X.w) X.A (f (.int i t) (.int j u)) Q E s) :
   OpR X f (rI0 λi j=>.bl (g i j)):=by intro pins s n H x y v u Q I e Z h;obtain⟨i,j,rfl,rfl,q⟩:=h;obtain⟨t,rfl⟩:=e;obtain⟨Y,rfl⟩:=Z;exact rule i j t Y s _ _ #[.bl (g i j),H,I,rfl,q]
def A00 (i j:Int):Prop:=0<=j/\j<=1000000/\i.natAbs < 2 ^ 64
def CMul (i j:Int):Prop:=(-(2 ^ 64) < i/\i < 2 ^ 64)\/(-(2 ^ 64) < j/\j < 2 ^ 64)
theorem CMul.ok (h:CMul i j):IntMulOk i j:=by
 rcases h with ⟨h1,e⟩ | ⟨h1,e⟩
 . exact .of_left (intBits_le_64 h1 e)
 . exact .of_right (intBits_le_64 h1 e)
theorem A01:OpR X (ee .Add) (rI0 λi j=>.int (i+j)):=A3G λ_ _ _ _ _ _ _ q=>add_int q
theorem A02:OpR X (ee .Sub) (rI0 λi j=>.int (i - j)):=A3G λ_ _ _ _ _ _ _ q=>sub_int q
theorem A03:OpR X (ee .Mod) (rI (λ_ j=>0 < j) λi j=>.int (i % j)):=opI λi j _ _ _ _ _ hc q=>by have h1:(0:Int) < j:=hc;exact mod_int' (by lia) (by rw[Int.fmod_eq_emod_of_nonneg i (by lia)];exact q)
theorem A04:OpR X (ee .Pow) (rI A00 λi j=>.int (i ^ j.toNat)):=opI λ_ _ _ _ _ _ _ hc q=>pow_int_small hc.1 hc.2.1 hc.2.2 q
theorem A05:OpR X (ee .LShift) (rI A00 λi j=>.int (i*2 ^ j.toNat)):=opI λ_ _ _ _ _ _ _ hc q=>lshift_int_small hc.1 hc.2.1 hc.2.2 q
theorem unI {g:Int->Int} (rule:∀(i:Int) (t:Tok) (s:aq) (Q:ao->aq->Prop) (E:ao->aq->Prop),Q (.int (g i) s.toks) { s with toks:=s.toks+1 }->wpAny (model X.prog X.w) X.A (f (.int i t)) Q E s) :
   UnR X f (rU λi=>.int (g i)):=by intro pins s n H x v Q I e h;obtain⟨i,rfl,q⟩:=h;obtain⟨t,rfl⟩:=e;exact rule i t s _ _ #[.int (g i),H,I.tok _,#[_,rfl],q]
theorem A06:UnR X (unaryOp .USub) (rU λi=>.int (-i)):=unI λ_ _ _ _ _ q=>neg_int q
theorem Q3 {n:St}(I:Inv X pins n H s) (q:Q (.bl k) H) (e:k=t):EP X pins n Q (.bool t) s:=by subst e;exact#[.bl k,H,I,rfl,q]
theorem A3H:OpR X (bq .Lt) (rI0 λi j=>.bl (decide (i < j))):=tH λ_ _ _ _ _ _ _ q=>lt_int q
theorem dJ:OpR X (bq .LtE) (rI0 λi j=>.bl (decide (i<=j))):=tH λ_ _ _ _ _ _ _ q=>le_int q
theorem A0I:OpR X (bq .Gt) (rI0 λi j=>.bl (decide (j < i))):=tH λ_ _ _ _ _ _ _ q=>gt_int q
theorem A0J:OpR X (bq .GtE) (rI0 λi j=>.bl (decide (j<=i))):=tH λ_ _ _ _ _ _ _ q=>ge_int q
theorem gV:OpR X (bq .Lt) (λx y H Q=>∃i j,x = .str i/\y = .str j/\Q (.bl (decide (i.cps.toList < j.cps.toList))) H):=by intro pins s n H x y v u Q I e Z h;obtain⟨i,j,rfl,rfl,q⟩:=h;obtain⟨t,rfl⟩:=e;obtain⟨Y,rfl⟩:=Z;exact lt_str (Q3 I q rfl)
theorem gW:OpR X (bq .In) (λx y H Q=>∃i j,x = .str i/\y = .str j/\Q (.bl (!(a4Q j i 0 j.length 1).isEmpty)) H):=by intro pins s n H x y v u Q I e Z h;obtain⟨i,j,rfl,rfl,q⟩:=h;obtain⟨t,rfl⟩:=e;obtain⟨Y,rfl⟩:=Z;exact in_str (Q3 I q rfl)
theorem A07:OpR X (bq .Is) (λx y H Q=>y = .non/\Q (.bl (decide (x = .non))) H):=by
 intro pins s n H x y v u Q I e Z h;obtain⟨rfl,q⟩:=h;cases Z;refine is_none_gen (Q3 I q ?_);cases x <;> first
   | (cases e;rfl)
   | (obtain⟨t,rfl⟩:=e;rfl)
theorem tI:OpR X (bq .IsNot) (λx y H Q=>y = .non/\Q (.bl (!decide (x = .non))) H):=by
 intro pins s n H x y v u Q I e Z h;obtain⟨rfl,q⟩:=h;cases Z;refine isnot_none_gen (Q3 I q ?_);cases x <;> first
   | (cases e;rfl)
   | (obtain⟨t,rfl⟩:=e;rfl)
theorem UV:OpR X (bq .NotIn) (λx y H Q=>∃i j,x = .str i/\y = .str j/\Q (.bl (!(!(a4Q j i 0 j.length 1).isEmpty))) H):=by intro pins s n H x y v u Q I e Z h;obtain⟨i,j,rfl,rfl,q⟩:=h;obtain⟨t,rfl⟩:=e;obtain⟨Y,rfl⟩:=Z;exact notIn_str (Q3 I q rfl)
theorem OpR.or (h:OpR X f r) (h':OpR X f L):OpR X f (λx y H Q=>r x y H Q\/L x y H Q):=by
 intro pins s t H x y v u Q I e Z q;rcases q with q | q;. exact h pins s t H x y v u Q I e Z q
 . exact h' pins s t H x y v u Q I e Z q
theorem D0 (b:bp) {e:CmpOp}(h:e≠.In:=by decide) (n:e≠.NotIn:=by decide):fy e b=false:=by
 have t:(e==CmpOp.In)=false:=by cases e <;> first | rfl | exact absurd rfl h
 have j:(e==CmpOp.NotIn)=false:=by cases e <;> first | rfl | exact absurd rfl n
 cases b <;> simp[fy,t,j]
theorem G2 {e:CmpOp}{r:R2}(ho:OpR X (bq e) r) (g:PE X a ta) (hb:PE X b tb) (t:fy e b=aw):PE X (.Compare a [e] [b] pos) (tOp r ta tb):=by intro pins s p H Q I h;exact wpAny_Compare1 (A0z g hb I h λv u i x y f m n Z q=>ho pins i p f x y v u Q m n Z q) t
def lL (t:TE):TT:=λe H Q=>t e H λx H'=>∃k,x = .bl k/\Q k H'
theorem CV {t:CmpOp}{r:R2}(ho:OpR X (bq t) r) (g:PE X a ta) (hb:PE X b tb) (j:fy t b=aw):PT X (.Compare a [t] [b] pos) (lL (tOp r ta tb)):=by
 intro pins s n H Q I h;refine wpAny_isTrue_Compare1 (thn (g pins s n H _ I h) λv S #[x,m,G,O,T]=>thn (hb pins S n m _ G T) λu D #[y,f,p,M,B]=>
   thn (ho pins D n f x y v u _ p O M B) λc L #[z,i,N,J,k,e,q]=>?_) j;subst e;cases J;exact cx #[i,N,q]
def aQ (r L:R2) (ta tb tc:TE):TE:=λe H Q=>ta e H λx m=>tb e m λy f=>r x y f λz i=>∃k,z = .bl k /\(if k=ap then tc e i λn t=>L y n t Q else Q (.bl aw) i)
theorem lM {n i:CmpOp}{r L:R2}(ho:OpR X (bq n) r) (T:OpR X (bq i) L) (O:PE X a ta) (hb:PE X b tb) (hc:PE X c tc) (S:lastMarks [n,i] [b,c]=false:=by with_unfolding_all rfl):PE X (.Compare a [n,i] [b,c] pos) (aQ r L ta tb tc):=by
 intro pins s t H Q I h;refine Compare_chain (thn (O pins s t H _ I h) λv s1 #[x,p,G,Y,D]=>chain_link (thn (hb pins s1 t p _ G D) λu s2 #[y,f,j,M,J]=>
   thn (ho pins s2 t f x y v u _ j Y M J) λd s3 #[z,m,N,Z,k,e,B]=>?_)) S;subst e;cases Z;refine cx ?_;cases k with
 | false=>exact ite_ff #[.bl aw,m,N,rfl,B]
 | true=>exact ite_tt (chain_last (thn (hc pins s3 t m _ N B) λw' s4 #[z',g,q,r4,U]=>T pins s4 t g y z' u w' Q q M r4 U))
theorem lN {n i:CmpOp}{r L:R2}(ho:OpR X (bq n) r) (S:OpR X (bq i) L) (D:PE X a ta) (hb:PE X b tb) (hc:PE X c tc) (U:lastMarks [n,i] [b,c]=false:=by with_unfolding_all rfl):PT X (.Compare a [n,i] [b,c] pos) (lL (aQ r L ta tb tc)):=by
 intro pins s t H Q I h;refine isTrue_chain (thn (D pins s t H _ I h) λv s1 #[x,p,G,r1,Z]=>test_link (thn (hb pins s1 t p _ G Z) λu s2 #[y,f,j,M,q2]=>
   thn (ho pins s2 t f x y v u _ j r1 M q2) λd s3 #[z,m,N,r3,k,e,B]=>?_)) U;subst e;cases r3;refine cx ?_;cases k with
 | false=> obtain⟨k',e',Y⟩:=B;cases e';exact ite_ff #[m,N,Y]
 | true=> refine ite_tt (test_last (thn (hc pins s3 t m _ N B) λw' s4 #[z',g,q,r4,q4]=>thn (S pins s4 t g y z' u w' _ q M r4 q4) λd' s5 #[z2,J,T,r5,k2,O,q5]=>?_));subst O;cases r5;exact cx #[J,T,q5]
theorem UW:(aB:Nat) < 2 ^ 63:=by rw[c0];decide
theorem aR:OpR X (ee .Add) (λx y H Q=>∃i j,x = .str i/\y = .str j/\i.length+j.length<=aB/\Q (.str (i++j)) H):=by intro pins s m H x y v u Q I n Z h;obtain⟨i,j,rfl,rfl,e,q⟩:=h;obtain⟨t,rfl⟩:=n;obtain⟨Y,rfl⟩:=Z;exact add_str (λY r=>#[.str (i++j),H,I.tok _,#[_,rfl],q]) e
theorem GM (r:Vals [x] e):∃u,e=[u]/\RelV x u:=by
 cases r with
 | cons q M=>cases M;exact#[_,rfl,q]
theorem A3I (r:Vals [x,y] e):∃u f,e=[u,f]/\RelV x u/\RelV y f:=by
 cases r with
 | cons q M=>
   cases M with
   | cons J h=>cases h;exact#[_,_,rfl,q,J]
def lO (K:Frg) (x:V) (H:Hp) (n:Nat):Prop:=
 match x with
 | .str y=>y.length<=aB/\n=y.length
 | .byt y=>y.size<=aB/\n=y.size
 | .ref p=>(∃t,SqL K H p t/\n=t.length)\/∃t,SqT K H p t/\n=t.length
 | _=>False
theorem lP:CN X (.builtin "len") (λxs H Q=>∃x n,xs=[x]/\lO X.K x H n/\Q (.int n) H):=by
 intro pins s z H xs v Q I r h;obtain⟨x,n,rfl,e,q⟩:=h;obtain⟨u,rfl,m⟩:=GM r;have j:=UW;have hs:aB=16777216:=c0;cases x with
 | str y=> obtain⟨t,rfl⟩:=m;obtain⟨hy,e'⟩:y.length<=aB/\n=y.length:=e;subst e';exact len_str (by lia) #[.int _,H,I.tok _,#[_,rfl],q]
 | byt y=> obtain⟨t,rfl⟩:=m;obtain⟨hy,e'⟩:y.size<=aB/\n=y.size:=e;subst e';exact PySem.W.len_bytes (by lia) #[.int _,H,I.tok _,#[_,rfl],q]
 | ref p=>
   cases m;have e':(∃xs,SqL X.K H p xs/\n=xs.length)\/∃xs,SqT X.K H p xs/\n=xs.length:=e;rcases e' with ⟨xs,hx,e'⟩ | ⟨xs,hx,e'⟩
   . subst e';obtain⟨f,L,i,g⟩:=I.list hx;have k:=L.length;exact Calls.call_len_list i.isList (by simp only[zJ];lia) #[.int xs.length,H,I.tok _,#[_,by simp only[zJ];rw[k]],q]
   . subst e';obtain⟨f,L,i,g⟩:=I.tuple hx;have k:=L.length;exact len_tuple i (by simp only[zJ];lia) #[.int xs.length,H,I.tok _,#[_,by simp only[zJ];rw[k]],q]
 | _=>exact(show False from e).elim
end
structure ObjM (h:cr) (x dx C:Addr) (mA:Str->Option ao):Prop where
 obj:h.get? x=al (PySem.W.instObj C dx)
 ns:h.Ns1 dx mA
 ne:dx≠x
theorem gX {h:cr}(n:h.Ns1 i v):∃p,h.get? i=al p/\∀name,PySem.W.lookIn name p=al (v name):=by
 obtain⟨o,I,m,ho,hd,hk,_,x⟩:=n;refine#[o,ho,λname=>?_];have e:=x name;unfold nsFind findBy at e;rw[<-Array.find?_toList] at e;unfold PySem.W.lookIn;rw[hd];dsimp only;split;. rename_i y q;rw[q] at e;exact congrArg al e
 . rename_i q;rw[q] at e;have a:I.toList.any (·.refKey)=false:=by rw[List.any_eq_false];intro y hy;obtain⟨z,t,r⟩:=hk y (Array.mem_toList_iff.mp hy);simp[DictEntry.refKey,r]
   have k:¬I.toList.any (·.refKey)=true:=by rw[a];exact nft
   rw[if_neg k];exact congrArg al e
theorem ObjM.look (I:ObjM h x e C v):∃p,PySem.W.InstAt h x (PySem.W.instObj C e) C (al p)/\∀name,PySem.W.lookIn name p=al (v name):=
 let #[p,ho,r]:=gX I.ns
 #[p,#[I.obj,rfl,rfl,ho],r]
theorem RelO.some_of (r:RelO (al v) o):∃u,o=al u/\RelV v u:=by
 cases o with
 | none=>exact(show False from r).elim
 | some u=>exact#[u,rfl,r]
section
theorem tJ (hok:HOk P w H h) (e:H a=al (.ins C dx fs)):∃v,ObjM h a dx C v/\(∀f,RelO (fs.lookup f) (v f))/\PySem.Within v (fs.map (·.1))/\fs.length<=1000/\H dx=al (.own a):=by
 obtain⟨d,z,t,u,v,n,r,q⟩:=(show ObjOk P w H h a (.ins C dx fs) from hok a _ e)
 exact#[v,#[u,n,t],r,q,z,d]
end
structure Cls (K:Frg) (C:Addr):Prop where
 pg:PySem.W.plainGet K C Str.empty=ap
 hd:PySem.W.hasDictIn K C=ap
 po:PySem.W.plainOver K C=ap
 sa:a8K K (.ref C) "__setattr__"=al (al (.builtin "object.__setattr__"))
theorem Cls.get {K:Frg}(c:Cls K C) (f:Str):PySem.W.plainGet K C f=true:=c.pg
section
variable {X:Cx}{pins:List (Addr×cE)}{σ:St}{H:Hp}{s:aq}{A:ca}{E:ao->aq->Prop}{Q:ao->aq->Prop}{c:ao}{b:Bool}
inductive TyOf (K:Frg) (H:Hp):V->ao->Prop where
 | non:TyOf K H .non (.type "NoneType")
 | bl (x:Bool):TyOf K H (.bl x) (.type "bool")
 | int (i:Int):TyOf K H (.int i) (.type "int")
 | str (x:Str):TyOf K H (.str x) (.type "str")
 | flt (x:UInt64):TyOf K H (.flt x) (.type "float")
 | lst {a:Addr}{xs:List V}(e:H a=al (.lst xs)):TyOf K H (.ref a) (.type "list")
 | frz {a:Addr}{o:cE}{xs:List V}(e:H a=al (.frz o (.lst xs))):TyOf K H (.ref a) (.type "list")
 | tup {a:Addr}{xs:List V}(e:H a=al (.tup xs)):TyOf K H (.ref a) (.type "tuple")
 | dK {a:Addr}{kvs:List (Key×V)}(e:H a=al (.dK kvs)):TyOf K H (.ref a) (.type "dict")
 | dT {a:Addr}{kvs:List (List Key×V)}(e:H a=al (.dT kvs)):TyOf K H (.ref a) (.type "dict")
 | ins {a C dx:Addr}{fs:List (Str×V)}(e:H a=al (.ins C dx fs)) (cl:Cls K C) (ha:a8K K (.ref C) "__class__"=al (al (.builtin "object.__class__"))) (hn:PySem.W.specialIn K (.builtin "object.__class__") "__get__"=al (al (.builtin "getset_descriptor.__get__"))) (htk:PySem.W.takesIn K (.builtin "object.__class__")=al ap) (hm:PySem.W.mroIn K C (.type "object")=al ap):TyOf K H (.ref a) (.ref C)
theorem GN (I:Inv X pins σ H s) (m:RelV x u) (ty:TyOf X.K H x t) (e:PySem.W.kitOne X.K t c=al b) (h:∀tk,Q (.bool b) { s with toks:=tk }) :
   wpAny (model X.prog X.w) A (call (.builtin "isinstance") [u,c]) Q E s:=by
 cases ty with
 | non=>cases (show u=a1X from m);exact a3J PySem.W.kitx_none I.kIn a8Z e (λz=>nomatch z) h
 | bl y=>cases (show u=Value.bool y from m);exact a3J PySem.W.kitx_bool I.kIn a8Z e (λz=>nomatch z) h
 | int i=>obtain⟨t,q⟩:=(show ∃t,u=Value.int i t from m);cases q;exact a3J PySem.W.kitx_int I.kIn a8Z e (λz=>nomatch z) h
 | str y=>obtain⟨t,q⟩:=(show ∃t,u=c0J y t from m);cases q;exact a3J PySem.W.kitx_str I.kIn a8Z e (λz=>nomatch z) h
 | flt y=>obtain⟨t,q⟩:=(show ∃t,u=Value.float y t from m);cases q;exact a3J PySem.W.kitx_float I.kIn a8Z e (λz=>nomatch z) h
 | @lst a f r=>
   cases (show u=a0X a from m);obtain⟨_,_,n,_,h1⟩:=(show ObjOk X.prog X.w H s.heap a (.lst f) from I.hok a _ r)
   exact a3J PySem.W.kitx_list I.kIn #[_,h1,rfl] e (λz=>nomatch z) h
 | @frz a S f r=>
   cases (show u=a0X a from m);obtain⟨_,_,_,n,_,h1⟩:=(show ObjOk X.prog X.w H s.heap a (.frz S (.lst f)) from I.hok a _ r)
   exact a3J PySem.W.kitx_list I.kIn #[_,h1,rfl] e (λz=>nomatch z) h
 | @tup a f r=>
   cases (show u=a0X a from m);obtain⟨_,_,_,p⟩:=(show ObjOk X.prog X.w H s.heap a (.tup f) from I.hok a _ r)
   obtain⟨o,h1,g,_⟩:=p;exact a3J PySem.W.kitx_tuple I.kIn #[o,h1,g] e (λz=>nomatch z) h
 | @dK a kvs r=>
   cases (show u=a0X a from m);obtain⟨_,_,G,_,p⟩:=(show ObjOk X.prog X.w H s.heap a (.dK kvs) from I.hok a _ r)
   obtain⟨o,v,k,h1,g,_⟩:=p;exact a3J PySem.W.kitx_dict I.kIn #[o,h1,g.1] e (λz=>nomatch z) h
 | @dT a kvs r=>
   cases (show u=a0X a from m);obtain⟨_,_,f,_,o,v,k,h1,g,_⟩:=(show ObjOk X.prog X.w H s.heap a (.dT kvs) from I.hok a _ r)
   exact a3J PySem.W.kitx_dict I.kIn #[o,h1,g.1] e (λz=>nomatch z) h
 | @ins a C M fs r j T hn htk N=> cases (show u=a0X a from m);obtain⟨D,O,_⟩:=tJ I.hok r;obtain⟨B,J,_⟩:=O.look;exact a3J (PySem.W.kitx_own (j.get _) j.hd T hn htk N) I.kIn J e (λz=>nomatch z) h
end
structure Room (k:Nat) (A:ca):Prop where
 hd:A.handled=am
 dp:A.depth+3*k+5 < recursionLimit
 un:A.units+16*k+200 < ej
theorem Room.mono (r:Room k A) (h:j<=k):Room j A:=#[r.hd,by have:=r.dp;lia,by have:=r.un;lia]
theorem Room.deeper (r:Room (k+1) A) (env:i3):Room k (A.deeper env):=#[r.hd,by have:=r.dp;show A.depth+1+3*k+5 < _;lia,by have:=r.un;show A.units+3+16*k+200 < _;lia]
theorem Q4 {A:ca}:(A.under (.builtin "type.__call__" #[.ref C::t,e])).depth=A.depth+1:=by first | rfl | simp[Around.under,Code.weight,Code.isCreation,Code.isGuard,Code.isCaller,Code.frames,Code.isFrame,guardIds]
theorem Q5 {A:ca}:(A.under (.builtin "type.__call__" #[.ref C::t,e])).units=A.units+1:=by first | rfl | simp[Around.under,Code.cUnits,Code.frames,Code.isFrame]
theorem Room.make (r:Room (k+1) A) (C:Addr) (t:List ao) (e:List (Str×ao)):Room k (A.under (.builtin "type.__call__" #[.ref C::t,e])):=#[r.hd,by have:=r.dp;rw[Q4];lia,by have:=r.un;rw[Q5];lia]
theorem Room.depth (r:Room k A):A.depth < recursionLimit:=by have:=r.dp;lia
theorem Room.units (r:Room k A):A.units+64 < cLine:=by have:=r.un;lia
def tK:TA:=λ_ H Q=>Q [] H
def T9 (j:TE) (S:TA):TA:=λe H Q=>j e H λx m=>S e m λt f=>Q (x::t) f
section
variable {X:Cx}{e:bp}{es:List bp}{te:TE}{t:TA}{pos:ew}
theorem aS:PA X [] tK:=λ_ _ _ _ H Q I h=>Calls.spliced_nil #[[],H,I,.nil,h]
theorem PB (g:PE X e te) (hr:PA X es t) (hs:starEach (e::es) X.env=(aw,eval e X.env)::starEach es X.env:=by rfl):PA X (e::es) (T9 te t):=by intro pos pins s n H Q I h;rw[hs];show wpAny _ _ (spliced ((aw,eval e X.env)::backTo pos (starEach es X.env))) _ _ s;refine xP (thn (g pins s n H _ I h) λu r #[x,m,G,q,T]=>?_);exact thn (hr pos pins r n m _ G T) λb v #[p,f,i,M,B]=>#[x::p,f,i,.cons q M,B]
def A08 (t:TA):TE:=λi H Q=>t i H λn m=>n.length<=aB/\∀p,m p=am->Q (.ref p) (upd m p (.tup n))
def A09 (t:TA):TE:=λi H Q=>t i H λn m=>n.length<=aB/\∀p,m p=am->Q (.ref p) (upd m p (.lst n))
theorem lQ {N} (h:PA X es t):PE X (.Tuple es N pos) (A08 t):=by intro pins s c H Q I hq;refine wpAny_Tuple_spliced (thn (h pos pins s c H _ I hq) λi n #[p,m,G,r,z,q]=>#[by rw[<-r.length];exact z,?_]);have M:m n.heap.objs.size=none:=G.hok.fresh (zR _);refine#[.ref n.heap.objs.size,upd m n.heap.objs.size (.tup p),G.laid (t':=n.toks) (λb u e=>zW _ e) (zR _) ?_,rfl,q _ M];exact#[z,i,r,#[_,yZ _ rfl,rfl,_,rfl]]
theorem A1A (h:PA X es t):PE X (.List es pos) (A09 t):=by intro pins s c H Q I hq;refine wpAny_List_spliced (thn (h pos pins s c H _ I hq) λi n #[p,m,G,r,z,q]=>#[by rw[<-r.length];exact z,?_]);have M:m n.heap.objs.size=none:=G.hok.fresh (zR _);refine#[.ref n.heap.objs.size,upd m n.heap.objs.size (.lst p),G.laid (t':=n.toks) (λb u e=>zW _ e) (zR _) ?_,rfl,q _ M];exact#[z,i,0,r,yZ _ rfl]
end
abbrev Sp:=List V->Hp->VK->XK->Prop
abbrev CXT:=List i3->Hp->aq->XK->ao->aq->Prop
structure Env0 (P:bn) (w:bj) (K:Frg) (mg:Str->Option ao) (base:cr) (A:ca) (outer:List i3) (s:aq) (H:Hp):Prop where
 frames:A.frames=al outer
 mod:Mod K mg base
 bs:∀b o,base.get? b=al o->s.heap.get? b=al o/\H b=am
 bsz:base.objs.size<=s.heap.objs.size
 funs:s.heap.FunFrames base outer
 frf:∀b∈frs outer,H b=am
 hok:HOk P w H s.heap
 bare:im s.gens
def CE (outer:List i3) (P:bn) (w:bj) (H:Hp) (s:aq) (Q:VK) (u:ao) (s':aq):Prop:=∃v H',s'.os=s.os/\im s'.gens/\Un (frs outer) [] H H' s.heap s'.heap/\HOk P w H' s'.heap/\RelV v u/\Q v H'
def CR (CX:CXT) (outer:List i3) (P:bn) (w:bj) (H:Hp) (s:aq) (Q:VK) (E:XK) (r:Result) (s':aq):Prop:=
 match r with
 | .ok (.ret u)=>CE outer P w H s Q u s'
 | .ok _=>False
 | .error e=>CX outer H s E e s'
structure FnOk (P:bn) (w:bj) (K:Frg) (mg:Str->Option ao) (base:cr) (CX:CXT) (k:Nat) (f:Addr) (fd:dV) (ps:List Str) (sp:Sp):Prop where
 len:∀vs H Q E,sp vs H Q E->vs.length=ps.length
 run:∀(A:ca) (outer:List i3) (s:aq) (H:Hp) (args:Args) (us:List ao) (vs:List V) (Q:VK) (E:XK),Room k A->Env0 P w K mg base A outer s H->BindsTo s fd args (ps.zip us)->Vals vs us->sp vs H Q E ->
   codeAny (model P w) A (.call (.ref f) args) (CR CX outer P w H s Q E) s
theorem Env0.make {K:Frg}(e:Env0 P w K mg base A outer s H) (C:Addr) (n:List ao) (t:List (Str×ao)) :
   Env0 P w K mg base (A.under (.builtin "type.__call__" #[.ref C::n,t])) outer s H:=#[by first | exact e.frames | (simpa [Around.under,Code.envs,Code.isFrame,pushEnvs] using e.frames),e.mod,e.bs,e.bsz,e.funs,e.frf,e.hok,e.bare]
section
variable {X:Cx}{pins:List (Addr×cE)}{σ:St}{H:Hp}{s s':aq}
theorem Inv.env0 (I:Inv X pins σ H s):Env0 X.prog X.w X.K X.mg X.base X.A X.stack s H:=#[I.ok.frames,I.ok.mod,I.bs,zN I.ok.bsz I.sz,I.stack,I.stkFree,I.hok,I.bare]
theorem Inv.after (I:Inv X pins σ H s) (h:CE X.stack X.prog X.w H s Q u s'):EP X pins σ Q u s':=by obtain⟨v,H',n,bare,un,hok,r,q⟩:=h;obtain⟨e,g,d,t,J⟩:=s';obtain rfl:J=s.os:=n;exact#[v,H',I.call (h':=e) (g':=g) (d':=d) (t':=t) (ch:=[]) un hok bare (λb z=>absurd z (by simp)),r,q]
end
def dL (sp:Sp) (n:List V) (E:XK) (t:TA):TE:=λi H Q=>t i H λe m=>sp (e++n) m Q E
def Binds (K:Frg) (N:dV) (ps:List Str) (ds:List ao):Prop:=∀(s:aq) (e:List ao),K.In s.heap->(e++ds).length=ps.length->BindsTo s N #[e,[]] (ps.zip (e++ds))
theorem Binds.all {K:Frg}(h:∀e:List ao,e.length=ps.length->bindArgs N #[e,[]]=pure (ps.zip e)):Binds K N ps []:=λs e _ r=>by rw[a4W] at r ⊢;exact .of_eq (h e r)
def aT (CX:CXT) (X:Cx) (E:XK):Prop:=∀(pins:List (Addr×cE)) (t:St) (H:Hp) (s:aq) (e:ao) (s':aq),Inv X pins t H s->CX X.stack H s E e s'->X.xe e s'
section
theorem A1B {i:St}(F:FnOk X.prog X.w X.K X.mg X.base CX k f fd ps sp) (hr:Room k X.A) (hb:Binds X.K fd ps ds) (hd:Vals ww ds) (hx:aT CX X E) (I:Inv X pins i H s) (r:Vals vs n) (h:sp (vs++ww) H Q E):wpAny (model X.prog X.w) X.A (call (.ref f) n) (EP X pins i Q) X.xe s:=by
 have M:Vals (vs++ww) (n++ds):=r.append hd;have c:(n++ds).length=ps.length:=by rw[<-M.length];exact F.len _ _ _ _ h
 refine wpAny_call (xN (F.run X.A X.stack s H #[n,[]] (n++ds) (vs++ww) Q E hr I.env0 (hb s n I.kIn c) M h) λr s' hq=>?_);cases r with
 | error e=>exact hx pins i H s e s' I hq
 | ok b=>
   cases b with
   | ret u=>exact I.after hq
   | next=>exact a6W hq
   | brk=>exact a6W hq
   | cont=>exact a6W hq
theorem tL{X:Cx}{CX:CXT}{k:Nat}{f:Addr}{fd:dV}{ps:List Str}{sp:Sp}{ww:List V}{ds:List ao}{E:XK}{x:Str}{p:ew}{pos:ew}{e:bp}{es:List bp}{t:TA} (F:FnOk X.prog X.w X.K X.mg X.base CX k f fd ps sp) (hr:Room k X.A) (hg:Gl X x) (i:X.mg x=al (.ref f)) (hk:a3K X.K (.ref f)=ap) (hb:Binds X.K fd ps ds) (hd:Vals ww ds) (hx:aT CX X E) (g:PA X (e::es) t) (n:(x==("__debug__":Str))=false:=by decide) (he:starEach (e::es) X.env=(aw,eval e X.env)::starEach es X.env:=by rfl) (b:(backTo pos (starEach es X.env)).any (·.1)=false:=by rfl) :
   PE X (.Call (.Name x p) (e::es) [] pos) (dL sp ww E t):=by intro pins s c H Q I h;refine cR (G1 I hg i ?_ n);refine b6K (h₀:=X.base) I.ok.mod.kin hk (thn (g pos pins s c H _ I h) λv u #[y,j,G,r,q]=>#[G.kIn,?_]) he b;exact A1B F hr hb hd hx G r q
end
structure FnScope (N P:List Str) (sc:fc):Prop where
 kind:sc.kind = .function
 co:sc.isCoroutine=aw
 gen:sc.isGenerator=aw
 nd:N.Nodup
 pre:N.take P.length=P
 par:∀x∈P,sc.names.lookup x=al .local\/sc.names.lookup x=al .cell
 nofree:∀y∈sc.names,y.2≠.free
theorem TB {ga:Str->Option eg}:∀{binds:List (Str×ao)}{m:Str->Option ao},(∀v,(x,v)∉binds)->bindL ga binds m x=m x
 | [],_,_=>rfl
 | (n,v)::r,m,h=>by
   unfold bindL;rw[TB λw e=>h w (yV _ e)];split
   . have:x≠n:=by rintro rfl;exact h v a0Z
     simp[this]
   . rfl
theorem TC {ga:Str->Option eg}:∀{binds:List (Str×ao)}{m:Str->Option ao},(∀v,(x,v)∉binds)->bindC ga binds m x=m x
 | [],_,_=>rfl
 | (n,v)::r,m,h=>by
   unfold bindC;rw[TC λw e=>h w (yV _ e)];split;. rfl
   . have:x≠n:=by rintro rfl;exact h v a0Z
     simp[this]
theorem TD {ga:Str->Option eg}:∀{P:List Str}{vs:List ao}{i:Nat}{m:Str->Option ao},P.Nodup->P[i]?=al x->vs[i]?=al v->ga x=al .local ->
   bindL ga (P.zip vs) m x=al v
 | [],_,_,_,_,h,_,_=>by simp at h
 | _::_,[],_,_,_,_,h,_=>by simp at h
 | p::P,w::vs,0,m,nd,h1,e,hk=>by simp at h1 e;subst h1;subst e;show bindL ga ((p,w)::P.zip vs) m p=_;unfold bindL;rw[TB λv S=>(xV.mp nd).1 (b4X S).1,if_pos hk];simp
 | p::P,w::vs,i+1,m,nd,h1,e,hk=>by show bindL ga ((p,w)::P.zip vs) m x=_;unfold bindL;exact TD (i:=i) (xV.mp nd).2 (by simpa using h1) (by simpa using e) hk
theorem TF {ga:Str->Option eg}:∀{P:List Str}{vs:List ao}{i:Nat}{m:Str->Option ao},P.Nodup->P[i]?=al x->vs[i]?=al v->ga x≠al .local ->
   bindC ga (P.zip vs) m x=al v
 | [],_,_,_,_,h,_,_=>by simp at h
 | _::_,[],_,_,_,_,h,_=>by simp at h
 | p::P,w::vs,0,m,nd,h1,e,hk=>by simp at h1 e;subst h1;subst e;show bindC ga ((p,w)::P.zip vs) m p=_;unfold bindC;rw[TC λv S=>(xV.mp nd).1 (b4X S).1,if_neg hk];simp
 | p::P,w::vs,i+1,m,nd,h1,e,hk=>by show bindC ga ((p,w)::P.zip vs) m x=_;unfold bindC;exact TF (i:=i) (xV.mp nd).2 (by simpa using h1) (by simpa using e) hk
def DW (N:List Str) (vs:List V):St:=vs.map al++b3W (N.length - vs.length) am
def HN (CX:CXT) (P:bn) (w:bj) (K:Frg) (mg:Str->Option ao) (base:cr) (N:List Str) (qual:Str) (scope:fc) (f:Addr) (cd:ao) (A:ca) (outer:List i3) (s:aq) (H:Hp) (E:XK):Cx where
 prog:=P
 w:=w
 K:=K
 mg:=mg
 base:=base
 A:=A.deeper (gc qual scope s.heap.objs.size f cd)
 N:=N
 s₀:=s
 H₀:=H
 env:=gc qual scope s.heap.objs.size f cd
 outer:=outer
 stack:=gc qual scope s.heap.objs.size f cd::outer
 ex:=[]
 calm:=ap
 fn:=λ_=>ap
 pn:=[]
 xe:=λe s'=>wpAny (model P w) (A.deeper (gc qual scope s.heap.objs.size f cd)) (leaving (gc qual scope s.heap.objs.size f cd) e) (λ_ xq=>CX outer H s E e xq) (λe' xq=>CX outer H s E e' xq) s'
theorem X4 {f:fc}(h:f.names.lookup x=al .cell):∃c,(cellsFrom n f.names []).lookup x=al c:=by have q:=b8K f.names n [] (.inl h);exact xX.mp q
theorem TH {K:Frg} (S:FnScope N ps scope) (hd:A.handled=am) (D:Env0 P w K mg base A outer s H) (M:vs.length=ps.length) (r:Vals vs g) (x:InCallC s s.heap.objs.size (bindL (gc qual scope s.heap.objs.size f cd).kindOf (ps.zip g) λ_=>am) (cellsFrom (s.heap.objs.size+1) scope.names []) (bindC (gc qual scope s.heap.objs.size f cd).kindOf (ps.zip g) λ_=>am) j) :
   Inv (HN CX P w K mg base N qual scope f cd A outer s H E) [] (DW N vs) H j:=by
 have B:ps.length<=N.length:=by have:=congrArg b9Q S.pre;rw[a0J] at this;lia
 obtain⟨h1,G,rfl,hk⟩:=x.done;have m:∀b:Addr,b∉(HN CX P w K mg base N qual scope f cd A outer s H E).ex:=λb z=>absurd (show b∈([]:List Addr) from z) (by simp);refine#[#[D.mod,S.kind,rfl,rfl,zR _,λy z c h1 t=>?_,λy hy=>?_,λy c _ h=>?_,λ_=>hd,Around.frames_deeper D.frames,.inr #[rfl,rfl],λb z=>absurd z (m b),D.bs,D.bsz,λb _ _=>m b,λb z=>absurd z (m b),D.funs,D.frf],
   rfl,D.bare,Un.kept hk,#[_,x.toInCall.ns,λi y v h1 t J=>?_],λy c h=>#[_,x.cell y c h],D.hok.fresh (zR _),λy c h=>?_,λp hp=>absurd (show p∈([]:List (Addr×cE)) from hp) (by simp),D.hok.kept hk,?_]
 . exact name_of_addr x.apart (a6Q h1) (a6Q t)
 . have hy:scope.names.lookup y=al .cell\/scope.names.lookup y=al .free:=hy;rcases hy with hy | hy;. exact X4 hy
   . exact absurd rfl (S.nofree _ (a6Q hy))
 . exact xR (x.above y c (a6Q h))
 . have hi:i < vs.length:=by
     unfold DW at t;by_cases hi:i < vs.length;. exact hi
     . rw[List.getElem?_append_right (by simpa using hi)] at t;rw[List.getElem?_replicate] at t;split at t <;> cases t
   have T:vs[i]?=al v:=by
     unfold DW at t;rw[yQ (by simpa using hi),zF] at t;cases e:vs[i]? with
     | none=>rw[e] at t;cases t
     | some a=>rw[e] at t;cases t;rfl
   obtain⟨u,hu,O⟩:=r.get T;have hp:ps[i]?=al y:=by rw[<-S.pre,List.getElem?_take_of_lt (by lia)];exact h1
   have I:ps.Nodup:=by rw[<-S.pre];exact S.nd.sublist (List.take_sublist _ _)
   refine#[u,O,?_];rcases S.par y (yN hp) with k | k;. exact .inl #[k,TD I hp hu k]
   . obtain⟨c,e⟩:=X4 (n:=s.heap.objs.size+1) k;refine .inr #[.inl k,c,e,?_];have q:=x.cell y c e;rw[TF I hp hu (by show scope.names.lookup y≠_;rw[k];decide)] at q;exact q
 . exact D.hok.fresh (xR (x.above y c (a6Q h)))
 . unfold DW;show _=N.length;rw[yY,zX,List.length_replicate];lia
theorem A0K {CX:CXT}{P:bn}{w:bj}{K:Frg}{mg:Str->Option ao}{base:cr}{k:Nat}{f:Addr}{name qual:Str}{params:Arguments}{body:List eu}{scope:fc}{g kV doc c cdv ct G:ao}{L U:Option Addr} {osl:Array (Option ao)}{N ps:List Str}{sp:Sp}(B:K.lookup f=al #[G,U,.func (a5Z name qual params body scope g kV doc c L cdv ct),osl]) (M:b0Q K cdv qual=ap) (S:FnScope N ps scope) (len:∀vs H Q E,sp vs H Q E->vs.length=ps.length) (j:∀(A:ca) (outer:List i3) (s:aq) (H:Hp) (vs:List V) (Q:VK) (E:XK),Room k (A.deeper (gc qual scope s.heap.objs.size f cdv))->sp vs H Q E ->∃t,PSs (HN CX P w K mg base N qual scope f cdv A outer s H E) body t/\t { nx:=λ_ H'=>Q .non H',rt:=Q } (DW N vs) H) :
   FnOk P w K mg base CX (k+1) f (a5Z name qual params body scope g kV doc c L cdv ct) ps sp:=by
 refine#[len,λA outer s H args Y vs Q E hr D hb r p=>?_];have T:=len _ _ _ _ p;have KX:K.In s.heap:=D.mod.kin.keeps λb o e=>(D.bs b o e).1;have lim:s.heap.NoLimit:=D.mod.nolimit.keeps λb o e=>(D.bs b o e).1;have X:∀y∈ps.zip Y,scope.names.lookup y.1=al .local\/(scope.names.lookup y.1=al .cell/\((cellsFrom (s.heap.objs.size+1) scope.names []).lookup y.1).isSome=ap):=λ#[n,v] hy=>by
   rcases S.par n (b4X hy).1 with q | q;. exact .inl q
   . exact .inr #[q,b8K _ _ _ (.inl q)]
 refine codeAny_call_function hr.depth (KX _ _ B) rfl S.co S.gen rfl (PySem.W.codeRec_of KX M) (hb _ _ _ _ ?_);refine wpAny_newFunctionEnv_cells S.kind X λenv he h x=>?_;subst he;refine#[lim.keeps x.toInCall.keep,codeAny_func ?_];obtain⟨t,O,hq⟩:=j A outer s H vs Q E (hr.deeper _) p;have I:Inv (HN CX P w K mg base N qual scope f cdv A outer s H E) [] (DW N vs) H h:=TH S hr.hd D T r x;refine bg (O [] h (DW N vs) H _ I hq) (λz s' hs=>?_) λe s' hs=>hs;have fin:∀{i:St}{H':Hp}{v:V}{u:ao},Inv (HN CX P w K mg base N qual scope f cdv A outer s H E) [] i H' s'->RelV v u->Q v H'->CE outer P w H s Q u s':=
   λ{i H' v u} J m q=>#[v,H',J.os,J.bare,J.base,J.hok,m,q]
 cases z with
 | ret u=> obtain⟨v,i,H',J,m,q⟩:=hs;exact fin J m q
 | next=> obtain⟨i,H',J,q⟩:=hs;exact fin (v:=V.non) (u:=a1X) J rfl q
 | brk=> obtain⟨_,_,_,q⟩:=hs;exact a6W q
 | cont=> obtain⟨_,_,_,q⟩:=hs;exact a6W q
section
variable {X:Cx}{x:Str}{p pos:ew}{e:bp}{es:List bp}{t:TA}{id T:String}{r:List V->Hp->VK->Prop}
def tCB (r:List V->Hp->VK->Prop) (t:TA):TE:=λi H Q=>t i H λn m=>r n m Q
theorem GO (hc:CN X (.builtin id) r) (hg:Gl X x) (b:X.mg x=am) (S:gl x=al (.builtin id)) (g:PA X (e::es) t) (hn:x ≠ "__name__" := by decide) (i:(x==("__debug__":Str))=false:=by decide)
   (he:starEach (e::es) X.env=(aw,eval e X.env)::starEach es X.env:=by rfl) (c:(backTo pos (starEach es X.env)).any (·.1)=false:=by rfl):PE X (.Call (.Name x p) (e::es) [] pos) (tCB r t):=by intro pins s n H Q I h;refine cR (IX I hg b S ?_ hn i);exact PyProof.Rows.callWith_builtin1 (thn (g pos pins s n H _ I h) λk j #[u,m,G,q,f]=>hc pins j n m u k Q G q f) he c
theorem TJ (hc:CN X (.type T) r) (hg:Gl X x) (b:X.mg x=am) (S:gl x=al (.type T)) (g:PA X (e::es) t) (hn:x ≠ "__name__" := by decide) (i:(x==("__debug__":Str))=false:=by decide)
   (he:starEach (e::es) X.env=(aw,eval e X.env)::starEach es X.env:=by rfl) (c:(backTo pos (starEach es X.env)).any (·.1)=false:=by rfl):PE X (.Call (.Name x p) (e::es) [] pos) (tCB r t):=by intro pins s n H Q I h;refine cR (IX I hg b S ?_ hn i);exact xH (thn (g pos pins s n H _ I h) λk j #[u,m,G,q,f]=>hc pins j n m u k Q G q f) he c
end
end L2
namespace HT
open PySem PyProof.Rows
section
def sIx (n d:Nat):Option Int->Nat
 | none=>d
 | some v=>if v < 0 then (v+(n:Int)).toNat else min v.toNat n
theorem sIx_nat (n d k:Nat):sIx n d (al (k:Int))=min k n:=by show(if (k:Int) < 0 then ((k:Int)+(n:Int)).toNat else min (k:Int).toNat n)=min k n;rw[if_neg (by lia),a9V]
theorem A1C (n d:Nat) (hd:d<=n) (o:Option Int):sIx n d o<=n:=by
 cases o with
 | none=>exact hd
 | some v=>
   show(if v < 0 then (v+(n:Int)).toNat else min v.toNat n)<=n;by_cases S:v < 0;. rw[if_pos S];lia
   . rw[if_neg S];exact Nat.min_le_right _ _
theorem dM (v:Int) (n d:Nat):(if v < 0 then max (v+(n:Int)) 0 else min v (n:Int))=((sIx n d (al v):Nat):Int):=by
 show(if v < 0 then max (v+(n:Int)) 0 else min v (n:Int))=(((if v < 0 then (v+(n:Int)).toNat else min v.toNat n):Nat):Int);by_cases S:v < 0;. simp only[if_pos S];lia
 . simp only[if_neg S];lia
theorem aU (e hi:Option Int) (n:Nat):a7J e hi 1 (n:Int)=(((sIx n 0 e:Nat):Int),((sIx n n hi:Nat):Int)):=by
 have h1:¬((1:Int) < 0):=by lia
 unfold a7J;simp only[h1,if_false];refine Prod.ext ?_ ?_
 . cases e with
   | none=>rfl
   | some v=>exact dM v n 0
 . cases hi with
   | none=>rfl
   | some v=>exact dM v n n
theorem aV (i j:Nat):a3X (i:Int) (j:Int) 1=j - i:=by
 unfold a3X;have h1:(1:Int) > 0:=by lia
 simp only[h1,if_true,Int.ediv_one];split <;> lia
theorem Q6 (p:kt v o) (h:Q o s):wpAny (model prog w) A (Builtin.Slice.slicePartIndex v) Q E s:=by
 cases p with
 | none=>exact kf h
 | int i t=>exact slicePart_int h
theorem GP {n:Nat}(hs:s.heap.IsSliceOf sl B r .none) (pl:kt B e) (j:kt r hi) (h:Q (((sIx n 0 e:Nat):Int),1,sIx n n hi - sIx n 0 e) s):wpAny (model prog w) A (b0V (.ref sl) (pure (n:Int))) Q E s:=by obtain⟨m,t,p,i⟩:=id hs;unfold b0V Builtin.Slice.sliceFields;refine zZ (zZ (bf t i (x:=B) rfl (zZ (bf t i (x:=r) rfl (zZ (bf t i (x:=.none) rfl (zY ?_)))))));refine zZ (kf ?_);show wpAny _ _ (if ((1:Int)==0)=ap then _ else _) _ _ s;rw[if_neg (by decide)];refine zZ (Q6 pl (zZ (Q6 j (zZ (zY ?_)))));show wpAny _ _ (match a7J e hi 1 (n:Int) with | (e,hi)=>pure (e,(1:Int),a3X e hi 1)) _ _ s;rw[aU e hi n];show wpAny _ _ (pure (((sIx n 0 e:Nat):Int),(1:Int),a3X ((sIx n 0 e:Nat):Int) ((sIx n n hi:Nat):Int) 1)) _ _ s;rw[aV];exact zY h
theorem lR (xs:Array ao) (i k:Nat):((a2Q k).filterMap λ(m:Nat)=>xs[((i:Int)+(m:Int)*1).toNat]?).toArray=((xs.toList.drop i).take k).toArray:=by
 have e:(λ(m:Nat)=>xs[((i:Int)+(m:Int)*1).toNat]?)=λm=>xs[i+m]?:=by
   funext m;have:((i:Int)+(m:Int)*1).toNat=i+m:=by lia
   rw[this]
 rw[e];have:=pick_run xs i k;rw[List.filterMap_map] at this;have j:((λx=>xs[x]?)∘λx=>i+x)=λm=>xs[i+m]?:=rfl;rw[j] at this;rw[this]
theorem getItem_tuple_cut (u:IsTup s.heap t items) (hs:s.heap.IsSliceOf sl B n .none) (pl:kt B e) (j:kt n hi) (r:¬(sIx items.size 0 e=0/\sIx items.size items.size hi=items.size)) (h:Q (.ref s.heap.objs.size) { s with heap:=s.heap.push { cls:=.type "tuple", data:=.seq ((items.toList.drop (sIx items.size 0 e)).take (sIx items.size items.size hi - sIx items.size 0 e)).toArray } }) (hsz:items.size<=aB):wpAny (model prog w) A (fx (.ref t) (.ref sl)) Q E s:=by
 have T:sizeOk (.seq ((items.toList.drop (sIx items.size 0 e)).take (sIx items.size items.size hi - sIx items.size 0 e)).toArray):=by show((items.toList.drop (sIx items.size 0 e)).take (sIx items.size items.size hi - sIx items.size 0 e)).toArray.size<=aB;rw[zJ,a0J,a4V,a5Q];lia
 have f:sIx items.size items.size hi<=items.size:=A1C _ _ (zR _) hi;obtain⟨p,b,c,v⟩:=id hs;have i:s.TypeIs (.ref sl) "slice" := #[p,b,c]
 unfold fx;try with_reducible refine bt ?_
 first | refine zZ (zY ?_) | skip
 refine zZ (wpAny_sequenceKey u.typeIs (by decide) ?_);refine zZ (wpAny_callSpecial?_slot (name:=a0Q "__getitem__") u.typeIs a3V (cb a3V u.typeIs kx ?_ (args_tuple_getitem _ _)));show wpAny _ _ (b6Q (.ref t) >>= _) _ _ s;refine zZ (tupleItemsOf_ u ?_);refine zZ (eo i ?_);rw[if_pos (by decide)];refine zZ (GP hs pl j ?_);have M:¬((((sIx items.size 0 e:Nat):Int)==0&&(1:Int)==1&&(sIx items.size items.size hi - sIx items.size 0 e)==items.size)=ap):=by intro q;rw[a0V,a0V] at q;have g:((sIx items.size 0 e:Nat):Int)=0:=eq_of_beq q.1.1;have k:sIx items.size items.size hi - sIx items.size 0 e=items.size:=eq_of_beq q.2;exact r #[by lia,by lia]
 show wpAny _ _ (if (((sIx items.size 0 e:Nat):Int)==0&&(1:Int)==1&&(sIx items.size items.size hi - sIx items.size 0 e)==items.size)=ap then _ else _) _ _ s;rw[if_neg M,lR];first
   | exact zZ (m:=a2K _) (xM (zY #[_,rfl,zY h]) T)
   | exact zZ (m:=a2K _) (xM (zZ (zY (zY #[_,rfl,zY h]))) T)
   | exact zZ (zZ (m:=a2K _) (xM (zY (zY #[_,rfl,zY h])) T))
   | exact zZ (zZ (m:=a2K _) (xM (zY #[_,rfl,zY h]) T))
end
end HT
namespace L2
open PySem PySem.Spec PyProof.Rows
abbrev TO:=St->Hp->(Option Int->Hp->Prop)->Prop
def PO (X:Cx) (e:Option bp) (t:TO):Prop:=∀(pins:List (Addr×cE)) (s:aq) (n:St) (H:Hp) (Q:Option Int->Hp->Prop),Inv X pins n H s->t n H Q ->
   wpAny (model X.prog X.w) X.A (evalPart e X.env) (λu s'=>∃o H',Inv X pins n H' s'/\kt u o/\Q o H') X.xe s
def dN:TO:=λ_ H Q=>Q am H
def A0L (t:TE):TO:=λe H Q=>t e H λx m=>∃i,x = .int i/\Q (al i) m
section
variable {X:Cx}{e:bp}{te:TE}{lo hi:Option bp}{tl th:TO}{pos p2:ew}
theorem tM:PO X am dN:=by intro pins s t H Q I h;rw[evalPart_none];exact zY #[am,H,I,.none,h]
theorem tN (h:PE X e te):PO X (al e) (A0L te):=by intro pins s p H Q I n;rw[evalPart_some];refine thn (h pins s p H _ I n) λu b #[x,m,G,r,T]=>?_;obtain⟨i,rfl,q⟩:=T;obtain⟨t,rfl⟩:=r;exact#[al i,m,G,.int i t,q]
def SlR (X:Cx) (r:V->Option Int->Option Int->Hp->VK->Prop):Prop:=∀(pins:List (Addr×cE)) (s:aq) (n:St) (H:Hp) (x:V) (v B t:ao) (lo hi:Option Int) (sl:Addr) (Q:VK),Inv X pins n H s->RelV x v->s.heap.IsSliceOf sl B t .none->kt B lo->kt t hi->r x lo hi H Q ->∃T id,ea (.type T) "__getitem__"=pure (al (.builtin id))/\s.TypeIs v T/\wpAny (model X.prog X.w) X.A (fx v (.ref sl)) (EP X pins n Q) X.xe s
theorem SlR.or (h:SlR X r) (h':SlR X L):SlR X (λx lo hi H Q=>r x lo hi H Q\/L x lo hi H Q):=by
 intro pins s m H x v B i lo hi sl Q I n hs t j q;rcases q with q | q;. exact h pins s m H x v B i lo hi sl Q I n hs t j q
 . exact h' pins s m H x v B i lo hi sl Q I n hs t j q
def tSl (r:V->Option Int->Option Int->Hp->VK->Prop) (te:TE) (tl th:TO):TE:=λt H Q=>te t H λx m=>tl t m λl f=>th t f λu i=>r x l u i Q
theorem lS {r:V->Option Int->Option Int->Hp->VK->Prop}(hr:SlR X r) (he:PE X e te) (k:PO X lo tl) (hu:PO X hi th):PE X (.Subscript e (.Slice lo hi am p2) pos) (tSl r te tl th):=by intro pins s n H Q I h;refine Subscript_ (thn (he pins s n H _ I h) λv L #[x,p,G,J,S]=>?_);refine wpAny_Slice (thn (k pins L n p _ G S) λB U #[l,f,c,z,M]=>thn (hu pins U n f _ c M) λi t #[u,m,N,O,D]=>?_);rw[evalPart_none];refine zY ?_;have g:Inv X pins n m { t with heap:=t.heap.push { cls:=.type "slice", data:=.fields (y9 [B,i,.none]) } }:=N.kept (t':=t.toks) λb Y q=>zW _ q;obtain⟨T,id,j,y,hg⟩:=hr pins { t with heap:=t.heap.push { cls:=.type "slice", data:=.fields (y9 [B,i,.none]) } } n m x v B i l u t.heap.objs.size Q g J (Heap.IsSliceOf.new ..) z O D;show wpAny (model X.prog X.w) X.A (subscriptTail e (.Slice lo hi am p2) v (.ref t.heap.objs.size)) (EP X pins n Q) X.xe { t with heap:=t.heap.push { cls:=.type "slice", data:=.fields (y9 [B,i,.none]) } };exact tail_any (ops:=[.ref t.heap.objs.size,v]) y j hg (by with_unfolding_all rfl)
def L9 (xs:List V) (lo hi:Option Int):List V:=(xs.drop (HT.sIx xs.length 0 lo)).take (HT.sIx xs.length xs.length hi - HT.sIx xs.length 0 lo)
theorem OH (xs:List V) (lo hi:Option Int):(L9 xs lo hi).length<=xs.length:=by unfold L9;rw[a0J,a4V];lia
def A4M (K:Frg):V->Option Int->Option Int->Hp->VK->Prop:=λx lo hi H Q=>∃a t,x = .ref a/\SqT K H a t /\
 ¬(HT.sIx t.length 0 lo=0/\HT.sIx t.length t.length hi=t.length)/\∀p,H p=am->Q (.ref p) (upd H p (.tup (L9 t lo hi)))
theorem A1D:SlR X (A4M X.K):=by
 intro pins s y H x v B g lo hi sl Q I c hs p j h;obtain⟨a,t,rfl,hx,m,q⟩:=h;cases c;obtain⟨i,r,u,n⟩:=I.tuple hx;have k:i.toArray.size=t.length:=by rw[zJ];exact r.length.symm
 refine#["tuple", _,PyProof.Rows.slot_tuple_getitem.lookup,u.typeIs,?_];refine HT.getItem_tuple_cut u hs p j (by rw[k];exact m) ?_ (by rw[k];exact n);rw[k];refine#[.ref s.heap.objs.size,_,I.laid (t':=s.toks) (o:=.tup (L9 t lo hi)) (λb f q=>zW _ q) (zR _) ?_,rfl,q _ (I.hok.fresh (zR _))];exact#[zN (OH t lo hi) n,_,(r.drop (HT.sIx t.length 0 lo)).take (HT.sIx t.length t.length hi - HT.sIx t.length 0 lo),c0K _ _]
end
def ixN (n:Nat) (i:Int):Option Nat:=if 0<=i then (if i < n then al i.toNat else am) else if -(n:Int)<=i then al (i+n).toNat else am
def atI {e:Type}(xs:List e) (i:Int):Option e:=(ixN xs.length i).bind λj=>xs[j]?
theorem tP (h:ixN n i=al j):seqIndex? i n=al j/\j < n/\-(n:Int)<=i/\i < n:=by
 unfold ixN at h;by_cases S:0<=i
 . rw[if_pos S] at h;by_cases h1:i < n;. rw[if_pos h1] at h;have e:i.toNat=j:=Option.some.inj h;exact#[by rw[seqIndex_of S h1,e],by lia,by lia,h1]
   . rw[if_neg h1] at h;cases h
 . rw[if_neg S] at h;by_cases h1 : -(n:Int)<=i;. rw[if_pos h1] at h;have e:(i+n).toNat=j:=Option.some.inj h;exact#[by rw[seqIndex_neg (by lia) h1,e],by lia,h1,by lia]
   . rw[if_neg h1] at h;cases h
theorem UX {v:t}(h:atI xs i=al v):∃j,seqIndex? i xs.length=al j/\xs[j]?=al v/\j < xs.length/\-(xs.length:Int)<=i/\i < xs.length:=by
 unfold atI at h;cases e:ixN xs.length i with
 | none=>rw[e] at h;cases h
 | some j=> rw[e] at h;obtain⟨h1,n,J,r⟩:=tP e;exact#[j,h1,h,n,J,r]
theorem AG {t:Type}{xs:List t}{j:Nat}{v:t}(h:xs[j]?=al v):atI xs (j:Int)=al v:=by
 have n:j < xs.length:=(yT.mp h).1;have e:ixN xs.length (j:Int)=al j:=by unfold ixN;rw[if_pos (by lia),if_pos (by lia)];simp
 unfold atI;rw[e];exact h
def tQ (b:bp):Prop:=∀o i,subscripted b aw o i=operate [o,i] (fx o i)
def IxR (X:Cx) (r:R2):Prop:=∀(value slice:bp) (pins:List (Addr×cE)) (s:aq) (e:St) (H:Hp) (x y:V) (v u:ao) (Q:VK),Inv X pins e H s->RelV x v->RelV y u->r x y H Q ->
   subscripted slice aw v u=operate [v,u] (fx v u)->wpAny (model X.prog X.w) X.A (subscriptTail value slice v u) (EP X pins e Q) X.xe s
def MtR (X:Cx) (id:String) (r:V->List V->Hp->VK->Prop):Prop:=∀(pins:List (Addr×cE)) (s:aq) (n:St) (H:Hp) (x:V) (t:List V) (v:ao) (e:List ao) (Q:VK),Inv X pins n H s->RelV x v->Vals t e->r x t H Q ->
   wpAny (model X.prog X.w) X.A (call (.builtin id) (v::e)) (EP X pins n Q) X.xe s
section
variable {X:Cx}{a b:bp}{ta tb:TE}{pos:ew}
theorem IxR.or (h:IxR X r) (h':IxR X L):IxR X (λx y H Q=>r x y H Q\/L x y H Q):=by
 intro value slice pins s t H x y v u Q I e Z q hs;rcases q with q | q;. exact h value slice pins s t H x y v u Q I e Z q hs
 . exact h' value slice pins s t H x y v u Q I e Z q hs
theorem A3J {r:R2}(hr:IxR X r) (g:PE X a ta) (hb:PE X b tb) (hs:tQ b):PE X (.Subscript a b pos) (tOp r ta tb):=by intro pins s n H Q I h;exact Subscript_ (A0z g hb I h λv u t x y f m e Z q=>hr a b pins t n f x y v u Q m e Z q (hs _ _))
def A1E (K:Frg):R2:=λx y H Q=>∃p t i v,x = .ref p/\y = .int i/\SqL K H p t/\atI t i=al v/\Q v H
def A1F (K:Frg):R2:=λx y H Q=>∃p t i v,x = .ref p/\y = .int i/\SqT K H p t/\atI t i=al v/\Q v H
def A1G:R2:=λx y H Q=>∃z i c,x = .str z/\y = .int i/\z.length<=aB/\atI z.cps.toList i=al c/\Q (.str #[(y9 [c])]) H
theorem tR:IxR X (A1E X.K):=by
 intro value slice pins s c H x y v u Q I O Z h hs;obtain⟨p,B,i,z,rfl,rfl,hq,he,q⟩:=h;cases O;obtain⟨t,rfl⟩:=Z;obtain⟨f,r,n,D⟩:=I.list hq;obtain⟨j,h1,g,M,J,k⟩:=UX he;obtain⟨w,m,N⟩:=r.get g;have T:=r.length;have hn:=UW;have fin:EP X pins c Q w s:=#[z,H,I,N,q]
 by_cases S:0<=i
 . have e:i.toNat=j:=by rw[seqIndex_of S k] at h1;exact Option.some.inj h1
   exact item_listR n.isList S (by lia) (by rw[e];simpa using m) fin hs
 . have e:(i+(f.toArray.size:Int)).toNat=j:=by rw[seqIndex_neg (by lia) J] at h1;rw[zJ,<-T];exact Option.some.inj h1
   exact subscriptTail_builtinR (x:=w) n.isList.typeIs slot_list_getitem.lookup (wpAny_getItem_list_neg (Q:=λr s'=>r=w/\EP X pins c Q r s') n.isList (by lia) (by rw[zJ] <;> lia) (by lia) (by rw[e];simpa using m) #[rfl,fin]) hs
theorem A1H:IxR X (A1F X.K):=by
 intro value slice pins s n H x y v u Q I k Z h hs;obtain⟨p,M,i,z,rfl,rfl,hq,he,q⟩:=h;cases k;obtain⟨t,rfl⟩:=Z;obtain⟨T,r,e,S⟩:=I.tuple hq;obtain⟨j,h1,c,J,N,O⟩:=UX he;obtain⟨w,m,g⟩:=r.get c;have f:=r.length;have hn:=UW;have fin:EP X pins n Q w s:=#[z,H,I,g,q]
 exact subscriptTail_builtinR (x:=w) e.typeIs slot_tuple_getitem.lookup (getItem_tuple (j:=j) (Q:=λr s'=>r=w/\EP X pins n Q r s') e (by lia) (by lia) (by rw[zJ,<-f];exact h1) (by simpa using m) #[rfl,fin]) hs
theorem A1I:IxR X A1G:=by
 intro value slice pins s T H x y v u Q I f Z h hs;obtain⟨z,i,c,rfl,rfl,k,he,q⟩:=h;obtain⟨t,rfl⟩:=f;obtain⟨Y,rfl⟩:=Z;obtain⟨j,h1,r,g,J,m⟩:=UX he;have p:z.cps.toList.length=z.length:=by simp[Str.length]
 rw[p] at h1 J m;have hn:=UW;exact tail_any (typeIs_str s z t) slot_str_getitem.lookup (getItem_str (c:=c) (by
   have e:decide (i < -(2 ^ 63:Int))=false:=decide_eq_false (by lia);have n:decide (i≥2 ^ 63)=false:=decide_eq_false (by lia);rw[e,n,Bool.or_false]) (by rw[h1];simpa using r) #[.str #[(y9 [c])],H,I.tok _,#[_,rfl],q]) hs
theorem UY (e hi:Option Int) (n:Nat):(fN e hi am n).1=((HT.sIx n 0 e:Nat):Int)/\(fN e hi am n).2.1=((HT.sIx n n hi:Nat):Int)/\(fN e hi am n).2.2=1:=by
 refine#[?_,?_,rfl]
 . cases e with
   | none=>simp[fN,HT.sIx]
   | some i=>
     simp only[fN,HT.sIx,Option.getD_none,show(1:Int) > 0 by decide,if_true];by_cases h:i < 0;. simp only[h,if_true] <;> lia
     . simp only[h,if_false] <;> lia
 . cases hi with
   | none=>simp[fN,HT.sIx]
   | some i=>
     simp only[fN,HT.sIx,Option.getD_none,show(1:Int) > 0 by decide,if_true];by_cases h:i < 0;. simp only[h,if_true] <;> lia
     . simp only[h,if_false] <;> lia
theorem SM (e:List ao) (t hi:Option Int):slicePick e.toArray t hi am=((e.drop (HT.sIx e.length 0 t)).take (HT.sIx e.length e.length hi - HT.sIx e.length 0 t)).toArray:=by obtain⟨h1,n,J⟩:=UY t hi e.toArray.size;unfold slicePick;rw[h1,n,J];simp only[sliceRange_one,pick_run,zJ] <;> rfl
def A1J (K:Frg):V->Option Int->Option Int->Hp->VK->Prop:=λx e hi H Q=>∃a t,x = .ref a/\SqL K H a t/\∀p,H p=am->Q (.ref p) (upd H p (.lst (L9 t e hi)))
theorem tS:SlR X (A1J X.K):=by intro pins s g H x v B f e hi sl Q I m hs i j h;obtain⟨a,t,rfl,hx,q⟩:=h;cases m;obtain⟨p,r,u,n⟩:=I.list hx;have k:=r.length;refine#["list", _,slot_list_getitem.lookup,u.isList.typeIs,?_];refine wpAny_getItem_list_slice u.isList hs i j .none (by simp) ?_ (by rw[zJ] <;> lia);rw[SM,<-k];refine#[.ref s.heap.objs.size,_,I.laid (t':=s.toks) (o:=.lst (L9 t e hi)) (λb c q=>zW _ q) (zR _) ?_,rfl,q _ (I.hok.fresh (zR _))];exact#[zN (OH t e hi) n,_,0,(r.drop (HT.sIx t.length 0 e)).take (HT.sIx t.length t.length hi - HT.sIx t.length 0 e),yZ _ rfl]
def KP:V->Bool
 | .non=>ap
 | .bl _=>ap
 | .int _=>ap
 | .str _=>ap
 | _=>aw
def eqV:V->V->Bool
 | .non,.non=>ap
 | .bl a,.bl b=>a==b
 | .bl a,.int b=>(if a then 1 else 0)==b
 | .int a,.bl b=>a==(if b then 1 else 0)
 | .int a,.int b=>a==b
 | .str a,.str b=>a==b
 | _,_=>aw
theorem A1K (Z:RelV y u) (e:RelV x v) (i:KP y=ap) (n:KP x=ap):SeqAt.EqAt A s u v (eqV y x):=by
 cases y with
 | non=>
   cases Z;cases x with
   | non=>cases e;exact SeqAt.EqAt.same _
   | bl b=>cases e;exact SeqAt.EqAt.none_bool b
   | int b=>obtain⟨t,rfl⟩:=e;exact SeqAt.EqAt.none_int b t
   | str b=>obtain⟨t,rfl⟩:=e;exact SeqAt.EqAt.none_str b t
   | _=>exact absurd (show aw=ap from n) nft
 | bl a=>
   cases Z;cases x with
   | non=>cases e;exact SeqAt.EqAt.bool_none a
   | bl b=>cases e;exact SeqAt.EqAt.bool_bool a b
   | int b=>obtain⟨t,rfl⟩:=e;exact SeqAt.EqAt.bool_int a b t
   | str b=>obtain⟨t,rfl⟩:=e;exact SeqAt.EqAt.bool_str a b t
   | _=>exact absurd (show aw=ap from n) nft
 | int a=>
   obtain⟨Y,rfl⟩:=Z;cases x with
   | non=>cases e;exact SeqAt.EqAt.int_none a Y
   | bl b=>cases e;exact SeqAt.EqAt.int_bool a Y b
   | int b=>obtain⟨t,rfl⟩:=e;exact SeqAt.EqAt.int_int a Y b t
   | str b=>obtain⟨t,rfl⟩:=e;exact SeqAt.EqAt.int_str a Y b t
   | _=>exact absurd (show aw=ap from n) nft
 | str a=>
   obtain⟨Y,rfl⟩:=Z;cases x with
   | non=>cases e;exact SeqAt.EqAt.str_none a Y
   | bl b=>cases e;exact SeqAt.EqAt.str_bool a Y b
   | int b=>obtain⟨t,rfl⟩:=e;exact SeqAt.EqAt.str_int a Y b t
   | str b=>obtain⟨t,rfl⟩:=e;exact SeqAt.EqAt.str_str a Y b t
   | _=>exact absurd (show aw=ap from n) nft
 | _=>exact absurd (show aw=ap from i) nft
def eqU (x:V) (u:ao):Bool:=match u with
 | .none=>eqV .non x
 | .bool b=>eqV (.bl b) x
 | .int i _=>eqV (.int i) x
 | .str z _=>eqV (.str z) x
 | _=>aw
theorem lU (r:RelV y u) (f:KP y=ap):eqU x u=eqV y x:=by
 cases y with
 | non=>cases r;rfl
 | bl b=>cases r;rfl
 | int i=>obtain⟨t,rfl⟩:=r;rfl
 | str z=>obtain⟨t,rfl⟩:=r;rfl
 | _=>exact absurd (show aw=ap from f) nft
theorem MD :∀{xs:List V}{e:List ao},Vals xs e->xs.all KP=ap->e.any (eqU x)=xs.any λy=>eqV y x
 | _,_,.nil,_=>rfl
 | y::xs,u::e,.cons r t,f=>by rw[List.all_cons,a0V] at f;rw[b4J,b4J,lU r f.1,MD t f.2]
theorem IY (i:RelV x v) (n:KP x=ap):∀{xs:List V}{e:List ao},Vals xs e->xs.all KP=ap->∀u∈e,SeqAt.EqAt A s u v (eqU x u)
 | _,_,.nil,_=>λu hu=>by cases hu
 | y::xs,u::e,.cons r t,f=>λm hu=>by
   rw[List.all_cons,a0V] at f;rcases yX.mp hu with rfl | hu;. rw[lU r f.1];exact A1K r i f.1 n
   . exact IY i n t f.2 m hu
def inV (x:V) (xs:List V):Bool:=xs.any λy=>eqV y x
def rIn (K:Frg) (neg:Bool):R2:=λx y H Q=>∃p t,y = .ref p/\(SqL K H p t\/SqT K H p t)/\KP x=ap/\t.all KP=ap/\Q (.bl (if neg then !inV x t else inV x t)) H
theorem gY:OpR X (bq .In) (rIn X.K aw):=by
 intro pins s g H x y v u Q I m Z h;obtain⟨p,f,rfl,hq,i,fs,q⟩:=h;cases Z;rcases hq with hq | hq;. obtain⟨e,r,n,c⟩:=I.list hq;refine SeqAt.in_listAt (eqU x) n.isList (λw t=>IY m i r fs w (by simpa using t)) #[.bl _,H,I,rfl,?_];rw[show e.toArray.any (eqU x)=e.any (eqU x) by simp,MD r fs];exact q
 . obtain⟨e,r,n,c⟩:=I.tuple hq;refine SeqAt.in_tupleAt (eqU x) n (λw t=>IY m i r fs w (by simpa using t)) #[.bl _,H,I,rfl,?_];rw[show e.toArray.any (eqU x)=e.any (eqU x) by simp,MD r fs];exact q
theorem UZ:OpR X (bq .NotIn) (rIn X.K ap):=by
 intro pins s g H x y v u Q I m Z h;obtain⟨p,f,rfl,hq,i,fs,q⟩:=h;cases Z;rcases hq with hq | hq;. obtain⟨e,r,n,c⟩:=I.list hq;refine SeqAt.notIn_listAt (eqU x) n.isList (λw t=>IY m i r fs w (by simpa using t)) #[.bl _,H,I,rfl,?_];rw[show e.toArray.any (eqU x)=e.any (eqU x) by simp,MD r fs];exact q
 . obtain⟨e,r,n,c⟩:=I.tuple hq;refine SeqAt.notIn_tupleAt (eqU x) n (λw t=>IY m i r fs w (by simpa using t)) #[.bl _,H,I,rfl,?_];rw[show e.toArray.any (eqU x)=e.any (eqU x) by simp,MD r fs];exact q
theorem SN:CN X (.type "tuple") (λxs H Q=>∃p ys,xs=[.ref p]/\((SqL X.K H p ys/\∀l,H l=am->Q (.ref l) (upd H l (.tup ys)))\/(SqT X.K H p ys/\Q (.ref p) H))):=by
 intro pins s c H xs v Q I r h;obtain⟨p,ys,rfl,h⟩:=h;obtain⟨u,rfl,j⟩:=GM r;cases j;rcases h with ⟨hq,q⟩ | ⟨hq,q⟩
 . obtain⟨n,L,i,m⟩:=I.list hq;have k:=L.length;refine call_tuple_list i.isList (λt g=>?_) (by simp only[zJ] <;> lia);have G:Inv X pins c H { s with heap:=t }:=I.kept (t':=s.toks) g;have f:Inv X pins c (upd H t.objs.size (.tup ys)) { s with heap:=t.push { cls:=.type "tuple", data:=.seq n.toArray } }:=
     G.laid (t':=s.toks) (λb o e=>zW _ e) (zR _) (show ObjOk X.prog X.w _ _ _ (.tup ys) from #[m,n,L,c0K _ _]);exact#[.ref t.objs.size,_,f,rfl,q _ (G.hok.fresh (zR _))]
 . obtain⟨n,L,i,m⟩:=I.tuple hq;exact call_tuple_same i #[.ref p,H,I,rfl,q]
def tyV (K:Frg) (T:String) (x:V) (H:Hp):Prop:=match x with
 | .str _=>T = "str"
 | .int _=>T = "int"
 | .ref p=>(T = "list" /\ ∃t,SqL K H p t)\/(T = "tuple" /\ ∃o,K.lookup p=al o/\o.cls = .type "tuple" /\ o.dict=am) \/(T = "dict" /\ ((∃kvs,H p=al (.dK kvs))\/∃kvs,H p=al (.dT kvs)))\/(T = "set" /\ ∃S n,H p=al (.set S n))
 | _=>False
theorem A1L {g:St}(I:Inv X pins g H s) (r:RelV x v) (ty:tyV X.K T x H) :
   s.TypeIs v T/\∀a,v = .ref a->∃u,s.heap.get? a=al u/\u.dict=none:=by
 cases x with
 | str z=> obtain⟨t,rfl⟩:=r;cases (show T = "str" from ty);exact#[typeIs_str s z t,λ_ e=>nomatch e]
 | int i=> obtain⟨t,rfl⟩:=r;cases (show T = "int" from ty);exact#[typeIs_int s i t,λ_ e=>nomatch e]
 | ref p=>
   cases r;rcases ty with ⟨rfl,k,hq⟩ | ⟨rfl,o,hk,hc,hd⟩ | ⟨rfl,hk⟩ | ⟨rfl,S,n,hk⟩
   . obtain⟨h,_,f,_⟩:=I.list hq;refine#[f.isList.typeIs,λa e=>?_];cases e;obtain⟨o,n,e,c,hd,_⟩:=f;exact#[o,e,hd]
   . refine#[#[o,I.kIn p o hk,hc],λa e=>?_];cases e;exact#[o,I.kIn _ o hk,hd]
   . have z:∃o,s.heap.get? p=al o/\o.ExactDict:=by
       rcases hk with ⟨kvs,hk⟩ | ⟨kvs,hk⟩
       . obtain⟨_,_,_,_,o,_,_,e,m,_⟩:=I.hok p _ hk;exact#[o,e,m]
       . obtain⟨_,_,_,_,o,_,_,e,m,_⟩:=I.hok p _ hk;exact#[o,e,m]
     obtain⟨o,e,m⟩:=z;refine#[#[o,e,m.1],λa j=>?_];cases j;exact#[o,e,m.2.1]
   . obtain⟨o,_,_,_,e,m,_⟩:=I.hok p _ hk;refine#[#[o,e,m.1],λa j=>?_];cases j;exact#[o,e,m.2.1]
 | _=>exact a6W ty
def tBM (K:Frg) (T:String) (r:V->List V->Hp->VK->Prop) (to:TE) (t:TA):TE:=λe H Q=>to e H λx m=>tyV K T x m/\t e m λn f=>r x n f Q
variable {o e:bp}{es:List bp}{to:TE}{t:TA}{name:Str}{apos ah:ew}{T id:String}{r:V->List V->Hp->VK->Prop}
theorem A3K (D:PlainAttrs T) (slot:Slot T name id) (i:typeOf (.builtin id)=pure (.type "method_descriptor")) (j:MtR X id r) (ho:PE X o to) (g:PA X (e::es) t) (hbase:attributeBase o name X.env (eval o X.env)=eval o X.env:=by rfl)
   (L:((backTo ah (starEach (e::es) X.env)).all (λx=>!x.1)&&(backToKw ah (keywordEach [] X.env)).all (λx=>x.1.isSome)
     && decide ((e::es).length+([]:List Keyword).length+(if ([]:List Keyword).isEmpty then 0 else 1) < 30))=true:=by rfl)
   (N:(apos.endLine==ah.line)=true:=by rfl) (hs:starEach (e::es) X.env=(aw,eval e X.env)::starEach es X.env:=by rfl) (k:(backTo ah (starEach es X.env)).any (·.1)=false:=by rfl) :
   PE X (.Call (.Attribute o name apos) (e::es) [] ah) (tBM X.K T r to t):=by intro pins s n H Q I h;refine wpAny_Call_method_late hbase L N rfl (thn (ho pins s n H _ I h) λv y #[x,m,G,q,ty,u]=>?_);obtain⟨h1,c⟩:=A1L G q ty;refine#[T,id,D,slot,i,h1,c,?_];have hA:=g ah pins y n m _ G u;rw[hs] at hA ⊢;refine b9J (by show(aw||(backTo ah (starEach es X.env)).any (·.1))=aw;rw[k] <;> rfl) (Calls.evalArgs_plain ?_);exact thn hA λO z #[S,f,p,M,B]=>j pins z n f x S v O Q p q M B
end
def MtM (X:Cx) (id:String) (r:V->List V->Hp->VK->Prop):Prop:=∀(pins:List (Addr×cE)) (s:aq) (n:St) (H:Hp) (x:V) (t:List V) (v:ao) (e:List ao) (Q:VK),Inv X pins n H s->RelV x v->Vals t e->r x t H Q ->
   wpAny (model X.prog X.w) X.A (call (.builtin id) (v::e)) (EP X pins n Q) X.xe s
theorem Vals.one:∀{x:V}{e:List ao},Vals [x] e->∃u,e=[u]/\RelV x u
 | _,_,.cons r .nil=>#[_,rfl,r]
theorem Vals.reverse (h:Vals xs e):Vals xs.reverse e.reverse:=by
 induction h with
 | nil=>exact .nil
 | cons r t U=>rw[b2K,b2K];exact Vals.append U (.cons r .nil)
section
variable {X:Cx}{pins:List (Addr×cE)}{σ:St}{H:Hp}{s:aq}{l b:Addr}{xs ys zs:List V}
theorem Inv.lset {t:List ao}(I:Inv X pins σ H s) (hH:H l=al (.lst xs)) (e:s.heap.get? l=al { cls:=.type "list", data:=.seq t.toArray n }) (M:f t.toArray=its'.toArray) (S:Vals ys its') (hz:ys.length<=aB) :
   Inv X pins σ (upd H l (.lst ys)) { s with heap:=s.heap.update l (a7Z f),toks:=t' }:=by have q:=PySem.IsL.update e f;rw[M] at q;refine I.write (x:=l) (e:=l) (by rw[hH];exact trivial) (.inl rfl) (λj u hb hu=>(yC s.heap (a7Z f) (a4Z hb)).trans hu) #[_,q] ?_;exact#[hz,its',_,S,q]
theorem Inv.lnew (I:Inv X pins σ H s) (S:Vals ys e) (hz:ys.length<=aB) :
   Inv X pins σ (upd H s.heap.objs.size (.lst ys)) { s with heap:=s.heap.push { cls:=.type "list", data:=.seq e.toArray },toks:=t' }:=
 I.laid (λ_ _ q=>zW _ q) (zR _) #[hz,e,0,S,yZ _ rfl]
theorem Inv.fresh (I:Inv X pins σ H s):H s.heap.objs.size=none:=I.hok.fresh (zR _)
theorem Inv.lstM (I:Inv X pins σ H s) (hH:H l=al (.lst xs)):xs.length<=aB/\∃(t:List ao) (n:Nat),Vals xs t/\xs.length=t.length/\s.heap.get? l=al { cls:=.type "list", data:=.seq t.toArray n }:=by obtain⟨z,t,n,r,e⟩:=I.hok l _ hH;exact#[z,t,n,r,r.length,e]
theorem lV (h:n<=aB):b2J n=false:=by unfold b2J;exact decide_eq_false (by lia)
end
section
def V0:V->List V->Hp->VK->Prop:=λx e H Q=>∃l t y,x = .ref l/\e=[y]/\H l=al (.lst t)/\t.length < aB/\Q .non (upd H l (.lst (t++[y])))
theorem NJ:MtM X "list.append" V0:=by intro pins s k H x g v f Q I p m h;obtain⟨l,j,y,rfl,rfl,hH,c,q⟩:=h;cases p;obtain⟨u,rfl,i⟩:=m.one;obtain⟨z,t,n,r,b,e⟩:=I.lstM hH;refine call_meets F.slot_list_append #[_,e,rfl] F.entry_list_append (F.args_list_append_2 _ _) (PySem.list_append l t.toArray n u (by rw[zJ];lia)) #[e,?_];refine#[.non,_,I.lset (its':=t++[u]) hH e (by simp) (r.append (.cons i .nil)) ?_,rfl,q];rw[yY,List.length_singleton];lia
end
section
variable {κ:Type}[DecidableEq κ]
def GD (kvs:List (κ×V)) (k:κ):Option V:=(kvs.find? λkv=>decide (kv.1=k)).map (·.2)
def EQ (kvs:List (κ×V)) (k:κ) (v:V):List (κ×V):=
 if (kvs.any λkv=>decide (kv.1=k))=ap then kvs.map (λkv=>if kv.1=k then (kv.1,v) else kv) else kvs++[(k,v)]
def ME (kvs:List (κ×V)) (k:κ):List (κ×V):=kvs.filter λkv=>decide (kv.1≠k)
theorem MF {k:κ}(e:p.1=k):GD (p::r) k=al p.2:=by simp[GD,b2X,e]
theorem IZ {k:κ}(e:¬p.1=k):GD (p::r) k=GD r k:=by simp[GD,b2X,e]
theorem X5 (k:κ):∀kvs:List (κ×V),(kvs.any λkv=>decide (kv.1=k))=(GD kvs k).isSome
 | []=>rfl
 | p::r=>by
   rw[b4J];by_cases e:p.1=k;. simp only[MF e,decide_eq_true e,Bool.true_or,Option.isSome_some]
   . rw[IZ e,decide_eq_false e,Bool.false_or];exact X5 k r
theorem G3 (kvs:List (κ×V)) (k:κ) (v:V):(EQ kvs k v).length<=kvs.length+1:=by
 unfold EQ;split;. rw[zX];lia
 . rw[yY,yR,b6V];lia
theorem RelO.isSome_eq (r:RelO o u):o.isSome=u.isSome:=by
 cases o with
 | none=>cases u with
   | none=>rfl
   | some _=>exact(show False from r).elim
 | some _=>cases u with
   | none=>exact(show False from r).elim
   | some _=>rfl
theorem RelO.getD (r:RelO o u) (b:RelV d d'):RelV (o.getD d) (u.getD d'):=by
 cases o with
 | none=>cases u with
   | none=>exact b
   | some _=>exact(show False from r).elim
 | some _=>cases u with
   | none=>exact(show False from r).elim
   | some _=>exact r
theorem KV.val (r:KV kvs vs) (k:κ):RelO (GD kvs k) (ik vs k):=by
 unfold KV at r;induction r with
 | nil=>exact a8Z
 | @cons p q m n h t U=>
   obtain⟨h1,i⟩:=h;by_cases e:p.1=k
   . have e':q.1=k:=h1.symm.trans e;have b:ik (q::n) k=al q.2:=by simp[ik,b2X,e']
     rw[MF e,b];exact i
   . have e':¬q.1=k:=λz=>e (h1.trans z);have b:ik (q::n) k=ik n k:=by simp[ik,b2X,e']
     rw[IZ e,b];exact U
theorem KV.any (r:KV kvs vs) (k:κ):(kvs.any λkv=>decide (kv.1=k))=vs.any λkv=>decide (kv.1=k):=by
 unfold KV at r;induction r with
 | nil=>rfl
 | cons h t U=>rw[b4J,b4J,U,h.1]
theorem KV.repl (r:KV kvs vs) (k:κ) (Z:RelV y u) :
   KV (kvs.map λkv=>if kv.1=k then (kv.1,y) else kv) (vs.map λkv=>if kv.1=k then (kv.1,u) else kv):=by
 unfold KV at r ⊢;induction r with
 | nil=>exact .nil
 | @cons p q i m h t U=>
   rw[zI,zI];refine .cons ?_ U;obtain⟨h1,n⟩:=h;by_cases e:p.1=k;. rw[if_pos e,if_pos (h1.symm.trans e)];exact#[h1,Z]
   . rw[if_neg e,if_neg (λz=>e (h1.trans z))];exact#[h1,n]
theorem KV.put (r:KV kvs vs) (k:κ) (Z:RelV y u):KV (EQ kvs k y) (stored vs k u):=by
 unfold EQ stored;rw[r.any k];by_cases e:(vs.any λkv=>decide (kv.1=k))=ap;. rw[if_pos e,if_pos e];exact r.repl k Z
 . rw[if_neg e,if_neg e];exact Paired.snoc r #[rfl,Z]
theorem KV.drop (r:KV kvs vs) (k:κ):KV (ME kvs k) (without vs k):=by
 unfold KV at r ⊢;unfold ME without;induction r with
 | nil=>exact .nil
 | @cons p q i m h t U=>
   obtain⟨h1,n⟩:=h;rw[a8W,a8W];by_cases e:p.1=k
   . have a:¬decide (p.1≠k)=true:=by simp[e]
     have b:¬decide (q.1≠k)=true:=by simp[h1.symm.trans e]
     rw[if_neg a,if_neg b];exact U
   . have e':¬q.1=k:=λz=>e (h1.trans z);have a:decide (p.1≠k)=true:=by simp[e]
     have b:decide (q.1≠k)=true:=by simp[e']
     rw[if_pos a,if_pos b];exact .cons #[h1,n] U
theorem KV.length {kvs:List (κ×V)}(r:KV kvs vs):kvs.length=vs.length:=Paired.length r
theorem X6 (kvs:List (κ×V)) (k:κ):(ME kvs k).length<=kvs.length:=yJ _ _
end
theorem KQ (r:RelV (kV k) u):(AV P w).is k u=true:=by
 cases k with
 | inl i=>obtain⟨t,e⟩:=(show ∃t,u=Value.int i t from r);subst e;exact X1 P w i t
 | inr x=>obtain⟨t,e⟩:=(show ∃t,u=c0J x t from r);subst e;exact OG P w x t
theorem TK :∀{ks:List Key}{e:List ao},Vals (ks.map kV) e->ItemsAre (AV P w) ks e
 | [],_,r=>by rw[b8X] at r;cases r;exact .nil
 | k::ks,_,r=>by
   rw[zI] at r;cases r with
   | cons h t=>exact .cons (KQ h) (TK t)
abbrev KT (H:Hp):List (List Key×V)->List (List Key×Addr×ao)->Prop:=Paired λp q=>p.1=q.1/\H q.2.1=al (.tup (p.1.map kV))/\RelV p.2 q.2.2
theorem KT.val (r:KT H kvs xs) (k:List Key):RelO (GD kvs k) ((atKey xs k).map (·.2)):=by
 induction r with
 | nil=>exact a8Z
 | @cons p q m n h t U=>
   obtain⟨h1,_,i⟩:=h;by_cases e:p.1=k
   . have e':q.1=k:=h1.symm.trans e;have b:atKey (q::n) k=al q.2:=by simp[atKey,b2X,e']
     rw[MF e,b];exact i
   . have e':¬q.1=k:=λz=>e (h1.trans z);have b:atKey (q::n) k=atKey n k:=by simp[atKey,b2X,e']
     rw[IZ e,b];exact U
theorem KT.repl (r:KT H kvs xs) (k:List Key) (Z:RelV y u) :
   KT H (kvs.map λkv=>if kv.1=k then (kv.1,y) else kv) (xs.map (putAt k u)):=by
 induction r with
 | nil=>exact .nil
 | @cons p q i m h t U=>
   rw[zI,zI];refine .cons ?_ U;obtain⟨h1,n,J⟩:=h;unfold putAt;by_cases e:p.1=k;. rw[if_pos e,if_pos (h1.symm.trans e)];exact#[h1,n,Z]
   . rw[if_neg e,if_neg (λz=>e (h1.trans z))];exact#[h1,n,J]
theorem KT.put (r:KT H kvs xs) (k:List Key) (hb:H b=al (.tup (k.map kV))) (Z:RelV y u) :
   KT H (EQ kvs k y) (storedH xs k b u):=by
 have e:(kvs.any λkv=>decide (kv.1=k))=(atKey xs k).isSome:=by rw[X5,(r.val k).isSome_eq,a4K]
 unfold EQ storedH;rw[e];by_cases q:(atKey xs k).isSome=ap;. rw[if_pos q,if_pos q];exact r.repl k Z
 . rw[if_neg q,if_neg q];exact Paired.snoc r #[rfl,hb,Z]
theorem KT.keeps (r:KT H kvs xs) (u:∀b ys,H b=al (.tup ys)->H' b=al (.tup ys)):KT H' kvs xs:=
 Paired.mapP r λ_ _ z=>#[z.1,u _ _ z.2.1,z.2.2]
section
theorem A0M (ok:HOk P w H h) (e:Rd H a u):ObjOk P w H h a u:=e.ok ok
theorem IR (ok:HOk P w H h) (e:Rd H a (.dK kvs)):kvs.length<=aB/\(a==c4)=aw/\∃vs,KV kvs vs/\h.DictOf (AV P w) a vs:=
 show ObjOk P w H h a (.dK kvs) from A0M ok e
theorem X7 (ok:HOk P w H h) (e:H a=al (.dK kvs)):kvs.length<=aB/\(a==c4)=aw/\∃vs,KV kvs vs/\h.DictOf (AV P w) a vs:=IR ok (.inl e)
theorem Q7 (ok:HOk P w H h) (e:H a=al (.tup (ks.map kV))):(tupleKind (AV P w)).is h ks a:=by
 obtain⟨_,t,r,o,h1,i,n,J⟩:=(show ObjOk P w H h a (.tup (ks.map kV)) from ok a _ e)
 exact#[o,t.toArray,n,h1,i,J,by simpa using TK r]
theorem TL (ok:HOk P w H h) (e:Rd H a (.dT kvs)):kvs.length<=aB/\(a==c4)=aw /\∃xs,KT H kvs xs/\h.DictOfH (tupleKind (AV P w)) a xs:=by
 obtain⟨z,y,xs,r,o,I,n,h1,i,J,b,u⟩:=(show ObjOk P w H h a (.dT kvs) from A0M ok e)
 refine#[z,y,xs,r,o,I,n,h1,i,J,b,λx hx=>?_,u];have all:∀{l:List (List Key×V)}{m:List (List Key×Addr×ao)},KT H l m->∀x∈m,(tupleKind (AV P w)).is h x.1 x.2.1:=by
   intro l m q;induction q with
   | nil=>intro x hx;exact nomatch hx
   | @cons p q c f hq t U=>
     intro x hx;rcases yX.mp hx with e | hx;. subst e;exact Q7 ok (by rw[<-hq.1];exact hq.2.1)
     . exact U x hx
 exact all r x hx
theorem A3L (ok:HOk P w H h) (e:H a=al (.dT kvs)):kvs.length<=aB/\(a==c4)=aw /\∃xs,KT H kvs xs/\h.DictOfH (tupleKind (AV P w)) a xs:=TL ok (.inl e)
end
def aW (H:Hp) (a:Addr) (y:V) (r:Option V):Prop:=(∃kvs k,Rd H a (.dK kvs)/\y=kV k/\r=GD kvs k)\/∃kvs k b,Rd H a (.dT kvs)/\y = .ref b/\H b=al (.tup (k.map kV))/\r=GD kvs k
def A3M (H:Hp) (a:Addr) (y v:V) (H':Hp):Prop:=(∃kvs k,H a=al (.dK kvs)/\y=kV k/\kvs.length < aB/\H'=upd H a (.dK (EQ kvs k v))) \/∃kvs k b,H a=al (.dT kvs)/\y = .ref b/\H b=al (.tup (k.map kV))/\kvs.length < aB/\H'=upd H a (.dT (EQ kvs k v))
section
variable {X:Cx}{pins:List (Addr×cE)}{σ:St}{H:Hp}{s:aq}{a:Addr}{y v:V}{u r:ao}{o:Option V}{A:ca}{E:ao->aq->Prop}
theorem Inv.big (I:Inv X pins σ H s):c4 < s.heap.objs.size:=by have h:bd < s.heap.objs.size:=(I.mod.glob.keeps I.bk).lt;exact xQ (by decide) h
theorem gZ (hu:A.units+1 < ej) (I:Inv X pins σ H s) (g:aW H a y (al v)) (Z:RelV y u) (h:∀f s',Inv X pins σ H s'->RelV v f->Q f s') :
   wpAny (model X.prog X.w) A (fx (.ref a) u) Q E s:=by
 rcases g with ⟨kvs,k,e,n,l⟩ | ⟨kvs,k,b,e,n,c,l⟩
 . subst n;obtain⟨z,hd,j,rel,t⟩:=IR I.hok e;obtain⟨f,i,m⟩:=RelO.some_of (v:=v) (o:=ik j k) (by rw[l];exact rel.val k);exact wpAny_getItem_of (KQ Z) t.mapOf i (h f _ (I.tok _) m)
 . subst n;cases (show u=a0X b from Z);obtain⟨z,hd,q,rel,t⟩:=TL I.hok e;obtain⟨f,i,m⟩:=RelO.some_of (v:=v) (o:=(atKey q k).map (·.2)) (by rw[l];exact rel.val k);obtain⟨p,hp,hp2⟩:=Option.map_eq_some_iff.mp i;refine wpAny_getItem_heap (g8 hu) (Q7 I.hok c) t hp ?_;rw[hp2];exact h f _ (I.tok _) m
theorem A4N (hu:A.units+1 < ej) (I:Inv X pins σ H s) (g:aW H a y o) (Z:RelV y u) (h:∀s',Inv X pins σ H s'->Q (.bool o.isSome) s') :
   wpAny (model X.prog X.w) A (bq .In u (.ref a)) Q E s:=by
 rcases g with ⟨kvs,k,e,n,l⟩ | ⟨kvs,k,b,e,n,p,l⟩
 . subst n;obtain⟨z,hd,i,rel,t⟩:=IR I.hok e;refine wpAny_in_of (KQ Z) hd t.mapOf ?_;rw[<-(rel.val k).isSome_eq,<-l];exact h _ (I.tok _)
 . subst n;cases (show u=a0X b from Z);obtain⟨z,hd,m,rel,t⟩:=TL I.hok e;refine wpAny_in_heap (g8 hu) (Q7 I.hok p) hd t ?_;have q:=(rel.val k).isSome_eq;rw[a4K] at q;rw[<-q,<-l];exact h _ (I.tok _)
theorem tT (hu:A.units+1 < ej) (I:Inv X pins σ H s) (g:aW H a y o) (Z:RelV y u) (h:∀s',Inv X pins σ H s'->Q (.bool (!o.isSome)) s') :
   wpAny (model X.prog X.w) A (bq .NotIn u (.ref a)) Q E s:=by
 rcases g with ⟨kvs,k,e,n,l⟩ | ⟨kvs,k,b,e,n,p,l⟩
 . subst n;obtain⟨z,hd,i,rel,t⟩:=IR I.hok e;refine wpAny_notIn_of (KQ Z) hd t.mapOf ?_;rw[<-(rel.val k).isSome_eq,<-l];exact h _ (I.tok _)
 . subst n;cases (show u=a0X b from Z);obtain⟨z,hd,m,rel,t⟩:=TL I.hok e;refine wpAny_notIn_heap (g8 hu) (Q7 I.hok p) hd t ?_;have q:=(rel.val k).isSome_eq;rw[a4K] at q;rw[<-q,<-l];exact h _ (I.tok _)
theorem K0 (I:Inv X pins σ H s) (n:Mut (H a)) (hs:Heap.SameBut a s.heap h') (he:∃q,h'.get? a=al q) (new:ObjOk X.prog X.w (upd H a t) h' a t) :
   Inv X pins σ (upd H a t) { s with heap:=h',toks:=t' }:=
 I.write (x:=a) (e:=a) n (.inl rfl) (λb q hb z=>(hs.2 b hb).trans z) he new
theorem NK (z:kvs.length<=aB) (hd:(a==c4)=aw) (rel:KV kvs vs) (dd:h'.DictOf (AV P w) a vs) :
   ObjOk P w H' h' a (.dK kvs):=#[z,hd,vs,rel,dd]
theorem h8 (hu:A.units+1 < ej) (I:Inv X pins σ H s) (g:A3M H a y v H') (Z:RelV y u) (N:RelV v r) (h:∀s',Inv X pins σ H' s'->Q () s') :
   wpAny (model X.prog X.w) A (setItem (.ref a) u r) Q E s:=by
 rcases g with ⟨kvs,k,e,m,l,i⟩ | ⟨kvs,k,b,e,m,j,l,i⟩
 . subst m i;obtain⟨z,hd,G,rel,n⟩:=X7 I.hok e;have f:G.length<=sizeLine:=by rw[<-rel.length];exact z
   have p:(EQ kvs k v).length<=sizeLine:=by have:=G3 kvs k v;lia
   refine wpAny_setItem_pairs (hsz:=f) (KQ Z) n λT t hs=>h _ ?_;have he:∃q,T.get? a=al q:=let #[q,_,_,hq,_]:=t;#[q,hq];exact K0 I (by rw[e];exact a8Z) hs he (NK p hd (rel.put k N) t)
 . subst m i;cases (show u=a0X b from Z);obtain⟨z,hd,L,rel,n⟩:=A3L I.hok e;have f:L.length<=sizeLine:=by rw[<-Paired.length rel];exact z
   have p:(EQ kvs k v).length<=sizeLine:=by have:=G3 kvs k v;lia
   refine wpAny_setItem_heap (hsz:=f) (g8 hu) (Q7 I.hok j) n λT t hs=>h _ ?_;obtain⟨q,S,O,hq,M,J,D,_,B⟩:=t;refine K0 I (by rw[e];exact a8Z) hs #[q,hq] #[p,hd,_,(rel.put k j N).keeps λc U x=>?_,q,S,O,hq,M,J,D,B];rw[AH (A2w x e (λz=>nomatch z))];exact x
end
section
variable {X:Cx}{pins:List (Addr×cE)}{σ:St}{H:Hp}{s:aq}{a:Addr}{kvs:List (Key×V)}{k:Key}{u:ao}{A:ca}{E:ao->aq->Prop}
theorem h9 (I:Inv X pins σ H s) (e:H a=al (.dK kvs)) (Z:RelV (kV k) u) (l:(GD kvs k).isSome=ap) (h:∀s',Inv X pins σ (upd H a (.dK (ME kvs k))) s'->Q () s') :
   wpAny (model X.prog X.w) A (delItem (.ref a) u) Q E s:=by
 obtain⟨z,hd,i,rel,t⟩:=X7 I.hok e;refine wpAny_delItem_slot t.typeIs (by decide) PySem.F.slot_dict_delitem
   (call_meetsIn PySem.F.slot_dict_delitem t.typeIs PySem.F.entry_dict_delitem (PySem.F.args_dict_delitem_2 _ _) (meets_dict_delitem_pairs (AV X.prog X.w) a (KQ Z)) #[i,t,by rw[<-rel.length];exact z,by rw[<-(rel.val k).isSome_eq];exact l,λp n hs=>h _ ?_]);have he:∃q,p.get? a=al q:=let #[q,_,_,hq,_]:=n;#[q,hq];exact K0 I (by rw[e];exact a8Z) hs he (NK (zN (X6 kvs k) z) hd (rel.drop k) n)
theorem A3N (I:Inv X pins σ H s) (e:H a=al (.dK kvs)) (Z:RelV (kV k) u) (l:GD kvs k=al v) (r:more=[]\/∃x,more=[x]) (h:∀f s',Inv X pins σ (upd H a (.dK (ME kvs k))) s'->RelV v f->Q f s'):wpAny (model X.prog X.w) A (call (.builtin "dict.pop") (.ref a::u::more)) Q E s:=by
 obtain⟨z,hd,p,rel,n⟩:=X7 I.hok e;obtain⟨f,c,j⟩:=RelO.some_of (v:=v) (o:=ik p k) (by rw[<-l];exact rel.val k);have hp:(keyPart u).isSome=true:=by
   cases k with
   | inl i=>obtain⟨t,q⟩:=(show ∃t,u=Value.int i t from Z);subst q;rfl
   | inr x=>obtain⟨t,q⟩:=(show ∃t,u=c0J x t from Z);subst q;rfl
 have g:argsOk "dict.pop" #[.ref a::u::more,[]]:=by
   rcases r with q | ⟨x,q⟩
   . subst q;exact PySem.F.args_dict_pop_2 _ _
   . subst q;exact PySem.F.args_dict_pop_3 _ _ _
 refine call_meetsIn PySem.F.slot_dict_pop n.typeIs PySem.F.entry_dict_pop g (meets_dict_pop_there (AV X.prog X.w) a (KQ Z) more r hp) #[p,f,n,by rw[<-rel.length];exact z,c,λb m hs=>h f _ ?_ j];have he:∃q,b.get? a=al q:=let #[q,_,_,hq,_]:=m;#[q,hq];exact K0 I (by rw[e];exact a8Z) hs he (NK (zN (X6 kvs k) z) hd (rel.drop k) m)
end
def A3O (i:bp):Prop:=∀N n,subscripted i aw N n=operate [N,n] (fx N n)
theorem tU {id:String} (p:ea (.type T) "__getitem__"=pure (al (.builtin id))) (hs:A3O slice) (h:wpAny (model prog w) A (eval value env) (λo z=>wpAny (model prog w) A (eval slice env) (λi G=>G.TypeIs o T/\wpAny (model prog w) A (fx o i) Q E G) E z) E s) :
   wpAny (model prog w) A (eval (.Subscript value slice pos) env) Q E s:=by
 refine Subscript_ (bg h (λo z b=>bg b (λi G e=>?_) λ_ _ x=>x) λ_ _ x=>x);obtain⟨m,e⟩:=e;unfold subscriptTail;refine zZ ?_;rw[getitemInPython_of_ne m.not_modules];refine zZ (ji m p ?_);have fin:wpAny (model prog w) A (subscripted slice aw o i) (λr t=>wpAny (model prog w) A (letTemporaryGo value o r >>= λ_=>pure r) Q E t) E G:=by rw[hs o i];exact wpAny_operating (bg e (λr t n=>zZ (wpAny_letTemporaryGo (zY n))) λ_ _ x=>x)
 first
   | exact zY (zZ fin)
   | exact zZ (zY (zZ fin))
   | exact zZ fin
theorem X8 {n:St}(I:Inv X pins n H s) (g:aW H a y o):s.TypeIs (.ref a) "dict" := by
 rcases g with ⟨kvs,k,e,_,_⟩ | ⟨kvs,k,b,e,_,_,_⟩
 . obtain⟨_,_,i,_,t⟩:=IR I.hok e;exact t.typeIs
 . obtain⟨_,_,r,_,t⟩:=TL I.hok e;exact t.typeIs
def dO (t ty:TE):TE:=λe H Q=>t e H λx m=>ty e m λy f=>∃a v,x = .ref a/\aW f a y (al v)/\Q v f
def A1M (ty t:TE):TE:=λe H Q=>ty e H λy m=>t e m λx f=>∃a o,x = .ref a/\aW f a y o/\Q (.bl o.isSome) f
def dP (ty t:TE):TE:=λe H Q=>ty e H λy m=>t e m λx f=>∃a o,x = .ref a/\aW f a y o/\Q (.bl (!o.isSome)) f
def A0N (t ty n:TE):TS:=λD e H=>n e H λv m=>t e m λx f=>ty e f λy i=>∃a b,x = .ref a/\A3M i a y v b/\D.nx e b
def A0O (t ty:TE):TS:=λD e H=>t e H λx m=>ty e m λy f=>∃a kvs k,x = .ref a/\f a=al (.dK kvs)/\y=kV k/\(GD kvs k).isSome=ap/\D.nx e (upd f a (.dK (ME kvs k)))
section
variable {X:Cx}{o i e value:bp}{pos pos' kc:ew}{td ty tv:TE}
theorem DJ (hu:X.A.units+1 < ej) (ho:PE X o td) (hi:PE X i ty) (hs:A3O i):PE X (.Subscript o i pos) (dO td ty):=by intro pins s t H Q I h;refine tU PySem.F.slot_dict_getitem.lookup hs (thn (ho pins s t H _ I h) λu c #[x,n,G,b,T]=>thn (hi pins c t n _ G T) λj k #[y,f,m,Z,a,v,r,g,B]=>?_);subst r;obtain rfl:u=a0X a:=b;exact#[X8 m g,gZ hu m g Z λz q N p=>#[v,f,N,p,B]]
theorem V1 (hu:X.A.units+1 < ej) (hi:PE X i ty) (ho:PE X o td):PC X .In i o (A1M ty td):=by intro pins s t H Q I h;refine thn (hi pins s t H _ I h) λj c #[y,m,G,Z,T]=>thn (ho pins c t m _ G T) λu v #[x,f,n,b,a,p,r,g,B]=>?_;subst r;obtain rfl:u=a0X a:=b;exact A4N hu n g Z λk N=>#[.bl p.isSome,f,N,rfl,B]
theorem TM (hu:X.A.units+1 < ej) (hi:PE X i ty) (ho:PE X o td):PC X .NotIn i o (dP ty td):=by intro pins s t H Q I h;refine thn (hi pins s t H _ I h) λj c #[y,m,G,Z,T]=>thn (ho pins c t m _ G T) λu v #[x,f,n,b,a,p,r,g,B]=>?_;subst r;obtain rfl:u=a0X a:=b;exact tT hu n g Z λk N=>#[.bl (!p.isSome),f,N,rfl,B]
theorem MG (hu:X.A.units+1 < ej) (ho:PE X o td) (hi:PE X i ty) (S:PE X value tv) (hs:gt value (al (.Subscript o i pos')) pos.line X.env=pure aw) :
   PS X (.Assign [.Subscript o i pos'] value pos) (A0N td ty tv):=by intro pins s t H D I h;refine wpAny_Assign_Subscript (thn (S pins s t H _ I h) λr z #[v,m,G,k,T]=>thn (ho pins z t m _ G T) λu O #[x,f,n,q,B]=>thn (hi pins O t f _ n B) λJ L #[y,M,N,Z,a,b,c,g,j]=>?_) hs;subst c;obtain rfl:u=a0X a:=q;exact h8 hu N g Z k λQ p=>#[t,b,p,j]
theorem tV (ho:PE X o td) (hi:PE X i ty):PS X (.Delete [.Subscript o i kc] pos) (A0O td ty):=by intro pins s t H D I h;refine wpAny_Delete (wpAny_deleteEach_cons (wpAny_delete_Subscript (thn (ho pins s t H _ I h) λu c #[x,m,G,b,T]=>thn (hi pins c t m _ G T) λg v #[y,f,n,Z,a,kvs,k,r,e,p,l,B]=>?_)));subst r p;obtain rfl:u=a0X a:=b;exact h9 n e Z l λj N=>wpAny_deleteEach_nil #[t,_,N,B]
end
theorem Q8 (h:cr) (hb:c4 < h.objs.size):ObjOk P w H (h.push { cls:=.type "dict", data:=.dict #[] }) h.objs.size (.dK []):=#[xT _,beq_eq_false_iff_ne.mpr (a4Z (zC hb)),[],.nil,Heap.DictOf.new h]
def lW:TE:=λ_ H Q=>∀p,H p=am->Q (.ref p) (upd H p (.dK []))
section
variable {X:Cx}{pos:ew}
theorem lX:PE X (.Dict [] [] pos) lW:=λpins s e H Q I h=>
 wpAny_Dict_empty #[.ref s.heap.objs.size,_,I.laid (a:=s.heap.objs.size) (o:=.dK []) (t':=s.toks) (λ_ _ q=>zW _ q) (zR _) (Q8 s.heap I.big),rfl,h _ (I.hok.fresh (zR _))]
end
def V2:List (TE×TE)->St->Hp->(List (V×V)->Hp->Prop)->Prop
 | [],_,H,Q=>Q [] H
 | (n,p)::r,e,H,Q=>n e H λx m=>p e m λy f=>V2 r e f λt i=>Q ((x,y)::t) i
abbrev VV:List (V×V)->List (ao×ao)->Prop:=Paired λp q=>RelV p.1 q.1/\RelV p.2 q.2
def PPs (X:Cx) (pos:ew) (keys:List (Option bp)) (values:List bp) (n:List (TE×TE)):Prop:=∀(pins:List (Addr×cE)) (s:aq) (e:St) (H:Hp) (Q:List (V×V)->Hp->Prop),Inv X pins e H s->V2 n e H Q ->
   wpAny (model X.prog X.w) X.A (evalPairs (pairTrees keys values X.env pos)) (λi s'=>∃t H',Inv X pins e H' s'/\VV t i/\Q t H') X.xe s
theorem tW {X:Cx}{pos:ew}:PPs X pos [] [] []:=λpins s e H Q I h=>pairTrees_nil_walk #[[],H,I,.nil,h]
theorem X9 {X:Cx}{pos:ew}{k v:bp}{ks:List (Option bp)}{vs:List bp}{tk n:TE}{t:List (TE×TE)}(hk:PE X k tk) (S:PE X v n) (hr:PPs X pos ks vs t) :
   PPs X pos (al k::ks) (v::vs) ((tk,n)::t):=λpins s e H Q I h=>
 pairTrees_cons_walk (thn (hk pins s e H _ I h) λu g #[x,m,G,c,T]=>thn (S pins g e m _ G T) λO j #[y,f,r,Z,B]=>
   thn (hr pins j e f _ r B) λz q #[p,i,N,rel,b]=>#[(x,y)::p,i,N,.cons #[c,Z] rel,b])
def J0 (kvs more:List (Key×V)):List (Key×V):=more.foldl (λacc kv=>EQ acc kv.1 kv.2) kvs
theorem KV.merge:∀{more:List (Key×V)}{n:List (Key×ao)}{kvs:List (Key×V)}{vs:List (Key×ao)},KV more n->KV kvs vs->KV (J0 kvs more) (merged vs n):=by
 intro more n kvs vs r;unfold KV at r;induction r generalizing kvs vs with
 | nil=>intro q;exact q
 | @cons p q i m h t U=>
   intro u;have e:KV (EQ kvs p.1 p.2) (stored vs q.1 q.2):=by have:=u.put p.1 h.2;rw[<-h.1];exact this
   exact U e
theorem KR:∀(more kvs:List (Key×V)),(J0 kvs more).length<=kvs.length+more.length
 | [],kvs=>by show kvs.length<=kvs.length+0;lia
 | p::r,kvs=>by have h1:=KR r (EQ kvs p.1 p.2);have e:=G3 kvs p.1 p.2;show(J0 (EQ kvs p.1 p.2) r).length<=_;rw[yR];lia
theorem Q9 :∀{kvs:List (Key×V)}{n:List (ao×ao)},VV (kvs.map λkv=>(kV kv.1,kv.2)) n->∃e,Carries (AV P w) n e/\KV kvs e
 | [],_,r=>by rw[b8X] at r;cases r;exact#[[],a8Z,.nil]
 | p::kvs,_,r=>by
   rw[zI] at r;cases r with
   | @cons a b as bs h t=> obtain⟨e,c,q⟩:=Q9 (P:=P) (w:=w) t;obtain⟨b1,j⟩:=b;exact#[(p.1,j)::e,#[KQ h.1,rfl,c],.cons #[rfl,h.2] q]
def A0P (e:List (TE×TE)):TE:=λn H Q=>∀p,H p=am->V2 e n (upd H p (.dK [])) λt f=>f p=al (.dK [])/\∃kvs:List (Key×V),t=kvs.map (λkv=>(kV kv.1,kv.2))/\kvs.length<=15/\Q (.ref p) (upd f p (.dK (J0 [] kvs)))
theorem tX {X:Cx}{pos:ew}{keys:List (Option bp)}{values:List bp}{t:List (TE×TE)}(h:PPs X pos keys values t) (j:keys.all (·.isSome)=ap) (p:keys.length=values.length) (S:keys≠[]) (n:keys.length<=15):PE X (.Dict keys values pos) (A0P t):=by
 intro pins s v H Q I q;have hn:=I.hok.fresh (zR s.heap.objs.size);have G:=I.laid (a:=s.heap.objs.size) (o:=.dK []) (h':=s.heap.push { cls:=.type "dict", data:=.dict #[] }) (t':=s.toks) (λ_ _ q=>zW _ q) (zR _) (Q8 s.heap I.big);refine wpAny_Dict_walk (knd:=AV X.prog X.w) j p S n (thn (h pins _ v _ _ G (q _ hn)) λM O #[N,x,m,rel,e,kvs,r,T,B]=>?_);subst r;obtain⟨g,c,f⟩:=Q9 (P:=X.prog) (w:=X.w) rel;obtain⟨z,hd,y,u,i⟩:=X7 m.hok e;cases u;refine#[g,c,i,λh' k hs=>#[.ref s.heap.objs.size,_,?_,rfl,B]];have b:(J0 [] kvs).length<=sizeLine:=by have h1:=KR kvs [];rw[b6V] at h1;rw[c0];lia
 have he:∃q,h'.get? s.heap.objs.size=al q:=let #[q,_,_,hq,_]:=k;#[q,hq];exact K0 m (by rw[e];exact a8Z) hs he (NK b hd (f.merge .nil) k)
structure M1 (X:Cx) (o:bp) (m:Str) (apos:ew) (e:bp) (ah:ew):Prop where
 base:attributeBase o m X.env (eval o X.env)=eval o X.env
 few:((backTo ah (starEach [e] X.env)).all (λx=>!x.1)&&(backToKw ah (keywordEach [] X.env)).all (λx=>x.1.isSome)
   && decide (([e]:List bp).length+([]:List Keyword).length+(if ([]:List Keyword).isEmpty then 0 else 1) < 30))=ap
 line:(apos.endLine==ah.line)=ap
 trees:backTo ah (starEach [e] X.env)=[(aw,eval e X.env)]
def IsD (H:Hp) (a:Addr):Prop:=(∃kvs,Rd H a (.dK kvs))\/∃kvs,Rd H a (.dT kvs)
theorem A1N {i:St}(I:Inv X pins i H s) (d:IsD H a) :
   s.TypeIs (.ref a) "dict" /\ (∀b,a0X a = .ref b->∃u,s.heap.get? b=al u/\u.dict=am)/\(a==c4)=false:=by
 rcases d with ⟨kvs,e⟩ | ⟨kvs,e⟩
 . obtain⟨_,hd,r,_,t⟩:=IR I.hok e;refine#[t.typeIs,λb q=>?_,hd];cases q;obtain⟨u,_,_,h1,n,_⟩:=t;exact#[u,h1,n.2.1]
 . obtain⟨_,hd,m,_,t⟩:=TL I.hok e;refine#[t.typeIs,λb q=>?_,hd];cases q;obtain⟨u,_,_,h1,n,_⟩:=t;exact#[u,h1,n.2.1]
def lY (t ty:TE):TE:=λe H Q=>t e H λx m=>∃a,x = .ref a/\IsD m a/\ty e m λy f=>∃kvs k v,f a=al (.dK kvs)/\y=kV k/\GD kvs k=al v/\Q v (upd f a (.dK (ME kvs k)))
section
variable {X:Cx}{o e f:bp}{apos ah:ew}{td ty tx:TE}
theorem XA (ho:PE X o td) (he:PE X e ty) (m:M1 X o "pop" apos e ah):PE X (.Call (.Attribute o "pop" apos) [e] [] ah) (lY td ty):=by intro pins s t H Q I h;refine wpAny_Call_method m.base m.few m.line PySem.F.plainAttrs_dict PySem.F.slot_dict_pop PySem.F.type_dict_pop (thn (ho pins s t H _ I h) λu j #[x,n,G,g,a,r,d,T]=>?_);subst r;obtain rfl:u=a0X a:=g;obtain⟨q,z,_⟩:=A1N G d;refine#[q,z,?_];rw[m.trees];refine b9J rfl (Calls.evalArgs_plain (xP (thn (he pins j t n _ G T) λS M #[y,O,i,Z,kvs,k,v,b,p,l,B]=>Calls.spliced_nil ?_)));subst p;exact A3N i b Z l (.inl rfl) λJ D N c=>#[v,_,N,c,B]
end
end L2
namespace Att
open PySem PySem.W PySem.Calls PyProof.Rows
theorem P3 :∀(ns:List Int) (vs:List ao),WellAll P h vs (ns.map WData.int)->IntsAre vs ns:=by
 intro ns;induction ns with
 | nil=> intro vs w;rw[b8X] at w;cases w;exact .nil
 | cons n ns U=>
   intro vs w;rw[zI] at w;cases w with
   | cons a b=> cases a;exact .cons _ _ (U _ b)
theorem script_of {l:OpenLaw}(hn:l.most=al n)  (L:l.row.toRowW.claim.pre args=ap) (Q:WellAll P h vals args) : ∃a vs ns,vals=[a0X a]/\args=[WData.list (ns.map WData.int)]/\h.get? a=al { cls:=.type "list", data:=.seq vs.toArray }/\IntsAre vs ns/\ns.length<=n:=by
 have U:WShape.hasAll [] args [.list .int]=true:=(pre_splitW L).1;have hc:l.pre.holds [] { args:=args }=true:=(pre_splitW L).2;obtain⟨d,r,rfl,h1,e⟩:=hasAllW_cons U;obtain rfl:=hasAllW_nil e;obtain⟨p,rfl,t⟩:=hasW_list h1;obtain⟨ns,rfl⟩:=items_int t;have k:ns.length<=n:=by
   unfold OpenLaw.pre at hc;have J:(WTm.not (.lt (.lit (.int (n:Int))) (.len (.arg 0)))).holds [] { args:=[.list (ns.map .int)] }=true:=by have J:=(holds_andW hc).1;rw[hn] at J;exact J
   have u:=condW_of J (w_not (w_lt w_lit (w_len_list (w_arg rfl))));rw[zX] at u;refine Nat.le_of_not_lt λq=>?_;have f:(n:Int) < ((ns.length:Nat):Int):=by lia
   first
     | (rw[decide_eq_true f] at u;exact absurd u (by decide))
     | (simp at u;lia)
 cases Q with
 | cons i O=>
   cases O;cases i with
   | list ho m=>exact#[_,_,ns,rfl,rfl,ho,P3 ns _ m,k]
theorem post_true (l:OpenLaw) (args:List WData):l.row.toRowW.claim.post args (.bool ap) args=true:=
 postW_of (r:=l.row.toRowW) (X:=(ap==ap)) (show WShape.has [] (.bool ap) .bool=ap by first | rfl | decide | simp[WShape.has,WShape.arms,WShape.armsAll])
   (show(WTm.eq .res (.lit (.bool ap))).value [] { args:=args,res:=al (.bool ap),after:=args }=al (.bool (ap==ap)) from w_eq_bool (w_res rfl) w_lit) rfl
end Att
namespace L2
open PySem PySem.Spec PyProof.Rows
theorem TN:∀{vs:List ao}{ns:List Int},IntsAre vs ns->Vals (ns.map V.int) vs
 | _,_,.nil=>.nil
 | _,_,.cons n t h=>.cons #[t,rfl] (TN h)
def A1O (H:Hp):Prop:=∀b,H b=am\/∃o t,H b=al (.frz o (.lst t))
theorem lZ {K:Frg} (KX:K.In t.heap) (j:t.heap.Ns bd mg) (hb:t.heap.Ns builtinsNs f) (U:∀x:Str,x ≠ "__name__" -> f x=gl x) (G:t.heap.NoLimit) (hg:t.gens=#[]) (g:t.heap.get? a=al { cls:=.type "list", data:=.seq vs.toArray }) (hi:IntsAre vs ns) (T:ns.length<=aB) (hr:Room k callerA) (F:∀base:cr,K.In base->base.Ns bd mg->FnOk P w K mg base CX k c N [x] sp) (B:∀(s:aq) (u:ao),BindsTo s N #[[u],[]] [(x,u)]) (j_:∀H:Hp,A1O H->SqL K H a (ns.map V.int)->sp [.ref a] H (λv _=>v = .bl ap) λ_ _ _=>False) (L:∀H e s',CX [] H t (λ_ _ _=>False) e s'->False) :
   codeAny (model P w) callerA (.call (.ref c) #[[.ref a],[]]) (λr s'=>r = .ok (.ret (.bool ap))/\OldK t.heap s'.heap/\s'.os=t.os/\im s'.gens) t:=by
 have M:=TN hi;have Q:=hi.length;have core:∀H:Hp,A1O H->SqL K H a (ns.map V.int)->HOk P w H t.heap->(∀b,H b≠am->b=a)->(H a≠am->K.lookup a=am) ->
     codeAny (model P w) callerA (.call (.ref c) #[[.ref a],[]]) (λr s'=>r = .ok (.ret (.bool ap))/\OldK t.heap s'.heap/\s'.os=t.os/\im s'.gens) t:=by
   intro H hO hS hok hA hK;have O:∀{b:Addr}{o:cE},t.heap.get? b=al o->H b=am->(UP t.heap H).get? b=al o:=λe n=>kW e n;have D:∀{b:Addr}{o:cE}{I:Array DictEntry}{i:Nat},t.heap.get? b=al o->o.data = .dict I i->H b=none:=λ{b o I i} e d=>by
     cases q:H b with
     | none=>rfl
     | some u=> have e':b=a:=hA b (by rw[q];simp);subst e';rw[g] at e;cases e;have X:Data.seq vs.toArray _=Data.dict I i:=d;cases X
   have p:∀{b:Addr}{m:Str->Option ao},t.heap.Ns b m->(UP t.heap H).Ns b m:=λ{b m} #[o,I,i,e,d,r]=>#[o,I,i,O e (D e d),d,r]
   have S:K.In (UP t.heap H):=λb o e=>O (KX b o e) (by
     cases q:H b with
     | none=>rfl
     | some u=> have e':b=a:=hA b (by rw[q];simp);subst e';rw[hK (by rw[q];simp)] at e;cases e);have hM:Mod K mg (UP t.heap H):=#[S,p j,#[f,p hb,U],let #[mc,h1,h2]:=G;#[mc,p h1,h2]]
   have Y:Env0 P w K mg (UP t.heap H) callerA [] t H:=#[rfl,hM,λb o e=>t8 e,Nat.le_of_eq (gQ _ _),trivial,λb hb=>absurd (show b∈([]:List Addr) from hb) (by simp),hok,.of_eq hg]
   refine xN ((F _ S (p j)).run callerA [] t H #[[.ref a],[]] [.ref a] [.ref a] _ _ hr Y (B t (.ref a)) (.cons rfl .nil) (j_ H hO hS)) λr s' h=>?_;cases r with
   | error e=>exact(L H e s' h).elim
   | ok fl=>
     cases fl with
     | next=>exact a6W h
     | brk=>exact a6W h
     | cont=>exact a6W h
     | ret u=>
       obtain⟨v,H',os,bare,un,xv,r',q⟩:=h;have q':v = .bl true:=q;subst q';obtain rfl:u=Value.bool true:=r';refine#[rfl,OldK.of_keep λb o e=>?_,os,bare];cases q:H b with
       | none=>exact un.keep b o e q (by intro z;exact absurd (show b∈([]:List Addr) from z) (by simp)) (by simp)
       | some u=>
         rcases hO b with z | ⟨ob,xs,z⟩
         . rw[q] at z;cases z
         . have z2:=un.frzs b ob _ z;obtain⟨y,_⟩:=hok b _ z;obtain⟨Z,_⟩:=xv b _ z2;rw[e] at y;cases y;exact Z
 cases hk:K.lookup a with
 | some o=> have e:=KX a o hk;rw[g] at e;cases e;refine core (λ_=>am) (λ_=>.inl rfl) (.inr #[_,vs.toArray,_,hk,rfl,rfl,rfl,by rw[zJ,Q];exact T,by simpa using M]) (λb u z=>by have J:(am:Option HO)=al u:=z;cases J) (λb z=>absurd rfl z) λz=>absurd rfl z
 | none=>
   refine core (λb=>if b=a then al (.frz { cls:=.type "list", data:=.seq vs.toArray } (.lst (ns.map V.int))) else am) (λb=>?_) (.inl (.inr #[{ cls:=.type "list", data:=.seq vs.toArray },if_pos rfl])) (λb u z=>?_) (λb z=>?_) λ_=>hk
   . by_cases hb:b=a;. exact .inr #[_,_,if_pos hb]
     . exact .inl (if_neg hb)
   . by_cases hb:b=a;. have J:=(if_pos hb).symm.trans z;cases J;subst hb;exact#[g,by rw[zX];exact T,vs,_,M,g]
     . have J:=(if_neg hb).symm.trans z;cases J
   . by_cases hb:b=a;. exact hb
     . exact absurd (if_neg hb) z
def DK (s:eu):Arguments:=match s with
 | .FunctionDef _ a _ _ _ _ _ _ _ _=>a
 | _=>{ posonlyargs:=[],args:=[],vararg:=am,kwonlyargs:=[],kw_defaults:=[],kwarg:=am,defaults:=[] }
def BE (s:eu):List Stmt:=match s with
 | .FunctionDef _ _ b _ _ _ _ _ _ _=>b
 | _=>[]
def AB (s:eu):Scope:=match s with
 | .FunctionDef _ _ _ _ _ _ f _ _ _=>f
 | _=>{ kind:=.function,names:=[],isGenerator:=aw,isCoroutine:=aw }
abbrev CX0:CXT:=λ_ _ _ _ _ _=>False
abbrev E0:XK:=λ_ _ _=>False
theorem A3P :aT CX0 X E0:=λ_ _ _ _ _ _ _ h=>h.elim
structure Fun (K:Frg) (x qual:Str) (st:eu) (f:Addr) (fd:dV):Prop where
 ex:∃(oc:ao) (od:Option Addr) (kV doc pm:ao) (an:Option Addr) (cdv ct:ao) (osl:Array (Option ao)),
   fd=a5Z x qual (DK st) (BE st) (AB st) .none kV doc pm an cdv ct/\K.lookup f=al #[oc,od,.func fd,osl]/\b0Q K cdv qual=ap
 kp:a3K K (.ref f)=ap
section
variable {P:bn}{w:bj}{K:Frg}{mg:Str->Option ao}{base:cr}
theorem Fun.ok {st:eu}(F:Fun K x qual st f e) (S:FnScope N ps (AB st)) (len:∀vs H Q E,sp vs H Q E->vs.length=ps.length) (v:∀(cdv:ao) (A:ca) (outer:List i3) (s:aq) (H:Hp) (vs:List V) (Q:VK) (E:XK),Room k (A.deeper (gc qual (AB st) s.heap.objs.size f cdv))->sp vs H Q E ->∃t,PSs (HN CX0 P w K mg base N qual (AB st) f cdv A outer s H E).nox (BE st) t/\t { nx:=λ_ H'=>Q .non H',rt:=Q } (DW N vs) H):FnOk P w K mg base CX0 (k+1) f e ps sp:=by obtain⟨p,i,kV,doc,r,L,cdv,T,osl,rfl,j,n⟩:=F.ex;refine A0K j n S len λA outer s H vs Q E hr y=>?_;obtain⟨t,h,q⟩:=v cdv A outer s H vs Q E hr y;exact#[t,h.nox,q]
theorem Fun.binds {st:eu}(F:Fun K x qual st f N) (h:∀(kV doc e:ao) (L:Option Addr) (cdv ct:ao) (t:List ao),t.length=ps.length->bindArgs (a5Z x qual (DK st) (BE st) (AB st) .none kV doc e L cdv ct) #[t,[]]=pure (ps.zip t)):Binds K N ps []:=by obtain⟨p,i,kV,doc,e,L,cdv,ct,osl,rfl,j,n⟩:=F.ex;exact .all (h kV doc e L cdv ct)
theorem aX {x qual:Str}{st:eu}{f:Addr}{p:ao}{t L:Option Addr}{osl:Array (Option ao)}{kV doc e cdv ct:ao}(l:K.lookup f=al #[p,t,.func (a5Z x qual (DK st) (BE st) (AB st) .none kV doc e L cdv ct),osl]) (c:b0Q K cdv qual=ap) (k:a3K K (.ref f)=ap):Fun K x qual st f (a5Z x qual (DK st) (BE st) (AB st) .none kV doc e L cdv ct):=#[#[p,t,kV,doc,e,L,cdv,ct,osl,rfl,l,c],k]
end
section
variable {X:Cx}
theorem pv (i:Nat) {x:Str}{pos:ew}(hN:X.N[i]?=al x:=by rfl) (S:Vis X.env.scope x:=by first | exact Or.inl rfl | exact Or.inr (Or.inl rfl) | exact Or.inr (Or.inr rfl)) (hd:(x==("__debug__":Str))=false:=by decide)
   (e:(x==("__classdict__":Str))=false:=by decide):PE X (.Name x pos) (X3 i):=l0 hN S hd e
end
theorem m5 {A:Prop}(h:B):if aw=ap then A else B:=by rw[if_neg nft];exact h
theorem hU {A:Prop}(h:A):if ap=ap then A else B:=by rw[if_pos rfl];exact h
theorem A1P {A:Prop}[Decidable c] (h1:c->A) (e:¬c->B):if c then A else B:=by
 by_cases h:c;. rw[if_pos h];exact h1 h
 . rw[if_neg h];exact e h
end L2
namespace L2
open PySem PySem.Spec PyProof.Rows
def NL (cells:List (Str×Addr)):List (Str×eg)->List (Str×Addr)->List (Str×Addr)
 | [],t=>t
 | (n,k)::r,t=>NL cells r (if k==.free then (match cells.lookup n with | some c=>(n,c)::t | none=>t) else t)
theorem V3 (env:i3):∀(names:List (Str×eg)) (cs:List (Str×Addr)),(∀y∈names,y.2 = .free->∃c,env.cells.lookup y.1=al c) ->(forIn (m:=Sem) names cs λx r=>do
     let (name,kind):=x
     if (kind==.free)=ap then do let c <- cellOf env name;pure (b3V ((name,c)::r)) else pure (b3V r))=pure (NL env.cells names cs)
 | [],cs,_=>rfl
 | (n,k)::r,cs,h=>by
   have hr:∀y∈r,y.2 = .free->∃c,env.cells.lookup y.1=al c:=λy hy=>h y (yV _ hy);rw[List.forIn_cons];by_cases hk:(k==a7V)=ap;. obtain⟨c,hc⟩:=h (n,k) a0Z (by simpa using hk);have g:env.cells.lookup n=al c:=hc;simp only[hk,if_true,cellOf,g,NL];exact V3 env r _ hr
   . simp only[hk,if_false,NL];exact V3 env r _ hr
theorem tY (h:∀y∈scope.names,y.2 = .free->∃c,env.cells.lookup y.1=al c):closureFor scope env=pure (NL env.cells scope.names []):=by
 have e:=V3 env scope.names [] h;have j:closureFor scope env=((forIn (m:=Sem) scope.names ([]:List (Str×Addr)) λx r=>do
     let (name,kind):=x
     if (kind==.free)=ap then do let c <- cellOf env name;pure (b3V ((name,c)::r)) else pure (b3V r)) >>= λr=>pure r):=rfl;rw[j,e];rfl
theorem XB :∀{names:List (Str×eg)}{cs:List (Str×Addr)},(∀p∈cs,cells.lookup p.1=al p.2)->∀p∈NL cells names cs,cells.lookup p.1=al p.2
 | [],_,h=>h
 | (n,k)::r,cs,h=>by
   refine XB (names:=r) ?_;split
   . cases e:cells.lookup n with
     | none=>exact h
     | some c=>
       intro p hp;rcases yX.mp hp with rfl | hp;. exact e
       . exact h p hp
   . exact h
theorem TQ :∀{names:List (Str×eg)}{cs:List (Str×Addr)}{p:Str×Addr},p∈cs->p∈NL cells names cs
 | [],_,_,h=>h
 | (n,k)::r,cs,p,h=>by
   refine TQ (names:=r) ?_;split
   . cases e:cells.lookup n with
     | none=>exact h
     | some c=>exact yV _ h
   . exact h
theorem XD (hc:cells.lookup x=al c):∀{names:List (Str×eg)}{cs:List (Str×Addr)},(x,a7V)∈names->(x,c)∈NL cells names cs
 | [],_,h=>absurd h (by simp)
 | (n,k)::r,cs,h=>by
   rcases yX.mp h with e | h;. cases e;refine TQ (names:=r) ?_;simp[hc]
   . exact XD hc (names:=r) h
theorem QA {t:Type}:∀{l:List (Str×t)}{x:Str}{c:t},(x,c)∈l->∃i,l.lookup x=al i
 | [],_,_,h=>absurd h (by simp)
 | (n,k)::r,x,c,h=>by
   rw[a3W];cases e:x==n with
   | true=>exact#[k,rfl]
   | false=>
     rcases yX.mp h with e' | h;. cases e';simp at e
     . exact QA h
theorem CD (h:(NL cells names []).lookup x=al c):cells.lookup x=al c:=
 XB (names:=names) (cs:=[]) (by simp) (x,c) (a6Q h)
structure CSc (X:Cx) (scope:fc) (NC:List Str) (fr:List (Option Nat)):Prop where
 kind:scope.kind = .function
 nocell:∀y∈scope.names,y.2≠.cell
 names:∀y∈scope.names,y.2 = .local->scope.names.lookup y.1=al .local
 free:∀y∈scope.names,y.2 = .free->X.env.kindOf y.1=al .cell\/X.env.kindOf y.1=al .free
 len:fr.length=NC.length
 slot:∀(i j:Nat) (x:Str),NC[i]?=al x->fr[i]?=al (al j)->X.N[j]?=al x/\scope.names.lookup x=al .free/\Vis X.env.scope x/\X.env.kindOf x≠al .local
def capt (v:List (Option Nat)) (e:St):St:=v.map λo=>o.bind λj=>(e[j]?).join
def AW (X:Cx) (scope:fc) (NC:List Str) (C:Addr) (s:aq) (H:Hp) (ex:List Addr) (pn:List (Addr×cE)):Cx where
 prog:=X.prog
 w:=X.w
 K:=X.K
 mg:=X.mg
 base:=X.base
 A:=X.A
 N:=NC
 s₀:=s
 H₀:=H
 env:=compEnvC scope (NL X.env.cells scope.names []) C X.env
 outer:=X.stack
 stack:=X.stack
 ex:=ex
 fn:=λ_=>aw
 calm:=X.calm
 pn:=pn
 xe:=λ_ _=>False
theorem KS {scope:fc}{env:i3}{x:Str}:∀{names:List (Str×eg)},((names.map λ(n,k)=>if (k==a7V&&env.scope.kind==.function&&env.kindOf n==al .cell) then (n,NameKind.cell) else (n,k)).lookup x=al .cell \/(names.map λ(n,k)=>if (k==a7V&&env.scope.kind==.function&&env.kindOf n==al .cell) then (n,NameKind.cell) else (n,k)).lookup x=al .free) ->(∀y∈names,y.2≠.cell)->(x,a7V)∈names
 | [],h,_=>by simp at h
 | (n,k)::r,h,hn=>by
   have U:=@KS scope env x r;have t:∀y∈r,y.2≠.cell:=λy hy=>hn y (yV _ hy);have hk:=hn (n,k) a0Z;simp only[zI] at h;by_cases hc:(k==a7V&&env.scope.kind==.function&&env.kindOf n==al .cell)=ap
   . simp only[hc,if_true,a3W] at h;cases hx:x==n with
     | true=>
       have e:x=n:=by simpa using hx
       have j:k = .free:=by simp at hc;exact hc.1.1
       subst e j;exact a0Z
     | false=> simp only[hx] at h;exact yV _ (U h t)
   . simp only[hc,a3W] at h;cases hx:x==n with
     | true=>
       have e:x=n:=by simpa using hx
       subst e;simp[a3W] at h;rcases h with h | h;. exact absurd h hk
       . subst h;exact a0Z
     | false=> simp[a3W,hx] at h;exact yV _ (U (by simpa using h) t)
section
theorem CSc.has (S:CSc X scope NC fr) (ok:X.Ok):∀y∈scope.names,y.2 = .free->∃c,X.env.cells.lookup y.1=al c:=λy hy M=>ok.has y.1 (S.free y hy M)
theorem CSc.cells (S:CSc X scope NC fr) (ok:X.Ok) (h:(x,a7V)∈scope.names):∃c,(NL X.env.cells scope.names []).lookup x=al c/\X.env.cells.lookup x=al c:=by obtain⟨c,hc⟩:=S.has ok _ h rfl;have g:X.env.cells.lookup x=al c:=hc;obtain⟨e,p⟩:=QA (XD g h (cs:=[]));have:=CD p;rw[g] at this;cases this;exact#[_,p,g]
theorem V4 (hn:∀y∈scope.names,y.2 = .local->scope.names.lookup y.1=al .local) (h:(x,a7V)∈scope.names) (t:scope.names.lookup x≠al .free->False):(relabel scope env).names.lookup x=al .cell\/(relabel scope env).names.lookup x=al .free:=by
 have M:scope.names.lookup x=al .free:=by
   cases e:scope.names.lookup x with
   | none=>exact(t (by rw[e];intro z;cases z)).elim
   | some k=>
     cases k <;> first
       | rfl
       | exact(t (by rw[e];intro z;cases z)).elim
 have i:∀(names:List (Str×eg)),names.lookup x=al .free ->((names.map λ(n,k)=>if (k==a7V&&env.scope.kind==.function&&env.kindOf n==al .cell) then (n,NameKind.cell) else (n,k)).lookup x=al .cell \/(names.map λ(n,k)=>if (k==a7V&&env.scope.kind==.function&&env.kindOf n==al .cell) then (n,NameKind.cell) else (n,k)).lookup x=al .free):=by
   intro names;induction names with
   | nil=>intro h;simp at h
   | cons y r U=>
     obtain⟨n,k⟩:=y;intro h;rw[a3W] at h;simp only[zI];cases hx:x==n with
     | true=>
       simp only[hx] at h;cases h;split;. left;simp[a3W,hx]
       . right;simp[a3W,hx]
     | false=>
       simp only[hx] at h;have:=U h;split;. simpa [a3W,hx] using this
       . simpa [a3W,hx] using this
 exact i scope.names M
end
end L2
namespace L2
open PySem PySem.Spec PyProof.Rows
theorem AO {t:Sem e}(h:wpAny M A t Q (λ_ _=>False) s):wpAny M A t Q E s:=
 bg h (λ_ _ q=>q) λ_ _ f=>f.elim
def LA (ifs:List bp) (env:i3):Sem Bool:=forIn ifs ap λc r=>if r=ap then do let ok <- isTrue c env (eval c env);pure (b3V ok) else pure (b3V r)
def V5 (prog:bn) (w:bj) (A:ca) (i target:bp) (ifs:List bp) (tl:i3->Addr->(aq->Prop)->aq->Prop):Prop:=∀(L D:Addr) (env:i3) (R:Result->aq->Prop) (I:Nat->aq->Prop),(∀n s,I n s->wpAny (model prog w) A (pyNext (.ref L)) (λr z=>match r with
     | none=>R (.ok .next) z
     | some v=>wpAny (model prog w) A (letOwnedTupleGo target (.ref L) v) (λ_ h=>wpAny (model prog w) A (ko target env v) (λ_ G=>
         wpAny (model prog w) A (LA ifs env) (λok e=>if ok=ap then tl env D (λs'=>∃m,m < n/\I m s') e else ∃m,m < n/\I m e) (λ_ _=>False) G) (λ_ _=>False) h) (λ_ _=>False) z) (λ_ _=>False) s) ->
   ∀n s,I n s->codeAny (model prog w) A (.compLoop i 0 (.ref L) (.ref D) env) R s
def tlL (prog:bn) (w:bj) (A:ca) (elt:bp):i3->Addr->(aq->Prop)->aq->Prop:=λenv D P s=>wpAny (model prog w) A (eval elt env) (λx X=>wpAny (model prog w) A (call (.builtin "list.append") [.ref D,x]) (λ_ e=>P e) (λ_ _=>False) X) (λ_ _=>False) s
theorem tZ :V5 prog w A (.ListComp elt [#[target,iter,ifs,0]] scope pos) target ifs (tlL prog w A elt):=by
 intro L D env R I turn n s h;refine codeAny_loop rfl I (λn s hI=>?_) n h;show wpAny _ A ((compTurn (.ListComp elt [#[target,iter,ifs,0]] scope pos) 0 (.ref L) (.ref D) env).onRaise (λx=>do g0 x env;theTreesLotGoes x)) _ _ s;refine wpAny_noted ?_;rw[compTurn_list];refine zZ (bv (zZ (bg (AO (turn n s hI)) (λr z b=>?_) λ_ _ p=>p)));cases r with
 | none=>exact zY b
 | some v=>
   refine zZ (bg (AO b) (λ_ t g=>?_) λ_ _ p=>p);refine zZ (bg (AO g) (λ_ i Q=>zZ (bg (AO Q) (λok m e=>?_) λ_ _ p=>p)) λ_ _ p=>p);cases ok with
   | false=>exact zY #[rfl,e]
   | true=> exact zZ (zZ (bg (AO e) (λx X Y=>zZ (bg (AO Y) (λ_ c G=>zY (zY #[rfl,G])) λ_ _ p=>p)) λ_ _ p=>p))
def PTs (X:Cx) (ifs:List bp) (t:TT):Prop:=∀(pins:List (Addr×cE)) (s:aq) (e:St) (H:Hp) (Q:Bool->Hp->Prop),Inv X pins e H s->t e H Q->wpAny (model X.prog X.w) X.A (LA ifs X.env) (TP X pins e Q) X.xe s
def u0:TT:=λ_ H Q=>Q ap H
theorem dQ {X:Cx}:PTs X [] u0:=λ_ _ _ H _ I h=>wpAny_tests_nil #[H,I,h]
theorem u4 {X:Cx}{c:bp}{t:TT}(h:PT X c t):PTs X [c] t:=λpins s e H Q I q=>wpAny_tests_one (h pins s e H Q I q)
def OI (j:List (Option Nat)) (X:TI) (g:TG) (O:TT) (u:TE):TE:=λn H Q=>X n H λJ r=>∀D,r D=am->∃W:Nat->Nat->List V->Hp->Prop,(∃m,W 0 m [] (upd r D (.lst []))) /\∀i m k f,W i m k f->f D=al (.lst k)/\((J.stop i f/\Q (.ref D) f)\/(J.go i f/\∀x p,J.yld i f x p->g x (capt j n) p λt q=>
   (∀(i:Nat) v,(capt j n)[i]?=al (al v)->t[i]?=al (al v))/\O t q λc b=>if c=ap then u t b λy h=>∃M,h D=al (.lst M)/\M.length < aB/\∃e,e < m/\W (i+1) e (M++[y]) (upd h D (.lst (M++[y])))
     else ∃M e,e < m/\W (i+1) e M b))
section
variable {X:Cx}{scope:fc}{NC:List Str}{fr:List (Option Nat)}{pins:List (Addr×cE)}{σ:St}{H:Hp}{s:aq}
theorem aY {g:List Addr}(S:CSc X scope NC fr) (I:Inv X pins σ H s) (f:∀b∈g,MC X pins H b) (L:∀b∈g,b < s.heap.objs.size) (G:h1.Ns s.heap.objs.size m) (hk:∀b o,s.heap.get? b=al o->h1.get? b=al o) :
   Inv (AW X scope NC s.heap.objs.size s H g (X.pn++pins)) [] (capt fr σ) H { s with heap:=h1,toks:=tk }:=by
 have n:Inv X pins σ H { s with heap:=h1,toks:=tk }:=I.kept hk;have M:∀b,b≠X.env.locals->b∉X.fs->b∉frs X.stack:=λb h1 N z=>(yX.mp (I.stkSub b z)).elim h1 N;refine#[#[I.ok.mod,S.kind,I.ok.glob,I.ok.blt,zR _,λx y c h1 N=>I.ok.inj x y c (CD h1) (CD N),λx hx=>?_,λx c h=>absurd h (by intro z;cases z),I.ok.hd,I.ok.frames,.inl rfl,λb hb=>?_,I.bs,zN I.ok.bsz I.sz,λb o e hb=>?_,λb hb=>?_,I.stack,I.stkFree],
   rfl,I.bare,Un.kept hk,#[m,G,λi x v Q t e3=>?_],λx c e=>n.cell x c (CD e),I.hok.fresh (zR _),λx c e=>n.freeC x c (CD e),λp hp=>?_,n.hok,?_]
 . have pj:=KS (scope:=scope) (env:=X.env) (x:=x) (names:=scope.names) hx S.nocell;obtain⟨c,h,_⟩:=S.cells I.ok pj;exact#[c,h]
 . exact#[zC (L b hb),λx c e=>(f b hb).2.2.2.2.1 x c (CD e)]
 . rcases (f b hb).2.2.2.1 with z | z;. exact I.ok.noex b o e z
   . exact absurd (zP (zM e) (zN I.ok.bsz z)) (yF _)
 . exact M b (f b hb).2.1 (f b hb).2.2.1
 . have J:∃j,fr[i]?=al (al j)/\σ[j]?=al (al v):=by
     unfold capt at t;rw[zF] at t;cases O:fr[i]? with
     | none=>rw[O] at t;cases t
     | some o=>
       rw[O] at t;cases o with
       | none=>cases t
       | some j=>
         refine#[j,rfl,?_];have t:((σ[j]?).join)=al v:=Option.some.inj t;cases hs:σ[j]? with
         | none=>rw[hs] at t;cases t
         | some q=>rw[hs] at t;cases q with
           | none=>cases t
           | some v'=>cases t;rfl
   obtain⟨j,U,Y⟩:=J;obtain⟨Z,T,g3,g4⟩:=S.slot i j x Q U;obtain⟨m',cy,ku⟩:=n.loc;obtain⟨u,r,l⟩:=ku j x v Z Y g3;rcases l with ⟨k,_⟩ | ⟨k,c,hc,jk⟩
   . exact absurd k g4
   . obtain⟨c',q1,B⟩:=S.cells I.ok (a6Q T);rw[hc] at B;cases B;exact#[u,r,.inr #[V4 S.names (a6Q T) (λz=>z T),c,q1,jk]]
 . have D:p∈X.pn++pins:=by rw[a4W] at hp;exact hp
   obtain⟨p1,p2,p3,p4,p5⟩:=n.pin p D;exact#[p1,p2,zC (zM (I.pin p D).1),M _ p3 p4,p5]
 . unfold capt;rw[zX];exact S.len
def A0Q (fr:List (Option Nat)) (j:TI) (g:TG) (O:TT) {Y:Type}(y0:Y) (at_:Y->HO) (el:Addr->Nat->(Nat->Y->Hp->Prop)->St->Hp->Prop):TE:=λσ H Q=>j σ H λJ e=>∀D,e D=am->∃W:Nat->Nat->Y->Hp->Prop,(∃m,W 0 m y0 (upd e D (at_ y0))) /\∀i m b f,W i m b f->f D=al (at_ b)/\((J.stop i f/\Q (.ref D) f)\/(J.go i f/\∀x n,J.yld i f x n->g x (capt fr σ) n λt h=>
   (∀(i:Nat) v,(capt fr σ)[i]?=al (al v)->t[i]?=al (al v))/\O t h λc r=>if c=ap then el D m (W (i+1)) t r else ∃M p,p < m/\W (i+1) p M r))
def A1Q (X:Cx) (pins:List (Addr×cE)) (σ:St) (use:Option (ao->Sem Unit)) (Q:VK) (QQ:ao->aq->Prop):Prop:=∀(D C:Addr) (H':Hp) (s':aq) (m:Str->Option ao) (z:cE),Inv X (pins++[(C,z)]) σ H' s'->s'.heap.Ns C m->Q (.ref D) H' ->(∀(i:List (Addr×cE)) (t:St) (e:Hp) (v:aq) (n:cr),Inv X (pins++[(C,z)]) t e v->Heap.SameBut C v.heap n->Inv X pins t e { v with heap:=n }) ->
     s'.heap.get? C=al z ->
     match use with
     | none=>∀p,Heap.SameBut C s'.heap p->QQ (.ref D) { s' with heap:=p }
     | some u=>wpAny (model X.prog X.w) X.A (u (.ref D)) (λ_ f=>∃m,f.heap.Ns C m/\∀p,Heap.SameBut C f.heap p->QQ .none { f with heap:=p }) X.xe s'
theorem NM {G iter tg:bp}{ifs:List bp}{ah:ew}{wi:TI}{g:TG}{tt:TT}{Y:Type}{y0:Y}{at_:Y->HO}{Ty:String}{dt:Data}{mk:Sem ao}{tl:i3->Addr->(aq->Prop)->aq->Prop}{el:Addr->Nat->(Nat->Y->Hp->Prop)->St->Hp->Prop}{use:Option (ao->Sem Unit)}{Q:VK}{QQ:ao->aq->Prop} {gs:List Comprehension}(Ag:clausesOf G=#[tg,iter,ifs,0]::gs) (y_:mk=newObj (.type Ty) dt am) (hsz:sizeOk dt) (Cm:∀(H:Hp) (h:cr),c4 < h.objs.size->ObjOk X.prog X.w H (h.push { cls:=.type Ty,dict:=am,data:=dt }) h.objs.size (at_ y0)) (xw:V5 X.prog X.w X.A G tg ifs tl) (cc:∀{it acc:ao}{env:i3}{R:Result->aq->Prop}{s:aq},codeAny (model X.prog X.w) X.A (.compLoop G 0 it acc env) R s->wpAny (model X.prog X.w) X.A (pyIter it) (λAh s'=>codeAny (model X.prog X.w) X.A (.compLoop G 0 Ah acc env) R s') (notedBy (model X.prog X.w) X.A env λx s'=>R (.error x) s') s->codeAny (model X.prog X.w) X.A (.compStart G 0 it acc env) R s) (hc:X.calm=ap) (S:CSc X scope NC fr) (hi:PI X tg iter wi) (hb:∀(C:Addr) (s:aq) (H:Hp) (ex:List Addr) (pn:List (Addr×cE)),PG (AW X scope NC C s H ex pn) tg g/\PTs (AW X scope NC C s H ex pn) ifs tt/\∀(vp:List (Addr×cE)) (s':aq) (σ:St) (H':Hp) (D:Addr) (n:Nat) (W:Nat->Y->Hp->Prop) (P:aq->Prop),Inv (AW X scope NC C s H ex pn) vp σ H' s'->el D n W σ H'->(∀m y N t,m < n->W m y N->Inv (AW X scope NC C s H ex pn) vp σ N t->P t)->tl (AW X scope NC C s H ex pn).env D P s') (I:Inv X pins σ H s) (h:A0Q fr wi g tt y0 at_ el σ H Q) (fin:A1Q X pins σ use Q QQ) (hs:∀x,ce iter X.env x=pure x) :
   wpAny (model X.prog X.w) X.A (ip G scope X.env ah mk aw (eval iter X.env) use) QQ X.xe s:=by
 refine wpAny_comprehension_free (use:=use) Ag hs (tY (S.has I.ok)) S.kind S.names (thn (hi pins s σ H _ I h) λv s1 h1=>thn h1 λCe t h2=>?_);obtain⟨it,j,tn,J,N,e,I2,T,f_,f2,hq⟩:=h2;subst e;have Lh:N t.heap.objs.size=none:=I2.hok.fresh (zR _);obtain⟨W,⟨m0,w0⟩,turn⟩:=hq t.heap.objs.size Lh;rw[y_];refine xM (hd:=hsz) (wpAny_newFunctionEnv S.nocell (by intro y hy;simp at hy) (λk vz v_=>?_) S.kind);dsimp only at vz v_ ⊢;generalize hs3:({ t with heap:=t.heap.push { cls:=.type Ty,dict:=am,data:=dt } }:aq)=O;have Cn:t.heap.push { cls:=.type Ty,dict:=am,data:=dt }=O.heap:=by rw[<-hs3]
 have M:Inv X pins σ (upd N t.heap.objs.size (at_ y0)) O:=by rw[<-hs3];refine I2.laid (t':=t.toks) (λb u e=>zW _ e) (zR _) ?_;exact Cm _ _ I2.big
 rw[Cn] at vz v_ ⊢;have Li:O.heap.objs.size=t.heap.objs.size+1:=by rw[<-Cn,a9X]
 have Gc:∀b∈j,b < t.heap.objs.size:=λb hb=>by obtain⟨o,e,_⟩:=T.obj _ _ f_ b hb;exact zM e
 have Gd:∀b∈j,b < O.heap.objs.size:=λb hb=>by rw[Li];exact b8V (Gc b hb)
 have U:∀b∈j,MC X pins (upd N t.heap.objs.size (at_ y0)) b:=λb hb=>#[by rw[AH (zC (Gc b hb))];exact(f2 b hb).1,(f2 b hb).2]
 have tq:∀b o,O.heap.get? b=al o->k.get? b=al o:=λb o e=>v_.extBut b o (zC (zM e)) (zW _ e);generalize hC:O.heap.objs.size=C at vz v_ ⊢;have I0:Inv (AW X scope NC C O (upd N t.heap.objs.size (at_ y0)) j (X.pn++pins)) [] (capt fr σ) (upd N t.heap.objs.size (at_ y0)) { t with heap:=k,toks:=t.toks+([]:List (Str×ao)).length }:=by have:=aY (tk:=t.toks+([]:List (Str×ao)).length) (h1:=k) S M U Gd (hC▸vz) tq;rw[hC] at this;rw[<-hs3] at this;rw[<-hs3];exact this
 obtain⟨Ge,Co,Gf⟩:=hb C O (upd N t.heap.objs.size (at_ y0)) j (X.pn++pins);generalize hX':AW X scope NC C O (upd N t.heap.objs.size (at_ y0)) j (X.pn++pins)=f at I0 Ge Co Gf;have eP:f.prog=X.prog:=by rw[<-hX'];rfl
 have eW:f.w=X.w:=by rw[<-hX'];rfl
 have eK:f.K=X.K:=by rw[<-hX'];rfl
 have eA:f.A=X.A:=by rw[<-hX'];rfl
 have eE:f.env=compEnvC scope (NL X.env.cells scope.names []) C X.env:=by rw[<-hX'];rfl
 have eX:f.xe=λ_ _=>False:=by rw[<-hX'];rfl
 have ec:f.calm=true:=by rw[<-hX'];exact hc
 have stat:∀{H':Hp},(∀b∈j,H' b=am)->∀b∈j,MC f [] H' b:=λ{H'} hn b hb=>by obtain⟨q1,q2,q3,q4,q5,q6⟩:=U b hb;rw[<-hX'];exact#[hn b hb,by show b≠C;rw[<-hC];exact zC (Gd b hb),λz=>(yX.mp (M.stkSub b z)).elim q2 q3,.inl hb,λx c e=>q5 x c (CD e),λp hp=>q6 p (by rw[a4W] at hp;exact hp)]
 have ends:∀(i m:Nat) (B:Y) (H':Hp) (s':aq),Inv f [] (capt fr σ) H' s'->Q (.ref t.heap.objs.size) H' ->
     compPost (model X.prog X.w) X.A X.xe use QQ (.ref t.heap.objs.size) C (.ok .next) s':=by
   intro i m B H' s' L q';have eC:f.env.locals=C:=by rw[eE];rfl
   obtain⟨mC,Cp,_⟩:=L.loc;rw[eC] at Cp;have Lj:H' C=none:=by have:=L.free;rw[eC] at this;exact this
   have un:Un (frs X.stack) j (upd N t.heap.objs.size (at_ y0)) H' O.heap s'.heap:=by have:=L.base;rw[<-hX'] at this;exact this
   have Cf:s'.os=O.os:=by have:=L.os;rw[<-hX'] at this;exact this
   have xv:HOk X.prog X.w H' s'.heap:=by have:=L.hok;rw[eP,eW] at this;exact this
   have Ai:Inv X pins σ H' s':=M.call' (ch:=j) Cf un xv L.bare λb hb=>#[(U b hb).2.2.2.1,(U b hb).2.1,(U b hb).2.2.2.2.1,(U b hb).2.2.2.2.2]
   have C1:C≠X.env.locals:=by rw[<-hC];exact a5W M.lt
   have C2:C∉X.fs:=by rw[<-hC];exact M.nofs (zR _)
   have C3:X.s₀.heap.objs.size<=C:=by rw[<-hC];exact M.sz
   have C4:∀x c,X.env.cells.lookup x=al c->c≠C:=λx c e z=>by obtain⟨v,q⟩:=M.cell x c e;rw[z,<-hC] at q;exact absurd q.lt (yF _)
   have C5:∀p∈X.pn++pins,p.1≠C:=λp hp z=>by have:=zM (M.pin p hp).1;rw[z,<-hC] at this;exact absurd this (yF _)
   obtain⟨oC,Px,Py,zc,Lk,Pz⟩:=id Cp;have Dr:Inv X (pins++[(C,oC)]) σ H' s':=Ai.pins_of λp hp=>(yW.mp hp).elim (λz=>Ai.pin p (zB _ z)) λz=>by
     have e:p=(C,oC):=by simpa using z
     subst e;exact⟨zc,Lj,C1,C2,λv z=>by rw[Lk] at z;cases z⟩
   have res:=fin t.heap.objs.size C H' s' mC oC Dr Cp q' (λ_ σ2 H3 s4 h4 I4 sb=>by have J4:Inv X pins σ2 H3 s4:=I4.unpinned;have Gg:H3 C=none:=(I4.pin (C,oC) (zB _ (zB _ (by simp)))).2.1;exact J4.turned (t':=s4.toks) (it:=C) (λb o hb e=>sb.extBut b o hb e) Gg C1 (.inr C3) C4 C5) zc;cases use with
   | none=>exact#[mC,Cp,res]
   | some u=>exact res
 have loop:∀s':aq,s'={ t with heap:=k,toks:=t.toks+([]:List (Str×ao)).length } ->
     codeAny (model X.prog X.w) X.A (.compLoop G 0 (.ref it) (.ref t.heap.objs.size) (compEnvC scope (NL X.env.cells scope.names []) C X.env)) (compPost (model X.prog X.w) X.A X.xe use QQ (.ref t.heap.objs.size) C) s':=by
   rintro s' rfl;refine xw _ _ _ _ (λn s'=>∃i B H',Inv f [] (capt fr σ) H' s'/\tn i s'.heap/\(∀b∈j,H' b=am)/\W i n B H') ?_ m0 _ #[0,y0,_,I0,T.keep _ _ _ f_ (λb hb o e=>tq b o (by rw[<-Cn];exact zW _ e)),λb hb=>(U b hb).1,w0];rintro n s5 ⟨i,B,H5,I5,jl,yz,w5⟩;obtain⟨hD5,Aj⟩:=turn i n B H5 w5;rcases Aj with ⟨stop,qn⟩ | ⟨go,step⟩
   . have:=T.done f eP eW eK ec i [] s5 (capt fr σ) H5 (λ_ _=>False) I5 (stat yz) jl stop;rw[eA] at this;refine thn this ?_;rintro r s6 ⟨hr,I6⟩;subst hr;exact ends i n B H5 s6 I6 qn
   . have:=T.item f eP eW eK ec i [] s5 (capt fr σ) H5 (λ_ _=>False) I5 (stat yz) jl go;rw[eA] at this;refine thn this ?_;rintro r s6 ⟨u,hr,h6⟩;subst hr;refine thn h6 ?_;rintro _ s7 ⟨x,H7,I7,r7,y7,wx,Ll⟩;have Lm:=I7.pinned (stat Ll) (T.obj _ _ wx);have Ak:=Ge _ s7 (capt fr σ) H7 x u _ Lm r7 (step x H7 y7);rw[eP,eW,eA,eE,eX] at Ak;refine thn Ak ?_;rintro _ s8 ⟨Z,H8,I8,Dt,q8⟩;have Gh:=Co _ s8 Z H8 _ I8 q8;rw[eP,eW,eA,eE,eX] at Gh;refine thn Gh ?_;rintro ok s9 ⟨H9,I9,q9⟩;have weak:∀{H':Hp}{s':aq},Inv f ([]++Q2 j s7.heap) Z H' s'->Inv f [] (capt fr σ) H' s'/\tn (i+1) s'.heap/\∀b∈j,H' b=none:=λ{H' s'} L=>by refine#[L.unpinned.weak (by rw[L.len];rw[I0.len]) Dt,T.keep _ _ _ wx λb hb o e=>(L.pin (b,o) (zB _ (zB _ (E1 hb e)))).1,λb hb=>?_];obtain⟨o,e,d⟩:=T.obj _ _ wx b hb;exact(L.pin (b,o) (zB _ (zB _ (E1 hb e)))).2.1
     cases ok with
     | false=> rw[if_neg nft] at q9;obtain⟨bw,m',wa,w'⟩:=q9;obtain⟨a1,a2,a3⟩:=weak I9;exact#[m',wa,i+1,bw,H9,a1,a2,a3,w']
     | true=>
       rw[if_pos rfl] at q9;have Cq:=Gf _ s9 Z H9 _ n (W (i+1)) (λs'=>∃Al,Al < n/\∃i B H',Inv f [] (capt fr σ) H' s'/\tn i s'.heap/\(∀b∈j,H' b=am)/\W i Al B H') I9 q9 λm y N t hm w' L=>by obtain⟨a1,a2,a3⟩:=weak L;exact#[m,hm,i+1,y,N,a1,a2,a3,w']
       rw[eE] at Cq;exact Cq
 refine cc (loop _ rfl) (T.self _ 0 _ _ _ ?_ (loop _ rfl));exact T.keep _ _ _ f_ (λb hb o e=>tq b o (by rw[<-Cn];exact zW _ e))
theorem XE (hc:X.calm=ap) (S:CSc X scope NC fr) (hi:PI X r iter c) (hb:∀(C:Addr) (s:aq) (H:Hp) (e:List Addr) (pn:List (Addr×cE)),PG (AW X scope NC C s H e pn) r g/\PTs (AW X scope NC C s H e pn) ifs O/\PE (AW X scope NC C s H e pn) elt i) (I:Inv X pins σ H s) (h:OI fr c g O i σ H Q) (fin:A1Q X pins σ use Q QQ) (hs:∀x,ce iter X.env x=pure x) :
   wpAny (model X.prog X.w) X.A (ip (.ListComp elt [#[r,iter,ifs,0]] scope pos) scope X.env B (newList []) aw (eval iter X.env) use) QQ X.xe s:=by refine NM (y0:=[]) (at_:=.lst) (Ty:= "list") (dt:=.seq #[]) (tl:=tlL X.prog X.w X.A elt) (el:=λD m W p J=>i p J λy b=>∃M,b D=al (.lst M)/\M.length < aB/\∃t,t < m/\W t (M++[y]) (upd b D (.lst (M++[y])))) rfl rfl (by size_fits) (λH h _=>#[xT _,[],0,.nil,yZ _ rfl]) tZ codeAny_compStart_list hc S hi (λC s H e pn=>#[(hb C s H e pn).1,(hb C s H e pn).2.1,λvp s' σ H' D n W P I q k=>?_]) I h fin hs;refine thn ((hb C s H e pn).2.2 _ s' σ H' _ I q) ?_;rintro y f ⟨U,j,u,z,M,hD,hsz,t,G,T⟩;exact thn (NJ _ f σ j (.ref D) [U] (.ref D) [y] (λ_ H'=>∃t,t < n/\W t (M++[U]) H') u rfl (.cons z .nil) #[_,M,U,rfl,rfl,hD,hsz,t,G,T]) (by rintro _ Z ⟨_,Ln,v,_,Y,L,N⟩;exact k _ _ _ _ L N v)
end
end L2
namespace L2
open PySem PySem.Spec PyProof.Rows
section
variable {X:Cx}{scope:fc}{NC:List Str}{fr:List (Option Nat)}{elt iter tg:bp}{ifs:List bp}{pos:ew}{wi:TI}{g:TG}{tt:TT}{te:TE}
theorem u5 (hc:X.calm=ap) (S:CSc X scope NC fr) (hi:PI X tg iter wi) (hb:∀(C:Addr) (s:aq) (H:Hp) (e:List Addr) (pn:List (Addr×cE)),PG (AW X scope NC C s H e pn) tg g/\PTs (AW X scope NC C s H e pn) ifs tt/\PE (AW X scope NC C s H e pn) elt te) (hs:∀x,ce iter X.env x=pure x:=by intro _;rfl):PE X (.ListComp elt [#[tg,iter,ifs,0]] scope pos) (OI fr wi g tt te):=by intro pins s t H Q I h;rw[eval_ListComp];refine XE (use:=am) (Q:=Q) hc S hi hb I h (λD C H' s' m z L hn q back _ p r=>?_) hs;exact#[.ref D,H',back pins t H' s' p L r,rfl,q]
theorem u6 {i:Nat}{x:Str}{e M:ew}(hc:X.calm=ap) (hN:X.N.Nodup) (zd:X.N[i]?=al x) (hx:Loc X.env.scope x) (S:CSc X scope NC fr) (hi:PI X tg iter wi) (hb:∀(C:Addr) (s:aq) (H:Hp) (r:List Addr) (pn:List (Addr×cE)),PG (AW X scope NC C s H r pn) tg g/\PTs (AW X scope NC C s H r pn) ifs tt/\PE (AW X scope NC C s H r pn) elt te) (k:gt (.ListComp elt [#[tg,iter,ifs,0]] scope pos) (al (.Name x e)) M.line X.env=pure ap) (G:X.fn x=ap\/X.env.scope.names.lookup x=al .local:=by first | exact .inl rfl | exact .inr rfl | assumption)
   (hs:∀x,ce iter X.env x=pure x:=by intro _;rfl) :
   PS X (.Assign [.Name x e] (.ListComp elt [#[tg,iter,ifs,0]] scope pos) M) (λD t H=>OI fr wi g tt te t H λv H'=>D.nx (t.set i (al v)) H'):=by intro pins s t H D I h;rw[exec_Assign_Name_used _ _ _ _ k];refine zZ (bv (zZ ?_));show wpAny _ X.A (do let _ <- ip (.ListComp elt [#[tg,iter,ifs,0]] scope pos) scope X.env _ (newList []) aw (eval iter X.env) (al (ko (.Name x e) X.env))) _ _ s;refine zZ (thn (XE (use:=al (ko (.Name x e) X.env)) (Q:=λv H'=>D.nx (t.set i (al v)) H') (QQ:=λ_ s'=>∃b H',Inv X pins b H' s'/\D.nx b H') hc S hi hb I h (λA C H' s' m z L hn q back zc=>?_) hs) λ_ s' hq=>zY (zY hq));have B:=US (X:=X) (pos:=e) hN zd hx G (pins++[(C,z)]) s' t H' (.ref A) (.ref A) (λb H'=>D.nx b H') L rfl q;refine thn B ?_;rintro _ j ⟨n,f,p,U⟩;have O:j.heap.get? C=al z:=(p.pin (C,z) (zB _ (zB _ (by simp)))).1;obtain⟨o',y,u,c,J,Z⟩:=hn;rw[zc] at c;cases c;exact#[m,#[_,y,u,O,J,Z],λT Y=>#[n,f,back pins n f j T p Y,U]]
end
def Its (x:Str):It:=#[λi _=>i < x.cps.size,λi H v H'=>H'=H/\∃c,x.cps[i]?=al c/\v = .str #[(y9 [c])],λi _=>i=x.cps.size]
theorem XF {P:bn}{w:bj}{K:Frg}{tg:bp}(it:Addr) (ty:String) (x:Str) (t:Tok) (Ac:["enumerate","zip","dict_itemiterator","dict_reverseitemiterator","odict_iterator","itertools.zip_longest","itertools.pairwise"].contains ty=aw) (W:∀A:ca,A.handled=am->Walks P w A it [it] [it] x.cps.size (SignAt x) (λi h=>h.IsStrIter it ty x t i)) (Am:∀(A:ca) (i:Nat) (s:aq) (Q:ao->aq->Prop) (E:ao->aq->Prop),s.heap.IsStrIter it ty x t i->Q (.ref it) s->wpAny (model P w) A (pyIter (.ref it)) Q E s) :
   Turn P w K tg (Its x) [it] it (λi h=>h.IsStrIter it ty x t i) where
 mem:=by simp
 obj:=λi h st b hb=>by
   have e:b=it:=by simpa using hb
   subst e;obtain⟨o,e,c,d⟩:=st;exact⟨o,e,λv z=>by rw[d] at z;cases z⟩
 keep:=λi h h' st k=>by obtain⟨o,e,r⟩:=st;exact#[o,k it (by simp) o e,r]
 item:=by intro X hP hw hK hc i pins s σ H E I hf st hg;subst hP hw hK;obtain⟨f0,f1,f2,f3,f4,f5⟩:=hf it (by simp);refine(W X.A (I.ok.hd hc)).item i s _ _ hg st λv h' tk hv ii kk=>?_;obtain⟨c,u,Eb,rfl⟩:=hv;have I1:Inv X pins σ H { s with heap:=h',toks:=tk }:=I.turned (λb o hb e=>kk b o (by simpa using hb) e) f0 f1 f3 f4 f5;obtain⟨o,e,c',d⟩:=id ii;exact#[_,rfl,dI (s:={ s with heap:=h',toks:=tk }) e c' d Ac #[.str #[(y9 [c])],H,I1,#[u,rfl],#[rfl,c,Eb,rfl],ii,λb hb=>(hf b hb).1]]
 done:=by intro X hP hw hK hc i pins s σ H E I hf st hg;subst hP hw hK;obtain⟨f0,f1,f2,f3,f4,f5⟩:=hf it (by simp);have hi:i=x.cps.size:=hg;subst hi;refine(W X.A (I.ok.hd hc)).done s _ _ st λh' tk kk=>#[rfl,I.turned (λb o hb e=>kk b o (by simpa using hb) e) f0 f1 f3 f4 f5]
 self:=Am
theorem V6 (bs:List Bool):(a2Q bs.length).all (λi=>(bs[i]?).getD aw)=bs.all id:=by
 rw[a3Q,a8V,a8V];constructor;. intro h b hb;obtain⟨i,hi,rfl⟩:=List.mem_iff_getElem.mp hb;have:=h i (by simpa using hi);simpa [hi] using this
 . intro h i hi;have hi:i < bs.length:=by simpa using hi
   have:=h bs[i] (a1J hi);simpa [hi] using this
theorem V7 (bs:List Bool):(a2Q bs.length).any (λi=>(bs[i]?).getD aw)=bs.any id:=by
 rw[a3Q,b1Q,b1Q];constructor
 . rintro⟨i,hi,h⟩;have hi:i < bs.length:=by simpa using hi
   exact#[bs[i],a1J hi,by simpa [hi] using h]
 . rintro⟨b,hb,h⟩;obtain⟨i,hi,rfl⟩:=List.mem_iff_getElem.mp hb;exact#[i,by simpa using hi,by simpa [hi] using h]
section
variable {X:Cx}
theorem dR {bs:List Bool}{t:List ao}(r:Vals (bs.map V.bl) t) {i:Nat}{v:ao}(h:t.toArray[i]?=al v):v = .bool ((bs[i]?).getD aw):=by
 have p:t[i]?=al v:=by simpa using h
 have n:i < t.length:=(yT.mp p).1;have e:=r.length;rw[zX] at e;have hb:(bs.map V.bl)[i]?=al (V.bl bs[i]):=by rw[zF];simp[show i < bs.length by omega]
 obtain⟨u,hu,q⟩:=r.get hb;rw[p] at hu;cases hu;simp[show i < bs.length by omega];exact q
def A4O (X:Cx):List V->Hp->VK->Prop:=λt H Q=>∃(p:Addr) (bs:List Bool),t=[.ref p]/\SqL X.K H p (bs.map V.bl)/\Q (.bl (bs.all id)) H
theorem m7 (hc:X.calm=ap):CN X (.builtin "all") (A4O X):=by
 intro pins s B H D M Q I r h;obtain⟨p,bs,rfl,hp,q⟩:=h;obtain⟨u,rfl,x⟩:=GM r;cases x;obtain⟨g,f,t,O⟩:=I.list hp;have j:p≠s.heap.objs.size:=by obtain⟨o,n,e,_⟩:=t;exact zC (zM e)
 have m:=f.length;rw[zX] at m;refine call_all_walk (h7 t.isList ?_);refine#[s.heap.objs.size,_,_,_,_,_,λi=>(bs[i]?).getD aw,rfl,Walks.list (show X.A.in1.handled=am from I.ok.hd hc) s.heap.objs.size p j g.toArray,#[#[_,yZ _ rfl,rfl,rfl],?_],λi v s' T z S hq=>?_,λN y hk=>?_];. obtain⟨o,n,e,c,d,k⟩:=t;exact#[o,zW _ e,c,n,k]
 . rw[dR f S];exact cx hq
 . refine#[.bl (bs.all id),H,?_,?_,q];. exact I.kept (t':=y) λb o e=>hk b o (by simp;exact zC (zM e)) (zW _ e)
   . rw[zJ,<-m,V6];rfl
def A4P (X:Cx):List V->Hp->VK->Prop:=λt H Q=>∃(p:Addr) (bs:List Bool),t=[.ref p]/\SqL X.K H p (bs.map V.bl)/\Q (.bl (bs.any id)) H
theorem m8 (hc:X.calm=ap):CN X (.builtin "any") (A4P X):=by
 intro pins s B H D M Q I r h;obtain⟨p,bs,rfl,hp,q⟩:=h;obtain⟨u,rfl,x⟩:=GM r;cases x;obtain⟨g,f,t,O⟩:=I.list hp;have j:p≠s.heap.objs.size:=by obtain⟨o,n,e,_⟩:=t;exact zC (zM e)
 have m:=f.length;rw[zX] at m;refine call_any_walk (h7 t.isList ?_);refine#[s.heap.objs.size,_,_,_,_,_,λi=>(bs[i]?).getD aw,rfl,Walks.list (show X.A.in1.handled=am from I.ok.hd hc) s.heap.objs.size p j g.toArray,#[#[_,yZ _ rfl,rfl,rfl],?_],λi v s' T z S hq=>?_,λN y hk=>?_];. obtain⟨o,n,e,c,d,k⟩:=t;exact#[o,zW _ e,c,n,k]
 . rw[dR f S];exact cx hq
 . refine#[.bl (bs.any id),H,?_,?_,q];. exact I.kept (t':=y) λb o e=>hk b o (by simp;exact zC (zM e)) (zW _ e)
   . rw[zJ,<-m,V7];rfl
def A1R:V->Option Int->Option Int->Hp->VK->Prop:=λx e hi H Q=>∃y,x = .str y/\y.length<=aB/\Q (.str (b2Z y e hi)) H
theorem A1S:SlR X A1R:=by
 intro pins s g H x v B f c hi sl Q I b hs m r h;obtain⟨y,rfl,e,q⟩:=h;obtain⟨t,rfl⟩:=b;refine#["str", _,F.slot_str_getitem.lookup,typeIs_str _ _ _,?_];cases m with
 | none=>
   cases r with
   | none=>exact e5 (l:=am) (u:=am) (st:=am) hs rfl (jm #[zN (Txt.slice_le y _ _) e,λY k=>#[.str _,H,I.tok _,#[_,rfl],q]])
   | int j n=>exact e5 (l:=am) (u:=al (j,n)) (st:=am) hs rfl (jm #[zN (Txt.slice_le y _ _) e,λY k=>#[.str _,H,I.tok _,#[_,rfl],q]])
 | int i p=>
   cases r with
   | none=>exact e5 (l:=al (i,p)) (u:=am) (st:=am) hs rfl (jm #[zN (Txt.slice_le y _ _) e,λY k=>#[.str _,H,I.tok _,#[_,rfl],q]])
   | int j n=>exact e5 (l:=al (i,p)) (u:=al (j,n)) (st:=am) hs rfl (jm #[zN (Txt.slice_le y _ _) e,λY k=>#[.str _,H,I.tok _,#[_,rfl],q]])
theorem PD:∀{ys:List Str}{e:List ao},Vals (ys.map V.str) e->StrsAre e ys
 | [],_,.nil=>.nil
 | y::r,_,.cons h t=>by obtain⟨n,rfl⟩:=h;exact .cons y n (PD t)
def m9 (K:Frg):V->List V->Hp->VK->Prop:=λx t H Q=>∃(y:Str) (p:Addr) (c:List Str),x = .str y/\t=[.ref p]/\SqL K H p (c.map V.str)/\(c.map (·.length)).sum+c.length*y.length<=16777216/\Q (.str (Txt.join y c)) H
theorem u7:MtR X "str.join" (m9 X.K):=by intro pins s z H x g v f Q I b m h;obtain⟨y,p,j,rfl,rfl,hp,e,q⟩:=h;obtain⟨t,rfl⟩:=b;obtain⟨u,rfl,i⟩:=GM m;cases i;obtain⟨c,r,n,_⟩:=I.list hp;exact join_list n.isList (by simpa using PD r) e λY k=>#[.str _,H,I.tok _,#[_,rfl],q]
def A0R (K:Frg):R2:=λx y H Q=>∃a b t c,x = .ref a/\y = .ref b/\SqL K H a t/\SqL K H b c/\t.length+c.length<=aB/\∀p,H p=am->Q (.ref p) (upd H p (.lst (t++c)))
theorem u8:OpR X (ee .Add) (A0R X.K):=by
 intro pins s k H x y v u Q I f Z h;obtain⟨l,b,G,J,rfl,rfl,hH,hB,S,q⟩:=h;cases f;cases Z;obtain⟨t,r,c,O⟩:=I.list hH;obtain⟨e,M,B,D⟩:=I.list hB;have T:=r.length;have N:=M.length;obtain⟨⟨cls,i,data,sl⟩,n,ho,hc,_,hd⟩:=c;obtain⟨⟨z,g,data2,j⟩,p,ho2,hc2,_,hd2⟩:=B;dsimp only at hc hd hc2 hd2;subst hc hd hc2 hd2;have m:t.toArray++e.toArray=(t++e).toArray:=by simp
 have fin:EP X pins k Q (.ref s.heap.objs.size) { s with heap:=s.heap.push { cls:=.type "list", data:=.seq (t.toArray++e.toArray) } }:=by rw[m];exact#[.ref _,_,I.lnew (t':=s.toks) (r.append M) (by rw[yY];omega),rfl,q _ I.fresh]
 exact concat_meets #[_,ho,rfl] #[_,ho2,rfl] noFill_list_add seq_list_add PySem.F.slot_list_add PySem.F.entry_list_add (PySem.F.args_list_add_2 _ _) (list_addW l b t.toArray e.toArray n p i g sl j (by rw[zJ,zJ];omega)) #[ho,ho2,fin]
def A0S (i j:Int):Prop:=0 < j/\j < 2 ^ 64
theorem mB:OpR X (ee .FloorDiv) (rI A0S λi j=>.int (i/j)):=opI λi j _ _ _ _ _ hc q=>by
 have h1:(0:Int) < j:=hc.1;have e:j.natAbs.log2 < 9000:=by
   have S:j.natAbs≠0:=by omega
   have:j.natAbs < 2 ^ 64:=by have:=hc.2;omega
   exact zP ((Nat.log2_lt S).mpr this) (by decide)
 exact floordiv_int (by omega) (by rw[Int.fdiv_eq_ediv_of_nonneg i (by omega)];exact q) (.inl (PyProof.noPylong_of_log2 e))
end
end L2
namespace L2
open PySem PySem.Spec PyProof.Rows
def A3Q:Key->PyData
 | .inl i=>.int i
 | .inr x=>.str x
def LW (K:Frg) (H:Hp) (W:Addr->Prop) (a:Addr) (xs:List V):Prop:=(¬W a/\Rd H a (.lst xs))\/∃(o:cE) (e:Array ao) (n:Nat),K.lookup a=al o/\o.cls = .type "list" /\ o.dict=am/\o.data = .seq e n/\e.size<=aB/\Vals xs e.toList
def TW (K:Frg) (H:Hp) (W:Addr->Prop) (a:Addr) (xs:List V):Prop:=(¬W a/\Rd H a (.tup xs))\/∃(o:cE) (e:Array ao) (n:Nat),K.lookup a=al o/\o.cls = .type "tuple" /\ o.data = .seq e n/\e.size<=aB/\Vals xs e.toList
theorem LW.sq {K:Frg}(h:LW K H W a xs):SqL K H a xs:=h.elim (λz=>.inl z.2) .inr
theorem TW.sq {K:Frg}(h:TW K H W a xs):SqT K H a xs:=h.elim (λz=>.inl z.2) .inr
mutual
def DV (K:Frg) (H:Hp) (W:Addr->Prop):PyData->V->Prop
 | .none,v=>v = .non
 | .bool b,v=>v = .bl b
 | .int i,v=>v = .int i
 | .str x,v=>v = .str x
 | .list ds,v=>∃a e,v = .ref a/\LW K H W a e/\DVs K H W ds e
 | .tuple ds,v=>∃a e,v = .ref a/\TW K H W a e/\DVs K H W ds e
 | .dict kvs,v=>∃a X,v = .ref a/\¬W a/\Rd H a (.dK X)/\DKV K H W kvs X
def DVs (K:Frg) (H:Hp) (W:Addr->Prop):List PyData->List V->Prop
 | [],e=>e=[]
 | d::ds,e=>∃v r,e=v::r/\DV K H W d v/\DVs K H W ds r
def DKV (K:Frg) (H:Hp) (W:Addr->Prop):List (PyData×PyData)->List (Key×V)->Prop
 | [],e=>e=[]
 | (k,d)::ds,e=>∃t v r,e=(t,v)::r/\k=A3Q t/\DV K H W d v/\DKV K H W ds r
end
structure Grow (K:Frg) (W W':Addr->Prop) (H H':Hp):Prop where
 keep:∀b o,H b=al o->¬W b->H' b=al o\/∃ks ob,o = .dK ks/\H' b=al (.frz ob o)
 new:∀b,W' b->W b\/H b=am
theorem Grow.refl {K:Frg}:Grow K W W H H:=#[λ_ _ h _=>.inl h,λ_ h=>.inl h]
section
variable {K:Frg}{W W' W2:Addr->Prop}{H H' H2:Hp}
theorem Rd.grow (g:Grow K W W' H H') (nw:¬W a) (h:Rd H a o):Rd H' a o:=by
 rcases h with h | ⟨t,h⟩
 . rcases g.keep _ _ h nw with e | ⟨O,u,_,e⟩
   . exact .inl e
   . exact .inr #[u,e]
 . rcases g.keep _ _ h nw with e | ⟨O,u,e,_⟩
   . exact .inr #[t,e]
   . cases e
theorem Grow.kept (g:Grow K W W' H H') (h:H a=al o) (nw:¬W a) (n:∀ks,o≠.dK ks):H' a=al o:=(g.keep a o h nw).elim id (by rintro⟨ks,_,e,_⟩;exact absurd e (n ks))
theorem Rd.ne_none (h:Rd H a o):H a≠none:=by rcases h with h | ⟨e,h⟩ <;> rw[h] <;> simp
theorem Rd.nw (g:Grow K W W' H H') (nw:¬W a) (h:Rd H a o):¬W' a:=λw=>by
 rcases g.new a w with z | z;. exact nw z
 . exact Rd.ne_none h z
theorem LW.grow (g:Grow K W W' H H') (h:LW K H W a xs):LW K H' W' a xs:=h.elim (λz=>.inl #[z.2.nw g z.1,z.2.grow g z.1]) .inr
theorem TW.grow (g:Grow K W W' H H') (h:TW K H W a xs):TW K H' W' a xs:=h.elim (λz=>.inl #[z.2.nw g z.1,z.2.grow g z.1]) .inr
mutual
theorem DV.grow (g:Grow K W W' H H'):∀{d:PyData}{v:V},DV K H W d v->DV K H' W' d v
 | .none,v,h=>by unfold DV at h ⊢;exact h
 | .bool b,v,h=>by unfold DV at h ⊢;exact h
 | .int i,v,h=>by unfold DV at h ⊢;exact h
 | .str x,v,h=>by unfold DV at h ⊢;exact h
 | .list ds,v,h=>by unfold DV at h ⊢;obtain⟨a,t,e,hs,hd⟩:=h;exact#[a,t,e,hs.grow g,DVs.grow g hd]
 | .tuple ds,v,h=>by unfold DV at h ⊢;obtain⟨a,t,e,hs,hd⟩:=h;exact#[a,t,e,hs.grow g,DVs.grow g hd]
 | .dict kvs,v,h=>by unfold DV at h ⊢;obtain⟨a,t,e,nw,hs,hd⟩:=h;exact#[a,t,e,hs.nw g nw,hs.grow g nw,DKV.grow g hd]
theorem DVs.grow (g:Grow K W W' H H'):∀{ds:List PyData}{vs:List V},DVs K H W ds vs->DVs K H' W' ds vs
 | [],vs,h=>by unfold DVs at h ⊢;exact h
 | d::ds,vs,h=>by unfold DVs at h ⊢;obtain⟨v,r,e,h1,t⟩:=h;exact#[v,r,e,DV.grow g h1,DVs.grow g t]
theorem DKV.grow (g:Grow K W W' H H'):∀{ds:List (PyData×PyData)}{vs:List (Key×V)},DKV K H W ds vs->DKV K H' W' ds vs
 | [],vs,h=>by unfold DKV at h ⊢;exact h
 | (k,d)::ds,vs,h=>by unfold DKV at h ⊢;obtain⟨n,v,r,e,j,h1,t⟩:=h;exact#[n,v,r,e,j,DV.grow g h1,DKV.grow g t]
end
theorem Grow.trans (a:Grow K W W' H H') (b:Grow K W' W2 H' H2):Grow K W W2 H H2:=by
 refine#[λx o h nw=>?_,λx w=>?_]
 . have Y:¬W' x:=λw=>by
     rcases a.new x w with z | z;. exact nw z
     . rw[h] at z;cases z
   rcases a.keep x o h nw with e | ⟨O,u,t,j⟩
   . exact b.keep x o e Y
   . exact .inr #[O,u,t,b.kept j Y λ_ z=>nomatch z]
 . rcases b.new x w with z | z1;. exact a.new x z
   . by_cases hx:W x;. exact .inl hx
     . refine .inr ?_;cases e:H x with
       | none=>rfl
       | some o=> rcases a.keep x o e hx with q | ⟨_,_,_,q⟩ <;> (rw[q] at z1;cases z1)
theorem DVs.length:∀{ds:List PyData}{vs:List V},DVs K H W ds vs->vs.length=ds.length
 | [],vs,h=>by unfold DVs at h;subst h;rfl
 | d::ds,vs,h=>by unfold DVs at h;obtain⟨v,r,e,h1,t⟩:=h;subst e;simp[DVs.length t]
theorem DVs.get:∀{ds:List PyData}{vs:List V}{i:Nat}{v:V},DVs K H W ds vs->vs[i]?=al v->∃d,ds[i]?=al d/\DV K H W d v
 | [],vs,i,v,h,e=>by unfold DVs at h;subst h;simp at e
 | d::ds,vs,i,v,h,e=>by
   unfold DVs at h;obtain⟨u,r,e',h1,t⟩:=h;subst e';cases i with
   | zero=>simp at e;subst e;exact#[d,rfl,h1]
   | succ i=>simpa using DVs.get t (by simpa using e)
theorem DVs.get':∀{ds:List PyData}{vs:List V}{i:Nat}{d:PyData},DVs K H W ds vs->ds[i]?=al d->∃v,vs[i]?=al v/\DV K H W d v
 | [],vs,i,v,h,e=>by simp at e
 | d::ds,vs,i,v,h,e=>by
   unfold DVs at h;obtain⟨u,r,e',h1,t⟩:=h;subst e';cases i with
   | zero=>simp at e;subst e;exact#[u,rfl,h1]
   | succ i=>simpa using DVs.get' t (by simpa using e)
theorem DVs.nil:DVs K H W [] []:=by unfold DVs;rfl
theorem DVs.cons {d:PyData}{v:V}{ds:List PyData}{vs:List V}(h:DV K H W d v) (t:DVs K H W ds vs):DVs K H W (d::ds) (v::vs):=by unfold DVs;exact#[v,vs,rfl,h,t]
theorem DVs.append:∀{ds es:List PyData}{vs e:List V},DVs K H W ds vs->DVs K H W es e->DVs K H W (ds++es) (vs++e)
 | [],es,vs,e,h,t=>by unfold DVs at h;subst h;exact t
 | d::ds,es,vs,e,h,t=>by unfold DVs at h;obtain⟨u,r,e',h1,n⟩:=h;subst e';exact DVs.cons h1 (DVs.append n t)
theorem DVs.drop:∀{ds:List PyData}{vs:List V}(i:Nat),DVs K H W ds vs->DVs K H W (ds.drop i) (vs.drop i)
 | ds,vs,0,h=>h
 | [],vs,i+1,h=>by unfold DVs at h;subst h;exact DVs.nil
 | e::ds,vs,i+1,h=>by unfold DVs at h;obtain⟨u,r,e',h1,t⟩:=h;subst e';exact DVs.drop i t
theorem DVs.take:∀{ds:List PyData}{vs:List V}(i:Nat),DVs K H W ds vs->DVs K H W (ds.take i) (vs.take i)
 | ds,vs,0,h=>DVs.nil
 | [],vs,i+1,h=>by unfold DVs at h;subst h;exact DVs.nil
 | e::ds,vs,i+1,h=>by unfold DVs at h;obtain⟨u,r,e',h1,t⟩:=h;subst e';exact DVs.cons h1 (DVs.take i t)
theorem NN:∀{bs:List Bool}{vs:List V},DVs K H W (bs.map PyData.bool) vs->vs=bs.map V.bl
 | [],vs,h=>by unfold DVs at h;exact h
 | b::bs,vs,h=>by simp only[zI] at h;unfold DVs at h;obtain⟨u,r,e',h1,e⟩:=h;unfold DV at h1;subst e' h1;rw[NN e];rfl
theorem J2:∀{bs:List Str}{vs:List V},DVs K H W (bs.map a0K) vs->vs=bs.map V.str
 | [],vs,h=>by unfold DVs at h;exact h
 | b::bs,vs,h=>by simp only[zI] at h;unfold DVs at h;obtain⟨u,r,e',h1,e⟩:=h;unfold DV at h1;subst e' h1;rw[J2 e];rfl
end
section
variable {X:Cx}{pins:List (Addr×cE)}{σ:St}{H:Hp}{s:aq}{W:Addr->Prop}
mutual
theorem DV.reads (I:Inv X pins σ H s):∀{d:PyData}{v:V}{u:ao},d.canLay0=ap->DV X.K H W d v->RelV v u->∃as,PySem.Reads s.heap u d as
 | .none,v,u,c,h,r=>by unfold DV at h;subst h;cases r;exact#[_,.none]
 | .bool b,v,u,c,h,r=>by unfold DV at h;subst h;cases r;exact#[_,.bool b]
 | .int i,v,u,c,h,r=>by unfold DV at h;subst h;obtain⟨t,rfl⟩:=r;exact#[_,.int i t]
 | .str x,v,u,c,h,r=>by unfold DV at h;subst h;obtain⟨t,rfl⟩:=r;exact#[_,.str x t]
 | .list ds,v,u,c,h,r=>by unfold DV at h;obtain⟨a,g,rfl,hs,hd⟩:=h;cases r;obtain⟨f,p,⟨o,n,e,hc,_,m⟩,_⟩:=I.list hs.sq;obtain⟨as,q⟩:=DVs.reads I (by simpa [PyData.canLay0] using c) hd p;exact#[_,.list e hc m (by simpa using q)]
 | .tuple ds,v,u,c,h,r=>by unfold DV at h;obtain⟨a,g,rfl,hs,hd⟩:=h;cases r;obtain⟨f,p,⟨o,e,hc,n,m⟩,_⟩:=I.tuple hs.sq;obtain⟨as,q⟩:=DVs.reads I (by simpa [PyData.canLay0] using c) hd p;exact#[_,.tuple e hc m (by simpa using q)]
 | .dict kvs,v,u,c,h,r=>by simp[PyData.canLay0] at c
theorem DVs.reads (I:Inv X pins σ H s):∀{ds:List PyData}{vs:List V}{e:List ao},b5Z ds=ap->DVs X.K H W ds vs->Vals vs e->∃as,PySem.ReadsAll s.heap e ds as
 | [],vs,e,c,h,r=>by unfold DVs at h;subst h;cases r;exact#[_,.nil]
 | d::ds,vs,e,c,h,r=>by
   unfold DVs at h;obtain⟨v,q,rfl,h1,t⟩:=h;cases r with
   | cons n M=> simp[b5Z] at c;obtain⟨as,T⟩:=DV.reads I c.1 h1 n;obtain⟨bs,B⟩:=DVs.reads I c.2 t M;exact#[_,.cons T B]
end
def SO (K:Frg) (neg:Bool):R2:=λx y H Q=>∃(W:Addr->Prop) (e t:PyData),DV K H W e x/\DV K H W t y/\zH e=ap/\zH t=ap/\Q (.bl (if neg then !a0W e t else a0W e t)) H
theorem A1T (hu:X.A.units+64 < ej):OpR X (bq .Eq) (SO X.K aw):=by intro pins s σ H x y v u Q I r Z h;obtain⟨W,m,p,h1,n,e,t,q⟩:=h;obtain⟨as,i⟩:=h1.reads I (zG e) r;obtain⟨bs,M⟩:=n.reads I (zG t) Z;exact PySem.SeqAt.compareEq_shaped i M e t hu #[.bl _,H,I,rfl,q]
theorem mD (hu:X.A.units+64 < ej):OpR X (bq .NotEq) (SO X.K ap):=by intro pins s σ H x y v u Q I r Z h;obtain⟨W,m,p,h1,n,e,t,q⟩:=h;obtain⟨as,i⟩:=h1.reads I (zG e) r;obtain⟨bs,M⟩:=n.reads I (zG t) Z;exact PySem.SeqAt.compareNe_shaped i M e t hu #[.bl _,H,I,rfl,q]
end
end L2
namespace DL
open PySem PySem.Spec L2
abbrev St:=L2.St
inductive MO where
 | l (ds:List PyData)
 | d (kvs:List (PyData×PyData))
 | t (kvs:List (List Key×PyData))
 | x (C:Addr) (fs:List (Str×PyData))
abbrev Own:=Addr->Option MO
def Own.W (M:Own):Addr->Prop:=λa=>M a≠am
def Own.put (M:Own) (a:Addr) (o:MO):Own:=λb=>if b=a then al o else M b
def Own.del (M:Own) (a:Addr):Own:=λb=>if b=a then am else M b
def Own.Sub (M N:Own):Prop:=∀a o,M a=al o->N a=al o
theorem zU {M:Own}:M.put a o a=al o:=by unfold Own.put;rw[if_pos rfl]
theorem yH {M:Own}(h:b≠a):M.put a o b=M b:=by unfold Own.put;rw[if_neg h]
theorem yI {M:Own}:(M.put a o).put a e=M.put a e:=by funext b;unfold Own.put;by_cases h:b=a <;> simp[h]
theorem yG {M:Own}(h:M a=am):(M.put a o).del a=M:=by
 funext b;unfold Own.put Own.del;by_cases e:b=a;. subst e;simp[h]
 . simp[e]
theorem Own.del_put_ne {M:Own}(h:a≠b):(M.put a o).del b=(M.del b).put a o:=by
 funext c;unfold Own.put Own.del;by_cases h1:c=b;. subst h1;simp[a4Z h]
 . simp[h1]
theorem zT (M:Own):M.Sub M:=λ_ _ h=>h
theorem Own.Sub.put {M:Own}(h:M.Sub N) (n:M a=am):M.Sub (N.put a o):=λb x e=>by rw[yH (by rintro rfl;rw[n] at e;cases e)];exact h b x e
inductive DS where
 | d (x:PyData)
 | loc (a:Addr)
 | ty (n:String)
 | tl (ds:List PyData) (a:Addr)
def SI (K:Frg) (H:Hp) (M:Own):DS->V->Prop
 | .d x,v=>DV K H M.W x v
 | .loc a,v=>v = .ref a
 | .ty n,v=>v = .ty n
 | .tl ds a,v=>∃b e,v = .ref b/\TW K H M.W b (e++[.ref a])/\DVs K H M.W ds e
def SIs (K:Frg) (H:Hp) (M:Own):List DS->List V->Prop
 | [],e=>e=[]
 | d::ds,e=>∃v r,e=v::r/\SI K H M d v/\SIs K H M ds r
def XI (K:Frg) (H:Hp) (W:Addr->Prop):Option Addr->List (Str×PyData)->Prop
 | none,[]=>True
 | some d,[(n,x)]=>∃v,¬W d/\H d=al (.xd [(n,v)])/\DV K H W x v
 | _,_=>False
theorem XI.grow (g:Grow K W D H H') (h:XI K H W dd fs):XI K H' D dd fs:=by
 unfold XI at h ⊢;split at h;. trivial
 . obtain⟨v,nw,a,b⟩:=h;exact#[v,λz=>(g.new _ z).elim nw λq=>by(rw[a] at q;cases q),g.kept a nw (λ_ z=>nomatch z),b.grow g]
 . exact h.elim
def exK (a C:Addr) (dd:Option Addr):HO:=.ext λh=>∃o e,h.get? a=al o/\o.cls = .ref C/\o.dict=dd/\o.data = .fields e
def DTV (K:Frg) (H:Hp) (W:Addr->Prop) (kvs:List (List Key×PyData)) (ks:List (List Key×V)):Prop:=ks.map (·.1)=kvs.map (·.1)/\DVs K H W (kvs.map (·.2)) (ks.map (·.2))
theorem DTV.grow (g:Grow K W D H H') (h:DTV K H W kvs ks):DTV K H' D kvs ks:=#[h.1,h.2.grow g]
def OA1 (K:Frg) (H:Hp) (M:Own) (a:Addr):MO->Prop
 | .x C fs=>∃X,H a=al (exK a C X)/\XI K H M.W X fs
 | .l ds=>∃e,H a=al (.lst e)/\DVs K H M.W ds e
 | .d kvs=>∃O,H a=al (.dK O)/\DKV K H M.W kvs O
 | .t kvs=>∃O,H a=al (.dT O)/\DTV K H M.W kvs O
def OA (K:Frg) (H:Hp) (M:Own):Prop:=∀a o,M a=al o->OA1 K H M a o
structure Step (K:Frg) (M M':Own) (H H':Hp):Prop where
 grow:Grow K M.W M'.W H H'
structure Rel (K:Frg) (M:Own) (ρ:List (Option DS)) (σ:St) (H:Hp):Prop where
 own:OA K H M
 len:ρ.length=σ.length
 slot:∀(i:Nat) x,ρ[i]?=al (al x)->∃v,σ[i]?=al (al v)/\SI K H M x v
section
theorem Step.refl:Step K M M H H:=#[Grow.refl]
theorem Step.trans (a:Step K M M' H H') (b:Step K M' M2 H' H2):Step K M M2 H H2:=#[a.grow.trans b.grow]
theorem SI.step (st:Step K M M' H H'):∀{x:DS}{v:V},SI K H M x v->SI K H' M' x v
 | .d _,_,h=>DV.grow st.grow h
 | .loc _,_,h=>h
 | .ty _,_,h=>h
 | .tl _ _,_,#[b,n,e,h1,t]=>#[b,n,e,h1.grow st.grow,t.grow st.grow]
theorem Rel.step (R:Rel K M ρ σ H) (n:OA K H' M') (st:Step K M M' H H'):Rel K M' ρ σ H':=#[n,R.len,λi x e=>let #[v,h1,t]:=R.slot i x e;#[v,h1,t.step st]]
theorem Rel.set (R:Rel K M ρ σ H) (h:SI K H M x v) (i:Nat):Rel K M (ρ.set i (al x)) (σ.set i (al v)) H:=by
 refine#[R.own,by rw[List.length_set,List.length_set];exact R.len,λj y e=>?_];rw[List.getElem?_set] at e ⊢;by_cases p:i=j
 . rw[if_pos p] at e ⊢;subst p;by_cases r:i < ρ.length;. rw[if_pos r] at e;cases e;rw[if_pos (by rw[<-R.len];exact r)];exact#[v,rfl,h]
   . rw[if_neg r] at e;cases e
 . rw[if_neg p] at e ⊢;exact R.slot j y e
theorem OA.none (t:OA K H M) (h:H p=b8J):M p=b8J:=by
 cases e:M p with
 | none=>rfl
 | some o=> have:=t p o e;cases o <;> (obtain⟨n,q,_⟩:=this;rw[h] at q;cases q)
theorem B0 (W:Addr->Prop) (h:H p=b8J):Grow K W W H (upd H p o):=#[λb u e _=>.inl (by rw[AH (B2 e h)];exact e),λ_ w=>.inl w]
theorem OA.grow (t:OA K H M) (g:Grow K M.W M.W H H') (hk:∀a o,M a=al o->H' a=H a):OA K H' M:=λa o e=>by have q:=t a o e;cases o <;> (obtain⟨n,T,B⟩:=q;exact#[n,by rw[hk a _ e];exact T,B.grow g])
theorem OA.new (t:OA K H M) (h:H p=b8J):OA K (upd H p o) M:=t.grow (B0 _ h) λa x e=>by rw[AH (by rintro rfl;rw[t.none h] at e;cases e)]
theorem PF (n:OA K H M) (h:H p=b8J) (hd:DVs K H M.W ds vs) :
   OA K (upd H p (.lst vs)) (M.put p (.l ds))/\Step K M (M.put p (.l ds)) H (upd H p (.lst vs)):=by
 have i:=n.none h;have g:Grow K M.W (M.put p (.l ds)).W H (upd H p (.lst vs)):=#[λb u e _=>.inl (by rw[AH (B2 e h)];exact e),λb w=>by
   by_cases hb:b=p;. subst hb;exact .inr h
   . left;unfold Own.W at w ⊢;rw[yH hb] at w;exact w]
 refine#[λa o e=>?_,#[g]]
 . by_cases t:a=p;. subst t;rw[zU] at e;cases e;exact#[vs,AE,hd.grow g]
   . rw[yH t] at e;have q:=n a o e;cases o <;> (obtain⟨vs,T,B⟩:=q;exact#[vs,by rw[AH t];exact T,B.grow g])
theorem GQ (r:OA K H M) (h:M p=al o) (hd:DVs K H M.W t v) :
   OA K (upd H p (.lst v)) (M.put p (.l t))/\Step K M (M.put p (.l t)) H (upd H p (.lst v)):=by
 have i:∀b,(M.put p (.l t)).W b->M.W b:=λb w=>by
   unfold Own.W at w ⊢;by_cases hb:b=p;. subst hb;rw[h];simp
   . rw[yH hb] at w;exact w
 have g:Grow K M.W (M.put p (.l t)).W H (upd H p (.lst v)):=#[λb u e nw=>.inl (by
   rw[AH (by rintro rfl;exact nw (by unfold Own.W;rw[h];simp))];exact e),λb w=>.inl (i b w)]
 refine#[λa o e=>?_,#[g]]
 . by_cases n:a=p;. subst n;rw[zU] at e;cases e;exact#[v,AE,hd.grow g]
   . rw[yH n] at e;have q:=r a o e;cases o <;> (obtain⟨m,T,B⟩:=q;exact#[m,by rw[AH n];exact T,B.grow g])
theorem B8{K:Frg}{M:Own}{M':Own}{H:Hp} (hs:M'.Sub M):Grow K M.W M'.W H H:=#[λ_ _ e _=>.inl e,λb w=>.inl (by
 unfold Own.W at w ⊢;cases e:M' b with
 | none=>exact absurd e w
 | some o=>rw[hs b o e];simp)]
theorem OA.sub (t:OA K H M) (hs:M'.Sub M):OA K H M':=λa o e=>by have q:=t a o (hs a o e);cases o <;> (obtain⟨n,T,B⟩:=q;exact#[n,T,B.grow (B8 hs)])
theorem SI.sub (hs:M'.Sub M):∀{x:DS}{v:V},SI K H M x v->SI K H M' x v
 | .d _,_,h=>DV.grow (B8 hs) h
 | .loc _,_,h=>h
 | .ty _,_,h=>h
 | .tl _ _,_,#[b,n,e,h1,t]=>#[b,n,e,h1.grow (B8 hs),t.grow (B8 hs)]
end
def DE (K:Frg) (t:TE) (n:List (Option DS)) (M:Own) (Q:DS->Own->Prop):Prop:=∀(e:St) (H:Hp) (QQ:VK),Rel K M n e H->(∀v H' x i,OA K H' i->SI K H' i x v->Step K M i H H'->Q x i->QQ v H')->t e H QQ
def DT (K:Frg) (t:TT) (n:List (Option DS)) (M:Own) (Q:Bool->Own->Prop):Prop:=∀(e:St) (H:Hp) (QQ:Bool->Hp->Prop),Rel K M n e H->(∀b H' i,OA K H' i->Step K M i H H'->Q b i->QQ b H')->t e H QQ
def DA (K:Frg) (t:TA) (m:List (Option DS)) (M:Own) (Q:List DS->Own->Prop):Prop:=∀(r:St) (H:Hp) (QQ:List V->Hp->Prop),Rel K M m r H->(∀e H' n i,OA K H' i->SIs K H' i n e->Step K M i H H'->Q n i->QQ e H')->t r H QQ
def DP (K:Frg) (t:TO) (n:List (Option DS)) (M:Own) (Q:Option Int->Own->Prop):Prop:=∀(e:St) (H:Hp) (QQ:Option Int->Hp->Prop),Rel K M n e H->(∀b H' i,OA K H' i->Step K M i H H'->Q b i->QQ b H')->t e H QQ
structure EndsD where
 nx:List (Option DS)->Own->Prop
 rt:DS->Own->Prop
 bk:List (Option DS)->Own->Prop:=λ_ _=>False
 ct:List (Option DS)->Own->Prop:=λ_ _=>False
def DSt (K:Frg) (t:TS) (r:List (Option DS)) (M:Own) (D:EndsD):Prop:=∀(n:St) (H:Hp) (E:Ends),Rel K M r n H->(∀e i b H',Rel K i e b H'->Step K M i H H'->D.nx e i->E.nx b H')->(∀v H' x i,OA K H' i->SI K H' i x v->Step K M i H H'->D.rt x i->E.rt v H') ->(∀e i b H',Rel K i e b H'->Step K M i H H'->D.bk e i->E.bk b H')->(∀e i b H',Rel K i e b H'->Step K M i H H'->D.ct e i->E.ct b H')->t E n H
def D1 (K:Frg) (r:V->Hp->VK->Prop) (x:DS) (M:Own) (Q:DS->Own->Prop):Prop:=∀(H:Hp) (v:V) (QQ:VK),OA K H M->SI K H M x v->(∀w H' z i,OA K H' i->SI K H' i z w->Step K M i H H'->Q z i->QQ w H')->r v H QQ
def D2 (K:Frg) (r:R2) (x y:DS) (M:Own) (Q:DS->Own->Prop):Prop:=∀(H:Hp) (v u:V) (QQ:VK),OA K H M->SI K H M x v->SI K H M y u->(∀w H' z i,OA K H' i->SI K H' i z w->Step K M i H H'->Q z i->QQ w H')->r v u H QQ
def DR (K:Frg) (r:List V->Hp->VK->Prop) (xs:List DS) (M:Own) (Q:DS->Own->Prop):Prop:=∀(H:Hp) (e:List V) (QQ:VK),OA K H M->SIs K H M xs e->(∀w H' z i,OA K H' i->SI K H' i z w->Step K M i H H'->Q z i->QQ w H')->r e H QQ
def DM (K:Frg) (r:V->List V->Hp->VK->Prop) (x:DS) (xs:List DS) (M:Own) (Q:DS->Own->Prop):Prop:=∀(H:Hp) (v:V) (e:List V) (QQ:VK),OA K H M->SI K H M x v->SIs K H M xs e->(∀w H' z i,OA K H' i->SI K H' i z w->Step K M i H H'->Q z i->QQ w H')->r v e H QQ
def DSl (K:Frg) (r:V->Option Int->Option Int->Hp->VK->Prop) (x:DS) (e hi:Option Int) (M:Own) (Q:DS->Own->Prop):Prop:=∀(H:Hp) (v:V) (QQ:VK),OA K H M->SI K H M x v->(∀w H' z i,OA K H' i->SI K H' i z w->Step K M i H H'->Q z i->QQ w H')->r v e hi H QQ
def DTy (K:Frg) (T:String) (x:DS) (M:Own):Prop:=∀(H:Hp) (v:V),OA K H M->SI K H M x v->tyV K T v H
section
variable {K:Frg}{ρ:List (Option DS)}{M:Own}{Q:DS->Own->Prop}{QB:Bool->Own->Prop}{ta tb tc:TE}{tA vw:TT}{r r':R2}
theorem V8 (h:DE K t ρ M Q) (hq:∀x i,Q x i->e x i):DE K t ρ M e:=λn H QQ R k=>h n H QQ R λv H' x i a b c q=>k v H' x i a b c (hq x i q)
theorem A1U (e:ρ[i]?=al (al x)) (h:Q x M):DE K (X3 i) ρ M Q:=λn H QQ R k=>by obtain⟨v,h1,t⟩:=R.slot i x e;exact#[v,h1,k v H x M R.own t Step.refl h]
theorem A1V (h:Q (.d (.int i)) M):DE K (tC (.int i)) ρ M Q:=λe H QQ R k=>k _ H (.d (.int i)) M R.own (by unfold SI DV;rfl) Step.refl h
theorem A3R (h:Q (.d (.bool i)) M):DE K (tC (.bl i)) ρ M Q:=λe H QQ R k=>k _ H (.d (.bool i)) M R.own (by unfold SI DV;rfl) Step.refl h
theorem A1W (h:Q (.d (.str i)) M):DE K (tC (.str i)) ρ M Q:=λe H QQ R k=>k _ H (.d (.str i)) M R.own (by unfold SI DV;rfl) Step.refl h
theorem A1X (h:Q (.d .none) M):DE K (tC .non) ρ M Q:=λe H QQ R k=>k _ H (.d .none) M R.own (by unfold SI DV;rfl) Step.refl h
theorem A3S (h:Q (.ty n) M):DE K (tC (.ty n)) ρ M Q:=λe H QQ R k=>k _ H (.ty n) M R.own rfl Step.refl h
theorem A3T (h:DE K ta ρ M λx M1=>DE K tb ρ M1 λy e=>D2 K r x y e Q):DE K (tOp r ta tb) ρ M Q:=λn H QQ R k=>
 h n H _ R λv m x M1 g T t h1=>h1 n m _ (R.step g t) λu f y e j N c b=>b f v u QQ j (T.step c) N λw i z p S O G q=>k w i z p S O ((t.trans c).trans G) q
theorem A3U {r:V->Hp->VK->Prop}(h:DE K ta ρ M λx M1=>D1 K r x M1 Q):DE K (tUn r ta) ρ M Q:=λb H QQ R k=>
 h b H _ R λv m x M1 t n y h1=>h1 m v QQ t n λw i z e S p G q=>k w i z e S p (y.trans G) q
theorem mE (h:DE K ta ρ M λx M1=>DE K tb ρ M1 λy p=>D2 K r x y p λz e=>∃c,z = .d (.bool c)/\if c=ap then DE K tc ρ e (λw b=>D2 K r' y w b Q) else Q (.d (.bool aw)) e) :
   DE K (aQ r r' ta tb tc) ρ M Q:=λi H QQ R k=>
 h i H _ R λv T x M1 L s1 t h1=>h1 i T _ (R.step L t) λu N y p U f n D=>D N v u _ U (s1.step n) f λw m z e S g G q=>by
   obtain⟨c,rfl,q⟩:=q;unfold SI DV at g;refine#[c,g,?_];cases c with
   | false=> rw[if_neg nft] at q ⊢;exact k _ m _ e S (by unfold SI DV;rfl) ((t.trans n).trans G) q
   | true=> rw[if_pos rfl] at q ⊢;exact q i m _ (R.step S ((t.trans n).trans G)) λw4 O z4 b X s4 j B=>B O u w4 QQ X (f.step (G.trans j)) s4 λw5 J z5 I Y s5 t5 Z=>k w5 J z5 I Y s5 ((((t.trans n).trans G).trans j).trans t5) Z
theorem u9 (h:DE K ta ρ M λx M1=>∃c,x = .d (.bool c)/\QB c M1):DT K (lL ta) ρ M QB:=λn H QQ R k=>
 h n H _ R λv m x M1 t e y h1=>by obtain⟨c,rfl,q⟩:=h1;unfold SI DV at e;exact#[c,e,k c m M1 t y q]
theorem A4Q (h:DE K ta ρ M λx M1=>∃c,x = .d (.bool c)/\QB c M1):DT K (L2.tB ta) ρ M QB:=λn H QQ R k=>
 h n H _ R λv m x M1 t e y h1=>by obtain⟨c,rfl,q⟩:=h1;unfold SI DV at e;exact#[c,e,k c m M1 t y q]
theorem A1Y (h:DT K tA ρ M λc M1=>if c=ap then DT K vw ρ M1 QB else QB aw M1):DT K (A2y tA vw) ρ M QB:=λt H QQ R k=>
 h t H _ R λc m M1 e y h1=>by
   cases c with
   | false=>rw[if_neg nft] at h1 ⊢;exact k _ m M1 e y h1
   | true=>rw[if_pos rfl] at h1 ⊢;exact h1 t m QQ (R.step e y) λb f n i p q=>k b f n i (y.trans p) q
theorem A3V (h:DT K tA ρ M λc M1=>if c=ap then QB ap M1 else DT K vw ρ M1 QB):DT K (tOr tA vw) ρ M QB:=λt H QQ R k=>
 h t H _ R λc m M1 e y h1=>by
   cases c with
   | true=>rw[if_pos rfl] at h1 ⊢;exact k _ m M1 e y h1
   | false=>rw[if_neg nft] at h1 ⊢;exact h1 t m QQ (R.step e y) λb f n i p q=>k b f n i (y.trans p) q
theorem A1Z (h:DT K tA ρ M λc M1=>QB (!c) M1):DT K (A2z tA) ρ M QB:=λt H QQ R k=>h t H _ R λc m M1 e y h1=>k _ m M1 e y h1
theorem A1a (h:QB ap M):DT K u0 ρ M QB:=λe H QQ R k=>k ap H M R.own Step.refl h
theorem A1b (h:DE K ta ρ M λx M1=>∃c,x = .d (.bool c)/\if c=ap then DE K tb ρ M1 Q else Q (.d (.bool aw)) M1):DE K (A0E ta tb) ρ M Q:=λn H QQ R k=>
 h n H _ R λv m x M1 e t y h1=>by
   obtain⟨c,rfl,q⟩:=h1;unfold SI DV at t;refine#[c,t,?_];cases c with
   | false=>rw[if_neg nft] at q ⊢;exact k _ m _ M1 e (by unfold SI DV;rfl) y q
   | true=>rw[if_pos rfl] at q ⊢;exact q n m QQ (R.step e y) λw f z i p b g q=>k w f z i p b (y.trans g) q
theorem A3W (h:DE K ta ρ M λx M1=>∃c,x = .d (.bool c)/\if c=ap then Q (.d (.bool ap)) M1 else DE K tb ρ M1 Q):DE K (A3A ta tb) ρ M Q:=λn H QQ R k=>
 h n H _ R λv m x M1 e t y h1=>by
   obtain⟨c,rfl,q⟩:=h1;unfold SI DV at t;refine#[c,t,?_];cases c with
   | true=>rw[if_pos rfl] at q ⊢;exact k _ m _ M1 e (by unfold SI DV;rfl) y q
   | false=>rw[if_neg nft] at q ⊢;exact q n m QQ (R.step e y) λw f z i p b g q=>k w f z i p b (y.trans g) q
theorem A1c (h:DE K ta ρ M λx M1=>∃c,x = .d (.bool c)/\Q (.d (.bool (!c))) M1):DE K (A0F ta) ρ M Q:=λn H QQ R k=>
 h n H _ R λv m x M1 t e y h1=>by obtain⟨c,rfl,q⟩:=h1;unfold SI DV at e;exact#[c,e,k _ m _ M1 t (by unfold SI DV;rfl) y q]
theorem A3X (h:DT K tA ρ M λc M1=>if c=ap then DE K ta ρ M1 Q else DE K tb ρ M1 Q):DE K (tIf tA ta tb) ρ M Q:=λi H QQ R k=>
 h i H _ R λc m M1 p y h1=>by
   cases c with
   | true=>rw[if_pos rfl] at h1 ⊢;exact h1 i m QQ (R.step p y) λw f z e t v n q=>k w f z e t v (y.trans n) q
   | false=>rw[if_neg nft] at h1 ⊢;exact h1 i m QQ (R.step p y) λw f z e t v n q=>k w f z e t v (y.trans n) q
variable {QL:List DS->Own->Prop}{tl:TA}
theorem mF (h:QL [] M):DA K tK ρ M QL:=λe H QQ R k=>k [] H [] M R.own rfl Step.refl h
theorem uA (h:DE K ta ρ M λx M1=>DA K tl ρ M1 λxs e=>QL (x::xs) e):DA K (T9 ta tl) ρ M QL:=λn H QQ R k=>
 h n H _ R λv m x M1 i b y h1=>h1 n m _ (R.step i y) λt f xs e p g c q=>k (v::t) f (x::xs) e p #[v,t,rfl,b.step c,g] (y.trans c) q
def SQ:List DS->Option (List PyData)
 | []=>al []
 | .d x::r=>match SQ r with
   | some l=>al (x::l)
   | none=>am
 | .loc _::_=>am
 | .ty _::_=>am
 | .tl _ _::_=>am
theorem SIs.data :∀{xs:List DS}{ds:List PyData}{vs:List V},SQ xs=al ds->SIs K H M xs vs->DVs K H M.W ds vs
 | [],ds,vs,e,h=>by cases e;cases h;exact DVs.nil
 | .d x::r,ds,vs,e,#[v,q,j,h1,n]=>by
   cases t:SQ r with
   | none=>rw[SQ,t] at e;cases e
   | some I=> rw[SQ,t] at e;cases e;subst j;exact DVs.cons h1 (SIs.data t n)
 | .loc _::_,ds,vs,e,_=>by cases e
 | .ty _::_,ds,vs,e,_=>by cases e
 | .tl _ _::_,ds,vs,e,_=>by cases e
theorem SIs.length :∀{xs:List DS}{vs:List V},SIs K H M xs vs->vs.length=xs.length
 | [],vs,h=>by cases h;rfl
 | _::r,vs,#[v,q,j,h1,e]=>by subst j;simp[SIs.length e]
theorem A1d (h:DA K tl ρ M λxs M1=>∃ds,SQ xs=al ds/\ds.length<=aB/\Q (.d (.tuple ds)) M1):DE K (A08 tl) ρ M Q:=λc H QQ R k=>
 h c H _ R λn m xs M1 t b y h1=>by obtain⟨ds,e,i,q⟩:=h1;have hd:=b.data e;refine#[by rw[hd.length];exact i,λp hp=>?_];have g:Grow K M1.W M1.W m (upd m p (.tup n)):=B0 _ hp;refine k _ _ (.d (.tuple ds)) M1 (t.new hp) ?_ (y.trans #[g]) q;unfold SI DV;exact#[p,n,rfl,.inl #[λw=>w (t.none hp),.inl AE],hd.grow g]
theorem J3 (h:DA K tl ρ M λxs M1=>∃ds,SQ xs=al ds/\ds.length<=aB/\Q (.d (.list ds)) M1):DE K (A09 tl) ρ M Q:=λc H QQ R k=>
 h c H _ R λn m xs M1 t b y h1=>by obtain⟨ds,e,i,q⟩:=h1;have hd:=b.data e;refine#[by rw[hd.length];exact i,λp hp=>?_];have g:Grow K M1.W M1.W m (upd m p (.lst n)):=B0 _ hp;refine k _ _ (.d (.list ds)) M1 (t.new hp) ?_ (y.trans #[g]) q;unfold SI DV;exact#[p,n,rfl,.inl #[λw=>w (t.none hp),.inl AE],hd.grow g]
theorem MH (h:DA K tl ρ M λxs M1=>∃ds,SQ xs=al ds/\ds.length<=aB/\∀p,M1 p=am->Q (.loc p) (M1.put p (.l ds))):DE K (A09 tl) ρ M Q:=λm H QQ R k=>
 h m H _ R λf c xs M1 t i y h1=>by obtain⟨ds,e,n,q⟩:=h1;have hd:=i.data e;refine#[by rw[hd.length];exact n,λp hp=>?_];obtain⟨a,b⟩:=PF t hp hd;exact k _ _ (.loc p) _ a rfl (y.trans b) (q p (t.none hp))
theorem A3Y {r:List V->Hp->VK->Prop}(h:DA K tl ρ M λxs M1=>DR K r xs M1 Q):DE K (tCB r tl) ρ M Q:=λb H QQ R k=>
 h b H _ R λp m xs M1 t i y h1=>h1 m p QQ t i λw f z e n v c q=>k w f z e n v (y.trans c) q
structure FSp where
 pre:List DS->Own->Prop
 post:List DS->Own->DS->Own->Prop
def spD (K:Frg) (n:Nat) (S:FSp):Sp:=λe H Q _=>∃t M,t.length=n/\OA K H M/\SIs K H M t e/\S.pre t M/\∀x i v H',S.post t M x i->Step K M i H H'->OA K H' i->SI K H' i x v->Q v H'
theorem dS :∀vs H Q E,spD K n S vs H Q E->vs.length=n:=by rintro vs H Q E ⟨t,M,e,_,h,_⟩;rw[h.length,e]
theorem uB (h:DA K tl ρ M λxs M1=>xs.length=n/\S.pre xs M1/\∀x i,S.post xs M1 x i->Q x i):DE K (dL (spD K n S) [] E tl) ρ M Q:=λu H QQ R k=>
 h u H _ R λq m xs M1 b f y G=>by obtain⟨e,h1,t⟩:=G;show spD K n S (q++[]) m QQ E;rw[a4W];exact#[xs,M1,e,b,f,h1,λx i v H' p j c g=>k v H' x i c g (y.trans j) (t x i p)]
theorem OJ {r:V->List V->Hp->VK->Prop}(h:DE K ta ρ M λx M1=>DTy K T x M1/\DA K tl ρ M1 λxs e=>DM K r x xs e Q):DE K (tBM K T r ta tl) ρ M Q:=λi H QQ R k=>
 h i H _ R (by rintro v m x M1 t n y ⟨S,h1⟩;exact#[S m v t n,h1 i m _ (R.step t y) λI f xs e j N c g=>g f v I QQ j (n.step c) N λw p z b u O G q=>k w p z b u O ((y.trans c).trans G) q])
theorem uC (h:QP am M):DP K dN ρ M QP:=λe H QQ R k=>k _ H M R.own Step.refl h
theorem uD (h:DE K ta ρ M λx M1=>∃i,x = .d (.int i)/\QP (al i) M1):DP K (A0L ta) ρ M QP:=λn H QQ R k=>
 h n H _ R λv m x M1 t e y h1=>by obtain⟨i,rfl,q⟩:=h1;unfold SI DV at e;exact#[i,e,k _ m M1 t y q]
theorem A3Z {r:V->Option Int->Option Int->Hp->VK->Prop}{tl:TO}(h:DE K ta ρ M λx M1=>DP K tl ρ M1 λi t=>DP K m ρ t λhi n=>DSl K r x i hi n Q):DE K (tSl r ta tl m) ρ M Q:=λe H QQ R k=>
 h e H _ R λv p x M1 T I y h1=>h1 e p _ (R.step T y) λi f t N c u=>u e f _ (R.step N (y.trans c)) λhi b n S G J=>J b v QQ S (I.step (c.trans G)) λw g z j O D B q=>k w g z j O D (((y.trans c).trans G).trans B) q
theorem dU (h:D.nx ρ M):DSt K A0G ρ M D:=λe H E R x _ _ _=>x ρ M e H R Step.refl h
theorem mG (h:DE K ta ρ M D.rt):DSt K (A0s ta) ρ M D:=λe H E R _ z _ _=>h e H E.rt R λv H' x i a b c q=>z v H' x i a b c q
theorem dW (h:DE K ta ρ M λ_ M1=>D.nx ρ M1):DSt K (lA ta) ρ M D:=λe H E R n _ _ _=>h e H _ R λv H' x i a b c q=>n ρ i e H' (R.step a c) c q
theorem mH (h:DE K ta ρ M λx M1=>D.nx (ρ.set i (al x)) M1):DSt K (tG ta (Q1 i)) ρ M D:=λm H E R n _ _ _=>
 h m H _ R λv H' x e a b c q=>n _ e _ H' ((R.step a c).set b i) c q
theorem dX (h:DE K ta ρ M λx M1=>D.nx (ρ.set i (al x)) M1):DSt K (λD e H=>ta e H λv H'=>D.nx (e.set i (al v)) H') ρ M D:=λe H E R m _ _ _=>
 h e H _ R λv H' x n a b c q=>m _ n _ H' ((R.step a c).set b i) c q
theorem mI (h:DSt K t ρ M { D with nx:=λn M1=>DSt K u n M1 D }):DSt K (l9 t u) ρ M D:=λv H E R x z p Y=>by refine h v H { E with nx:=λi H'=>u E i H' } R (λn M1 m j k y q=>?_) z p Y;exact q m j E k (λa b c d e f g=>x a b c d e (y.trans f) g) (λa b c d e f g q=>z a b c d e f (y.trans g) q) (λa b c d e f g=>p a b c d e (y.trans f) g) (λa b c d e f g=>Y a b c d e (y.trans f) g)
theorem A3a (h:DT K tA ρ M λc M1=>if c=ap then DSt K t ρ M1 D else DSt K u ρ M1 D):DSt K (A0u tA t u) ρ M D:=λn H E R x z p Y=>
 h n H _ R λc m M1 j y h1=>by
   have i:∀{w:TS},DSt K w ρ M1 D->w E n m:=λq=>q n m E (R.step j y) (λa b c d e f g=>x a b c d e (y.trans f) g) (λa b c d e f g q=>z a b c d e f (y.trans g) q) (λa b c d e f g=>p a b c d e (y.trans f) g) (λa b c d e f g=>Y a b c d e (y.trans f) g);cases c with
   | true=>rw[if_pos rfl] at h1 ⊢;exact i h1
   | false=>rw[if_neg nft] at h1 ⊢;exact i h1
theorem uE (h:DSt K t ρ M D) (h1:∀n i,D.nx n i->m.nx n i) (p:∀x i,D.rt x i->m.rt x i) (J:∀n i,D.bk n i->m.bk n i) (j:∀n i,D.ct n i->m.ct n i):DSt K t ρ M m:=
 λy H E R k z v Y=>h y H E R (λa b c d e f g=>k a b c d e f (h1 _ _ g)) (λa b c d e f g q=>z a b c d e f g (p _ _ q)) (λa b c d e f g=>v a b c d e f (J _ _ g)) (λa b c d e f g=>Y a b c d e f (j _ _ g))
theorem EZ (e:ρ[i]?=al (al (.loc a))) (m:M a=al (.l ds)) (h:DSt K t (ρ.set i (al (.d (.list ds)))) (M.del a) D):DSt K t ρ M D:=λp H E R O I S Y=>by
 have hs:(M.del a).Sub M:=λb o q=>by
   unfold Own.del at q;by_cases hb:b=a;. rw[if_pos hb] at q;cases q
   . rw[if_neg hb] at q;exact q
 have n:Step K M (M.del a) H H:=#[B8 hs]
 obtain⟨v,k,T⟩:=R.slot i _ e;obtain⟨J,B,G⟩:=R.own a _ m;have z:Rel K (M.del a) ρ p H:=R.step (R.own.sub hs) n;have R2:=z.set (x:=.d (.list ds)) (v:=v) (by
   unfold SI DV;refine#[a,J,T,.inl #[λw=>w (by unfold Own.del;rw[if_pos rfl]),.inl B],G.grow (B8 hs)]) i;have N:p.set i (al v)=p:=by
   apply a9W;intro j;rw[List.getElem?_set];by_cases y:i=j
   . subst y;rw[if_pos rfl,k];split;. rfl
     . rename_i L;rw[a4J (by lia)] at k;cases k
   . rw[if_neg y]
 rw[N] at R2;exact h p H E R2 (λa b c d e f g=>O a b c d e (n.trans f) g) (λa b c d e f g q=>I a b c d e f (n.trans g) q) (λa b c d e f g=>S a b c d e (n.trans f) g) (λa b c d e f g=>Y a b c d e (n.trans f) g)
end
end DL
namespace DL
open PySem PySem.Spec L2
section
theorem E2 (h:SI K H M (.d (.int i)) v):v = .int i:=by unfold SI DV at h;exact h
theorem A3b (h:SI K H M (.d (.bool i)) v):v = .bl i:=by unfold SI DV at h;exact h
theorem BD (h:SI K H M (.d (.str i)) v):v = .str i:=by unfold SI DV at h;exact h
theorem mJ (h:SI K H M (.d .none) v):v = .non:=by unfold SI DV at h;exact h
theorem E3 :SI K H M (.d (.int i)) (.int i):=by unfold SI DV;rfl
theorem AM :SI K H M (.d (.bool i)) (.bl i):=by unfold SI DV;rfl
theorem GR :SI K H M (.d (.str i)) (.str i):=by unfold SI DV;rfl
theorem A3c {g:Int->Int->Int}(q:Q (.d (.int (g i j))) M):D2 K (rI0 λi j=>.int (g i j)) (.d (.int i)) (.d (.int j)) M Q:=λH v u QQ e t n k=>by rw[E2 t,E2 n];exact#[i,j,rfl,rfl,k _ H _ M e E3 Step.refl q]
theorem A3d {g:Int->Int->Bool}(q:Q (.d (.bool (g i j))) M):D2 K (rI0 λi j=>.bl (g i j)) (.d (.int i)) (.d (.int j)) M Q:=λH v u QQ e t n k=>by rw[E2 t,E2 n];exact#[i,j,rfl,rfl,k _ H _ M e AM Step.refl q]
theorem dY {g:Int->Int->Int}(c:C i j) (q:Q (.d (.int (g i j))) M):D2 K (rI C λi j=>.int (g i j)) (.d (.int i)) (.d (.int j)) M Q:=λH v u QQ e t n k=>by rw[E2 t,E2 n];exact#[i,j,rfl,rfl,c,k _ H _ M e E3 Step.refl q]
theorem A4R {g:Int->Int}(q:Q (.d (.int (g i))) M):D1 K (rU λi=>.int (g i)) (.d (.int i)) M Q:=λH v QQ e t k=>by rw[E2 t];exact#[i,rfl,k _ H _ M e E3 Step.refl q]
theorem uF (hz:i.length+j.length<=aB) (q:Q (.d (.str (i++j))) M) :
   D2 K (λx y H Q=>∃i j,x = .str i/\y = .str j/\i.length+j.length<=aB/\Q (.str (i++j)) H) (.d (.str i)) (.d (.str j)) M Q:=λH v u QQ e t n k=>by rw[BD t,BD n];exact#[i,j,rfl,rfl,hz,k _ H _ M e GR Step.refl q]
theorem A1e (q:Q (.d (.bool (!(a4Q j i 0 j.length 1).isEmpty))) M) :
   D2 K (λx y H Q=>∃i j,x = .str i/\y = .str j/\Q (.bl (!(a4Q j i 0 j.length 1).isEmpty)) H) (.d (.str i)) (.d (.str j)) M Q:=λH v u QQ e t n k=>by rw[BD t,BD n];exact#[i,j,rfl,rfl,k _ H _ M e AM Step.refl q]
theorem AZ {neg:Bool}(g:zH a=ap) (hb:zH b=ap) (q:Q (.d (.bool (if neg then !a0W a b else a0W a b))) M):D2 K (SO K neg) (.d a) (.d b) M Q:=λH v u QQ e t n k=>
 #[M.W,a,b,t,n,g,hb,k _ H _ M e AM Step.refl q]
theorem XG (x:Str) (ys:List Str):inV (.str x) (ys.map V.str)=decide (x∈ys):=by
 unfold inV;rw[a3Q,b1Q,decide_eq_true_iff];constructor
 . rintro⟨y,hy,e⟩;obtain⟨z,q,rfl⟩:=zL.mp hy;have:z=x:=by simpa [eqV] using e
   subst this;exact q
 . intro h;exact#[.str x,zL.mpr #[x,h,rfl],by simp[eqV]]
theorem A1f {neg:Bool}{ys:List Str}(q:Q (.d (.bool (if neg then !decide (x∈ys) else decide (x∈ys)))) M):D2 K (rIn K neg) (.d (.str x)) (.d (.list (ys.map .str))) M Q:=λH v u QQ n i t k=>by rw[BD i];unfold SI DV at t;obtain⟨a,m,rfl,r,hd⟩:=t;have e:=J2 hd;subst e;exact#[a,_,rfl,.inl r.sq,rfl,by simp[KP],k _ H (.d (.bool (if neg then !decide (x∈ys) else decide (x∈ys)))) M n (by rw[XG];exact AM) Step.refl q]
theorem mK (h:DVs K H W ds vs) (e:atI ds i=al d):∃v,atI vs i=al v/\DV K H W d v:=by
 unfold atI at e ⊢;rw[h.length];cases hx:ixN ds.length i with
 | none=>rw[hx] at e;cases e
 | some j=>rw[hx] at e;simpa using h.get' (by simpa using e)
theorem A1g (e:atI ds i=al d) (q:Q (.d d) M):D2 K (A1E K) (.d (.list ds)) (.d (.int i)) M Q:=λH v u QQ m t p k=>by rw[E2 p];unfold SI DV at t;obtain⟨a,b,rfl,r,hd⟩:=t;obtain⟨w,h1,n⟩:=mK hd e;exact#[a,b,i,w,rfl,rfl,r.sq,h1,k _ H (.d d) M m n Step.refl q]
theorem A1h (e:atI ds i=al d) (q:Q (.d d) M):D2 K (A1F K) (.d (.tuple ds)) (.d (.int i)) M Q:=λH v u QQ m t p k=>by rw[E2 p];unfold SI DV at t;obtain⟨a,b,rfl,r,hd⟩:=t;obtain⟨w,h1,n⟩:=mK hd e;exact#[a,b,i,w,rfl,rfl,r.sq,h1,k _ H (.d d) M m n Step.refl q]
theorem A1i (hz:z.length<=aB) (e:atI z.cps.toList i=al c) (q:Q (.d (.str #[(y9 [c])])) M):D2 K A1G (.d (.str z)) (.d (.int i)) M Q:=λH v u QQ t n r k=>by rw[E2 r,BD n];exact#[z,i,c,rfl,rfl,hz,e,k _ H _ M t GR Step.refl q]
theorem F6 {L:R2}(h:D2 K r x y M Q):D2 K (λx y H Q=>r x y H Q\/L x y H Q) x y M Q:=λH v u QQ e t n k=>.inl (h H v u QQ e t n k)
theorem GF {r:R2}(h:D2 K L x y M Q):D2 K (λx y H Q=>r x y H Q\/L x y H Q) x y M Q:=λH v u QQ e t n k=>.inr (h H v u QQ e t n k)
theorem A1j (hz:as.length+bs.length<=aB) (q:Q (.d (.list (as++bs))) M):D2 K (λx y H Q=>∃a b xs ys,x = .ref a/\y = .ref b/\SqL K H a xs/\SqL K H b ys/\xs.length+ys.length<=aB/\∀p,H p=am->Q (.ref p) (upd H p (.lst (xs++ys)))) (.d (.list as)) (.d (.list bs)) M Q:=λH v u QQ e t n k=>by unfold SI DV at t n;obtain⟨a,r,rfl,m,hd⟩:=t;obtain⟨b,i,rfl,c,hd2⟩:=n;refine#[a,b,r,i,rfl,rfl,m.sq,c.sq,by rw[hd.length,hd2.length];exact hz,λp hp=>?_];have g:Grow K M.W M.W H (upd H p (.lst (r++i))):=B0 _ hp;refine k _ _ (.d (.list (as++bs))) M (e.new hp) ?_ #[g] q;unfold SI DV;exact#[p,_,rfl,.inl #[λw=>w (e.none hp),.inl AE],(hd.append hd2).grow g]
theorem uG (hz:z.length<=aB) (q:Q (.d (.int z.length)) M):DR K (λxs H Q=>∃x n,xs=[x]/\lO K x H n/\Q (.int (n:Nat)) H) [.d (.str z)] M Q:=λH i QQ t s k=>by obtain⟨v,r,rfl,h1,e⟩:=s;cases e;rw[BD h1];exact#[_,_,rfl,#[hz,rfl],k _ H _ M t E3 Step.refl q]
theorem uH (q:Q (.d (.int ds.length)) M):DR K (λxs H Q=>∃x n,xs=[x]/\lO K x H n/\Q (.int (n:Nat)) H) [.d (.list ds)] M Q:=λH e QQ m s k=>by obtain⟨v,r,rfl,h1,t⟩:=s;cases t;unfold SI DV at h1;obtain⟨a,e,rfl,i,hd⟩:=h1;exact#[_,_,rfl,.inl #[e,i.sq,rfl],k _ H (.d (.int ds.length)) M m (by rw[hd.length];exact E3) Step.refl q]
theorem uI (q:Q (.d (.int ds.length)) M):DR K (λxs H Q=>∃x n,xs=[x]/\lO K x H n/\Q (.int (n:Nat)) H) [.d (.tuple ds)] M Q:=λH e QQ m s k=>by obtain⟨v,r,rfl,h1,t⟩:=s;cases t;unfold SI DV at h1;obtain⟨a,e,rfl,i,hd⟩:=h1;exact#[_,_,rfl,.inr #[e,i.sq,rfl],k _ H (.d (.int ds.length)) M m (by rw[hd.length];exact E3) Step.refl q]
theorem A1k {bs:List Bool}(q:Q (.d (.bool (bs.all id))) M):DR K (λxs H Q=>∃(p:Addr) (bs:List Bool),xs=[.ref p]/\SqL K H p (bs.map V.bl)/\Q (.bl (bs.all id)) H) [.d (.list (bs.map .bool))] M Q:=λH i QQ n s k=>by obtain⟨v,r,rfl,h1,t⟩:=s;cases t;unfold SI DV at h1;obtain⟨a,i,rfl,e,hd⟩:=h1;rw[NN hd] at e;exact#[a,bs,rfl,e.sq,k _ H _ M n AM Step.refl q]
theorem A1l {bs:List Bool}(q:Q (.d (.bool (bs.any id))) M):DR K (λxs H Q=>∃(p:Addr) (bs:List Bool),xs=[.ref p]/\SqL K H p (bs.map V.bl)/\Q (.bl (bs.any id)) H) [.d (.list (bs.map .bool))] M Q:=λH i QQ n s k=>by obtain⟨v,r,rfl,h1,t⟩:=s;cases t;unfold SI DV at h1;obtain⟨a,i,rfl,e,hd⟩:=h1;rw[NN hd] at e;exact#[a,bs,rfl,e.sq,k _ H _ M n AM Step.refl q]
theorem dZ :DTy K "str" (.d (.str z)) M:=λH v _ s=>by rw[BD s];exact rfl
theorem HP (m:M a=al (.l ds)):DTy K "list" (.loc a) M:=λH v e s=>by unfold SI at s;subst s;obtain⟨t,S,hd⟩:=e a _ m;exact .inl #[rfl,t,SqL.of S]
theorem uJ (hz:(ys.map (·.length)).sum+ys.length*y.length<=16777216) (q:Q (.d (.str (Txt.join y ys))) M):DM K (m9 K) (.d (.str y)) [.d (.list (ys.map .str))] M Q:=λH v b QQ n i m k=>by obtain⟨u,r,rfl,h1,t⟩:=m;cases t;rw[BD i];unfold SI DV at h1;obtain⟨a,p,rfl,e,hd⟩:=h1;rw[J2 hd] at e;exact#[y,a,ys,rfl,rfl,e.sq,hz,k _ H _ M n GR Step.refl q]
theorem E4 (m:M a=al (.l ds)) (hz:ds.length < aB) (q:Q (.d .none) (M.put a (.l (ds++[d])))):DM K V0 (.loc a) [.d d] M Q:=λH v b QQ e t i k=>by obtain⟨u,r,rfl,h1,n⟩:=i;cases n;unfold SI at t;subst t;obtain⟨p,S,hd⟩:=e a _ m;obtain⟨x,y⟩:=GQ e m (hd.append (DVs.cons h1 DVs.nil));exact#[a,p,u,rfl,rfl,S,by rw[hd.length];exact hz,k _ _ (.d .none) _ x (by unfold SI DV;rfl) y q]
theorem uK (hz:z.length<=aB) (q:Q (.d (.str (b2Z z e hi))) M):DSl K A1R (.d (.str z)) e hi M Q:=λH v QQ t n k=>by rw[BD n];exact#[z,rfl,hz,k _ H _ M t GR Step.refl q]
def EF (xs:List PyData) (e hi:Option Int):List PyData:=(xs.drop (HT.sIx xs.length 0 e)).take (HT.sIx xs.length xs.length hi - HT.sIx xs.length 0 e)
theorem mL (q:Q (.d (.list (EF ds e hi))) M):DSl K (A1J K) (.d (.list ds)) e hi M Q:=λH v QQ n i k=>by
 unfold SI DV at i;obtain⟨a,t,rfl,r,hd⟩:=i;refine#[a,t,rfl,r.sq,λp hp=>?_];have g:Grow K M.W M.W H (upd H p (.lst (L9 t e hi))):=B0 _ hp;have key:DVs K H M.W (EF ds e hi) (L9 t e hi):=by unfold EF L9;rw[hd.length];exact(hd.drop _).take _
 refine k _ _ (.d (.list (EF ds e hi))) M (n.new hp) ?_ #[g] q;unfold SI DV;exact#[p,_,rfl,.inl #[λw=>w (n.none hp),.inl AE],key.grow g]
end
end DL
namespace DL
open PySem PySem.Spec L2
structure WD (K:Frg) (J:It) (ds:List PyData) (H1:Hp) (M1:Own):Prop where
 go:∀(i:Nat) H' M',i < ds.length->OA K H' M'->Step K M1 M' H1 H'->J.go i H'
 stop:∀H' M',OA K H' M'->Step K M1 M' H1 H'->J.stop ds.length H'
 yld:∀(i:Nat) H' M' x H2,OA K H' M'->Step K M1 M' H1 H'->i < ds.length->J.yld i H' x H2->OA K H2 M'/\Step K M' M' H' H2/\∃d,ds[i]?=al d/\DV K H2 M'.W d x
def DI (K:Frg) (X:TI) (t:List (Option DS)) (M:Own) (Q:List PyData->Own->Prop):Prop:=∀(e:St) (H:Hp) (R:It->Hp->Prop),Rel K M t e H->(∀J ds m M1,OA K m M1->Step K M M1 H m->WD K J ds m M1->Q ds M1->R J m)->X e H R
def DG (K:Frg) (g:TG) (d:PyData) (t:List (Option DS)) (M:Own) (P:List (Option DS)->Own->Prop):Prop:=∀(e:St) (H:Hp) (v:V) (QQ:St->Hp->Prop),Rel K M t e H->DV K H M.W d v->(∀D i b H',Rel K i D b H'->Step K M i H H'->P D i->QQ b H')->g v e H QQ
def J5 (g:TG) (T:List Nat):Prop:=∀(v:V) (e:St) (H:Hp) (QQ:St->Hp->Prop),g v e H (λt f=>(∀i,i∉T->t[i]?=e[i]?)->QQ t f)->g v e H QQ
section
variable {K:Frg}{ρ:List (Option DS)}{M:Own}{D:EndsD}{tl:TE}{tb:TS}{i:Nat}{QI:List PyData->Own->Prop}{g:TG}{wi:TI}
def CO (z:Str):List PyData:=z.cps.toList.map λc=>.str #[(y9 [c])]
def GS (e:Int) (n:Nat):List PyData:=(a2Q n).map λ(i:Nat)=>.int (e+i)
theorem K1 (h:DA K b ρ M λxs M1=>∃j:Int,xs=[.d (.int j)]/\-(2 ^ 62)<=j/\j < 2 ^ 62/\QI (GS 0 j.toNat) M1):DI K (A0H b) ρ M QI:=λO H R X k=>
 h O H _ X λB c xs M1 z T N S=>by
   obtain⟨j,e,h1,f,q⟩:=S;subst e;obtain⟨v,r,rfl,J,u⟩:=T;cases u;rw[show v = .int j by unfold SI DV at J;exact J];have t:(GS 0 j.toNat).length=j.toNat:=by simp[GS]
   refine#[j,rfl,h1,f,k _ (GS 0 j.toNat) c M1 z N #[λi H' m hi n p=>?_,λH' m n p=>?_,λi H' m x I n p hi y=>?_] q];. show i < j.toNat;rw[<-t];exact hi
   . show j.toNat<=(GS 0 j.toNat).length;rw[t];exact zR _
   . obtain⟨rfl,rfl⟩:=y;refine#[n,Step.refl,.int (0+i),?_,by unfold DV;rfl];unfold GS;rw[zF];rw[t] at hi;simp[hi]
theorem uL (h:P (ρ.set i (al (.d d))) M):DG K (Q1 i) d ρ M P:=λe H v QQ R z k=>k _ M _ H (R.set (x:=.d d) z i) Step.refl h
theorem BF (i:Nat):J5 (Q1 i) [i]:=λv t H QQ h=>h λj e=>by rw[b6X (by rintro rfl;exact e (by simp))]
abbrev EndsD.turn (D:EndsD) (P:List (Option DS)->Own->Prop):EndsD:={ nx:=P,ct:=P,bk:=D.nx,rt:=D.rt }
theorem F7 (h:DI K wi ρ M λds M1=>∃P:Nat->List (Option DS)->Own->Prop,P 0 ρ M1/\(∀k d t n,ds[k]?=al d->P k t n->DG K g d t n λf u=>DSt K tb f u (D.turn (P (k+1))))/\∀t n,P ds.length t n->D.nx t n) :
   DSt K (A0y wi g tb) ρ M D:=λσ H E R Z k2 k3 k4=>
 h σ H _ R λJ ds L M1 o1 B Y Lp=>by
   obtain⟨P,p0,pt,pe⟩:=Lp;refine#[λi m j H'=>m=ds.length - i/\i<=ds.length/\∃t n,Rel K n t j H'/\Step K M1 n L H'/\P i t n,#[_,rfl,xT _,ρ,M1,R.step o1 B,Step.refl,p0],?_];rintro i m j H' ⟨rfl,hi,t,n,z,O,p⟩;by_cases G:i < ds.length;. refine .inr #[Y.go i H' n G z.own O,λI v=>∃f u,Rel K u f I v/\Step K M1 u L v/\P (i+1) f u,(by rintro I v ⟨f,u,a,b,c⟩;exact#[ds.length - (i+1),by omega,rfl,G,f,u,a,b,c]),λx v y=>?_];obtain⟨Ed,X,d,e1,e2⟩:=Y.yld i H' n x v z.own O G y;refine pt i d t n e1 p j v x _ (z.step Ed X) e2 λρ3 M3 U H3 R3 gb b3=>?_;have S:=(O.trans X).trans gb;exact b3 U H3 _ R3 (λr m s Q T N q=>#[r,m,T,S.trans N,q]) (λw Q x m a b c q=>k2 w Q x m a b (B.trans (S.trans c)) q) (λr m s Q T N q=>Z r m s Q T (B.trans (S.trans N)) q) (λr m s Q T N q=>#[r,m,T,S.trans N,q])
   . have e:i=ds.length:=by omega
     subst e;exact .inl #[Y.stop H' n z.own O,Z t n j H' z (B.trans O) (pe t n p)]
def G4 (v:List (Option Nat)) (ρ:List (Option DS)):List (Option DS):=v.map λo=>o.bind λj=>(ρ[j]?).join
theorem F0 {v:List (Option Nat)}{n:Type}{ρ:List (Option n)}{i:Nat}{x:n}(h:(v.map λo=>o.bind λj=>(ρ[j]?).join)[i]?=al (al x)):∃j,v[i]?=al (al j)/\ρ[j]?=al (al x):=by
 rw[zF] at h;cases t:v[i]? with
 | none=>rw[t] at h;cases h
 | some o=>
   rw[t] at h;cases o with
   | none=>cases h
   | some j=>
     refine#[j,rfl,?_];have e:((ρ[j]?).join)=al x:=Option.some.inj h;cases hs:ρ[j]? with
     | none=>rw[hs] at e;cases e
     | some q=>rw[hs] at e;cases q with
       | none=>cases e
       | some I=>cases e;rfl
theorem Rel.capt (R:Rel K M ρ n H):Rel K M (G4 t ρ) (L2.capt t n) H:=by refine#[R.own,by unfold G4 L2.capt;rw[zX,zX],λi x e=>?_];obtain⟨j,h,r⟩:=F0 e;obtain⟨v,h1,m⟩:=R.slot j x r;refine#[v,?_,m];unfold L2.capt;rw[zF,h];simp[h1]
theorem e6 (ho:J5 g T) (hT:∀i∈T,∀j,v[i]?≠al (al j)) (h:DI K wi ρ M λds M1=>ds.length < aB/\∀D,M1 D=am->∃P:Nat->List PyData->Own->Prop,P 0 [] (M1.put D (.l []))/\(∀k acc t,P k acc t->t D=al (.l acc)/\acc.length<=k) /\(∀k d acc t,ds[k]?=al d->P k acc t->DG K g d (G4 v ρ) t λL M2=>DT K tt L M2 λc Z=>if c=ap then DE K te L Z λy M4=>∃r,y = .d r/\M4 D=al (.l acc)/\P (k+1) (acc++[r]) (M4.put D (.l (acc++[r]))) else P (k+1) acc Z) /\∀acc t,P ds.length acc t->Q (.d (.list acc)) (t.del D)) :
   DE K (OI v wi g tt te) ρ M Q:=λσ H QQ R k=>
 h σ H _ R λJ ds H1 M1 o1 t1 wd Lq=>by
   obtain⟨hsz,hq⟩:=Lq;intro A hA;obtain⟨P,p0,pa,pt,pe⟩:=hq A (o1.none hA);obtain⟨oA,sA⟩:=PF o1 hA (DVs.nil (K:=K) (H:=H1) (W:=M1.W));refine#[λi m ys f=>m=ds.length - i/\i<=ds.length/\f A=al (.lst ys)/\∃acc t,OA K f t/\Step K M1 t H1 f/\P i acc t,#[_,rfl,xT _,AE,[],_,oA,sA,p0],?_];rintro i m ys f ⟨rfl,hi,wg,acc,t,I,u,p⟩;refine#[wg,?_];have ya:∀{N:Own},(N.del A).Sub N:=λ{N} b o q=>by
     unfold Own.del at q;by_cases hb:b=A;. rw[if_pos hb] at q;cases q
     . rw[if_neg hb] at q;exact q
   by_cases X:i < ds.length
   . refine .inr #[wd.go i f t X I u,λx Y y=>?_];obtain⟨yb,gb,d,e1,e2⟩:=wd.yld i f t x Y I u X y;have Rc:Rel K t (G4 v ρ) (L2.capt v σ) Y:=((R.step o1 t1).step yb (u.trans gb)).capt;refine ho _ _ _ _ (pt i d acc t e1 p (L2.capt v σ) Y x _ Rc e2 λρ3 Z U H4 R3 ig b3 hext=>#[λi' v' md=>?_,?_]);. obtain⟨j,f1,f2⟩:=F0 md;rw[hext i' λn=>hT i' n j f1];exact md
     . refine b3 U H4 _ R3 λc H5 M5 o5 jl O=>?_;have sx:=((u.trans gb).trans ig).trans jl;cases c with
       | false=> rw[if_neg nft] at O ⊢;obtain⟨n,_⟩:=pa _ _ _ O;obtain⟨G,S,B⟩:=o5 A _ n;exact#[G,ds.length - (i+1),by omega,rfl,X,S,acc,M5,o5,sx,O]
       | true=> rw[if_pos rfl] at O ⊢;refine O U H5 _ (R3.step o5 jl) λy H6 z M6 o6 s6 oq h6=>?_;obtain⟨r,rfl,n,p'⟩:=h6;obtain⟨G,S,B⟩:=o6 A _ n;obtain⟨w1,w2⟩:=GQ o6 n (B.append (DVs.cons s6 DVs.nil));have ac:acc.length<=i:=(pa _ _ _ p).2;exact#[G,S,by rw[B.length];omega,ds.length - (i+1),by omega,rfl,X,AE,_,_,w1,(sx.trans oq).trans w2,p']
   . have e:i=ds.length:=by omega
     subst e;refine .inl #[wd.stop f t I u,?_];obtain⟨n,_⟩:=pa _ _ _ p;obtain⟨G,S,B⟩:=I A _ n;have cc:Step K t (t.del A) f f:=#[B8 ya]
     refine k _ f (.d (.list acc)) (t.del A) (I.sub ya) ?_ ((t1.trans u).trans cc) (pe acc t p);unfold SI DV;exact#[A,G,rfl,.inl #[λw=>w (by unfold Own.del;rw[if_pos rfl]),.inl S],B.grow (B8 ya)]
theorem CF (ho:J5 g T) (hT:∀i∈T,∀j,x[i]?≠al (al j)) (h:DI K wi ρ M λds M1=>ds.length < aB/\∃(c:PyData->Bool) (f:PyData->PyData),(∀d∈ds,∀e,DG K g d (G4 x ρ) e λr m=>m=e/\DT K U r m λb p=>p=e/\b=c d/\(c d=ap->DE K G r p λy S=>y = .d (f d)/\S=e))/\Q (.d (.list ((ds.filter c).map f))) M1) :
   DE K (OI x wi g U G) ρ M Q:=by
 refine e6 ho hT λN H R Rl k=>h N H R Rl λJ ds Y M1 o1 t1 wd q=>k J ds Y M1 o1 t1 wd ?_;obtain⟨hsz,c,f,he,q⟩:=q;refine#[hsz,λA hA=>#[λk acc e=>acc=((ds.take k).filter c).map f/\e=M1.put A (.l acc),#[by simp,rfl],λk acc e #[n,t]=>#[by rw[t];exact zU,?_],λk d acc e hd #[n,t]=>?_,λacc e #[n,t]=>?_]];. rw[n,zX];exact zN (yJ _ _) (by rw[a0J];omega)
 . have hm:d∈ds:=yN hd;intro N H v QQ R dv kk;refine he d hm e N H v QQ R dv λz m O H' R' st ww7=>kk z m O H' R' st λI Z QQ2 R2 k2=>?_;obtain⟨eM,q2⟩:=ww7;refine q2 I Z QQ2 R2 λb H3 p o3 gb Lr=>k2 b H3 p o3 gb ?_;obtain⟨X,u,q3⟩:=Lr;have L:(ds.take (k+1)).filter c=(ds.take k).filter c++(if c d then [d] else []):=iv c ds k d hd;cases hb:c d with
   | false=> rw[hb] at u;subst u;refine L2.m5 #[?_,by rw[X,t]];rw[L,hb,n];simp
   | true=>
     rw[hb] at u;subst u;refine L2.hU ?_;refine V8 (q3 hb) λy S #[ey,B]=>#[f d,ey,by rw[B,t];exact zU,?_,by rw[B,t,yI]]
     rw[L,hb,n];simp
 . rw[t,yG hA,n,a1Q];exact q
end
def LB (N:List Str) (xs:List DS):List (Option DS):=xs.map al++b3W (N.length - xs.length) am
section
theorem SIs.get :∀{xs:List DS}{vs:List V}{i:Nat}{x:DS},SIs K H M xs vs->xs[i]?=al x->∃v,vs[i]?=al v/\SI K H M x v
 | [],_,_,_,_,e=>by simp at e
 | d::ds,vs,i,x,#[v,r,e',h1,t],e=>by
   subst e';cases i with
   | zero=>simp at e;subst e;exact#[v,rfl,h1]
   | succ i=>simpa using SIs.get t (by simpa using e)
theorem TR (n:OA K H M) (h:SIs K H M xs vs):Rel K M (LB N xs) (L2.DW N vs) H:=by
 have r:=h.length;refine#[n,by unfold LB L2.DW;simp[r],λi x e=>?_];unfold LB at e;by_cases hi:i < xs.length
 . rw[yQ (by simpa using hi),zF] at e;cases q:xs[i]? with
   | none=>rw[q] at e;cases e
   | some y=> rw[q] at e;cases e;obtain⟨v,h1,t⟩:=h.get q;refine#[v,?_,t];unfold L2.DW;rw[yQ (by rw[zX,r];exact hi),zF,h1];rfl
 . rw[List.getElem?_append_right (by simpa using hi),List.getElem?_replicate] at e;split at e <;> cases e
theorem fnD (F:Fun K x qual st f n) (i:FnScope N ps (AB st)) (r:∀(cdv:ao) (A:ca) (outer:List i3) (s:aq) (H:Hp) (E:XK),Room k (A.deeper (xL qual (AB st) s.heap.objs.size f cdv)) ->∃t,PSs (HN CX0 P w K mg base N qual (AB st) f cdv A outer s H E).nox (BE st) t/\∀xs M,xs.length=ps.length->S.pre xs M->DSt K t (LB N xs) M { nx:=λ_ M1=>∃e:Own,e.Sub M1/\S.post xs M (.d .none) e,rt:=λy M1=>∃e:Own,e.Sub M1/\S.post xs M y e }) :
   FnOk P w K mg base CX0 (k+1) f n ps (spD K ps.length S):=by
 refine F.ok i dS λcdv A outer s H j Q E hr h=>?_;obtain⟨t,u,hq⟩:=r cdv A outer s H E hr;obtain⟨xs,M,m,b,g,pre,post⟩:=h;refine#[t,u,hq xs M m pre (L2.DW N j) H _ (TR b g) ?_ ?_ (λ_ _ _ _ _ _ z=>z.elim) (λ_ _ _ _ _ _ z=>z.elim)];. rintro D M1 q H' R st ⟨e,hs,p⟩;exact post (.d .none) e .non H' p (st.trans #[B8 hs]) (R.own.sub hs) (by unfold SI DV;rfl)
 . rintro v H' y M1 o c st ⟨e,hs,p⟩;exact post y e v H' p (st.trans #[B8 hs]) (o.sub hs) (c.sub hs)
end
end DL
namespace L2
open PySem PySem.Spec PyProof.Rows
section
variable {X:Cx}{tg:bp}
def XH (K:Frg):R2:=λx y H Q=>(rI0 λi j=>.int (i+j)) x y H Q\/((∃i j,x = .str i/\y = .str j/\i.length+j.length<=aB/\Q (.str (i++j)) H)\/A0R K x y H Q)
theorem uM:OpR X (ee .Add) (XH X.K):=A01.or (aR.or u8)
def QC (K:Frg):R2:=λx y H Q=>A1E K x y H Q\/(A1F K x y H Q\/A1G x y H Q)
theorem A1m:IxR X (QC X.K):=tR.or (A1H.or A1I)
def uN (K:Frg):V->Option Int->Option Int->Hp->VK->Prop:=λx e hi H Q=>A1J K x e hi H Q\/A1R x e hi H Q
theorem A1n:SlR X (uN X.K):=tS.or A1S
def A3e:R2:=λx y H Q=>(rI0 λi j=>.bl (decide (i < j))) x y H Q\/∃i j,x = .str i/\y = .str j/\Q (.bl (decide (i.cps.toList < j.cps.toList))) H
theorem mM:OpR X (bq .Lt) A3e:=A3H.or gV
def mN (K:Frg):R2:=λx y H Q=>(∃i j,x = .str i/\y = .str j/\Q (.bl (!(a4Q j i 0 j.length 1).isEmpty)) H)\/rIn K aw x y H Q
theorem A1o:OpR X (bq .In) (mN X.K):=gW.or gY
def V9 (K:Frg):R2:=λx y H Q=>(∃i j,x = .str i/\y = .str j/\Q (.bl (!(!(a4Q j i 0 j.length 1).isEmpty))) H)\/rIn K ap x y H Q
theorem hW:OpR X (bq .NotIn) (V9 X.K):=UV.or UZ
def mO (K:Frg) (tl:TE):TI:=λe H R=>tl e H λx m=>(∃a,x = .ref a/\(∃t,SqL K m a t)/\R (Itl K a) m)\/(∃a,x = .ref a/\(∃t,SqT K m a t)/\R (Itt K a) m)\/∃y,x = .str y/\R (Its y) m
theorem A1p (j:PE X l tl):PI X tg l (mO X.K tl):=by
 intro pins s N H R I h;refine thn (j pins s N H _ I h) ?_;rintro v n ⟨x,m,G,r,T⟩;have i:∀b∈[n.heap.objs.size],MC X pins m b:=λb hb=>by
   have e:b=n.heap.objs.size:=by simpa using hb
   subst e;exact G.fpOk (zR _) (G.hok.fresh (zR _))
 rcases T with ⟨a,e,⟨z,hq⟩,q⟩ | ⟨a,e,⟨z,hq⟩,q⟩ | ⟨y,e,q⟩
 . subst e;cases r;obtain⟨f,u,p,k⟩:=G.list hq;refine h7 p.isList ?_;exact#[n.heap.objs.size,[n.heap.objs.size],_,_,m,rfl,G.kept (t':=n.toks) λb o e=>zW _ e,gS a _,#[_,yZ _ rfl,rfl,rfl],i,q]
 . subst e;cases r;obtain⟨f,u,p,k⟩:=G.tuple hq;refine g5 (show n.heap.IsTuple a f.toArray from p) ?_;exact#[n.heap.objs.size,[n.heap.objs.size],_,_,m,rfl,G.kept (t':=n.toks) λb o e=>zW _ e,aO a _,#[_,yZ _ rfl,rfl,rfl],i,q]
 . subst e;obtain⟨t,rfl⟩:=r;cases g:y.cps.all (· < 128)
   . exact wpAny_pyIter_wide g #[n.heap.objs.size,[n.heap.objs.size],_,_,m,rfl,G.kept (t':=n.toks) λb o e=>zW _ e,
       XF n.heap.objs.size "str_iterator" y t (by decide) (λA hA=>Walks.strWide hA _ y t) (λ_ _ _ _ _ c h=>wpAny_pyIter_striter_wide c h),#[_,yZ _ rfl,rfl,rfl],i,q]
   . exact wpAny_pyIter_ascii g #[n.heap.objs.size,[n.heap.objs.size],_,_,m,rfl,G.kept (t':=n.toks) λb o e=>zW _ e,
       XF n.heap.objs.size "str_ascii_iterator" y t (by decide) (λA hA=>Walks.strAscii hA _ y t) (λ_ _ _ _ _ c h=>wpAny_pyIter_striter_ascii c h),#[_,yZ _ rfl,rfl,rfl],i,q]
end
def mP:eg->Bool | .free=>ap | _=>aw
def mQ:eg->Bool | .cell=>ap | _=>aw
def e7:eg->Bool | .local=>ap | _=>aw
def mR (e:fc) (ON:List Str) (scope:fc) (NC:List Str) (v:List (Option Nat)):Bool:=(match scope.kind with | .function=>ap | _=>aw)&&scope.names.all (λy=>!mQ y.2) &&
 scope.names.all (λy=>!e7 y.2||(match scope.names.lookup y.1 with | some .local=>ap | _=>aw)) &&
 scope.names.all (λy=>!mP y.2||(match e.names.lookup y.1 with | some .cell=>ap | some .free=>ap | _=>aw)) &&
 v.length==NC.length &&
 (a2Q NC.length).all λi=>match v[i]?,NC[i]? with
   | some (al j),al x=>ON[j]?==al x&&(match scope.names.lookup x with | some .free=>ap | _=>aw)&&(match e.names.lookup x with | some .cell=>ap | some .free=>ap | _=>aw)
   | _,_=>ap
theorem CSc.of (h:mR m ON scope NC v=ap) (e:X.env.scope=m) (D:X.N=ON):CSc X scope NC v:=by
 subst e D;unfold mR at h;simp only[a0V,a8V,List.mem_range,beq_iff_eq] at h;obtain⟨⟨⟨⟨⟨h1,b⟩,c⟩,f⟩,u⟩,I⟩:=h;refine#[?_,λy hy e=>?_,λy hy e=>?_,λy hy e=>?_,u,λi j x n p=>?_];. cases hk:scope.kind <;> rw[hk] at h1 <;> simp at h1 ⊢
 . have:=b y hy;rw[e] at this;simp[mQ] at this
 . have:=c y hy;rw[e] at this;simp only[e7,b9Z,Bool.false_or] at this;cases r:scope.names.lookup y.1 with
   | none=>rw[r] at this;cases this
   | some k=>rw[r] at this;cases k <;> first | rfl | cases this
 . have:=f y hy;rw[e] at this;simp only[mP,b9Z,Bool.false_or] at this;cases r:X.env.scope.names.lookup y.1 with
   | none=>rw[r] at this;cases this
   | some k=>
     rw[r] at this;cases k <;> first
       | exact .inl r
       | exact .inr r
       | cases this
 . have hi:i < NC.length:=(yT.mp n).1;have:=I i hi;rw[n,p] at this;simp only[a0V,beq_iff_eq] at this;obtain⟨⟨T,B⟩,t⟩:=this;refine#[T,?_,?_]
   . cases r:scope.names.lookup x with
     | none=>rw[r] at B;cases B
     | some k=>rw[r] at B;cases k <;> first | rfl | cases B
   . cases r:X.env.scope.names.lookup x with
     | none=>rw[r] at t;cases t
     | some k=>
       rw[r] at t;cases k <;> first
         | exact⟨.inr (.inl r),λz=>by have J:X.env.scope.names.lookup x=al .local:=z;rw[r] at J;cases J⟩
         | exact⟨.inr (.inr r),λz=>by have J:X.env.scope.names.lookup x=al .local:=z;rw[r] at J;cases J⟩
         | cases t
end L2
namespace DL
open PySem PySem.Spec L2
section
theorem mS (q:Q (.d (.int (i+j))) M):D2 K (XH K) (.d (.int i)) (.d (.int j)) M Q:=F6 (A3c q)
theorem mT (hz:i.length+j.length<=aB) (q:Q (.d (.str (i++j))) M):D2 K (XH K) (.d (.str i)) (.d (.str j)) M Q:=GF (F6 (uF hz q))
theorem mU (hz:a.length+b.length<=aB) (q:Q (.d (.list (a++b))) M):D2 K (XH K) (.d (.list a)) (.d (.list b)) M Q:=GF (GF (A1j hz q))
theorem AT (e:atI ds i=al d) (q:Q (.d d) M):D2 K (QC K) (.d (.list ds)) (.d (.int i)) M Q:=F6 (A1g e q)
theorem AL (e:atI ds i=al d) (q:Q (.d d) M):D2 K (QC K) (.d (.tuple ds)) (.d (.int i)) M Q:=GF (F6 (A1h e q))
theorem e8 (hz:z.length<=aB) (e:atI z.cps.toList i=al c) (q:Q (.d (.str #[(y9 [c])])) M):D2 K (QC K) (.d (.str z)) (.d (.int i)) M Q:=GF (GF (A1i hz e q))
theorem mV (hz:z.length<=aB) (q:Q (.d (.str (b2Z z e hi))) M):DSl K (uN K) (.d (.str z)) e hi M Q:=λH v QQ t n k=>.inr (uK hz q H v QQ t n k)
theorem i0 (q:Q (.d (.list (EF ds e hi))) M):DSl K (uN K) (.d (.list ds)) e hi M Q:=λH v QQ t n k=>.inl (mL q H v QQ t n k)
theorem uO (q:Q (.d (.bool (decide (i < j)))) M):D2 K A3e (.d (.int i)) (.d (.int j)) M Q:=F6 (A3d q)
theorem uP (q:Q (.d (.bool (!(a4Q j i 0 j.length 1).isEmpty))) M):D2 K (mN K) (.d (.str i)) (.d (.str j)) M Q:=F6 (A1e q)
theorem uQ {ys:List Str}(q:Q (.d (.bool (decide (x∈ys)))) M):D2 K (mN K) (.d (.str x)) (.d (.list (ys.map .str))) M Q:=GF (A1f (neg:=aw) q)
theorem DN (h:DE K tl ρ M λx M1=>∃ds,x = .d (.list ds)/\QI ds M1):DI K (mO K tl) ρ M QI:=λz H R X k=>
 h z H _ X λv c x M1 g b u G=>by
   obtain⟨ds,e,q⟩:=G;subst e;unfold SI DV at b;obtain⟨a,n,rfl,r,hd⟩:=b;refine .inl #[a,rfl,#[n,r.sq],k _ ds c M1 g u #[λi H' p hi m t=>?_,λH' p m t=>?_,λi H' p x T m t hi y=>?_] q];. exact#[n,n[i]'(by rw[hd.length];exact hi),(r.grow t.grow).sq,by simp[hd.length,hi]]
   . exact#[n,(r.grow t.grow).sq,by rw[hd.length];exact zR _]
   . obtain⟨rfl,y⟩:=y;obtain⟨d,f,j⟩:=hd.get (y n (r.grow t.grow).sq);exact#[m,Step.refl,d,f,j.grow t.grow]
theorem BP (h:DE K tl ρ M λx M1=>∃ds,x = .d (.tuple ds)/\QI ds M1):DI K (mO K tl) ρ M QI:=λz H R X k=>
 h z H _ X λv c x M1 g b u G=>by
   obtain⟨ds,e,q⟩:=G;subst e;unfold SI DV at b;obtain⟨a,n,rfl,r,hd⟩:=b;refine .inr (.inl #[a,rfl,#[n,r.sq],k _ ds c M1 g u #[λi H' p hi m t=>?_,λH' p m t=>?_,λi H' p x T m t hi y=>?_] q]);. exact#[n,n[i]'(by rw[hd.length];exact hi),(r.grow t.grow).sq,by simp[hd.length,hi]]
   . exact#[n,(r.grow t.grow).sq,by rw[hd.length];exact zR _]
   . obtain⟨rfl,y⟩:=y;obtain⟨d,f,j⟩:=hd.get (y n (r.grow t.grow).sq);exact#[m,Step.refl,d,f,j.grow t.grow]
theorem uR (h:DE K tl ρ M λx M1=>∃z,x = .d (.str z)/\QI (CO z) M1):DI K (mO K tl) ρ M QI:=λT H R X k=>
 h T H _ X λv f x M1 j m u b=>by
   obtain⟨z,e,q⟩:=b;subst e;have r:(CO z).length=z.cps.size:=by simp[CO]
   rw[show v = .str z by unfold SI DV at m;exact m];refine .inr (.inr #[z,rfl,k _ (CO z) f M1 j u #[λi H' n hi t p=>?_,λH' n t p=>?_,λi H' n x N t p hi y=>?_] q]);. show i < z.cps.size;rw[<-r];exact hi
   . exact r
   . obtain⟨rfl,c,g,rfl⟩:=y;exact#[t,Step.refl,.str #[(y9 [c])],by unfold CO;rw[zF];simp[g],by unfold DV;rfl]
def tyD:PyData->String
 | .none => "NoneType"
 | .bool _ => "bool"
 | .int _ => "int"
 | .str _ => "str"
 | .list _ => "list"
 | .tuple _ => "tuple"
 | .dict _ => "dict"
end
end DL
namespace L2
open PySem PySem.Spec PyProof.Rows
section
def mW (K:Frg):List V->Hp->VK->Prop:=λt H Q=>∃(x:V) (T:String) (d:PyData) (W:Addr->Prop) (b:Bool),t=[x,.ty T]/\DV K H W d x/\PySem.W.kitOne K (.type (DL.tyD d)) (.type T)=al b/\Q (.bl b) H
theorem i4:CN X (.builtin "isinstance") (mW X.K):=by
 intro pins s S H G D Q I r h;obtain⟨x,T,d,W,b,rfl,t,e,q⟩:=h;obtain⟨u,M,rfl,p,j⟩:=A3I r;cases j;have fin:∀f,EP X pins S Q (.bool b) { s with toks:=f }:=λf=>#[.bl b,H,I.tok _,rfl,q]
 cases d with
 | none=>unfold DV at t;subst t;exact GN I p (TyOf.non) e fin
 | bool y=>unfold DV at t;subst t;exact GN I p (TyOf.bl _) e fin
 | int i=>unfold DV at t;subst t;exact GN I p (TyOf.int _) e fin
 | str y=>unfold DV at t;subst t;exact GN I p (TyOf.str _) e fin
 | list ds=> unfold DV at t;obtain⟨a,g,rfl,m,_⟩:=t;cases p;obtain⟨k,O,⟨o,n,h1,c,_,_⟩,_⟩:=I.list m.sq;exact a3J PySem.W.kitx_list I.kIn #[o,h1,c] e (λz=>nomatch z) fin
 | tuple ds=> unfold DV at t;obtain⟨a,g,rfl,m,_⟩:=t;cases p;obtain⟨k,O,⟨o,h1,c,_⟩,_⟩:=I.tuple m.sq;exact a3J PySem.W.kitx_tuple I.kIn #[o,h1,c] e (λz=>nomatch z) fin
 | dict kvs=>
   unfold DV at t;obtain⟨a,g,rfl,_,m,_⟩:=t;rcases m with m | ⟨N,m⟩
   . exact GN I p (TyOf.dK m) e fin
   . cases p;obtain⟨_,_,B,_,v⟩:=IR I.hok (.inr #[N,m]);exact a3J PySem.W.kitx_dict I.kIn v.typeIs e (λz=>nomatch z) fin
end
end L2
namespace DL
open PySem PySem.Spec L2
section
theorem mX{K:Frg}{M:Own}{Q:DS->Own->Prop} (e:PySem.W.kitOne K (.type (tyD d)) (.type T)=al b) (q:Q (.d (.bool b)) M):DR K (mW K) [.d d,.ty T] M Q:=λH p QQ n s k=>by obtain⟨v,r,rfl,h1,i,m,rfl,t,J⟩:=s;cases J;rw[show i = .ty T from t];exact#[v,T,d,M.W,b,rfl,h1,e,k _ H _ M n AM Step.refl q]
theorem MI (n:OA K H M) (h:H p=b8J) (hd:DKV K H M.W kvs ks) :
   OA K (upd H p (.dK ks)) (M.put p (.d kvs))/\Step K M (M.put p (.d kvs)) H (upd H p (.dK ks)):=by
 have r:=n.none h;have g:Grow K M.W (M.put p (.d kvs)).W H (upd H p (.dK ks)):=#[λb u e _=>.inl (by rw[AH (B2 e h)];exact e),λb w=>by
   by_cases hb:b=p;. subst hb;exact .inr h
   . left;unfold Own.W at w ⊢;rw[yH hb] at w;exact w]
 refine#[λa o e=>?_,#[g]];by_cases t:a=p;. subst t;rw[zU] at e;cases e;exact#[ks,AE,hd.grow g]
 . rw[yH t] at e;have q:=n a o e;cases o <;> (obtain⟨i,T,B⟩:=q;exact#[i,by rw[AH t];exact T,B.grow g])
theorem F8 (i:OA K H M) (h:M p=al o) (hd:DKV K H M.W kvs ks) :
   OA K (upd H p (.dK ks)) (M.put p (.d kvs))/\Step K M (M.put p (.d kvs)) H (upd H p (.dK ks)):=by
 have n:∀b,(M.put p (.d kvs)).W b->M.W b:=λb w=>by
   unfold Own.W at w ⊢;by_cases hb:b=p;. subst hb;rw[h];simp
   . rw[yH hb] at w;exact w
 have g:Grow K M.W (M.put p (.d kvs)).W H (upd H p (.dK ks)):=#[λb u e nw=>.inl (by
   rw[AH (by rintro rfl;exact nw (by unfold Own.W;rw[h];simp))];exact e),λb w=>.inl (n b w)]
 refine#[λa o e=>?_,#[g]];by_cases t:a=p;. subst t;rw[zU] at e;cases e;exact#[ks,AE,hd.grow g]
 . rw[yH t] at e;have q:=i a o e;cases o <;> (obtain⟨r,T,B⟩:=q;exact#[r,by rw[AH t];exact T,B.grow g])
end
structure Has (P:bn) (w:bj) (K:Frg) (mg:Str->Option ao) (base:cr) (x:Str) (k:Nat) (ps:List Str) (S:FSp):Prop where
 ex:∃f fd,FnOk P w K mg base CX0 k f fd ps (spD K ps.length S)/\mg x=al (.ref f)/\a3K K (.ref f)=ap/\Binds K fd ps []
theorem mY {X:Cx}{x:Str}{k:Nat}{ps:List Str}{S:FSp}{e:bp}{es:List bp}{t:TA}{p pos:ew}(h:Has X.prog X.w X.K X.mg X.base x k ps S) (hr:Room k X.A) (hg:Gl X x) (g:PA X (e::es) t) (n:(x==("__debug__":Str))=false:=by decide) (he:starEach (e::es) X.env=(aw,eval e X.env)::starEach es X.env:=by rfl) (r:(backTo pos (starEach es X.env)).any (·.1)=false:=by rfl) :
   PE X (.Call (.Name x p) (e::es) [] pos) (dL (spD X.K ps.length S) [] E0 t):=by obtain⟨f,N,F,i,hk,hb⟩:=h.ex;exact tL F hr hg i hk hb .nil A3P g n he r
theorem uS {X:Cx}{x z:Str}{pos:ew}(hg:Gl X x) (h:∃t,X.mg x=al (.str z t)) (hd:(x==("__debug__":Str))=false:=by decide):PE X (.Name x pos) (tC (.str z)):=by obtain⟨t,h⟩:=h;exact UQ hg h #[t,rfl] hd
theorem uT {X:Cx}{x:Str}{z:Int}{pos:ew}(hg:Gl X x) (h:∃t,X.mg x=al (.int z t)) (hd:(x==("__debug__":Str))=false:=by decide):PE X (.Name x pos) (tC (.int z)):=by obtain⟨t,h⟩:=h;exact UQ hg h #[t,rfl] hd
section
variable {X:Cx}{K:Frg}
theorem kIx (h:X.K=K):IxR X (QC K):=h▸A1m
theorem kIn (h:X.K=K):OpR X (bq .In) (mN K):=h▸A1o
theorem A1q (h:X.K=K):OpR X (bq .NotIn) (V9 K):=h▸hW
theorem kEq (h:X.K=K) (hu:X.A.units+64 < ej):OpR X (bq .Eq) (SO K aw):=h▸A1T hu
theorem kNe (h:X.K=K) (hu:X.A.units+64 < ej):OpR X (bq .NotEq) (SO K ap):=h▸mD hu
def uU (K:Frg):List V->Hp->VK->Prop:=λt H Q=>∃x n,t=[x]/\lO K x H n/\Q (.int (n:Nat)) H
def A0T (K:Frg):List V->Hp->VK->Prop:=λt H Q=>∃(p:Addr) (bs:List Bool),t=[.ref p]/\SqL K H p (bs.map V.bl)/\Q (.bl (bs.all id)) H
def A0U (K:Frg):List V->Hp->VK->Prop:=λt H Q=>∃(p:Addr) (bs:List Bool),t=[.ref p]/\SqL K H p (bs.map V.bl)/\Q (.bl (bs.any id)) H
theorem A4S (h:X.K=K):CN X (.builtin "len") (uU K):=h▸lP
theorem A4T (h:X.K=K) (hc:X.calm=ap):CN X (.builtin "all") (A0T K):=h▸m7 hc
theorem A4U (h:X.K=K) (hc:X.calm=ap):CN X (.builtin "any") (A0U K):=h▸m8 hc
theorem A4V (h:X.K=K):CN X (.builtin "isinstance") (mW K):=h▸i4
theorem A3f (h:X.K=K):MtR X "str.join" (m9 K):=h▸u7
theorem A3g {e l:bp}{tl:TE}(h:X.K=K) (r:PE X l tl):PI X e l (mO K tl):=h▸A1p r
theorem e9 {P:bn}{w:bj}{mg:Str->Option ao}{base:cr}{x:Str}{k:Nat}{ps:List Str}{S:FSp}{e:bp}{es:List bp}{t:TA}{p pos:ew}(hK:X.K=K) (z:X.prog=P) (i:X.w=w) (m:X.mg=mg) (N:X.base=base) (h:Has P w K mg base x k ps S) (hr:Room k X.A) (hg:Gl X x) (g:PA X (e::es) t) (n:(x==("__debug__":Str))=false:=by decide) (he:starEach (e::es) X.env=(aw,eval e X.env)::starEach es X.env:=by rfl) (r:(backTo pos (starEach es X.env)).any (·.1)=false:=by rfl) :
   PE X (.Call (.Name x p) (e::es) [] pos) (dL (spD K ps.length S) [] E0 t):=by subst hK z i m N;exact mY h hr hg g n he r
variable {o e:bp}{es:List bp}{to:TE}{t:TA}{name:Str}{apos ah:ew}{T id:String}{r:V->List V->Hp->VK->Prop}
theorem kBm (h:X.K=K) (D:PlainAttrs T) (slot:Slot T name id) (q:typeOf (.builtin id)=pure (.type "method_descriptor")) (n:MtR X id r) (ho:PE X o to) (g:PA X (e::es) t) (hbase:attributeBase o name X.env (eval o X.env)=eval o X.env:=by rfl)
   (L:((backTo ah (starEach (e::es) X.env)).all (λx=>!x.1)&&(backToKw ah (keywordEach [] X.env)).all (λx=>x.1.isSome)
     && decide ((e::es).length+([]:List Keyword).length+(if ([]:List Keyword).isEmpty then 0 else 1) < 30))=true:=by rfl)
   (c:(apos.endLine==ah.line)=true:=by rfl) (hs:starEach (e::es) X.env=(aw,eval e X.env)::starEach es X.env:=by rfl) (f:(backTo ah (starEach es X.env)).any (·.1)=false:=by rfl) :
   PE X (.Call (.Attribute o name apos) (e::es) [] ah) (tBM K T r to t):=h▸A3K D slot q n ho g hbase L c hs f
end
section
theorem eF (hz:z.length<=aB) (q:Q (.d (.int z.length)) M):DR K (uU K) [.d (.str z)] M Q:=uG hz q
theorem MJ (q:Q (.d (.int ds.length)) M):DR K (uU K) [.d (.list ds)] M Q:=uH q
theorem K2 (q:Q (.d (.int ds.length)) M):DR K (uU K) [.d (.tuple ds)] M Q:=uI q
theorem aZ {bs:List Bool}(q:Q (.d (.bool (bs.all id))) M):DR K (A0T K) [.d (.list (bs.map .bool))] M Q:=A1k q
theorem A1r {bs:List Bool}(q:Q (.d (.bool (bs.any id))) M):DR K (A0U K) [.d (.list (bs.map .bool))] M Q:=A1l q
end
end DL
namespace L2
open PySem PySem.Spec PyProof.Rows
section
theorem eG:∀{e:List ao}{ss:List Str},StrsAre e ss->Vals (ss.map V.str) e
 | _,_,.nil=>.nil
 | _,_,.cons y t r=>.cons #[t,rfl] (eG r)
def mZ (K:Frg):List V->Hp->VK->Prop:=λt H Q=>∃(p:Addr) (h:List Str),t=[.ref p]/\SqL K H p (h.map V.str)/\h.length < 64/\∀(e:List Str) (q:Addr),e.Perm h->sortedS e=ap->H q=am->Q (.ref q) (upd H q (.lst (e.map V.str)))
theorem bA:CN X (.builtin "sorted") (mZ X.K):=by intro pins s O H N T Q I r h;obtain⟨p,z,rfl,hp,y,q⟩:=h;obtain⟨u,rfl,j⟩:=GM r;cases j;obtain⟨m,i,g,v⟩:=I.list hp;have hS:=PD i;have f:=i.length;rw[zX] at f;refine sorted_strs g.isList hS (by lia) λout t h1 n J=>?_;obtain⟨e,he⟩:=sortedAll_at s.heap m out;have hn:H (s.heap.objs.size+1)=none:=I.hok.fresh (a5K _);have k:=n.length_eq;refine#[.ref (s.heap.objs.size+1),_,I.laid (t':=s.toks) (o:=.lst (t.map V.str)) (λb o c=>sortedAll_old c) (a5K _) ?_,rfl,q t _ n J hn];refine#[by rw[zX,k];exact zN (xR y) (by decide),out.toList,e,eG h1,?_];have x:=he;simpa [cz] using x
end
end L2
namespace DL
open PySem PySem.Spec L2
section
variable {X:Cx}{K:Frg}
def XJ (K:Frg):List V->Hp->VK->Prop:=λt H Q=>∃p c,t=[.ref p]/\((SqL K H p c/\∀l,H l=am->Q (.ref l) (upd H l (.tup c)))\/(SqT K H p c/\Q (.ref p) H))
theorem A1s (h:X.K=K):CN X (.type "tuple") (XJ K):=h▸SN
end
section
theorem K3 (q:Q (.d (.tuple ds)) M):DR K (XJ K) [.d (.list ds)] M Q:=λH e QQ t s k=>by obtain⟨v,r,rfl,h1,n⟩:=s;cases n;unfold SI DV at h1;obtain⟨a,e,rfl,i,hd⟩:=h1;refine#[a,e,rfl,.inl #[i.sq,λp hp=>?_]];have g:Grow K M.W M.W H (upd H p (.tup e)):=B0 _ hp;refine k _ _ (.d (.tuple ds)) M (t.new hp) ?_ #[g] q;unfold SI DV;exact#[p,e,rfl,.inl #[λw=>w (t.none hp),.inl AE],hd.grow g]
theorem J6 :∀{bs:List Str},DVs K H W (bs.map a0K) (bs.map V.str)
 | []=>DVs.nil
 | b::bs=>DVs.cons (by unfold DV;rfl) J6
def DO:PyData->Bool | .none=>ap | _=>aw
theorem A1t (q:Q (.d (.bool (DO d))) M):D2 K (λx y H Q=>y = .non/\Q (.bl (decide (x = .non))) H) (.d d) (.d .none) M Q:=λH v u QQ t e n k=>by
 refine#[mJ n,k _ H (.d (.bool (DO d))) M t ?_ Step.refl q];cases d <;> unfold SI DV at e;. rw[e];exact AM
 . rw[e];exact AM
 . rw[e];exact AM
 . rw[e];exact AM
 . obtain⟨a,_,rfl,_⟩:=e;exact AM
 . obtain⟨a,_,rfl,_⟩:=e;exact AM
 . obtain⟨a,_,rfl,_⟩:=e;exact AM
theorem uV (q:Q (.d (.bool (!DO d))) M):D2 K (λx y H Q=>y = .non/\Q (.bl (!decide (x = .non))) H) (.d d) (.d .none) M Q:=λH v u QQ t e n k=>by
 refine#[mJ n,k _ H (.d (.bool (!DO d))) M t ?_ Step.refl q];cases d <;> unfold SI DV at e;. rw[e];exact AM
 . rw[e];exact AM
 . rw[e];exact AM
 . rw[e];exact AM
 . obtain⟨a,_,rfl,_⟩:=e;exact AM
 . obtain⟨a,_,rfl,_⟩:=e;exact AM
 . obtain⟨a,_,rfl,_⟩:=e;exact AM
end
def DGs (K:Frg) (g:TGs) (ds:List PyData) (n:List (Option DS)) (M:Own) (P:List (Option DS)->Own->Prop):Prop:=∀(t:St) (H:Hp) (e:List V) (QQ:St->Hp->Prop),Rel K M n t H->DVs K H M.W ds e->(∀D i b H',Rel K i D b H'->Step K M i H H'->P D i->QQ b H')->g e t H QQ
section
theorem uW (h:P ρ M):DGs K A0v [] ρ M P:=λe H t QQ R hd k=>by unfold DVs at hd;subst hd;exact#[rfl,k ρ M e H R Step.refl h]
theorem n5 (h:DGs K g ds (ρ.set i (al (.d d))) M P):DGs K (lB (Q1 i) g) (d::ds) ρ M P:=λt H n QQ R hd k=>by unfold DVs at hd;obtain⟨v,r,rfl,h1,e⟩:=hd;exact#[v,r,rfl,h (t.set i (al v)) H r QQ (R.set (x:=.d d) h1 i) e k]
theorem A1u (hn:ds.length=n) (h:DGs K g ds ρ M P):DG K (tF K n g) (.tuple ds) ρ M P:=λt H v QQ R z k=>by unfold DV at z;obtain⟨a,e,rfl,r,hd⟩:=z;exact#[a,e,rfl,r.sq,by rw[hd.length];exact hn,h t H e QQ R hd k]
def uX (g:TGs) (T:List Nat):Prop:=(∀(t:List V) (e:St) (H:Hp) (Q r:St->Hp->Prop),(∀a b,Q a b->r a b)->g t e H Q->g t e H r) /\(∀(t:List V) (e:St) (H:Hp) (QQ:St->Hp->Prop),g t e H QQ->g t e H λn f=>(∀i,i∉T->n[i]?=e[i]?)/\QQ n f)
theorem bB:uX A0v []:=#[(by rintro t n H Q b m ⟨e,h⟩;exact#[e,m _ _ h]),by rintro t n H QQ ⟨e,h⟩;exact#[e,λ_ _=>rfl,h]]
theorem ET (hg:uX g T):uX (lB (Q1 i) g) (i::T):=by refine#[(by rintro c n H Q b m ⟨v,r,e,h⟩;exact#[v,r,e,hg.1 r _ H Q b m h]),λc n H QQ #[v,r,e,h]=>#[v,r,e,?_]];refine hg.1 r _ H _ _ (λf k #[h1,p]=>#[λj t=>?_,p]) (hg.2 r (n.set i (al v)) H QQ h);rw[h1 j λz=>t (yV _ z),b6X (by rintro rfl;exact t a0Z)]
theorem bC (hg:uX g T):J5 (tF K n g) T:=λv i H QQ #[a,t,e,hs,m,h]=>
 #[a,t,e,hs,m,hg.1 t i H _ _ (by rintro p f ⟨h1,r⟩;exact r h1) (hg.2 t i H _ h)]
end
end DL
namespace L2
open PySem PySem.Spec PyProof.Rows
section
variable {X:Cx}{pins:List (Addr×cE)}{σ:St}{H:Hp}{s:aq}{h':cr}
theorem Inv.turnedT {ch:List Addr}{T:Addr}{ys:List V}{t':Nat}(I:Inv X pins σ H s) (k:∀b o,b∉ch->s.heap.get? b=al o->h'.get? b=al o) (hn:∀b∈ch,H b=am) (U:∀b∈ch,(b∈X.ex\/X.s₀.heap.objs.size<=b)/\b≠X.env.locals/\(∀x c,X.env.cells.lookup x=al c->c≠b)/\∀p∈X.pn++pins,p.1≠b) (i:s.heap.objs.size<=T) (new:ObjOk X.prog X.w (upd H T (.tup ys)) h' T (.tup ys)):Inv X pins σ (upd H T (.tup ys)) { s with heap:=h',toks:=t' }:=by
 have t:H T=none:=I.hok.fresh i;have M:∀b u,H b=al u->b∉ch:=λb u e z=>by rw[hn b z] at e;cases e
 refine I.step (g':=s.gens) (d':=s.drawn) (ch:=ch) U (λb o _ _ hc e _=>k b o hc e) (λb o _ _ hc e _=>#[o.slots,k b o hc e]) (λb o hc e n=>?_) (λb o hc e=>#[o,k b o hc e]) (λb j e=>?_) (λb o u e=>?_) (λb y e=>#[#[],?_]) (λm h=>?_) (λb u e=>?_) I.bare;. rw[AH (zC (zP (zM e) i))];exact n
 . rw[AH (B2 e t)];exact e
 . rw[AH (B2 e t)];exact e
 . rw[AH (B2 e t),e];simp
 . obtain⟨o,g,f,ho,r⟩:=h;exact#[o,g,f,k _ o (λz=>(U _ z).2.1 rfl) ho,r]
 . by_cases hb:b=T;. subst hb;rw[AE] at e;cases e;exact new
   . rw[AH hb] at e;refine(I.hok b u e).stay (λc v hc q=>k c v ?_ q) (λc q=>by rw[AH (B2 q t)];exact q) λc j q=>by rw[AH (B2 q t)];exact q
     rcases hc with z | z;. rw[z];exact M b u e
     . exact M c _ z
theorem Inv.turnedL {ch:List Addr}(I:Inv X pins σ H s) (k:∀b o,b∉ch->s.heap.get? b=al o->h'.get? b=al o) (hn:∀b∈ch,H b=am) (U:∀b∈ch,(b∈X.ex\/X.s₀.heap.objs.size<=b)/\b≠X.env.locals/\(∀x c,X.env.cells.lookup x=al c->c≠b)/\∀p∈X.pn++pins,p.1≠b):Inv X pins σ H { s with heap:=h',toks:=t' }:=by
 have M:∀b u,H b=al u->b∉ch:=λb u e z=>by rw[hn b z] at e;cases e
 refine I.step (g':=s.gens) (d':=s.drawn) (ch:=ch) U (λb o _ _ hc e _=>k b o hc e) (λb o _ _ hc e _=>#[o.slots,k b o hc e]) (λb o hc e n=>n) (λb o hc e=>#[o,k b o hc e]) (λb g e=>e) (λb o u e=>e) (λb h e=>#[#[],by rw[e];simp]) (λm f=>?_) (λb u e=>?_) I.bare;. obtain⟨o,i,t,ho,r⟩:=f;exact#[o,i,t,k _ o (λz=>(U _ z).2.1 rfl) ho,r]
 . refine(I.hok b u e).stay (λc v hc q=>k c v ?_ q) (λc q=>q) λc g q=>q;rcases hc with z | z;. rw[z];exact M b u e
   . exact M c _ z
end
end L2
namespace DL
open PySem PySem.Spec L2
section
def XN (as bs:List PyData):List PyData:=(as.zip bs).map λp=>.tuple [p.1,p.2]
end
end DL
namespace HT
open PySem PySem.Spec PyProof.Rows
section
theorem getItem_tuple_whole (u:IsTup s.heap t items) (hs:s.heap.IsSliceOf sl B i .none) (pl:kt B e) (j:kt i hi) (n:sIx items.size 0 e=0/\sIx items.size items.size hi=items.size) (h:Q (.ref t) s):wpAny (model prog w) A (fx (.ref t) (.ref sl)) Q E s:=by
 obtain⟨p,b,c,f⟩:=id hs;have r:s.TypeIs (.ref sl) "slice" := #[p,b,c]
 unfold fx;try with_reducible refine bt ?_
 first | refine zZ (zY ?_) | skip
 refine zZ (wpAny_sequenceKey u.typeIs (by decide) ?_);refine zZ (wpAny_callSpecial?_slot (name:=a0Q "__getitem__") u.typeIs a3V (cb a3V u.typeIs kx ?_ (args_tuple_getitem _ _)));show wpAny _ _ (b6Q (.ref t) >>= _) _ _ s;refine zZ (tupleItemsOf_ u ?_);refine zZ (eo r ?_);rw[if_pos (by decide)];refine zZ (GP hs pl j ?_);have M:((((sIx items.size 0 e:Nat):Int)==0&&(1:Int)==1&&(sIx items.size items.size hi - sIx items.size 0 e)==items.size)=ap):=by rw[n.1,n.2];simp
 show wpAny _ _ (if (((sIx items.size 0 e:Nat):Int)==0&&(1:Int)==1&&(sIx items.size items.size hi - sIx items.size 0 e)==items.size)=ap then _ else _) _ _ s;rw[if_pos M];refine zZ (m:=Builtin.Tuple.tupleIsExact _) (zZ (eo u.typeIs (zY ?_)));show wpAny _ _ (if ap=ap then _ else _) _ _ s;rw[if_pos rfl];first
   | exact zZ (db (zZ (zY #[_,rfl,zY h])))
   | exact zZ (db (zY #[_,rfl,zY h]))
   | exact zZ (db (zZ (zY (zY #[_,rfl,zY h]))))
end
end HT
namespace L2
open PySem PySem.Spec PyProof.Rows
section
def A0V (K:Frg):V->Option Int->Option Int->Hp->VK->Prop:=λx e hi H Q=>∃a t,x = .ref a/\SqT K H a t/\(L9 t e hi=t->Q (.ref a) H)/\∀p,H p=am->Q (.ref p) (upd H p (.tup (L9 t e hi)))
theorem uY:SlR X (A0V X.K):=by
 intro pins s f H x v b c n hi sl Q I p hs i j h;obtain⟨a,t,rfl,hx,T,B⟩:=h;cases p;obtain⟨m,r,u,q⟩:=I.tuple hx;have k:m.toArray.size=t.length:=by rw[zJ];exact r.length.symm
 by_cases e:HT.sIx t.length 0 n=0/\HT.sIx t.length t.length hi=t.length;. refine#["tuple", _,PyProof.Rows.slot_tuple_getitem.lookup,u.typeIs,?_];refine HT.getItem_tuple_whole u hs i j (by rw[k];exact e) #[.ref a,H,I,rfl,T ?_];unfold L9;rw[e.1,e.2];simp
 . exact A1D pins s f H (.ref a) (.ref a) b c n hi sl Q I rfl hs i j #[a,t,rfl,hx,e,B]
def bD (K:Frg):R2:=λx y H Q=>∃a b t c,x = .ref a/\y = .ref b/\SqT K H a t/\SqT K H b c/\t.length+c.length<=aB /\(t=[]->Q (.ref b) H)/\(c=[]->Q (.ref a) H)/\(∀p,H p=am->Q (.ref p) (upd H p (.tup (t++c))))
theorem n6:OpR X (ee .Add) (bD X.K):=by
 intro pins s σ H x y v u Q I L Z h;obtain⟨t,b,k,z,rfl,rfl,hx,hy,O,D,B,J⟩:=h;cases L;cases Z;obtain⟨m,r,N,_⟩:=I.tuple hx;obtain⟨i,M,hb,_⟩:=I.tuple hy;have Y:=r.length;have e2:=M.length;obtain⟨⟨cls,p,data,sl⟩,ho,hc,n,hd⟩:=id N;obtain⟨⟨U,g,data2,j⟩,ho2,hc2,f,hd2⟩:=id hb;dsimp only at hc hd hc2 hd2;subst hc hd hc2 hd2;have e:m.toArray++i.toArray=(m++i).toArray:=by simp
 by_cases S:m=[]
 . have G:k=[]:=by cases r with | nil=>rfl | cons _ _=>cases S
   exact concat_meets #[_,ho,rfl] #[_,ho2,rfl] et fw a7X a7Q (a6K _ _) (tuple_addW0 t b m.toArray i.toArray n f p g sl j (by simp[S])) #[ho,ho2,#[.ref b,H,I,rfl,D G]]
 . by_cases c:i=[]
   . have T:z=[]:=by cases M with | nil=>rfl | cons _ _=>cases c
     exact concat_meets #[_,ho,rfl] #[_,ho2,rfl] et fw a7X a7Q (a6K _ _) (tuple_addW1 t b m.toArray i.toArray n f p g sl j (by simpa using S) (by simp[c])) #[ho,ho2,#[.ref t,H,I,rfl,B T]]
   . refine concat_meets #[_,ho,rfl] #[_,ho2,rfl] et fw a7X a7Q (a6K _ _) (tuple_addW2 t b m.toArray i.toArray n f p g sl j (by simpa using S) (by simpa using c) (by rw[zJ,zJ];lia)) #[ho,ho2,?_];rw[e];refine#[.ref s.heap.objs.size,_,I.laid (t':=s.toks) (o:=.tup (k++z)) (λb ob q=>zW _ q) (zR _) ?_,rfl,J _ I.fresh];exact#[by rw[yY];exact O,m++i,r.append M,c0K _ _]
end
end L2
namespace DL
open PySem PySem.Spec L2
section
variable {X:Cx}{K:Frg}
def XO (K:Frg):R2:=λx y H Q=>XH K x y H Q\/bD K x y H Q
theorem A3h (h:X.K=K):OpR X (ee .Add) (XO K):=h▸uM.or n6
def uZ (K:Frg):V->Option Int->Option Int->Hp->VK->Prop:=λx e hi H Q=>uN K x e hi H Q\/A0V K x e hi H Q
theorem A4W (h:X.K=K):SlR X (uZ K):=h▸A1n.or uY
end
section
theorem n8 (q:Q (.d (.int (i+j))) M):D2 K (XO K) (.d (.int i)) (.d (.int j)) M Q:=F6 (mS q)
theorem n9 (hz:i.length+j.length<=aB) (q:Q (.d (.str (i++j))) M):D2 K (XO K) (.d (.str i)) (.d (.str j)) M Q:=F6 (mT hz q)
theorem XQ (hz:a.length+b.length<=aB) (q:Q (.d (.list (a++b))) M):D2 K (XO K) (.d (.list a)) (.d (.list b)) M Q:=F6 (mU hz q)
theorem B9 (hz:as.length+bs.length<=aB) (q:Q (.d (.tuple (as++bs))) M):D2 K (XO K) (.d (.tuple as)) (.d (.tuple bs)) M Q:=GF λH v u QQ t n i k=>by
 have f:=n;have j:=i;unfold SI DV at n i;obtain⟨a,m,rfl,c,hd⟩:=n;obtain⟨b,r,rfl,h,hd2⟩:=i;refine#[a,b,m,r,rfl,rfl,c.sq,h.sq,by rw[hd.length,hd2.length];exact hz,λe=>?_,λe=>?_,λp hp=>?_]
 . have:as=[]:=by have:=hd.length;rw[e] at this;exact List.length_eq_zero_iff.mp this.symm
   subst this;exact k _ H (.d (.tuple ([]++bs))) M t j Step.refl q
 . have:bs=[]:=by have:=hd2.length;rw[e] at this;exact List.length_eq_zero_iff.mp this.symm
   subst this;rw[a4W] at q;exact k _ H (.d (.tuple as)) M t f Step.refl q
 . have g:Grow K M.W M.W H (upd H p (.tup (m++r))):=B0 _ hp;refine k _ _ (.d (.tuple (as++bs))) M (t.new hp) ?_ #[g] q;unfold SI DV;exact#[p,_,rfl,.inl #[λw=>w (t.none hp),.inl AE],(hd.append hd2).grow g]
theorem XR (hz:z.length<=aB) (q:Q (.d (.str (b2Z z e hi))) M):DSl K (uZ K) (.d (.str z)) e hi M Q:=λH v QQ t n k=>.inl (mV hz q H v QQ t n k)
theorem i5 (q:Q (.d (.list (EF ds e hi))) M):DSl K (uZ K) (.d (.list ds)) e hi M Q:=λH v QQ t n k=>.inl (i0 q H v QQ t n k)
theorem EG (q:Q (.d (.tuple (EF ds t hi))) M):DSl K (uZ K) (.d (.tuple ds)) t hi M Q:=λH v QQ i r k=>.inr (by
 have b:=r;unfold SI DV at r;obtain⟨a,n,rfl,m,hd⟩:=r;have key:DVs K H M.W (EF ds t hi) (L9 n t hi):=by unfold EF L9;rw[hd.length];exact(hd.drop _).take _
 refine#[a,n,rfl,m.sq,λe=>?_,λp hp=>?_];. refine k _ H (.d (.tuple (EF ds t hi))) M i ?_ Step.refl q;unfold SI DV;exact#[a,n,rfl,m,by rw[<-e];rw[e] at key;rw[e];exact key]
 . have g:Grow K M.W M.W H (upd H p (.tup (L9 n t hi))):=B0 _ hp;refine k _ _ (.d (.tuple (EF ds t hi))) M (i.new hp) ?_ #[g] q;unfold SI DV;exact#[p,_,rfl,.inl #[λw=>w (i.none hp),.inl AE],key.grow g])
end
theorem i6 {X:Cx}{K:Frg}{pos:ew}{es:List bp}{k:Nat}{t:TGs}{n:Nat}(hK:X.K=K) (hc:X.calm=ap) (h:PGs X es t) (hn:(dc es X.env).length=n:=by rfl) (B:(dc es X.env).findIdx? (·.1)=none:=by rfl):PG X (.Tuple es k pos) (tF K n t):=hK▸lD hc h hn B
end DL
namespace HT
open PySem PySem.Spec PyProof.Rows
section
theorem bE (n:Nat):a7J am am (-1) (n:Int)=((n:Int) - 1,-1):=rfl
theorem bF (n:Nat):a3X ((n:Int) - 1) (-1) (-1)=n:=by
 unfold a3X;have h1:¬((-1:Int) > 0):=by lia
 simp only[h1,if_false];have e : -(-1:Int)=1:=rfl;rw[e,Int.ediv_one];split <;> lia
theorem NO {n:Nat}(hs:s.heap.IsSliceOf sl .none .none (.int (-1) t)) (h:Q ((n:Int) - 1,-1,n) s):wpAny (model prog w) A (b0V (.ref sl) (pure (n:Int))) Q E s:=by obtain⟨m,e,p,i⟩:=id hs;unfold b0V Builtin.Slice.sliceFields;refine zZ (zZ (bf e i (x:=.none) rfl (zZ (bf e i (x:=.none) rfl (zZ (bf e i (x:=.int (-1) t) rfl (zY ?_)))))));refine zZ (slicePart_int ?_);show wpAny _ _ (if ((-1:Int)==0)=ap then _ else _) _ _ s;rw[if_neg (by decide)];refine zZ (kf (zZ (kf (zZ (zY ?_)))));show wpAny _ _ (match a7J am am (-1) (n:Int) with | (r,hi)=>pure (r,(-1:Int),a3X r hi (-1))) _ _ s;rw[bE n];show wpAny _ _ (pure ((n:Int) - 1,(-1:Int),a3X ((n:Int) - 1) (-1) (-1))) _ _ s;rw[bF];exact zY h
theorem nB (xs:Array ao):((a2Q xs.size).filterMap λ(m:Nat)=>xs[((xs.size:Int) - 1+(m:Int)*(-1)).toNat]?).toArray=xs.toList.reverse.toArray:=by
 congr 1;apply a9W;intro i;have key:∀k,k<=xs.size->((a2Q k).filterMap λ(m:Nat)=>xs[((xs.size:Int) - 1+(m:Int)*(-1)).toNat]?)=xs.toList.reverse.take k:=by
   intro k;induction k with
   | zero=>intro _;simp
   | succ k U=>
     intro hk;rw[List.range_succ,List.filterMap_append,U (by lia),a1V];have h:((xs.size:Int) - 1+(k:Int)*(-1)).toNat=xs.size - 1 - k:=by lia
     have j:xs.toList.reverse[k]?=xs[xs.size - 1 - k]?:=by rw[List.getElem?_reverse (by simp;lia)];simp
     simp only[a5X,List.filterMap_nil,h,j];cases xs[xs.size - 1 - k]? <;> simp
 rw[key xs.size (zR _),b5K (by simp)]
theorem getItem_tuple_rev (e:IsTup s.heap t items) (hs:s.heap.IsSliceOf sl .none .none (.int (-1) u)) (h:Q (.ref s.heap.objs.size) { s with heap:=s.heap.push { cls:=.type "tuple", data:=.seq items.toList.reverse.toArray } }) (hsz:items.size<=aB):wpAny (model prog w) A (fx (.ref t) (.ref sl)) Q E s:=by
 have T:sizeOk (.seq items.toList.reverse.toArray):=by show items.toList.reverse.toArray.size<=aB;rw[zJ,b0J,a5Q];exact hsz
 obtain⟨i,r,p,b⟩:=id hs;have n:s.TypeIs (.ref sl) "slice" := #[i,r,p]
 unfold fx;try with_reducible refine bt ?_
 first | refine zZ (zY ?_) | skip
 refine zZ (wpAny_sequenceKey e.typeIs (by decide) ?_);refine zZ (wpAny_callSpecial?_slot (name:=a0Q "__getitem__") e.typeIs a3V (cb a3V e.typeIs kx ?_ (args_tuple_getitem _ _)));show wpAny _ _ (b6Q (.ref t) >>= _) _ _ s;refine zZ (tupleItemsOf_ e ?_);refine zZ (eo n ?_);rw[if_pos (by decide)];refine zZ (NO hs ?_);have M:¬((((items.size:Int) - 1)==0&&(-1:Int)==1&&items.size==items.size)=ap):=by intro q;rw[a0V,a0V] at q;exact absurd q.1.2 (by decide)
 show wpAny _ _ (if ((((items.size:Int) - 1)==0&&(-1:Int)==1&&items.size==items.size)=ap) then _ else _) _ _ s;rw[if_neg M,nB];first
   | exact zZ (m:=a2K _) (xM (zY #[_,rfl,zY h]) T)
   | exact zZ (m:=a2K _) (xM (zZ (zY (zY #[_,rfl,zY h]))) T)
   | exact zZ (zZ (m:=a2K _) (xM (zY (zY #[_,rfl,zY h])) T))
   | exact zZ (zZ (m:=a2K _) (xM (zY #[_,rfl,zY h]) T))
end
end HT
namespace L2
open PySem PySem.Spec PyProof.Rows
section
variable {X:Cx}{e st:bp}{te ts:TE}{pos p2:ew}
def A3i (K:Frg):V->Hp->VK->Prop:=λx H Q=>∃a t,x = .ref a/\SqT K H a t/\∀p,H p=am->Q (.ref p) (upd H p (.tup t.reverse))
def A1v (K:Frg) (te ts:TE):TE:=λt H Q=>te t H λx m=>ts t m λk f=>k = .int (-1)/\A3i K x f Q
theorem A1w (he:PE X e te) (B:PE X st ts):PE X (.Subscript e (.Slice am am (al st) p2) pos) (A1v X.K te ts):=by
 intro pins s n H Q I h;refine Subscript_ (thn (he pins s n H _ I h) λv L T=>?_);obtain⟨x,g,G,D,S⟩:=T;refine wpAny_Slice ?_;rw[evalPart_none];refine zY (zY ?_);rw[evalPart_some];refine thn (B pins L n g _ G S) ?_;rintro u t ⟨k,j,y,J,M⟩;obtain⟨rfl,a,f,rfl,hx,q⟩:=M;obtain⟨m,rfl⟩:=J;cases D;have N:Inv X pins n j { t with heap:=t.heap.push { cls:=.type "slice", data:=.fields (y9 [.none,.none,.int (-1) m]) } }:=y.kept (t':=t.toks) λb O q=>zW _ q;obtain⟨i,r,p,c⟩:=N.tuple hx;have z:i.toArray.size=f.length:=by rw[zJ];exact r.length.symm
 show wpAny (model X.prog X.w) X.A (subscriptTail e (.Slice am am (al st) p2) (.ref a) (.ref t.heap.objs.size)) (EP X pins n Q) X.xe { t with heap:=t.heap.push { cls:=.type "slice", data:=.fields (y9 [.none,.none,.int (-1) m]) } };refine tail_any (ops:=[.ref a,.ref t.heap.objs.size]) p.typeIs PyProof.Rows.slot_tuple_getitem.lookup ?_ (by with_unfolding_all rfl);refine HT.getItem_tuple_rev p (Heap.IsSliceOf.new ..) ?_ (by rw[z];exact c);refine#[.ref _,_,N.laid (t':=t.toks) (o:=.tup f.reverse) (λb O q=>zW _ q) (zR _) ?_,rfl,q _ (N.hok.fresh (zR _))];refine#[by rw[b0J];exact c,i.reverse,r.reverse,?_];have:=c0K { t with heap:=t.heap.push { cls:=.type "slice", data:=.fields (y9 [.none,.none,.int (-1) m]) } }.heap i.reverse.toArray;exact this
end
end L2
namespace DL
open PySem PySem.Spec L2
theorem A4X {X:Cx}{K:Frg}{e st:bp}{t ts:TE}{pos m:ew}(h:X.K=K) (he:PE X e t) (B:PE X st ts):PE X (.Subscript e (.Slice am am (al st) m) pos) (A1v K t ts):=h▸A1w he B
section
theorem DVs.reverse :∀{ds:List PyData}{vs:List V},DVs K H W ds vs->DVs K H W ds.reverse vs.reverse
 | [],vs,h=>by unfold DVs at h;subst h;exact DVs.nil
 | d::ds,vs,h=>by unfold DVs at h;obtain⟨v,r,rfl,h1,e⟩:=h;rw[b2K,b2K];exact(DVs.reverse e).append (DVs.cons h1 DVs.nil)
theorem A1x (h:DE K te ρ M λx M1=>∃ds,x = .d (.tuple ds)/\DE K ts ρ M1 λk e=>k = .d (.int (-1))/\Q (.d (.tuple ds.reverse)) e):DE K (A1v K te ts) ρ M Q:=λr H QQ R k=>
 h r H _ R λv m x M1 T N n h1=>by obtain⟨ds,rfl,h1⟩:=h1;refine h1 r m _ (R.step T n) λu f y e t O c j=>?_;obtain⟨rfl,q⟩:=j;have b:=N.step c;unfold SI DV at b;obtain⟨a,i,rfl,z,hd⟩:=b;refine#[E2 O,a,i,rfl,z.sq,λp hp=>?_];have g:Grow K e.W e.W f (upd f p (.tup i.reverse)):=B0 _ hp;refine k _ _ (.d (.tuple ds.reverse)) e (t.new hp) ?_ ((n.trans c).trans #[g]) q;unfold SI DV;exact#[p,_,rfl,.inl #[λw=>w (t.none hp),.inl AE],(DVs.reverse hd).grow g]
end
end DL
namespace DL
open PySem PySem.Spec L2
def fn1 (pre:PyData->Prop) (f:PyData->PyData):FSp:=#[λt _=>∃d,t=[.d d]/\pre d,λt M y i=>∀d,t=[.d d]->y = .d (f d)/\i=M]
theorem CP {Q:DS->Own->Prop}(p:pre d) (q:Q (.d (f d)) M):[DS.d d].length=1/\(fn1 pre f).pre [.d d] M/\∀x i,(fn1 pre f).post [.d d] M x i->Q x i:=#[rfl,#[d,rfl,p],λx i h=>by obtain⟨rfl,rfl⟩:=h d rfl;exact q]
def IS (c:Nat):Bool:=decide (97<=c)&&decide (c<=122)
def NP:PyData->Bool | .int _=>ap | _=>aw
def CI:PyData->Bool | .str z=>decide (1<=z.cps.size)&&decide (z.cps.size<=8)&&z.cps.toList.all IS | _=>aw
def LC:PyData->Bool | .int i=>decide (0<=i)&&decide (i<=999) | _=>aw
def okS (z:Str):Prop:=z.cps.size<=5000/\∀c∈z.cps.toList,c < 128
def okD:PyData->Prop | .str z=>okS z | _=>True
def LF:FSp:=fn1 (λ_=>True) λd=>.bool (NP d)
def TU:FSp:=fn1 okD λd=>.bool (CI d)
def QD:FSp:=fn1 (λ_=>True) λd=>.bool (LC d)
def MK (d:PyData) (e hi:Int):Bool:=match d with | .int i=>decide (e<=i)&&decide (i<=hi) | _=>aw
def G5:FSp:=#[λt _=>∃(d:PyData) (e hi:Int),t=[.d d,.d (.int e),.d (.int hi)],λt M y i=>∀(d:PyData) (e hi:Int),t=[.d d,.d (.int e),.d (.int hi)]->y = .d (.bool (MK d e hi))/\i=M]
theorem XS {Q:DS->Own->Prop}(q:Q (.d (.bool (MK d e hi))) M):[DS.d d,.d (.int e),.d (.int hi)].length=3/\G5.pre [.d d,.d (.int e),.d (.int hi)] M/\∀x i,G5.post [.d d,.d (.int e),.d (.int hi)] M x i->Q x i:=#[rfl,#[d,e,hi,rfl],λx i h=>by obtain⟨rfl,rfl⟩:=h d e hi rfl;exact q]
theorem VA (d:PyData):MK d 0 999=LC d:=by cases d <;> rfl
theorem bG:∀c:Nat,c < 128->(!(a4Q (a0Q "abcdefghijklmnopqrstuvwxyz") #[(y9 [c])] 0 (a0Q "abcdefghijklmnopqrstuvwxyz").length 1).isEmpty)=IS c:=by decide +kernel
def v0:PyData->Bool | .str z=>z.cps.toList.all IS | _=>aw
theorem i7 (z:Str):((CO z).filter λ_=>ap).map (λd=>PyData.bool (v0 d))=(z.cps.toList.map IS).map .bool:=by rw[List.filter_eq_self.mpr (by simp)];unfold CO;rw[zD,zD];apply yM;intro c hc;simp[v0]
theorem bH (l:List Nat) (f:Nat->Bool):(l.map f).all id=l.all f:=by simp
section
theorem HQ (P:List (Option DS)->Own->Prop) (h:DSt K t ρ M { D with nx:=P }) (r:∀e M1,P e M1->DSt K u e M1 D):DSt K (l9 t u) ρ M D:=
 mI (uE h (λn i p=>r n i p) (λ_ _ q=>q) (λ_ _ q=>q) (λ_ _ q=>q))
end
def CQ (z:Str):Prop:=1<=z.cps.size/\z.cps.size<=8/\∀c∈z.cps.toList,IS c=ap
theorem p64:(2:Int) ^ 64=18446744073709551616:=by decide
theorem VB (h1 : -1000000000000000 < i) (e:i < 1000000000000000):CMul i j:=by refine .inl #[?_,?_] <;> rw[p64] <;> lia
theorem nC (h1 : -1000000000000000 < j) (e:j < 1000000000000000):CMul i j:=by refine .inr #[?_,?_] <;> rw[p64] <;> lia
theorem A4Y {Q:List PyData->Prop}(e:SQ xs=al ds) (h:ds.length<=aB) (q:Q ds):∃ds,SQ xs=al ds/\ds.length<=aB/\Q ds:=#[ds,e,h,q]
theorem v3 {x:Str}(h:x.cps.toList=y.cps.toList):x=y:=by obtain⟨⟨a⟩⟩:=x;obtain⟨⟨b⟩⟩:=y;simp at h;subst h;rfl
theorem QE:∀(cs:List Nat) (acc:Array Nat),((cs.map λc=>(#[(y9 [c])]:Str)).foldl (λacc p=>acc++(a0Q "").cps++p.cps) acc)=acc++cs.toArray
 | [],acc=>by simp
 | c::cs,acc=>by
   rw[zI,b4Z,QE cs];have e:(a0Q "").cps=#[]:=by decide +kernel
   rw[e];apply Array.ext';simp
theorem bI (cs:List Nat):Txt.join (a0Q "") (cs.map λc=>(#[(y9 [c])]:Str))=#[cs.toArray]:=by
 unfold Txt.join Builtin.Str.glued;cases cs with
 | nil=>rfl
 | cons c cs=> simp only[zI,List.drop_succ_cons,List.drop_zero,List.headD_cons];rw[QE];congr 1;apply Array.ext';simp
theorem nE (n len:Nat):Builtin.Str.strSliceIndices am (al (n:Int)) 1 len=a2Q (min n len):=by
 unfold Builtin.Str.strSliceIndices sliceRange;have h1:¬((n:Int) < 0):=by lia
 have e:max 0 (min (n:Int) (len:Int))=((min n len:Nat):Int):=by lia
 simp only[show(1:Int) > 0 by decide,if_true,h1,if_false,e];have J:(if (0:Int) < ((min n len:Nat):Int) then (((min n len:Nat):Int) - 0+1 - 1)/1 else 0).toNat=min n len:=by
   split;. rw[Int.ediv_one];lia
   . lia
 rw[J];apply a9W;intro i;rw[zF];by_cases h:i < min n len;. simp[xZ h]
 . simp[a4J (show(a2Q (min n len)).length<=i by simp;lia)]
theorem i8 (l:List Nat) (a:Array Nat) (m:Nat) (h:a.toList=l):(a2Q m).filterMap (λi=>a[i]?)=l.take m:=by
 induction m with
 | zero=>simp
 | succ m U=>
   rw[List.range_succ,List.filterMap_append,U,a1V];have e:a[m]?=l[m]?:=by rw[<-h];simp
   simp only[a5X,List.filterMap_nil,e];cases l[m]? <;> simp
theorem bJ (z:Str) (n:Nat):(b2Z z am (al (n:Int))).cps.toList=z.cps.toList.take n:=by
 unfold b2Z;rw[nE];have r:z.length=z.cps.toList.length:=by simp[Str.length]
 split;. rename_i h;simp only[xY,beq_self_eq_true,b9X,beq_iff_eq] at h;rw[b5K (by rw[<-r];lia)]
 . show(List.filterMap _ _).toArray.toList=_;rw[i8 z.cps.toList z.cps _ rfl,List.toList_toArray,r,List.take_eq_take_iff];lia
theorem SR (x y:Str):(x++y).cps.toList=x.cps.toList++y.cps.toList:=by show(x.cps++y.cps).toList=_;simp
theorem OK:(a0Q "abcdefghijklmnopqrstuvwxyz").length=26:=by decide +kernel
theorem TV:∀cs:List Nat,((cs.map λc=>(#[(y9 [c])]:Str)).map (·.length)).sum=cs.length
 | []=>rfl
 | c::cs=>by rw[zI,zI,b0Z,TV cs];show 1+cs.length=cs.length+1;lia
theorem flt (l:List PyData):l.filter (λ_=>ap)=l:=List.filter_eq_self.mpr (by simp)
theorem i9 (z:Str) (l u:Option Int) (h:z.length<=n):(b2Z z l u).length<=n:=zN (Txt.slice_le z l u) h
theorem nG (h:IS c=ap):c < 128:=by unfold IS at h;simp at h;lia
theorem TX (s:Str):CI (.str s)=(decide (1<=s.cps.size)&&decide (s.cps.size<=8)&&s.cps.toList.all IS):=rfl
theorem TY (s:Str):s.cps.size=s.cps.toList.length:=by simp
theorem nH (h:CQ z):okD (.str z):=#[by have:=h.2.1;lia,λc hc=>nG (h.2.2 c hc)]
end DL
namespace DL
open PySem PySem.Spec L2
def sl (a b:Str):Bool:=b4Q a.cps.toList b.cps.toList
theorem TZ:∀a:List Nat,b4Q a a=aw
 | []=>rfl
 | a::r=>by simp[b4Q,TZ r]
theorem XT:∀a b c:List Nat,b4Q a b=ap->b4Q b c=ap->b4Q a c=ap
 | [],[],_,h,_=>by cases h
 | [],_::_,[],_,h=>by cases h
 | [],_::_,_::_,_,_=>rfl
 | _::_,[],_,h,_=>by cases h
 | _::_,_::_,[],_,h=>by cases h
 | a::r,b::t,c::u,h1,e=>by
   simp only[b4Q,Bool.or_eq_true,decide_eq_true_eq,a0V,beq_iff_eq] at h1 e ⊢;rcases h1 with h1 | ⟨rfl,h1⟩
   . rcases e with e | ⟨rfl,e⟩
     . exact .inl (xQ h1 e)
     . exact .inl h1
   . rcases e with e | ⟨rfl,e⟩
     . exact .inl e
     . exact .inr #[rfl,XT r t u h1 e]
theorem XU:∀a b:List Nat,b4Q a b=aw->b4Q b a=aw->a=b
 | [],[],_,_=>rfl
 | [],_::_,h,_=>by cases h
 | _::_,[],_,h=>by cases h
 | a::r,b::t,h1,n=>by
   simp only[b4Q,Bool.or_eq_false_iff,decide_eq_false_iff_not,Bool.and_eq_false_iff] at h1 n;have e:a=b:=by lia
   subst e;simp at h1 n;rw[XU r t h1 n]
theorem U0 (a:Str):sl a a=false:=TZ _
theorem ML (h1:sl a b=ap) (e:sl b c=ap):sl a c=true:=XT _ _ _ h1 e
theorem F9 (h1:sl a b=aw) (e:sl b a=aw):a=b:=v3 (XU _ _ h1 e)
theorem QF (h:sl a b=ap):sl b a=false:=by
 cases e:sl b a with
 | false=>rfl
 | true=>have:=ML h e;rw[U0] at this;cases this
theorem A3j (a b:Str):decide (a.cps.toList < b.cps.toList)=sl a b:=PyProof.Rows.lt_meets a b
def Ris (ss:List Str):Prop:=ss.Pairwise λa b=>sl a b=ap
theorem U1:∀ss:List Str,xG ss=ap->ss.Pairwise λa b=>sl b a=aw
 | [],_=>.nil
 | a::r,h=>by
   have key:∀(r:List Str) (p:Str),PyProof.Rows.risingS p r=ap->(p::r).Pairwise λa b=>sl b a=false:=by
     intro r;induction r with
     | nil=>intro p _;simp
     | cons x r U=>
       intro p h;unfold PyProof.Rows.risingS at h;simp only[a0V,Bool.not_eq_true'] at h;have t:=U x h.2;refine List.pairwise_cons.mpr #[λc hc=>?_,t];have hx:sl x p=false:=h.1;rcases yX.mp hc with rfl | hc;. exact hx
       . have I:sl c x=false:=(List.pairwise_cons.mp t).1 c hc;cases e:sl c p with
         | false=>rfl
         | true=>
           cases j:sl x c with
           | true=>have:=ML j e;rw[hx] at this;cases this
           | false=>have:=F9 I j;subst this;rw[hx] at e;cases e
   exact key r a h
theorem bK (h:xG ss=ap) (nd:ss.Nodup):Ris ss:=by
 unfold Ris;have h1:=U1 ss h;refine(List.Pairwise.and h1 nd).imp λ{a b} G=>?_;obtain⟨x,y⟩:=G;cases e:sl a b with
 | true=>rfl
 | false=>exact absurd (F9 e x) y
theorem Ris.nodup (h:Ris ss):ss.Nodup:=h.imp λ{a b} q=>by rintro rfl;rw[U0] at q;cases q
theorem D8 (h1:d.canLay0=ap) (e:d.depth<=64):zH d=true:=by unfold zH;rw[h1,decide_eq_true e];rfl
theorem J7 (h:∀d∈ds,d.canLay0=ap):b5Z ds=true:=by
 induction ds with
 | nil=>rfl
 | cons d r U=>rw[b5Z,h d a0Z,U λx hx=>h x (yV _ hx)];rfl
theorem J8 (h:∀d∈ds,d.depth<=n):a2W ds<=n:=by
 induction ds with
 | nil=>simp[a2W]
 | cons d r U=> have h1:=h d a0Z;have e:=U λx hx=>h x (yV _ hx);simp only[a2W];lia
theorem D3 (h:CQ z):c0Q z=true:=by unfold c0Q;rw[Array.all_eq_true'];intro c hc;have:=nG (h.2.2 c (by simpa using hc));simp;lia
end DL
namespace DL
open PySem PySem.Spec L2
theorem sIx_nat (n d k:Nat):HT.sIx n d (al (k:Int))=min k n:=HT.sIx_nat n d k
theorem QG (xs:List PyData) (k:Nat):EF xs (al (k:Int)) am=xs.drop k:=by
 unfold EF;rw[sIx_nat];show(xs.drop (min k xs.length)).take (xs.length - min k xs.length)=_;rw[b5K (by rw[a4V];lia)];by_cases h:k<=xs.length;. rw[Nat.min_eq_left h]
 . rw[Nat.min_eq_right (by lia),b5W (zR _),b5W (by lia)]
theorem nI (xs:List PyData) (k:Nat):EF xs am (al (k:Int))=xs.take k:=by unfold EF;rw[sIx_nat];show(xs.drop 0).take (min k xs.length - 0)=_;rw[List.drop_zero,Nat.sub_zero,List.take_eq_take_iff];lia
theorem PH (xs:List PyData) (a b:Nat):EF xs (al (a:Int)) (al (b:Int))=(xs.take b).drop a:=by
 unfold EF;rw[sIx_nat,sIx_nat,List.drop_take];by_cases h:a<=xs.length;. rw[Nat.min_eq_left h,List.take_eq_take_iff,a4V];lia
 . rw[b5W (show xs.length<=min a xs.length by lia),b5W (show xs.length<=a by lia)];simp
def fn2 (pre:PyData->PyData->Prop) (f:PyData->PyData->PyData):FSp:=#[λt _=>∃a b,t=[.d a,.d b]/\pre a b,λt M y i=>∀a b,t=[.d a,.d b]->y = .d (f a b)/\i=M]
theorem nJ {Q:DS->Own->Prop}(p:pre a b) (q:Q (.d (f a b)) M):[DS.d a,.d b].length=2/\(fn2 pre f).pre [.d a,.d b] M/\∀x i,(fn2 pre f).post [.d a,.d b] M x i->Q x i:=#[rfl,#[a,b,rfl,p],λx i h=>by obtain⟨rfl,rfl⟩:=h a b rfl;exact q]
def A4Z:PyData->PyData | .tuple (a::_)=>a | d=>d
def nK:PyData->Str | .str z=>z | _=>#[#[]]
def nm0 (d:PyData):Str:=nK (A4Z d)
abbrev Th:=Str×Int×Int
def thD (t:Th):PyData:=.tuple [.str t.1,.int t.2.1,.int t.2.2]
def wD (w:List Th):PyData:=.tuple (w.map thD)
def A3k (w:List Th):Prop:=Ris (w.map (·.1))/\∀t∈w,CQ t.1/\0<=t.2.1/\t.2.1<=999/\-1000000000000<=t.2.2/\t.2.2<=1000000000000
theorem U2 (h:CI d=ap):∃z,d = .str z/\CQ z:=by
 cases d with
 | str z=> rw[TX] at h;simp only[a0V,decide_eq_true_eq,a8V] at h;exact#[z,rfl,h.1.1,h.1.2,h.2]
 | _=>cases h
theorem nL (h:CQ z):CI (.str z)=true:=by rw[TX,decide_eq_true h.1,decide_eq_true h.2.1,List.all_eq_true.mpr h.2.2];rfl
theorem v4 (w:List Th):(w.map thD).map nm0=w.map (·.1):=by rw[zD];rfl
end DL
namespace DL
open PySem PySem.Spec L2
section
theorem BG (ho:J5 g T) (hT:∀i∈T,∀j,x[i]?≠al (al j)) (h:DI K wi ρ M λds M1=>ds.length < aB/\∃(c:PyData->Bool) (f:PyData->PyData),(∀d∈ds,∀A acc e,M1 A=am->e=M1.put A (.l acc)->DG K g d (G4 x ρ) e λr m=>m=e/\DT K L r m λb p=>p=e/\b=c d/\(c d=ap->DE K B r p λy I=>y = .d (f d)/\I=e))/\Q (.d (.list ((ds.filter c).map f))) M1) :
   DE K (OI x wi g L B) ρ M Q:=by
 refine e6 ho hT λz H R Rl k=>h z H R Rl λJ ds X M1 o1 t1 wd q=>k J ds X M1 o1 t1 wd ?_;obtain⟨hsz,c,f,he,q⟩:=q;refine#[hsz,λA hA=>#[λk acc e=>acc=((ds.take k).filter c).map f/\e=M1.put A (.l acc),#[by simp,rfl],λk acc e #[n,t]=>#[by rw[t];exact zU,?_],λk d acc e hd #[n,t]=>?_,λacc e #[n,t]=>?_]];. rw[n,zX];exact zN (yJ _ _) (by rw[a0J];lia)
 . have hm:d∈ds:=yN hd;intro z H v QQ R dv kk;refine he d hm A acc e hA t z H v QQ R dv λD m N H' R' st cw=>kk D m N H' R' st λO Y QQ2 R2 k2=>?_;obtain⟨eM,q2⟩:=cw;refine q2 O Y QQ2 R2 λb Z p o3 gb tw=>k2 b Z p o3 gb ?_;obtain⟨U,u,q3⟩:=tw;have G:(ds.take (k+1)).filter c=(ds.take k).filter c++(if c d then [d] else []):=iv c ds k d hd;cases hb:c d with
   | false=> rw[hb] at u;subst u;refine L2.m5 #[?_,by rw[U,t]];rw[G,hb,n];simp
   | true=>
     rw[hb] at u;subst u;refine L2.hU ?_;refine V8 (q3 hb) λy I #[ey,S]=>#[f d,ey,by rw[S,t];exact zU,?_,by rw[S,t,yI]]
     rw[G,hb,n];simp
 . rw[t,yG hA,n,a1Q];exact q
end
theorem J9 {as:List Str}(h:as.map a0K=bs.map a0K):as=bs:=by have:=congrArg (List.map nK) h;rw[zD,zD] at this;simpa [show(nK∘a0K)=id from rfl] using this
theorem nM (h:DE K n e M λx M1=>∃d,x = .d d/\DG K g d e M1 D.nx):DSt K (tG n g) e M D:=λi H E R j _ _ _=>
 h i H _ R λv H' x u a b c q=>by obtain⟨d,rfl,q⟩:=q;exact q i H' v _ (R.step a c) b λr k t f R2 m p=>j r k t f R2 (c.trans m) p
theorem nN {X:Cx}:MtR X "list.append" V0:=NJ
end DL
namespace L2
open PySem PySem.Spec PyProof.Rows
def EntS (w:bj):List DictEntry->List (Str×Str)->Prop
 | [],[]=>True
 | e::I,kv::r=>e.hash=hashStr w kv.1/\(∃t,e.key = .str kv.1 t)/\(∃t,e.val = .str kv.2 t)/\EntS w I r
 | _,_=>False
def GDict (w:bj) (K:Frg) (a:Addr) (kvs:List (Str×Str)):Prop:=(a==c4)=aw/\(kvs.map (·.1)).Nodup/\∃I e,K.lookup a=al { cls:=.type "dict", data:=.dict I e }/\EntS w I.toList kvs
theorem EntS.pairs :∀{es:List DictEntry}{kvs:List (Str×Str)},EntS w es kvs->∃vs:List (Key×ao),Pairs (AV P w) es vs/\KV (kvs.map λkv=>((a1Z kv.1:Key),V.str kv.2)) vs/\vs.map (·.1)=kvs.map (λkv=>(a1Z kv.1:Key))/\∀e∈es,∃k,(AV P w).is k e.key=ap/\e.hash=(AV P w).hash k
 | [],[],_=>#[[],.nil,.nil,rfl,by simp]
 | e::es,kv::r,#[h1,#[t,n],#[Y,J],i]=>by
   obtain⟨vs,a,b,c,d⟩:=EntS.pairs (P:=P) i;have hk:(AV P w).is (a1Z kv.1) e.key=true:=by rw[n];exact OG P w kv.1 t
   refine#[(a1Z kv.1,e.val)::vs,.cons hk rfl a,.cons #[rfl,#[Y,J]] b,by rw[zI,zI,c],λx hx=>?_];rcases yX.mp hx with rfl | hx;. exact#[_,hk,h1]
   . exact d x hx
section
variable {X:Cx}{pins:List (Addr×cE)}{σ:St}{H:Hp}{s:aq}
theorem GDict.at (g:GDict X.w X.K a kvs) (I:Inv X pins σ H s):∃vs,KV (kvs.map λkv=>((a1Z kv.1:Key),V.str kv.2)) vs/\s.heap.DictOf (AV X.prog X.w) a vs:=by
 obtain⟨_,nd,n,t,hk,he⟩:=g;obtain⟨vs,i,m,O,r⟩:=he.pairs (P:=X.prog);refine#[vs,m,_,n,t,I.kIn a _ hk,#[rfl,rfl,rfl],rfl,λe he=>r e (by simpa using he),i,?_];rw[O];have:kvs.map (λkv=>(a1Z kv.1:Key))=(kvs.map (·.1)).map a1Z:=by rw[zD];rfl
 rw[this];unfold List.Nodup;rw[b2W];exact nd.imp λ{a b} q e=>q (by injection e)
def A0W (kvs:List (Str×Str)) (ty:TE):TE:=λσ H Q=>ty σ H λy m=>∃k:Str,y = .str k/\Q (((kvs.lookup k).map V.str).getD .non) m
theorem XV (kvs:List (Str×Str)) (k:Str):GD (kvs.map λkv=>((a1Z kv.1:Key),V.str kv.2)) (a1Z k)=(kvs.lookup k).map V.str:=by
 induction kvs with
 | nil=>rfl
 | cons kv r U=>
   obtain⟨a,b⟩:=kv;unfold GD at U ⊢;rw[zI,b2X,a3W];by_cases h:a=k;. subst h;simp
   . have h1:decide ((a1Z a:Key)=a1Z k)=false:=decide_eq_false λe=>h (by injection e);have t:(k==a)=false:=by simpa using λe=>h e.symm
     simp only[h1,t];exact U
theorem v6 {x:Str}{p apos B:ew}{e:bp}{ty:TE}{kvs:List (Str×Str)}(hg:Gl X x) (t:∃a,X.mg x=al (.ref a)/\GDict X.w X.K a kvs) (he:PE X e ty) (m:M1 X (.Name x p) "get" apos e B) (hd:(x==("__debug__":Str))=false:=by decide) :
   PE X (.Call (.Attribute (.Name x p) "get" apos) [e] [] B) (A0W kvs ty):=by
 obtain⟨a,t,g⟩:=t;intro pins s σ H Q I h;refine wpAny_Call_method m.base m.few m.line PySem.F.plainAttrs_dict PySem.F.slot_dict_get PySem.F.type_dict_get (G1 I hg t ?_ hd);obtain⟨N,rel,i⟩:=g.at I;refine#[i.typeIs,λb q=>?_,?_];. cases q;obtain⟨u,_,_,h1,j,_⟩:=i;exact#[u,h1,j.2.1]
 rw[m.trees];refine b9J rfl (Calls.evalArgs_plain (xP (thn (he pins s σ H _ I h) λz T G=>Calls.spliced_nil ?_)));obtain⟨y,f,n,Z,k,c,v⟩:=G;subst c;obtain⟨O,L,r⟩:=g.at n;refine call_meetsIn PySem.F.slot_dict_get r.typeIs PySem.F.entry_dict_get (PySem.F.args_dict_get_2 _ _) (meets_dict_get (AV X.prog X.w) a (KQ (k:=a1Z k) Z) g.1) #[_,r.mapOf,?_];refine#[_,f,n.tok _,?_,v];have:=(L.val (a1Z k)).getD (show RelV .non .none from rfl);rw[XV] at this;exact this
end
end L2
namespace DL
open PySem PySem.Spec L2
section
def iA:Option Str->PyData | some z=>.str z | none=>.none
theorem v7 (h:DE K ty ρ M λy M1=>∃k,y = .d (.str k)/\Q (.d (iA (kvs.lookup k))) M1):DE K (A0W kvs ty) ρ M Q:=λr H QQ R k=>
 h r H _ R λv m x M1 t i n h1=>by
   obtain⟨z,rfl,q⟩:=h1;refine#[z,BD i,?_];cases e:kvs.lookup z with
   | none=>rw[e] at q;exact k _ m (.d .none) M1 t (by unfold SI DV;rfl) n q
   | some y=>rw[e] at q;exact k _ m (.d (.str y)) M1 t GR n q
theorem eI (hg:Gl X x) (e:X.mg x=al (.ref a)) (hd:(x==("__debug__":Str))=false:=by decide):PE X (.Name x pos) (tC (.ref a)):=UQ hg e rfl hd
theorem nO {neg:Bool}{ys:List Str}(q:Q (.d (.bool (if neg then !decide (x∈ys) else decide (x∈ys)))) M):D2 K (rIn K neg) (.d (.str x)) (.d (.tuple (ys.map .str))) M Q:=λH v u QQ n i t k=>by rw[BD i];unfold SI DV at t;obtain⟨a,m,rfl,r,hd⟩:=t;have e:=J2 hd;subst e;exact#[a,_,rfl,.inr r.sq,rfl,by simp[KP],k _ H (.d (.bool (if neg then !decide (x∈ys) else decide (x∈ys)))) M n (by rw[XG];exact AM) Step.refl q]
theorem eJ {ys:List Str}(q:Q (.d (.bool (decide (x∈ys)))) M):D2 K (mN K) (.d (.str x)) (.d (.tuple (ys.map .str))) M Q:=GF (nO (neg:=aw) q)
theorem MM {ys:List Str}(q:Q (.d (.bool (!decide (x∈ys)))) M):D2 K (V9 K) (.d (.str x)) (.d (.tuple (ys.map .str))) M Q:=GF (nO (neg:=ap) q)
end
end DL
namespace L2
open PySem PySem.Spec PyProof.Rows
section
def VC:V->List V->Hp->VK->Prop:=λv e H Q=>∃x y,v = .str x/\e=[.str y]/\Q (.bl (Txt.startswith x y)) H
theorem iB:MtR X "str.startswith" VC:=by intro pins s m H x r v i Q I n e h;obtain⟨y,z,rfl,rfl,q⟩:=h;obtain⟨t,rfl⟩:=n;obtain⟨u,rfl,Y,rfl⟩:=GM e;exact SC.startswith #[.bl _,H,I,rfl,q]
def A3l (z:Str) (n:Int):Str:=if (n==1||z.length==0)=ap then z else #[(b3W n.toNat z.cps).foldl (·++·) #[]]
def nP:R2:=λx y H Q=>(rI (λi j=>IntMulOk i j) λi j=>.int (i*j)) x y H Q\/∃z n,x = .str z/\y = .int n/\1<=n/\n<=8/\z.length<=1000/\Q (.str (A3l z n)) H
theorem XW (a:Array Nat):∀(n:Nat) (b:Array Nat),(List.foldl (λN e=>N++e) b (b3W n a)).size=b.size+n*a.size
 | 0,b=>by simp
 | n+1,b=>by rw[List.replicate_succ,b4Z,XW a n,Array.size_append,Nat.succ_mul];lia
theorem v8:OpR X (ee .Mult) nP:=by
 intro pins s g H x y v u Q I p Z h;rcases h with h | ⟨z,n,rfl,rfl,h1,m,J,q⟩
 . exact(opI (C:=λi j=>IntMulOk i j) λ_ _ _ _ _ _ _ hc q=>mul_int q hc) pins s g H x y v u Q I p Z h
 . obtain⟨t,rfl⟩:=p;obtain⟨Y,rfl⟩:=Z;have hp:(2:Int) ^ 63=9223372036854775808:=by decide
   refine P.mul_str ?_ (λ_ _=>?_) (λ_ _=>?_) ?_;. rw[decide_eq_false (Int.not_lt.mpr (Int.le_trans (by decide) h1)),decide_eq_false (Int.not_le.mpr (Int.lt_of_le_of_lt m (by decide)))];rfl
   . rw[hp];have b:(1000:Int)<=(9223372036854775808 - 1)/n:=Int.le_ediv_of_mul_le (Int.lt_of_lt_of_le (by decide) h1) (Int.le_trans (Int.mul_le_mul_of_nonneg_left m (by decide)) (by decide));exact λhc=>absurd (Int.lt_of_le_of_lt b hc) (Int.not_lt.mpr (Int.ofNat_le.mpr J))
   . have r:z.length*n.toNat<=1000*1000:=Nat.mul_le_mul J (by lia);unfold Builtin.Str.tooLong;rw[decide_eq_false];exact λhc=>absurd (zP hc r) (by decide)
   . rw[if_neg (by lia)];have f:=q;unfold A3l at f;split;. rename_i e;rw[if_pos e] at f;exact#[.str z,H,I,#[_,rfl],f]
     . rename_i e;rw[if_neg e] at f;refine#[?_,#[.str _,H,I.tok _,#[_,rfl],f]];show(List.foldl (λN c=>N++c) #[] (b3W n.toNat z.cps)).size<=aB;rw[XW];have r:(#[]:Array Nat).size+n.toNat*z.cps.size<=8*1000:=by rw[show(#[]:Array Nat).size=0 from rfl,Nat.zero_add];exact Nat.mul_le_mul (by lia) J
       exact zN r (by decide)
end
end L2
namespace DL
open PySem PySem.Spec L2
section
variable {X:Cx}{K:Frg}
theorem XX (_:X.K=K):MtR X "str.startswith" VC:=iB
theorem v9 (_:X.K=K):OpR X (ee .Mult) nP:=v8
end
section
theorem iC (q:Q (.d (.bool (Txt.startswith x y))) M):DM K VC (.d (.str x)) [.d (.str y)] M Q:=λH v m QQ t n i k=>by obtain⟨u,r,rfl,h1,e⟩:=i;cases e;rw[BD n,BD h1];exact#[x,y,rfl,rfl,k _ H _ M t AM Step.refl q]
theorem nQ (c:IntMulOk i j) (q:Q (.d (.int (i*j))) M):D2 K nP (.d (.int i)) (.d (.int j)) M Q:=λH v u QQ e t n k=>by rw[E2 t,E2 n];exact .inl #[i,j,rfl,rfl,c,k _ H _ M e E3 Step.refl q]
end
end DL
namespace L2
open PySem PySem.Spec PyProof.Rows PySem.W
theorem VD {ns:List Int}(h:WData.layableAll [WData.list (ns.map WData.int)]=ap):∀i∈ns,xJ i<=2 ^ 20:=by
 have h1:WData.weightAll (ns.map WData.int)<=2 ^ 20:=by
   have S:WData.layable (WData.list (ns.map WData.int))=true:=by unfold WData.layableAll at h;simpa using h
   unfold WData.layable at S;rw[a0V] at S;exact of_decide_eq_true S.2
 intro i hi;refine zN ?_ h1;clear h h1;induction ns with
 | nil=>cases hi
 | cons n r U=>
   rw[zI];show _<=WData.weight (.int n)+1+WData.weightAll (r.map WData.int);rcases yX.mp hi with rfl | hi;. have:WData.weight (.int i)=xJ i:=rfl;lia
   . have:=U hi;lia
theorem nR {l:PySem.W.OpenLaw}{n k:Nat}{q:bn}{loose:List Str}{XP:(Str->Option ao)->cr->Prop}{YP:bj->cr->Prop}{d:DefRec}{K:fi->Frg}{CX:bj->CXT}{sp:bj->Sp}{x:Str} (hn:l.most=al n) (O:n<=aB) (B:d.params.defaults=[]) (hr:Room k callerA) (D:∀(w:bj) (h:cr),YP w h->(K w.params).In h) (F:∀(w:bj) (mg:Str->Option ao) (t:Addr) (h:cr),(K w.params).In h->h.Ns bd mg->mg d.name=al (.ref t) ->∃N:dV,(∀(s:aq) (u:ao),BindsTo s N #[[u],[]] [(x,u)]) /\∀base:cr,(K w.params).In base->base.Ns bd mg->FnOk l.prog w (K w.params) mg base (CX w) k t N [x] (sp w)) (L:∀(w:bj) (H:Hp) (a:Addr) (ns:List Int),ns.length<=n->(∀i∈ns,xJ i<=2 ^ 20)->A1O H->SqL (K w.params) H a (ns.map V.int)->sp w [.ref a] H (λv _=>v = .bl ap) λ_ _ _=>False) (j:∀(w:bj) (H:Hp) (s:aq) (e:ao) (s':aq),CX w [] H s (λ_ _ _=>False) e s'->False) :
   PySem.W.WalkO q loose XP YP l.row.toRowW d [] (λf vs=>PySem.call f vs):=by
 intro w p z mg mb G Y t o pm cd doc I kV ho hd il hD X hg args vals as Z y P_ Q P';have S:I = .none:=Dflts.none hD B;subst S;have M:kV = .none:=Dflts.noKw hD;subst M;obtain⟨a,vs,ns,rfl,rfl,U,c,m⟩:=Att.script_of hn Z Q;have wz:=VD y;refine enter_call (xN (R:=λr s'=>r = .ok (.ret (.bool ap))/\OldK z.heap s'.heap/\s'.os=z.os/\im s'.gens) ?_ λr s' hq=>?_);. have KX:=D w _ Y;obtain⟨N,hb,hF⟩:=F w mg t _ KX G.T.g X;exact lZ KX G.T.g G.T.b G.T.builtins G.T.nolimit hg U c (zN m O) hr hF hb (λH hO hS=>L w H a ns m wz hO hS) λH e s'=>j w H z e s'
 . have h1:=hq.1;subst h1;exact#[.inl #[.bool ap,.bool ap,[],rfl,λ_=>rfl,.bool ap,Att.post_true l _,λ_=>#[a8Q,λ_ J=>(nomatch J)]],hq.2.1,hq.2.2.1,hq.2.2.2]
end L2
namespace DL
open PySem PySem.Spec L2
def A4a (z:Str):Prop:=∀c∈z.cps.toList,IS c=ap
theorem nS (h:A4a z) (h1:1<=z.cps.toList.length) (e:z.cps.toList.length<=8):CQ z:=#[by rw[TY];exact h1,by rw[TY];exact e,h]
end DL
namespace L2
open PySem PySem.Spec PyProof.Rows
abbrev FA (F:List Addr) (S:cr->Prop):Prop:=∀h p:cr,S h->(∀c∈F,∀o,h.get? c=al o->p.get? c=al o)->S p
abbrev NxI (P:bn) (w:bj) (A:ca) (i:Addr) (S J:cr->Prop) (R:ao->Prop):Prop:=∀(s:aq) (Q:ao->aq->Prop) (E:ao->aq->Prop),S s.heap->(∀p n x,R x->J p->Heap.SameBut i s.heap p->Q x { s with heap:=p,toks:=n })->wpAny (model P w) A (a1W (.ref i)) Q E s
abbrev NxE (P:bn) (w:bj) (A:ca) (i:Addr) (S:cr->Prop):Prop:=∀(s:aq) (Q:ao->aq->Prop) (E:ao->aq->Prop),S s.heap->(∀p e,Heap.ExtBut i s.heap p->(∃o,p.get? e=al o/\o.cls = .type "StopIteration")->E (.ref e) { s with heap:=p })->wpAny (model P w) A (a1W (.ref i)) Q E s
structure ZAp (z TI TO i1 i2:Addr) (F1 F2:List Addr):Prop where
 tz:TO≠z
 az:i1≠z
 bz:i2≠z
 ta:TO≠i1
 tb:TO≠i2
 ab:i1≠i2
 f1:∀c∈F1,c≠z/\c≠TO/\c≠i2
 f2:∀c∈F2,c≠z/\c≠TO/\c≠i1
section
variable {prog:bn}{w:bj}{A:ca}{E:ao->aq->Prop}{s:aq}{z TI TO i1 i2:Addr}{F1 F2:List Addr}{S1 sd S2 vq:cr->Prop}{R1 R2:ao->Prop}{a b:ao}
theorem iE {Q:ao->aq->Prop}(D:ZAp z TI TO i1 i2 F1 F2) (t1:FA F1 S1) (Y:FA F1 sd) (t2:FA F2 S2) (zf:FA F2 vq) (n1:NxI prog w A i1 S1 sd R1) (n2:NxI prog w A i2 S2 vq R2) (hz:gg s.heap z TI TO .none) (ye:dm s.heap TI (.ref i1) (.ref i2)) (zg:dm s.heap TO a b) (h1:S1 s.heap) (h2:S2 s.heap) (l1:∀h,sd h->i1 < h.objs.size) (l2:∀h,vq h->i2 < h.objs.size) (hQ:∀h' tk x y,R1 x->R2 y->gg h' z TI TO (dk s.heap.objs.size)->dm h' TO x y->sd h'->vq h'->dm h' s.heap.objs.size x y->h'.objs.size=s.heap.objs.size+1 ->(∀c o,c≠z->c≠TO->c≠i1->c≠i2->s.heap.get? c=al o->h'.get? c=al o)->Q (.ref s.heap.objs.size) { s with heap:=h',toks:=tk }) :
   wpAny (model prog w) A (Builtin.«zip.__next__» #[[.ref z],[]]) (λfin s'=>∃v,fin = .done (.ret v)/\Q v s') E s:=by
 show wpAny _ _ (ka (.ref z) 2 >>= _) _ _ _;refine zZ (bf hz rfl (x:=.bool aw) rfl ?_);show wpAny _ _ (ka (.ref z) 3 >>= _) _ _ _;refine zZ (bf hz rfl (x:=.ref TI) rfl ?_);refine zZ (c3 ye rfl ?_);show wpAny _ _ (a2V (.ref z) >>= _) _ _ _;refine zZ ?_;unfold a2V;refine zZ (bf hz rfl (x:=.none) rfl (zY ?_));simp only[if_true];refine zZ (db ?_);refine zZ (bf hz rfl (x:=.ref TO) rfl ?_);refine zZ (da hz (by simp) λg1 q T=>?_);replace q:gg g1 z TI TO .ellipsis:=q;refine zZ ?_;simp only[List.forIn_cons,List.forIn_nil,List.zipIdx_cons,List.zipIdx_nil];refine zZ (zZ (ft ?_));show wpAny _ _ (a1W (.ref i1) >>= _) _ _ _;refine zZ (n1 _ _ _ (t1 _ _ h1 λc hc o e=>T.extBut _ _ (D.f1 c hc).1 e) λg2 k2 x rx x2 B=>zY ?_);have M:dm g2 TO a b:=B.extBut _ _ D.ta (T.extBut _ _ D.tz zg);refine zZ (c3 M rfl ?_);refine zZ (kb M λg3 O n=>?_);replace O:dm g3 TO x b:=O;refine zZ (wpAny_letGo (zY ?_));refine zZ (zZ (ft ?_));show wpAny _ _ (a1W (.ref i2) >>= _) _ _ _;refine zZ (n2 _ _ _ (t2 _ _ h2 λc hc o e=>n.extBut _ _ (D.f2 c hc).2.1 (B.extBut _ _ (D.f2 c hc).2.2 (T.extBut _ _ (D.f2 c hc).1 e))) λg4 k4 y ry x4 i=>zY ?_);have G:dm g4 TO x b:=i.extBut _ _ D.tb O;refine zZ (c3 G rfl ?_);refine zZ (kb G λt r u=>?_);replace r:dm t TO x y:=r;refine zZ (wpAny_letGo (zY (zY ?_)));refine zZ (c3 r rfl ?_);refine zZ (wpAny_newTuple ?_);have hsz:t.objs.size=s.heap.objs.size:=by rw[u.1,i.1,n.1,B.1,T.1]
 have X:gg t z TI TO .ellipsis:=u.extBut _ _ D.tz.symm (i.extBut _ _ D.bz.symm (n.extBut _ _ D.tz.symm (B.extBut _ _ D.az.symm q)));have k5:∀c o,c≠z->c≠TO->c≠i1->c≠i2->s.heap.get? c=al o->t.get? c=al o:=λc o k Z f I e=>u.extBut _ _ Z (i.extBut _ _ I (n.extBut _ _ Z (B.extBut _ _ f (T.extBut _ _ k e))));have Lu:sd t:=Y _ _ x2 λc hc o e=>u.extBut _ _ (D.f1 c hc).2.1 (i.extBut _ _ (D.f1 c hc).2.2 (n.extBut _ _ (D.f1 c hc).2.1 e));have Lv:vq t:=zf _ _ x4 λc hc o e=>u.extBut _ _ (D.f2 c hc).2.1 e;have S:z < t.objs.size:=zM X;show wpAny _ _ (b7J (.ref z) (.ref t.objs.size) >>= _) _ _ _;refine zZ ?_;unfold b7J;have y6:gg (t.push { cls:=.type "tuple", data:=.seq (y9 [x,y]) }) z TI TO .ellipsis:=zW _ X;refine zZ (da y6 (by simp) λg7 N j=>?_);replace N:gg g7 z TI TO (dk t.objs.size):=N;refine da N (by simp) λL p g=>?_;replace p:gg L z TI TO (dk t.objs.size):=p;have m:∀c o,c≠z->t.get? c=al o->L.get? c=al o:=λc o k e=>g.extBut _ _ k (j.extBut _ _ k (zW _ e));have J:dm L t.objs.size x y:=g.extBut _ _ (a5W S) (j.extBut _ _ (a5W S) (yZ _ rfl));have U:L.objs.size=t.objs.size+1:=by rw[g.1,j.1,a9X]
 rw[hsz] at p J U;refine zY #[_,rfl,?_];show Q (.ref t.objs.size) _;rw[hsz];exact hQ L _ x y rx ry p (m _ _ D.tz r) (Y _ _ Lu λc hc o e=>m c o (D.f1 c hc).1 e) (zf _ _ Lv λc hc o e=>m c o (D.f2 c hc).1 e) J U λc o k Z f I e=>m c o k (k5 c o k Z f I e)
theorem iF (D:ZAp z TI TO i1 i2 F1 F2) (y:FA F1 S1) (n1:NxE prog w A i1 S1) (hz:gg s.heap z TI TO .none) (O:dm s.heap TI (.ref i1) (.ref i2)) (q:dm s.heap TO a b) (h1:S1 s.heap) (hE:∀h' e tk,(∀c o,c≠z->c≠TO->c≠i1->c≠i2->s.heap.get? c=al o->h'.get? c=al o)->(∃o,h'.get? e=al o/\o.cls = .type "StopIteration")->E (.ref e) { s with heap:=h',toks:=tk }) :
   wpAny (model prog w) A (Builtin.«zip.__next__» #[[.ref z],[]]) Q E s:=by
 show wpAny _ _ (ka (.ref z) 2 >>= _) _ _ _;refine zZ (bf hz rfl (x:=.bool aw) rfl ?_);show wpAny _ _ (ka (.ref z) 3 >>= _) _ _ _;refine zZ (bf hz rfl (x:=.ref TI) rfl ?_);refine zZ (c3 O rfl ?_);show wpAny _ _ (a2V (.ref z) >>= _) _ _ _;refine zZ ?_;unfold a2V;refine zZ (bf hz rfl (x:=.none) rfl (zY ?_));simp only[if_true];refine zZ (db ?_);refine zZ (bf hz rfl (x:=.ref TO) rfl ?_);refine zZ (da hz (by simp) λf t T=>?_);replace t:gg f z TI TO .ellipsis:=t;refine zZ ?_;simp only[List.forIn_cons,List.forIn_nil,List.zipIdx_cons,List.zipIdx_nil];refine zZ (zZ (ft ?_));show wpAny _ _ (a1W (.ref i1) >>= _) _ _ _;refine zZ (n1 _ _ _ (y _ _ h1 λc hc o e=>T.extBut _ _ (D.f1 c hc).1 e) λg e B he=>?_);obtain⟨j,n,i⟩:=he;have m:gg g z TI TO .ellipsis:=B _ _ D.az.symm t;have p:e≠z:=λx=>by subst x;rw[m] at n;cases n;simp at i
 exact da m (by simp) λh _ r=>hE h e _ (λc o k _ v _ x=>r.extBut _ _ k (B _ _ v (T.extBut _ _ k x))) #[j,r.extBut _ _ p n,i]
theorem iG (D:ZAp z TI TO i1 i2 F1 F2) (M:FA F1 S1) (G:FA F2 S2) (n1:NxI prog w A i1 S1 sd R1) (O:NxE prog w A i2 S2) (hz:gg s.heap z TI TO .none) (J:dm s.heap TI (.ref i1) (.ref i2)) (L:dm s.heap TO a b) (h1:S1 s.heap) (N:S2 s.heap) (hE:∀h' e tk,(∀c o,c≠z->c≠TO->c≠i1->c≠i2->s.heap.get? c=al o->h'.get? c=al o)->(∃o,h'.get? e=al o/\o.cls = .type "StopIteration")->E (.ref e) { s with heap:=h',toks:=tk }) :
   wpAny (model prog w) A (Builtin.«zip.__next__» #[[.ref z],[]]) Q E s:=by
 show wpAny _ _ (ka (.ref z) 2 >>= _) _ _ _;refine zZ (bf hz rfl (x:=.bool aw) rfl ?_);show wpAny _ _ (ka (.ref z) 3 >>= _) _ _ _;refine zZ (bf hz rfl (x:=.ref TI) rfl ?_);refine zZ (c3 J rfl ?_);show wpAny _ _ (a2V (.ref z) >>= _) _ _ _;refine zZ ?_;unfold a2V;refine zZ (bf hz rfl (x:=.none) rfl (zY ?_));simp only[if_true];refine zZ (db ?_);refine zZ (bf hz rfl (x:=.ref TO) rfl ?_);refine zZ (da hz (by simp) λh n T=>?_);replace n:gg h z TI TO .ellipsis:=n;refine zZ ?_;simp only[List.forIn_cons,List.forIn_nil,List.zipIdx_cons,List.zipIdx_nil];refine zZ (zZ (ft ?_));show wpAny _ _ (a1W (.ref i1) >>= _) _ _ _;refine zZ (n1 _ _ _ (M _ _ h1 λc hc o e=>T.extBut _ _ (D.f1 c hc).1 e) λj X x rx x2 B=>zY ?_);have m:dm j TO a b:=B.extBut _ _ D.ta (T.extBut _ _ D.tz L);refine zZ (c3 m rfl ?_);refine zZ (kb m λU Y t=>?_);refine zZ (wpAny_letGo (zY ?_));refine zZ (zZ (ft ?_));show wpAny _ _ (a1W (.ref i2) >>= _) _ _ _;refine zZ (O _ _ _ (G _ _ N λc hc o e=>t.extBut _ _ (D.f2 c hc).2.1 (B.extBut _ _ (D.f2 c hc).2.2 (T.extBut _ _ (D.f2 c hc).1 e))) λq e p he=>?_);obtain⟨S,i,r⟩:=he;have f:gg q z TI TO .ellipsis:=p _ _ D.bz.symm (t.extBut _ _ D.tz.symm (B.extBut _ _ D.az.symm n));have g:e≠z:=λx=>by subst x;rw[f] at i;cases i;simp at r
 exact da f (by simp) λy _ u=>hE y e _ (λc o k Z v I x=>u.extBut _ _ k (p _ _ I (t.extBut _ _ Z (B.extBut _ _ v (T.extBut _ _ k x))))) #[S,u.extBut _ _ g i,r]
theorem iH (D:ZAp z TI TO i1 i2 F1 F2) (u:FA F1 S1) (N:FA F1 sd) (v:FA F2 S2) (I:FA F2 vq) (n1:∀A:ca,NxI prog w A i1 S1 sd R1) (q:∀A:ca,NxI prog w A i2 S2 vq R2) (hz:gg s.heap z TI TO .none) (O:dm s.heap TI (.ref i1) (.ref i2)) (S:dm s.heap TO a b) (h1:S1 s.heap) (f:S2 s.heap) (g:∀h,sd h->i1 < h.objs.size) (k:∀h,vq h->i2 < h.objs.size) (T:∀h' tk x y,R1 x->R2 y->gg h' z TI TO (dk s.heap.objs.size)->dm h' TO x y->sd h'->vq h'->dm h' s.heap.objs.size x y->h'.objs.size=s.heap.objs.size+1 ->(∀c o,c≠z->c≠TO->c≠i1->c≠i2->s.heap.get? c=al o->h'.get? c=al o)->Q (al (.ref s.heap.objs.size)) { s with heap:=h',toks:=tk }) :
   wpAny (model prog w) A (pyNext (.ref z)) Q E s:=by
 have e:s.TypeIs (.ref z) "zip" := #[_,hz,rfl]
 unfold pyNext;exact zZ (wpAny_attempt (wpAny_callSpecial?_slot (name:=a0Q "__next__") e F.slot_zip_next (cb F.slot_zip_next e F.entry_zip_next (iE D u N v I (n1 _) (q _) hz O S h1 f g k λh' tk x y b1 j t n i X p r m=>zY (T h' tk x y b1 j t n i X p r m)) (F.args_zip_next_1 _))))
theorem iI (hh:A.handled=am) (hz:gg s.heap z TI TO .none) (h:∀(i:Fin->aq->Prop) (k:ao->aq->Prop),(∀h' e tk,(∀c o,c≠z->c≠TO->c≠i1->c≠i2->s.heap.get? c=al o->h'.get? c=al o)->(∃o,h'.get? e=al o/\o.cls = .type "StopIteration")->k (.ref e) { s with heap:=h',toks:=tk }) ->∀t:ca,t.handled=am->wpAny (model prog w) t (Builtin.«zip.__next__» #[[.ref z],[]]) i k s) (r:∀h' tk,(∀c o,c≠z->c≠TO->c≠i1->c≠i2->s.heap.get? c=al o->h'.get? c=al o)->Q am { s with heap:=h',toks:=tk }):wpAny (model prog w) A (pyNext (.ref z)) Q E s:=by
 have n:s.TypeIs (.ref z) "zip" := #[_,hz,rfl]
 unfold pyNext;refine zZ (wpAny_attempt (wpAny_callSpecial?_slot (name:=a0Q "__next__") n F.slot_zip_next (cb F.slot_zip_next n F.entry_zip_next (h _ _ (λh' e tk hk he=>?_) _ ?_) (F.args_zip_next_1 _))));. obtain⟨o,ho,hc⟩:=he;refine zZ (iu (T:= "StopIteration") (b:=ap) #[o,ho,hc] isSubtype_stop ?_);exact zY (r _ _ hk)
 . exact hh
end
end L2
namespace L2
open PySem PySem.Spec PyProof.Rows
section
variable {prog:bn}{w:bj}{A:ca}{E:ao->aq->Prop}{s:aq}
theorem nT (hx:x.cps[k]?=al c):NxI prog w A i (λh=>h.IsStrIter i "str_ascii_iterator" x t k) (λh=>h.IsStrIter i "str_ascii_iterator" x t (k+1)) (λv=>RelV (.str #[(y9 [c])]) v):=
 λs Q E hit T=>wpAny_nextOf_ascii_item hit hx λp a b=>T p _ _ #[_,rfl] a b
theorem iJ (hh:A.handled=am) (hx:x.cps[k]?=am):NxE prog w A i (λh=>h.IsStrIter i "str_ascii_iterator" x t k):=
 λs Q E hit hE=>wpAny_nextOf_ascii_end hh hit hx hE
theorem nU (e:t≠i) (hx:items[k]?=al y):NxI prog w A i (λh=>h.IsTupleIter i t k/\h.IsTuple t items) (λh=>h.IsTupleIter i t (k+1)/\h.IsTuple t items) (λv=>v=y):=λs Q E hS T=>by obtain⟨hit,u⟩:=hS;obtain⟨o,ho,hc,hd⟩:=id hit;obtain⟨p,U,r,m,n⟩:=id u;unfold a1W;refine zZ (wpAny_callSpecial?_slot (name:=a0Q "__next__") hit.typeIs a6Z (cb a6Z hit.typeIs b7V ?_ (b7Z _)));show wpAny _ _ (ka (.ref i) 0 >>= _) _ _ s;refine zZ (bf ho hd (x:=.ref t) rfl ?_);show wpAny _ _ (if (a0X t==a1X)=ap then _ else _) _ _ s;rw[if_neg (show ¬((a0X t==a1X)=ap) from nft)];show wpAny _ _ (ka (.ref i) 1 >>= _) _ _ s;refine zZ (bf ho hd (x:=.int k 0) rfl ?_);show wpAny _ _ (seqItems? (.ref t) >>= _) _ _ s;refine zZ (c3 U n ?_);simp only[a9V,hx];refine zZ (dl ho hd (by simp) (zY #[y,rfl,zY (T _ s.toks y rfl #[?_,u.extBut (b5V ..).extBut e] (b5V ..))]));exact#[_,a3Z _ ho (Obj.isFreed_of_fields (b1J hd _)),(Obj.cls_mapFields ..).trans hc,by rw[b1J hd];simp[dk]]
abbrev QH (v:ao) (o:cE) (Pre:cr->Prop):Prop:=∀(prog:bn) (w:bj) (A:ca) (E:ao->aq->Prop) (s:aq) (Q:ao->aq->Prop),Pre s.heap->Q (.ref s.heap.objs.size) { s with heap:=s.heap.push o }->wpAny (model prog w) A (pyIter v) Q E s
theorem iK (g:x.cps.all (· < 128)=ap):QH (.str x t) { cls:=.type "str_ascii_iterator", data:=.fields (y9 [.str x t,.int 0 0]) } (λ_=>True):=λprog w A E s Q _ T=>wpAny_pyIter_ascii g T
theorem vA :QH (.ref t) { cls:=.type "tuple_iterator", data:=.fields (y9 [.ref t,.int 0 0]) } (λh=>h.IsTuple t items):=λprog w A E s Q u T=>g5 u T
abbrev zH1 (h:cr) (e:cE):Heap:=h.push e
abbrev zH2 (h:cr) (e t:cE):Heap:=(zH1 h e).push t
abbrev zH3 (h:cr) (e t:cE):Heap:=(zH2 h e t).push { cls:=.type "tuple", data:=.seq (y9 [.ref h.objs.size,.ref (zH1 h e).objs.size]) }
abbrev zH4 (h:cr) (e t:cE):Heap:=(zH3 h e t).push { cls:=.type "tuple", data:=.seq (y9 [.none,.none]) }
abbrev zH5 (h:cr) (e t:cE):Heap:=(zH4 h e t).push { cls:=.type "zip", data:=.fields (y9 [.none,.bool aw,.bool aw,.ref (zH2 h e t).objs.size,.ref (zH3 h e t).objs.size]) }
theorem bL (n1:QH S t i) (m:QH r n e) (x:∀h o,e h->e (h.push o)) :
   Meets (Builtin.«zip.__new__» #[[.type "zip", S,r],[]]) (λ_ R s=>i s.heap/\e s.heap/\R (.ok (.ret (.ref (zH4 s.heap t n).objs.size))) { s with heap:=zH5 s.heap t n }):=
 .of_wp λprog w A R s h=>by
   obtain⟨hp,g,d,f,c⟩:=s;obtain⟨p,b,h⟩:=h;have I:=sub_zip;have Z:e (hp.push t):=x _ _ b
   wp_walk using n1 _ _ _ _ _ _ p,m _ _ _ _ _ _ Z
   exact#[_,rfl,h]
theorem iL (n1:QH S e p) (v:QH b t n) (q:∀h o,n h->n (h.push o)) (g:e.isFreed=aw) (k:t.isFreed=aw) (h1:p s.heap) (u:n s.heap) (h:∀h',gg h' (s.heap.objs.size+4) (s.heap.objs.size+2) (s.heap.objs.size+3) .none->dm h' (s.heap.objs.size+2) (.ref s.heap.objs.size) (.ref (s.heap.objs.size+1)) ->
     dm h' (s.heap.objs.size+3) .none .none->h'.get? s.heap.objs.size=al e->h'.get? (s.heap.objs.size+1)=al t->(∀c o,s.heap.get? c=al o->h'.get? c=al o)->Q (.ref (s.heap.objs.size+4)) { s with heap:=h' }) :
   wpAny (model prog w) A (call (.type "zip") [S,b]) Q E s:=by
 refine callType_new F.called_zip (by decide) (F.typeCall_zip_2 _ _) (F.newCall_zip_2 _ _) (λobj=>F.args_object_init_3 obj _ _) F.entry_zip_new (bL n1 v q) #[h1,u,?_];have z1:(zH1 s.heap e).objs.size=s.heap.objs.size+1:=a9X ..;have N:(zH2 s.heap e t).objs.size=s.heap.objs.size+2:=by rw[a9X,z1]
 have i:(zH3 s.heap e t).objs.size=s.heap.objs.size+3:=by rw[a9X,N]
 have B:(zH4 s.heap e t).objs.size=s.heap.objs.size+4:=by rw[a9X,i]
 have M:(zH5 s.heap e t).get? (zH4 s.heap e t).objs.size=al _:=yZ _ rfl;have m:(zH5 s.heap e t).get? (zH3 s.heap e t).objs.size=al _:=zW _ (yZ _ rfl);have r:(zH5 s.heap e t).get? (zH2 s.heap e t).objs.size=al _:=zW _ (zW _ (yZ _ rfl));have j:(zH5 s.heap e t).get? (zH1 s.heap e).objs.size=al t:=zW _ (zW _ (zW _ (yZ _ k)));have f:(zH5 s.heap e t).get? s.heap.objs.size=al e:=zW _ (zW _ (zW _ (zW _ (yZ _ g))));show _/\_;rw[N,i,B] at M;rw[z1,N] at r;rw[i] at m;rw[z1] at j;rw[B];exact#[#[_,M,rfl],h _ M r m f j λc o x=>zW _ (zW _ (zW _ (zW _ (zW _ x))))]
end
section
theorem QJ{X:Cx}{pins:List (Addr×cE)}{σ:St}{H:Hp}{s:aq} (I:Inv X pins σ H s) (M:MC X pins H z) (h:SqT X.K H a xs):a≠z:=by
 rintro rfl;rcases h with h | ⟨o,t,n,hk,_⟩
 . rcases h with h | ⟨i,h⟩ <;> rw[M.1] at h <;> cases h
 . have e:=I.ok.mod.kin a o hk;rcases M.2.2.2.1 with z | z;. exact I.ok.noex a o e z
   . exact absurd (zP (zM e) (zN I.ok.bsz z)) (yF _)
end
end L2
namespace L2
open PySem PySem.Spec PyProof.Rows
section
variable {X:Cx}
def A3m:R2:=λx y H Q=>(y = .non/\Q (.bl (decide (x = .non))) H)\/∃a b:Bool,x = .bl a/\y = .bl b/\Q (.bl (a==b)) H
theorem nV:OpR X (bq .Is) A3m:=by
 intro pins s t H x y v u Q I e Z h;rcases h with h | ⟨a,b,rfl,rfl,q⟩
 . exact A07 pins s t H x y v u Q I e Z h
 . cases e;cases Z;refine wpAny_is_plain rfl #[.bl (a==b),H,I,?_,q];cases a <;> cases b <;> rfl
def A0X:R2:=λx y H Q=>(y = .non/\Q (.bl (!decide (x = .non))) H)\/∃a b:Bool,x = .bl a/\y = .bl b/\Q (.bl (!(a==b))) H
theorem eL:OpR X (bq .IsNot) A0X:=by
 intro pins s t H x y v u Q I e Z h;rcases h with h | ⟨a,b,rfl,rfl,q⟩
 . exact tI pins s t H x y v u Q I e Z h
 . cases e;cases Z;refine wpAny_isNot_plain rfl #[.bl (!(a==b)),H,I,?_,q];cases a <;> cases b <;> rfl
end
end L2
namespace DL
open PySem PySem.Spec L2
section
variable {K:Frg}{ρ:List (Option DS)}{M:Own}{Q:DS->Own->Prop}{QI:List PyData->Own->Prop}
theorem PJ (q:Q (.d (.bool (DO d))) M):D2 K A3m (.d d) (.d .none) M Q:=F6 (A1t q)
theorem XY (q:Q (.d (.bool (!DO d))) M):D2 K A0X (.d d) (.d .none) M Q:=F6 (uV q)
def DPs (K:Frg) (r:List (TE×TE)) (ρ:List (Option DS)) (M:Own) (Q:List (Str×PyData)->Own->Prop):Prop:=∀(n:St) (H:Hp) (QQ:List (V×V)->Hp->Prop),Rel K M ρ n H->(∀e H' q i,OA K H' i->(∃t,DVs K H' i.W (q.map (·.2)) t/\e=(q.map λk=>V.str k.1).zip t)->Step K M i H H'->Q q i->QQ e H')->V2 r n H QQ
theorem vB {Q:List (Str×PyData)->Own->Prop}(h:Q [] M):DPs K [] ρ M Q:=λe H QQ R k=>k [] H [] M R.own #[[],DVs.nil,rfl] Step.refl h
theorem XZ {Q:List (Str×PyData)->Own->Prop}(h:DE K tk ρ M λx M1=>∃k,x = .d (.str k)/\DE K b ρ M1 λy m=>∃d,y = .d d/\DPs K p ρ m λt e=>Q ((k,d)::t) e):DPs K ((tk,b)::p) ρ M Q:=λr H QQ R S=>
 h r H _ R λv f x M1 T I i h1=>by obtain⟨k,rfl,h1⟩:=h1;refine h1 r f _ (R.step T i) λu g y m N D c n=>?_;obtain⟨d,rfl,n⟩:=n;refine n r g _ (R.step N (i.trans c)) ?_;rintro L j t e O ⟨J,B,z⟩ G q;refine S _ j ((k,d)::t) e O #[u::J,DVs.cons (DV.grow G.grow D) B,?_] ((i.trans c).trans G) q;rw[BD I,z];rfl
theorem OL:∀(kvs acc:List (Key×V)),((acc++kvs).map (·.1)).Nodup->J0 acc kvs=acc++kvs
 | [],acc,_=>by simp[J0]
 | kv::r,acc,h=>by
   have h1:(acc.any λx=>decide (x.1=kv.1))=false:=by rw[List.any_eq_false];intro x hx;rw[xI,List.nodup_append] at h;have:=h.2.2 x.1 (zL.mpr #[x,hx,rfl]) kv.1 (by simp);simpa using this
   show J0 (EQ acc kv.1 kv.2) r=_;have e:EQ acc kv.1 kv.2=acc++[kv]:=by unfold EQ;rw[h1];rfl
   rw[e,OL r (acc++[kv]) (by rw[List.append_assoc];exact h)];simp
theorem nW :∀{q:List (Str×PyData)}{vs:List V},DVs K H W (q.map (·.2)) vs->DKV K H W (q.map λk=>(.str k.1,k.2)) ((q.map λk=>(a1Z k.1:Key)).zip vs)
 | [],vs,h=>by unfold DKV;rfl
 | (k,d)::r,vs,h=>by rw[zI] at h;unfold DVs at h;obtain⟨v,L,rfl,h1,e⟩:=h;rw[zI];unfold DKV;exact#[a1Z k,v,_,rfl,rfl,h1,nW e]
theorem Y0:∀(q:List (Str×PyData)) (vs:List V),vs.length=q.length->(q.map λk=>V.str k.1).zip vs=((q.map λk=>(a1Z k.1:Key)).zip vs).map λkv=>(kV kv.1,kv.2)
 | [],vs,_=>by simp
 | a::r,[],h=>by cases h
 | a::r,v::vs,h=>by rw[zI,zI,a9Q,a9Q,zI,Y0 r vs (by simpa using h)];rfl
end
end DL
namespace L2
open PySem PySem.Spec PyProof.Rows
section
theorem Y1 (t:l≠it):∀(n i:Nat) (s:aq) (Q:List ao->aq->Prop),s.heap.IsListIter it l i->s.heap.IsList l e->i+n<=e.size ->(∀h',h'.IsListIter it l (i+n)->Heap.SameBut it s.heap h'->Q ((e.toList.drop i).take n) { s with heap:=h' })->wpAny (model prog w) A (draw (.ref it) n) Q E s
 | 0,i,s,Q,hit,_,_,T=>by show wpAny _ _ (pure []) Q E s;exact zY (by simpa using T s.heap hit (Heap.SameBut.refl ..))
 | n+1,i,s,Q,hit,r,hle,T=>by
   have D:i < e.size:=by lia
   show wpAny _ _ (pyNext (.ref it) >>= _) Q E s;refine zZ (wpAny_pyNext_list_item hit r (x:=e[i]) (by simp[D]) λb y m=>?_);refine zZ (bt (Y1 t n (i+1) _ _ y (r.extBut m.extBut t) (by lia) λp c B=>zY ?_));have hd:e.toList.drop i=e[i]::e.toList.drop (i+1):=by simp[List.drop_eq_getElem_cons,D]
   have J:=T p (by rw[show i+(n+1)=i+1+n by lia];exact c) (m.trans B);rw[hd,List.take_succ_cons] at J;exact J
theorem bM (hh:A.handled=am) (r:s.heap.IsList l t) (m:∀h',Heap.ExtBut s.heap.objs.size s.heap h'->Q t.toList { s with heap:=h' }):wpAny (model prog w) A (unpackItems (.ref l) t.size am) Q E s:=by
 have n:l≠s.heap.objs.size:=by obtain⟨o,ho,_⟩:=r;exact zC (zM ho)
 unfold unpackItems;refine zZ ?_;unfold notIterableAtAll;refine zZ (ji r.typeIs F.slot_list_iter.lookup ?_);refine zY ?_;simp only[b4K,if_false];refine zZ (bt (h7 r ?_));refine zZ (bt (Y1 n t.size 0 _ _ #[_,yZ _ rfl,rfl,rfl] (r.push _) (by lia) λp y T=>?_));rw[show List.take t.size (List.drop 0 t.toList)=t.toList by rw[List.drop_zero];exact b5K (by simp),if_neg (by simp)];refine zZ (bt (wpAny_pyNext_list_end hh y ((r.push _).extBut T.extBut n) (by simp) λi j=>?_));simp only[Option.isSome_none,b4K,if_false];exact zY (m i λb o hb e=>j b o hb (T.extBut b o hb (zW _ e)))
end
section
def nX (K:Frg) (n:Nat) (t:TGs):TG:=λv i H Q=>∃a e,v = .ref a/\(SqT K H a e\/SqL K H a e)/\e.length=n/\t e i H Q
theorem vC{X:Cx}{pos:ew} {es:List bp}{k:Nat}{t:TGs}{n:Nat}(hc:X.calm=ap) (h:PGs X es t) (hn:(dc es X.env).length=n:=by rfl) (B:(dc es X.env).findIdx? (·.1)=none:=by rfl):PG X (.Tuple es k pos) (nX X.K n t):=by
 intro pins s m H v u Q I r i;obtain⟨a,g,p,hq,c,i⟩:=i;rcases hq with hq | hq;. exact lD hc h hn B pins s m H v u Q I r #[a,g,p,hq,c,i]
 . subst p;cases r;obtain⟨j,f,x,y⟩:=I.list hq;rw[arm_assign_Tuple];refine zZ (bv ?_);unfold unpack;rw[show(dc es X.env).length=j.toArray.size by simp[hn,<-c,f.length],B];refine zZ (bt (bM (I.ok.hd hc) x.isList λq hx=>?_));have G:Inv X pins m H { s with heap:=q }:=I.kept (t':=s.toks) λb o e=>hx b o (zC (zM e)) e;exact h pins _ m H g _ Q G (by simpa using f) i
end
end L2
namespace DL
open PySem PySem.Spec L2
theorem A0Y {X:Cx}{K:Frg}{pos:ew}{es:List bp}{k:Nat}{t:TGs}{n:Nat}(hK:X.K=K) (hc:X.calm=ap) (h:PGs X es t) (hn:(dc es X.env).length=n:=by rfl) (B:(dc es X.env).findIdx? (·.1)=none:=by rfl):PG X (.Tuple es k pos) (nX K n t):=hK▸vC hc h hn B
section
theorem vD (hn:ds.length=n) (h:DGs K g ds ρ M P):DG K (nX K n g) (.tuple ds) ρ M P:=λt H v QQ R z k=>by unfold DV at z;obtain⟨a,e,rfl,r,hd⟩:=z;exact#[a,e,rfl,.inl r.sq,by rw[hd.length];exact hn,h t H e QQ R hd k]
end
end DL
namespace L2
open PySem PySem.Spec PyProof.Rows PySem.W
section
variable {n:Nat}{lt:Nat->Nat->Bool}
def Good (n:Nat) (lt:Nat->Nat->Bool) {e:Type}(P:e->Prop):KasT e->Prop
 | .ret a=>P a
 | .ask i j k=>i < n/\j < n/\i≠j/\Good n lt P (k (lt i j))
theorem Good.mono {P:e->Prop}(h:∀a,P a->Q a):∀{t:KasT e},Good n lt P t->Good n lt Q t
 | .ret _,g=>h _ g
 | .ask _ _ _,#[a,b,c,g]=>#[a,b,c,Good.mono h g]
theorem Good.bind {P:i->Prop}:∀{t:KasT e},Good n lt (λa=>Good n lt P (f a)) t->Good n lt P (t.bind f)
 | .ret _,g=>g
 | .ask _ _ _,#[a,b,c,g]=>#[a,b,c,Good.bind g]
theorem Good.wp {P:e->Prop} (hc:∀i j (C:Bool->aq->Prop),i < n->j < n->i≠j->C (lt i j) s->cmp i j C s) (hq:∀a,P a->Q a s):∀{t:KasT e},Good n lt P t->t.kasWp cmp Q s
 | .ret a,g=>hq a g
 | .ask i j k,#[a,b,c,g]=>hc i j _ a b c (Good.wp hc hq g)
structure Strict (n:Nat) (lt:Nat->Nat->Bool):Prop where
 irr:∀i,lt i i=aw
 tr:∀i j k,lt i j=ap->lt j k=ap->lt i k=ap
 tot:∀i j,i < n->j < n->i≠j->lt i j=ap\/lt j i=ap
def Pm (n:Nat) (p:Array Nat):Prop:=p.toList.Perm (a2Q n)
theorem Pm.size (h:Pm n p):p.size=n:=by have:=h.length_eq;simpa using this
theorem Pm.bel (h:Pm n p) (hi:i < n):p.getD i 0 < n:=by
 have hs:i < p.size:=by rw[h.size];exact hi
 have:p[i]∈a2Q n:=h.mem_iff.mp (by simp);simp only[Array.getD,hs,dite_true];exact List.mem_range.mp this
theorem A1y {l:List Nat}(nd:l.Nodup) {i j:Nat}{hi:i < l.length}{t:j < l.length}(e:l[i]=l[j]):i=j:=by
 rcases b8W i j with h | h | h;. exact absurd e (List.pairwise_iff_getElem.mp nd i j hi t h)
 . exact h
 . exact absurd e.symm (List.pairwise_iff_getElem.mp nd j i t hi h)
theorem Pm.inj (h:Pm n p) (hi:i < n) (m:j < n) (r:i≠j):p.getD i 0≠p.getD j 0:=by
 have c:i < p.size:=by rw[h.size];exact hi
 have t:j < p.size:=by rw[h.size];exact m
 simp only[Array.getD,c,t,dite_true];have nd:p.toList.Nodup:=h.nodup_iff.mpr List.nodup_range;intro e;have e':p.toList[i]'(by simpa using c)=p.toList[j]'(by simpa using t):=by simpa using e
 exact r (A1y nd e')
def Up (lt:Nat->Nat->Bool) (p:Array Nat) (k:Nat):Prop:=∀i j,i < j->j < k->lt (p.getD i 0) (p.getD j 0)=ap
def Dn (lt:Nat->Nat->Bool) (p:Array Nat) (k:Nat):Prop:=∀i j,i < j->j < k->lt (p.getD j 0) (p.getD i 0)=ap
theorem QK (S:Strict n lt) (hp:Pm n p):∀(f m:Nat),1<=m->m+f<=n->Up lt p m ->
   Good n lt (λr=>m<=r/\r<=m+f/\Up lt p r/\(r=m+f\/lt (p.getD r 0) (p.getD (r - 1) 0)=ap)) (kas_asc p f m)
 | 0,m,h1,g,J=>#[zR _,zR _,J,.inl rfl]
 | f+1,m,h1,g,J=>by
   unfold kas_asc;refine#[hp.bel (by lia),hp.bel (by lia),hp.inj (by lia) (by lia) (by lia),?_];cases hc:lt (p.getD m 0) (p.getD (m - 1) 0) with
   | true=>exact#[zR _,by lia,J,.inr hc]
   | false=>
     have D:lt (p.getD (m - 1) 0) (p.getD m 0)=true:=(S.tot _ _ (hp.bel (by lia)) (hp.bel (by lia)) (hp.inj (i:=m - 1) (j:=m) (by lia) (by lia) (by lia))).elim id λz=>by rw[hc] at z;cases z
     dsimp only;rw[if_neg nft];refine(QK S hp f (m+1) (by lia) (by lia) λi j t h=>?_).mono (by rintro r ⟨a,b,c,d⟩;exact#[by lia,by lia,c,d.elim (λz=>.inl (by lia)) .inr]);by_cases hjm:j < m;. exact J i j t hjm
     . have e:j=m:=by lia
       subst e;by_cases hi:i=j - 1;. subst hi;exact D
       . exact S.tr _ _ _ (J i (j - 1) (by lia) (by lia)) D
theorem U3 (S:Strict n lt) (hp:Pm n p):∀(f m:Nat),1<=m->m+f<=n->Dn lt p m ->
   Good n lt (λr=>r.1=p/\r.2.2=0/\m<=r.2.1/\r.2.1<=m+f/\Dn lt p r.2.1) (kas_desc f p m 0)
 | 0,m,h1,g,J=>#[rfl,rfl,zR _,zR _,J]
 | f+1,m,h1,g,J=>by
   unfold kas_desc;refine#[hp.bel (by lia),hp.bel (by lia),hp.inj (by lia) (by lia) (by lia),?_];cases hc:lt (p.getD m 0) (p.getD (m - 1) 0) with
   | true=>
     dsimp only;rw[if_pos rfl,if_neg (yF 0)];refine(U3 S hp f (m+1) (by lia) (by lia) λi j t h=>?_).mono (by rintro r ⟨a,b,c,d,e⟩;exact#[a,b,by lia,by lia,e]);by_cases hjm:j < m;. exact J i j t hjm
     . have e:j=m:=by lia
       subst e;by_cases hi:i=j - 1;. subst hi;exact hc
       . exact S.tr _ _ _ hc (J i (j - 1) (by lia) (by lia))
   | false=>
     have D:lt (p.getD (m - 1) 0) (p.getD m 0)=true:=(S.tot _ _ (hp.bel (by lia)) (hp.bel (by lia)) (hp.inj (i:=m - 1) (j:=m) (by lia) (by lia) (by lia))).elim id λz=>by rw[hc] at z;cases z
     dsimp only;rw[if_neg nft];refine#[hp.bel (by lia),hp.bel (by lia),hp.inj (by lia) (by lia) (by lia),?_];dsimp only;rw[D,if_pos rfl];exact#[rfl,rfl,zR _,(show m<=_ by lia),J]
theorem PK {e:Type}{xs ys:Array e}{i j:Nat}{d:e}(h:xs[i]?=ys[j]?):xs.getD i d=ys.getD j d:=by rw[b6J,b6J,h]
theorem nY (hp:Pm n p) (i j:Nat):Pm n (kas_rev p i j):=(Array.perm_iff_toList_perm.mp (mirror_perm _ _ _ _)).trans hp
theorem bN (S:Strict n lt) (hp:Pm n p) (h1:1<=m) (t:m<=n) (J:Dn lt p m) :
   Good n lt (λr=>1<=r.1/\r.1<=n/\Pm n r.2/\Up lt r.2 r.1) (kas_tail3 m n p):=by
 unfold kas_tail3;refine Good.bind ((QK S (nY hp 0 m) (n - m) m h1 (by lia) λi j f g=>?_).mono (by rintro r ⟨a,b,c,_⟩;exact#[by lia,by lia,nY hp 0 m,c]));have q:m<=p.size:=by rw[hp.size];exact t
 have e:∀k,k < m->(kas_rev p 0 m).getD k 0=p.getD (m - 1 - k) 0:=λk hk=>by refine PK ?_;unfold kas_rev;rw[getElem?_mirror_all (i:=0) q k,if_pos #[xT _,hk],Nat.zero_add]
 rw[e i (by lia),e j (by lia)];exact J _ _ (by lia) (by lia)
theorem SS (S:Strict n lt) (hp:Pm n p) (t:m+1<=n) (J:Dn lt p (m+1)) :
   Good n lt (λr=>1<=r.1/\r.1<=n/\Pm n r.2/\Up lt r.2 r.1) (kas_descPart m n p):=by unfold kas_descPart;refine Good.bind ((U3 S hp (n - (m+1)) (m+1) (by lia) (by lia) J).mono λr G=>?_);obtain⟨a,b,c,d,e⟩:=G;rw[b,if_neg (yF 0),a];exact bN S hp (by lia) (by lia) e
theorem bO (S:Strict n lt) (hp:Pm n p) (g:1<=n) :
   Good n lt (λr=>1<=r.1/\r.1<=n/\Pm n r.2/\Up lt r.2 r.1) (kas_count n p):=by
 unfold kas_count;refine Good.bind ((QK S hp (n - 1) 1 (zR _) (by lia) λi j t f=>by lia).mono λr G=>?_);obtain⟨a,b,c,d⟩:=G;by_cases hr:r=n;. subst hr;rw[if_pos (by simp)];exact#[a,zR _,hp,c]
 . rw[if_neg (by simpa using hr)];have D:lt (p.getD r 0) (p.getD (r - 1) 0)=true:=d.resolve_left (by lia);by_cases h1:r > 1;. rw[if_pos h1];refine#[hp.bel (by lia),hp.bel (by lia),hp.inj (by lia) (by lia) (by lia),?_];dsimp only;rw[c 0 (r - 1) (by lia) (by lia),if_pos rfl];exact#[a,by lia,hp,c]
   . rw[if_neg h1];have e:r=1:=by lia
     subst e;refine SS S hp (by lia) λi j t f=>?_;have h:i=0:=by lia
     have m:j=1:=by lia
     subst h m;exact D
theorem LG (S:Strict n lt) (hp:Pm n p) (hk:k < n) (hu:Up lt p k):∀(f l r:Nat),l<=r->r<=k->r - l<=f ->(∀i,i < l->lt (p.getD i 0) (p.getD k 0)=ap)->(∀i,r<=i->i < k->lt (p.getD k 0) (p.getD i 0)=ap) ->
   Good n lt (λx=>x<=k/\(∀i,i < x->lt (p.getD i 0) (p.getD k 0)=ap)/\∀i,x<=i->i < k->lt (p.getD k 0) (p.getD i 0)=ap) (kas_place p k f l r)
 | 0,l,r,h1,c,v,J,u=>by unfold kas_place;exact#[by lia,J,λi hi X=>u i (by lia) X]
 | f+1,l,r,h1,c,v,J,u=>by
   unfold kas_place;by_cases hge:l≥r;. rw[if_pos hge];exact#[by lia,J,λi hi X=>u i (by lia) X]
   . rw[if_neg hge];have g:l<=(l+r)/2/\(l+r)/2 < r:=by lia
     generalize (l+r)/2=m at g ⊢;obtain⟨q,h⟩:=g;have b:m < k:=zP h c;have t:m < n:=xQ b hk;refine#[hp.bel hk,hp.bel t,hp.inj hk t (a5W b),?_];cases hc:lt (p.getD k 0) (p.getD m 0) with
     | true=>
       dsimp only;rw[if_pos rfl];refine LG S hp hk hu f l m q (xR b) (by lia) J λi hi X=>?_;by_cases e:i=m;. subst e;exact hc
       . exact S.tr _ _ _ hc (hu _ _ (Nat.lt_of_le_of_ne hi (a4Z e)) X)
     | false=>
       dsimp only;rw[if_neg nft];have D:lt (p.getD m 0) (p.getD k 0)=true:=(S.tot _ _ (hp.bel t) (hp.bel hk) (hp.inj (i:=m) (j:=k) t hk (zC b))).elim id λz=>by rw[hc] at z;cases z
       refine LG S hp hk hu f (m+1) r h c (by lia) (λi hi=>?_) u;by_cases e:i=m;. subst e;exact D
       . exact S.tr _ _ _ (hu _ _ (by lia) (by lia)) D
theorem Y2 (S:Strict n lt):∀(f:Nat) {p:Array Nat}{k:Nat},Pm n p->k+f=n->Up lt p k->Good n lt (λq=>Pm n q/\Up lt q n) (kas_bin f p k)
 | 0,p,k,hp,h1,h=>by
   have e:k=n:=by lia
   subst e;exact#[hp,h]
 | f+1,p,k,hp,h1,h=>by
   unfold kas_bin;refine Good.bind ((LG S hp (by lia) h k 0 k (xT _) (zR _) (by lia) (λi hi=>by lia) λi hi hk=>by lia).mono λx O=>?_);obtain⟨hx,a,b⟩:=O;have I:k < p.size:=by rw[hp.size];lia
   refine Y2 S f ((Array.perm_iff_toList_perm.mp (bubble_perm _ _ _)).trans hp) (by lia) λi j r M=>?_;have e:∀q,(bubble p k (k - x)).getD q 0=if q=x then p.getD k 0 else if x < q/\q<=k then p.getD (q - 1) 0 else p.getD q 0:=λq=>by
     have:=getElem?_bubble I (k - x) (by lia) q;rw[show k - (k - x)=x by lia] at this;by_cases N:q=x;. rw[if_pos N] at this ⊢;exact PK this
     . rw[if_neg N] at this ⊢;by_cases Z:x < q/\q<=k;. rw[if_pos Z] at this ⊢;exact PK this
       . rw[if_neg Z] at this ⊢;exact PK this
   obtain⟨g,hg⟩:∃g:Nat->Nat,∀i,p.getD i 0=g i:=#[_,λ_=>rfl]
   have T:∀i j,i < j->j < k->lt (g i) (g j)=true:=λi j x y=>by rw[<-hg,<-hg];exact h i j x y
   rw[e,e];simp only[hg] at a b ⊢;clear e;rcases b8W j x with hj' | hj' | hj';. have hi':i < x:=xQ r hj';rw[if_neg (zC hi'),if_neg (λz=>Nat.lt_asymm z.1 hi'),if_neg (zC hj'),if_neg (λz=>Nat.lt_asymm z.1 hj')];exact T _ _ r (zP hj' hx)
   . subst hj';rw[if_neg (zC r),if_neg (λz=>Nat.lt_asymm z.1 r),if_pos rfl];exact a _ r
   . obtain⟨t,rfl⟩:∃t,j=t+1:=#[j - 1,by lia]
     have Y:t < k:=Nat.lt_of_succ_le (Nat.le_of_lt_succ M);have v:x<=t:=Nat.le_of_lt_succ hj';rw[if_neg (a5W hj') (c:=t+1=x),if_pos (c:=x < t+1/\t+1<=k) #[hj',Y],Nat.add_sub_cancel];rcases b8W i x with hi' | hi' | hi';. rw[if_neg (zC hi'),if_neg (λz=>Nat.lt_asymm z.1 hi')];exact T _ _ (zP hi' v) Y
     . rw[if_pos hi'];exact b _ v Y
     . obtain⟨m,rfl⟩:∃m,i=m+1:=#[i - 1,by lia]
       have u:m < t:=Nat.lt_of_succ_lt_succ r;rw[if_neg (a5W hi'),if_pos (c:=x < m+1/\m+1<=k) #[hi',xQ u Y],Nat.add_sub_cancel];exact T _ _ u Y
theorem iM (S:Strict n lt) (h1:1<=n):Good n lt (λq=>Pm n q/\Up lt q n) (kas_sort n):=by
 unfold kas_sort;refine Good.bind ((bO S (show Pm n _ from .refl _) h1).mono λr t=>?_);obtain⟨a,b,c,d⟩:=t;have e:max r.1 1=r.1:=by lia
 rw[e];by_cases hr:r.1 < n;. rw[if_pos hr];exact Y2 S _ c (by lia) d
 . rw[if_neg hr];have e:r.1=n:=by lia
   rw[e] at d;exact#[c,d]
end
end L2
namespace L2
open PySem PySem.Spec PyProof.Rows PySem.W
def TupsN (h:cr) (vs:List ao) (ns:List Str):Prop:=
 vs.length=ns.length/\∀(i:Nat) (v:ao) (T:Str),vs[i]?=al v->ns[i]?=al T->∃(a:Addr) (o:cE) (e:Array ao) (k:Nat) (t:Tok),v=a0X a/\h.get? a=al o/\o.cls = .type "tuple" /\ o.data = .seq e k/\e[0]?=al (.str T t)
theorem TupsN.keep (t:TupsN h vs ns) (hk:∀b o,o.cls = .type "tuple" -> h.get? b=al o->h'.get? b=al o):TupsN h' vs ns:=#[t.1,λi v T e j=>let #[a,o,m,k,Y,h1,n,J,r,u]:=t.2 i v T e j;#[a,o,m,k,Y,h1,hk a o J n,J,r,u]]
theorem TupsN.kat :∀{vs:List ao}{ns:List Str},TupsN h vs ns->∃fs,KatTups h vs fs/\fs.length=ns.length/\∀v∈fs,∃x t,v=c0J x t
 | [],[],_=>#[[],trivial,rfl,λv S=>nomatch S]
 | [],_::_,t=>by have:=t.1;simp at this
 | _::_,[],t=>by have:=t.1;simp at this
 | v::vs,T::ns,t=>by obtain⟨a,o,c,k,Y,rfl,r,J,m,u⟩:=t.2 0 v T rfl rfl;obtain⟨fs,p,B,b⟩:=TupsN.kat (vs:=vs) (ns:=ns) #[by have:=t.1;simpa using this,λi v T n j=>t.2 (i+1) v T (by simpa using n) (by simpa using j)];exact#[_,KatTups.cons r J m u p,by simp[B],λv S=>(yX.mp S).elim (λe=>#[_,_,e]) (b v)]
section
theorem nZ (t:TupsN s.heap vs ns) (nd:ns.Nodup) (hi:i < ns.length) (n:j < ns.length) (D:i≠j) (h:C (decide ((ns.getD i "").cps.toList < (ns.getD j "").cps.toList)) s) :
   kas_ask prog w A (tuples' ap) vs i j C s:=by
 unfold kas_ask;have X:=t.1;have f:vs[i]?=al (vs.getD i a1X):=by rw[yU,zV (by lia)];rfl
 have g:vs[j]?=al (vs.getD j a1X):=by rw[yU,zV (by lia)];rfl
 have B:ns[i]?=al (ns.getD i ""):=by rw[yU,zV hi];rfl
 have G:ns[j]?=al (ns.getD j ""):=by rw[yU,zV n];rfl
 have O:ns.getD i "" ≠ ns.getD j "" := λe=>by
   rw[yU,yU,zV hi,zV n] at e;rcases Nat.lt_or_gt_of_ne D with q | q;. exact List.pairwise_iff_getElem.mp nd i j hi n q e
   . exact List.pairwise_iff_getElem.mp nd j i n hi q e.symm
 generalize vs.getD i a1X=v at f ⊢;generalize vs.getD j a1X=u at g ⊢;obtain⟨a,o,p,k,y,rfl,z,J,U,T⟩:=t.2 i v _ f B;obtain⟨b,Z,c,Y,x,rfl,I,L,S,M⟩:=t.2 j u _ g G;refine kat_lt z U I S ?_;have N:p.toList[0]?=al (.str (ns.getD i "") y):=by rw[b1W];exact T
 have m:c.toList[0]?=al (.str (ns.getD j "") x):=by rw[b1W];exact M
 obtain⟨xr,hx⟩:∃r,p.toList = .str (ns.getD i "") y::r:=by
   cases Q:p.toList with
   | nil=>rw[Q] at N;cases N
   | cons q r=>rw[Q] at N;cases N;exact#[r,rfl]
 obtain⟨yr,hy⟩:∃r,c.toList = .str (ns.getD j "") x::r:=by
   cases Q:c.toList with
   | nil=>rw[Q] at m;cases m
   | cons q r=>rw[Q] at m;cases m;exact#[r,rfl]
 rw[hx,hy,a9Q];refine kat_cons (wpAny_eqBool_str ?_);rw[decide_eq_false O];refine kat_no ?_;show wpAny (model prog w) A (oneLt' ap _ _) C (λ_ _=>False) s;exact oneLt_str h
theorem QM (ho:s.heap.get? a=al (cz "list" vs.toArray n)) (t:TupsN s.heap vs ns) (nd:ns.Nodup) (X:vs.length < 64) (h:∀p:List Nat,p.Perm (a2Q vs.length)->(∀i j,i < j->j < vs.length->(ns.getD (p.getD i 0) "").cps.toList < (ns.getD (p.getD j 0) "").cps.toList) ->
     P (.done (.ret .none)) { s with heap:=sortedHeap s.heap a vs (p.map λi=>vs.getD i a1X).toArray }) :
   wpAny (model prog w) A (Builtin.«list.sort» #[[.ref a],[]]) P E s:=by
 have ha:a < s.heap.objs.size:=zM ho;rw[list_sort_plain];refine zZ (listItems_at ho rfl ?_);refine zZ (listUpdate_at ho rfl ?_ (by rw[zJ,c0];lia) (xT _));obtain⟨N,O⟩:∃N,(s.heap.update a (a7Z λ_=>(#[]:Array ao))).get? a=al (cz "list" #[] N):=#[_,get?_update_seq ho (λ_=>#[])]
 refine zZ (seqEpoch_at O rfl (zZ (wpAny_newTuple ?_ (by show vs.length<=_;rw[c0];lia))));refine zZ (io (bt ?_) (xT _));have hsz:vs.toArray.size=vs.length:=zJ ..;have D:∀b o,o.cls = .type "tuple" -> s.heap.get? b=al o->(((s.heap.update a (a7Z λ_=>(#[]:Array ao))).push (cz "tuple" vs.toArray 0)).push (cz "list" #[] 0)).get? b=al o:=λb o hc q=>by
   have hb:b≠a:=λe=>by subst e;rw[ho] at q;cases q;exact absurd hc (show ¬(Value.type "list"=Value.type "tuple") by decide)
   refine zW _ (zW _ ?_);rw[yB _ _ _ _ hb];exact q
 have f:(((s.heap.update a (a7Z λ_=>(#[]:Array ao))).push (cz "tuple" vs.toArray 0)).push (cz "list" #[] 0)).get? a=al (cz "list" #[] N):=zW _ (zW _ O);show wpAny (model prog w) A _ P E { s with heap:=((s.heap.update a (a7Z λ_=>(#[]:Array ao))).push (cz "tuple" vs.toArray 0)).push (cz "list" #[] 0) };dsimp only;by_cases g:vs.toArray.size < 2
 . rw[if_pos g,if_pos g];refine zZ (zY ?_);rw[StateT.run_pure];refine zZ (zY (zZ (seqEpoch_at f rfl ?_)));have Y:(arrOf (SortSt.mk' general' (vs.toArray.zip vs.toArray) #[] 7 am)).map (·.2)=vs.toArray:=by show(vs.toArray.zip vs.toArray).map (·.2)=vs.toArray;apply Array.toList_inj.mp;rw[Array.toList_map,Array.toList_zip];exact List.map_snd_zip (zR _)
   rw[Y];refine zZ (listUpdate_at f rfl ?_ (xT _) (by rw[zJ,c0];lia));simp only[bne_self_eq_false,b4K,if_false];have:=h (a2Q vs.length) (.refl _) (λi j r m=>by lia);have Z:(a2Q vs.length).map (λi=>vs.getD i a1X)=vs:=by
     apply a9W;intro i;rw[zF];by_cases hi:i < vs.length;. rw[xZ hi];simp[hi]
     . rw[a4J (by simp;lia),a4J (by lia)];rfl
   rw[Z] at this;exact zY this
 . rw[if_neg g,if_neg g];have zi:2<=vs.length:=by lia
   have M:=t.keep D;obtain⟨fs,q1,q2,q3⟩:=M.kat;refine zZ (kat_kind (T:=.type "str") q1 (by have:=t.1;lia) (λv hv=>?_) rfl ?_);. obtain⟨x,tt,rfl⟩:=q3 v hv;exact Looks.of_pure rfl
   have hn:vs.length=ns.length:=t.1;have S:Strict vs.length (λi j=>decide (i < vs.length)&&(decide (j < vs.length)&&decide ((ns.getD i "").cps.toList < (ns.getD j "").cps.toList))):=by
     refine#[λi=>?_,λi j k a b=>?_,λi j hi m r=>?_];. simp[List.lt_irrefl]
     . simp only[a0V,decide_eq_true_eq] at a b ⊢;exact#[a.1,b.2.1,List.lt_trans a.2.2 b.2.2]
     . simp only[a0V,decide_eq_true_eq,hi,m,true_and];have L:(ns.getD i "").cps.toList≠(ns.getD j "").cps.toList:=λe=>by
         have e':ns.getD i ""=ns.getD j "" := by generalize ns.getD i ""=x at e;generalize ns.getD j ""=y at e;obtain⟨⟨x⟩⟩:=x;obtain⟨⟨y⟩⟩:=y;simp at e;rw[e]
         rw[yU,yU,zV (by lia),zV (by lia)] at e';rcases Nat.lt_or_gt_of_ne r with q | q;. exact List.pairwise_iff_getElem.mp nd i j (by lia) (by lia) q e'
         . exact List.pairwise_iff_getElem.mp nd j i (by lia) (by lia) q e'.symm
       by_cases c:(ns.getD i "").cps.toList < (ns.getD j "").cps.toList;. exact .inl c
       . refine .inr ?_;rcases List.le_iff_lt_or_eq.mp (List.not_lt.mp c) with z | z;. exact z
         . exact absurd z.symm L
   refine zZ (bg (kat_run (ks:=vs) (G:=λp s'=>s'={ s with heap:=((s.heap.update a (a7Z λ_=>(#[]:Array ao))).push (cz "tuple" vs.toArray 0)).push (cz "list" #[] 0) }/\Pm vs.length p/\Up _ p vs.length) (Q:=λu s'=>s'={ s with heap:=((s.heap.update a (a7Z λ_=>(#[]:Array ao))).push (cz "tuple" vs.toArray 0)).push (cz "list" #[] 0) }/\failedOf u=am/\∃p:Array Nat,Pm vs.length p/\Up _ p vs.length/\(arrOf u).map (·.2)=List.toArray (p.toList.map λi=>vs.getD i a1X))
     rfl zi X (λp u s' a1 B J U=>#[U.1,J,p,U.2.1,U.2.2,kat_snds rfl B]) ((iM S (by lia)).wp (λi j C hi m r hC=>?_) λp hp=>#[rfl,hp.1,hp.2])) ?_ λ_ _ e=>e)
   . refine nZ M nd (by lia) (by lia) r ?_;simp only[hi,m,decide_true,b9X] at hC;exact hC
   . rintro⟨⟨⟩,u⟩ s' ⟨rfl,hf,p,hp,hu,hm⟩;dsimp only;refine zZ (seqEpoch_at f rfl ?_);rw[hm];refine zZ (listUpdate_at f rfl ?_ (xT _) (by
       have z:=hp.length_eq;simp only[xY,a5Q] at z;simp only[zJ,zX,a5Q];rw[c0];lia));rw[hf];simp only[bne_self_eq_false,b4K,if_false];refine zY (h p.toList hp λi j r m=>?_);have:=hu i j r m;simp only[a0V,decide_eq_true_eq] at this;have I:∀k,p.toList.getD k 0=p.getD k 0:=λk=>by rw[yU,b6J,b1W]
     rw[I,I];exact this.2.2
theorem OM (r:s.heap.IsList l vs.toArray\/s.heap.IsTuple l vs.toArray) (h:Q vs { s with heap:=(s.heap.push (cz "list" #[] 0)).update s.heap.objs.size (a7Z (·++vs.toArray)) }) (hsz:vs.length<=aB) :
   wpAny (model prog w) A (collect (.ref l)) Q E s:=by
 rcases r with r | ⟨o,ho,hc,n,hd⟩
 . exact collect_list r h hsz
 unfold collect;refine zZ (wpAny_runValue (ge entry_proto_collect' ?_));show wpAny _ _ (do again (.builtin "list.__iadd__" #[[<-newList [],.ref l],[]])) _ _ s;refine zZ (io (zY #[Code.quiet_builtin _ (by decide +kernel),ge entry_list_iadd' ?_]));show wpAny _ _ (b0X (.ref s.heap.objs.size) (.ref l) (.ref s.heap.objs.size)) _ _ { s with heap:=s.heap.push (cz "list" #[] 0) };unfold b0X;have f:(s.heap.push (cz "list" #[] 0)).get? l=al o:=zW _ ho;refine zZ (eo (T:= "tuple") #[o,f,hc] ?_);have u:(Value.type "tuple" == Value.type "tuple")=true:=by rfl
 rw[if_pos (by rw[u];simp)];refine zZ (listItems_at f hd ?_);refine zZ (listItems_at (xs:=#[]) (n:=0) (yZ _ rfl) rfl ?_);rw[if_neg (by simp)];refine zZ (listUpdate_at (xs:=#[]) (n:=0) (yZ _ rfl) rfl ?_ (xT _) (by show(#[]++vs.toArray).size<=aB+1;simp only[Array.size_append,zJ,b6V];lia));refine zY ?_;show wpAny (model prog w) A (do
     let o <- load s.heap.objs.size
     match o.data with
     | .seq xs _=>pure xs.toList
     | _=>unsupported "internal:collect") Q E { s with heap:=(s.heap.push (cz "list" #[] 0)).update s.heap.objs.size (a7Z (·++vs.toArray)) };refine zZ (wpAny_load (get?_update_seq (yZ _ rfl) _) ?_);show wpAny _ _ (pure ((#[]:Array ao)++vs.toArray).toList) Q E _;rw[show((#[]:Array ao)++vs.toArray).toList=vs by simp];exact zY h
theorem Y3 (r:s.heap.IsList l vs.toArray\/s.heap.IsTuple l vs.toArray) (t:TupsN s.heap vs ns) (nd:ns.Nodup) (y:vs.length < 64) (h:∀p:List Nat,p.Perm (a2Q vs.length)->(∀i j,i < j->j < vs.length->(ns.getD (p.getD i 0) "").cps.toList < (ns.getD (p.getD j 0) "").cps.toList) ->
     Q (.ref (s.heap.objs.size+1)) { s with heap:=sortedAll s.heap vs (p.map λi=>vs.getD i a1X).toArray }) :
   wpAny (model prog w) A (call (.builtin "sorted") [.ref l]) Q E s:=by
 refine b8Q kind_sorted plain_sorted entry_sorted (args_sorted1 _) ?_;unfold Builtin.«sorted»;refine zZ (m:=checkCount "sorted" 1 1 _) (zY (zZ (OM r (zZ (io ?_ (by rw[c0];lia))) (by rw[c0];lia))));generalize hH:(s.heap.push (cz "list" #[] 0)).update s.heap.objs.size (a7Z (·++vs.toArray))=e;have hsz:e.objs.size=s.heap.objs.size+1:=by rw[<-hH,Heap.size_update,size_push']
 have old:∀b o,s.heap.get? b=al o->(e.push (cz "list" vs.toArray 0)).get? b=al o:=λb o q=>by refine zW _ ?_;rw[<-hH,yB _ _ _ _ (zC (zM q))];exact zW _ q
 have O:(e.push (cz "list" vs.toArray 0)).get? (s.heap.objs.size+1)=al (cz "list" vs.toArray 0):=by rw[<-hsz];exact yZ _ rfl
 show wpAny _ _ _ _ _ { s with heap:=e.push (cz "list" vs.toArray 0) };rw[hsz];refine zZ (bt (cb slot_list_sort #[_,O,rfl] entry_list_sort (QM O (t.keep λb o _ q=>old b o q) nd y λp n g=>#[_,rfl,?_]) (args_list_sort _)));have:=h p n g;unfold sortedAll at this;rw[hH] at this;exact zY #[_,rfl,this]
theorem Y4{prog:bn}{w:bj}{A:ca}{E:ao->aq->Prop}{s:aq} {ss:List Str}(hh:A.handled=am) (hd:(d==c4)=aw) (dd:s.heap.DictOf (AV prog w) d kvs) (hk:kvs.map (·.1)=ss.map a1Z) (B:ss.length < 64) (h:∀(h1 h':cr) (tk:Nat) (out:List ao) (e:Nat) (p:List Str),(∀b o,s.heap.get? b=al o->h1.get? b=al o)->(∀b o,h1.get? b=al o->h'.get? b=al o)->h'.get? h1.objs.size=al (cz "list" out.toArray e)->StrsAre out p->p.Perm ss->sortedS p=ap->Q (.ref h1.objs.size) { s with heap:=h',toks:=tk }) :
   wpAny (model prog w) A (call (.builtin "sorted") [.ref d]) Q E s:=by
 refine b8Q kind_sorted plain_sorted entry_sorted (args_sorted1 _) ?_;obtain⟨ep,yh⟩:=dd.dictAt;have u:kvs.length=ss.length:=by have:=congrArg b9Q hk;simpa using this
 unfold Builtin.«sorted»;refine zZ (m:=checkCount "sorted" 1 1 _) (zY (zZ (kdu_collect (A:=A.in1) (kdl_dict (kvs:=kvs) (ep:=ep) hd) hh yh (by rw[u,c0];lia) λh' tk acc hold I=>?_)));have g:acc.toList.length=ss.length:=by rw[a5Q,I.1,u]
 have hS:StrsAre acc.toList ss:=by
   have L:∀(r:List ao) (n:List Str),r.length=n.length->(∀(i:Nat) v x,r[i]?=al v->n[i]?=al x->∃t,v=c0J x t)->StrsAre r n:=by
     intro r;induction r with
     | nil=>intro n c _;cases n with
       | nil=>exact .nil
       | cons _ _=>simp at c
     | cons v r Y=>intro n c S;cases n with
       | nil=>simp at c
       | cons x n=> obtain⟨t,rfl⟩:=S 0 v x rfl rfl;exact .cons x t (Y n (by simpa using c) λi v x f j=>S (i+1) v x (by simpa using f) (by simpa using j))
   refine L _ _ g λi v x f j=>?_;obtain⟨k,y,G,J⟩:=I.2 i v (by rw[<-b1W];exact f);have T:(kvs.map (·.1))[i]?=al k:=by rw[zF,G];rfl
   rw[hk,zF,j] at T;cases T;have D:OF (.inr x) v=true:=J;rcases B7 D with ⟨i,t,e,_⟩ | ⟨z,t,e,e'⟩
   . cases e
   . cases e;exact#[t,e']
 refine zZ (io ?_ (by rw[g,c0];lia));have O:(h'.push (cz "list" acc.toList.toArray 0)).get? h'.objs.size=al (cz "list" acc.toList.toArray 0):=yZ _ rfl;show wpAny _ _ _ _ _ { s with heap:=h'.push (cz "list" acc.toList.toArray 0),toks:=tk };refine zZ (bt (cb (s:={ s with heap:=h'.push (cz "list" acc.toList.toArray 0),toks:=tk }) slot_list_sort #[_,O,rfl] entry_list_sort (list_sort_treeK strKind_oneLt O hS.keysOf (λZ M rest e=>keyKind_strs (by rw[<-e];exact hS)) (by rw[g];exact B) λN hp hs=>#[_,rfl,?_]) (args_list_sort _)));obtain⟨p,h1,U,X⟩:=sorted_out_str hS hp hs;obtain⟨e,he⟩:=sortedHeap_at (out:=(arrOf N).map (·.2)) O;refine zY #[_,rfl,h h' _ tk ((arrOf N).map (·.2)).toList e p hold (λb o q=>?_) (by rw[Array.toArray_toList];exact he) h1 U X];have lt:b < h'.objs.size:=zM q;rw[sortedHeap_old (zC lt) (by rw[size_push'];exact b8V lt)];exact zW _ q
end
end L2
namespace L2
open PySem PySem.Spec PyProof.Rows
def tlD (prog:bn) (w:bj) (A:ca) (t n:bp):i3->Addr->(aq->Prop)->aq->Prop:=λenv D P s=>wpAny (model prog w) A (eval t env) (λkv X=>wpAny (model prog w) A (eval n env) (λj e=>wpAny (model prog w) A (dictSet D kv j) (λ_ Y=>P Y) (λ_ _=>False) e) (λ_ _=>False) X) (λ_ _=>False) s
theorem vE :V5 prog w A (.DictComp i m [#[target,iter,ifs,0]] scope pos) target ifs (tlD prog w A i m):=by
 intro L D env R I turn n s h;refine codeAny_loop rfl I (λn s hI=>?_) n h;show wpAny _ A ((compTurn (.DictComp i m [#[target,iter,ifs,0]] scope pos) 0 (.ref L) (.ref D) env).onRaise (λx=>do g0 x env;theTreesLotGoes x)) _ _ s;refine wpAny_noted ?_;rw[compTurn_dict];refine zZ (bv (zZ (bg (AO (turn n s hI)) (λr z b=>?_) λ_ _ p=>p)));cases r with
 | none=>exact zY b
 | some v=>
   refine zZ (bg (AO b) (λ_ c g=>?_) λ_ _ p=>p);refine zZ (bg (AO g) (λ_ f Q=>zZ (bg (AO Q) (λok j e=>?_) λ_ _ p=>p)) λ_ _ p=>p);cases ok with
   | false=>exact zY #[rfl,e]
   | true=> exact zZ (zZ (bg (AO e) (λkv X Y=>zZ (bt (bg (AO Y) (λu k G=>zZ (bv (bt (bg (AO G) (λ_ q t=>zY #[rfl,t]) λ_ _ p=>p)))) λ_ _ p=>p))) λ_ _ p=>p))
theorem A1z {n:St} (I:Inv X pins n H s) (e:H a=al (.dK kvs)) (l:kvs.length < aB) (Z:RelV (kV k) u) (c:RelV v r) (h:∀s',Inv X pins n (upd H a (.dK (EQ kvs k v))) s'->Q () s'):wpAny (model X.prog X.w) A (dictSet a u r) Q E s:=by
 obtain⟨z,hd,f,rel,i⟩:=X7 I.hok e;have b:f.length<=sizeLine:=by rw[<-rel.length];exact z
 have m:(EQ kvs k v).length<=sizeLine:=by have:=G3 kvs k v;lia
 refine wpAny_dictSet_pairs (hsz:=b) (KQ Z) i λp t hs=>h _ ?_;have he:∃q,p.get? a=al q:=let #[q,_,_,hq,_]:=t;#[q,hq];exact K0 I (by rw[e];exact a8Z) hs he (NK m hd (rel.put k c) t)
def QN (h:List (Option Nat)) (X:TI) (g:TG) (z:TT) (tk T:TE):TE:=λn H Q=>X n H λJ r=>∀D,r D=am->∃W:Nat->Nat->List (Key×V)->Hp->Prop,(∃m,W 0 m [] (upd r D (.dK []))) /\∀i m j f,W i m j f->f D=al (.dK j)/\((J.stop i f/\Q (.ref D) f)\/(J.go i f/\∀x p,J.yld i f x p->g x (capt h n) p λt q=>
   (∀(i:Nat) v,(capt h n)[i]?=al (al v)->t[i]?=al (al v))/\z t q λc b=>if c=ap then tk t b λx u=>T t u λy O=>∃M k,x=kV k/\O D=al (.dK M)/\M.length < aB/\∃e,e < m/\W (i+1) e (EQ M k y) (upd O D (.dK (EQ M k y)))
     else ∃M e,e < m/\W (i+1) e M b))
section
variable {X:Cx}{scope:fc}{NC:List Str}{fr:List (Option Nat)}{pins:List (Addr×cE)}{σ:St}{H:Hp}{s:aq}
theorem U4  (hc:X.calm=ap) (S:CSc X scope NC fr) (hi:PI X p iter u) (hb:∀(C:Addr) (s:aq) (H:Hp) (e:List Addr) (pn:List (Addr×cE)),PG (AW X scope NC C s H e pn) p g/\PTs (AW X scope NC C s H e pn) ifs j/\PE (AW X scope NC C s H e pn) r tk/\PE (AW X scope NC C s H e pn) f c) (I:Inv X pins σ H s) (hu:X.A.units+1 < ej) (h:QN fr u g j tk c σ H Q) (fin:A1Q X pins σ use Q QQ) (hs:∀x,ce iter X.env x=pure x) :
   wpAny (model X.prog X.w) X.A (ip (.DictComp r f [#[p,iter,ifs,0]] scope pos) scope X.env Z newDict aw (eval iter X.env) use) QQ X.xe s:=by refine NM (y0:=[]) (at_:=.dK) (Ty:= "dict") (dt:=.dict #[]) (tl:=tlD X.prog X.w X.A r f) (el:=λD m W t J=>tk t J λx G=>c t G λy O=>∃M k,x=kV k/\O D=al (.dK M)/\M.length < aB/\∃i,i < m/\W i (EQ M k y) (upd O D (.dK (EQ M k y)))) rfl rfl (by size_fits) (λH h b=>Q8 h b) vE codeAny_compStart_dict hc S hi (λC s H e pn=>#[(hb C s H e pn).1,(hb C s H e pn).2.1,λvp s' σ H' D n W P I q k=>?_]) I h fin hs;refine thn ((hb C s H e pn).2.2.1 _ s' σ H' _ I q) λyk v #[kv,z,T,N,Y]=>thn ((hb C s H e pn).2.2.2 _ v σ z _ T Y) ?_;rintro yv Cr ⟨vv,Ln,B,U,M,kk,ek,hD,hsz,i,wa,w'⟩;subst ek;exact A1z (X:=AW X scope NC C s H e pn) B hD hsz N U λs' L=>k i _ _ _ wa w' L
theorem o0 {t i iter r:bp}{ifs:List bp}{pos:ew}{p:TI}{g:TG}{O:TT}{tk n:TE}(hc:X.calm=ap) (hu:X.A.units+1 < ej) (S:CSc X scope NC fr) (hi:PI X r iter p) (hb:∀(C:Addr) (s:aq) (H:Hp) (e:List Addr) (pn:List (Addr×cE)),PG (AW X scope NC C s H e pn) r g/\PTs (AW X scope NC C s H e pn) ifs O/\PE (AW X scope NC C s H e pn) t tk/\PE (AW X scope NC C s H e pn) i n) (hs:∀x,ce iter X.env x=pure x:=by intro _;rfl):PE X (.DictComp t i [#[r,iter,ifs,0]] scope pos) (QN fr p g O tk n):=by intro pins s σ H Q I h;rw[arm_eval_DictComp];refine U4 (use:=am) (Q:=Q) hc S hi hb I hu h (λD C H' s' m z L hn q back _ b c=>?_) hs;exact#[.ref D,H',back pins σ H' s' b L c,rfl,q]
end
end L2
namespace L2
open PySem PySem.Spec PyProof.Rows PySem.W
def o8 (K:Frg):List V->Hp->VK->Prop:=λn H Q=>∃(p:Addr) (I:List (Addr×Str×List V)),n=[.ref p]/\(SqL K H p (I.map λe=>V.ref e.1)\/SqT K H p (I.map λe=>V.ref e.1))/\(∀e∈I,SqT K H e.1 (.str e.2.1::e.2.2))/\(I.map λe=>e.2.1).Nodup/\I.length < 64 /\∀(t:List (Addr×Str×List V)) (q:Addr),t.Perm I->t.Pairwise (λx y=>x.2.1.cps.toList < y.2.1.cps.toList)->H q=am->Q (.ref q) (upd H q (.lst (t.map λe=>V.ref e.1)))
def oG:List V->Hp->VK->Prop:=λt H Q=>∃(p:Addr) (kvs:List (Key×V)) (h:List Str),t=[.ref p]/\Rd H p (.dK kvs)/\kvs.map (·.1)=h.map a1Z/\h.length < 64 /\∀(e:List Str) (q:Addr),e.Perm h->sortedS e=ap->H q=am->Q (.ref q) (upd H q (.lst (e.map V.str)))
def QO (K:Frg):List V->Hp->VK->Prop:=λt H Q=>mZ K t H Q\/o8 K t H Q\/oG t H Q
section
theorem U5:∀{es:List (Addr×Str×List V)}{n:List ao},Vals (es.map λe=>V.ref e.1) n->n=es.map λe=>a0X e.1
 | [],_,.nil=>rfl
 | _::_,_,.cons r t=>by rw[U5 t];cases r;rfl
theorem U6:∀{es:List (Addr×Str×List V)},Vals (es.map λe=>V.ref e.1) (es.map λe=>a0X e.1)
 | []=>.nil
 | _::_=>.cons rfl U6
theorem bP:CN X (.builtin "sorted") (o8 X.K):=by
 intro pins s σ H xs us Q I r h;obtain⟨p,m,rfl,hp,ht,nd,G,q⟩:=h;obtain⟨u,rfl,ru⟩:=GM r;cases ru;obtain⟨z,O,N⟩:∃z:List ao,Vals (m.map λe=>V.ref e.1) z/\(s.heap.IsList p z.toArray\/s.heap.IsTuple p z.toArray):=by
   rcases hp with hp | hp;. obtain⟨z,O,N,_⟩:=I.list hp;exact#[z,O,.inl N.isList]
   . obtain⟨z,O,N,_⟩:=I.tuple hp;exact#[z,O,.inr N]
 have ei:=U5 O;subst ei;have tn:TupsN s.heap (m.map λe=>a0X e.1) (m.map λe=>e.2.1):=by
   refine#[by simp,λi v nm T M=>?_];rw[zF] at T M;cases he:m[i]? with
   | none=>rw[he] at T;cases T
   | some e=>
     rw[he] at T M;cases T;cases M;obtain⟨js,rj,⟨o,ho,hc,n,hd⟩,_⟩:=I.tuple (ht e (yN he));cases rj with
     | cons r0 _=> obtain⟨t,rfl⟩:=r0;exact#[e.1,o,_,n,t,rfl,ho,hc,hd,by simp]
 refine Y3 N tn nd (by simpa using G) λc h1 J=>?_;simp only[zX] at h1 J;obtain⟨e,he⟩:=sortedAll_at s.heap (m.map λe=>a0X e.1) (c.map λi=>(m.map λe=>a0X e.1).getD i a1X).toArray;have hn:H (s.heap.objs.size+1)=none:=I.hok.fresh (a5K _);obtain⟨f,S⟩:∃f:List (Addr×Str×List V),f=c.filterMap λi=>m[i]?:=#[_,rfl]
 have D:∀i∈c,i < m.length:=λi hi=>List.mem_range.mp (h1.mem_iff.mp hi);have B:∀(l:List Nat),(∀i∈l,i < m.length)->(l.filterMap λi=>m[i]?)=l.attach.map λi=>m.getD i.1 (0, "", []):=λl=>by
   intro U;induction l with
   | nil=>rfl
   | cons a l ih=> have L:=U a (by simp);rw[a5X,zV L];simp only[List.attach_cons,zI,zD];rw[ih λi hi=>U i (yV _ hi)];simp[yU,zV L]
 have Y:f=c.map λi=>m.getD i (0, "", []):=by rw[S,B c D];simp
 have perm:f.Perm m:=by
   rw[S];refine(h1.filterMap _).trans ?_;rw[show((a2Q m.length).filterMap λi=>m[i]?)=m from ?_];apply a9W;intro i;have:((a2Q m.length).filterMap λi=>m[i]?)=(a2Q m.length).map λi=>m.getD i (0, "", []):=by rw[B _ λi hi=>List.mem_range.mp hi];simp
   rw[this,zF];by_cases hi:i < m.length;. rw[xZ hi];simp[hi]
   . rw[a4J (by simp;lia),a4J (by lia)];rfl
 have outs:(c.map λi=>(m.map λe=>a0X e.1).getD i a1X)=f.map λe=>a0X e.1:=by rw[Y,zD];apply yM;intro i hi;have hi:=D i hi;simp[yU,zF,zV hi]
 have Ma:c.length=m.length:=by have:=h1.length_eq;simpa using this
 have srt:f.Pairwise (λx y=>x.2.1.cps.toList < y.2.1.cps.toList):=by
   rw[Y,b2W,List.pairwise_iff_getElem];intro i j hi hj bc;have:=J i j bc (by lia);have g:∀k (hk:k < c.length),(m.map λe=>e.2.1).getD (c.getD k 0) (a0Q "")=(m.getD c[k] (0, "", [])).2.1:=λk hk=>by have Z:=D c[k] (a1J hk);rw[yU (l:=c),zV hk];simp[yU,zF,zV Z]
   rw[g i hi,g j hj] at this;exact this
 rw[outs] at he ⊢;refine#[.ref (s.heap.objs.size+1),_,I.laid (t':=s.toks) (o:=.lst (f.map λe=>V.ref e.1)) (λb o eb=>sortedAll_old eb) (a5K _) ?_,rfl,q f _ perm srt hn];refine#[by rw[zX,perm.length_eq];exact zN (xR G) (by decide),f.map λe=>a0X e.1,e,U6,?_];have S:=he;simpa [cz] using S
theorem bQ (hc:X.calm=ap):CN X (.builtin "sorted") oG:=by
 intro pins s T H O N Q I r h;obtain⟨p,kvs,k,rfl,hp,hk,y,q⟩:=h;obtain⟨u,rfl,j⟩:=GM r;cases j;obtain⟨z,hd,v,rel,i⟩:=IR I.hok hp;have b:v.map (·.1)=k.map a1Z:=by
   rw[<-hk];clear hk i z hp q;unfold KV at rel;induction rel with
   | nil=>rfl
   | cons h t U=>simp[h.1,U]
 refine Y4 (I.ok.hd hc) hd i b y λh1 h' m out e n x f ho hS g c=>?_;have G:Inv X pins T H { s with heap:=h1,toks:=m }:=I.kept x;have hn:H h1.objs.size=none:=G.hok.fresh (zR _);refine#[.ref h1.objs.size,_,G.laid (t':=m) (o:=.lst (n.map V.str)) (h':=h') f (zR _) ?_,rfl,q n _ g c hn];refine#[by rw[zX,g.length_eq];exact zN (xR y) (by decide),out,e,eG hS,?_];simpa [cz] using ho
theorem bR (hc:X.calm=ap):CN X (.builtin "sorted") (QO X.K):=by
 intro pins s n H t e Q I r h;rcases h with h | h | h;. exact bA pins s n H t e Q I r h
 . exact bP pins s n H t e Q I r h
 . exact bQ hc pins s n H t e Q I r h
end
end L2
namespace DL
open PySem PySem.Spec L2
def AF (ts:List (Str×PyData)):List (PyData×PyData):=ts.map λt=>(a0K t.1,t.2)
def HR (ts:List (Str×PyData)) (k:Str) (d:PyData):List (Str×PyData):=
 if (ts.any λt=>decide (t.1=k))=ap then ts.map (λt=>if t.1=k then (t.1,d) else t) else ts++[(k,d)]
def U7 (ts:List (Str×PyData)) (k:Str):List (Str×PyData):=ts.filter λt=>decide (t.1≠k)
def BK:List (Str×PyData)->Str->Option PyData
 | [],_=>am
 | t::r,k=>if t.1=k then al t.2 else BK r k
section
theorem C6 :DKV K H W (AF (t::ts)) ks↔∃v r,ks=(a1Z t.1,v)::r/\DV K H W t.2 v/\DKV K H W (AF ts) r:=by
 unfold AF;rw[zI];constructor
 . intro h;unfold DKV at h;obtain⟨p,v,r,e,j,h1,n⟩:=h;cases p with
   | inl i=>cases j
   | inr x=>
     have m:t.1=x:=by simpa [A3Q] using j
     subst m;exact#[v,r,e,h1,n]
 . rintro⟨v,r,e,h1,n⟩;unfold DKV;exact#[a1Z t.1,v,r,e,rfl,h1,n]
theorem EC :DKV K H W (AF []) ks↔ks=[]:=by unfold AF;simp only[b8X];unfold DKV;exact Iff.rfl
theorem Y5:∀{ts:List (Str×PyData)}{ks:List (Key×V)},DKV K H W (AF ts) ks->ks.map (·.1)=(ts.map (·.1)).map a1Z
 | [],ks,h=>by rw[EC.mp h];rfl
 | t::ts,ks,h=>by obtain⟨v,r,rfl,_,e⟩:=C6.mp h;simp[Y5 e]
theorem eO :∀{ts:List (Str×PyData)}{ks:List (Key×V)},DKV K H W (AF ts) ks->(ks.any λkv=>decide (kv.1=a1Z k))=ts.any λt=>decide (t.1=k)
 | [],ks,h=>by rw[EC.mp h];rfl
 | t::ts,ks,h=>by
   obtain⟨v,r,rfl,_,n⟩:=C6.mp h;rw[b4J,b4J,eO n];congr 1;by_cases e:t.1=k;. rw[decide_eq_true e,decide_eq_true (by rw[e])]
   . rw[decide_eq_false e,decide_eq_false λq=>e (by injection q)]
theorem QR (hd:DV K H W d v):∀{ts:List (Str×PyData)}{ks:List (Key×V)},DKV K H W (AF ts) ks ->
   DKV K H W (AF (ts.map λt=>if t.1=k then (t.1,d) else t)) (ks.map λkv=>if kv.1=a1Z k then (kv.1,v) else kv)
 | [],ks,h=>by rw[EC.mp h];exact EC.mpr rfl
 | t::ts,ks,h=>by
   obtain⟨u,r,rfl,h1,n⟩:=C6.mp h;rw[zI,zI];by_cases e:t.1=k;. rw[if_pos e,if_pos (by rw[e])];exact C6.mpr #[v,_,rfl,hd,QR hd n]
   . rw[if_neg e,if_neg λq=>e (by injection q)];exact C6.mpr #[u,_,rfl,h1,QR hd n]
theorem Y6 (hd:DV K H W d v):∀{ts:List (Str×PyData)}{ks:List (Key×V)},DKV K H W (AF ts) ks->DKV K H W (AF (ts++[(k,d)])) (ks++[(a1Z k,v)])
 | [],ks,h=>by rw[EC.mp h];exact C6.mpr #[v,[],rfl,hd,EC.mpr rfl]
 | t::ts,ks,h=>by obtain⟨u,r,rfl,h1,e⟩:=C6.mp h;exact C6.mpr #[u,_,rfl,h1,Y6 hd e]
theorem eQ (h:DKV K H W (AF ts) ks) (hd:DV K H W d v):DKV K H W (AF (HR ts k d)) (EQ ks (a1Z k) v):=by
 unfold HR EQ;rw[eO h];by_cases c:(ts.any λt=>decide (t.1=k))=ap;. rw[if_pos c,if_pos c];exact QR hd h
 . rw[if_neg c,if_neg c];exact Y6 hd h
theorem QS :∀{ts:List (Str×PyData)}{ks:List (Key×V)},DKV K H W (AF ts) ks->DKV K H W (AF (U7 ts k)) (ME ks (a1Z k))
 | [],ks,h=>by rw[EC.mp h];exact EC.mpr rfl
 | t::ts,ks,h=>by
   obtain⟨u,r,rfl,h1,n⟩:=C6.mp h;have U:=QS (k:=k) n;unfold U7 ME at U ⊢;by_cases e:t.1=k;. rw[a8W,a8W,if_neg (by simp[e]),if_neg (by simp[e])];exact U
   . rw[a8W,a8W,if_pos (by simpa using e),if_pos (by simp;exact e)];exact C6.mpr #[u,_,rfl,h1,U]
theorem CS :∀{ts:List (Str×PyData)}{ks:List (Key×V)},DKV K H W (AF ts) ks->(∃d v,BK ts k=al d/\GD ks (a1Z k)=al v/\DV K H W d v)\/(BK ts k=am/\GD ks (a1Z k)=am)
 | [],ks,h=>by rw[EC.mp h];exact .inr #[rfl,rfl]
 | t::ts,ks,h=>by
   obtain⟨u,r,rfl,h1,m⟩:=C6.mp h;by_cases e:t.1=k;. exact .inl #[t.2,u,by simp[BK,e],MF (by rw[e]),h1]
   . have e':¬(a1Z t.1:Key)=a1Z k:=λq=>e (by injection q);rcases CS (k:=k) m with ⟨d,v,n,g,i⟩ | ⟨n,g⟩
     . exact .inl #[d,v,by simp[BK,e,n],by rw[IZ (p:=(a1Z t.1,u)) e'];exact g,i]
     . exact .inr #[by simp[BK,e,n],by rw[IZ (p:=(a1Z t.1,u)) e'];exact g]
theorem K4:∀{kvs:List (PyData×PyData)}{ks:List (Key×V)},DKV K H W kvs ks->ks.length=kvs.length
 | [],ks,h=>by unfold DKV at h;subst h;rfl
 | (k,d)::r,ks,h=>by unfold DKV at h;obtain⟨_,_,_,rfl,_,_,e⟩:=h;simp[K4 e]
end
section
theorem FC (h:DE K td ρ M λx M1=>DE K ty ρ M1 λy t=>∃(a:Addr) (ts:List (Str×PyData)) (k:Str) (d:PyData),x = .loc a/\y = .d (.str k)/\t a=al (.d (AF ts))/\BK ts k=al d/\Q (.d d) t):DE K (dO td ty) ρ M Q:=λp H QQ R S=>
 h p H _ R λv b x M1 N i r h1=>h1 p b _ (R.step N r) λu f y t n I B T=>by
   obtain⟨a,ts,k,d,rfl,rfl,m,l,q⟩:=T;unfold SI at i;subst i;rw[BD I];obtain⟨O,j,z⟩:=n a _ m;rcases CS (k:=k) z with ⟨J,G,e,g,c⟩ | ⟨e,g⟩
   . rw[l] at e;cases e;exact#[a,G,rfl,.inl #[O,a1Z k,.inl j,rfl,g.symm],S _ f (.d d) t n c (r.trans B) q]
   . rw[l] at e;cases e
theorem MN (h:DE K td ρ M λx M1=>DE K ty ρ M1 λy t=>∃(ts:List (Str×PyData)) (k:Str) (d:PyData),x = .d (.dict (AF ts))/\y = .d (.str k)/\BK ts k=al d/\Q (.d d) t):DE K (dO td ty) ρ M Q:=λi H QQ R S=>
 h i H _ R λv m x M1 T I n h1=>h1 i m _ (R.step T n) λu f y t N B c z=>by
   obtain⟨ts,k,d,rfl,rfl,l,q⟩:=z;have b:=I.step c;unfold SI DV at b;obtain⟨a,O,rfl,nw,p,j⟩:=b;rw[BD B];rcases CS (k:=k) j with ⟨J,G,e,g,r⟩ | ⟨e,g⟩
   . rw[l] at e;cases e;exact#[a,G,rfl,.inl #[O,a1Z k,p,rfl,g.symm],S _ f (.d d) t N r (n.trans c) q]
   . rw[l] at e;cases e
theorem VE (h:DE K ty ρ M λy M1=>DE K td ρ M1 λx e=>∃(a:Addr) (ts:List (Str×PyData)) (k:Str),x = .loc a/\y = .d (.str k)/\e a=al (.d (AF ts))/\Q (.d (.bool (BK ts k).isSome)) e):DE K (A1M ty td) ρ M Q:=λp H QQ R S=>
 h p H _ R λv b x M1 T N r h1=>h1 p b _ (R.step T r) λu f y e n i I z=>by
   obtain⟨a,ts,k,rfl,rfl,m,q⟩:=z;unfold SI at i;subst i;rw[BD N];obtain⟨O,c,j⟩:=n a _ m;refine#[a,GD O (a1Z k),rfl,.inl #[O,a1Z k,.inl c,rfl,rfl],S _ f _ e n ?_ (r.trans I) q];rcases CS (k:=k) j with ⟨G,J,t,g,B⟩ | ⟨t,g⟩
   . rw[t,g];exact AM
   . rw[t,g];exact AM
theorem BW (h:DE K tv ρ M λz M1=>DE K td ρ M1 λx i=>DE K ty ρ i λy e=>∃(a:Addr) (ts:List (Str×PyData)) (k:Str) (d:PyData),z = .d d/\x = .loc a/\y = .d (.str k)/\e a=al (.d (AF ts))/\ts.length < aB/\D.nx ρ (e.put a (.d (AF (HR ts k d))))):DSt K (A0N td ty tv) ρ M D:=λt H E R L k2 k3 k4=>
 h t H _ R λv b z M1 U Z n h1=>h1 t b _ (R.step U n) λu f x i X r c I=>I t f _ (R.step X (n.trans c)) λyv g y e S s3 G J=>by
   obtain⟨a,ts,k,d,rfl,rfl,rfl,m,B,q⟩:=J;unfold SI at r;subst r;rw[BD s3];obtain⟨O,N,j⟩:=S a _ m;have hd:DV K g e.W d v:=DV.grow (c.trans G).grow Z;obtain⟨Y,t4⟩:=F8 S m (eQ (k:=k) j hd);have T:O.length < sizeLine:=by rw[K4 j];unfold AF;rw[zX];exact B
   have p:=((n.trans c).trans G).trans t4;exact#[a,_,rfl,.inl #[O,a1Z k,N,rfl,T,rfl],L ρ _ t _ (R.step Y p) p q]
theorem eR (h:DE K td ρ M λx M1=>DE K ty ρ M1 λy e=>∃(a:Addr) (ts:List (Str×PyData)) (k:Str),x = .loc a/\y = .d (.str k)/\e a=al (.d (AF ts))/\(BK ts k).isSome=ap/\D.nx ρ (e.put a (.d (AF (U7 ts k))))):DSt K (A0O td ty) ρ M D:=λt H E R T X Y Z=>
 h t H _ R λv c x M1 N r p h1=>h1 t c _ (R.step N p) λu J y e i I B z=>by
   obtain⟨a,ts,k,rfl,rfl,m,l,q⟩:=z;unfold SI at r;subst r;rw[BD I];obtain⟨O,f,j⟩:=i a _ m;obtain⟨S,G⟩:=F8 i m (QS (k:=k) j);have b:=(p.trans B).trans G;refine#[a,O,a1Z k,rfl,f,rfl,?_,T ρ _ t _ (R.step S b) b q];rcases CS (k:=k) j with ⟨U,w',n,g,L⟩ | ⟨n,g⟩
   . rw[g];rfl
   . rw[n] at l;cases l
theorem PL (h:DE K td ρ M λx M1=>∃(a:Addr) (n:List (Str×PyData)),x = .loc a/\M1 a=al (.d (AF n))/\DE K ty ρ M1 λy t=>∃(ts:List (Str×PyData)) (k:Str) (d:PyData),y = .d (.str k)/\t a=al (.d (AF ts))/\BK ts k=al d/\Q (.d d) (t.put a (.d (AF (U7 ts k))))):DE K (lY td ty) ρ M Q:=λf H QQ R B=>
 h f H _ R λv z x M1 i p b h1=>by
   obtain⟨a,n,rfl,J,h1⟩:=h1;unfold SI at p;subst p;obtain⟨T,O,_⟩:=i a _ J;refine#[a,rfl,.inl #[T,.inl O],h1 f z _ (R.step i b) λu Z y t r U X S=>?_];obtain⟨ts,k,d,rfl,m,l,q⟩:=S;rw[BD U];obtain⟨G,I,j⟩:=r a _ m;rcases CS (k:=k) j with ⟨d',Y,e,g,N⟩ | ⟨e,g⟩
   . rw[l] at e;cases e;obtain⟨L,c⟩:=F8 r m (QS (k:=k) j);exact#[G,a1Z k,Y,I,rfl,g,B _ _ (.d d) _ L (DV.grow c.grow N) ((b.trans X).trans c) q]
   . rw[l] at e;cases e
theorem oH (m:M a=al (.d (AF ts))) (y:ts.length < 64) (q:∀ss:List Str,ss.Perm (ts.map (·.1))->xG ss=ap->Q (.d (.list (ss.map .str))) M):DR K (QO K) [.loc a] M Q:=λH b QQ t s k=>by obtain⟨v,r,rfl,h1,n⟩:=s;cases n;unfold SI at h1;subst h1;obtain⟨O,h,j⟩:=t a _ m;refine .inr (.inr #[a,O,ts.map (·.1),rfl,.inl h,Y5 j,by rw[zX];exact y,λe p J i hp=>?_]);have g:Grow K M.W M.W H (upd H p (.lst (e.map V.str))):=B0 _ hp;refine k _ _ (.d (.list (e.map .str))) M (t.new hp) ?_ #[g] (q e J i);unfold SI DV;exact#[p,_,rfl,.inl #[λw=>w (t.none hp),.inl AE],J6]
def NQ (t:Str×List PyData):PyData:=.tuple (.str t.1::t.2)
theorem Y7 :∀{ts:List (Str×List PyData)}{vs:List V},DVs K H W (ts.map NQ) vs->∃es:List (Addr×Str×List V),vs=es.map (λe=>V.ref e.1)/\es.map (λe=>e.2.1)=ts.map (·.1)/\(∀e∈es,SqT K H e.1 (.str e.2.1::e.2.2)) /\
   es.length=ts.length/\∀(i:Nat) e t,es[i]?=al e->ts[i]?=al t->DV K H W (NQ t) (.ref e.1)/\e.2.1=t.1
 | [],vs,h=>by unfold DVs at h;subst h;exact#[[],rfl,rfl,(λe he=>by simp at he),rfl,λi e t h1 p=>by simp at h1]
 | t::ts,vs,h=>by
   rw[zI] at h;unfold DVs at h;obtain⟨v,r,rfl,h1,p⟩:=h;obtain⟨es,rfl,j,c,f,g⟩:=Y7 p;have m:=h1;unfold NQ DV at m;obtain⟨a,x,rfl,k,hd⟩:=m;unfold DVs at hd;obtain⟨u,b,rfl,hu,q⟩:=hd;unfold DV at hu;subst hu;refine#[(a,t.1,b)::es,rfl,by simp[j],λe he=>?_,by simp[f],λi e Y J n=>?_]
   . rcases yX.mp he with rfl | he;. exact k.sq
     . exact c e he
   . cases i with
     | zero=>simp at J n;subst J n;exact#[h1,rfl]
     | succ i=>exact g i e Y (by simpa using J) (by simpa using n)
theorem Y8 :∀{es:List (Addr×Str×List V)}{ts:List (Str×List PyData)},es.length=ts.length->(∀(i:Nat) e t,es[i]?=al e->ts[i]?=al t->DV K H W (NQ t) (.ref e.1))->DVs K H W (ts.map NQ) (es.map λe=>V.ref e.1)
 | [],[],_,_=>by simp only[b8X];exact DVs.nil
 | [],_::_,h,_=>by simp at h
 | _::_,[],h,_=>by simp at h
 | e::es,t::ts,h,k=>by rw[zI,zI];exact DVs.cons (k 0 e t rfl rfl) (Y8 (by simpa using h) λi e t h1 n=>k (i+1) e t (by simpa using h1) (by simpa using n))
theorem bS {f n:Type}:∀{as k:List f},k.Perm as->∀{bs:List n},as.length=bs.length->∃e:List n,e.Perm bs/\(k.zip e).Perm (as.zip bs)/\k.length=e.length:=by
 intro as k h;induction h with
 | nil=>intro bs r;exact#[bs,.refl _,.refl _,r]
 | cons x _ U=>
   intro bs r;cases bs with
   | nil=>simp at r
   | cons b bs=> obtain⟨e,h1,t,J⟩:=U (bs:=bs) (by simpa using r);exact#[b::e,h1.cons b,by rw[a9Q,a9Q];exact t.cons _,by simp[J]]
 | swap x y l=>
   intro bs r
   match bs,r with
   | b1::j::bs,r=>exact#[j::b1::bs,.swap _ _ _,by simp only[a9Q];exact .swap _ _ _,by simpa using r]
 | trans g q ih1 ih2=> intro bs r;obtain⟨j,h1,t,J⟩:=ih2 r;obtain⟨i,m,p,c⟩:=ih1 J;exact#[i,m.trans h1,p.trans t,c]
theorem QT (f:OA K H M) (N:SqL K H a vs\/SqT K H a vs) (hd:DVs K H M.W (ts.map NQ) vs) (nd:(ts.map (·.1)).Nodup) (q:ts.length < 64) (k:∀(w:V) (H':Hp) (z:DS) (m:Own),OA K H' m->SI K H' m z w->Step K M m H H'->(∃U:List (Str×List PyData),U.Perm ts/\U.Pairwise (λx y=>x.1.cps.toList < y.1.cps.toList)/\z = .d (.list (U.map NQ))/\m=M)->QQ w H'):QO K [.ref a] H QQ:=by
 obtain⟨I,rfl,u,v,c,T⟩:=Y7 hd;refine .inr (.inl #[a,I,rfl,N,v,by rw[u];exact nd,by rw[c];exact q,λn p hp hs hn=>?_]);obtain⟨U,S,B,G⟩:=bS hp c;have each:∀(i:Nat) e t,n[i]?=al e->U[i]?=al t->DV K H M.W (NQ t) (.ref e.1)/\e.2.1=t.1:=λi e t h1 b=>by have O:(e,t)∈I.zip ts:=B.mem_iff.mp (yN (i:=i) (by rw[a9Z];exact#[h1,b]));obtain⟨j,r⟩:=List.getElem?_of_mem O;rw[a9Z] at r;exact T j e t r.1 r.2
 have g:Grow K M.W M.W H (upd H p (.lst (n.map λe=>V.ref e.1))):=B0 _ hn;refine k _ _ (.d (.list (U.map NQ))) M (f.new hn) ?_ #[g] #[U,S,?_,rfl,rfl];. unfold SI DV;exact#[p,_,rfl,.inl #[λw=>w (f.none hn),.inl AE],(Y8 G λi e t h1 b=>(each i e t h1 b).1).grow g]
 . rw[List.pairwise_iff_getElem] at hs ⊢;intro i j hi r h;have hi':i < n.length:=by lia
   have hj':j < n.length:=by lia
   have:=hs i j hi' hj' h;rw[(each i n[i] U[i] (zV hi') (zV hi)).2,(each j n[j] U[j] (zV hj') (zV r)).2] at this;exact this
theorem oI (nd:(ts.map (·.1)).Nodup) (e:ts.length < 64) (q:∀U:List (Str×List PyData),U.Perm ts->U.Pairwise (λx y=>x.1.cps.toList < y.1.cps.toList)->Q (.d (.list (U.map NQ))) M):DR K (QO K) [.d (.list (ts.map NQ))] M Q:=λH f QQ i s k=>by obtain⟨v,r,rfl,h1,t⟩:=s;cases t;unfold SI DV at h1;obtain⟨a,f,rfl,n,hd⟩:=h1;exact QT i (.inl n.sq) hd nd e (by rintro w H' z g o b c ⟨U,m,p,h,j⟩;subst h j;exact k w H' _ _ o b c (q U m p))
end
end DL
namespace DL
open PySem PySem.Spec L2
section
variable {X:Cx}{K:Frg}
theorem A2A (h:X.K=K) (hc:X.calm=ap):CN X (.builtin "sorted") (QO K):=h▸bR hc
end
section
theorem oJ (h:k∉ts.map (·.1)):HR ts k d=ts++[(k,d)]:=by unfold HR;rw[if_neg];intro e;obtain⟨t,u,e⟩:=List.any_eq_true.mp e;exact h (zL.mpr #[t,u,by simpa using e])
def JA (f:PyData->Str) (w:PyData->PyData) (ds:List PyData):List (Str×PyData):=ds.foldl (λn d=>HR n (f d) (w d)) []
theorem bT :JA f w (ds++[d])=HR (JA f w ds) (f d) (w d):=a6J ..
theorem iN :(JA f w ds).length<=ds.length:=by
 have e:∀(ds:List PyData) (n:List (Str×PyData)),(ds.foldl (λn d=>HR n (f d) (w d)) n).length<=n.length+ds.length:=λds=>by
   induction ds with
   | nil=>exact λn=>zR _
   | cons d r U=>
     intro n;refine zN (U _) ?_;have:(HR n (f d) (w d)).length<=n.length+1:=by unfold HR;split <;> simp
     show(HR n (f d) (w d)).length+_<=_;rw[yR];lia
 exact zN (e ds []) (by simp)
theorem oK (nd:(ds.map f).Nodup):JA f w ds=ds.map λd=>(f d,w d):=by
 have e:∀(ds:List PyData) (n:List (Str×PyData)),(n.map (·.1)++ds.map f).Nodup->ds.foldl (λn d=>HR n (f d) (w d)) n=n++ds.map λd=>(f d,w d):=λds=>by
   induction ds with
   | nil=>intro n _;simp
   | cons d r U=> intro n h;rw[b4Z,oJ (λq=>(List.nodup_append.mp h).2.2 _ q _ a0Z rfl),U _ (by simpa using h)];simp
 exact e ds [] nd
theorem U8 (ho:J5 g T) (hT:∀i∈T,∀j,v[i]?≠al (al j)) (h:DI K wi ρ M λds M1=>ds.length < aB/\∃(c:PyData->Bool) (f:PyData->Str) (w:PyData->PyData),(∀d∈ds,∀u,DG K g d (G4 v ρ) u λr M2=>M2=u/\DT K tt r M2 λb B=>B=u/\b=c d/\(c d=ap->DE K tk r B λy M4=>y = .d (.str (f d))/\M4=u/\DE K tv r M4 λz M5=>z = .d (w d)/\M5=u)) /\∀p,M1 p=am->Q (.loc p) (M1.put p (.d (AF (JA f w (ds.filter c)))))) :
   DE K (QN v wi g tt tk tv) ρ M Q:=λσ H QQ R k=>
 h σ H _ R λJ ds H1 M1 X t1 wd cw=>by
   obtain⟨hsz,c,f,w,he,hq⟩:=cw;intro A hA;obtain⟨oA,sA⟩:=MI (kvs:=[]) (ks:=[]) X hA (by unfold DKV;rfl);have hM:=X.none hA;let acc:Nat->List (Str×PyData):=λi=>JA f w ((ds.take i).filter c);refine#[λi m ys t=>m=ds.length - i/\i<=ds.length/\t A=al (.dK ys)/\OA K t (M1.put A (.d (AF (acc i))))/\Step K M1 (M1.put A (.d (AF (acc i)))) H1 t,#[_,rfl,xT _,AE,oA,sA],?_];rintro i m ys t ⟨rfl,hi,wg,I,q⟩;refine#[wg,?_];by_cases D:i < ds.length
   . refine .inr #[wd.go i t _ D I q,λx S y=>?_];obtain⟨yb,gb,d,e1,e2⟩:=wd.yld i t _ x S I q D y;have Rc:Rel K (M1.put A (.d (AF (acc i)))) (G4 v ρ) (L2.capt v σ) S:=((R.step X t1).step yb (q.trans gb)).capt;have ts:(ds.take (i+1)).filter c=(ds.take i).filter c++(if c d then [d] else []):=iv c ds i d e1;refine ho _ _ _ _ (he d (yN e1) _ (L2.capt v σ) S x _ Rc e2 λρ3 B U H4 G ig #[eM,b3] hext=>#[λi' v' md=>?_,?_]);. obtain⟨j,f1,f2⟩:=F0 md;rw[hext i' λhm=>hT i' hm j f1];exact md
     . subst eM;refine b3 U H4 _ G ?_;rintro b H5 M5 O L ⟨El,N,h5⟩;subst El;have sx:=((q.trans gb).trans ig).trans L;cases hb:c d with
       | false=>
         rw[hb] at N;subst N;rw[if_neg nft];obtain⟨ks,Y,Z⟩:=O A _ zU;have n:acc (i+1)=acc i:=by show JA f w ((ds.take (i+1)).filter c)=_;rw[ts,hb];simp[acc]
         refine#[ks,ds.length - (i+1),by lia,rfl,D,Y,?_,?_];. rw[n];exact O
         . rw[n];exact sx
       | true=>
         rw[hb] at N;subst N;rw[if_pos rfl];refine h5 hb U H5 _ (G.step O L) ?_;rintro y H6 z M6 o6 s6 oq ⟨ez,Md,h6⟩;subst ez Md;refine h6 U H6 _ ((G.step O L).step o6 oq) ?_;rintro y2 H7 z2 M7 o7 s7 wx ⟨Me,Mf⟩;subst Me Mf;obtain⟨ks,Y,Z⟩:=o7 A _ zU;obtain⟨w1,w2⟩:=F8 o7 zU (eQ (k:=f d) Z s7);have n:acc (i+1)=HR (acc i) (f d) (w d):=by show JA f w ((ds.take (i+1)).filter c)=_;rw[ts,hb,if_pos rfl,bT]
         have ac:ks.length < sizeLine:=by rw[K4 Z];unfold AF;rw[zX];refine zQ (zN iN (zN (yJ _ _) ?_)) hsz;rw[a0J];lia
         rw[yI] at w1 w2;refine#[ks,a1Z (f d),BD s6,Y,ac,ds.length - (i+1),by lia,rfl,D,AE,?_,?_];. rw[n];exact w1
         . rw[n];exact((sx.trans oq).trans wx).trans w2
   . have e:i=ds.length:=by lia
     subst e;refine .inl #[wd.stop t _ I q,k _ t (.loc A) _ I rfl (t1.trans q) ?_];have:=hq A hM;have n:acc ds.length=JA f w (ds.filter c):=by show JA f w ((ds.take ds.length).filter c)=_;rw[a1Q]
     rw[n];exact this
theorem QU (ho:J5 g T) (I:∀i∈T,∀j,v[i]?≠al (al j)) (h:DI K wi ρ M λds M1=>ds.length < aB/\∃(c:PyData->Bool) (f:PyData->Str) (w:PyData->PyData),((ds.filter c).map f).Nodup /\(∀d∈ds,∀e,DG K g d (G4 v ρ) e λr t=>t=e/\DT K O r t λb n=>n=e/\b=c d/\(c d=ap->DE K tk r n λy m=>y = .d (.str (f d))/\m=e/\DE K u r m λz N=>z = .d (w d)/\N=e)) /\∀p,M1 p=am->Q (.loc p) (M1.put p (.d (AF ((ds.filter c).map λd=>(f d,w d)))))) :
   DE K (QN v wi g O tk u) ρ M Q:=U8 ho I λB H QQ R k=>h B H QQ R (by rintro J ds x M1 S D Y ⟨a,c,f,w,nd,b,q⟩;exact k J ds x M1 S D Y #[a,c,f,w,b,λp hp=>by rw[oK nd];exact q p hp])
theorem oM (h:DA K t ρ M λxs M1=>∃x y,xs=[x,y]/\D.nx ((ρ.set i (al x)).set j (al y)) M1):DSt K (A3D i j t) ρ M D:=λz H E R n _ _ _=>
 h z H _ R λT m xs M1 p b e h1=>by obtain⟨x,y,rfl,q⟩:=h1;obtain⟨v,r,rfl,k,c⟩:=b;obtain⟨w,L,rfl,u,f⟩:=c;cases f;exact#[v,w,rfl,n _ M1 _ m (((R.step p e).set k i).set u j) e q]
end
end DL
namespace DL
open PySem PySem.Spec L2
inductive Deed where
 | put (x:Str) (p k:Int) | take (x:Str) | move (x:Str) (p:Int) | count (x:Str) (k:Int) | name (x y:Str) | split (x y:Str) (p k:Int) | join (x y:Str)
def Deed.d:Deed->PyData
 | .put x p k=>.tuple [.str (a0Q "put"),.str x,.int p,.int k]
 | .take x=>.tuple [.str (a0Q "take"),.str x]
 | .move x p=>.tuple [.str (a0Q "move"),.str x,.int p]
 | .count x k=>.tuple [.str (a0Q "count"),.str x,.int k]
 | .name x y=>.tuple [.str (a0Q "name"),.str x,.str y]
 | .split x y p k=>.tuple [.str (a0Q "split"),.str x,.str y,.int p,.int k]
 | .join x y=>.tuple [.str (a0Q "join"),.str x,.str y]
def Deed.names:Deed->List Str
 | .put x _ _=>[x] | .take x=>[x] | .move x _=>[x] | .count x _=>[x] | .name x y=>[x,y] | .split x y _ _=>[x,y] | .join x y=>[x,y]
def Deed.ok (D:Deed):Prop:=∀x∈D.names,CQ x
def GU:List (Str×Str):=[("put","npk"),("take","n"),("move","np"),("count","nk"),("name","nn"),("split","nnpk"),("join","nn")]
def QV:PyData->PyData | .str z=>iA (GU.lookup z) | _=>.none
def Y9 (z:Str):Bool:=z == "name" || z == "split" || z == "join"
def QW:PyData->PyData | .tuple (.str w::r)=>.tuple (r.take (if Y9 w then 2 else 1)) | d=>d
theorem oN (h:GU.lookup w=al f):(w = "put" /\ f = "npk")\/(w = "take" /\ f = "n")\/(w = "move" /\ f = "np")\/(w = "count" /\ f = "nk")\/(w = "name" /\ f = "nn")\/(w = "split" /\ f = "nnpk")\/(w = "join" /\ f = "nn"):=by
 unfold GU at h;simp only[a3W,List.lookup_nil] at h;split at h;. rename_i e;exact .inl #[eq_of_beq e,by injection h with h;exact h.symm]
 split at h;. rename_i e;exact .inr (.inl #[eq_of_beq e,by injection h with h;exact h.symm])
 split at h;. rename_i e;exact .inr (.inr (.inl #[eq_of_beq e,by injection h with h;exact h.symm]))
 split at h;. rename_i e;exact .inr (.inr (.inr (.inl #[eq_of_beq e,by injection h with h;exact h.symm])))
 split at h;. rename_i e;exact .inr (.inr (.inr (.inr (.inl #[eq_of_beq e,by injection h with h;exact h.symm]))))
 split at h;. rename_i e;exact .inr (.inr (.inr (.inr (.inr (.inl #[eq_of_beq e,by injection h with h;exact h.symm])))))
 split at h;. rename_i e;exact .inr (.inr (.inr (.inr (.inr (.inr #[eq_of_beq e,by injection h with h;exact h.symm])))))
 cases h
theorem QX (h:GU.lookup w=al f):f.cps.all (· < 128)=ap/\f.cps.size<=4/\Txt.startswith f (a0Q "nn")=Y9 w/\(Y9 w=ap->2<=f.cps.size/\f.cps[0]?=al 110/\f.cps[1]?=al 110)/\1<=f.cps.size:=by rcases oN h with ⟨rfl,rfl⟩ | ⟨rfl,rfl⟩ | ⟨rfl,rfl⟩ | ⟨rfl,rfl⟩ | ⟨rfl,rfl⟩ | ⟨rfl,rfl⟩ | ⟨rfl,rfl⟩ <;> decide +kernel
def oO (d:PyData):Prop:=∃w f r,d = .tuple (.str w::r)/\GU.lookup w=al f
theorem oP (D:Deed):oO D.d:=by cases D <;> exact#[_,_,_,rfl,rfl]
theorem oQ (D:Deed):QW D.d = .tuple (D.names.map .str):=by cases D <;> rfl
def bU (d:PyData):Prop:=∃D:Deed,d=D.d/\D.ok
def NR:FSp:=fn1 (λ_=>True) QV
def LH:FSp:=fn1 oO QW
theorem BX (h:CQ z):zH (.str z)=true:=D8 (D3 h) (by simp[a2Z])
def Deed.word:Deed->Str
 | .put .. => "put" | .take .. => "take" | .move .. => "move" | .count .. => "count" | .name .. => "name" | .split .. => "split" | .join .. => "join"
def Deed.fst:Deed->Str
 | .put x _ _=>x | .take x=>x | .move x _=>x | .count x _=>x | .name x _=>x | .split x _ _ _=>x | .join x _=>x
def Deed.rest:Deed->List PyData
 | .put _ p k=>[.int p,.int k] | .take _=>[] | .move _ p=>[.int p] | .count _ k=>[.int k] | .name _ y=>[.str y] | .split _ y p k=>[.str y,.int p,.int k] | .join _ y=>[.str y]
theorem Deed.d_eq (D:Deed):D.d = .tuple (.str D.word::.str D.fst::D.rest):=by cases D <;> rfl
theorem Deed.word_ok (D:Deed):zH (.str D.word)=true:=by cases D <;> (simp only[Deed.word];decide +kernel)
theorem BQ (a b:Str):a0W (.str a) (.str b)=(a==b):=by simp[a0W]
theorem OO {ss:List Str}(h:∀s∈ss,c0Q s=ap):zH (.list (ss.map .str))=true:=by
 refine D8 (J7 λd hd=>?_) ?_;. obtain⟨y,h1,rfl⟩:=zL.mp hd;exact h y h1
 . have:a2W (ss.map a0K)<=0:=J8 λd hd=>by obtain⟨y,h1,rfl⟩:=zL.mp hd;exact zR 0
   simp only[a2Z];lia
theorem eT {ys:List Str}{v:Int}(S:0<=v) (h1:v < ys.length):∃y,atI (ys.map a0K) v=al (.str y)/\y∈ys:=by
 obtain⟨n,rfl⟩:∃n:Nat,v=(n:Int):=#[v.toNat,by lia]
 have hn:n < ys.length:=by lia
 exact#[ys[n],AG (by rw[zF,zV hn];rfl),a1J hn]
def U9:FSp:=#[λt M=>∃e:List Int,t=[.d (.list (e.map .int))]/\e.length<=63/\∀i∈e,xJ i<=2 ^ 20,λt M y n=>y = .d (.bool ap)]
end DL
namespace DL
open PySem PySem.Spec L2
def MP:PyData->PyData->Bool
 | .str s,p=>if s == "n" then CI p else if s == "p" then LC p else NP p
 | _,p=>NP p
def oR:FSp:=fn2 (λa b=>∃c:Nat,a = .str #[(y9 [c])]/\c < 128/\okD b) λa b=>.bool (MP a b)
def HS (f:Str) (r:List PyData):Bool:=((CO f).zip r).all λp=>MP p.1 p.2
def B5:List PyData->Bool
 | .str w::r=>match GU.lookup w with
   | some f=>(r.length==f.cps.size)&&HS f r&&(!Y9 w||!a0W (r.getD 0 .none) (r.getD 1 .none))
   | none=>aw
 | _=>aw
def eU:PyData->Bool | .tuple ds=>B5 ds | _=>aw
def okP:PyData->Prop | .tuple ds=>ds.length<=5000/\∀d∈ds,okD d | _=>True
def NS:FSp:=fn1 okP λd=>.bool (eU d)
def A3n:PyData->PyData | .tuple [a,b]=>.bool (MP a b) | d=>d
theorem oS (f:Str) (r:List PyData):((XN (CO f) r).filter λ_=>ap).map A3n=(((CO f).zip r).map λp=>MP p.1 p.2).map .bool:=by rw[flt];unfold XN;rw[zD,zD];rfl
theorem oU (S:f.cps[0]?=al 110) (h1:f.cps[1]?=al 110) (h:HS f (a::b::r)=ap):CI a=ap/\CI b=true:=by
 unfold HS at h;rw[a8V] at h;have D:((CO f).zip (a::b::r))[0]?=al (.str #[(y9 [110])],a):=by rw[a9Z];exact#[by unfold CO;rw[zF];simp[S],rfl]
 have e:((CO f).zip (a::b::r))[1]?=al (.str #[(y9 [110])],b):=by rw[a9Z];exact#[by unfold CO;rw[zF];simp[h1],rfl]
 have q:∀d,MP (.str #[(y9 [110])]) d=CI d:=λd=>rfl;exact#[by rw[<-q];exact h _ (yN D),by rw[<-q];exact h _ (yN e)]
def YA:PyData->PyData
 | .tuple (.str w::r)=>if w == "put" then r.getD 0 .none else if w == "name" || w == "split" then r.getD 1 .none else .none
 | _=>.none
def UA:FSp:=fn1 bU YA
def Deed.isPut:Deed->Bool | .put ..=>ap | _=>aw
def Deed.isNS:Deed->Bool | .name ..=>ap | .split ..=>ap | _=>aw
theorem oV (D:Deed):(D.word==a0Q "put")=D.isPut:=by cases D <;> (simp only[Deed.word,Deed.isPut];decide +kernel)
theorem A4b (w a b:Str):decide (w∈[a,b])=(w==a||w==b):=by rw[a3Q];simp
theorem vF (D:Deed):(D.word==a0Q "name" || D.word==a0Q "split")=D.isNS:=by cases D <;> (simp only[Deed.word,Deed.isNS];decide +kernel)
theorem vG {D:Deed}(h:D.ok):zH (YA D.d)=true:=by
 cases D with
 | put x p k=>exact BX (h x (by simp[Deed.names]))
 | name x y=>exact BX (h y (by simp[Deed.names]))
 | split x y p k=>exact BX (h y (by simp[Deed.names]))
 | _=>rfl
end DL
namespace DL
open PySem PySem.Spec L2
def pcD (p c:Int):PyData:=.tuple [.int p,.int c]
def tsD (ts:List Th):List (Str×PyData):=ts.map λt=>(t.1,pcD t.2.1 t.2.2)
def E5 (ts:List Th) (k:Str) (p c:Int):List Th:=if (ts.any λt=>decide (t.1=k))=ap then ts.map (λt=>if t.1=k then (t.1,p,c) else t) else ts++[(k,p,c)]
def IT (ts:List Th) (k:Str):List Th:=ts.filter λt=>decide (t.1≠k)
def AA:List Th->Str->Option (Int×Int)
 | [],_=>am
 | t::r,k=>if t.1=k then al t.2 else AA r k
theorem CB (ts:List Th) (k:Str) (p c:Int):HR (tsD ts) k (pcD p c)=tsD (E5 ts k p c):=by
 unfold HR E5 tsD;have e:((ts.map λt=>(t.1,pcD t.2.1 t.2.2)).any λt=>decide (t.1=k))=ts.any λt=>decide (t.1=k):=by rw[List.any_map];rfl
 rw[e];split;. rw[zD,zD];apply yM;intro t _;show(if t.1=k then (t.1,pcD p c) else _)=_;simp only[Function.comp];split <;> rfl
 . simp
theorem GV (ts:List Th) (k:Str):U7 (tsD ts) k=tsD (IT ts k):=by unfold U7 IT tsD;rw[xU];rfl
theorem AR (k:Str):∀ts:List Th,BK (tsD ts) k=(AA ts k).map λv=>pcD v.1 v.2
 | []=>rfl
 | t::r=>by
   have U:=AR k r;unfold tsD at U ⊢;simp only[zI,BK,AA];split;. rfl
   . exact U
theorem E6 :∀{ts:List Th}{v:Int×Int},AA ts k=al v->(k,v)∈ts
 | t::r,v,h=>by
   unfold AA at h;split at h;. rename_i e;cases h;subst e;exact a0Z
   . exact yV _ (E6 h)
theorem FD :∀{ts:List Th},AA ts k=am↔k∉ts.map (·.1)
 | []=>by simp[AA]
 | t::r=>by
   unfold AA;rw[zI,yX];split;. rename_i e;simp[e]
   . rename_i e;rw[FD];constructor;. intro h q;rcases q with q | q;exact e q.symm;exact h q
     . intro h q;exact h (.inr q)
theorem HU :(AA ts k).isSome=decide (k∈ts.map (·.1)):=by
 cases h:AA ts k with
 | none=>rw[decide_eq_false (FD.mp h)];rfl
 | some v=>rw[decide_eq_true (zL.mpr #[_,E6 h,rfl])];rfl
theorem BY :∀{ts:List Th},(ts.map (·.1)).Nodup->t∈ts->AA ts t.1=al t.2
 | u::r,nd,h=>by
   unfold AA;rcases yX.mp h with rfl | h;. rw[if_pos rfl]
   . rw[zI,xV] at nd;rw[if_neg λe=>nd.1 (by rw[e];exact zL.mpr #[t,h,rfl])];exact BY nd.2 h
def bV (t:Th):List Th->List Th
 | []=>[t]
 | u::r=>if sl t.1 u.1=ap then t::u::r else u::bV t r
def BB:List Th->List Th
 | []=>[]
 | t::r=>bV t (BB r)
theorem NT (t:Th):∀ts:List Th,(bV t ts).Perm (t::ts)
 | []=>.refl _
 | u::r=>by
   unfold bV;split;. exact .refl _
   . exact((NT t r).cons u).trans (.swap _ _ _)
theorem BR:∀ts:List Th,(BB ts).Perm ts
 | []=>.refl _
 | t::r=>(NT t _).trans ((BR r).cons t)
theorem YB (t:Th):∀{ts:List Th},Ris (ts.map (·.1))->t.1∉ts.map (·.1)->Ris ((bV t ts).map (·.1))
 | [],_,_=>by simp[bV,Ris]
 | u::r,h,hn=>by
   unfold bV;unfold Ris at h;rw[zI,a5J] at h;rw[zI,yX] at hn;split
   . rename_i e;unfold Ris;rw[zI,zI,a5J,a5J];refine#[λx hx=>?_,h];rcases yX.mp hx with rfl | hx;. exact e
     . exact ML e (h.1 x hx)
   . rename_i e;have e':sl t.1 u.1=false:=by simpa using e
     have D:sl u.1 t.1=true:=by
       cases hq:sl u.1 t.1 with
       | true=>rfl
       | false=>exact absurd (F9 e' hq) λq=>hn (.inl q)
     unfold Ris;rw[zI,a5J];refine#[λx hx=>?_,YB t h.2 λq=>hn (.inr q)];have:=((NT t r).map (·.1)).mem_iff.mp hx;rcases yX.mp this with rfl | hx;. exact D
     . exact h.1 x hx
theorem FE:∀{ts:List Th},(ts.map (·.1)).Nodup->Ris ((BB ts).map (·.1))
 | [],_=>a8Q
 | t::r,nd=>by rw[zI,xV] at nd;exact YB t (FE nd.2) λq=>nd.1 (((BR r).map (·.1)).mem_iff.mp q)
theorem YC:∀{as bs:List Th},as.Perm bs->Ris (as.map (·.1))->Ris (bs.map (·.1))->as=bs
 | [],bs,p,_,_=>(List.nil_perm.mp p).symm
 | a::as,[],p,_,_=>by have:=p.length_eq;simp at this
 | a::as,b::bs,p,h1,t=>by
   unfold Ris at h1 t;rw[zI,a5J] at h1 t;have e:a=b:=by
     rcases yX.mp (p.mem_iff.mp (a0Z (a:=a) (l:=as))) with e | e;. exact e
     . rcases yX.mp (p.mem_iff.mpr (a0Z (a:=b) (l:=bs))) with e' | e';. exact e'.symm
       . have N:=h1.1 b.1 (zL.mpr #[b,e',rfl]);have n:=t.1 a.1 (zL.mpr #[a,e,rfl]);rw[QF N] at n;cases n
   subst e;rw[YC (List.Perm.cons_inv p) h1.2 t.2]
theorem UB (p:as.Perm bs) (h:Ris (as.map (·.1))):as=BB bs:=
 YC (p.trans (BR bs).symm) h (FE ((p.map (·.1)).nodup_iff.mp h.nodup))
theorem iO (h:Ris (w.map (·.1))):BB w=w:=(UB (.refl w) h).symm
def HV (ts:List Th) (x:Str) (k:Int):List Th:=match AA ts x with | some v=>E5 ts x v.1 (v.2+k) | none=>ts
def doT (ts:List Th):Deed->List Th
 | .put x p k=>E5 ts x p k
 | .take x=>IT ts x
 | .move x p=>match AA ts x with | some v=>E5 ts x p v.2 | none=>ts
 | .count x k=>HV ts x k
 | .name x y=>match AA ts x with | some v=>E5 (IT ts x) y v.1 v.2 | none=>ts
 | .split x y p k=>E5 (HV ts x (-k)) y p k
 | .join x y=>match AA ts y with | some v=>IT (HV ts x v.2) y | none=>ts
def Deed.made:Deed->Option Str | .put x _ _=>al x | .name _ y=>al y | .split _ y _ _=>al y | _=>am
def Deed.apart:Deed->Prop | .name x y=>x≠y | .split x y _ _=>x≠y | .join x y=>x≠y | _=>True
def Deed.placed:Deed->Prop | .put _ p _=>0<=p/\p<=999 | .move _ p=>0<=p/\p<=999 | .split _ _ p _=>0<=p/\p<=999 | _=>True
def Deed.real (D:Deed):Prop:=D.ok/\D.apart/\D.placed
theorem YD {D:Deed}(h:D.real):bU D.d:=#[D,rfl,h.1]
def AJ (ns:List Str) (D:Deed):Option Str:=D.names.find? λn=>decide (n∈ns)==decide (D.made=al n)
theorem D9 (h:AJ ns D=am):∀n∈D.names,(n∈ns)↔¬D.made=al n:=λn hn=>by have:=List.find?_eq_none.mp h n hn;by_cases h1:n∈ns <;> by_cases e:D.made=al n <;> simp_all
theorem vH (D:Deed):YA D.d=match D.made with | some x=>.str x | none=>.none:=by cases D <;> rfl
def B4 (ts:List Th):Deed->Deed
 | .put x _ _=>.take x
 | .take x=>match AA ts x with | some v=>.put x v.1 v.2 | none=>.take x
 | .move x p=>match AA ts x with | some v=>.move x v.1 | none=>.move x p
 | .count x k=>.count x (-k)
 | .name x y=>.name y x
 | .split x y _ _=>.join x y
 | .join x y=>match AA ts y with | some v=>.split x y v.1 v.2 | none=>.join x y
abbrev tsO (ts:List Th):MO:=.d (AF (tsD ts))
def KU (ts:List Th):Prop:=(ts.map (·.1)).Nodup/\ts.length < 63
def E7:FSp:=#[λt M=>∃w:List Th,t=[.d (wD w)]/\KU w,λt M y i=>∀w:List Th,t=[.d (wD w)]->∃p,M p=am/\y = .loc p/\i=M.put p (tsO w)]
def DQ:FSp:=#[λt M=>∃(p:Addr) (n:List Th) (D:Deed),t=[.loc p,.d D.d]/\M p=al (tsO n)/\D.real/\AJ (n.map (·.1)) D=am,λt M y i=>y = .d .none/\i=M]
def G6:FSp:=#[λt M=>∃(p:Addr) (n:List Th) (x:Str) (k:Int) (v:Int×Int),t=[.loc p,.d (.str x),.d (.int k)]/\M p=al (tsO n)/\AA n x=al v/\n.length < 64,
 λt M y i=>∀(p:Addr) (n:List Th) (x:Str) (k:Int),t=[.loc p,.d (.str x),.d (.int k)]->M p=al (tsO n)->y = .d .none/\i=M.put p (tsO (HV n x k))]
def MQ:FSp:=#[λt M=>∃(p:Addr) (n:List Th) (D:Deed),t=[.loc p,.d D.d]/\M p=al (tsO n)/\KU n/\D.real/\AJ (n.map (·.1)) D=am,
 λt M y i=>∀(p:Addr) (n:List Th) (D:Deed),t=[.loc p,.d D.d]->M p=al (tsO n)->y = .d .none/\i=M.put p (tsO (doT n D))]
def goD (w:List Th) (D:Deed):Prop:=KU w/\D.real/\AJ (w.map (·.1)) D=am
def VF:FSp:=#[λt M=>∃(w:List Th) (D:Deed),t=[.d (wD w),.d D.d]/\goD w D,λt M y i=>∀(w:List Th) (D:Deed),t=[.d (wD w),.d D.d]->y = .d (wD (BB (doT w D)))/\i=M]
theorem vI (h:thD t=thD u):t=u:=by obtain⟨a,b,c⟩:=t;obtain⟨k,j,e⟩:=u;simp only[thD,PyData.tuple.injEq,List.cons.injEq,PyData.str.injEq,PyData.int.injEq,and_true] at h;obtain⟨rfl,rfl,rfl⟩:=h;rfl
theorem OP:∀{v w:List Th},v.map thD=w.map thD->v=w
 | [],[],_=>rfl
 | [],_::_,h=>by simp at h
 | _::_,[],h=>by simp at h
 | a::v,b::w,h=>by rw[zI,zI,List.cons.injEq] at h;rw[vI h.1,OP h.2]
theorem NU (h:wD v=wD w):v=w:=OP (by unfold wD at h;exact PyData.tuple.inj h)
theorem CT {D:Deed}(h:D.d=E.d):D=E:=by
 cases D <;> cases E <;> simp only[Deed.d,PyData.tuple.injEq,List.cons.injEq,PyData.str.injEq,PyData.int.injEq,and_true,true_and,reduceCtorEq,and_false,false_and,List.nil_eq] at h <;>
   first
   | (obtain⟨_,h⟩:=h;first | (obtain⟨rfl,rfl,rfl,rfl⟩:=h;rfl) | (obtain⟨rfl,rfl,rfl⟩:=h;rfl) | (obtain⟨rfl,rfl⟩:=h;rfl) | (subst h;rfl))
   | (obtain⟨rfl,rfl,rfl,rfl⟩:=h;rfl) | (obtain⟨rfl,rfl,rfl⟩:=h;rfl) | (obtain⟨rfl,rfl⟩:=h;rfl) | (subst h;rfl)
   | exact absurd h.1 (by decide +kernel)
theorem A2B (h:pcD a b=pcD c d):a=c/\b=d:=by simp only[pcD,PyData.tuple.injEq,List.cons.injEq,PyData.int.injEq,and_true] at h;exact h
theorem eV:∀{ts e:List Th},tsO ts=tsO e->ts=e:=by
 intro ts e h;have h:AF (tsD ts)=AF (tsD e):=by injection h
 unfold AF tsD at h;rw[zD,zD] at h;have m:∀(ts e:List Th),ts.map ((λt:Str×PyData=>(a0K t.1,t.2))∘λt:Th=>(t.1,pcD t.2.1 t.2.2))=e.map ((λt:Str×PyData=>(a0K t.1,t.2))∘λt:Th=>(t.1,pcD t.2.1 t.2.2))->ts=e:=by
   intro ts;induction ts with
   | nil=>intro e h;cases e with | nil=>rfl | cons _ _=>simp at h
   | cons t ts U=>
     intro e h;cases e with
     | nil=>simp at h
     | cons u e=> rw[zI,zI,List.cons.injEq] at h;obtain⟨h1,p⟩:=h;simp only[Function.comp,Prod.mk.injEq,PyData.str.injEq] at h1;obtain⟨n,j⟩:=h1;obtain⟨i,r⟩:=A2B j;rw[U e p];obtain⟨a,b,c⟩:=t;obtain⟨k,f,g⟩:=u;simp only at n i r;rw[n,i,r]
 exact m ts e h
section
variable {M:Own}{Q:DS->Own->Prop}
theorem GG (h:KU w) (q:∀p,M p=am->Q (.loc p) (M.put p (tsO w))):[DS.d (wD w)].length=1/\E7.pre [.d (wD w)] M/\∀x i,E7.post [.d (wD w)] M x i->Q x i:=#[rfl,#[w,rfl,h],λx i h=>by obtain⟨p,h1,rfl,rfl⟩:=h w rfl;exact q p h1]
theorem YE (m:M p=al (tsO ts)) (hr:D.real) (g:AJ (ts.map (·.1)) D=am) (q:Q (.d .none) M):[DS.loc p,.d D.d].length=2/\DQ.pre [.loc p,.d D.d] M/\∀x i,DQ.post [.loc p,.d D.d] M x i->Q x i:=#[rfl,#[p,ts,D,rfl,m,hr,g],λx i h=>by obtain⟨rfl,rfl⟩:=h;exact q]
theorem QY (m:M p=al (tsO ts)) (r:AA ts x=al v) (hz:ts.length < 64) (q:Q (.d .none) (M.put p (tsO (HV ts x k)))):[DS.loc p,.d (.str x),.d (.int k)].length=3/\G6.pre [.loc p,.d (.str x),.d (.int k)] M/\∀Z i,G6.post [.loc p,.d (.str x),.d (.int k)] M Z i->Q Z i:=#[rfl,#[p,ts,x,k,v,rfl,m,r,hz],λZ i h=>by obtain⟨rfl,rfl⟩:=h p ts x k rfl m;exact q]
theorem YF (m:M p=al (tsO ts)) (hc:KU ts) (hr:D.real) (g:AJ (ts.map (·.1)) D=am) (q:Q (.d .none) (M.put p (tsO (doT ts D)))):[DS.loc p,.d D.d].length=2/\MQ.pre [.loc p,.d D.d] M/\∀x i,MQ.post [.loc p,.d D.d] M x i->Q x i:=#[rfl,#[p,ts,D,rfl,m,hc,hr,g],λx i h=>by obtain⟨rfl,rfl⟩:=h p ts D rfl m;exact q]
theorem iP (h:goD w D) (q:Q (.d (wD (BB (doT w D)))) M):[DS.d (wD w),.d D.d].length=2/\VF.pre [.d (wD w),.d D.d] M/\∀x i,VF.post [.d (wD w),.d D.d] M x i->Q x i:=#[rfl,#[w,D,rfl,h],λx i h=>by obtain⟨rfl,rfl⟩:=h w D rfl;exact q]
end
end DL
namespace DL
open PySem PySem.Spec L2
theorem SU (ds:List PyData):(ds.filter λ_=>ap)=ds:=List.filter_eq_self.mpr (by simp)
def A4c:PyData->PyData | .tuple [_,p,c]=>.tuple [p,c] | d=>d
theorem UC:∀{as bs:List Str},as.Perm bs->Ris as->Ris bs->as=bs
 | [],bs,p,_,_=>(List.nil_perm.mp p).symm
 | a::as,[],p,_,_=>by have:=p.length_eq;simp at this
 | a::as,b::bs,p,h1,t=>by
   unfold Ris at h1 t;rw[a5J] at h1 t;have e:a=b:=by
     rcases yX.mp (p.mem_iff.mp (a0Z (a:=a) (l:=as))) with e | e;. exact e
     . rcases yX.mp (p.mem_iff.mpr (a0Z (a:=b) (l:=bs))) with e' | e';. exact e'.symm
       . have N:=h1.1 b e';have n:=t.1 a e;rw[QF N] at n;cases n
   subst e;rw[UC (List.Perm.cons_inv p) h1.2 t.2]
def eY (ts:List Th):PyData->PyData
 | .str s=>match AA ts s with | some v=>.tuple [.str s,.int v.1,.int v.2] | none=>.none
 | d=>d
theorem iQ (nd:(ts.map (·.1)).Nodup) (p:ss.Perm (ts.map (·.1))) (h:xG ss=ap):(ss.map a0K).map (eY ts)=(BB ts).map thD:=by have n:ss.Nodup:=p.nodup_iff.mpr nd;have e:ss=(BB ts).map (·.1):=UC (p.trans ((BR ts).map (·.1)).symm) (bK h n) (FE nd);rw[e,zD,zD];apply yM;intro t u;have:=BY nd ((BR ts).mem_iff.mp u);simp only[Function.comp,eY,this];rfl
def wT (s:String):PyData:=.str (a0Q s)
theorem A2C (a b c:PyData):B5 [wT "put", a,b,c]=(CI a&&(LC b&&(NP c&&ap))&&ap):=rfl
theorem vJ (a:PyData):B5 [wT "take", a]=(CI a&&ap&&ap):=rfl
theorem vK (a b:PyData):B5 [wT "move", a,b]=(CI a&&(LC b&&ap)&&ap):=rfl
theorem oW (a b:PyData):B5 [wT "count", a,b]=(CI a&&(NP b&&ap)&&ap):=rfl
theorem vL (a b:PyData):B5 [wT "name", a,b]=(CI a&&(CI b&&ap)&&(!a0W a b)):=rfl
theorem vM (a b:PyData):B5 [wT "join", a,b]=(CI a&&(CI b&&ap)&&(!a0W a b)):=rfl
theorem oX (a b c d:PyData):B5 [wT "split", a,b,c,d]=(CI a&&(CI b&&(LC c&&(NP d&&ap)))&&(!a0W a b)):=rfl
theorem vN {D:Deed}(h:D.real):eU D.d=true:=by
 obtain⟨h1,nd,e⟩:=h;have T:∀x∈D.names,CI (.str x)=true:=λx hx=>nL (h1 x hx);have v:∀x y:Str,x≠y->a0W (.str x) (.str y)=false:=λx y hn=>by simp[a0W,hn]
 have J:∀p:Int,0<=p/\p<=999->LC (.int p)=true:=λp hp=>by show(decide (0<=p)&&decide (p<=999))=ap;rw[decide_eq_true hp.1,decide_eq_true hp.2];rfl
 cases D with
 | put x p k=>show B5 [wT "put", .str x,.int p,.int k]=ap;rw[A2C,T x (by simp[Deed.names]),J p e];rfl
 | take x=>show B5 [wT "take", .str x]=ap;rw[vJ,T x (by simp[Deed.names])];rfl
 | move x p=>show B5 [wT "move", .str x,.int p]=ap;rw[vK,T x (by simp[Deed.names]),J p e];rfl
 | count x k=>show B5 [wT "count", .str x,.int k]=ap;rw[oW,T x (by simp[Deed.names])];rfl
 | name x y=>show B5 [wT "name", .str x,.str y]=ap;rw[vL,T x (by simp[Deed.names]),T y (by simp[Deed.names]),v x y nd];rfl
 | split x y p k=>show B5 [wT "split", .str x,.str y,.int p,.int k]=ap;rw[oX,T x (by simp[Deed.names]),T y (by simp[Deed.names]),v x y nd,J p e];rfl
 | join x y=>show B5 [wT "join", .str x,.str y]=ap;rw[vM,T x (by simp[Deed.names]),T y (by simp[Deed.names]),v x y nd];rfl
theorem vO {D:Deed}(h:D.ok):okP D.d:=by
 have B:∀s:Str,(decide (s.cps.size<=5000)&&s.cps.toList.all (λc=>decide (c < 128)))=ap->okD (.str s):=λs h=>by simp only[a0V,decide_eq_true_eq,a8V] at h;exact h
 have e:∀x∈D.names,okD (.str x):=λx hx=>nH (h x hx);cases D <;> (refine#[by simp,?_];simp only[List.forall_mem_cons])
 . exact#[B _ (by decide +kernel),e _ (by simp[Deed.names]),trivial,trivial,by simp]
 . exact#[B _ (by decide +kernel),e _ (by simp[Deed.names]),by simp]
 . exact#[B _ (by decide +kernel),e _ (by simp[Deed.names]),trivial,by simp]
 . exact#[B _ (by decide +kernel),e _ (by simp[Deed.names]),trivial,by simp]
 . exact#[B _ (by decide +kernel),e _ (by simp[Deed.names]),e _ (by simp[Deed.names]),by simp]
 . exact#[B _ (by decide +kernel),e _ (by simp[Deed.names]),e _ (by simp[Deed.names]),trivial,trivial,by simp]
 . exact#[B _ (by decide +kernel),e _ (by simp[Deed.names]),e _ (by simp[Deed.names]),by simp]
theorem vP (D:Deed) (n:Str):a0W (.str n) (YA D.d)=decide (D.made=al n):=by
 rw[vH];cases h:D.made with
 | none=>simp[a0W]
 | some x=>simp only[a0W,Option.some.injEq];rw[a3Q];simp;exact eq_comm
theorem iR (a b:Bool):a0W (.bool a) (.bool b)=(a==b):=by cases a <;> cases b <;> rfl
theorem YG (h:x∈ts.map (·.1)):E5 ts x p c=ts.map λt=>if t.1=x then (t.1,p,c) else t:=by unfold E5;obtain⟨t,u,e⟩:=zL.mp h;rw[if_pos (List.any_eq_true.mpr #[t,u,by simpa using e])]
theorem MR (h:x∉ts.map (·.1)):E5 ts x p c=ts++[(x,p,c)]:=by unfold E5;rw[if_neg];intro e;obtain⟨t,u,e⟩:=List.any_eq_true.mp e;exact h (zL.mpr #[t,u,by simpa using e])
theorem QZ (h:x∈ts.map (·.1)):(E5 ts x p c).map (·.1)=ts.map (·.1):=by rw[YG h,zD];apply yM;intro t _;simp only[Function.comp];split <;> rfl
theorem BH (h:x∈ts.map (·.1)):∃v,AA ts x=al v:=by
 cases e:AA ts x with
 | none=>exact absurd h (FD.mp e)
 | some v=>exact#[v,rfl]
theorem eZ (h:AA ts x=al v):x∈ts.map (·.1):=zL.mpr #[_,E6 h,rfl]
theorem E8 :(HV ts x k).map (·.1)=ts.map (·.1):=by
 unfold HV;cases e:AA ts x with
 | none=>rfl
 | some v=>exact QZ (eZ e)
theorem oY :(HV ts x k).length=ts.length:=by have:=congrArg b9Q (E8 (ts:=ts) (x:=x) (k:=k));simpa using this
theorem HW {M:Own}{p p':Addr}{ts U:List Th}{D i:Deed}(m:M p=al (tsO ts)) (e:[DS.loc p,.d D.d]=[.loc p',.d i.d]) (t:M p'=al (tsO U)):p=p'/\ts=U/\D=i:=by simp only[List.cons.injEq,DS.loc.injEq,DS.d.injEq,and_true] at e;obtain⟨rfl,e⟩:=e;exact#[rfl,eV (Option.some.inj (m.symm.trans t)),CT e]
theorem HX {D:Deed}(e:[DS.d (wD w),.d D.d]=[.d (wD f),.d i.d]):w=f/\D=i:=by simp only[List.cons.injEq,DS.d.injEq,and_true] at e;exact#[NU e.1,CT e.2]
theorem CW (h:ts.length < 64):(tsD ts).length < sizeLine:=by unfold tsD;rw[zX];exact zP h (by decide)
theorem G7 (ts:List Th) (x:Str):(IT ts x).map (·.1)=(ts.map (·.1)).filter λn=>decide (n≠x):=by unfold IT;rw[xU];rfl
def VG (ns:List Str):Deed->List Str
 | .put x _ _=>ns++[x]
 | .take x=>ns.filter λn=>decide (n≠x)
 | .move _ _=>ns
 | .count _ _=>ns
 | .name x y=>(ns.filter λn=>decide (n≠x))++[y]
 | .split _ y _ _=>ns++[y]
 | .join _ y=>ns.filter λn=>decide (n≠y)
theorem MS (g:AJ ns D=am) (hn:n∈D.names) (x:D.made≠al n):n∈ns:=(D9 g n hn).mpr x
theorem LI (g:AJ ns D=am) (hn:n∈D.names) (x:D.made=al n):n∉ns:=λq=>(D9 g n hn).mp q x
theorem NV (hr:D.real) (g:AJ (ts.map (·.1)) D=am):(doT ts D).map (·.1)=VG (ts.map (·.1)) D:=by
 cases D with
 | put x p k=> show(E5 ts x p k).map (·.1)=_;rw[MR (LI g (by simp[Deed.names]) rfl),xI];rfl
 | take x=>exact G7 ts x
 | move x p=> obtain⟨v,S⟩:=BH (MS g (n:=x) (by simp[Deed.names]) (by simp[Deed.made]));simp only[doT,S];exact QZ (eZ S)
 | count x k=>exact E8
 | name x y=>
   obtain⟨v,S⟩:=BH (MS g (n:=x) (by simp[Deed.names]) (by simp[Deed.made];exact λe=>hr.2.1 e.symm));simp only[doT,S];have hy:y∉(IT ts x).map (·.1):=by rw[G7];intro q;exact LI g (n:=y) (by simp[Deed.names]) rfl (yL.mp q).1
   rw[MR hy,xI,G7];rfl
 | split x y p k=>
   show(E5 (HV ts x (-k)) y p k).map (·.1)=_;have hy:y∉(HV ts x (-k)).map (·.1):=by rw[E8];exact LI g (n:=y) (by simp[Deed.names]) rfl
   rw[MR hy,xI,E8];rfl
 | join x y=> obtain⟨v,S⟩:=BH (MS g (n:=y) (by simp[Deed.names]) (by simp[Deed.made]));simp only[doT,S];rw[G7,E8];rfl
theorem VH (nd:ns.Nodup) (g:AJ ns D=am):(VG ns D).Nodup:=by
 have t:∀{l:List Str}{y:Str},l.Nodup->y∉l->(l++[y]).Nodup:=λ{l y} h1 i=>by rw[List.nodup_append];exact#[h1,by simp,λa g b hb e=>by simp at hb;subst hb;subst e;exact i g]
 cases D with
 | put x p k=>exact t nd (LI g (by simp[Deed.names]) rfl)
 | take x=>exact nd.sublist a7K
 | move x p=>exact nd
 | count x k=>exact nd
 | name x y=>exact t (nd.sublist a7K) λq=>LI g (n:=y) (by simp[Deed.names]) rfl (yL.mp q).1
 | split x y p k=>exact t nd (LI g (n:=y) (by simp[Deed.names]) rfl)
 | join x y=>exact nd.sublist a7K
theorem R5 (ns:List Str) (D:Deed):(VG ns D).length<=ns.length+1:=by cases D <;> simp only[VG,yY,yR,b6V];all_goals first | lia | exact zN (yJ _ _) (a5K _) | exact Nat.add_le_add_right (yJ _ _) 1
theorem NW (h:goD ts D):((doT ts D).map (·.1)).Nodup/\(doT ts D).length < 64:=by obtain⟨⟨nd,r⟩,hr,g⟩:=h;have e:=NV hr g;refine#[by rw[e];exact VH nd g,?_];have h1:=R5 (ts.map (·.1)) D;have t:=congrArg b9Q e;simp only[zX] at h1 t;lia
end DL
namespace DL
open PySem PySem.Spec L2
theorem FF (ts:List Th) (x:Str) (p c:Int) (n:Str):AA (E5 ts x p c) n=if n=x then al (p,c) else AA ts n:=by
 by_cases h:x∈ts.map (·.1)
 . rw[YG h];induction ts with
   | nil=>simp at h
   | cons t r U=>
     rw[zI];by_cases e:t.1=x
     . rw[if_pos e];unfold AA;by_cases m:n=x;. subst m;rw[if_pos e,if_pos rfl]
       . have i:¬t.1=n:=λq=>m (q.symm.trans e);rw[if_neg i,if_neg m,if_neg i];by_cases hr:x∈r.map (·.1);. rw[U hr,if_neg m]
         . have b:(r.map λt=>if t.1=x then (t.1,p,c) else t)=r:=by
             conv=>rhs;rw[<-b2Q r]
             apply yM;intro u hu;rw[if_neg λq=>hr (by rw[<-q];exact zL.mpr #[u,hu,rfl])];rfl
           rw[b]
     . rw[if_neg e];have hr:x∈r.map (·.1):=by rw[zI,yX] at h;exact h.resolve_left λq=>e q.symm
       unfold AA;by_cases i:t.1=n;. rw[if_pos i,if_pos i,if_neg λq=>e (i.trans q)]
       . rw[if_neg i,if_neg i,U hr]
 . rw[MR h];have:∀ts:List Th,x∉ts.map (·.1)->AA (ts++[(x,p,c)]) n=if n=x then al (p,c) else AA ts n:=by
     intro ts;induction ts with
     | nil=>
       intro _;show(if x=n then _ else _)=_;by_cases e:n=x;. rw[if_pos e,if_pos e.symm]
       . rw[if_neg e,if_neg λq=>e q.symm]
     | cons t r U=>
       intro hx;rw[zI,yX] at hx;rw[List.cons_append];unfold AA;by_cases i:t.1=n;. rw[if_pos i,if_pos i,if_neg λq=>hx (.inl (i.trans q).symm)]
       . rw[if_neg i,if_neg i,U λq=>hx (.inr q)]
   exact this ts h
theorem NX (ts:List Th) (x n:Str):AA (IT ts x) n=if n=x then am else AA ts n:=by
 induction ts with
 | nil=>show am=_;split <;> rfl
 | cons t r U=>
   unfold IT at U ⊢;rw[a8W];by_cases e:t.1=x
   . rw[if_neg (by simp[e]),U];by_cases i:n=x;. rw[if_pos i,if_pos i]
     . rw[if_neg i,if_neg i]
       conv=>rhs;unfold AA
       rw[if_neg λq=>i (q.symm.trans e)]
   . rw[if_pos (by simpa using e)];unfold AA;rw[U];by_cases h:t.1=n;. rw[if_pos h,if_pos h,if_neg λq=>e (h.trans q)]
     . rw[if_neg h,if_neg h]
theorem R6 (ts:List Th) (x:Str) (k:Int) (n:Str):AA (HV ts x k) n=if n=x then (AA ts x).map λv=>(v.1,v.2+k) else AA ts n:=by
 unfold HV;cases h:AA ts x with
 | none=>
   by_cases e:n=x;. subst e;rw[if_pos rfl,h];rfl
   . rw[if_neg e]
 | some v=>rw[FF];rfl
theorem MT (nd:(ts.map (·.1)).Nodup) :t∈ts↔AA ts t.1=al t.2:=#[λh=>BY nd h,λh=>E6 h]
theorem iS (n1:(as.map (·.1)).Nodup) (p:as.Perm bs) (n:Str):AA as n=AA bs n:=by
 have m:(bs.map (·.1)).Nodup:=(p.map (·.1)).nodup_iff.mp n1;cases h:AA as n with
 | none=>
   cases e:AA bs n with
   | none=>rfl
   | some v=>exact absurd (zL.mpr #[_,p.mem_iff.mpr (E6 e),rfl]) (FD.mp h)
 | some v=>exact((MT m (t:=(n,v))).mp (p.mem_iff.mp (E6 h))).symm
theorem iT (n1:(as.map (·.1)).Nodup) (m:(bs.map (·.1)).Nodup) (h:∀n,AA as n=AA bs n):as.Perm bs:=by
 have nd:∀{l:List Th},(l.map (·.1)).Nodup->l.Nodup:=λ{l} h=>by unfold List.Nodup at h ⊢;rw[b2W] at h;exact h.imp λ{a b} q e=>q (by rw[e])
 rw[b3Q (nd n1) (nd m)];intro t;rw[MT n1,MT m,h]
theorem NY (nd:(ts.map (·.1)).Nodup) (e:Ris (w.map (·.1))) (h:∀n,AA ts n=AA w n):BB ts=w:=(UB (iT e.nodup nd λn=>(h n).symm) e).symm
theorem GW (nd:(ts.map (·.1)).Nodup) (n:Str):AA (BB ts) n=AA ts n:=
 iS (((BR ts).map (·.1)).nodup_iff.mpr nd) (BR ts) n
def DY (w:List Th):Prop:=Ris (w.map (·.1))/\∀t∈w,CQ t.1/\0<=t.2.1/\t.2.1<=999
theorem K5 (h:DY w) (e:AA w x=al v):CQ x/\0<=v.1/\v.1<=999:=h.2 _ (E6 e)
theorem CY {ts:List Th}{D:Deed}(hr:D.real) (g:AJ (ts.map (·.1)) D=am) (n:Str) :
   AA (doT ts D) n=match D with
     | .put x p k=>if n=x then al (p,k) else AA ts n
     | .take x=>if n=x then am else AA ts n
     | .move x p=>if n=x then (AA ts x).map λv=>(p,v.2) else AA ts n
     | .count x k=>if n=x then (AA ts x).map λv=>(v.1,v.2+k) else AA ts n
     | .name x y=>if n=y then AA ts x else if n=x then am else AA ts n
     | .split x y p k=>if n=y then al (p,k) else if n=x then (AA ts x).map λv=>(v.1,v.2 + -k) else AA ts n
     | .join x y=>if n=y then am else if n=x then (AA ts x).bind λv=>(AA ts y).map λu=>(v.1,v.2+u.2) else AA ts n:=by
 cases D with
 | put x p k=>exact FF _ _ _ _ _
 | take x=>exact NX _ _ _
 | move x p=> obtain⟨v,S⟩:=BH (MS g (n:=x) (by simp[Deed.names]) (by simp[Deed.made]));simp only[doT,S];exact FF _ _ _ _ _
 | count x k=>exact R6 _ _ _ _
 | name x y=> obtain⟨v,S⟩:=BH (MS g (n:=x) (by simp[Deed.names]) (by simp[Deed.made];exact λe=>hr.2.1 e.symm));simp only[doT,S];rw[FF,NX]
 | split x y p k=> show AA (E5 (HV ts x (-k)) y p k) n=_;rw[FF,R6]
 | join x y=> obtain⟨v,S⟩:=BH (MS g (n:=x) (by simp[Deed.names]) (by simp[Deed.made]));obtain⟨u,hu⟩:=BH (MS g (n:=y) (by simp[Deed.names]) (by simp[Deed.made]));simp only[doT,hu];rw[NX,R6,S];rfl
theorem here (h:goD w D) (hn:n∈D.names) (x:D.made≠al n):∃v,AA w n=al v:=BH (MS h.2.2 hn x)
theorem A2D (h:goD w D) (hn:n∈D.names) (x:D.made=al n):AA w n=none:=FD.mpr (LI h.2.2 hn x)
theorem R9 (h:∀n∈D.names,(n∈ns)↔¬D.made=al n):AJ ns D=none:=by unfold AJ;rw[List.find?_eq_none];intro n hn;have:=h n hn;by_cases h1:n∈ns <;> by_cases e:D.made=al n <;> simp_all
theorem BS :n∈ts.map (·.1)↔(AA ts n).isSome=true:=by rw[HU];simp
theorem YH (m:DY w) (hg:goD w D) (G:w.length < 60) :
   goD (BB (doT w D)) (B4 w D)/\BB (doT (BB (doT w D)) (B4 w D))=w/\B4 (BB (doT w D)) (B4 w D)=D/\DY (BB (doT w D))/\(BB (doT w D)).length<=w.length+1:=by
 have hr:=hg.2.1;have c:=hg.2.2;obtain⟨nd,_⟩:=NW hg;have L:∀n,AA (BB (doT w D)) n=AA (doT w D) n:=GW nd;have f:((BB (doT w D)).map (·.1)).Nodup:=((BR _).map (·.1)).nodup_iff.mpr nd;have q:(BB (doT w D)).length<=w.length+1:=by rw[(BR _).length_eq];have h1:=R5 (w.map (·.1)) D;have b:=congrArg b9Q (NV hr c);simp only[zX] at h1 b;lia
 have O:DY (BB (doT w D)):=by
   refine#[FE nd,λt I=>?_];have hk:AA (doT w D) t.1=al t.2:=by rw[<-L];exact(MT f).mp I
   rw[CY hr c] at hk;have old:∀{n:Str}{v:Int×Int},AA w n=al v->CQ n/\0<=v.1/\v.1<=999:=λe=>K5 m e;cases D with
   | put x p k=>
     dsimp only at hk;split at hk;. rename_i e;have hk:=Option.some.inj hk;rw[e,<-hk];exact#[hr.1 x (by simp[Deed.names]),hr.2.2.1,hr.2.2.2]
     . exact old hk
   | take x=>
     dsimp only at hk;split at hk;. cases hk
     . exact old hk
   | move x p=>
     dsimp only at hk;split at hk;. rename_i e;obtain⟨v,S,j⟩:=Option.map_eq_some_iff.mp hk;rw[e,<-j];exact#[(old S).1,hr.2.2.1,hr.2.2.2]
     . exact old hk
   | count x k=>
     dsimp only at hk;split at hk;. rename_i e;obtain⟨v,S,j⟩:=Option.map_eq_some_iff.mp hk;rw[e,<-j];exact#[(old S).1,(old S).2]
     . exact old hk
   | name x y=>
     dsimp only at hk;split at hk;. rename_i e;rw[e];exact#[hr.1 y (by simp[Deed.names]),(old hk).2]
     . split at hk;. cases hk
       . exact old hk
   | split x y p k=>
     dsimp only at hk;split at hk;. rename_i e;have hk:=Option.some.inj hk;rw[e,<-hk];exact#[hr.1 y (by simp[Deed.names]),hr.2.2.1,hr.2.2.2]
     . split at hk;. rename_i e;obtain⟨v,S,j⟩:=Option.map_eq_some_iff.mp hk;rw[e,<-j];exact#[(old S).1,(old S).2]
       . exact old hk
   | join x y=>
     dsimp only at hk;split at hk;. cases hk
     . split at hk;. rename_i e;obtain⟨v,S,j⟩:=Option.bind_eq_some_iff.mp hk;obtain⟨u,hu,N⟩:=Option.map_eq_some_iff.mp j;rw[e,<-N];exact#[(old S).1,(old S).2]
       . exact old hk
 have core:goD (BB (doT w D)) (B4 w D)/\(∀n,AA (doT (BB (doT w D)) (B4 w D)) n=AA w n)/\B4 (BB (doT w D)) (B4 w D)=D:=by
   have M:KU (BB (doT w D)):=#[f,by lia]
   have LD:∀n,AA (BB (doT w D)) n=_:=λn=>(L n).trans (CY hr c n);have mk:∀B:Deed,B.real->(∀n∈B.names,((AA (BB (doT w D)) n).isSome=ap)↔¬B.made=al n)->goD (BB (doT w D)) B:=λB h1 b=>#[M,h1,R9 λn hn=>BS.trans (b n hn)]
   cases D with
   | put x p k=>
     have hx:=A2D hg (n:=x) (by simp[Deed.names]) rfl;have g:goD (BB (doT w (.put x p k))) (.take x):=mk (.take x) #[λn hn=>hr.1 n hn,trivial,trivial] λn hn=>by simp only[Deed.names,b1Z] at hn;subst hn;rw[LD];simp[Deed.made]
     refine#[g,λn=>?_,?_]
     . show AA (doT (BB (doT w (.put x p k))) (.take x)) n=_;rw[CY g.2.1 g.2.2];dsimp only;rw[LD];dsimp only;by_cases e:n=x;. rw[if_pos e,e,hx]
       . rw[if_neg e,if_neg e]
     . have Z:AA (BB (doT w (.put x p k))) x=al (p,k):=by rw[LD];simp
       simp only[B4,Z]
   | take x=>
     obtain⟨v,S⟩:=here hg (n:=x) (by simp[Deed.names]) (by simp[Deed.made]);have i:B4 w (.take x) = .put x v.1 v.2:=by simp only[B4,S]
     rw[i];have g:goD (BB (doT w (.take x))) (.put x v.1 v.2):=mk (.put x v.1 v.2) #[λn hn=>hr.1 n hn,trivial,(K5 m S).2] λn hn=>by simp only[Deed.names,b1Z] at hn;subst hn;rw[LD];simp[Deed.made]
     refine#[g,λn=>?_,rfl];rw[CY g.2.1 g.2.2];dsimp only;rw[LD];dsimp only;by_cases e:n=x;. rw[if_pos e,e,S]
     . rw[if_neg e,if_neg e]
   | move x p=>
     obtain⟨v,S⟩:=here hg (n:=x) (by simp[Deed.names]) (by simp[Deed.made]);have i:B4 w (.move x p) = .move x v.1:=by simp only[B4,S]
     rw[i];have Z:AA (BB (doT w (.move x p))) x=al (p,v.2):=by rw[LD];simp[S]
     have g:goD (BB (doT w (.move x p))) (.move x v.1):=mk (.move x v.1) #[λn hn=>hr.1 n hn,trivial,(K5 m S).2] λn hn=>by simp only[Deed.names,b1Z] at hn;subst hn;rw[Z];simp[Deed.made]
     refine#[g,λn=>?_,by simp only[B4,Z]];rw[CY g.2.1 g.2.2];dsimp only;rw[Z];by_cases e:n=x;. rw[if_pos e,e,S];rfl
     . rw[if_neg e,LD];dsimp only;rw[if_neg e]
   | count x k=>
     obtain⟨v,S⟩:=here hg (n:=x) (by simp[Deed.names]) (by simp[Deed.made]);have i:B4 w (.count x k) = .count x (-k):=rfl;rw[i];have Z:AA (BB (doT w (.count x k))) x=al (v.1,v.2+k):=by rw[LD];simp[S]
     have g:goD (BB (doT w (.count x k))) (.count x (-k)):=mk (.count x (-k)) #[λn hn=>hr.1 n hn,trivial,trivial] λn hn=>by simp only[Deed.names,b1Z] at hn;subst hn;rw[Z];simp[Deed.made]
     refine#[g,λn=>?_,by simp only[B4,Int.neg_neg]];rw[CY g.2.1 g.2.2];dsimp only;rw[Z];by_cases e:n=x;. rw[if_pos e,e,S];show al (v.1,v.2+k + -k)=al v;rw[Int.add_neg_cancel_right]
     . rw[if_neg e,LD];dsimp only;rw[if_neg e]
   | name x y=>
     have J:x≠y:=hr.2.1;obtain⟨v,S⟩:=here hg (n:=x) (by simp[Deed.names]) (by simp[Deed.made];exact λe=>J e.symm);have hy:=A2D hg (n:=y) (by simp[Deed.names]) rfl;have i:B4 w (.name x y) = .name y x:=rfl;rw[i];have r:AA (BB (doT w (.name x y))) y=al v:=by rw[LD];simp[S]
     have Z:AA (BB (doT w (.name x y))) x=none:=by rw[LD];simp[J]
     have g:goD (BB (doT w (.name x y))) (.name y x):=mk (.name y x) #[λn hn=>hr.1 n (by simp[Deed.names] at hn ⊢;exact hn.symm),λe=>J e.symm,trivial] λn hn=>by
       simp only[Deed.names,yX,xW,or_false] at hn;rcases hn with rfl | rfl;. rw[r];simp[Deed.made];exact J
       . rw[Z];simp[Deed.made]
     refine#[g,λn=>?_,rfl];rw[CY g.2.1 g.2.2];dsimp only;rw[r];by_cases e:n=x;. rw[if_pos e,e,S]
     . rw[if_neg e];by_cases j:n=y;. rw[if_pos j,j,hy]
       . rw[if_neg j,LD];dsimp only;rw[if_neg j,if_neg e]
   | split x y p k=>
     have J:x≠y:=hr.2.1;obtain⟨v,S⟩:=here hg (n:=x) (by simp[Deed.names]) (by simp[Deed.made];exact λe=>J e.symm);have hy:=A2D hg (n:=y) (by simp[Deed.names]) rfl;have i:B4 w (.split x y p k) = .join x y:=rfl;rw[i];have r:AA (BB (doT w (.split x y p k))) y=al (p,k):=by rw[LD];simp
     have Z:AA (BB (doT w (.split x y p k))) x=al (v.1,v.2 + -k):=by rw[LD];simp[J,S]
     have g:goD (BB (doT w (.split x y p k))) (.join x y):=mk (.join x y) #[λn hn=>hr.1 n hn,J,trivial] λn hn=>by
       simp only[Deed.names,yX,xW,or_false] at hn;rcases hn with rfl | rfl;. rw[Z];simp[Deed.made]
       . rw[r];simp[Deed.made]
     refine#[g,λn=>?_,by simp only[B4,r]];rw[CY g.2.1 g.2.2];dsimp only;rw[Z,r];by_cases e:n=y;. rw[if_pos e,e,hy]
     . rw[if_neg e];by_cases j:n=x;. rw[if_pos j,j,S];show al (v.1,v.2 + -k+k)=al v;rw[Int.neg_add_cancel_right]
       . rw[if_neg j,LD];dsimp only;rw[if_neg e,if_neg j]
   | join x y=>
     have J:x≠y:=hr.2.1;obtain⟨v,S⟩:=here hg (n:=x) (by simp[Deed.names]) (by simp[Deed.made]);obtain⟨u,hu⟩:=here hg (n:=y) (by simp[Deed.names]) (by simp[Deed.made]);have i:B4 w (.join x y) = .split x y u.1 u.2:=by simp only[B4,hu]
     rw[i];have r:AA (BB (doT w (.join x y))) y=none:=by rw[LD];simp
     have Z:AA (BB (doT w (.join x y))) x=al (v.1,v.2+u.2):=by rw[LD];simp[J,S,hu]
     have g:goD (BB (doT w (.join x y))) (.split x y u.1 u.2):=mk (.split x y u.1 u.2) #[λn hn=>hr.1 n hn,J,(K5 m hu).2] λn hn=>by
       simp only[Deed.names,yX,xW,or_false] at hn;rcases hn with rfl | rfl;. rw[Z];simp[Deed.made];exact λe=>J e.symm
       . rw[r];simp[Deed.made]
     refine#[g,λn=>?_,rfl];rw[CY g.2.1 g.2.2];dsimp only;rw[Z];by_cases e:n=y;. rw[if_pos e,e,hu]
     . rw[if_neg e];by_cases j:n=x;. rw[if_pos j,j,S];show al (v.1,v.2+u.2 + -u.2)=al v;rw[Int.add_neg_cancel_right]
       . rw[if_neg j,LD];dsimp only;rw[if_neg e,if_neg j]
 obtain⟨h,z,T⟩:=core;exact#[h,NY (NW h).1 m.1 z,T,O,q]
end DL
namespace DL
open PySem PySem.Spec L2
def BN (w:List Th) (D:Deed):List Th:=BB (doT w D)
def BC:List Th->List Deed->Prop
 | _,[]=>True
 | w,D::r=>goD w D/\BC (BN w D) r
def DF:List Th->List Deed->List Th
 | w,[]=>w
 | w,D::r=>DF (BN w D) r
theorem UD:∀{Ds:List Deed}{w:List Th}{D:Deed},BC w Ds->goD (DF w Ds) D->BC w (Ds++[D])
 | [],_,_,_,h=>#[h,trivial]
 | _::_,_,_,h,g=>#[h.1,UD h.2 g]
theorem RA:∀{Ds:List Deed}{w:List Th}{D:Deed},DF w (Ds++[D])=BN (DF w Ds) D
 | [],_,_=>rfl
 | _::Ds,w,D=>RA (Ds:=Ds)
def AK (ys:List Str):Prop:=(∀z∈ys,CQ z)/\ys.Nodup/\ys.length<=26
def C7 (ys:List Str):PyData:=.list (ys.map .str)
theorem iU (t:DY w) (hg:goD w D) (r:w.length < 60):DY (BN w D)/\(BN w D).length<=w.length+1:=by obtain⟨_,_,_,h1,e⟩:=YH t hg r;exact#[h1,e]
theorem RB (h:C7 as=C7 bs):as=bs:=J9 (by unfold C7 at h;exact PyData.list.inj h)
def wB2 (t:Th):Str×List PyData:=(t.1,[.int t.2.1,.int t.2.2])
def unB (u:Str×List PyData):Th:=match u with | (a,[.int p,.int c])=>(a,p,c) | (a,_)=>(a,0,0)
theorem oZ (w:List Th):(w.map wB2).map NQ=w.map thD:=by rw[zD];rfl
theorem p6 {ts:List (Str×List PyData)}(h:ts.Perm (w.map wB2)):(ts.map unB).Perm w/\ts.map NQ=(ts.map unB).map thD/\(ts.map unB).map (·.1)=ts.map (·.1):=by
 have e:(w.map wB2).map unB=w:=by rw[zD];exact b2Q _
 refine#[by have:=h.map unB;rw[e] at this;exact this,?_,?_];. rw[zD];apply yM;intro u hu;obtain⟨t,_,rfl⟩:=zL.mp (h.mem_iff.mp hu);rfl
 . rw[zD];apply yM;intro u hu;obtain⟨t,_,rfl⟩:=zL.mp (h.mem_iff.mp hu);rfl
theorem bW {ts:List (Str×List PyData)}(h:ts.Pairwise λx y=>x.1.cps.toList < y.1.cps.toList):Ris (ts.map (·.1)):=by unfold Ris;rw[b2W];exact h.imp λ{a b} q=>by rw[<-A3j];exact decide_eq_true q
def wsF (w:List Th) (Ds:List Deed) (k:Nat):List Th:=DF w (Ds.take k)
theorem f6 (h:Ds[k]?=al D):wsF w Ds (k+1)=BN (wsF w Ds k) D:=by unfold wsF;rw[a1V,h];exact RA
theorem K6:∀{Ds:List Deed}{w:List Th}{k:Nat},BC w Ds->DY w->w.length+Ds.length < 60->k<=Ds.length->DY (wsF w Ds k)/\(wsF w Ds k).length<=w.length+k/\∀D,Ds[k]?=al D->goD (wsF w Ds k) D
 | [],w,k,_,M,_,hk=>by
   have e:k=0:=by simpa using hk
   subst e;exact#[M,zR _,λD h=>by simp at h]
 | D::r,w,0,hb,M,_,_=>#[M,zR _,λi h=>by simp at h;subst h;exact hb.1]
 | D::r,w,k+1,hb,M,n,hk=>by
   have m:w.length+r.length+1 < 60:=by simpa [Nat.add_assoc] using n
   obtain⟨t,Q⟩:=iU M hb.1 (by lia);obtain⟨a,b,c⟩:=K6 (Ds:=r) (w:=BN w D) (k:=k) hb.2 t (by lia) (by simpa using hk);have e:wsF w (D::r) (k+1)=wsF (BN w D) r k:=rfl;rw[e];exact#[a,by lia,λi h=>c i (by simpa using h)]
def bkF (w:List Th) (Ds:List Deed) (j:Nat):PyData:=match Ds[j]? with | some D=>(B4 (wsF w Ds j) D).d | none=>.none
def bkL (w:List Th) (Ds:List Deed) (k:Nat):List PyData:=(a2Q k).map (bkF w Ds)
theorem p7 :bkL w Ds (k+1)=bkL w Ds k++[bkF w Ds k]:=by unfold bkL;rw[List.range_succ,xI];rfl
theorem vQ :(bkL w Ds k).length=k:=by simp[bkL]
end DL
namespace L2
open PySem PySem.Spec PyProof.Rows
def A3o:List Nat:=[0,1,2,3,4,5,6,7,8,9,10,11,12,13,14,15,16,17,18,19,20,21,22,23]
theorem p9 :∀(l:List Str) (k n:Nat),(l.zip (List.range' k n)).lookup x=al i->k<=i/\l[i - k]?=al x
 | [],_,_,h=>by cases h
 | _::_,_,0,h=>by cases h
 | a::r,k,n+1,h=>by
   rw[List.range'_succ,a9Q,a3W] at h;split at h;. rename_i e;have h:=Option.some.inj h;subst h;rw[Nat.sub_self];exact#[zR _,by rw[eq_of_beq e];rfl]
   . obtain⟨h1,t⟩:=p9 r (k+1) n h;refine#[by lia,?_];rw[show i - k=(i - (k+1))+1 by lia];exact t
theorem RC {l:List Str}(h:(l.zip A3o).lookup x=al i):l[i]?=al x:=(p9 l 0 24 h).2
theorem pvx {X:Cx}{i:Nat}{x:Str}{pos:ew}(h:(X.N.zip A3o).lookup x=al i) (S:Vis X.env.scope x) (hd:(x==("__debug__":Str))=false:=by decide)
   (e:(x==("__classdict__":Str))=false:=by decide):PE X (.Name x pos) (X3 i):=l0 (RC h) S hd e
end L2
namespace DL
open PySem PySem.Spec L2
theorem pA (h:(zH (.str a)&&zH (.str b)&&(a0W (.str a) (.str b)==t))=ap) (q:Q (.d (.bool t)) M):D2 K (SO K aw) (.d (.str a)) (.d (.str b)) M Q:=by simp only[a0V,beq_iff_eq] at h;exact AZ h.1.1 h.1.2 (by rw[if_neg nft,h.2];exact q)
end DL
namespace L2
open PySem PySem.Spec
def A3p (scope:fc) (NC:List Str):Bool:=(NC.all λx=>(scope.names.lookup x).isSome)&&scope.names.all λy=>!(y.2==.local||y.2==.free||y.2==.cell)||y.1==a0Q ".0" || NC.contains y.1
theorem JB {X:Cx}{scope:fc}{NC:List Str}{v:List (Option Nat)}{t:fc}{ON:List Str}(_:A3p scope NC=ap) (h:mR t ON scope NC v=ap) (e:X.env.scope=t) (D:X.N=ON):CSc X scope NC v:=CSc.of h e D
end L2
namespace DL
open PySem PySem.Spec L2
section
theorem OQ :∀{bs:List Int},DVs K H W (bs.map b8Z) (bs.map V.int)
 | []=>DVs.nil
 | b::bs=>DVs.cons (by unfold DV;rfl) OQ
end
end DL
namespace XC
open PySem PySem.Spec
def MU (h:cr) (e:Addr) (cls:ao) (dd:Option Addr) (Q:ao) (T:Option Addr) (i:ao):Prop:=∃c t,h.get? e=al c/\c.cls=cls/\c.dict=dd/\c.data = .fields t/\t[2]?=al Q /\
   match T with
   | none=>t[1]?=al .none
   | some T=>t[1]?=al (.ref T)/\T≠e/\∃J n,h.get? T=al J/\J.data = .fields n/\n[3]?=al i
structure Moved (fs ch:List Addr) (h h':cr):Prop where
 keep:∀b o,h.get? b=al o->b∉fs->b∉ch->h'.get? b=al o
 slot:∀b o,h.get? b=al o->b∉ch->∃sl,h'.get? b=al { o with slots:=sl }
 there:∀b o,h.get? b=al o->∃o',h'.get? b=al o'
theorem Moved.refl (fs ch:List Addr) (h:cr):Moved fs ch h h:=#[λ_ _ e _ _=>e,λ_ o e _=>#[o.slots,e],λ_ o e=>#[o,e]]
theorem Moved.trans {fs ch:List Addr}{h h1 h2:cr}(a:Moved fs ch h h1) (b:Moved fs ch h1 h2):Moved fs ch h h2 where
 keep:=λc o e n m=>b.keep c o (a.keep c o e n m) n m
 slot:=λc o e m=>by obtain⟨sl,e1⟩:=a.slot c o e m;obtain⟨zz,e2⟩:=b.slot c _ e1 m;exact#[zz,e2]
 there:=λc o e=>by obtain⟨o',e1⟩:=a.there c o e;exact b.there c o' e1
theorem Moved.mono (a:Moved fs ch h h') (f:∀b∈fs,b∈i) (g:∀b∈ch,b∈t):Moved i t h h':=#[λb o e n m=>a.keep b o e (λz=>n (f b z)) λz=>m (g b z),λb o e m=>a.slot b o e λz=>m (g b z),a.there]
theorem Moved.drop (a:Moved fs ch h h') (g:∀b∈ch,b∈t\/h.get? b=am):Moved fs t h h':=#[λb o e n m=>a.keep b o e n λz=>(g b z).elim m λq=>by(rw[q] at e;cases e),λb o e m=>a.slot b o e λz=>(g b z).elim m λq=>by(rw[q] at e;cases e),a.there]
theorem Moved.frames (a:Moved fs ch h h') (r:h.FunFrames base l) (hc:∀b∈ch,b∉l.filterMap (·.frame)):h'.FunFrames base l:=by
 induction l with
 | nil=>trivial
 | cons env rest U=> obtain⟨hk,⟨L,o,M,hn,ho,hd⟩,hr⟩:=r;obtain⟨sl,e⟩:=a.slot L o ho λz=>hc L z (by rw[a5X,M];exact .head _);exact#[hk,#[L,_,M,hn,e,hd],U hr λb z q=>hc b z (by rw[a5X,M];exact .tail _ q)]
theorem G8 {o:cE}(f:Array ao->Array ao) (hd:o.data = .fields vs):(o.mapFields f).isFreed=false:=Obj.isFreed_of_fields (b1J hd f)
theorem pB {o:cE}(f:Array ao->Array ao) (hd:o.data = .fields vs):o.mapFields f={ o with data:=.fields (f vs) }:=by obtain⟨c,d,B,sl⟩:=o;cases hd;rfl
theorem E9 (f:Array ao->Array ao) (ho:h.get? a=al o) (hd:o.data = .fields vs) (fs:List Addr):Moved fs [a] h (h.update a (b2V f)):=by
 have k:∀b u,h.get? b=al u->b∉[a]->(h.update a (b2V f)).get? b=al u:=λb u e m=>by rw[yC _ _ (λz=>m (by simp[z]))];exact e
 refine#[λb u e _ m=>k b u e m,λb u e m=>#[u.slots,k b u e m],λb u e=>?_];by_cases q:b=a;. subst q;exact#[_,a3Z _ ho (G8 f hd)]
 . exact#[u,k b u e (by simp[q])]
section
variable {M:Model}{A:ca}{E:ao->aq->Prop}{s:aq}{base:cr}{env:i3}{outer:List i3}{L e:Addr}{cls ar:ao}{dd:Option Addr}{T:Option Addr}
theorem GY {T:Addr}(x:MU s.heap e cls dd ar (al T) n) (h:∀h',MU h' e cls dd ar (al T) .none->Moved [] [T] s.heap h'->Q () { s with heap:=h' }):wpAny M A (setFlight (.ref e) am) Q E s:=by obtain⟨c,m,he,hc,r,hd,S,h1,t,p,i,X,u,J⟩:=x;unfold setFlight;refine zZ (bf he hd h1 ?_);rw[if_pos (show(a0X T != a1X)=ap from by simp)];have hsz:3 < i.size:=(Array.getElem?_eq_some_iff.mp J).1;refine dl X u hsz (h _ #[c,m,?_,hc,r,hd,S,h1,t,_,_,a3Z _ X (G8 _ u),b1J u _,by simp[hsz]] (E9 _ X u []));rw[yC _ _ t];exact he
theorem YI (j:A.frames=al (env::outer)) (p:s.heap.FunFrames base (env::outer)) (k:env.frame=al L) (he:s.heap.get? e=al c) (hd:c.data = .fields vs) (hsz:1 < vs.size) (S:vs[2]?=al ar) (h:∀h' r,MU h' e c.cls c.dict ar (al r) (dk L)->s.heap.get? r=am->s.heap.objs.size<=r->Moved ((env::outer).filterMap (·.frame)) [e] s.heap h'->Q () { s with heap:=h' }) :
   wpAny M A (do let a <- frameOf env;let pl <- entryPlaceOf L hadNext;let b <- EntryCells.newEntry head a .none (dk L) .none pl;setField (.ref e) 1 b) Q E s:=by
 have g:e∉(env::outer).filterMap (·.frame):=λx=>by obtain⟨_,o,ho,f⟩:=p.mem x;rw[he] at ho;injection ho with ho;subst ho;exact f vs hd
 refine zZ (wpAny_frameOf_fun j p k λt O=>?_);refine zZ (wpAny_entryPlaceOf λpl v=>?_);unfold EntryCells.newEntry newFields;refine zZ (xM ?_ (v.sizeOk5 _ _ _ _ _));have m:t.get? e=al c:=(O.2.1 e g).trans he;generalize X:({ cls:=.type "traceback", dict:=am,data:=.fields ([head,.ref L,.none,dk L,.none]++(if pl.isEmpty then b3W 6 a1X else pl)).toArray }:cE)=u;have i:=zW (h:=t) u m;have y:t.objs.size≠e:=a5W (zM m);refine dl i hd hsz (h _ t.objs.size #[_,_,a3Z _ i (G8 _ hd),?_,?_,b1J hd _,?_,?_,y,u,([head,.ref L,.none,dk L,.none]++(if pl.isEmpty then b3W 6 a1X else pl)).toArray,?_,?_,?_] ?_ ?_ ?_);. rw[pB _ hd]
 . rw[pB _ hd]
 . rw[Array.getElem?_setIfInBounds_ne (by decide)];exact S
 . simp[hsz]
 . rw[yC _ _ (a4Z y)];exact yZ t (by rw[<-X];rfl)
 . rw[<-X]
 . simp
 . rw[O.1];exact Heap.get?_none_of_le (zR _)
 . rw[O.1];exact zR _
 . have N:Moved ((env::outer).filterMap (·.frame)) [e] s.heap t:=#[λb o q n _=>(O.2.1 b n).trans q,λb o q _=>O.2.2 b o q,λb o q=>let #[sl,z]:=O.2.2 b o q;#[_,z]]
   have I:Moved ((env::outer).filterMap (·.frame)) [e] t (t.push u):=#[λb o q _ _=>zW _ q,λb o q _=>#[o.slots,zW _ q],λb o q=>#[o,zW _ q]]
   exact(N.trans I).trans (E9 _ i hd _)
theorem vR (m:A.frames=al (env::outer)) (r:s.heap.FunFrames base (env::outer)) (i:env.frame=al L) (x:MU s.heap e cls dd ar T .none) (h:∀h' t,MU h' e cls dd ar (al t) (dk L)->s.heap.get? t=am->s.heap.objs.size<=t->Moved ((env::outer).filterMap (·.frame)) (e::T.toList) s.heap h'->Q () { s with heap:=h' }) :
   wpAny M A (g0 (.ref e) env) Q E s:=by
 obtain⟨N,O,he,hc,q,hd,S,n⟩:=x;subst hc q;unfold g0;simp only[i];cases T with
 | none=> refine zZ (bf he hd n ?_);rw[if_neg (by decide)];exact YI m r i he hd (Array.getElem?_eq_some_iff.mp n).1 S λh' t a b c d=>h h' t a b c d
 | some T=>
   obtain⟨h1,y,v,k,X,u,J⟩:=n;refine zZ (bf he hd h1 ?_);rw[if_pos (show(a0X T != a1X)=ap from by simp)];refine zZ (bf X u J ?_);rw[if_neg (show ¬((a1X==dk L)=ap) from by simp[dk])];refine zZ (dl X u (Array.getElem?_eq_some_iff.mp J).1 ?_);have p:=E9 (h:=s.heap) (·.setIfInBounds 3 a1X) X u ((env::outer).filterMap (·.frame));have j:T∉(env::outer).filterMap (·.frame):=λg=>by obtain⟨_,o,ho,f⟩:=r.mem g;rw[X] at ho;injection ho with ho;subst ho;exact f k u
   refine YI m (p.frames r λb hb=>by(rw[b1Z] at hb;subst hb;exact j)) i (by rw[yC _ _ y];exact he) hd (Array.getElem?_eq_some_iff.mp h1).1 S λh' t a b c d=>?_;have hsz:(s.heap.update T (b2V (·.setIfInBounds 3 a1X))).objs.size=s.heap.objs.size:=Heap.size_after_update ..;rw[hsz] at c;refine h h' t a (Heap.get?_none_of_le c) c ((p.mono (λ_ z=>z) λb z=>by simp at z;simp[z]).trans (d.mono (λ_ z=>z) λb z=>by simp at z;simp[z]))
theorem JC (r:A.frames=al (env::outer)) (p:s.heap.FunFrames base (env::outer)) (i:env.frame=al L) (x:MU s.heap e cls dd ar T n) (f:n = .none\/(T≠am/\n=dk L)) (h:∀h' t,MU h' e cls dd ar (al t) (dk L)->(T=al t\/s.heap.get? t=am/\s.heap.objs.size<=t)->Moved ((env::outer).filterMap (·.frame)) (e::T.toList) s.heap h'->Q () { s with heap:=h' }) :
   wpAny M A (g0 (.ref e) env) Q E s:=by
 rcases f with rfl | ⟨m,rfl⟩
 . exact vR r p i x λh' t a b c d=>h h' t a (.inr #[b,c]) d
 . cases T with
   | none=>exact absurd rfl m
   | some T=> obtain⟨j,v,he,hc,q,hd,S,h1,y,g,k,X,u,J⟩:=id x;unfold g0;simp only[i];refine zZ (bf he hd h1 ?_);rw[if_pos (show(a0X T != a1X)=ap from by simp)];refine zZ (bf X u J ?_);rw[if_pos (show(dk L==dk L)=ap from by simp)];exact zY (h s.heap T x (.inl rfl) (Moved.refl ..))
theorem iV (m:A.frames=al (env::outer)) (c:s.heap.FunFrames base (env::outer)) (p:env.frame=al L) (x:MU s.heap e cls dd ar T n) (g:n = .none\/(T≠am/\n=dk L)) (h:∀h' t,MU h' e cls dd ar (al t) .none->(T=al t\/s.heap.objs.size<=t)->Moved ((env::outer).filterMap (·.frame)) (e::T.toList) s.heap h'->Q () { s with heap:=h' }) :
   wpAny M A (leaving env (.ref e)) Q E s:=by
 unfold leaving;refine zZ (JC m c p x g λh1 t N n1 f=>?_);refine GY (s:={ s with heap:=h1 }) N λi j D=>h i t j (n1.imp id λz=>z.2) ?_;have k:Moved ((env::outer).filterMap (·.frame)) (t::e::T.toList) s.heap h1:=f.mono (λ_ z=>z) λb z=>.tail _ z;have r:Moved ((env::outer).filterMap (·.frame)) (t::e::T.toList) h1 i:=D.mono (λ_ z=>absurd z (by simp)) λb z=>by simp at z;simp[z]
 refine(k.trans r).drop λb z=>(yX.mp z).elim (λq=>?_) λq=>.inl q;rcases n1 with n1 | n1;. left;rw[q,n1];simp
 . right;rw[q];exact n1.1
theorem RD {T f:Addr}(x:MU s.heap e cls dd ar (al T) n) (h:∀h',MU h' e cls dd ar (al T) (dk f)->Moved [] [T] s.heap h'->Q () { s with heap:=h' }):wpAny M A (setFlight (.ref e) (al f)) Q E s:=by obtain⟨c,m,he,hc,r,hd,S,h1,t,p,i,X,u,J⟩:=x;unfold setFlight;refine zZ (bf he hd h1 ?_);rw[if_pos (show(a0X T != a1X)=ap from by simp)];have hsz:3 < i.size:=(Array.getElem?_eq_some_iff.mp J).1;refine dl X u hsz (h _ #[c,m,?_,hc,r,hd,S,h1,t,_,_,a3Z _ X (G8 _ u),b1J u _,by simp[hsz]] (E9 _ X u []));rw[yC _ _ t];exact he
end
end XC
namespace XC
open PySem PySem.Spec
abbrev YJ (C t:Addr):Obj:={ cls:=.ref C,data:=.fields (y9 [.ref t,.none,.none,.none,.bool aw,.none]) }
abbrev MV (h:cr) (C:Addr) (rest:List ao):Heap:=(h.push { cls:=.type "tuple", data:=.seq rest.toArray }).push (YJ C h.objs.size)
theorem D4 :∀b o,h.get? b=al o->(MV h C rest).get? b=al o:=λb o e=>zW _ (zW _ e)
theorem PM :(MV h C rest).get? (h.objs.size+1)=al (YJ C h.objs.size):=by heap_get
section
variable {prog:bn}{w:bj}{A:ca}{E:ao->aq->Prop}{h:cr}{g:Array GenState}{d:Drawn}{t:Nat}{os:en}
variable {nm q:Str}{C N:Addr}{bs bm Bh:List ao}{hdct:Bool}{sn:List Str}{sub:List ao}{ab:Bool}{col:Option Bool}{dd:Option Addr}{k0 k1 k2 k3 k5:Option ao}{B newId gd:String}{init:ao}
theorem YK (F:iD B newId gd Bh) (hB:bm.contains (.type B)=ap) (hC:h.get? C=al (excClassObj nm q C N bs bm hdct sn sub ab col dd k0 k1 k2 k3 k5 newId)) (hq:Q () #[h,g,d,t,os]):wpAny M A (checkBuiltinCall newId #[.ref C::rest,[]]) Q E #[h,g,d,t,os]:=by
 have e:(a0X C::bm).contains (.type B)=true:=by rw[a1K,hB,Bool.or_true]
 have v:=F.noStar;simp only[checkBuiltinCall,F.newKind,F.newSplit,F.newRow];repeat (first | refine a0 hC ?_ | (refine bu hC ?_;rw[e]) | refine wpAny_staticBase_exc hC ?_ | refine wpAny_madeBy_exc hC ?_ | simp only[bne_self_eq_false,b4K,if_false] | wp_step)
 exact hq
theorem A3q (F:iD B newId gd Bh) (hB:bm.contains (.type B)=ap) (hA:bm.contains (.type "AttributeError")=aw) (hN:bm.contains (.type "NameError")=aw)  (hC:h.get? C=al (excClassObj nm q C N bs bm hdct sn sub ab col dd k0 k1 k2 k3 k5 newId)) (hq:R (.ok (.ret (.ref (h.objs.size+1)))) #[MV h C rest,g,d,t,os]) (i:rest.length<=aB) :
   codeAny (model prog w) A (.builtin newId #[.ref C::rest,[]]) R #[h,g,d,t,os]:=by
 have n:=F.ends;have e:(a0X C::bm).contains (.type B)=true:=by rw[a1K,hB,Bool.or_true]
 have u:(a0X C::bm).contains (.type "AttributeError")=false:=by rw[a1K,hA];rfl
 have v:(a0X C::bm).contains (.type "NameError")=false:=by rw[a1K,hN];rfl
 refine codeAny_builtinAt F.entry ?_;unfold Builtin.«BaseException.__new__»;refine wpAt_bind ?_;show wpAt _ _ _ (stack >>= _) _ _ _;refine wpAt_bind (wpAt_stack λp below=>wpAt_of_wpAny ?_)
 wp_walk
 refine wpAt_of_wpAny ?_;rw[F.owner];repeat (first | with_reducible refine wpAny_madeHere_exc F.canon hC ?_ | with_reducible refine a0 hC ?_ | (with_reducible refine bu hC ?_;first | rw[e] | rw[u] | rw[v]) | wp_step)
 show R _ _;rw[a9X];exact hq
theorem YL (F:iD B newId gd Bh) (hB:bm.contains (.type B)=ap) (hA:bm.contains (.type "AttributeError")=aw) (hN:bm.contains (.type "NameError")=aw)  (hC:h.get? C=al (excClassObj nm q C N bs bm hdct sn sub ab col dd k0 k1 k2 k3 k5 newId)) (hi:PySem.W.Looks (model prog w) h (ea (.ref C) "__init__") (al init)) (hb:∀self:ao,PySem.W.Looks (model prog w) h (bindSpecial init self) (init,[self])) (hq:codeAny (model prog w) A (.call init #[.ref (h.objs.size+1)::rest,[]]) (λr s'=>match r with | .ok (.ret v)=>v = .none/\Q (.done (.ret (.ref (h.objs.size+1)))) s' | .ok _=>False | .error e=>E e s') #[MV h C rest,g,d,t,os]) (p:rest.length<=aB) :
   wpAny (model prog w) A (Builtin.«type.__call__» #[.ref C::rest,[]]) Q E #[h,g,d,t,os]:=by
 repeat (first | with_reducible refine a0 hC ?_ | with_reducible refine wpAny_madeBy_exc hC ?_ | wp_step)
 refine codeAny_call_builtin_code (Code.quiet_builtin _ F.quiet) (YK F hB hC ?_);refine A3q F hB hA hN hC ?_ p;show wpAny _ _ _ _ _ _;have n:(MV h C rest).get? C=_:=D4 _ _ hC;have m:(MV h C rest).get? (h.objs.size+1)=al (YJ C h.objs.size):=PM;have i:(a0X C::bm).contains (.ref C)=true:=by simp
 unfold isInstance;repeat (first | with_reducible refine a0 m ?_ | (with_reducible refine bu n ?_;rw[i]) | wp_step)
 show wpAny _ _ (ea (.ref C) _) _ _ _;refine(hi.keeps D4).here (s:=#[MV h C rest,g,d,t,os]) ?_;refine bt (zZ (((hb _).keeps D4).here (s:=#[MV h C rest,g,d,t,os]) ?_));refine zZ (wpAny_call (xN hq λr s' z=>?_));rcases r with e | (v | _ | _ | _) <;> first | exact z | exact z.elim | skip
 obtain⟨rfl,z⟩:=z
 wp_walk
 exact z
theorem bX (F:iD B newId gd Bh) (hB:bm.contains (.type B)=ap) (hA:bm.contains (.type "AttributeError")=aw) (hN:bm.contains (.type "NameError")=aw)  (hC:h.get? C=al (excClassObj nm q C N bs bm hdct sn sub ab col dd k0 k1 k2 k3 k5 newId)) (hi:PySem.W.Looks (model prog w) h (ea (.ref C) "__init__") (al init)) (hb:∀self:ao,PySem.W.Looks (model prog w) h (bindSpecial init self) (init,[self])) (hq:codeAny (model prog w) (A.under (.builtin "type.__call__" #[.ref C::rest,[]])) (.call init #[.ref (h.objs.size+1)::rest,[]]) (λr s'=>match r with | .ok (.ret v)=>v = .none/\Q (.ref (h.objs.size+1)) s' | .ok _=>False | .error e=>E e s') #[MV h C rest,g,d,t,os]) (i:rest.length<=aB) :
   wpAny (model prog w) A (call (.ref C) rest) Q E #[h,g,d,t,os]:=by
 have n:=tc_lookup;have m:=tc_bind (.ref C);have p:(#[h,g,d,t,os]:aq).TypeIs (.ref C) "type" := #[_,hC,rfl]
 refine wpAny_call (codeAny_of_tree ?_);show wpAny _ _ (callAny (.ref C) _) _ _ _;repeat (any_goals (first | assumption | with_reducible refine a0 hC ?_ | wp_step))
 refine#[rfl,?_];refine codeAny_call_builtin_at (Code.quiet_builtin _ (by decide +kernel)) entry_typeCall (wpAny_check_type_call_sub hC (YL F hB hA hN hC hi hb (xN hq λr s' z=>?_) i));rcases r with e | (v | _ | _ | _) <;> first | exact z | exact z.elim
theorem iW (F:iD B newId gd Bh) (hB:bm.contains (.type B)=ap)  (hC:h.get? C=al (excClassObj nm q C N bs bm hdct sn sub ab col dd k0 k1 k2 k3 k5 newId)) (hq:∀h' t',(∀b o,h.get? b=al o->h'.get? b=al o)->h'.get? (h.objs.size+1)=al (YJ C t')->R (.ok (.ret .none)) #[h',g,d,t,os]) (p:rest.length<=aB) :
   codeAny (model prog w) A (.call (.builtin gd) #[.ref (h.objs.size+1)::rest,[]]) R #[MV h C rest,g,d,t,os]:=by
 have e:(MV h C rest).get? C=_:=D4 _ _ hC;have r:(MV h C rest).get? (h.objs.size+1)=al (YJ C h.objs.size):=PM;have i:(a0X C::bm).contains (.type B)=true:=by rw[a1K,hB,Bool.or_true]
 have m:=F.noStar;refine codeAny_call_builtin F.init.plain F.initEntry ?_;simp only[checkBuiltinCall,F.initKind,F.initSplit,F.initRow];repeat (first | with_reducible refine a0 r ?_ | with_reducible refine a0 e ?_ | (with_reducible refine bu e ?_;rw[i]) | wp_step)
 refine ft ?_;rw[show ∀(a b:String) (n:Nat),Bind.check #[.positional, "*", B,.self,[#["args", .varPos,aw]]] a b n (List.map (λx=>x.fst) ({ pos:=a0X (h.objs.size+1)::rest }:Args).kw)=pure () from
   λa b n=>check_star_args _ _ _ _ _ _];refine zY ?_
 wp_walk
 refine hq _ (h.objs.size+2) (λb o hb=>?_) ?_;. rw[yC _ _ (a5W (b8V (zM hb)))];exact zW _ (D4 _ _ hb)
 . rw[a3Z _ (zW _ r) rfl];simp only[a9X];rfl
theorem UE (hbase:bm.contains (.type "BaseException")=ap) (hh:A.handled=am) (hx:wpAny (model prog w) A x (λv z=>∃e t n,v = .ref e/\z.heap.get? C=al (excClassObj nm q C N bs bm hdct sn sub ab col dd k0 k1 k2 k3 k5 newId) /\
     z.heap.get? e=al { cls:=.ref C,dict:=n,data:=.fields (y9 [.ref t,.none,.none,.none,.bool aw,.none]) }/\E (.ref e) z) E s) :
   wpAny (model prog w) A (raiseStmt env (al x) am) Q E s:=by
 have i:(a0X C::bm).contains (.type "BaseException")=true:=by rw[a1K,hbase,Bool.or_true]
 unfold raiseStmt;refine zZ (bg hx (λv z b=>?_) λ_ _ x=>x);obtain⟨e,t,n,rfl,hC,he,hE⟩:=b;obtain⟨hp,g,d,r,os⟩:=z;repeat (first | with_reducible refine a0 he ?_ | with_reducible refine a0 hC ?_ | (with_reducible refine bu hC ?_;rw[i]) | wp_step)
 exact wpAny_raiseNew_none hh hE
end
end XC
namespace XC
open PySem PySem.Spec PySem.W Builtin Builtin.ObjectAttr
section
theorem vT (X:K.In s.heap) (hx:s.heap.get? x=al o) (hc:o.cls = .ref C) (j:o.dict=am) (p:o.data = .fields vs) (m:clsIn K C=al cd) (r:cd.mro.contains (.type "object")=ap) (hp:∀self,refuseLoop self "__setattr__" cd.mro=pure ()) (D:takerIn K C name=al am) (hh:cd.hasDict=ap) (hq:∀h' L i,s.heap.objs.size<=i->h'.get? x=al { o with dict:=al i }->h'.Ns1 i (λy=>if y=name then al v else am)->(∀b u,b≠x->s.heap.get? b=al u->h'.get? b=al u) ->
     R (.ok (.ret .none)) { s with heap:=h',toks:=L }) :
   codeAny (model prog w) A (.call (.builtin "object.__setattr__") #[[.ref x,.str name tk,v],[]]) R s:=by
 have SF:=PySem.F.store_object;have B:cd.mro.isEmpty=false:=by cases q:cd.mro with | nil=>rw[q] at r;cases r | cons _ _=>rfl
 have ty:Looks (model prog w) s.heap (typeOf (.ref x)) (.ref C):=(Looks.ld hx).andThen (by rw[hc];exact .now);have sub:Looks (model prog w) s.heap (isInstance (.ref x) (.type "object")) true:=ty.andThen (looks_mroIn X (by unfold mroIn;rw[m,Option.bind_some,if_neg (by rw[B];decide),r]));refine codeAny_call_builtin SF.slot.plain SF.entry (@check_slot (model prog w) _ _ s "object.__setattr__" "object" "__setattr__" (.ref x) [.str name tk,v] [] _ SF.kind SF.split sub (SF.args (.ref x) (.str name tk) v) ?_);obtain⟨attr,M,hr⟩:=Option.bind_eq_some_iff.mp D;have z:Looks (model prog w) s.heap (mroOf (.ref C)) cd.mro:=(looks_clsIn X m).andThen .now;have k:Looks (model prog w) s.heap (storeTaker? attr) none:=by
   cases attr with
   | none=>cases hr;exact .now
   | some a=> obtain⟨b,hb,e⟩:=Option.map_eq_some_iff.mp hr;refine(looks_takesIn X hb).andThen ?_;cases b <;> first | exact .now | cases e
 rw[osa_eq,refuse_eq];refine zZ (zZ (ty.here (zZ (z.here ?_))));rw[hp];refine zY (zZ (ty.here (zZ ((looks_findIn X M).here (zZ (k.here ?_))))));obtain⟨n,g,d,t,os⟩:=s;obtain⟨oc,od,J,osl⟩:=o;dsimp only at hc j p hq;subst hc j p;have Y:n.get? x=al #[.ref C,am,.fields vs,osl]:=hx;refine zZ (zY (zZ (zZ (wpAny_loadPart Y (zZ ((looks_clsIn X m).here ?_))))));rw[hh];have c:(n.push { cls:=.type "dict", data:=.dict #[] }).get? x=al #[.ref C,am,.fields vs,osl]:=zW _ Y;have f:x≠n.objs.size:=zC (zM Y);refine zZ (wpAny_alloc' ?_);refine zZ (wpAny_update' c ?_);refine zY (a:=al n.objs.size) ?_;have T:((n.push { cls:=.type "dict", data:=.dict #[] }).update x λo=>{ cls:=o.cls,dict:=al n.objs.size,data:=o.data,slots:=o.slots }).get? n.objs.size
     = al { cls:=.type "dict", data:=.dict #[] }:=
   (yB _ _ _ _ f.symm).trans (Heap.get?_push_at rfl rfl);have G:((n.push { cls:=.type "dict", data:=.dict #[] }).update x λo=>{ cls:=o.cls,dict:=al n.objs.size,data:=o.data,slots:=o.slots }).Ns n.objs.size (λ_=>am):=#[_,#[],_,T,rfl,λe he=>absurd he (by simp),λ_=>rfl]
 show wpAny _ _ (storeInDict n.objs.size (.str name tk) name v) _ _ _;unfold storeInDict newKeyGuard;refine zZ (zY (zZ (wpAny_nsSet1 (Heap.Ns1.of_empty G) λh' h hs=>?_)));obtain⟨Z,Q,U,N,O,I⟩:=h.count (Within.cons name v Within.nil);refine zZ (wpAny_lookBehind N (by rw[O];exact pastItsLine_dict (zN I (by rw[yR,b6V,c0];omega))) ?_);refine zY (hq h' _ n.objs.size (zR _) ?_ h λb u S hb=>?_);. exact(hs.2 x f).trans (a3Z _ c rfl)
 . exact(hs.2 b (zC (zM hb))).trans ((yB _ _ _ _ S).trans (zW _ hb))
theorem vU (X:K.In s.heap) (hx:s.heap.get? x=al o) (hc:o.cls = .ref C) (t:o.dict=am) (r:o.data = .fields vs) (hs:findIn K (.ref C) "__setattr__"=al (al (.builtin "object.__setattr__"))) (m:clsIn K C=al cd) (n:cd.mro.contains (.type "object")=ap) (hp:∀self,refuseLoop self "__setattr__" cd.mro=pure ()) (i:takerIn K C name=al am) (hh:cd.hasDict=ap) (hq:∀h' L e,s.heap.objs.size<=e->h'.get? x=al { o with dict:=al e }->h'.Ns1 e (λy=>if y=name then al v else am)->(∀b u,b≠x->s.heap.get? b=al u->h'.get? b=al u) ->
     Q () { s with heap:=h',toks:=L }) :
   wpAny (model prog w) A (setAttr (.ref x) name v) Q E s:=by
 have J:InstAt s.heap x o C none:=#[hx,hc,by obtain⟨_,_,_,_⟩:=o;cases r;rfl,by rw[t];trivial]
 exact set_plain X J hs (vT (s:={ s with toks:=s.toks+1 }) X hx hc t r m n hp i hh λh' L e a b c d=>hq h' L e a b c d)
end
end XC
namespace XC
open PySem PySem.Spec L2
open PyProof.Rows (envOfC AllBare)
abbrev St:=L2.St
theorem UF (ok:HOk P w H h) (m:Moved fs ch h h') (t:∀b∈fs,H b=am) (Q:∀b∈ch,H b=am):HOk P w H h':=λa o e=>by
 have v:∀b u,H b=al u->b∉fs/\b∉ch:=λb u q=>#[λz=>(by rw[t b z] at q;cases q),λz=>(by rw[Q b z] at q;cases q)]
 refine(ok a o e).stay (λb u hb q=>?_) (λ_ q=>q) λ_ _ q=>q;rcases hb with rfl | hb;. exact m.keep b u q (v b o e).1 (v b o e).2
 . exact m.keep b u q (v b _ hb).1 (v b _ hb).2
def pC (dd:Option Addr) (H:Hp):Prop:=∃d v,dd=al d/\H d=al (.xd [(a0Q "number", v)])
def CXE (P:bn) (w:bj):CXT:=λouter H s E e s'=>∃(a T:Addr) (cls:ao) (X:Option Addr) (Q:ao) (H':Hp),e = .ref a/\s'.os=s.os/\im s'.gens/\Un (frs outer) [] H H' s.heap s'.heap/\HOk P w H' s'.heap /\
 MU s'.heap a cls X Q (al T) .none/\s.heap.objs.size<=a/\s.heap.objs.size<=T/\H' a=am/\H' T=am/\(Q = .none\/pC X H')/\E cls X H'
structure Loose (X:Cx) (H:Hp) (b:Addr):Prop where
 above:X.s₀.heap.objs.size<=b
 loc:b≠X.env.locals
 cel:∀x c,X.env.cells.lookup x=al c->c≠b
 fre:H b=am
 pn:∀p∈X.pn,p.1≠b
theorem Loose.of {X:Cx}{pins:List (Addr×cE)}{t:St}{H H':Hp}{s:aq}{b:Addr}(I:Inv X pins t H s) (h:s.heap.objs.size<=b) (f:H' b=am):Loose X H' b:=by
 refine#[zN I.sz h,λz=>?_,λx c e z=>?_,f,λp hp z=>?_];. have:=I.lt;rw[<-z] at this;exact absurd (zP this h) (yF _)
 . obtain⟨v,o,ho,_⟩:=I.cell x c e;have:=zM ho;rw[z] at this;exact absurd (zP this h) (yF _)
 . have:=zM (I.pin p (zA _ hp)).1;rw[z] at this;exact absurd (zP this h) (yF _)
def Fly (X:Cx) (R:St->XK) (e:ao) (s':aq):Prop:=∃(a:Addr) (T:Option Addr) (cls:ao) (n:Option Addr) (Q:ao) (r:St) (H:Hp) (i:ao),e = .ref a/\Inv X [] r H s'/\(MU s'.heap a cls n Q T i/\(i = .none\/(T≠am/\i=dk X.env.locals)))/\Loose X H a/\(∀t,T=al t->Loose X H t)/\(Q = .none\/pC n H)/\R r cls n H
theorem VI {e:St}(I:Inv X pins e H s):Inv X [] e H s:=I.pins_of λp hp=>nomatch hp
theorem pD {n:St}(I:Inv (X.wish (Fly X R)) pins n H s) (h:CXE X.prog X.w X.stack H s (R n) e s'):Fly X R e s':=by obtain⟨a,T,cls,i,Q,H',rfl,f,bare,un,hok,x,h1,c,m,p,Z,r⟩:=h;have L:=I.unwish;have J:Inv X pins n H' s':=L.call' (ch:=[]) f un hok bare λb z=>absurd z (by simp);exact#[a,al T,cls,i,Q,n,H',.none,rfl,VI J,#[x,.inl rfl],Loose.of L h1 m,λt e=>(by cases e;exact Loose.of L c p),Z,r]
def VJ (sp:Sp) (R:St->XK) (t:TA):TE:=λe H Q=>t e H λn m=>sp n m Q (R e)
theorem pE {X:Cx}{R:St->XK}{k:Nat}{f:Addr}{N:dV}{ps:List Str}{sp:Sp}{x:Str}{p pos:ew}{e:bp}{es:List bp}{t:TA}(F:FnOk X.prog X.w X.K X.mg X.base (CXE X.prog X.w) k f N ps sp) (hr:Room k X.A) (hg:Gl X x) (z:X.mg x=al (.ref f)) (hk:a3K X.K (.ref f)=ap) (hb:Binds X.K N ps []) (v:PA (X.wish (Fly X R)) (e::es) t) (g:(x==("__debug__":Str))=false:=by decide) (he:starEach (e::es) X.env=(aw,eval e X.env)::starEach es X.env:=by rfl) (T:(backTo pos (starEach es X.env)).any (·.1)=false:=by rfl) :
   PE (X.wish (Fly X R)) (.Call (.Name x p) (e::es) [] pos) (VJ sp R t):=by
 intro pins s b H Q I h;refine cR (G1 (X:=X.wish (Fly X R)) I hg z ?_ g);refine b6K (h₀:=X.base) I.ok.mod.kin hk (thn (v pos pins s b H _ I h) λn i #[m,c,G,r,q]=>#[G.kIn,?_]) he T;have y:(n++[]).length=ps.length:=by rw[a4W,<-r.length];exact F.len _ _ _ _ q
 have M:Vals m (n++[]):=by rw[a4W];exact r
 refine wpAny_call (xN (F.run X.A X.stack i c #[n,[]] (n++[]) m Q (R b) hr G.env0 (hb i n G.kIn y) M q) λL s' hq=>?_);cases L with
 | error e=>exact pD G hq
 | ok j=>
   cases j with
   | ret u=>exact G.after hq
   | next=>exact a6W hq
   | brk=>exact a6W hq
   | cont=>exact a6W hq
theorem BU {e:St}(I:Inv X pins e H s) (m:Moved (frs X.stack) ch s.heap h') (U:∀b∈ch,H b=am/\X.s₀.heap.objs.size<=b/\b≠X.env.locals/\(∀x c,X.env.cells.lookup x=al c->c≠b)/\∀p∈X.pn++pins,p.1≠b) :
   Inv X pins e H { s with heap:=h' }:=by
 refine I.call' (s':={ s with heap:=h' }) (ch:=ch) rfl #[λb o q n f c=>m.keep b o q f c,λb o q n f c=>m.slot b o q c,λ_ _ _ n _=>n,λb o q _=>m.there b o q,λ_ _ q=>q,λ_ _ _ q=>q,λb t q=>#[#[],by rw[q];simp]]
   (UF I.hok m I.stkFree λb hb=>(U b hb).1) I.bare λb hb=>#[.inr (U b hb).2.1,(U b hb).2.2]
theorem Loose.ch (l:Loose X H b):H b=am/\X.s₀.heap.objs.size<=b/\b≠X.env.locals/\(∀x c,X.env.cells.lookup x=al c->c≠b)/\∀p∈X.pn++[],p.1≠b:=#[l.fre,l.above,l.loc,l.cel,λp hp=>l.pn p (by simpa using hp)]
theorem bY {X:Cx}{R:St->XK}(m:X.stack=X.env::X.outer) (M:X.env.frame=al X.env.locals):PassesOwn (model X.prog X.w) X.A X.env (Fly X R):=λe s' h=>by
 obtain⟨a,T,cls,j,Q,p,H,L,rfl,I,⟨x,S⟩,Y,c,u,r⟩:=h;have v:X.A.frames=al (X.env::X.outer):=by rw[<-m];exact I.ok.frames
 have k:s'.heap.FunFrames X.base (X.env::X.outer):=by rw[<-m];exact I.stack
 refine JC v k M x S λi n f O D=>?_;have G:(X.env::X.outer).filterMap (·.frame)=frs X.stack:=by rw[m];rfl
 rw[G] at D;have g:Inv X [] p H { s' with heap:=i }:=BU I D λb hb=>by
   rcases yX.mp hb with q | q;. rw[q];exact Y.ch
   . exact(c b (by cases T with | none=>simp at q | some t=>simp at q;rw[q])).ch
 have Z:Loose X H n:=O.elim (λz=>c n z) λz=>Loose.of I z.2 (I.hok.fresh z.2);obtain⟨oe,vs,he,hc,ua,hd,U,h1,sf,_⟩:=id f;unfold cameBackBy;refine zZ (bf (s:={ s' with heap:=i }) he hd h1 ?_);rw[if_neg (by simp)];rw[M];refine RD (s:={ s' with heap:=i }) f λJ B y=>?_;have N:Inv X [] p H { s' with heap:=J }:=BU (s:={ s' with heap:=i }) (ch:=[n]) g (y.mono (λb z=>absurd z (by simp)) λb z=>z) λb hb=>by
   have:b=n:=by simpa using hb
   rw[this];exact Z.ch
 exact#[a,al n,cls,j,Q,p,H,_,rfl,N,#[B,.inr #[by simp,rfl]],Y,λt e=>(by cases e;exact Z),u,r]
section
theorem A2E  (h:Fly (HN (CXE P w) P w K mg base N qual scope f cd A outer s H E) (λ_=>E) e s'):(HN (CXE P w) P w K mg base N qual scope f cd A outer s H E).xe e s':=by
 obtain⟨a,T,cls,X,Q,σ,H',J,rfl,I,⟨x,y⟩,Y,p,Z,r⟩:=h;have k:=I.stack;have O:=I.stkFree;refine iV (base:=base) (env:=gc qual scope s.heap.objs.size f cd) (outer:=outer) (L:=s.heap.objs.size) I.ok.frames k rfl x y λh' i D z m=>?_;have u:∀b∈(gc qual scope s.heap.objs.size f cd::outer).filterMap (·.frame),H' b=none:=O;have U:∀b∈a::T.toList,Loose (HN (CXE P w) P w K mg base N qual scope f cd A outer s H E) H' b:=λb hb=>by
   rcases yX.mp hb with q | q;. rw[q];exact Y
   . exact p b (by cases T with | none=>simp at q | some t=>simp at q;rw[q])
 have M:∀b o,s.heap.get? b=al o->b∉a::T.toList:=λb o q hb=>absurd (zP (zM q) (U b hb).above) (yF _);have j:∀b o,s.heap.get? b=al o->b∉frs outer->b∉(gc qual scope s.heap.objs.size f cd::outer).filterMap (·.frame):=λb o q n hb=>by
   rcases yX.mp (show b∈s.heap.objs.size::frs outer from hb) with z | z;. rw[z] at q;exact absurd (zM q) (yF _)
   . exact n z
 have B:=I.base;have hok:=UF I.hok m u λb hb=>(U b hb).fre;have sz:=I.sz;have g:s.heap.objs.size<=i/\H' i=none:=by
   rcases z with z | z;. exact#[(p i z).above,(p i z).fre]
   . exact#[zN sz z,I.hok.fresh z]
 refine#[a,i,cls,X,Q,H',rfl,I.os,I.bare,#[λb o q n hb hx=>?_,λb o q n hb hx=>?_,B.free,λb o q hx=>?_,B.tups,B.frzs,B.tbls],hok,D,Y.above,g.1,Y.fre,g.2,Z,r];. exact m.keep b o (B.keep b o q n hb hx) (j b o q hb) (M b o q)
 . obtain⟨sl,c⟩:=B.slot b o q n hb hx;obtain⟨G,S⟩:=m.slot b _ c (M b o q);exact#[G,S]
 . obtain⟨v,c⟩:=B.there b o q hx;exact m.there b v c
theorem pG (h:PSs (X.wish E) st t) (hE:∀e s,E e s->X.xe e s):PSs X st t:=λpins s i H D I n=>
 bg (h pins s i H D (I.wish _) n) (λ_ _ q=>q.unwish) hE
theorem A4d (F:Fun K x qual st f n) (S:FnScope N ps (AB st)) (len:∀vs H Q E,sp vs H Q E->vs.length=ps.length) (v:∀(cdv:ao) (A:ca) (outer:List i3) (s:aq) (H:Hp) (vs:List V) (Q:VK) (E:XK),Room k (A.deeper (gc qual (AB st) s.heap.objs.size f cdv))->sp vs H Q E ->∃t,PSs ((HN (CXE P w) P w K mg base N qual (AB st) f cdv A outer s H E).wish (Fly (HN (CXE P w) P w K mg base N qual (AB st) f cdv A outer s H E) λ_=>E)) (BE st) t/\t { nx:=λ_ H'=>Q .non H',rt:=Q } (DW N vs) H):FnOk P w K mg base (CXE P w) (k+1) f n ps sp:=by obtain⟨p,r,kV,doc,m,L,cdv,T,osl,rfl,j,i⟩:=F.ex;refine A0K j i S len λA outer s H vs Q E hr y=>?_;obtain⟨t,h,q⟩:=v cdv A outer s H vs Q E hr y;exact#[t,pG h λe s' z=>A2E z,q]
end
end XC
namespace XC
open PySem PySem.Spec L2
open PyProof.Rows (envOfC AllBare)
abbrev bmV:List Value:=[.type "ValueError", .type "Exception", .type "BaseException", .type "object"]
structure XCls (K:Frg) (C S:Addr) (init:ao):Prop where
 lk:∃(nm q:Str) (N:Addr) (bs:List ao) (sn:List Str) (sub:List ao) (ab:Bool) (col:Option Bool) (dd:Option Addr) (k0 k1 k2 k3 k5:Option ao),K.lookup C=al (excClassObj nm q C N bs (.ref S::bmV) ap sn sub ab col dd k0 k1 k2 k3 k5 "ValueError.__new__")
 init:a8K K (.ref C) "__init__"=al (al init)
 kp:a3K K (.ref C)=ap
theorem PN :(a0X S::bmV).contains (.type "ValueError")=true:=by rw[a1K];rfl
theorem VL :(a0X S::bmV).contains (.type "AttributeError")=false:=by rw[a1K];rfl
theorem VM :(a0X S::bmV).contains (.type "NameError")=false:=by rw[a1K];rfl
theorem MW :(a0X S::bmV).contains (.type "BaseException")=true:=by rw[a1K];rfl
section
variable {X:Cx}{R:St->XK}{C S f:Addr}{x:Str}{np ah pos:ew}
def f7 (C:Addr) (R:St->XK):TS:=λ_ e H=>R e (.ref C) am H
theorem iX (c:XCls X.K C S (.builtin "ValueError.__init__")) (hg:Gl X x) (u:X.mg x=al (.ref C)) (hh:X.A.handled=am) (p:(x==("__debug__":Str))=false:=by decide) :
   PS (X.wish (Fly X R)) (.Raise (al (.Call (.Name x np) [] [] ah)) am pos) (f7 C R):=by
 intro pins s i H D I h;have F:=b6Z;obtain⟨nm,q,N,bs,sn,sub,ab,col,dd,k0,k1,k2,k3,k5,y⟩:=c.lk;have n:=I.unwish;have hC:=n.kIn _ _ y;rw[arm_exec_Raise];refine zZ (bv (UE (C:=C) (hbase:=MW (S:=S)) (hh:=hh) (nm:=nm) (q:=q) (N:=N) (bs:=bs) (hdct:=ap) (sn:=sn) (sub:=sub) (ab:=ab) (col:=col) (dd:=dd) (k0:=k0) (k1:=k1) (k2:=k2) (k3:=k3) (k5:=k5) (newId:= "ValueError.__new__") ?_));refine zZ (thn (cR (G1 I (X:=X.wish (Fly X R)) hg u (PySem.W.callWith_K0 (X:=n.kIn) c.kp (Q:=λv z=>∃e t m,v = .ref e/\z.heap.get? C=al (excClassObj nm q C N bs (.ref S::bmV) ap sn sub ab col dd k0 k1 k2 k3 k5 "ValueError.__new__") /\
     z.heap.get? e=al { cls:=.ref C,dict:=m,data:=.fields (y9 [.ref t,.none,.none,.none,.bool aw,.none]) }/\Fly X R (.ref e) z) ?_) p)) λv O j=>zZ (bv (zY j)));obtain⟨hp,g,d,t,T⟩:=s;refine bX F PN VL VM hC (c0Z n.kIn c.init) (λself=>PySem.W.Looks.of_pure (F.init.bind self)) (iW F PN hC (λb t' k r=>?_) (xT _)) (xT _);have J:Inv X pins i H #[b,g,d,t,T]:=n.kept (t':=t) k;have sz:hp.objs.size<=hp.objs.size+1:=a5K _;exact#[rfl,hp.objs.size+1,t',am,rfl,k _ _ hC,r,hp.objs.size+1,am,.ref C,am,.none,i,H,.none,rfl,VI J,#[#[_,_,r,rfl,rfl,rfl,rfl,rfl],.inl rfl],Loose.of n sz (n.hok.fresh sz),λt e=>(by cases e),.inl rfl,h]
end
end XC
namespace XC
open PySem PySem.Spec L2
open PyProof.Rows (envOfC AllBare)
def xo (e C t:Addr) (n:Option Addr):HO:=.ext λh=>h.get? e=al { cls:=.ref C,dict:=n,data:=.fields (y9 [.ref t,.none,.none,.none,.bool aw,.none]) }
theorem pH (q:h.get? e=al { cls:=.ref C,dict:=n,data:=.fields (y9 [.ref t,.none,.none,.none,.bool aw,.none]) }):ObjOk P w H h e (xo e C t n):=#[q,#[_,q],λ_ _ a b=>b _ a]
structure XSet (K:Frg) (C:Addr) (fn:Str):Prop where
 sa:a8K K (.ref C) "__setattr__"=al (al (.builtin "object.__setattr__"))
 ta:PySem.W.takerIn K C fn=al am
def sX (C:Addr) (fn:Str) (j i:TE):TS:=λD n H=>i n H λy m=>j n m λx f=>∃e t,x = .ref e/\f e=al (xo e C t am) /\∀d,f d=am->d≠e->D.nx n (upd (upd f d (.xd [(fn,y)])) e (xo e C t (al d)))
section
theorem pI{X:Cx}{pins:List (Addr×cE)}{σ:St}{H:Hp}{s:aq} {i:Addr}(I:Inv X pins σ H s) (he:H e=al (xo e C t am)) (Z:RelV y u) (hd:s.heap.objs.size<=i) (T:h'.get? e=al { cls:=.ref C,dict:=al i,data:=.fields (y9 [.ref t,.none,.none,.none,.bool aw,.none]) }) (B:h'.Ns1 i (λz=>if z=fn then al u else am)) (k:∀b o,b≠e->s.heap.get? b=al o->h'.get? b=al o):Inv X pins σ (upd (upd H i (.xd [(fn,y)])) e (xo e C t (al i))) { s with heap:=h',toks:=t' }:=by
 have r:H i=none:=I.hok.fresh hd;have h:i≠e:=λz=>by rw[z,he] at r;cases r
 have g:∀b o,s.heap.get? b=al o->b≠i:=λb o q z=>by rw[z] at q;exact absurd (zP (zM q) hd) (yF _)
 have same:∀b,b≠e->b≠i->upd (upd H i (.xd [(fn,y)])) e (xo e C t (al i)) b=H b:=λb h1 p=>by rw[AH h1,AH p]
 have S:∀b o,H b=al o->b≠i:=λb o q z=>by rw[z,r] at q;cases q
 refine I.un #[λb o q n _ _=>k b o (λz=>by rw[z,he] at n;cases n) q,λb o q n _ _=>#[o.slots,k b o (λz=>by rw[z,he] at n;cases n) q],λb o q n _=>?_,λb o q _=>?_,λb m q=>?_,λb o m q=>?_,λb j q=>#[#[],?_]] λb o q=>?_;. rw[same b (λz=>by rw[z,he] at n;cases n) (g b o q)];exact n
 . by_cases z:b=e;. rw[z];exact#[_,T]
   . exact#[o,k b o z q]
 . rw[same b (λz=>by rw[z,he] at q;cases q) (S b _ q)];exact q
 . rw[same b (λz=>by rw[z,he] at q;cases q) (S b _ q)];exact q
 . rw[same b (λz=>by rw[z,he] at q;cases q) (S b _ q)];rw[q];simp
 . by_cases z:b=e;. subst z;rw[AE] at q;cases q;exact pH T
   . by_cases N:b=i
     . subst N;rw[AH z,AE] at q;cases q;refine#[_,B,λf=>?_];by_cases M:f=fn;. subst M;simp[List.lookup];exact Z
       . have:(f==fn)=false:=by simp[M]
         simp[List.lookup,this,M,RelO]
     . rw[same b z N] at q;refine(I.hok b o q).stay (λc v hc Q=>k c v ?_ Q) (λc Q=>?_) λc m Q=>?_
       . rcases hc with rfl | hc;. exact z
         . rintro rfl;rw[he] at hc;cases hc
       . rw[same c (λz=>by rw[z,he] at Q;cases Q) (S c _ Q)];exact Q
       . rw[same c (λz=>by rw[z,he] at Q;cases Q) (S c _ Q)];exact Q
theorem f8 (c:XCls X.K C S init) (cs:XSet X.K C fn) (O:PE X o j) (M:PE X value r) (hs:gt value (al (.Attribute o fn pos')) pos.line X.env=pure aw) :
   PS X (.Assign [.Attribute o fn pos'] value pos) (sX C fn j r):=by
 intro pins s σ H D I h;refine plainObj_wpAny_Assign_Attribute (thn (M pins s σ H _ I h) λu Y #[y,p,G,Z,q]=>thn (O pins Y σ p _ G q) λL s2 v=>?_) hs;obtain⟨x,f,m,U,e,t,T,b,Q⟩:=v;subst T;obtain rfl:L=a0X e:=U;obtain⟨J,q,N,bs,sn,sub,g,col,dd,k0,k1,k2,k3,k5,B⟩:=c.lk;have hx:=(m.hok e _ b).1;refine vU (cd:={ name:=J,bases:=bs,mro:=.ref C::.ref S::bmV,ns:=N,qualname:=q,hasDict:=ap,slotNames:=sn,subclasses:=sub,abstract:=g,collection:=col,hasDel:=aw }) m.kIn hx rfl rfl rfl cs.sa (by unfold PySem.W.clsIn;rw[B]) (by rw[a1K,a1K];rfl)
   (λself=>by show refuseLoop self "__setattr__" (.ref C::.ref S::bmV)=pure ();rw[refuseLoop_ref,refuseLoop_ref];exact PySem.F.store_ValueError.passes self) cs.ta rfl λh' ub n z1 z2 z3 z4=>?_;have i:f n=none:=m.hok.fresh z1;have k:n≠e:=λz=>by rw[z,b] at i;cases i
 exact#[σ,_,pI (t':=ub) m b Z z1 z2 z3 z4,Q n i k]
end
def ER (C:Addr) (fn:Str):Sp:=λn H Q _=>∃e v t,n=[.ref e,v]/\H e=al (xo e C t am)/\∀d,H d=am->d≠e->Q .non (upd (upd H d (.xd [(fn,v)])) e (xo e C t (al d)))
theorem RE {h:St}(I:Inv X pins h (upd H e (xo e C t i)) s) (hn:H e=am) (y:X.s₀.heap.objs.size<=e):Inv X pins h H s:=by
 have B:=I.base;have J:∀b,b≠e->upd H e (xo e C t i) b=H b:=λb z=>AH z;have O:∀b o,X.s₀.heap.get? b=al o->b≠e:=λb o q z=>by rw[z] at q;exact absurd (zP (zM q) y) (yF _)
 have u:∀b,upd H e (xo e C t i) b=am->H b=none:=λb q=>by
   by_cases z:b=e;. rw[z];exact hn
   . rw[J b z] at q;exact q
 have r:∀{b o},upd H e (xo e C t i) b=al o->o≠xo e C t i->H b=al o:=λ{b o} q T=>by
   by_cases z:b=e;. rw[z,AE] at q;cases q;exact absurd rfl T
   . rw[J b z] at q;exact q
 refine#[I.ok,I.os,I.bare,#[B.keep,B.slot,λb o q n hx=>u b (B.free b o q n hx),B.there,λb f q=>r (B.tups b f q) (by unfold xo;simp),λb o f q=>r (B.frzs b o f q) (by unfold xo;simp),λb N q=>?_],I.loc,I.cell,u _ I.free,λx c q=>u _ (I.freeC x c q),λp hp=>?_,λb o q=>?_,I.len];. obtain⟨m,g⟩:=B.tbls b N q;exact#[m,r g (by unfold xo;simp)]
 . obtain⟨j,k,v⟩:=I.pin p hp;exact#[j,u _ k,v]
 . have z:b≠e:=λz=>by rw[z,hn] at q;cases q
   have g:upd H e (xo e C t i) b=al o:=by rw[J b z];exact q
   exact(I.hok b o g).stay (λ_ _ _ a=>a) (λc a=>r a (by unfold xo;simp)) λc f a=>r a (by unfold xo;simp)
section
variable {X:Cx}{R:St->XK}{C S f:Addr}{x fn:Str}{np ah pos:ew}{arg:bp}{t:TA}{k:Nat}{fd:dV}{ps:List Str}
def VN (C:Addr) (fn:Str) (R:St->XK) (t:TA):TS:=λ_ e H=>t e H λn m=>∃v,n=[v]/\∀d,m d=am->R e (.ref C) (al d) (upd m d (.xd [(fn,v)]))
theorem iY (c:XCls X.K C S (.ref f)) (vt:b5J X.K (.ref f)=ap) (F:FnOk X.prog X.w X.K X.mg X.base CX0 k f fd ps (ER C fn)) (hb:Binds X.K fd ps []) (hr:Room (k+1) X.A) (hg:Gl X x) (hm:X.mg x=al (.ref C)) (ha:PA (X.wish (Fly X R)) [arg] t) (dz:(x==("__debug__":Str))=false:=by decide) (he:starEach [arg] X.env=[(aw,eval arg X.env)]:=by rfl) :
   PS (X.wish (Fly X R)) (.Raise (al (.Call (.Name x np) [arg] [] ah)) am pos) (VN C fn R t):=by
 intro pins s T H D I h;have FB:=b6Z;obtain⟨nm,q,N,bs,sn,sub,ab,col,dd,k0,k1,k2,k3,k5,U⟩:=c.lk;rw[arm_exec_Raise];refine zZ (bv (UE (C:=C) (hbase:=MW (S:=S)) (hh:=hr.hd) (nm:=nm) (q:=q) (N:=N) (bs:=bs) (hdct:=ap) (sn:=sn) (sub:=sub) (ab:=ab) (col:=col) (dd:=dd) (k0:=k0) (k1:=k1) (k2:=k2) (k3:=k3) (k5:=k5) (newId:= "ValueError.__new__") ?_));refine zZ (thn (cR (G1 I (X:=X.wish (Fly X R)) hg hm (b6K (h₀:=X.base) I.ok.mod.kin c.kp (Q:=λv n=>∃e t dx,v = .ref e/\n.heap.get? C=al (excClassObj nm q C N bs (.ref S::bmV) ap sn sub ab col dd k0 k1 k2 k3 k5 "ValueError.__new__") /\
     n.heap.get? e=al { cls:=.ref C,dict:=dx,data:=.fields (y9 [.ref t,.none,.none,.none,.bool aw,.none]) }/\Fly X R (.ref e) n) (thn (ha ah pins s T H _ I h) λus s1 #[vs,m,G,r,v,ev,q1]=>#[G.kIn,?_]) he rfl) dz)) λv s3 h3=>zZ (bv (zY h3)));subst ev;obtain⟨u,rfl,ru⟩:∃u,us=[u]/\RelV v u:=by cases r with | cons a b=>cases b;exact#[_,rfl,a]
 have i:=G.unwish;have hC:=i.kIn _ _ U;obtain⟨hp,g,d,Y,os⟩:=s1;have kk:=D4 (h:=hp) (C:=C) (rest:=[u]);have yh:=PM (h:=hp) (C:=C) (rest:=[u]);have p:Inv X pins T (upd m (hp.objs.size+1) (xo (hp.objs.size+1) C hp.objs.size am)) #[MV hp C [u],g,d,Y,os]:=i.laid (a:=hp.objs.size+1) (t':=Y) kk (a5K _) (pH yh);have Eu:m (hp.objs.size+1)=none:=i.hok.fresh (a5K _);have r2:Vals [V.ref (hp.objs.size+1),v] [a0X (hp.objs.size+1),u]:=.cons rfl (.cons ru .nil);have J:ER C fn [V.ref (hp.objs.size+1),v] (upd m (hp.objs.size+1) (xo (hp.objs.size+1) C hp.objs.size am)) (λw M=>w = .non/\∃y,m y=am/\y≠hp.objs.size+1/\M=upd (upd m y (.xd [(fn,v)])) (hp.objs.size+1) (xo (hp.objs.size+1) C hp.objs.size (al y))) (λ_ _ _=>False):=by refine#[_,v,hp.objs.size,rfl,AE,λy L B=>#[rfl,y,by rw[AH B] at L;exact L,B,?_]];funext b;unfold upd;by_cases z:b=hp.objs.size+1 <;> simp[z]
 have hl:([a0X (hp.objs.size+1),u]++[]).length=ps.length:=by have:=F.len _ _ _ _ J;simpa using this
 refine bX FB PN VL VM hC (c0Z i.kIn c.init) (λself=>PySem.W.bind_fn i.kIn self (beq_iff_eq.mp vt)) (xN (F.run _ X.stack _ _ #[[a0X (hp.objs.size+1),u],[]] ([a0X (hp.objs.size+1),u]++[]) _ _ _ (hr.make C [u] []) (p.env0.make C [u] []) (hb _ [a0X (hp.objs.size+1),u] p.kIn hl) r2 J) λr' s' O=>?_) (by show 1<=aB;decide);rcases r' with e | (w | _ | _ | _) <;> first | exact O.elim | skip
 obtain⟨w',M,j,jz,rfl,y,ym,hd2,rfl⟩:=p.after O;have hx:=(j.hok _ _ AE).1;have Z:(upd m y (.xd [(fn,v)])) (hp.objs.size+1)=none:=by rw[AH (a4Z hd2)];exact Eu
 have C':X.s₀.heap.objs.size<=hp.objs.size+1:=zN i.sz (a5K _);have I4:=RE j Z C';refine#[jz,hp.objs.size+1,hp.objs.size,al y,rfl,j.kIn _ _ U,hx,hp.objs.size+1,am,.ref C,al y,.none,T,_,.none,rfl,VI I4,#[#[_,_,hx,rfl,rfl,rfl,rfl,rfl],.inl rfl],Loose.of i (a5K _) Z,λt e=>(by cases e),.inl rfl,q1 y ym]
end
end XC
namespace XC
open PySem PySem.Spec L2
open PyProof.Rows (envOfC AllBare)
def XM (K:Frg) (C D:Addr):Prop:=∀(prog:bn) (w:bj) (A:ca) (E:ao->aq->Prop) (s:aq) (e:Addr) (c:cE) (Q:Bool->aq->Prop),K.In s.heap->s.heap.get? e=al c->c.cls = .ref C->Q ap s ->
 wpAny (model prog w) A (excMatches (.ref e) (.ref D)) Q E s
theorem vV (c:XCls K C S init):XM K C C:=λprog w A E s e m Q X he hc q=>by obtain⟨T,b,N,bs,h,sub,n,col,i,f,x,z,r,I,j⟩:=c.lk;obtain⟨hp,g,d,t,p⟩:=s;exact wpAny_excMatches_sub_self (X _ _ j) he hc MW q
abbrev HY (X:Cx) (a:Addr):Cx:={ X with A:=X.A.mark (al (.ref a)),calm:=aw,xe:=λ_ _=>False }
abbrev pinned (X:Cx) (pn:List (Addr×cE)):Cx:={ X with pn:=pn }
section
variable {X:Cx}{pins:List (Addr×cE)}{σ:St}{H:Hp}{s:aq}{a:Addr}
theorem RF (I:Inv X pins σ H s) (a:Addr):Inv (HY X a) pins σ H s:=#[#[I.ok.mod,I.ok.kind,I.ok.glob,I.ok.blt,I.ok.above,I.ok.inj,I.ok.has,I.ok.cab,(λz=>nomatch z),I.ok.frames,I.ok.stk,I.ok.exf,I.ok.bs,I.ok.bsz,I.ok.noex,I.ok.exfs,I.ok.funs,I.ok.frf],I.os,I.bare,I.base,I.loc,I.cell,I.free,I.freeC,I.pin,I.hok,I.len]
theorem FG (ok:X.Ok) (I:Inv (HY X a) pins σ H s):Inv X pins σ H s:=#[ok,I.os,I.bare,I.base,I.loc,I.cell,I.free,I.freeC,I.pin,I.hok,I.len]
theorem f9 (I:Inv X pins σ H s):Inv (pinned X (X.pn++pins)) [] σ H s:=#[#[I.ok.mod,I.ok.kind,I.ok.glob,I.ok.blt,I.ok.above,I.ok.inj,I.ok.has,I.ok.cab,I.ok.hd,I.ok.frames,I.ok.stk,I.ok.exf,I.ok.bs,I.ok.bsz,I.ok.noex,I.ok.exfs,I.ok.funs,I.ok.frf],I.os,I.bare,I.base,I.loc,I.cell,I.free,I.freeC,λp hp=>I.pin p (by simpa using hp),I.hok,I.len]
theorem F3 (ok:X.Ok) (I:Inv (pinned X (X.pn++pins)) [] σ H s):Inv X pins σ H s:=#[ok,I.os,I.bare,I.base,I.loc,I.cell,I.free,I.freeC,λp hp=>I.pin p (by simpa using hp),I.hok,I.len]
theorem YM (ok:X.Ok) (h:SP (pinned X (X.pn++pins)) [] D f s'):SP X pins D f s':=by
 cases f with
 | next=>obtain⟨b,H',I,q⟩:=h;exact#[b,H',F3 ok I,q]
 | brk=>obtain⟨b,H',I,q⟩:=h;exact#[b,H',F3 ok I,q]
 | cont=>obtain⟨b,H',I,q⟩:=h;exact#[b,H',F3 ok I,q]
 | ret u=>obtain⟨v,b,H',I,r,q⟩:=h;exact#[v,b,H',F3 ok I,r,q]
theorem iZ (ok:X.Ok) (h:SP (HY X a) pins D f s'):SP X pins D f s':=by
 cases f with
 | next=>obtain⟨b,H',I,q⟩:=h;exact#[b,H',FG ok I,q]
 | brk=>obtain⟨b,H',I,q⟩:=h;exact#[b,H',FG ok I,q]
 | cont=>obtain⟨b,H',I,q⟩:=h;exact#[b,H',FG ok I,q]
 | ret u=>obtain⟨v,b,H',I,r,q⟩:=h;exact#[v,b,H',FG ok I,r,q]
end
def pJ (K:Frg) (D:Addr) (cls:ao):Prop:=∃C,cls = .ref C/\XM K C D
def A2F (K:Frg) (D:Addr) (e:(St->XK)->TS) (ts:TS):TS:=λi t H=>e (λb cls _ H'=>pJ K D cls/\ts i b H') i t H
theorem A2G (u:X.stack=X.env::X.outer) (gy:X.env.frame=al X.env.locals) (hg:Gl X x) (hm:X.mg x=al (.ref D)) (hb:∀(pn:List (Addr×cE)) (R:St->XK),PSs ((pinned X pn).wish (Fly (pinned X pn) R)) body (U R)) (hs:∀a,PSs (HY X a) (m::L) ts) (dz:(x==("__debug__":Str))=false:=by decide) :
   PS X (.Try body [.ExceptHandler (al (.Name x np)) am (m::L) lj] [] [] pos) (A2F X.K D U ts):=by
 intro pins s σ H S I h;have ok:=I.ok;refine wpAny_Try_except ?_;have bh:=hb (X.pn++pins) _ [] s σ H S ((f9 I).wish _) h;refine bg bh (λf n q=>?_) λe n q=>?_
 . have k:=YM ok q.unwish;cases f with
   | next=>exact eN k
   | ret v=>exact k
   | brk=>exact k
   | cont=>exact k
 . obtain⟨a,T,cls,dd,ar,i,H',fl,rfl,J,⟨x1,pz⟩,la,B,lx,⟨C,rfl,xm⟩,r⟩:=q;have G:=F3 ok J;have fr:X.A.frames=al (X.env::X.outer):=by rw[<-u];exact ok.frames
   have hl:n.heap.FunFrames X.base (X.env::X.outer):=by rw[<-u];exact G.stack
   refine JC fr hl gy x1 pz λy g x2 n2 Q=>?_;have yl:(X.env::X.outer).filterMap (·.frame)=frs X.stack:=by rw[u];rfl
   rw[yl] at Q;have O:∀b,Loose (pinned X (X.pn++pins)) H' b->H' b=am/\X.s₀.heap.objs.size<=b/\b≠X.env.locals/\(∀x c,X.env.cells.lookup x=al c->c≠b)/\∀p∈X.pn++pins,p.1≠b:=λb l=>#[l.fre,l.above,l.loc,l.cel,l.pn]
   have I2:Inv X pins i H' { n with heap:=y }:=BU G Q λb hb=>by
     rcases yX.mp hb with q | q;. rw[q];exact O _ la
     . exact O _ (B b (by cases T with | none=>simp at q | some t=>simp at q;rw[q]))
   have Z:=O _ (n2.elim (λz=>B g z) λz=>Loose.of (b:=g) J z.2 (J.hok.fresh z.2));refine GY (s:={ n with heap:=y }) x2 λj Y m3=>?_;have N:Inv X pins i H' { n with heap:=j }:=BU (s:={ n with heap:=y }) (ch:=[g]) I2 (m3.mono (λb z=>absurd z (by simp)) λb z=>z) λb hb=>by
     have:b=g:=by simpa using hb
     rw[this];exact Z
   have I4:=RF N a;refine wpAny_handleBy_cons (codeAny_handlers_test (G1 (X:=HY X a) I4 hg hm ?_ dz)) (by intro q;cases q);obtain⟨oe,vs,he,hc,_⟩:=id Y;refine xm _ _ _ _ { n with heap:=j } a oe _ N.kIn he hc (codeAny_handlers_suite ?_);refine GY (s:={ n with heap:=j }) Y λM x4 m4=>?_;have I5:Inv X pins i H' { n with heap:=M }:=BU (s:={ n with heap:=j }) (ch:=[g]) N (m4.mono (λb z=>absurd z (by simp)) λb z=>z) λb hb=>by
     have:b=g:=by simpa using hb
     rw[this];exact Z
   refine bg (hs a pins { n with heap:=M } i H' S (RF I5 a) r) (λf s' q=>?_) λ_ _ z=>a6W z;exact iZ ok q
end XC
namespace DL
open PySem PySem.Spec L2 XC
open PyProof.Rows (envOfC AllBare)
abbrev Rx:=L2.St->XK
theorem XI.sub {i:Own}(hs:i.Sub M) (h:XI K H M.W dd fs):XI K H i.W dd fs:=h.grow (B8 hs)
abbrev DXK:=List (Option DS)->ao->List (Str×PyData)->Own->Prop
def KX (K:Frg) (R:Rx) (M:Own) (H:Hp) (DX:DXK):Prop:=∀(D:List (Option DS)) (cls:ao) (fs:List (Str×PyData)) (i:Own) (b:St) (X:Option Addr) (H':Hp),Rel K i D b H'->Step K M i H H'->XI K H' i.W X fs->DX D cls fs i->R b cls X H'
theorem KX.step {M1:Own}(k:KX K R M H DX) (t:Step K M M1 H m):KX K R M1 m DX:=λa b c d e f g h i j l=>k a b c d e f g h (t.trans i) j l
def DXt (K:Frg) (R:Rx) (t:TS) (r:List (Option DS)) (M:Own) (D:EndsD) (DX:DXK):Prop:=∀(n:St) (H:Hp) (E:Ends),Rel K M r n H->(∀e i b H',Rel K i e b H'->Step K M i H H'->D.nx e i->E.nx b H')->(∀v H' x i,OA K H' i->SI K H' i x v->Step K M i H H'->D.rt x i->E.rt v H') ->(∀e i b H',Rel K i e b H'->Step K M i H H'->D.bk e i->E.bk b H')->(∀e i b H',Rel K i e b H'->Step K M i H H'->D.ct e i->E.ct b H')->KX K R M H DX->t E n H
def DEx (K:Frg) (R:Rx) (t:TE) (n:List (Option DS)) (M:Own) (Q:DS->Own->Prop) (DX:DXK):Prop:=∀(e:St) (H:Hp) (QQ:VK),Rel K M n e H->(∀v H' x i,OA K H' i->SI K H' i x v->Step K M i H H'->Q x i->QQ v H')->KX K R M H DX->t e H QQ
structure FSpX where
 pre:List DS->Own->Prop
 post:List DS->Own->DS->Own->Prop
 xpost:List DS->Own->ao->List (Str×PyData)->Own->Prop
def spX (K:Frg) (n:Nat) (S:FSpX):Sp:=λe H Q E=>∃t M,t.length=n/\OA K H M/\SIs K H M t e/\S.pre t M/\(∀x i v H',S.post t M x i->Step K M i H H'->OA K H' i->SI K H' i x v->Q v H') /\∀cls fs i X H',S.xpost t M cls fs i->Step K M i H H'->OA K H' i->XI K H' i.W X fs->E cls X H'
section
theorem EU (h:DSt K t ρ M D):DXt K R t ρ M D DX:=λe H E X x z g Y _=>h e H E X x z g Y
theorem pK (h:DXt K R t ρ M { D with nx:=λn M1=>DXt K R u n M1 D DX } DX):DXt K R (l9 t u) ρ M D DX:=λk H E X x z m Y I=>by refine h k H { E with nx:=λi H'=>u E i H' } X (λn M1 r p j y q=>?_) z m Y I;exact q r p E j (λa b c d e f g=>x a b c d e (y.trans f) g) (λa b c d e f g q=>z a b c d e f (y.trans g) q) (λa b c d e f g=>m a b c d e (y.trans f) g) (λa b c d e f g=>Y a b c d e (y.trans f) g) (I.step y)
theorem A3r (h:DT K tA ρ M λc M1=>if c=ap then DXt K R t ρ M1 D DX else DXt K R u ρ M1 D DX):DXt K R (A0u tA t u) ρ M D DX:=λn H E X x z r Y I=>
 h n H _ X λc m M1 p y h1=>by
   have i:∀{w:TS},DXt K R w ρ M1 D DX->w E n m:=λq=>q n m E (X.step p y) (λa b c d e f g=>x a b c d e (y.trans f) g) (λa b c d e f g q=>z a b c d e f (y.trans g) q) (λa b c d e f g=>r a b c d e (y.trans f) g) (λa b c d e f g=>Y a b c d e (y.trans f) g) (I.step y);cases c with
   | true=>rw[if_pos rfl] at h1 ⊢;exact i h1
   | false=>rw[if_neg nft] at h1 ⊢;exact i h1
theorem pM (h:DI K wi ρ M λds M1=>∃P:Nat->List (Option DS)->Own->Prop,P 0 ρ M1/\(∀k d n f,ds[k]?=al d->P k n f->DG K g d n f λj z=>DXt K R tb j z (D.turn (P (k+1))) DX)/\∀n f,P ds.length n f->D.nx n f) :
   DXt K R (A0y wi g tb) ρ M D DX:=λσ H E Rl k1 k2 k3 k4 k5=>
 h σ H _ Rl λJ ds H1 M1 o1 L Y cw=>by
   obtain⟨P,p0,pt,pe⟩:=cw;refine#[λi m v H'=>m=ds.length - i/\i<=ds.length/\∃n f,Rel K f n v H'/\Step K M1 f H1 H'/\P i n f,#[_,rfl,xT _,ρ,M1,Rl.step o1 L,Step.refl,p0],?_];rintro i m v H' ⟨rfl,hi,n,f,N,G,p⟩;by_cases X:i < ds.length;. refine .inr #[Y.go i H' f X N.own G,λU T=>∃j z,Rel K z j U T/\Step K M1 z H1 T/\P (i+1) j z,(by rintro U T ⟨j,z,a,b,c⟩;exact#[ds.length - (i+1),by omega,rfl,X,j,z,a,b,c]),λx T y=>?_];obtain⟨Ed,f_,d,e1,e2⟩:=Y.yld i H' f x T N.own G X y;refine pt i d n f e1 p v T x _ (N.step Ed f_) e2 λρ3 M3 Z H3 R3 gb b3=>?_;have B:=(G.trans f_).trans gb;exact b3 Z H3 _ R3 (λr m s I O S q=>#[r,m,O,B.trans S,q]) (λw I x m a b c q=>k2 w I x m a b (L.trans (B.trans c)) q) (λr m s I O S q=>k1 r m s I O (L.trans (B.trans S)) q) (λr m s I O S q=>#[r,m,O,B.trans S,q]) (k5.step (L.trans B))
   . have e:i=ds.length:=by omega
     subst e;exact .inl #[Y.stop H' f N.own G,k1 n f v H' N (L.trans G) (pe n f p)]
theorem j4 (h:DA K tl ρ M λxs M1=>∃d,xs=[.d d]/\DX ρ (.ref C) [(fn,d)] M1):DXt K R (VN C fn R tl) ρ M D DX:=λn H E X _ _ _ _ I=>
 h n H _ X λf m xs M1 e b y G=>by
   obtain⟨d,i,q⟩:=G;subst i;obtain⟨v,r,rfl,c,rfl⟩:=b;refine#[v,rfl,λp hp=>?_];have g:Step K M1 M1 m (upd m p (.xd [(fn,v)])):=#[B0 _ hp]
   exact I ρ _ [(fn,d)] M1 n (al p) _ ((X.step e y).step (e.new hp) g) (y.trans g) #[v,λz=>z (e.none hp),AE,DV.grow g.grow c] q
theorem FH (h:DA K tl ρ M λxs M1=>xs.length=n/\S.pre xs M1/\(∀x i,S.post xs M1 x i->Q x i)/\∀cls fs i,S.xpost xs M1 cls fs i->DX ρ cls fs i):DEx K R (VJ (spX K n S) R tl) ρ M Q DX:=λb H QQ X k I=>
 h b H _ X λT z xs M1 m j y #[f,h1,g,J]=>
   #[xs,M1,f,m,j,h1,λx i v H' p e r q=>k v H' x i r q (y.trans e) (g x i p),λcls fs i c H' p e r L=>I ρ cls fs i b c H' ((X.step m y).step r e) (y.trans e) L (J cls fs i p)]
theorem VO (h:DEx K R ta ρ M D.rt DX):DXt K R (A0s ta) ρ M D DX:=λe H E X _ z _ _ I=>h e H E.rt X (λv H' x i a b c q=>z v H' x i a b c q) I
theorem fA (h:DEx K R ta ρ M (λ_ M1=>D.nx ρ M1) DX):DXt K R (lA ta) ρ M D DX:=λe H E X n _ _ _ I=>h e H _ X (λv H' x i a b c q=>n ρ i e H' (X.step a c) c q) I
theorem A2H {j:Rx->TS}(h:∀R,DXt K R (j R) ρ M D λn cls fs m=>pJ K y cls/\DSt K ts n m D):DSt K (A2F K y j ts) ρ M D:=λv H E X x z p Y=>by
 refine h _ v H E X x z p Y λn cls fs m r T H' k i _ #[U,q]=>#[U,?_]
 exact q r H' E k (λa b c d e f g=>x a b c d e (i.trans f) g) (λa b c d e f g q=>z a b c d e f (i.trans g) q) (λa b c d e f g=>p a b c d e (i.trans f) g) (λa b c d e f g=>Y a b c d e (i.trans f) g)
end
section
variable {P:bn}{w:bj}{K:Frg}{mg:Str->Option ao}{base:cr}
theorem vW :∀vs H Q E,spX K n S vs H Q E->vs.length=n:=by rintro vs H Q E ⟨t,M,r,_,h,_⟩;rw[h.length,r]
theorem A4e (F:Fun K x qual st f n) (i:FnScope N ps (AB st)) (r:∀(cdv:ao) (A:ca) (outer:List i3) (s:aq) (H:Hp) (E:XK),Room k (A.deeper (gc qual (AB st) s.heap.objs.size f cdv)) ->∃t,PSs ((HN (CXE P w) P w K mg base N qual (AB st) f cdv A outer s H E).wish (Fly (HN (CXE P w) P w K mg base N qual (AB st) f cdv A outer s H E) λ_=>E)) (BE st) t /\∀xs M,xs.length=ps.length->S.pre xs M->DXt K (λ_=>E) t (LB N xs) M { nx:=λ_ M1=>∃e:Own,e.Sub M1/\S.post xs M (.d .none) e,rt:=λy M1=>∃e:Own,e.Sub M1/\S.post xs M y e } λ_ cls fs M1=>∃e:Own,e.Sub M1/\S.xpost xs M cls fs e) :
   FnOk P w K mg base (CXE P w) (k+1) f n ps (spX K ps.length S):=by
 refine A4d F i vW λcdv A outer s H q Q E hr h=>?_;obtain⟨t,u,hq⟩:=r cdv A outer s H E hr;obtain⟨xs,M,m,c,j,pre,post,xpost⟩:=h;refine#[t,u,hq xs M m pre (L2.DW N q) H _ (TR c j) ?_ ?_ (λ_ _ _ _ _ _ z=>z.elim) (λ_ _ _ _ _ _ z=>z.elim) ?_];. rintro D M1 b H' R st ⟨e,hs,p⟩;exact post (.d .none) e .non H' p (st.trans #[B8 hs]) (R.own.sub hs) (by unfold SI DV;rfl)
 . rintro v H' y M1 o g st ⟨e,hs,p⟩;exact post y e v H' p (st.trans #[B8 hs]) (o.sub hs) (g.sub hs)
 . rintro D cls fs M1 b X H' R st L ⟨e,hs,p⟩;exact xpost cls fs e X H' p (st.trans #[B8 hs]) (R.own.sub hs) (L.sub hs)
structure HasX (P:bn) (w:bj) (K:Frg) (mg:Str->Option ao) (base:cr) (x:Str) (k:Nat) (ps:List Str) (S:FSpX):Prop where
 ex:∃f fd,FnOk P w K mg base (CXE P w) k f fd ps (spX K ps.length S)/\mg x=al (.ref f)/\a3K K (.ref f)=ap/\Binds K fd ps []
theorem j6 {X:Cx}{R:Rx}{x:Str}{k:Nat}{ps:List Str}{S:FSpX}{e:bp}{es:List bp}{t:TA}{p pos:ew}(h:HasX X.prog X.w X.K X.mg X.base x k ps S) (hr:Room k X.A) (hg:Gl X x) (g:PA (X.wish (Fly X R)) (e::es) t) (n:(x==("__debug__":Str))=false:=by decide) (he:starEach (e::es) X.env=(aw,eval e X.env)::starEach es X.env:=by rfl) (r:(backTo pos (starEach es X.env)).any (·.1)=false:=by rfl) :
   PE (X.wish (Fly X R)) (.Call (.Name x p) (e::es) [] pos) (VJ (spX X.K ps.length S) R t):=by obtain⟨f,N,F,i,hk,hb⟩:=h.ex;exact pE F hr hg i hk hb g n he r
end
end DL
namespace DL
open PySem PySem.Spec L2 XC
def DAx (K:Frg) (R:Rx) (t:TA) (m:List (Option DS)) (M:Own) (Q:List DS->Own->Prop) (DX:DXK):Prop:=∀(r:St) (H:Hp) (QQ:List V->Hp->Prop),Rel K M m r H->(∀e H' n i,OA K H' i->SIs K H' i n e->Step K M i H H'->Q n i->QQ e H')->KX K R M H DX->t r H QQ
section
theorem pN (h:DA K tl ρ M QL):DAx K R tl ρ M QL DX:=λe H QQ X k _=>h e H QQ X k
theorem pO (h:DEx K R ta ρ M (λx M1=>DAx K R tl ρ M1 (λxs e=>QL (x::xs) e) DX) DX):DAx K R (T9 ta tl) ρ M QL DX:=λn H QQ X k I=>
 h n H _ X (λv m x M1 i p y h1=>h1 n m _ (X.step i y) (λt f xs e r b c q=>k (v::t) f (x::xs) e r #[v,t,rfl,p.step c,b] (y.trans c) q) (I.step y)) I
end
end DL
namespace DL
open PySem PySem.Spec L2 XC
open PyProof.Rows (envOfC AllBare)
def fB (k:Nat):eu->eu
 | .ClassDef _ _ _ b _ _ _ _ _ _ _=>b.getD k (.Pass #[0,0,0,0])
 | _=>.Pass #[0,0,0,0]
section
variable {P:bn}{w:bj}{K:Frg}{mg:Str->Option ao}{base:cr}
theorem A2I (X:Cx) (R:Rx) {x:Str}{k:Nat}{ps:List Str}{S:FSpX}{e:bp}{es:List bp}{t:TA}{p pos:ew}(hK:X.K=K) (z:X.prog=P) (i:X.w=w) (m:X.mg=mg) (N:X.base=base) (h:HasX P w K mg base x k ps S) (hr:Room k X.A) (hg:Gl X x) (g:PA (X.wish (Fly X R)) (e::es) t) (n:(x==("__debug__":Str))=false:=by decide) (he:starEach (e::es) X.env=(aw,eval e X.env)::starEach es X.env:=by rfl) (r:(backTo pos (starEach es X.env)).any (·.1)=false:=by rfl) :
   PE (X.wish (Fly X R)) (.Call (.Name x p) (e::es) [] pos) (VJ (spX K ps.length S) R t):=by subst hK z i m N;exact j6 h hr hg g n he r
structure HasR (P:bn) (w:bj) (K:Frg) (mg:Str->Option ao) (base:cr) (x fn:Str) (C S:Addr):Prop where
 ex:∃(f:Addr) (fd:dV) (ps:List Str),XCls K C S (.ref f)/\b5J K (.ref f)=ap/\FnOk P w K mg base CX0 1 f fd ps (ER C fn)/\Binds K fd ps []/\mg x=al (.ref C)
theorem HasR.at (h:HasR P w K mg base x fn C S):mg x=al (.ref C):=let #[_,_,_,_,_,_,_,q]:=h.ex;q
theorem vX (X:Cx) (R:Rx) {x fn:Str}{C S:Addr}{arg:bp}{t:TA}{L B pos:ew}(hK:X.K=K) (z:X.prog=P) (i:X.w=w) (r:X.mg=mg) (N:X.base=base) (h:HasR P w K mg base x fn C S) (hr:Room 2 X.A) (hg:Gl X x) (g:PA (X.wish (Fly X R)) [arg] t) (e:(x==("__debug__":Str))=false:=by decide) (he:starEach [arg] X.env=[(aw,eval arg X.env)]:=by rfl) :
   PS (X.wish (Fly X R)) (.Raise (al (.Call (.Name x L) [arg] [] B)) am pos) (VN C fn R t):=by subst hK z i r N;obtain⟨f,m,p,c,M,F,hb,n⟩:=h.ex;exact iY c M F hb hr hg n g e he
structure HasN (K:Frg) (mg:Str->Option ao) (x:Str) (C S:Addr):Prop where
 c:XCls K C S (.builtin "ValueError.__init__")
 at_:mg x=al (.ref C)
theorem vY (X:Cx) (R:Rx) {x:Str}{C S:Addr}{L B pos:ew}(hK:X.K=K) (t:X.mg=mg) (h:HasN K mg x C S) (hh:X.A.handled=am) (hg:Gl X x) (e:(x==("__debug__":Str))=false:=by decide) :
   PS (X.wish (Fly X R)) (.Raise (al (.Call (.Name x L) [] [] B)) am pos) (f7 C R):=by subst hK t;exact iX h.c hg h.at_ hh e
theorem A4f (X:Cx) {D:Addr}{body:List eu}{t:eu}{p:List eu}{x:Str}{L m pos:ew}{e:Rx->TS}{ts:TS}(hK:X.K=K) (n:X.stack=X.env::X.outer) (M:X.env.frame=al X.env.locals) (hg:Gl X x) (r:X.mg x=al (.ref D)) (hb:∀(pn:List (Addr×cE)) (R:Rx),PSs ((pinned X pn).wish (Fly (pinned X pn) R)) body (e R)) (hs:∀a,PSs (HY X a) (t::p) ts) (i:(x==("__debug__":Str))=false:=by decide) :
   PS X (.Try body [.ExceptHandler (al (.Name x L)) am (t::p) m] [] [] pos) (A2F K D e ts):=by subst hK;exact A2G n M hg r hb hs i
theorem fC (F:Fun K "__init__" qual st f i) (r:FnScope ["self", pn] ["self", pn] (AB st)) (hb:BE st=[.Assign [.Attribute (.Name "self" n) fn m] (.Name pn O) q]) (c:XCls K C S (.ref f)) (cs:XSet K C fn) (nd:(["self", pn]:List Str).Nodup) (hs:∀env:i3,gt (.Name pn O) (al (.Attribute (.Name "self" n) fn m)) q.line env=pure aw) (b:∀X:Cx,X.N=(["self", pn]:List Str)->X.env.scope=AB st->PE X (.Name "self" n) (X3 0)) (h1:∀X:Cx,X.N=(["self", pn]:List Str)->X.env.scope=AB st->PE X (.Name pn O) (X3 1)):FnOk P w K mg base CX0 1 f i ["self", pn] (ER C fn):=by refine F.ok r (by rintro g H Q E ⟨e,v,t,h,_⟩;rw[h];rfl) λcdv A outer s H g Q E hr G=>?_;obtain⟨e,v,t,B,he,hq⟩:=G;subst B;rw[hb];refine#[_,MB (f8 (C:=C) (S:=S) (fn:=fn) c cs (b _ rfl rfl) (h1 _ rfl rfl) (hs _)),?_];exact#[v,rfl,.ref e,rfl,e,t,rfl,he,λd hd p=>hq d hd p]
end
end DL
namespace L2
open PySem PySem.Spec PyProof.Rows
def Itk (a:Addr) (o:cE) (ks:List (Key×V)):It:=#[λi H=>H a=al (.frz o (.dK ks))/\i < ks.length,λi H x H'=>H'=H/\∃k v,ks[i]?=al (k,v)/\x=kV k,λi H=>H a=al (.frz o (.dK ks))/\ks.length<=i]
theorem A2J {ks:List (Key×V)}{vs:List (Key×ao)}(r:KV ks vs) {i:Nat}{k:Key}{v:V}(e:ks[i]?=al (k,v)):∃u,vs[i]?=al (k,u):=by
 induction r generalizing i with
 | nil=>simp at e
 | cons h _ U=>
   cases i with
   | zero=>simp at e;obtain⟨h1,t⟩:=h;rw[e] at h1;exact#[_,by simp;exact Prod.ext h1.symm rfl]
   | succ i=>simpa using U (by simpa using e)
theorem vZ (h:OF k u=ap):RelV (kV k) u:=by
 rcases B7 h with ⟨i,t,rfl,rfl⟩ | ⟨x,t,rfl,rfl⟩
 . exact#[t,rfl]
 . exact#[t,rfl]
theorem j7 {P:bn}{w:bj}{K:Frg}{tg:bp}(a it:Addr) (o:cE) (ks:List (Key×V)) :
   Turn P w K tg (Itk a o ks) [it] it (λi h=>∃es ep,o.data = .dict es ep/\h.IsKeyIter it a i ks.length ep) where
 mem:=by simp
 obj:=λi h st b hb=>by
   have e:b=it:=by simpa using hb
   subst e;obtain⟨es,ep,_,o',e,c,d⟩:=st;exact⟨o',e,λv z=>by rw[d] at z;cases z⟩
 keep:=by rintro i h h' ⟨es,ep,q,st⟩ k;exact#[es,ep,q,st.at λo e=>k it (by simp) o e]
 item:=by
   intro X hP hw hK hc i pins s σ H E I hf #[es,ep,Dc,st] #[hg,hi];subst hP hw hK;obtain⟨f0,f1,f2,f3,f4,f5⟩:=hf it (by simp);obtain⟨gf,_,Ew,vs,rel,o',dn,om,eh,r⟩:=I.hok a _ hg;obtain rfl:o'=o:=Option.some.inj (eh.symm.trans gf);obtain⟨rfl,rfl⟩:dn=es/\om=ep:=by have:=r.2.1.symm.trans Dc;injection this with a b;exact#[a,b]
   have dat:s.heap.DictAt (AV X.prog X.w) a vs om:=#[o',dn,eh,r]
   obtain⟨⟨k,v⟩,hk⟩:∃kv,ks[i]?=al kv:=#[ks[i],zV hi]
   obtain⟨u,hu⟩:=A2J rel hk;have hl:vs.length=ks.length:=rel.length.symm;refine wpAny_pyNext_dict_item (by rw[hl];exact st) dat hu λkey h' xp ii sb=>?_;rw[hl] at ii;have I1:Inv X pins σ H { s with heap:=h' }:=I.turned (t':=s.toks) (λb o hb e=>(sb.2 b hb).trans e) f0 f1 f3 f4 f5;exact#[key,rfl,letGo_keyiter (s':={ s with heap:=h' }) ii #[kV k,H,I1,vZ xp,#[rfl,k,v,hk,rfl],#[dn,om,Dc,ii],λb hb=>(hf b hb).1]]
 done:=by
   intro X hP hw hK hc i pins s σ H E I hf #[es,ep,Dc,st] #[hg,hi];subst hP hw hK;obtain⟨f0,f1,f2,f3,f4,f5⟩:=hf it (by simp);obtain⟨gf,_,Ew,vs,rel,o',dn,om,eh,r⟩:=I.hok a _ hg;obtain rfl:o'=o:=Option.some.inj (eh.symm.trans gf);obtain⟨rfl,rfl⟩:dn=es/\om=ep:=by have:=r.2.1.symm.trans Dc;injection this with a b;exact#[a,b]
   have dat:s.heap.DictAt (AV X.prog X.w) a vs om:=#[o',dn,eh,r]
   have hl:vs.length=ks.length:=rel.length.symm;exact wpAny_pyNext_dict_end (I.ok.hd hc) (by rw[hl];exact st) dat (List.getElem?_eq_none_iff.mpr (by rw[hl];exact hi)) λh' eb=>#[rfl,I.turned (t':=s.toks) (λb o hb e=>eb b o hb e) f0 f1 f3 f4 f5]
 self:=by rintro _ _ _ _ _ ⟨_,_,_,st⟩ h;exact wpAny_pyIter_keyiter st h
section
variable {X:Cx}{tg:bp}{pins:List (Addr×cE)}{σ:St}{H:Hp}{s:aq}
theorem j8 (I:Inv X pins σ H s) (e:H a=al (.dK ks)) (ho:s.heap.get? a=al o):Inv X pins σ (upd H a (.frz o (.dK ks))) s:=by
 have v:∀b u,H b=al u->(∀z,u≠.dK z)->b≠a:=λb u q n z=>by rw[z,e] at q;cases q;exact n _ rfl
 have J:=I.un (H':=upd H a (.frz o (.dK ks))) (h':=s.heap) (t':=s.toks) #[λ_ _ q _ _ _=>q,λb u q _ _ _=>#[u.slots,q],λb u _ n _=>by rw[AH (λz=>by rw[z,e] at n;cases n)];exact n,λb u q _=>#[u,q],
   λb i q=>by rw[AH (v b _ q λ_ z=>nomatch z)];exact q,λb u i q=>by rw[AH (v b _ q λ_ z=>nomatch z)];exact q,λb r q=>#[#[],by rw[AH (v b _ q λ_ z=>nomatch z),q];simp]] λb u q=>?_
 . exact J
 . have t:∀{b u},ObjOk X.prog X.w H s.heap b u->ObjOk X.prog X.w (upd H a (.frz o (.dK ks))) s.heap b u:=λ{b u} x=>x.stay (λ_ _ _ q=>q) (λc q=>by rw[AH (v c _ q λ_ z=>nomatch z)];exact q) λc i q=>by rw[AH (v c _ q λ_ z=>nomatch z)];exact q
   by_cases z:b=a;. subst z;rw[AE] at q;cases q;exact#[ho,t (I.hok b _ e)]
   . rw[AH z] at q;exact t (I.hok b u q)
def A0Z (tl:TE):TI:=λσ H R=>tl σ H λx m=>∃a,x = .ref a/\((∃O,m a=al (.dK O)/\∀o,R (Itk a o O) (upd m a (.frz o (.dK O))))\/∃o O,m a=al (.frz o (.dK O))/\R (Itk a o O) m)
theorem w6 {l:bp}{tl:TE}(i:PE X l tl):PI X tg l (A0Z tl):=by
 intro pins s σ H R I h;refine thn (i pins s σ H _ I h) ?_;rintro v t ⟨x,M,G,S,a,y,T⟩;subst y;obtain rfl:v=a0X a:=S;have j:∀{f:Hp}{o:cE}{O:List (Key×V)},Inv X pins σ f t->f a=al (.frz o (.dK O))->R (Itk a o O) f->wpAny (model X.prog X.w) X.A (pyIter (.ref a)) (PIE X pins σ tg R) X.xe t:=λ{f o O} m e q=>by
   obtain⟨z,_,k,p,rel,n,c,D,g,r⟩:=m.hok a _ e;obtain rfl:n=o:=Option.some.inj (g.symm.trans z);have dat:t.heap.DictAt (AV X.prog X.w) a p D:=#[n,c,g,r]
   have i:p.length=O.length:=rel.length.symm;refine wpAny_pyIter_dict k dat ?_;rw[i];have N:Inv X pins σ f { t with heap:=t.heap.push { cls:=.type "dict_keyiterator", data:=.fields (y9 [.ref a,.int 0 0,.int O.length 0,.int D 0]) } }:=m.kept (t':=t.toks) λb u q=>zW _ q;refine#[t.heap.objs.size,[t.heap.objs.size],_,Itk a n O,f,rfl,N,j7 a _ n O,#[c,D,r.2.1,_,yZ _ rfl,rfl,rfl],λb hb=>?_,q];have:b=t.heap.objs.size:=by simpa using hb
   rw[this];exact m.fpOk (zR _) (m.hok.fresh (zR _))
 rcases T with ⟨O,e,q⟩ | ⟨o,O,e,q⟩
 . obtain⟨_,_,p,_,o,J,B,ho,_⟩:=G.hok a _ e;exact j (j8 G e ho) AE (q o)
 . exact j G e q
end
end L2
namespace DL
open PySem PySem.Spec L2
abbrev OR (ts:List (Str×PyData)):List PyData:=ts.map λt=>.str t.1
section
theorem pP :∀{ts:List (Str×PyData)}{ks:List (Key×V)}{i:Nat}{k:Key}{v:V},DKV K H W (AF ts) ks->ks[i]?=al (k,v)->∃u,ts[i]?=al u/\k=a1Z u.1
 | [],ks,i,k,v,h,e=>by rw[EC.mp h] at e;simp at e
 | u::ts,ks,i,k,v,h,e=>by
   obtain⟨w,r,rfl,h1,n⟩:=C6.mp h;cases i with
   | zero=>simp at e;exact#[u,rfl,e.1.symm]
   | succ i=>simpa using pP n (by simpa using e)
theorem w8 (h:DE K tl ρ M λx M1=>∃ts:List (Str×PyData),x = .d (.dict (AF ts))/\QI (OR ts) M1):DI K (A0Z tl) ρ M QI:=λB H R X k=>
 h B H _ X λv m x M1 j T N h1=>by
   obtain⟨ts,rfl,q⟩:=h1;unfold SI DV at T;obtain⟨a,O,rfl,nw,hr,hd⟩:=T;have c:O.length=ts.length:=by have:=K4 hd;unfold AF at this;simpa using this
   have Y:∀{f:Hp}{o:cE},f a=al (.frz o (.dK O))->WD K (Itk a o O) (OR ts) f M1:=λ{f o} e=>
     #[λi H' p hi n r=>#[r.grow.kept e nw (λ_ z=>nomatch z),by rw[c];simpa using hi],λH' p n r=>#[r.grow.kept e nw (λ_ z=>nomatch z),by rw[c];simp],λi H' p x G n r hi y=>by obtain⟨rfl,J,Z,S,rfl⟩:=y;obtain⟨u,hu,rfl⟩:=pP hd S;refine#[n,Step.refl,.str u.1,?_,by unfold DV;rfl];rw[zF,hu];rfl]
   refine#[a,rfl,?_];rcases hr with e | ⟨o,e⟩
   . refine .inl #[O,e,λo=>?_];have g:Grow K M1.W M1.W m (upd m a (.frz o (.dK O))):=#[λb u e' L=>by
       by_cases z:b=a;. subst z;rw[e] at e';cases e';exact .inr #[O,o,rfl,AE]
       . exact .inl (by rw[AH z];exact e'),λb z=>.inl z]
     have n:OA K (upd m a (.frz o (.dK O))) M1:=j.grow g λb U I=>by rw[AH];rintro rfl;exact nw (by unfold Own.W;rw[I];simp)
     exact k _ _ _ M1 n (N.trans #[g]) (Y AE) q
   . exact .inr #[o,O,e,k _ _ _ M1 j N (Y e) q]
theorem LJ (e:ρ[i]?=al (al (.loc a))) (m:M a=al (.d kvs)) (h:DSt K t (ρ.set i (al (.d (.dict kvs)))) (M.del a) D):DSt K t ρ M D:=λr H E R T N O Y=>by
 have hs:(M.del a).Sub M:=λb o q=>by
   unfold Own.del at q;by_cases hb:b=a;. rw[if_pos hb] at q;cases q
   . rw[if_neg hb] at q;exact q
 have n:Step K M (M.del a) H H:=#[B8 hs]
 obtain⟨v,p,y⟩:=R.slot i _ e;obtain⟨S,I,B⟩:=R.own a _ m;have u:Rel K (M.del a) ρ r H:=R.step (R.own.sub hs) n;have R2:=u.set (x:=.d (.dict kvs)) (v:=v) (by
   unfold SI DV;refine#[a,S,y,(λw=>w (by unfold Own.del;rw[if_pos rfl])),.inl I,B.grow (B8 hs)]) i;have z:r.set i (al v)=r:=by
   apply a9W;intro j;rw[List.getElem?_set];by_cases k:i=j
   . subst k;rw[if_pos rfl,p];split;. rfl
     . rename_i G;rw[a4J (by lia)] at p;cases p
   . rw[if_neg k]
 rw[z] at R2;exact h r H E R2 (λa b c d e f g=>T a b c d e (n.trans f) g) (λa b c d e f g q=>N a b c d e f (n.trans g) q) (λa b c d e f g=>O a b c d e (n.trans f) g) (λa b c d e f g=>Y a b c d e (n.trans f) g)
end
end DL
namespace L2
open PySem PySem.Spec PyProof.Rows PySem.Builtin PySem.Builtin.Str
section
theorem j9:ea (.type "list_reverseiterator") "__len__"=pure none:=by rw[jj,fk];kernel_rfl
theorem pQ:ea (.type "list_reverseiterator") "__length_hint__"=pure (al (.builtin "list_reverseiterator.__length_hint__")):=by rw[jj,fk];kernel_rfl
theorem YN (hh:A.handled=am) (j:l≠I) (hit:s.heap.IsRevIter I l ((items.size:Int) - 1)) (c:s.heap.IsList l items) (hn:items.size<=aB) (T:∀s',(∀b o,b≠I->s.heap.get? b=al o->s'.heap.get? b=al o)->s'.gens=s.gens->s'.drawn=s.drawn->s'.os=s.os->Q items.toList.reverse s'):wpAny (model prog w) A (collect (.ref I)) Q E s:=by
 have W:=(Walks.listRev (prog:=prog) (w:=w) (A:=A.in1) hh I l j items).toS;have q:0<=items.size/\s.heap.IsRevIter I l ((items.size:Int) - 1 - ((0:Nat):Int))/\s.heap.IsList l items:=#[xT _,by simpa using hit,c]
 have t:∀(i:Nat) (r:aq),(i<=items.size/\r.heap.IsRevIter I l ((items.size:Int) - 1 - (i:Int))/\r.heap.IsList l items)->r.TypeIs (.ref I) "list_reverseiterator" := λi r x=>x.2.1.typeIs;have hI:I < s.heap.objs.size:=by obtain⟨o,ho,_⟩:=hit;exact zM ho
 have k:l < s.heap.objs.size:=by obtain⟨o,ho,_⟩:=c;exact zM ho
 have S:s.heap.objs.size∉[I,l]:=λn=>by
   rcases yX.mp n with e | e;. exact a5W hI e
   . exact a5W k (List.mem_singleton.mp e)
 have f:s.heap.objs.size≠I:=a5W hI;unfold collect;refine zZ (wpAny_runValue (ge F.entry_proto_collect ?_));rw[Around.under_plainId F.plain_proto_collect _];show wpAny _ A.in1 (newList [] >>= λl=>again (.builtin "list.__iadd__" #[[l,.ref I],[]])) _ _ s;refine zZ (xM (zY #[plainId_quiet F.plain_list_iadd _,ge F.entry_list_iadd ?_]));rw[Around.under_plainId F.plain_list_iadd _];have U:=W.frame 0 s (s.heap.push { cls:=.type "list", data:=.seq ([]:List ao).toArray }) s.toks q (zR _) λb _ o e=>zW _ e;have D:(s.heap.push { cls:=.type "list", data:=.seq ([]:List ao).toArray }).get? s.heap.objs.size=al { cls:=.type "list", data:=.seq ([]:List ao).toArray }:=yZ _ rfl;have h1:Builtin.List.listSameRef (.ref s.heap.objs.size) (.ref I)=false:=by simp[Builtin.List.listSameRef,f]
 show wpAny _ A.in1 (b0X (.ref s.heap.objs.size) (.ref I) (.ref s.heap.objs.size)) _ _ _;unfold b0X;refine zZ (eo (t 0 _ U) ?_);rw[if_neg (by rw[h1];decide)];refine zZ (W.self 0 _ _ _ U (zZ (bt ?_)));unfold Builtin.List.listLengthHint;refine zZ (ji (t 0 _ U) j9 ?_);show wpAny _ A.in1 (specialOf (a0X I) (a0Q "__length_hint__") >>= _) _ _ _;refine zZ (ji (t 0 _ U) pQ ?_);generalize hid:("list_reverseiterator.__length_hint__":String)=id0
 wp_delta
 rw[show splitId id0=al ("list_reverseiterator","__length_hint__") from by subst hid;decide +kernel];subst hid;refine zZ (iu (b:=ap) (t 0 _ U) (by rw[isSubtype_type];kernel_rfl) (zY ?_));rw[if_neg (by decide)];refine zY #[plainId_quiet F.plain_extend_loop _,codeAny_extend_loopS W hn _ S _ items.size 0 _ _ _ rfl (xT _) U D (ItemsOf.nil _) λs' m u n g N=>?_];show wpAny _ A (load s.heap.objs.size >>= _) _ _ s';refine zZ (wpAny_load g (zY ?_));have M:=Moved.drop_new (o:={ cls:=.type "list", data:=.seq ([]:List ao).toArray }) (tk:=s.toks) n (zR _);have e:m.toList=items.toList.reverse:=by
   refine a9W λi=>?_;by_cases hi:i < items.size
   . have p:i < m.size:=by rw[N.1];exact hi
     have:=N.2 i _ (b3K p);rw[List.getElem?_reverse (by simpa using hi)];simp only[a5Q,b1W];rw[b3K p];exact this.symm
   . rw[a4J (by simp[N.1];lia),a4J (by simp;lia)]
 show Q m.toList s';rw[e];exact T s' (λb o hb X=>M.heap b o (λh=>hb (List.mem_singleton.mp h)) X) M.gens M.drawn M.os
end
end L2
namespace DL
open PySem PySem.Spec L2
section
def OS (as:List PyData):List PyData:=as.zipIdx.map λp=>.tuple [.int (p.2:Nat),p.1]
end
end DL
namespace DL
open PySem PySem.Spec L2
section
theorem pR (ho:J5 g T) (hT:∀i∈T,∀j,v[i]?≠al (al j)) (h:DI K wi ρ M λds M1=>ds.length < aB/\∀D,M1 D=am->∃P:Nat->List PyData->Own->Prop,P 0 [] (M1.put D (.l []))/\(∀k acc t,P k acc t->t D=al (.l acc)/\acc.length<=k) /\(∀k d acc t,ds[k]?=al d->P k acc t->DG K g d (G4 v ρ) t λS M2=>DT K tt S M2 λc Z=>if c=ap then DE K te S Z λy M4=>∃r,y = .d r/\M4 D=al (.l acc)/\P (k+1) (acc++[r]) (M4.put D (.l (acc++[r]))) else P (k+1) acc Z) /\∀acc t,P ds.length acc t->Q (.loc D) t) :
   DE K (OI v wi g tt te) ρ M Q:=λσ H QQ R k=>
 h σ H _ R λJ ds H1 M1 o1 t1 wd cw=>by
   obtain⟨hsz,hq⟩:=cw;intro A hA;obtain⟨P,p0,pa,pt,pe⟩:=hq A (o1.none hA);obtain⟨oA,sA⟩:=PF o1 hA (DVs.nil (K:=K) (H:=H1) (W:=M1.W));refine#[λi m ys f=>m=ds.length - i/\i<=ds.length/\f A=al (.lst ys)/\∃acc t,OA K f t/\Step K M1 t H1 f/\P i acc t,#[_,rfl,xT _,AE,[],_,oA,sA,p0],?_];rintro i m ys f ⟨rfl,hi,wg,acc,t,I,u,p⟩;refine#[wg,?_];have ya:∀{N:Own},(N.del A).Sub N:=λ{N} b o q=>by
     unfold Own.del at q;by_cases hb:b=A;. rw[if_pos hb] at q;cases q
     . rw[if_neg hb] at q;exact q
   by_cases B:i < ds.length
   . refine .inr #[wd.go i f t B I u,λx Y y=>?_];obtain⟨yb,gb,d,e1,e2⟩:=wd.yld i f t x Y I u B y;have Rc:Rel K t (G4 v ρ) (L2.capt v σ) Y:=((R.step o1 t1).step yb (u.trans gb)).capt;refine ho _ _ _ _ (pt i d acc t e1 p (L2.capt v σ) Y x _ Rc e2 λρ3 Z U H4 R3 ig b3 hext=>#[λi' v' md=>?_,?_]);. obtain⟨j,f1,f2⟩:=F0 md;rw[hext i' λn=>hT i' n j f1];exact md
     . refine b3 U H4 _ R3 λc H5 M5 o5 jl O=>?_;have sx:=((u.trans gb).trans ig).trans jl;cases c with
       | false=> rw[if_neg nft] at O ⊢;obtain⟨n,_⟩:=pa _ _ _ O;obtain⟨X,G,L⟩:=o5 A _ n;exact#[X,ds.length - (i+1),by omega,rfl,B,G,acc,M5,o5,sx,O]
       | true=> rw[if_pos rfl] at O ⊢;refine O U H5 _ (R3.step o5 jl) λy H6 z M6 o6 s6 oq h6=>?_;obtain⟨r,rfl,n,p'⟩:=h6;obtain⟨X,G,L⟩:=o6 A _ n;obtain⟨w1,w2⟩:=GQ o6 n (L.append (DVs.cons s6 DVs.nil));have ac:acc.length<=i:=(pa _ _ _ p).2;exact#[X,G,by rw[L.length];omega,ds.length - (i+1),by omega,rfl,B,AE,_,_,w1,(sx.trans oq).trans w2,p']
   . have e:i=ds.length:=by omega
     subst e;refine .inl #[wd.stop f t I u,?_];obtain⟨n,_⟩:=pa _ _ _ p;obtain⟨X,G,L⟩:=I A _ n;exact k _ f (.loc A) t I rfl (t1.trans u) (pe acc t p)
end
end DL
namespace DL
open PySem PySem.Spec L2 XC
theorem HasX.calm (h:HasX P w K mg base x k ps S) (hp:∀xs M,J.pre xs M->S.pre xs M/\(∀y i,S.post xs M y i->J.post xs M y i)/\∀cls fs i,¬S.xpost xs M cls fs i):Has P w K mg base x k ps J:=by
 obtain⟨f,N,F,j,hk,hb⟩:=h.ex;refine#[f,N,#[dS,λA outer s H args D B Q E hr he n u hs=>?_],j,hk,hb];obtain⟨xs,M,c,T,I,pre,q⟩:=hs;obtain⟨m,p,b⟩:=hp xs M pre;refine xN (F.run A outer s H args D B Q (λ_ _ _=>False) hr he n u #[xs,M,c,T,I,m,λy i v H' t=>q y i v H' (p y i t),λcls fs i X H' t=>absurd t (b cls fs i)]) λr s' O=>?_;cases r with
 | ok z=>cases z <;> first | exact O | exact O.elim
 | error e=> obtain⟨_,_,_,_,_,_,_,_,_,_,_,_,_,_,_,_,_,g⟩:=O;exact g.elim
end DL
namespace DL
open PySem PySem.Spec L2
def Deed.must (D:Deed):List Str:=D.names.filter λn=>decide (¬D.made=al n)
end DL
namespace DL
open PySem PySem.Spec L2 XC
section
variable {M:Own}{Q:DS->Own->Prop}{w:List Th}{ls:List (Str×Deed)}
def EH:FSp:=#[λt M=>∃D:Deed,t=[.d D.d]/\D.real,λt M y i=>∀D:Deed,t=[.d D.d]->y = .d (C7 D.must)/\i=M]
theorem jA {D:Deed}(hr:D.real) (q:Q (.d (C7 D.must)) M):[DS.d D.d].length=1/\EH.pre [.d D.d] M/\∀x i,EH.post [.d D.d] M x i->Q x i:=#[rfl,#[D,rfl,hr],λx i h=>by obtain⟨rfl,rfl⟩:=h D rfl;exact q]
end
end DL
namespace DL
open PySem PySem.Spec L2 XC
theorem PP (a b:Int):a0W (.int a) (.int b)=decide (a=b):=by
 have:a0W (.int a) (.int b)=(a==b):=by simp[a0W]
 rw[this];rfl
end DL
namespace DL
open PySem PySem.Spec L2
theorem bZ (h:CQ t.1):zH (thD t)=true:=by
 refine D8 ?_ ?_
 . exact J7 (ds:=[.str t.1,.int t.2.1,.int t.2.2]) λd hd=>by
     simp only[yX,xW,or_false] at hd;rcases hd with rfl | rfl | rfl;. exact D3 h
     . rfl
     . rfl
 . simp[thD,a2Z,a2W]
theorem NZ (h:DY w):zH (wD w)=true:=by
 refine D8 (J7 λd hd=>?_) ?_;. obtain⟨t,u,rfl⟩:=zL.mp hd;exact zG (bZ (h.2 t u).1)
 . have:a2W (w.map thD)<=3:=J8 λd hd=>by obtain⟨t,u,rfl⟩:=zL.mp hd;simp[thD,a2Z,a2W]
   simp only[wD,a2Z];lia
theorem EI (h:zH d=ap):a0W d d=true:=PySem.SeqAt.eqv_refl _ (zG h)
end DL
namespace DL
open PySem PySem.Spec L2 XC
theorem K7 (h:(GS 0 ((n:Nat):Int).toNat)[k]?=al d):k < n/\d = .int (k:Int):=by
 have r:k < n:=by have:=(yT.mp h).1;simpa [GS] using this
 refine#[r,?_];unfold GS at h;rw[zF,xZ (by lia)] at h;simp at h;exact h.symm
theorem pT (h:d∈GS 0 ((n:Nat):Int).toNat):∃k:Nat,k < n/\d = .int (k:Int):=by obtain⟨k,hk,e⟩:=List.mem_iff_getElem.mp h;exact#[k,K7 (n:=n) (by rw[zV hk,e])]
theorem JD (n:Nat):(GS 0 ((n:Nat):Int).toNat).length=n:=by simp[GS]
end DL
namespace L2
open PySem PySem.Spec PyProof.Rows
section
theorem jB (hh:A.handled=am) (hx:items[k]?=am):NxE prog w A i (λh=>h.IsTupleIter i t k/\h.IsTuple t items):=λs Q E hS hE=>by
 obtain⟨hit,u⟩:=hS;obtain⟨o,ho,hc,hd⟩:=id hit;obtain⟨n,U,y,r,e⟩:=id u;unfold a1W;refine zZ (wpAny_callSpecial?_slot (name:=a0Q "__next__") hit.typeIs a6Z (cb a6Z hit.typeIs b7V ?_ (b7Z _)));show wpAny _ _ (ka (.ref i) 0 >>= _) _ _ s;refine zZ (bf ho hd (x:=.ref t) rfl ?_);show wpAny _ _ (if (a0X t==a1X)=ap then _ else _) _ _ s;rw[if_neg (show ¬((a0X t==a1X)=ap) from nft)];show wpAny _ _ (ka (.ref i) 1 >>= _) _ _ s;refine zZ (bf ho hd (x:=.int k 0) rfl ?_);show wpAny _ _ (seqItems? (.ref t) >>= _) _ _ s;refine zZ (c3 U e ?_);simp only[a9V,hx];refine zZ (db (zZ (dl ho hd (by simp) (zZ ?_))));simp only[newExc,newTuple];refine zZ (xM (zZ (m:=kn _ _) (fz (a:=a1X) (by first | rfl | (simp only[kn];rfl)) (xM ?_ (by size_fits)))) (by size_fits));simp only[raiseNew];refine zZ (wpAny_handled ?_);first | rw[show A.in1.handled=am from hh] | rw[hh]
 exact zZ (zY (wpAny_throw (hE _ _ (((b5V ..).extBut.push _).push _) #[_,yZ _ rfl,rfl])))
end
end L2
namespace L2
open PySem PySem.Spec PyProof.Rows
theorem LK:ea (.type "tuple") (dunderI "add")=pure none:=by rw[jj,fk];kernel_rfl
theorem LL {id:String}(e:s.TypeIs a T) (hb:s.TypeIs b T) (n:ea (.type T) (dunderI "add")=pure am) (M:fillsNumberSlot (.type T) "add"=pure aw) (hs:seqSlot? (.type T) "__add__"=pure (al (.builtin id))) (sl:Slot T "__add__" id) (x:entryFor table id=al B) (t:argsOk id #[[a,b],[]]) (g:Meets (B #[[a,b],[]]) S) (h:S A (wants Q E) s):wpAny (model prog w) A (inplaceOp .Add a b) Q E s:=
 wpAny_inplaceOp_concat e hb n M hs (call_meets sl e x t g h)
section
variable {X:Cx}
def A2K (K:Frg):R2:=λx y H Q=>ipI (λi j=>i+j) x y H Q\/bD K x y H Q
theorem c6 {K:Frg}(hK:X.K=K):PIp X .Add (A2K K):=by
 subst hK;intro pins s U H x y v u Q I k Z h;rcases h with h | h;. exact A0x pins s U H x y v u Q I k Z h
 obtain⟨t,b,z,T,rfl,rfl,hx,hy,D,B,J,L⟩:=h;cases k;cases Z;obtain⟨m,r,O,_⟩:=I.tuple hx;obtain⟨i,M,hb,_⟩:=I.tuple hy;have e1:=r.length;have e2:=M.length;obtain⟨⟨cls,p,data,sl⟩,ho,hc,n,hd⟩:=id O;obtain⟨⟨Y,g,data2,j⟩,ho2,hc2,f,hd2⟩:=id hb;dsimp only at hc hd hc2 hd2;subst hc hd hc2 hd2;have e:m.toArray++i.toArray=(m++i).toArray:=by simp
 by_cases S:m=[]
 . have G:z=[]:=by cases r with | nil=>rfl | cons _ _=>cases S
   exact LL #[_,ho,rfl] #[_,ho2,rfl] LK et fw a7X a7Q (a6K _ _) (tuple_addW0 t b m.toArray i.toArray n f p g sl j (by simp[S])) #[ho,ho2,#[.ref b,H,I,rfl,B G]]
 . by_cases c:i=[]
   . have N:T=[]:=by cases M with | nil=>rfl | cons _ _=>cases c
     exact LL #[_,ho,rfl] #[_,ho2,rfl] LK et fw a7X a7Q (a6K _ _) (tuple_addW1 t b m.toArray i.toArray n f p g sl j (by simpa using S) (by simp[c])) #[ho,ho2,#[.ref t,H,I,rfl,J N]]
   . refine LL #[_,ho,rfl] #[_,ho2,rfl] LK et fw a7X a7Q (a6K _ _) (tuple_addW2 t b m.toArray i.toArray n f p g sl j (by simpa using S) (by simpa using c) (by rw[zJ,zJ];lia)) #[ho,ho2,?_];rw[e];refine#[.ref s.heap.objs.size,_,I.laid (t':=s.toks) (o:=.tup (z++T)) (λb ob q=>zW _ q) (zR _) ?_,rfl,L _ I.fresh];exact#[by rw[yY];exact D,m++i,r.append M,c0K _ _]
end
end L2
namespace DL
open PySem PySem.Spec L2
section
theorem VP (h:∃x,ρ[i]?=al (al x)/\DE K m ρ M λy M1=>D2 K r x y M1 λz k=>D.nx (ρ.set i (al z)) k):DSt K (A3E i m r) ρ M D:=λI H E R b _ _ _=>by obtain⟨x,e,h⟩:=h;obtain⟨v,B,O⟩:=R.slot i x e;refine#[v,B,h I H _ R λu p y M1 n T t q=>?_];exact q p v u _ n (SI.step t O) T λz f w k g N c j=>b _ k _ f (((R.step n t).step g c).set N i) (t.trans c) j
theorem fD (q:Q (.d (.int (i+j))) M):D2 K (A2K K) (.d (.int i)) (.d (.int j)) M Q:=λH v u QQ n e t k=>by unfold SI DV at e t;subst e;subst t;exact .inl #[i,j,rfl,rfl,k _ H (.d (.int (i+j))) M n (by unfold SI DV;rfl) Step.refl q]
theorem w9 (hz:as.length+bs.length<=aB) (q:Q (.d (.tuple (as++bs))) M):D2 K (A2K K) (.d (.tuple as)) (.d (.tuple bs)) M Q:=λH v u QQ t n i k=>by
 have f:=n;have j:=i;unfold SI DV at n i;obtain⟨a,m,rfl,c,hd⟩:=n;obtain⟨b,r,rfl,h,hd2⟩:=i;refine .inr #[a,b,m,r,rfl,rfl,c.sq,h.sq,by rw[hd.length,hd2.length];exact hz,λe=>?_,λe=>?_,λp hp=>?_]
 . have:as=[]:=by have:=hd.length;rw[e] at this;exact List.length_eq_zero_iff.mp this.symm
   subst this;exact k _ H (.d (.tuple ([]++bs))) M t j Step.refl q
 . have:bs=[]:=by have:=hd2.length;rw[e] at this;exact List.length_eq_zero_iff.mp this.symm
   subst this;rw[a4W] at q;exact k _ H (.d (.tuple as)) M t f Step.refl q
 . have g:Grow K M.W M.W H (upd H p (.tup (m++r))):=B0 _ hp;refine k _ _ (.d (.tuple (as++bs))) M (t.new hp) ?_ #[g] q;unfold SI DV;exact#[p,_,rfl,.inl #[λw=>w (t.none hp),.inl AE],(hd.append hd2).grow g]
theorem pU (P:Nat->List (Option DS)->Own->Prop) (z:∃m,P m ρ M) (pt:∀m e i,P m e i->DT K Y e i λc M1=>if c=ap then DSt K S e M1 (D.turn λt k=>∃f,f < m/\P f t k) else D.nx e M1):DSt K (lH Y S) ρ M D:=λZ H E R N G U X=>by
 obtain⟨L,z⟩:=z;refine#[λm n H'=>∃e i,Rel K i e n H'/\Step K M i H H'/\P m e i,#[L,ρ,M,R,Step.refl,z],?_];rintro m n H' ⟨e,i,v,I,p⟩;refine pt m e i p n H' _ v λc T M1 O y q=>?_;cases c with
 | false=> rw[if_neg nft] at q ⊢;exact N e M1 n T (v.step O y) (I.trans y) q
 | true=> rw[if_pos rfl] at q ⊢;refine#[λh u=>∃t k,Rel K k t h u/\Step K M k H u/\∃f,f < m/\P f t k,(by rintro h u ⟨t,k,a,b,f,B,c⟩;exact#[f,B,t,k,a,b,c]),?_];have j:=I.trans y;exact q n T _ (v.step O y) (λr m s Q J g q=>#[r,m,J,j.trans g,q]) (λw Q x m a b c q=>G w Q x m a b (j.trans c) q) (λr m s Q J g q=>N r m s Q J (j.trans g) q) (λr m s Q J g q=>#[r,m,J,j.trans g,q])
end
end DL
namespace DL
open PySem PySem.Spec L2 XC
mutual
def plD:PyData->Bool
 | .int _=>ap
 | .str _=>ap
 | .tuple ds=>plAll ds
 | _=>aw
def plAll:List PyData->Bool
 | []=>ap
 | d::r=>plD d&&plAll r
end
mutual
theorem c7:∀(a b:PyData),plD a=ap->plD b=ap->a0W a b=ap->a=b
 | .int i,.int j,_,_,h=>by simp only[a0W,beq_iff_eq] at h;rw[h]
 | .str i,.str j,_,_,h=>by simp only[a0W,beq_iff_eq] at h;rw[h]
 | .tuple t,.tuple c,h1,e,h=>by simp only[a0W] at h;rw[eqv_plAll t c (by simpa [plD] using h1) (by simpa [plD] using e) h]
 | .int _,.str _,_,_,h=>by cases h
 | .int _,.tuple _,_,_,h=>by cases h
 | .str _,.int _,_,_,h=>by cases h
 | .str _,.tuple _,_,_,h=>by cases h
 | .tuple _,.int _,_,_,h=>by cases h
 | .tuple _,.str _,_,_,h=>by cases h
 | .none,_,h,_,_=>by cases h
 | .bool _,_,h,_,_=>by cases h
 | .list _,_,h,_,_=>by cases h
 | .dict _,_,h,_,_=>by cases h
 | _,.none,_,h,_=>by cases h
 | _,.bool _,_,h,_=>by cases h
 | _,.list _,_,h,_=>by cases h
 | _,.dict _,_,h,_=>by cases h
theorem eqv_plAll:∀(a b:List PyData),plAll a=ap->plAll b=ap->PyData.eqvAll a b=ap->a=b
 | [],[],_,_,_=>rfl
 | x::t,y::c,h1,e,h=>by simp only[plAll,a0V] at h1 e;simp only[PyData.eqvAll,a0V] at h;rw[c7 x y h1.1 e.1 h.1,eqv_plAll t c h1.2 e.2 h.2]
 | [],_::_,_,_,h=>by cases h
 | _::_,[],_,_,h=>by cases h
end
end DL
namespace DL
open PySem PySem.Spec L2 XC
theorem YO {ss:List Str}(h:∀s∈ss,CQ s):zH (.tuple (ss.map .str))=true:=by
 refine D8 (J7 λd hd=>?_) ?_;. obtain⟨s,hs,rfl⟩:=zL.mp hd;exact D3 (h s hs)
 . have:a2W (ss.map .str)<=2:=J8 λd hd=>by obtain⟨s,hs,rfl⟩:=zL.mp hd;simp[a2Z]
   simp only[a2Z];lia
end DL
namespace DL
open PySem PySem.Spec L2 XC
theorem pV (q:∀p,M p=am->Q (.loc p) (M.put p (.d (AF [])))):DE K lW t M Q:=λn H QQ R k p hp=>by obtain⟨Y,e⟩:=MI (kvs:=[]) (ks:=[]) R.own hp (by unfold DKV;rfl);exact k _ _ (.loc p) _ Y (by unfold SI;rfl) e (q p (R.own.none hp))
end DL
namespace DL
open PySem PySem.Spec L2 XC
section
variable {M:Own}{Q:DS->Own->Prop}{ys:List Str}{w:List Th}{D:Deed}{p:Addr}{L:List Int}
def KW (x:Int):Nat:=97+(x % 26).toNat
def A3s (u:Int):PyData->PyData
 | .int k=>.str #[(y9 [KW (u/(1+5*k))])]
 | d=>d
def HZ (u:Int):List Nat:=(a2Q 8).map λk:Nat=>KW (u/(1+5*(k:Int)))
theorem pW (v:Int):atI (a0Q "abcdefghijklmnopqrstuvwxyz").cps.toList (v % 26)=al (KW v):=by
 have S:0<=v % 26:=a7W _ (by decide);have h1:v % 26 < 26:=b1K _ (by decide);unfold KW;generalize v % 26=m at S h1;obtain⟨n,rfl⟩:∃n:Nat,m=(n:Int):=#[m.toNat,by lia]
 have hn:n < 26:=by lia
 rw[a9V];refine AG ?_;have key:∀n:Fin 26,(a0Q "abcdefghijklmnopqrstuvwxyz").cps.toList[n.1]?=al (97+n.1):=by decide +kernel
 exact key #[n,hn]
theorem YQ (x:Int):IS (KW x)=true:=by have S:0<=x % 26:=a7W _ (by decide);have h1:x % 26 < 26:=b1K _ (by decide);unfold IS KW;rw[a0V,decide_eq_true_iff,decide_eq_true_iff];lia
def z18 (u:Int):Str:=#[(HZ u).toArray]
theorem pX (u:Int):(z18 u).cps.toList=HZ u:=rfl
theorem RG (u:Int):(z18 u).length=8:=rfl
theorem LM (u:Int):(HZ u).length=8:=rfl
def GZ (u x:Int) (k:Nat):Str:=if x/8 % 2=0 then (#[(y9 [KW (x/16+(k:Int))])]:Str)++b2Z (z18 u) am (al (x/16 % 8)) else b2Z (z18 u) am (al (1+(x+(k:Int)) % 8))
theorem A0a (u:Int) (S:0<=m):(b2Z (z18 u) am (al m)).cps.toList=(HZ u).take m.toNat:=by
 obtain⟨n,rfl⟩:∃n:Nat,m=(n:Int):=#[m.toNat,by lia]
 rw[bJ,pX,a9V]
theorem O0 (u x:Int) (k:Nat):(GZ u x k).cps.toList=if x/8 % 2=0 then KW (x/16+(k:Int))::(HZ u).take (x/16 % 8).toNat else (HZ u).take (1+(x+(k:Int)) % 8).toNat:=by
 unfold GZ;split;. rw[SR,A0a u (a7W _ (by decide))];rfl
 . have:=a7W (x+(k:Int)) (b:=8) (by decide);rw[A0a u (by lia)]
theorem jC (u x:Int) (k:Nat):CQ (GZ u x k):=by
 have t:∀c∈HZ u,IS c=true:=λc hc=>by obtain⟨j,_,rfl⟩:=zL.mp hc;exact YQ _
 have e:=O0 u x k;have z:=LM u;refine nS (λc hc=>?_) ?_ ?_
 . rw[e] at hc;split at hc
   . rcases yX.mp hc with rfl | hc;. exact YQ _
     . exact t c (b3J hc)
   . exact t c (b3J hc)
 . rw[e];split;. simp
   . rw[a0J];have:=a7W (x+(k:Int)) (b:=8) (by decide);lia
 . rw[e];split;. rw[yR,a0J];have:=b1K (x/16) (b:=8) (by decide);lia
   . rw[a0J];lia
theorem pY (n:j < 8) (hk:k < 8) (h:GZ u x j=GZ u x k):j=k:=by
 have e:(GZ u x j).cps.toList=(GZ u x k).cps.toList:=by rw[h]
 rw[O0,O0] at e;split at e;. have t:=(List.cons.inj e).1;unfold KW at t;lia
 . have t:=congrArg b9Q e;rw[a0J,a0J,LM] at t;lia
theorem wA (u x:Int) (hn:n<=6):AK ((a2Q n).map (GZ u x)):=by
 refine#[λz q=>?_,?_,by rw[zX,xY];lia];. obtain⟨k,_,rfl⟩:=zL.mp q;exact jC u x k
 . unfold List.Nodup;rw[b2W];refine List.pairwise_iff_getElem.mpr λi j hi t r e=>?_;rw[xY] at hi t;rw[List.getElem_range,List.getElem_range] at e;have:=pY (by lia) (by lia) e;lia
theorem pZ (r:(w.map (·.1)).Nodup) (h:w[k]?=al t):E5 (w.take k) t.1 t.2.1 t.2.2=w.take (k+1):=by
 unfold E5;rw[if_neg λq=>?_,a1V,h];. rfl
 . obtain⟨s,hs,e⟩:=List.any_eq_true.mp q;have e:=of_decide_eq_true e;obtain⟨i,hi,rfl⟩:=List.mem_iff_getElem.mp hs;rw[a0J] at hi;rw[List.getElem_take] at e;obtain⟨hk,rfl⟩:=yT.mp h;have n:=List.pairwise_iff_getElem.mp r i k (by rw[zX];lia) (by rw[zX];exact hk) (by lia);rw[b9K,b9K] at n;exact n e
def inT (ns:List Str):PyData->PyData | .str z=>.bool (decide (z∈ns)) | d=>d
theorem YR (ns l:List Str):(l.map a0K).map (inT ns)=(l.map λz=>decide (z∈ns)).map .bool:=by rw[zD,zD];rfl
theorem jD {p:Int}:(E5 ts x p c).length<=ts.length+1:=by
 unfold E5;split;. rw[zX];lia
 . rw[yY];exact zR _
theorem YS {p:Int}(h:n≠x):AA (E5 ts x p c) n=AA ts n:=by rw[FF,if_neg h]
theorem c8 (h:tsO a=tsO b):a=b:=by
 have h1:AF (tsD a)=AF (tsD b):=MO.d.inj h;clear h;induction a generalizing b with
 | nil=>cases b with | nil=>rfl | cons _ _=>cases h1
 | cons x r U=>cases b with
   | nil=>cases h1
   | cons y s=> simp only[AF,tsD,pcD,zI,List.cons.injEq,Prod.mk.injEq,PyData.str.injEq,PyData.tuple.injEq,PyData.int.injEq,and_true] at h1;rw[U (b:=s) (by simpa [AF,tsD,pcD] using h1.2)];obtain⟨⟨e,j,t⟩,_⟩:=h1;obtain⟨N,n,i⟩:=x;obtain⟨m,c,T⟩:=y;simp only at e j t;rw[e,j,t]
theorem A3t (ns:List Str) (D:Deed):decide (AJ ns D=am)=((D.must.map λz=>decide (z∈ns)).all id&&!((D.made.toList.map λz=>decide (z∈ns)).any id)):=by
 rw[a3Q,decide_eq_true_iff,a0V,a8V,Bool.not_eq_true',List.any_eq_false];constructor
 . intro h;have h:=D9 h;refine#[λb hb=>?_,λb hb=>?_];. obtain⟨z,t,rfl⟩:=zL.mp hb;obtain⟨h1,e⟩:=yL.mp t;exact decide_eq_true ((h z h1).mpr (of_decide_eq_true e))
   . obtain⟨z,t,rfl⟩:=zL.mp hb;have x:D.made=al z:=by simpa using t
     have hn:z∈D.names:=by cases D <;> simp_all [Deed.made,Deed.names]
     have:=(h z hn)
     simp only[id,decide_eq_true_eq];exact λq=>this.mp q x
 . rintro⟨h1,e⟩;refine R9 λn hn=>#[λq x=>?_,λx=>?_]
   . exact e _ (zL.mpr #[n,by simpa using x,rfl]) (decide_eq_true q)
   . exact of_decide_eq_true (h1 _ (zL.mpr #[n,yL.mpr #[hn,decide_eq_true x],rfl]))
def stT (ns:List Str):PyData->Bool | .str z=>decide (z∈ns) | _=>aw
def frT (ns:List Str) (d:PyData):Bool:=!stT ns d
theorem qD (ns l:List Str):((l.map a0K).filter (stT ns)).map id=(l.filter λz=>decide (z∈ns)).map .str:=by rw[b2Q,xU];rfl
theorem RH (ns l:List Str):((l.map a0K).filter (frT ns)).map id=(l.filter λz=>!decide (z∈ns)).map .str:=by rw[b2Q,xU];rfl
theorem YT (l:List Str):a0W (.list (l.map a0K)) (.list [])=l.isEmpty:=by
 cases l with
 | nil=>rfl
 | cons a r=>simp[a0W,PyData.eqvAll]
theorem YU {e:Type}{l:List e}(h:l.isEmpty=aw):l≠[]:=by rintro rfl;cases h
def okX (L:List Int):Prop:=∀x∈L,0<=x/\x < 1000000000
def MX:FSp:=#[λt M=>∃(e:List Int) (k:Nat),t=[.d (.list (e.map .int)),.d (.int k)],λt M y i=>i=M/\∃c:Int,y = .d (.int c)]
theorem YV {ns:List Int}{k:Nat}(q:∀c:Int,Q (.d (.int c)) M):[DS.d (.list (ns.map .int)),.d (.int k)].length=2/\MX.pre [.d (.list (ns.map .int)),.d (.int k)] M/\∀x i,MX.post [.d (.list (ns.map .int)),.d (.int k)] M x i->Q x i:=#[rfl,#[ns,k,rfl],λx i h=>by obtain⟨rfl,c,rfl⟩:=h;exact q c]
def G9:FSp:=#[λt M=>∃(c:Int) (n:Nat),t=[.d (.int c),.d (.int n)]/\n<=200,λt M y i=>∀(c:Int) (n:Nat),t=[.d (.int c),.d (.int n)]->i=M/\∃L:List Int,y = .d (.list (L.map .int))/\L.length=n/\okX L]
theorem VQ (hn:n<=200) (q:∀L:List Int,L.length=n->okX L->Q (.d (.list (L.map .int))) M):[DS.d (.int c),.d (.int n)].length=2/\G9.pre [.d (.int c),.d (.int n)] M/\∀x i,G9.post [.d (.int c),.d (.int n)] M x i->Q x i:=#[rfl,#[c,n,rfl,hn],λx i h=>by obtain⟨rfl,L,rfl,h1,e⟩:=h c n rfl;exact q L h1 e]
def nxX (L:List Int) (a n:Nat):List DS:=[.d (.list (L.map .int)),.d (.int a),.d (.int n)]
def K8:FSp:=#[λt M=>∃(L:List Int) (a n:Nat),t=nxX L a n/\okX L/\a+1 < L.length/\n<=6/\L.length<=200,λt M y i=>∀(L:List Int) (a n:Nat),t=nxX L a n->i=M/\∃ys,y = .d (C7 ys)/\AK ys/\ys.length=n]
theorem VR (h:okX L) (g:a+1 < L.length) (hn:n<=6) (r:L.length<=200) (q:∀ys,AK ys->ys.length=n->Q (.d (C7 ys)) M):(nxX L a n).length=3/\K8.pre (nxX L a n) M/\∀x i,K8.post (nxX L a n) M x i->Q x i:=#[rfl,#[L,a,n,rfl,h,g,hn,r],λx i t=>by obtain⟨rfl,ys,rfl,h1,e⟩:=t L a n rfl;exact q ys h1 e]
def H0:FSp:=#[λt M=>∃x:Int,t=[.d (.int x)]/\0<=x/\x < 1000000000,λt M y i=>i=M/\∃v:Int,y = .d (.int v)/\0<=v/\v<=999]
theorem MY (h:0<=x/\x < 1000000000) (q:∀v:Int,0<=v->v<=999->Q (.d (.int v)) M):[DS.d (.int x)].length=1/\H0.pre [.d (.int x)] M/\∀y i,H0.post [.d (.int x)] M y i->Q y i:=#[rfl,#[x,rfl,h],λy i t=>by obtain⟨rfl,v,rfl,h1,e⟩:=t;exact q v h1 e]
def FI:FSp:=#[λt M=>∃x:Int,t=[.d (.int x)]/\0<=x/\x < 1000000000,λt M y i=>i=M/\∃v:Int,y = .d (.int v)/\-1000000000000<=v/\v<=1000000000000]
theorem KY (h:0<=x/\x < 1000000000) (q:∀v:Int,-1000000000000<=v->v<=1000000000000->Q (.d (.int v)) M):[DS.d (.int x)].length=1/\FI.pre [.d (.int x)] M/\∀y i,FI.post [.d (.int x)] M y i->Q y i:=#[rfl,#[x,rfl,h],λy i t=>by obtain⟨rfl,v,rfl,h1,e⟩:=t;exact q v h1 e]
def MZ:FSp:=#[λt M=>∃(ys:List Str) (x:Int),t=[.d (C7 ys),.d (.int x)]/\ys≠[]/\ys.length<=60,λt M y i=>∀(ys:List Str) (x:Int),t=[.d (C7 ys),.d (.int x)]->i=M/\∃z,y = .d (.str z)/\z∈ys]
theorem EJ (h:ys≠[]) (r:ys.length<=60) (q:∀z∈ys,Q (.d (.str z)) M):[DS.d (C7 ys),.d (.int x)].length=2/\MZ.pre [.d (C7 ys),.d (.int x)] M/\∀y i,MZ.post [.d (C7 ys),.d (.int x)] M y i->Q y i:=#[rfl,#[ys,x,rfl,h,r],λy i e=>by obtain⟨rfl,z,rfl,h1⟩:=e ys x rfl;exact q z h1]
def RI (L:List Int) (a:Nat) (ys:List Str):List DS:=[.d (.list (L.map .int)),.d (.int a),.d (C7 ys)]
def fE (ys:List Str) (w:List Th):Prop:=A3k w/\∀t∈w,t.1∈ys
def K9:FSp:=#[λt M=>∃(L:List Int) (a:Nat) (ys:List Str),t=RI L a ys/\okX L/\a+ys.length < L.length/\L.length<=200/\AK ys/\ys.length<=6,λt M y i=>∀(L:List Int) (a:Nat) (ys:List Str),t=RI L a ys->i=M/\∃w,y = .d (wD w)/\fE ys w]
theorem VS (h:okX L) (g:a+ys.length < L.length) (r:L.length<=200) (hn:AK ys) (I:ys.length<=6) (q:∀w,fE ys w->Q (.d (wD w)) M):(RI L a ys).length=3/\K9.pre (RI L a ys) M/\∀x i,K9.post (RI L a ys) M x i->Q x i:=#[rfl,#[L,a,ys,rfl,h,g,r,hn,I],λx i e=>by obtain⟨rfl,w,rfl,h1⟩:=e L a ys rfl;exact q w h1]
structure There (ys:List Str) (w:List Th):Prop where
 nd:(w.map (·.1)).Nodup
 sub:∀t∈w,t.1∈ys
def KA:FSp:=#[λt M=>∃w:List Th,t=[.d (wD w)]/\(w.map (·.1)).Nodup/\w.length < 60,λt M y i=>∀w:List Th,t=[.d (wD w)]->∃p,M p=am/\y = .loc p/\i=M.put p (tsO w)]
theorem VT (h:(w.map (·.1)).Nodup) (r:w.length < 60) (q:∀p,M p=am->Q (.loc p) (M.put p (tsO w))):[DS.d (wD w)].length=1/\KA.pre [.d (wD w)] M/\∀x i,KA.post [.d (wD w)] M x i->Q x i:=#[rfl,#[w,rfl,h,r],λx i e=>by obtain⟨p,h1,rfl,rfl⟩:=e w rfl;exact q p h1]
def JE:FSp:=#[λt M=>∃D:Deed,t=[.d D.d]/\D.real,λt M y i=>∀D:Deed,t=[.d D.d]->y = .d (C7 D.made.toList)/\i=M]
theorem YW (h:D.real) (q:Q (.d (C7 D.made.toList)) M):[DS.d D.d].length=1/\JE.pre [.d D.d] M/\∀x i,JE.post [.d D.d] M x i->Q x i:=#[rfl,#[D,rfl,h],λx i e=>by obtain⟨rfl,rfl⟩:=e D rfl;exact q]
def ddX (L:List Int) (a:Nat) (ys:List Str) (p:Addr):List DS:=[.d (.list (L.map .int)),.d (.int a),.d (C7 ys),.loc p]
def AN (ys:List Str) (D:Deed):Prop:=D.real/\∀x∈D.names,x∈ys
def JF:FSp:=#[λt M=>∃(L:List Int) (a:Nat) (ys:List Str) (p:Addr) (w:List Th),t=ddX L a ys p/\okX L/\a+4 < L.length/\L.length<=200/\AK ys/\2<=ys.length/\ys.length<=6/\M p=al (tsO w),λt M y i=>∀(L:List Int) (a:Nat) (ys:List Str) (p:Addr),t=ddX L a ys p->i=M/\∃D:Deed,y = .d D.d/\AN ys D]
theorem YX (h:okX L) (g:a+4 < L.length) (r:L.length<=200) (hn:AK ys) (e:2<=ys.length) (I:ys.length<=6) (m:M p=al (tsO w)) (q:∀D:Deed,AN ys D->Q (.d D.d) M):(ddX L a ys p).length=4/\JF.pre (ddX L a ys p) M/\∀x i,JF.post (ddX L a ys p) M x i->Q x i:=#[rfl,#[L,a,ys,p,w,rfl,h,g,r,hn,e,I,m],λx i t=>by obtain⟨rfl,D,rfl,h1⟩:=t L a ys p rfl;exact q D h1]
def rwX (L:List Int) (a n:Nat) (ys:List Str) (p:Addr):List DS:=[.d (.list (L.map .int)),.d (.int a),.d (.int n),.d (C7 ys),.loc p]
def PQ:FSp:=#[λt M=>∃(L:List Int) (a n:Nat) (ys:List Str) (p:Addr) (w:List Th),t=rwX L a n ys p/\okX L/\a+5*n<=L.length/\L.length<=200/\n<=12/\AK ys/\2<=ys.length/\ys.length<=6/\M p=al (tsO w)/\There ys w,λt M y i=>∀(L:List Int) (a n:Nat) (ys:List Str) (p:Addr),t=rwX L a n ys p->i=M/\∃e:List Deed,y = .d (.tuple (e.map Deed.d))/\e.length=n/\∀D∈e,AN ys D]
theorem IA (h:okX L) (g:a+5*n<=L.length) (b:L.length<=200) (e:n<=12) (hn:AK ys) (t:2<=ys.length) (I:ys.length<=6) (m:M p=al (tsO w)) (u:There ys w) (q:∀Ds:List Deed,Ds.length=n->(∀D∈Ds,AN ys D)->Q (.d (.tuple (Ds.map Deed.d))) M):(rwX L a n ys p).length=5/\PQ.pre (rwX L a n ys p) M/\∀x i,PQ.post (rwX L a n ys p) M x i->Q x i:=#[rfl,#[L,a,n,ys,p,w,rfl,h,g,b,e,hn,t,I,m,u],λx i r=>by obtain⟨rfl,Ds,rfl,h1,J⟩:=r L a n ys p rfl;exact q Ds h1 J]
theorem VU (hn:AK ys) (t:0<=pl) (n:pl<=999) (hz:z∈ys):AN ys (.put z pl num)/\AN ys (.take z)/\AN ys (.move z pl)/\AN ys (.count z num):=by
 have B:=hn.1 z hz;have one:∀{D:Deed},D.names=[z]->D.ok/\∀x∈D.names,x∈ys:=λ{D} e=>by
   refine#[λx hx=>?_,λx hx=>?_];. rw[e] at hx;rw[List.mem_singleton.mp hx];exact B
   . rw[e] at hx;rw[List.mem_singleton.mp hx];exact hz
 exact#[#[#[(one rfl).1,trivial,t,n],(one rfl).2],#[#[(one rfl).1,trivial,trivial],(one rfl).2],#[#[(one rfl).1,trivial,t,n],(one rfl).2],#[#[(one rfl).1,trivial,trivial],(one rfl).2]]
theorem wB (hn:AK ys) (n:0<=pl) (i:pl<=999) (ho:o∈ys) (hy:y∈ys) (t:y≠o):AN ys (.name o y)/\AN ys (.split o y pl num)/\AN ys (.join o y):=by
 have two:∀{D:Deed},D.names=[o,y]->D.ok/\∀x∈D.names,x∈ys:=λ{D} e=>by
   have h:∀x∈D.names,x∈ys:=λx hx=>by
     rw[e] at hx;rcases yX.mp hx with q | q;. rw[q];exact ho
     . rw[List.mem_singleton.mp q];exact hy
   exact#[λx hx=>hn.1 x (h x hx),h]
 exact#[#[#[(two rfl).1,a4Z t,trivial],(two rfl).2],#[#[(two rfl).1,a4Z t,n,i],(two rfl).2],#[#[(two rfl).1,a4Z t,trivial],(two rfl).2]]
theorem wC (hn:AK ys) (t:2<=ys.length) (o:Str):(ys.filter λz=>!decide (z=o))≠[]:=by
 intro h;have all:∀z∈ys,z=o:=λz q=>by have:=List.filter_eq_nil_iff.mp h z q;simpa using this
 match ys,t,hn,all with
 | a::b::r,_,hn,all=> have e:=(all a (by simp)).trans (all b (by simp)).symm;have:=hn.2.1;rw[xV] at this;exact this.1 (by rw[e];simp)
def neT (o:Str):PyData->Bool | .str z=>!decide (z=o) | _=>aw
theorem qE (o:Str) (l:List Str):((l.map a0K).filter (neT o)).map id=(l.filter λz=>!decide (z=o)).map .str:=by rw[b2Q,xU];rfl
theorem N0 :(M.put a o).del a=M.del a:=by funext b;unfold Own.del Own.put;by_cases h:b=a <;> simp[h]
theorem A2L (h:b≠a):(M.del a) b=M b:=by unfold Own.del;rw[if_neg h]
theorem qF (h:M.Sub N) (n:N a=am):M a=none:=by
 cases e:M a with
 | none=>rfl
 | some o=>have:=h a o e;rw[n] at this;cases this
theorem RJ (h:There ys w) (hg:goD w D) (hD:∀x∈D.names,x∈ys):There ys (doT w D):=by
 obtain⟨nd,r⟩:=NW hg;refine#[nd,λt u=>?_];have h1:t.1∈(doT w D).map (·.1):=zL.mpr #[t,u,rfl];rw[NV hg.2.1 hg.2.2] at h1;have e:∀z∈w.map (·.1),z∈ys:=λz n=>by obtain⟨s,hs,rfl⟩:=zL.mp n;exact h.sub s hs
 cases D with
 | put x p k=>rcases yW.mp h1 with q | q;exact e _ q;exact hD _ (by simpa [Deed.names] using q)
 | take x=>exact e _ (yL.mp h1).1
 | move x p=>exact e _ h1
 | count x k=>exact e _ h1
 | name x y=>rcases yW.mp h1 with q | q;exact e _ (yL.mp q).1;exact hD _ (by rw[List.mem_singleton.mp q];simp[Deed.names])
 | split x y p k=>rcases yW.mp h1 with q | q;exact e _ q;exact hD _ (by rw[List.mem_singleton.mp q];simp[Deed.names])
 | join x y=>exact e _ (yL.mp h1).1
theorem JG:∀{l ys:List Str},l.Nodup->(∀z∈l,z∈ys)->l.length<=ys.length
 | [],_,_,_=>xT _
 | a::r,ys,hn,hs=>by rw[xV] at hn;have g:=hs a (by simp);have:=JG (l:=r) (ys:=ys.erase a) hn.2 λz q=>(List.mem_erase_of_ne (by rintro rfl;exact hn.1 q)).mpr (hs z (yV _ q));rw[List.length_erase_of_mem g] at this;have:=List.length_pos_of_mem g;rw[yR];lia
theorem There.few (h:There ys w):w.length<=ys.length:=by
 have:=JG h.nd λz q=>by obtain⟨t,h1,rfl⟩:=zL.mp q;exact h.sub t h1
 rw[zX] at this;exact this
end
end DL
namespace L2
open PySem PySem.Spec PyProof.Rows
def c9:List V->Hp->VK->Prop:=λt H Q=>∃(p:Addr) (kvs:List (Key×V)),t=[.ref p]/\Rd H p (.dK kvs)/\∀q:Addr,H q=am->Q (.ref q) (upd H q (.dK kvs))
theorem cA :CN X (.type "dict") c9:=by intro pins s v H j g Q I r h;obtain⟨p,kvs,rfl,hp,q⟩:=h;obtain⟨u,rfl,m⟩:=GM r;cases m;obtain⟨t,n,f,rel,hd⟩:=IR I.hok hp;have k:f.length=kvs.length:=(Paired.length rel).symm;refine kt_call_dict n hd (by rw[k];exact t) λi M c=>?_;have hn:H s.heap.objs.size=none:=I.hok.fresh (zR _);have keep:∀b o,s.heap.get? b=al o->i.get? b=al o:=λb o e=>c.extBut b o (zC (zM e)) (zW _ e);refine#[.ref s.heap.objs.size,_,I.laid (t':=s.toks) (o:=.dK kvs) keep (zR _) ?_,rfl,q _ hn];exact NK t (beq_eq_false_iff_ne.mpr (a4Z (zC I.big))) rel M
end L2
namespace DL
open PySem PySem.Spec L2
section
variable {X:Cx}{K:Frg}
theorem A2M (h:X.K=K):CN X (.type "dict") c9:=cA
end
section
theorem YY (h:DE K ty ρ M λy M1=>DE K td ρ M1 λx e=>∃(a:Addr) (ts:List (Str×PyData)) (k:Str),x = .loc a/\y = .d (.str k)/\e a=al (.d (AF ts))/\Q (.d (.bool (!(BK ts k).isSome))) e):DE K (dP ty td) ρ M Q:=λp H QQ R S=>
 h p H _ R λv b x M1 T N r h1=>h1 p b _ (R.step T r) λu f y e n i I z=>by
   obtain⟨a,ts,k,rfl,rfl,m,q⟩:=z;unfold SI at i;subst i;rw[BD N];obtain⟨O,c,j⟩:=n a _ m;refine#[a,GD O (a1Z k),rfl,.inl #[O,a1Z k,.inl c,rfl,rfl],S _ f _ e n ?_ (r.trans I) q];rcases CS (k:=k) j with ⟨B,G,t,g,D⟩ | ⟨t,g⟩
   . rw[t,g];exact AM
   . rw[t,g];exact AM
theorem jE (h:∀p,M p=am->DPs K r ρ (M.put p (.d [])) λt M1=>M1 p=al (.d [])/\t.length<=15/\(t.map (·.1)).Nodup/\Q (.loc p) (M1.put p (.d (AF t)))):DE K (A0P r) ρ M Q:=λy H QQ R k p hp=>by
 have j:=R.own.none hp;obtain⟨Y,c⟩:=MI (kvs:=[]) (ks:=[]) R.own hp (by unfold DKV;rfl);refine h p j y _ _ (R.step Y c) ?_;rintro N f t g m ⟨n,hd,e⟩ v u;obtain⟨x,z,nd,q⟩:=u;obtain⟨ks,T,B⟩:=m p _ x;unfold DKV at B;subst B;have i:n.length=t.length:=by rw[hd.length,zX]
 refine#[T,(t.map λk=>(a1Z k.1:Key)).zip n,?_,by rw[List.length_zip,zX];lia,?_];. rw[e];exact Y0 t n i
 . have hk:(((t.map λk=>(a1Z k.1:Key)).zip n).map (·.1)).Nodup:=by
     rw[List.map_fst_zip (by rw[zX,i];exact zR _)];have:t.map (λk=>(a1Z k.1:Key))=(t.map (·.1)).map a1Z:=by rw[zD];rfl
     rw[this];unfold List.Nodup;rw[b2W];exact nd.imp λ{a b} q e=>q (by injection e)
   rw[OL _ [] (by simpa using hk),List.nil_append];obtain⟨S,G⟩:=F8 (kvs:=AF t) (ks:=(t.map λk:Str×PyData=>(a1Z k.1:Key)).zip n) m x (show DKV K f g.W (AF t) _ from nW hd);exact k _ _ (.loc p) _ S rfl ((c.trans v).trans G) q
end
end DL
namespace L2
open PySem PySem.Spec PyProof.Rows
section
theorem VW (p:s.heap.IsTuple l vs.toArray) (hS:StrsAre vs ss) (y:vs.length < 64) (h:∀(out:Array ao) (t:List Str),StrsAre out.toList t->t.Perm ss->sortedS t=ap->Q (.ref (s.heap.objs.size+1)) { s with heap:=sortedAll s.heap vs out }) :
   wpAny (model prog w) A (call (.builtin "sorted") [.ref l]) Q E s:=by
 refine b8Q kind_sorted plain_sorted entry_sorted (args_sorted1 _) ?_;unfold Builtin.«sorted»;refine zZ (m:=checkCount "sorted" 1 1 _) (zY ?_);refine zZ (OM (.inr p) ?_ (by rw[c0];lia));refine zZ (io ?_ (by rw[c0];lia));have hsz:((s.heap.push (cz "list" #[] 0)).update s.heap.objs.size (a7Z (·++vs.toArray))).objs.size=s.heap.objs.size+1:=by rw[Heap.size_update,size_push']
 have O:(((s.heap.push (cz "list" #[] 0)).update s.heap.objs.size (a7Z (·++vs.toArray))).push (cz "list" vs.toArray 0)).get? (s.heap.objs.size+1)=al (cz "list" vs.toArray 0):=by rw[<-hsz];exact yZ _ rfl
 show wpAny _ _ _ _ _ { s with heap:=((s.heap.push (cz "list" #[] 0)).update s.heap.objs.size (a7Z (·++vs.toArray))).push (cz "list" vs.toArray 0) };rw[hsz];refine zZ (bt (cb slot_list_sort #[_,O,rfl] entry_list_sort (list_sort_treeK strKind_oneLt O hS.keysOf (λZ n rest e=>keyKind_strs (by rw[<-e];exact hS)) y λb i g=>#[_,rfl,?_]) (args_list_sort _)));obtain⟨t,h1,r,J⟩:=sorted_out_str hS i g;exact zY #[_,rfl,h _ t h1 r J]
end
section
def VX (K:Frg):List V->Hp->VK->Prop:=λt H Q=>∃(p:Addr) (h:List Str),t=[.ref p]/\SqT K H p (h.map V.str)/\h.length < 64/\∀(e:List Str) (q:Addr),e.Perm h->sortedS e=ap->H q=am->Q (.ref q) (upd H q (.lst (e.map V.str)))
theorem YZ:CN X (.builtin "sorted") (VX X.K):=by intro pins s O H N T Q I r h;obtain⟨p,z,rfl,hp,y,q⟩:=h;obtain⟨u,rfl,j⟩:=GM r;cases j;obtain⟨m,i,g,v⟩:=I.tuple hp;have hS:=PD i;have f:=i.length;rw[zX] at f;refine VW g hS (by lia) λout t h1 n J=>?_;obtain⟨e,he⟩:=sortedAll_at s.heap m out;have hn:H (s.heap.objs.size+1)=none:=I.hok.fresh (a5K _);have k:=n.length_eq;refine#[.ref (s.heap.objs.size+1),_,I.laid (t':=s.toks) (o:=.lst (t.map V.str)) (λb o c=>sortedAll_old c) (a5K _) ?_,rfl,q t _ n J hn];refine#[by rw[zX,k];exact zN (xR y) (by decide),out.toList,e,eG h1,?_];have x:=he;simpa [cz] using x
end
end L2
namespace DL
open PySem PySem.Spec L2
section
variable {X:Cx}{K:Frg}
theorem wE (h:X.K=K):CN X (.builtin "sorted") (VX K):=h▸YZ
end
section
theorem jF (y:ss.length < 64) (q:∀e:List Str,e.Perm ss->xG e=ap->Q (.d (.list (e.map .str))) M):DR K (VX K) [.d (.tuple (ss.map .str))] M Q:=λH m QQ n s k=>by obtain⟨v,r,rfl,h1,i⟩:=s;cases i;unfold SI DV at h1;obtain⟨a,m,rfl,t,hd⟩:=h1;rw[J2 hd] at t;refine#[a,ss,rfl,t.sq,y,λe p hp hs hn=>?_];have g:Grow K M.W M.W H (upd H p (.lst (e.map V.str))):=B0 _ hn;refine k _ _ (.d (.list (e.map .str))) M (n.new hn) ?_ #[g] (q e hp hs);unfold SI DV;exact#[p,_,rfl,.inl #[λw=>w (n.none hn),.inl AE],J6]
end
end DL
namespace DL
open PySem PySem.Spec L2 XC
def cB (a:Str):List Str->List Str
 | []=>[a]
 | b::r=>if sl b a then b::cB a r else a::b::r
def BO:List Str->List Str
 | []=>[]
 | a::r=>cB a (BO r)
theorem O1 (a:Str):∀l:List Str,(cB a l).Perm (a::l)
 | []=>.refl _
 | b::r=>by
   unfold cB;split;. exact((O1 a r).cons b).trans (List.Perm.swap a b r)
   . exact .refl _
theorem AU:∀l:List Str,(BO l).Perm l
 | []=>.refl _
 | a::r=>(O1 a (BO r)).trans ((AU r).cons a)
abbrev Pl:=Sum Int Str
abbrev Ent:=Pl×List Str×Int
def plE:Pl->PyData | .inl p=>.int p | .inr n=>.str n
def AQ (l:List Str):PyData:=.tuple (l.map .str)
def DH (e:Ent):PyData:=.tuple [plE e.1,AQ e.2.1,.int e.2.2]
def lfE (t:Str×Ent):PyData:=.tuple [.str t.1,plE t.2.1,AQ t.2.2.1,.int t.2.2.2]
structure Eff where
 st:List Str
 fr:List Str
 lf:List (Str×Ent)
def Eff.d (E:Eff):PyData:=.tuple [AQ E.st,AQ E.fr,.tuple (E.lf.map lfE)]
def efO (o:Option Eff):PyData:=match o with | some E=>E.d | none=>.none
def SV (ts:List (Str×Ent)):MO:=.d (AF (ts.map λt=>(t.1,DH t.2)))
def AC:List (Str×Ent)->Str->Option Ent
 | [],_=>am
 | t::r,k=>if t.1=k then al t.2 else AC r k
section
variable {M:Own}{Q:DS->Own->Prop}
theorem fF :∀{l:List Str},l.Pairwise (λx y=>sl y x=aw)->(cB a l).Pairwise λx y=>sl y x=aw
 | [],_=>by simp[cB]
 | b::r,h=>by
   have e:=h;rw[a5J] at h;unfold cB;split
   . rename_i hb;rw[a5J];refine#[λy hy=>?_,fF h.2];rcases yX.mp ((O1 a r).mem_iff.mp hy) with rfl | q;. exact QF hb
     . exact h.1 y q
   . rename_i hb;rw[a5J];refine#[λy hy=>?_,e];have c:sl b a=false:=by simpa using hb
     rcases yX.mp hy with rfl | q;. exact c
     . cases hya:sl y a with
       | false=>rfl
       | true=>
         have G:=h.1 y q;exfalso;cases hby:sl b y with
         | true=>rw[ML hby hya] at c;cases c
         | false=>rw[F9 hby G] at c;rw[c] at hya;cases hya
theorem KB:∀l:List Str,(BO l).Pairwise λx y=>sl y x=aw
 | []=>a8Q
 | a::r=>fF (KB r)
theorem fG (hp:ss.Perm l) (hs:xG ss=ap):ss=BO l:=(hp.trans (AU l).symm).eq_of_pairwise (le:=λx y=>sl y x=aw) (λa b _ _ h1 e=>F9 e h1) (U1 _ hs) (KB l)
theorem UG (h:a.Perm b):BO a=BO b:=((AU a).trans (h.trans (AU b).symm)).eq_of_pairwise (le:=λx y=>sl y x=aw) (λa b _ _ h1 e=>F9 e h1) (KB a) (KB b)
theorem wF (h:l.Pairwise λx y=>sl y x=aw):BO l=l:=(AU l).eq_of_pairwise (le:=λx y=>sl y x=aw) (λa b _ _ h1 e=>F9 e h1) (KB l) h
def CK (ts:List (Str×Ent)) (n:Str):Bool:=(AC ts n).isSome
def B3 (one other:Eff):Bool:=(other.st.any λn=>decide (n∈one.st++one.fr)&&!CK one.lf n)||other.fr.any (CK one.lf)
def AS (one other:Eff):List Str:=one.st++other.st.filter λn=>!decide (n∈one.st++one.fr)
def CJ (one other:Eff):List Str:=one.fr++other.fr.filter λn=>!decide (n∈one.st++one.fr)
def N1 (n:Str):Str×Ent:=(n,.inr n,[n],0)
def BI (one other:Eff):List (Str×Ent):=one.lf++(other.st.filter λn=>!decide (n∈one.st++one.fr)).map N1
def AI (ts:List (Str×Ent)) (n:Str):Ent:=(AC ts n).getD (.inr n,[n],0)
def BA (ts:List (Str×Ent)) (e:Ent):Ent:=(match e.1 with | .inl p=>.inl p | .inr n=>(AI ts n).1,BO (e.2.1.flatMap λn=>(AI ts n).2.1),e.2.2+(e.2.1.map λn=>(AI ts n).2.2).sum)
def BV (ts:List (Str×Ent)) (n:Str) (e:Ent):List (Str×Ent):=if CK ts n=ap then ts.map (λt=>if t.1=n then (t.1,e) else t) else ts++[(n,e)]
def DB (one other:Eff):List (Str×Ent):=other.lf.foldl (λn t=>BV n t.1 (BA (BI one other) t.2)) ((BI one other).filter λt=>!decide (t.1∈other.st))
def CU (ts:List (Str×Ent)):List (Str×Ent):=(BO (ts.map (·.1))).map λn=>(n,AI ts n)
def B6 (one other:Eff):Option Eff:=if B3 one other=ap then am else al #[BO (AS one other),BO (CJ one other),CU (DB one other)]
def AD:Deed->Eff
 | .put x p k=>#[[],[x],[(x,.inl p,[],k)]]
 | .take x=>#[[x],[],[]]
 | .move x p=>#[[x],[],[(x,.inl p,[x],0)]]
 | .count x k=>#[[x],[],[(x,.inr x,[x],k)]]
 | .name x y=>#[[x],[y],[(y,.inr x,[x],0)]]
 | .split x y p k=>#[[x],[y],CU [(x,.inr x,[x],-k),(y,.inl p,[],k)]]
 | .join x y=>#[BO [x,y],[],[(x,.inr x,BO [x,y],0)]]
def AX (Ds:List Deed):Option Eff:=Ds.foldl (λo D=>o.bind λE=>B6 E (AD D)) (al #[[],[],[]])
structure OkE (ys:List Str) (E:Eff):Prop where
 st:E.st.Nodup/\∀n∈E.st,n∈ys
 fr:E.fr.Nodup/\∀n∈E.fr,n∈ys
 apart:∀n∈E.st,n∉E.fr
 keys:(E.lf.map (·.1)).Nodup
 known:∀t∈E.lf,t.1∈E.st++E.fr
 from_:∀t∈E.lf,t.2.2.1.Nodup/\∀n∈t.2.2.1,n∈E.st
 place:∀t∈E.lf,∀n,t.2.1 = .inr n->n∈E.st
 dis:(E.lf.flatMap λt=>t.2.2.1).Nodup
def EA:FSp:=#[λt M=>∃l:List Str,t=[.d (AQ l)]/\l.length < 64,λt M y i=>∀l:List Str,t=[.d (AQ l)]->y = .d (AQ (BO l))/\i=M]
theorem ED (h:l.length < 64) (q:Q (.d (AQ (BO l))) M):[DS.d (AQ l)].length=1/\EA.pre [.d (AQ l)] M/\∀x i,EA.post [.d (AQ l)] M x i->Q x i:=#[rfl,#[l,rfl,h],λx i e=>by obtain⟨rfl,rfl⟩:=e l rfl;exact q]
def IB:FSp:=#[λt M=>∃E:Eff,t=[.d E.d]/\(E.lf.map (·.1)).Nodup/\E.lf.length<=60,λt M y i=>∀E:Eff,t=[.d E.d]->∃p,M p=am/\y = .loc p/\i=M.put p (SV E.lf)]
def clX (one other:Eff) (p:Addr):List DS:=[.d one.d,.loc p,.d other.d]
def HA:FSp:=#[λt M=>∃(c:List Str) (one other:Eff) (p:Addr),t=clX one other p/\M p=al (SV one.lf)/\OkE c one/\OkE c other/\AK c,λt M y i=>∀(one other:Eff) (p:Addr),t=clX one other p->y = .d (.bool (B3 one other))/\i=M]
def Z0 (ts:List (Str×Ent)):PyData:=.dict (AF (ts.map λt:Str×Ent=>(t.1,DH t.2)))
def taX (ts:List (Str×Ent)) (e:Ent):List DS:=[.d (Z0 ts),.d (plE e.1),.d (AQ e.2.1),.d (.int e.2.2)]
def JH:FSp:=#[λi M=>∃(t:List (Str×Ent)) (e:Ent),i=taX t e/\(∀n∈e.2.1,CK t n=ap)/\(∀n,e.1 = .inr n->CK t n=ap)/\(e.2.1.flatMap λn=>(AI t n).2.1).length < 64,λi M y r=>∀(t:List (Str×Ent)) (e:Ent),i=taX t e->y = .d (DH (BA t e))/\r=M]
def HB:FSp:=#[λt M=>∃D:Deed,t=[.d D.d]/\D.real,λt M y i=>∀D:Deed,t=[.d D.d]->y = .d (AD D).d/\i=M]
def IC:FSp:=#[λt M=>∃(c:List Str) (one other:Eff),t=[.d one.d,.d other.d]/\OkE c one/\OkE c other/\AK c,λt M y i=>∀one other:Eff,t=[.d one.d,.d other.d]->y = .d (efO (B6 one other))/\i=M]
def FJ:FSp:=#[λt M=>∃(c:List Str) (e:List Deed),t=[.d (.tuple (e.map Deed.d))]/\AK c/\(∀D∈e,AN c D)/\e.length<=60,λt M y i=>∀e:List Deed,t=[.d (.tuple (e.map Deed.d))]->y = .d (efO (AX e))/\i=M]
def HC:FSp:=#[λt M=>∃c:Int,t=[.d (.int c)],λt M y i=>y = .d (.bool ap)/\i=M]
end
def nmE:PyData->Str | .tuple (.str n::_)=>n | _=>#[#[]]
def vlE:PyData->PyData | .tuple (_::r)=>.tuple r | d=>d
theorem VY (h:plE a=plE b):a=b:=by cases a <;> cases b <;> simp_all [plE]
theorem FK (h:AQ a=AQ b):a=b:=J9 (PyData.tuple.inj h)
theorem wG (h:lfE a=lfE b):a=b:=by obtain⟨n,p,f,k⟩:=a;obtain⟨i,r,T,t⟩:=b;simp only[lfE,PyData.tuple.injEq,List.cons.injEq,PyData.str.injEq,PyData.int.injEq,and_true] at h;obtain⟨rfl,e,J,rfl⟩:=h;obtain rfl:=VY e;obtain rfl:=FK J;rfl
theorem O2 {e:Type}{f:e->PyData}(M:∀{a b},f a=f b->a=b):∀{l r:List e},l.map f=r.map f->l=r
 | [],[],_=>rfl
 | [],_::_,h=>by cases h
 | _::_,[],h=>by cases h
 | a::l,b::r,h=>by simp only[zI,List.cons.injEq] at h;rw[M h.1,O2 M h.2]
theorem EV {a:Eff}(h:a.d=b.d):a=b:=by obtain⟨s,f,l⟩:=a;obtain⟨s',T,t⟩:=b;simp only[Eff.d,PyData.tuple.injEq,List.cons.injEq,and_true] at h;obtain⟨h1,e,J⟩:=h;obtain rfl:=FK h1;obtain rfl:=FK e;obtain rfl:=O2 wG J;rfl
theorem qG (h:DH a=DH b):a=b:=by obtain⟨p,f,k⟩:=a;obtain⟨n,T,t⟩:=b;simp only[DH,PyData.tuple.injEq,List.cons.injEq,PyData.int.injEq,and_true] at h;obtain⟨e,J,rfl⟩:=h;obtain rfl:=VY e;obtain rfl:=FK J;rfl
theorem qH (h:SV a=SV b):a=b:=by
 have h1:AF (a.map λt=>(t.1,DH t.2))=AF (b.map λt=>(t.1,DH t.2)):=MO.d.inj h;clear h;induction a generalizing b with
 | nil=>cases b with | nil=>rfl | cons _ _=>cases h1
 | cons x r U=>cases b with
   | nil=>cases h1
   | cons y s=> simp only[AF,zI,List.cons.injEq,Prod.mk.injEq,PyData.str.injEq] at h1;rw[U (b:=s) (by simpa [AF] using h1.2)];obtain⟨N,n⟩:=x;obtain⟨i,m⟩:=y;obtain⟨⟨e,j⟩,_⟩:=h1;simp only at e j;rw[e,qG j]
theorem HD (n:Str):∀ts:List (Str×Ent),BK (ts.map λt=>(t.1,DH t.2)) n=(AC ts n).map DH
 | []=>rfl
 | t::r=>by
   show(if t.1=n then al (DH t.2) else BK (r.map λt=>(t.1,DH t.2)) n)=(if t.1=n then al t.2 else AC r n).map DH;split;. rfl
   . exact HD n r
theorem Z1 {E:Eff}{Q:DS->Own->Prop}(h:(E.lf.map (·.1)).Nodup) (r:E.lf.length<=60) (q:∀p,M p=am->Q (.loc p) (M.put p (SV E.lf))):[DS.d E.d].length=1/\IB.pre [.d E.d] M/\∀x i,IB.post [.d E.d] M x i->Q x i:=#[rfl,#[E,rfl,h,r],λx i e=>by obtain⟨p,h1,rfl,rfl⟩:=e E rfl;exact q p h1]
theorem DZ {l:List Str}(hn:AK ys) (h:l.Nodup/\∀n∈l,n∈ys):l.length<=26:=zN (JG h.1 h.2) hn.2.2
theorem qI (hn:AK ys) (h:OkE ys E):E.lf.length<=52:=by
 have h1:=DZ hn h.st;have e:=DZ hn h.fr;have:=JG (ys:=E.st++E.fr) h.keys λz q=>by obtain⟨t,u,rfl⟩:=zL.mp q;exact h.known t u
 rw[zX,yY] at this;lia
def msT (x:List Str) (ts:List (Str×Ent)):PyData->Bool | .str n=>decide (n∈x)&&!CK ts n | _=>aw
def wyT (ts:List (Str×Ent)):PyData->Bool | .str n=>CK ts n | _=>aw
theorem A2N (x l:List Str) (ts:List (Str×Ent)):(((l.map a0K).filter (msT x ts)).map id).length=(l.filter λn=>decide (n∈x)&&!CK ts n).length:=by rw[b2Q,xU,zX];rfl
theorem A2O (l:List Str) (ts:List (Str×Ent)):(((l.map a0K).filter (wyT ts)).map id).length=(l.filter (CK ts)).length:=by rw[b2Q,xU,zX];rfl
theorem fH {e:Type}(p:e->Bool) (l:List e):decide ((0:Int) < ((l.filter p).length:Int))=l.any p:=by
 rw[a3Q,decide_eq_true_iff,b1Q];constructor
 . intro h;have:0 < (l.filter p).length:=by lia
   obtain⟨a,g⟩:=List.exists_mem_of_length_pos this;exact#[a,yL.mp g]
 . rintro⟨a,h1,t⟩;have:=List.length_pos_of_mem (yL.mpr #[h1,t]);lia
theorem qJ :n∈ts.map (·.1)->∃v,AC ts n=al v:=by
 induction ts with
 | nil=>intro h;cases h
 | cons t r U=>
   intro h;show ∃v,(if t.1=n then al t.2 else AC r n)=al v;by_cases e:t.1=n;. rw[if_pos e];exact#[_,rfl]
   . rw[if_neg e];rcases yX.mp h with q | q;. exact absurd q.symm e
     . exact U q
def qK (ts:List (Str×Ent)):PyData->PyData | .str n=>lfE (n,AI ts n) | d=>d
theorem jG (ts:List (Str×Ent)) (ss:List Str):(ss.map a0K).map (qK ts)=(ss.map λn=>(n,AI ts n)).map lfE:=by rw[zD,zD];rfl
theorem OkE.nil (ys:List Str):OkE ys #[[],[],[]]:=#[#[a8Q,(λn h=>nomatch h)],#[a8Q,(λn h=>nomatch h)],(λn h=>nomatch h),a8Q,(λn h=>nomatch h),(λn h=>nomatch h),(λn h=>nomatch h),a8Q]
theorem N2 (h:AX A=al E):AX (A++[D])=B6 E (AD D):=by unfold AX at h ⊢;rw[a6J,h];rfl
theorem jH (B:List Deed):B.foldl (λo D=>o.bind λE=>B6 E (AD D)) (am:Option Eff)=none:=by
 induction B with
 | nil=>rfl
 | cons D r U=>exact U
theorem Z2 (h:AX (Ds.take k)=am):AX Ds=none:=by have e:Ds=Ds.take k++Ds.drop k:=(b1V k Ds).symm;unfold AX at h ⊢;rw[e,a6J,h];exact jH _
theorem fI (h:efO a=efO b):a=b:=by
 cases a <;> cases b;. rfl
 . cases h
 . cases h
 . rw[EV h]
theorem EK {a:List Deed}(h:[DS.d (.tuple (a.map Deed.d))]=[.d (.tuple (b.map Deed.d))]):a=b:=by simp only[List.cons.injEq,DS.d.injEq,PyData.tuple.injEq,and_true] at h;exact O2 CT h
theorem cC {Q:DS->Own->Prop}(h:D.real) (q:Q (.d (AD D).d) M):[DS.d D.d].length=1/\HB.pre [.d D.d] M/\∀x i,HB.post [.d D.d] M x i->Q x i:=#[rfl,#[D,rfl,h],λx i e=>by obtain⟨rfl,rfl⟩:=e D rfl;exact q]
theorem Z3 {Q:DS->Own->Prop}(h1:OkE ys one) (e:OkE ys other) (hn:AK ys) (q:Q (.d (efO (B6 one other))) M):[DS.d one.d,.d other.d].length=2/\IC.pre [.d one.d,.d other.d] M/\∀x i,IC.post [.d one.d,.d other.d] M x i->Q x i:=#[rfl,#[ys,one,other,rfl,h1,e,hn],λx i t=>by obtain⟨rfl,rfl⟩:=t one other rfl;exact q]
theorem PR (nd:(ts.map (·.1)).Nodup) (u:t∈ts):AC ts t.1=al t.2:=by
 induction ts with
 | nil=>cases u
 | cons a r U=>
   show(if a.1=t.1 then al a.2 else AC r t.1)=al t.2;rw[zI,xV] at nd;rcases yX.mp u with rfl | q;. rw[if_pos rfl]
   . rw[if_neg λe=>nd.1 (by rw[e];exact zL.mpr #[t,q,rfl])];exact U nd.2 q
theorem qL (nd:(ts.map (·.1)).Nodup) :t∈CU ts->t∈ts:=by intro h;obtain⟨n,hn,rfl⟩:=zL.mp h;have hn:=(AU _).mem_iff.mp hn;obtain⟨s,hs,rfl⟩:=zL.mp hn;have:=PR nd hs;unfold AI;rw[this];exact hs
theorem HE (nd:(ts.map (·.1)).Nodup):(CU ts).Perm ts:=by
 have e:ts=(ts.map (·.1)).map λn=>(n,AI ts n):=by
   rw[zD];have:∀t∈ts,t=((λn=>(n,AI ts n))∘λt:Str×Ent=>t.1) t:=λt u=>by
     have h1:(t.1,AI ts t.1)∈CU ts:=zL.mpr #[t.1,(AU _).mem_iff.mpr (zL.mpr #[t,u,rfl]),rfl];have i:=qL nd h1;have key:∀{ts:List (Str×Ent)},(ts.map (·.1)).Nodup->∀{a b:Str×Ent},a∈ts->b∈ts->a.1=b.1->a=b:=by
       intro ts;induction ts with
       | nil=>intro _ a b g;cases g
       | cons c r U=>
         intro nd a b g hb Z;rw[zI,xV] at nd;rcases yX.mp g with rfl | ha2 <;> rcases yX.mp hb with rfl | hb2;. rfl
         . exact absurd (show a.1∈r.map (·.1) from zL.mpr #[b,hb2,Z.symm]) nd.1
         . exact absurd (show b.1∈r.map (·.1) from zL.mpr #[a,ha2,Z]) nd.1
         . exact U nd.2 ha2 hb2 Z
     exact key nd u i rfl
   conv=>lhs;rw[<-b2Q ts]
   exact yM this
 conv=>rhs;rw[e]
 exact(AU _).map _
theorem OkE.deed (hn:AK ys) (h:AN ys D):OkE ys (AD D):=by
 have hx:=h.2;have z:=h.1.2.1;cases D with
 | put x p k=> have:=hx x (by simp[Deed.names]);refine#[#[by simp[AD],by simp[AD]],#[by simp[AD],by simpa [AD] using this],by simp[AD],by simp[AD],by simp[AD],by simp[AD],by simp[AD],by simp[AD]]
 | take x=> have:=hx x (by simp[Deed.names]);refine#[#[by simp[AD],by simpa [AD] using this],#[by simp[AD],by simp[AD]],by simp[AD],by simp[AD],by simp[AD],by simp[AD],by simp[AD],by simp[AD]]
 | move x p=> have:=hx x (by simp[Deed.names]);refine#[#[by simp[AD],by simpa [AD] using this],#[by simp[AD],by simp[AD]],by simp[AD],by simp[AD],by simp[AD],by simp[AD],by simp[AD],by simp[AD]]
 | count x k=> have:=hx x (by simp[Deed.names]);refine#[#[by simp[AD],by simpa [AD] using this],#[by simp[AD],by simp[AD]],by simp[AD],by simp[AD],by simp[AD],by simp[AD],by simp[AD],by simp[AD]]
 | name x y=> have h1:=hx x (by simp[Deed.names]);have r:=hx y (by simp[Deed.names]);have i:x≠y:=z;refine#[#[by simp[AD],by simpa [AD] using h1],#[by simp[AD],by simpa [AD] using r],by simpa [AD] using i,by simp[AD],by simp[AD],by simp[AD],by simp[AD],by simp[AD]]
 | split x y p k=>
   have h1:=hx x (by simp[Deed.names]);have r:=hx y (by simp[Deed.names]);have i:x≠y:=z;have nd:([(x,((.inr x,[x],-k):Ent)),(y,.inl p,[],k)].map (·.1)).Nodup:=by simpa using i
   have b:=HE nd;have J:∀t∈CU [(x,((.inr x,[x],-k):Ent)),(y,.inl p,[],k)],t=(x,.inr x,[x],-k)\/t=(y,.inl p,[],k):=λt u=>by simpa using b.mem_iff.mp u
   refine#[#[by simp[AD],by simpa [AD] using h1],#[by simp[AD],by simpa [AD] using r],by simpa [AD] using i,((b.map (·.1)).nodup_iff).mpr nd,λt u=>?_,λt u=>?_,λt u n e=>?_,?_];. rcases J t u with rfl | rfl <;> simp[AD]
   . rcases J t u with rfl | rfl <;> simp[AD]
   . rcases J t u with rfl | rfl <;> simp_all [AD]
   . exact((b.flatMap_right _).nodup_iff).mpr (by simp)
 | join x y=>
   have h1:=hx x (by simp[Deed.names]);have r:=hx y (by simp[Deed.names]);have i:x≠y:=z;have hp:=AU [x,y];have nd:(BO [x,y]).Nodup:=hp.nodup_iff.mpr (by simpa using i);have m:∀n,n∈BO [x,y]↔n=x\/n=y:=λn=>by rw[hp.mem_iff];simp
   refine#[#[nd,λn c=>?_],#[by simp[AD],by simp[AD]],by simp[AD],by simp[AD],by simp[AD,m],by simpa [AD] using nd,by simp[AD,m],by simpa [AD] using nd];rcases (m n).mp c with rfl | rfl;. exact h1
   . exact r
abbrev KM (ts:List (Str×Ent)):List (Str×PyData):=ts.map λt:Str×Ent=>(t.1,DH t.2)
theorem BZ :CK ts n=ap↔n∈ts.map (·.1):=by
 induction ts with
 | nil=>simp[CK,AC]
 | cons t r U=>
   show((if t.1=n then al t.2 else AC r n).isSome=ap)↔_;by_cases e:t.1=n;. rw[if_pos e];simp[e]
   . rw[if_neg e];rw[zI,yX,<-U];exact#[λh=>.inr h,λh=>h.elim (λq=>absurd q.symm e) id]
theorem fJ (ts:List (Str×Ent)) (n:Str) (e:Ent):HR (KM ts) n (DH e)=KM (BV ts n e):=by
 unfold HR BV KM;have h:((ts.map λt:Str×Ent=>(t.1,DH t.2)).any λt=>decide (t.1=n))=CK ts n:=by
   rw[a3Q,BZ,b1Q];constructor;. rintro⟨t,h1,i⟩;obtain⟨s,J,rfl⟩:=zL.mp h1;exact zL.mpr #[s,J,of_decide_eq_true i]
   . intro q;obtain⟨s,J,r⟩:=zL.mp q;exact#[_,zL.mpr #[s,J,rfl],decide_eq_true r]
 rw[h];split;. rw[zD,zD];refine yM λt u=>?_;show(if t.1=n then (t.1,DH e) else (t.1,DH t.2))=((if t.1=n then (t.1,e) else t).1,DH (if t.1=n then (t.1,e) else t).2);split <;> rfl
 . rw[xI];rfl
theorem jI (h:n∉ts.map (·.1)):BV ts n e=ts++[(n,e)]:=by unfold BV;rw[if_neg λq=>h (BZ.mp q)]
theorem wH (ts:List (Str×Ent)) (n:Str) (e:Ent):(BV ts n e).length<=ts.length+1:=by
 unfold BV;split;. rw[zX];lia
 . rw[yY];exact zR _
def O3 (one:Eff) (l:List Str):List Str:=l.filter λn=>!decide (n∈one.st++one.fr)
theorem A2P :O3 one one.st=[]:=List.filter_eq_nil_iff.mpr λn hn=>by simp[hn]
theorem JI (h1:OkE ys one) (e:OkE ys other) (hc:B3 one other=aw) (hn:n∈other.st):CK (BI one other) n=true:=by
 unfold B3 at hc;rw[Bool.or_eq_false_iff] at hc;have h:=List.any_eq_false.mp hc.1 n hn;rw[BZ];unfold BI;rw[xI,yW];by_cases hk:n∈one.st++one.fr;. refine .inl (BZ.mp ?_);rw[decide_eq_true hk,b9X] at h;simpa using h
 . refine .inr ?_;rw[zD];exact zL.mpr #[n,yL.mpr #[hn,by simp[hk]],rfl]
theorem N3 (h1:OkE ys one) (i:OkE ys other):((BI one other).map (·.1)).Nodup:=by
 unfold BI;rw[xI];have e:((other.st.filter λn=>!decide (n∈one.st++one.fr)).map N1).map (·.1)=other.st.filter λn=>!decide (n∈one.st++one.fr):=by rw[zD];exact b2Q _
 rw[e];refine List.nodup_append.mpr #[h1.keys,i.st.1.sublist a7K,λa g b hb q=>?_];subst q;obtain⟨t,u,rfl⟩:=zL.mp g;have:=(yL.mp hb).2;simp[h1.known t u] at this
theorem KC {ts:List (Str×Ent)}(h:(ts.flatMap λt=>t.2.2.1).Nodup) (hs:s∈ts) (u:t∈ts) (r:s.1≠t.1):∀x∈s.2.2.1,∀y∈t.2.2.1,x≠y:=by
 have hp:=(List.pairwise_flatMap.mp h).2;obtain⟨i,hi,rfl⟩:=List.mem_iff_getElem.mp hs;obtain⟨j,n,rfl⟩:=List.mem_iff_getElem.mp u;rcases b8W i j with q | q | q;. exact List.pairwise_iff_getElem.mp hp i j hi n q
 . subst q;exact absurd rfl r
 . exact λx hx y hy e=>List.pairwise_iff_getElem.mp hp j i n hi q y hy x hx e.symm
theorem LN (h:CK ts n=ap):(n,AI ts n)∈ts:=by
 induction ts with
 | nil=>cases h
 | cons a r U=>
   unfold AI;have p:(if a.1=n then al a.2 else AC r n).isSome=true:=h;show(n,(if a.1=n then al a.2 else AC r n).getD (.inr n,[n],0))∈a::r;by_cases e:a.1=n;. rw[if_pos e];subst e;exact a0Z
   . rw[if_neg e] at p ⊢;exact yV _ (U p)
theorem VZ (hd:(ts.flatMap λt=>t.2.2.1).Nodup) {l:List Str}(m:l.Nodup) (hh:∀n∈l,CK ts n=ap):(l.flatMap λn=>(AI ts n).2.1).Nodup:=by refine List.pairwise_flatMap.mpr #[λn hn=>(List.pairwise_flatMap.mp hd).1 _ (LN (hh n hn)),?_];refine List.pairwise_iff_getElem.mpr λi j hi e p=>?_;have r:=List.pairwise_iff_getElem.mp m i j hi e p;exact KC hd (LN (hh _ (a1J hi))) (LN (hh _ (a1J e))) r
theorem fK (h1:OkE ys one) (m:OkE ys other):((BI one other).flatMap λt=>t.2.2.1).Nodup:=by
 unfold BI;rw[b0K];have e:((other.st.filter λn=>!decide (n∈one.st++one.fr)).map N1).flatMap (λt=>t.2.2.1)=other.st.filter λn=>!decide (n∈one.st++one.fr):=by
   have i:∀l:List Str,(l.map N1).flatMap (λt=>t.2.2.1)=l:=by
     intro l;induction l with
     | nil=>rfl
     | cons a r U=>rw[zI,a9K,U];rfl
   exact i _
 rw[e];refine List.nodup_append.mpr #[h1.dis,m.st.1.sublist a7K,λa g b hb q=>?_];subst q;obtain⟨t,u,p⟩:=List.mem_flatMap.mp g;have hs:=(h1.from_ t u).2 a p;have:=(yL.mp hb).2;simp[hs] at this
theorem Z4 (h1:OkE ys one) (i:OkE ys other):∀t∈BI one other,∀n∈t.2.2.1,n∈AS one other:=λt u n hn=>by
 unfold BI at u;unfold AS;rcases yW.mp u with q | q;. exact zA _ ((h1.from_ t q).2 n hn)
 . obtain⟨z,e,rfl⟩:=zL.mp q;have:n=z:=by simpa [N1] using hn
   subst this;exact zB _ e
theorem qM (hn:AK ys) (h1:OkE ys one) (e:OkE ys other) (hc:B3 one other=aw) (u:t∈other.lf):(t.2.2.1.flatMap λn=>(AI (BI one other) n).2.1).length < 64:=by
 have Q:∀n∈t.2.2.1,CK (BI one other) n=true:=λn i=>JI h1 e hc ((e.from_ t u).2 n i);have nd:=VZ (fK h1 e) (e.from_ t u).1 Q;have:=DZ hn #[nd,λz r=>by
   obtain⟨n,i,r⟩:=List.mem_flatMap.mp r;have:=Z4 h1 e _ (LN (Q n i)) z r;unfold AS at this;rcases yW.mp this with q | q;. exact h1.st.2 z q
   . exact e.st.2 z (yL.mp q).1];lia
theorem RK :(BV ts n e).map (·.1)=if CK ts n=ap then ts.map (·.1) else ts.map (·.1)++[n]:=by
 unfold BV;split;. rw[zD];refine yM λt u=>?_;show(if t.1=n then (t.1,e) else t).1=t.1;split <;> rfl
 . rw[xI];rfl
theorem qN (h:(ts.map (·.1)).Nodup):((BV ts n e).map (·.1)).Nodup:=by
 rw[RK];split;. exact h
 . rename_i hn;refine List.nodup_append.mpr #[h,by simp,λa g b hb q=>?_];subst q;rw[List.mem_singleton.mp hb] at g;exact hn (BZ.mpr g)
theorem HF (h1:OkE ys one) (i:OkE ys other):((DB one other).map (·.1)).Nodup:=by
 unfold DB;have e:∀(l n:List (Str×Ent)),(n.map (·.1)).Nodup->((l.foldl (λn t=>BV n t.1 (BA (BI one other) t.2)) n).map (·.1)).Nodup:=by
   intro l;induction l with
   | nil=>intro n h;exact h
   | cons t r U=>intro n h;exact U _ (qN h)
 exact e _ _ ((N3 h1 i).sublist (List.filter_sublist.map _))
theorem wI (h1:OkE ys one) (i:OkE ys other):∀n∈(DB one other).map (·.1),n∈ys:=by
 unfold DB;have p:∀(l e:List (Str×Ent)),(∀t∈l,t.1∈ys)->(∀n∈e.map (·.1),n∈ys)->∀n∈(l.foldl (λe t=>BV e t.1 (BA (BI one other) t.2)) e).map (·.1),n∈ys:=by
   intro l;induction l with
   | nil=>intro e _ h;exact h
   | cons t r U=>
     intro e m h;refine U _ (λs hs=>m s (yV _ hs)) λn hn=>?_;have hn:n∈(BV e t.1 (BA (BI one other) t.2)).map (·.1):=hn;rw[RK] at hn;split at hn;. exact h n hn
     . rcases yW.mp hn with q | q;. exact h n q
       . rw[List.mem_singleton.mp q];exact m t (by simp)
 refine p _ _ (λt u=>(yW.mp (i.known t u)).elim (i.st.2 _) (i.fr.2 _)) λn hn=>?_;have hn:=(List.filter_sublist.map _).subset hn;unfold BI at hn;rw[xI] at hn;rcases yW.mp hn with q | q;. obtain⟨t,u,rfl⟩:=zL.mp q;exact(yW.mp (h1.known t u)).elim (h1.st.2 _) (h1.fr.2 _)
 . rw[zD] at q;obtain⟨z,b,rfl⟩:=zL.mp q;exact i.st.2 z (yL.mp b).1
theorem jJ (one other:Eff):O3 one (AS one other)=other.st.filter λn=>!decide (n∈one.st++one.fr):=by unfold AS;rw[show O3 one (one.st++other.st.filter λn=>!decide (n∈one.st++one.fr))=O3 one one.st++O3 one (other.st.filter λn=>!decide (n∈one.st++one.fr)) from List.filter_append ..,A2P,List.nil_append];unfold O3;rw[List.filter_filter];congr 1;funext n;simp
theorem N4 (h1:OkE ys one) (t:OkE ys other):(AS one other).Nodup/\∀n∈AS one other,n∈ys:=by
 unfold AS;refine#[List.nodup_append.mpr #[h1.st.1,t.st.1.sublist a7K,λa g b hb e=>?_],λn hn=>?_];. subst e;have:=(yL.mp hb).2;simp[g] at this
 . rcases yW.mp hn with q | q;. exact h1.st.2 n q
   . exact t.st.2 n (yL.mp q).1
theorem fL (h1:OkE ys one) (t:OkE ys other):(CJ one other).Nodup/\∀n∈CJ one other,n∈ys:=by
 unfold CJ;refine#[List.nodup_append.mpr #[h1.fr.1,t.fr.1.sublist a7K,λa g b hb e=>?_],λn hn=>?_];. subst e;have:=(yL.mp hb).2;simp[g] at this
 . rcases yW.mp hn with q | q;. exact h1.fr.2 n q
   . exact t.fr.2 n (yL.mp q).1
theorem qO (h1:OkE ys one) (b:OkE ys other) (hk:(AS one other)[k]?=al n) (hn:n∉one.st++one.fr):n∉(one.lf++(O3 one ((AS one other).take k)).map N1).map (·.1):=by
 rw[xI,yW];rintro (q | q);. obtain⟨t,u,rfl⟩:=zL.mp q;exact hn (h1.known t u)
 . rw[zD] at q;obtain⟨z,r,e⟩:=zL.mp q;have e:z=n:=e;subst e;have r:=(yL.mp r).1;obtain⟨i,hi,m⟩:=List.mem_iff_getElem.mp r;rw[a0J] at hi;rw[List.getElem_take] at m;obtain⟨c,p⟩:=yT.mp hk;have:=List.pairwise_iff_getElem.mp (N4 h1 b).1 i k (by lia) c (by lia);exact this (m.trans p.symm)
theorem Z5 {l:List Str}(hk:l[k]?=al n):O3 one (l.take (k+1))=O3 one (l.take k)++(if decide (n∈one.st++one.fr)=ap then [] else [n]):=by unfold O3;rw[a1V,hk,Option.toList_some,List.filter_append];congr 1;rw[a8W];cases decide (n∈one.st++one.fr) <;> rfl
def RL:PyData->Str | .str z=>z | _=>#[#[]]
def A3u (ts:List (Str×Ent)):PyData->PyData | .str z=>DH (AI ts z) | d=>d
theorem qP (nd:(ts.map (·.1)).Nodup) (l:List Str):(((OR (KM ts)).filter (frT l)).map λd=>(RL d,A3u ts d))=KM (ts.filter λt=>!decide (t.1∈l)):=by
 have e:OR (KM ts)=ts.map λt:Str×Ent=>a0K t.1:=by unfold OR KM;rw[zD];rfl
 rw[e,xU,zD];refine yM λt u=>?_;have u:=(yL.mp u).1;show(t.1,DH (AI ts t.1))=(t.1,DH t.2);unfold AI;rw[PR nd u];rfl
theorem jK (nd:(ts.map (·.1)).Nodup) (l:List Str):(((OR (KM ts)).filter (frT l)).map RL).Nodup:=by
 have e:OR (KM ts)=ts.map λt:Str×Ent=>a0K t.1:=by unfold OR KM;rw[zD];rfl
 rw[e,xU,zD];exact(nd.sublist (List.filter_sublist.map _))
def N5 (one other:Eff) (k:Nat):List (Str×Ent):=(other.lf.take k).foldl (λn t=>BV n t.1 (BA (BI one other) t.2)) ((BI one other).filter λt=>!decide (t.1∈other.st))
theorem jL (one other:Eff) (k:Nat):(N5 one other k).length<=(BI one other).length+k:=by
 unfold N5;have e:∀(l:List (Str×Ent)) (n:List (Str×Ent)),(l.foldl (λn t=>BV n t.1 (BA (BI one other) t.2)) n).length<=n.length+l.length:=by
   intro l;induction l with
   | nil=>intro n;exact zR _
   | cons t r U=> intro n;have h1:=U (BV n t.1 (BA (BI one other) t.2));have i:=wH n t.1 (BA (BI one other) t.2);rw[b4Z,yR];lia
 have h1:=e (other.lf.take k) ((BI one other).filter λt=>!decide (t.1∈other.st));have i:((BI one other).filter λt=>!decide (t.1∈other.st)).length<=(BI one other).length:=yJ _ _;have J:(other.lf.take k).length<=k:=List.length_take_le _ _;lia
theorem cD (h:other.lf[k]?=al t):N5 one other (k+1)=BV (N5 one other k) t.1 (BA (BI one other) t.2):=by unfold N5;rw[a1V,h,Option.toList_some,a6J];rfl
theorem jM (one other:Eff):N5 one other other.lf.length=DB one other:=by unfold N5 DB;rw[a1Q]
theorem qQ (hn:AK ys) (h1:OkE ys one) (e:OkE ys other) (hc:B3 one other=aw):(DB one other).length < 64:=by have:=DZ hn #[HF h1 e,wI h1 e];rw[zX] at this;lia
theorem wJ (nd:(ts.map (·.1)).Nodup) :s∈BV ts n e↔(s∈ts/\s.1≠n)\/s=(n,e):=by
 unfold BV;split
 . rename_i h;have x:=BZ.mp h;rw[zL];constructor
   . rintro⟨t,u,rfl⟩;by_cases q:t.1=n;. rw[if_pos q,q];exact .inr rfl
     . rw[if_neg q];exact .inl #[u,q]
   . rintro (⟨h1,i⟩ | rfl);. exact#[s,h1,if_neg i]
     . obtain⟨t,u,q⟩:=zL.mp x;exact#[t,u,by rw[if_pos q,q]]
 . rename_i h;rw[yW,b1Z];constructor
   . rintro (q | q);. exact .inl #[q,λe=>h (BZ.mpr (by rw[<-e];exact zL.mpr #[s,q,rfl]))]
     . exact .inr q
   . rintro (q | q);. exact .inl q.1
     . exact .inr q
theorem FL (h1:OkE ys one) (m:OkE ys other) :s∈DB one other↔(s∈BI one other/\s.1∉other.st/\s.1∉other.lf.map (·.1))\/∃t∈other.lf,s=(t.1,BA (BI one other) t.2):=by
 unfold DB;have p:∀(l n:List (Str×Ent)),(l.map (·.1)).Nodup->(n.map (·.1)).Nodup->(s∈l.foldl (λn t=>BV n t.1 (BA (BI one other) t.2)) n↔(s∈n/\s.1∉l.map (·.1))\/∃t∈l,s=(t.1,BA (BI one other) t.2)):=by
   intro l;induction l with
   | nil=>intro n _ _;simp
   | cons a r U=>
     intro n i N;rw[zI,xV] at i;rw[b4Z,U _ i.2 (qN N),wJ N];constructor
     . rintro (⟨⟨T,B⟩ | rfl,e⟩ | ⟨t,u,rfl⟩);. exact .inl #[T,by rw[zI,yX];rintro (z | z);exact B z;exact e z]
       . exact .inr #[a,by simp,rfl]
       . exact .inr #[t,yV _ u,rfl]
     . rintro (⟨T,B⟩ | ⟨t,u,rfl⟩);. rw[zI,yX,not_or] at B;exact .inl #[.inl #[T,B.1],B.2]
       . rcases yX.mp u with rfl | q;. exact .inl #[.inr rfl,i.1]
         . exact .inr #[t,q,rfl]
 rw[p _ _ m.keys ((N3 h1 m).sublist (List.filter_sublist.map _)),yL];constructor
 . rintro (⟨⟨T,B⟩,e⟩ | q);. exact .inl #[T,by simpa using B,e]
   . exact .inr q
 . rintro (⟨T,B,e⟩ | q);. exact .inl #[#[T,by simp[B]],e]
   . exact .inr q
theorem OkE.behind (hn:AK ys) (h1:OkE ys one) (r:OkE ys other) (h:B6 one other=al F):OkE ys F:=by
 unfold B6 at h;split at h;. cases h
 rename_i hc;have hc:B3 one other=false:=by simpa using hc
 have e:=(Option.some.inj h).symm;subst e;have Q:=AU (AS one other);have S:=AU (CJ one other);have B:=HF h1 r;have T:=HE B;have sN:=N4 h1 r;have U:=fL h1 r;have D:∀t∈BI one other,t.1∈AS one other++CJ one other/\∀n,t.2.1 = .inr n->n∈AS one other:=λt c=>by
   unfold BI at c;unfold AS CJ;rcases yW.mp c with q | q
   . refine#[?_,λn f=>zA _ (h1.place t q n f)];rcases yW.mp (h1.known t q) with z | z;. exact zA _ (zA _ z)
     . exact zB _ (zA _ z)
   . obtain⟨z,hz,rfl⟩:=zL.mp q;refine#[zA _ (zB _ hz),λn f=>?_];have:z=n:=Sum.inr.inj f;subst this;exact zB _ hz
 have k:=fK h1 r;have L:=Z4 h1 r;have J:∀t∈other.lf,∀n∈t.2.2.1,CK (BI one other) n=true:=λt c n f=>JI h1 r hc ((r.from_ t c).2 n f);have f_:∀n∈other.st++other.fr,n∈AS one other++CJ one other:=λn f=>by
   unfold AS CJ;by_cases hk:n∈one.st++one.fr
   . rcases yW.mp hk with z | z;. exact zA _ (zA _ z)
     . exact zB _ (zA _ z)
   . rcases yW.mp f with z | z;. exact zA _ (zB _ (yL.mpr #[z,by simp[hk]]))
     . exact zB _ (zB _ (yL.mpr #[z,by simp[hk]]))
 have M_:∀n,n∈AS one other++CJ one other->n∈BO (AS one other)++BO (CJ one other):=λn f=>by
   rcases yW.mp f with z | z;. exact zA _ (Q.mem_iff.mpr z)
   . exact zB _ (S.mem_iff.mpr z)
 have N:∀t∈other.lf,∀x∈(BA (BI one other) t.2).2.1,∃m∈t.2.2.1,(m,AI (BI one other) m)∈BI one other/\x∈(AI (BI one other) m).2.1:=λt c x hx=>by have hx:x∈t.2.2.1.flatMap λn=>(AI (BI one other) n).2.1:=(AU _).mem_iff.mp hx;obtain⟨m,g,hx⟩:=List.mem_flatMap.mp hx;exact#[m,g,LN (J t c m g),hx]
 refine#[#[Q.nodup_iff.mpr sN.1,λn f=>sN.2 n (Q.mem_iff.mp f)],#[S.nodup_iff.mpr U.1,λn f=>U.2 n (S.mem_iff.mp f)],λn hs M=>?_,(T.map (·.1)).nodup_iff.mpr B,λs hs=>?_,λs hs=>?_,λs hs n e=>?_,?_]
 . have hs:=Q.mem_iff.mp hs;have M:=S.mem_iff.mp M;unfold AS at hs;unfold CJ at M;rcases yW.mp hs with a | a <;> rcases yW.mp M with b | b;. exact h1.apart n a b
   . have:=(yL.mp b).2;simp[a] at this
   . have:=(yL.mp a).2;simp[b] at this
   . exact r.apart n (yL.mp a).1 (yL.mp b).1
 . refine M_ _ ?_;rcases (FL h1 r).mp (T.mem_iff.mp hs) with q | ⟨t,c,rfl⟩
   . exact(D s q.1).1
   . exact f_ _ (r.known t c)
 . rcases (FL h1 r).mp (T.mem_iff.mp hs) with q | ⟨t,c,rfl⟩
   . exact#[(List.pairwise_flatMap.mp k).1 s q.1,λn f=>Q.mem_iff.mpr (L s q.1 n f)]
   . refine#[(AU _).nodup_iff.mpr (VZ k (r.from_ t c).1 (J t c)),λn f=>?_];obtain⟨m,g,hb,hx⟩:=N t c n f;exact Q.mem_iff.mpr (L _ hb n hx)
 . refine Q.mem_iff.mpr ?_;rcases (FL h1 r).mp (T.mem_iff.mp hs) with q | ⟨t,c,rfl⟩
   . exact(D s q.1).2 n e
   . have e:(BA (BI one other) t.2).1 = .inr n:=e;unfold BA at e;cases hp:t.2.1 with
     | inl p=>rw[hp] at e;cases e
     | inr m=> rw[hp] at e;exact(D _ (LN (JI h1 r hc (r.place t c m hp)))).2 n e
 . refine((T.flatMap_right _).nodup_iff).mpr (List.pairwise_flatMap.mpr #[λs hs=>?_,?_])
   . rcases (FL h1 r).mp hs with q | ⟨t,c,rfl⟩
     . exact(List.pairwise_flatMap.mp k).1 s q.1
     . exact(AU _).nodup_iff.mpr (VZ k (r.from_ t c).1 (J t c))
   . refine List.pairwise_iff_getElem.mpr λi j hi Z bc=>?_;have I:(DB one other)[i].1≠(DB one other)[j].1:=by have:=List.pairwise_iff_getElem.mp B i j (by rw[zX];exact hi) (by rw[zX];exact Z) bc;rw[b9K,b9K] at this;exact this
     have X:=(FL h1 r).mp (a1J hi);have hb:=(FL h1 r).mp (a1J Z);generalize (DB one other)[i]=s at I X;generalize (DB one other)[j]=u at I hb;intro x hx y hy;rcases X with q | ⟨t,c,rfl⟩ <;> rcases hb with G | ⟨Y,O,rfl⟩
     . exact KC k q.1 G.1 I x hx y hy
     . obtain⟨m,g,v,hy⟩:=N Y O y hy;refine KC k q.1 v (λe=>q.2.1 ?_) x hx y hy;have e:s.1=m:=e;rw[e];exact(r.from_ Y O).2 m g
     . obtain⟨m,g,v,hx⟩:=N t c x hx;refine KC k v G.1 (λe=>G.2.1 ?_) x hx y hy;have e:m=u.1:=e;rw[<-e];exact(r.from_ t c).2 m g
     . obtain⟨m,g,v,hx⟩:=N t c x hx;obtain⟨m',wa,Ez,hy⟩:=N Y O y hy;exact KC k v Ez (KC r.dis c O I m g m' wa) x hx y hy
theorem DC {Q:DS->Own->Prop}(hn:AK ys) (h:∀D∈Ds,AN ys D) (r:Ds.length<=60) (q:Q (.d (efO (AX Ds))) M):[DS.d (.tuple (Ds.map Deed.d))].length=1/\FJ.pre [.d (.tuple (Ds.map Deed.d))] M/\∀x i,FJ.post [.d (.tuple (Ds.map Deed.d))] M x i->Q x i:=#[rfl,#[ys,Ds,rfl,hn,h,r],λx i e=>by obtain⟨rfl,rfl⟩:=e Ds rfl;exact q]
theorem W0 {Q:DS->Own->Prop}(q:Q (.d (.bool ap)) M):[DS.d (.int c)].length=1/\HC.pre [.d (.int c)] M/\∀x i,HC.post [.d (.int c)] M x i->Q x i:=#[rfl,#[c,rfl],λx i e=>by obtain⟨rfl,rfl⟩:=e;exact q]
theorem JJ (hn:AK ys) (h:∀D∈Ds,AN ys D):∀E,AX Ds=al E->OkE ys E:=by
 have t:∀k,k<=Ds.length->∀E,AX (Ds.take k)=al E->OkE ys E:=by
   intro k;induction k with
   | zero=>intro _ E e;cases e;exact OkE.nil ys
   | succ k U=>
     intro hk E e;have hD:Ds[k]?=al Ds[k]:=zV hk;rw[a1V,hD,Option.toList_some] at e;cases hF:AX (Ds.take k) with
     | none=>rw[show AX (Ds.take k++[Ds[k]])=am by unfold AX at hF ⊢;rw[a6J,hF];rfl] at e;cases e
     | some F=> rw[N2 hF] at e;exact OkE.behind hn (U (by lia) F hF) (OkE.deed hn (h _ (a1J hk))) e
 intro E e;exact t Ds.length (zR _) E (by rw[a1Q];exact e)
section
variable {ys:List Str}{A B C:Eff}
theorem RM {e t:Type}{f g:e->List t}:∀{l:List e},(∀x∈l,f x=g x)->l.flatMap f=l.flatMap g
 | [],_=>rfl
 | a::r,h=>by rw[a9K,a9K,h a (by simp),RM λx hx=>h x (yV _ hx)]
theorem BJ (nd:(ts.map (·.1)).Nodup) :AC ts n=al e↔(n,e)∈ts:=by
 constructor
 . intro h;have Q:CK ts n=true:=by unfold CK;rw[h];rfl
   have:=LN Q;unfold AI at this;rw[h] at this;exact this
 . intro h;exact PR nd h
theorem RN (nd:(ts.map (·.1)).Nodup) (h:(n,e)∈ts):AI ts n=e:=by unfold AI;rw[(BJ nd).mpr h];rfl
theorem wK (h:n∉ts.map (·.1)):AI ts n=(.inr n,[n],0):=by
 unfold AI;cases e:AC ts n with
 | none=>rfl
 | some v=>exact absurd (BZ.mp (by unfold CK;rw[e];rfl)) h
theorem RO (hc:B3 A B=aw):(∀n∈B.st,n∈A.st++A.fr->n∈A.lf.map (·.1))/\∀n∈B.fr,n∉A.lf.map (·.1):=by
 unfold B3 at hc;rw[Bool.or_eq_false_iff] at hc;refine#[λn hn hk=>?_,λn hn hk=>?_];. have:=List.any_eq_false.mp hc.1 n hn;rw[decide_eq_true hk,b9X] at this;exact BZ.mp (by simpa using this)
 . exact List.any_eq_false.mp hc.2 n hn (BZ.mpr hk)
theorem jN:B3 A B=ap↔∃n,(n∈B.st/\n∈A.st++A.fr/\n∉A.lf.map (·.1))\/(n∈B.fr/\n∈A.lf.map (·.1)):=by
 unfold B3;rw[Bool.or_eq_true,b1Q,b1Q];constructor
 . rintro (⟨n,h1,t⟩ | ⟨n,h1,t⟩);. rw[a0V] at t;exact#[n,.inl ⟨h1,of_decide_eq_true t.1,λq=>by rw[BZ.mpr q] at t;cases t.2⟩]
   . exact#[n,.inr #[h1,BZ.mp t]]
 . rintro⟨n,⟨h1,t,J⟩ | ⟨h1,t⟩⟩
   . refine .inl #[n,h1,?_];rw[decide_eq_true t,b9X];cases e:CK A.lf n with
     | false=>rfl
     | true=>exact absurd (BZ.mp e) J
   . exact .inr #[n,h1,BZ.mpr t]
theorem fM (h1:OkE ys A) (n:OkE ys B) (hc:B3 A B=aw) (x:m∈B.st):AI (BI A B) m=AI A.lf m:=by
 have bk:=N3 h1 n;by_cases hk:m∈A.lf.map (·.1);. obtain⟨t,u,rfl⟩:=zL.mp hk;rw[RN h1.keys (e:=t.2) u,RN bk (e:=t.2) (zA _ u)]
 . rw[wK hk];have hn:m∉A.st++A.fr:=λq=>hk ((RO hc).1 m x q);exact RN bk (zB _ (zL.mpr #[m,yL.mpr #[x,by simp[hn]],rfl]))
theorem cF (M:∀n∈e.2.1,AI ts n=AI t n) (hp:∀n,e.1 = .inr n->AI ts n=AI t n):BA ts e=BA t e:=by
 unfold BA;rw[RM (g:=λn=>(AI t n).2.1) λn hn=>by rw[M n hn],yM (g:=λn=>(AI t n).2.2) λn hn=>by rw[M n hn]];cases he:e.1 with
 | inl p=>rfl
 | inr n=>simp only[hp n he]
theorem Z6 (h1:OkE ys A) (e:OkE ys B) (hc:B3 A B=aw) (u:t∈B.lf):BA (BI A B) t.2=BA A.lf t.2:=
 cF (λn hn=>fM h1 e hc ((e.from_ t u).2 n hn)) λn hp=>fM h1 e hc (e.place t u n hp)
theorem qR (h1:OkE ys A) (r:OkE ys B) (hc:B3 A B=aw) :(n,e)∈DB A B↔((n,e)∈A.lf/\n∉B.st/\n∉B.lf.map (·.1))\/∃D,(n,D)∈B.lf/\e=BA A.lf D:=by
 rw[FL h1 r];constructor
 . rintro (⟨T,i,p⟩ | ⟨t,u,q⟩)
   . rcases yW.mp T with z | z;. exact .inl #[z,i,p]
     . obtain⟨m,x,e'⟩:=zL.mp z;have:m=n:=congrArg (·.1) e';subst this;exact absurd (yL.mp x).1 i
   . rw[Z6 h1 r hc u] at q;obtain⟨rfl,rfl⟩:=Prod.mk.inj q;exact .inr #[t.2,u,rfl]
 . rintro (⟨T,i,p⟩ | ⟨D,S,rfl⟩);. exact .inl #[zA _ T,i,p]
   . exact .inr #[(n,D),S,by rw[Z6 h1 r hc S]]
theorem A0b {X:List (Str×Ent)}(h:(X.map (·.1)).Nodup):X.Nodup:=(List.pairwise_map.mp h).imp λ{a b} q e=>q (by rw[e])
theorem Z7 (nx:(X.map (·.1)).Nodup) (i:(Y.map (·.1)).Nodup) (h:∀n e,(n,e)∈X↔(n,e)∈Y):CU X=CU Y:=by have hp:X.Perm Y:=(b3Q (A0b nx) (A0b i)).mpr λt=>h t.1 t.2;unfold CU;rw[UG (hp.map _)];refine yM λn hn=>?_;have hn:n∈Y.map (·.1):=(AU _).mem_iff.mp hn;obtain⟨t,u,rfl⟩:=zL.mp hn;rw[RN i (e:=t.2) u,RN nx (e:=t.2) ((h t.1 t.2).mpr u)]
theorem W1 (g:a.Nodup) (hb:b.Nodup) (h:∀n,n∈a↔n∈b):BO a=BO b:=UG ((b3Q g hb).mpr h)
def P4 (E:Eff):Prop:=BO E.st=E.st/\BO E.fr=E.fr/\CU E.lf=E.lf/\∀t∈E.lf,BO t.2.2.1=t.2.2.1
structure Beh (A B F:Eff):Prop where
 no:B3 A B=aw
 st:∀n,n∈F.st↔n∈A.st\/(n∈B.st/\n∉A.st++A.fr)
 fr:∀n,n∈F.fr↔n∈A.fr\/(n∈B.fr/\n∉A.st++A.fr)
 lf:∀n e,(n,e)∈F.lf↔((n,e)∈A.lf/\n∉B.st/\n∉B.lf.map (·.1))\/∃e0,(n,e0)∈B.lf/\e=BA A.lf e0
theorem qS (h1:OkE ys A) (t:OkE ys B) (h:B6 A B=al F):Beh A B F:=by
 unfold B6 at h;split at h;. cases h
 rename_i hc;have hc:B3 A B=false:=by simpa using hc
 have e:=(Option.some.inj h).symm;subst e;refine#[hc,λn=>?_,λn=>?_,λn e=>?_];. rw[show(n∈BO (AS A B))↔n∈AS A B from(AU _).mem_iff];unfold AS;rw[yW,yL];simp
 . rw[show(n∈BO (CJ A B))↔n∈CJ A B from(AU _).mem_iff];unfold CJ;rw[yW,yL];simp
 . rw[show((n,e)∈CU (DB A B))↔(n,e)∈DB A B from(HE (HF h1 t)).mem_iff];exact qR h1 t hc
theorem Z8 {a:List Int}(h:a.Perm b):a.sum=b.sum:=by
 induction h with
 | nil=>rfl
 | cons x _ U=>rw[b0Z,b0Z,U]
 | swap x y l=>simp only[b0Z];lia
 | trans _ _ ih1 ih2=>exact ih1.trans ih2
theorem Z9 (h:Str->List Str) (k:Str->Int):∀l:List Str,((l.flatMap h).map k).sum=(l.map λn=>((h n).map k).sum).sum
 | []=>rfl
 | a::r=>by rw[a9K,xI,List.sum_append,zI,b0Z,Z9 h k r]
theorem UH (a b:Str->Int):∀l:List Str,(l.map λn=>a n+b n).sum=(l.map a).sum+(l.map b).sum
 | []=>rfl
 | x::r=>by simp only[zI,b0Z];rw[UH a b r];lia
theorem jO (h:OkE ys A) (hn:n∈A.lf.map (·.1)):n∈A.st\/n∈A.fr:=by obtain⟨t,u,rfl⟩:=zL.mp hn;exact yW.mp (h.known t u)
theorem qT (h:B3 A B=ap):B6 A B=none:=by unfold B6;rw[if_pos h]
theorem ZA (h:B3 A B=aw):B6 A B=al #[BO (AS A B),BO (CJ A B),CU (DB A B)]:=by unfold B6;rw[h];rfl
theorem W3 (l:List Str):BO (BO l)=BO l:=wF (KB l)
theorem jP (nd:(ts.map (·.1)).Nodup):CU (CU ts)=CU ts:=by have t:=HE nd;exact Z7 (((t.map (·.1)).nodup_iff).mpr nd) nd λn e=>t.mem_iff
theorem cG (h1:OkE ys A) (n:OkE ys B) (p:P4 A) (h:B6 A B=al F):P4 F:=by
 have hb:=qS h1 n h;rw[ZA hb.no] at h;have e:=(Option.some.inj h).symm;refine#[by rw[e];exact W3 _,by rw[e];exact W3 _,by rw[e];exact jP (HF h1 n),λt u=>?_];rcases (hb.lf t.1 t.2).mp u with ⟨q,_⟩ | ⟨D,_,q⟩
 . exact p.2.2.2 _ q
 . rw[q];exact W3 _
theorem wL:P4 #[[],[],[]]:=⟨rfl,rfl,rfl,λt u=>by cases u⟩
theorem wN (hn:AK ys):∀(k:Nat) (Ds:List Deed),Ds.length=k->(∀D∈Ds,AN ys D)->∀E,AX Ds=al E->P4 E:=by
 intro k;induction k with
 | zero=> intro Ds hk _ E h;have:Ds=[]:=List.length_eq_zero_iff.mp hk;subst this;cases h;exact wL
 | succ k U=>
   intro B hB hd E h;obtain⟨C,D,rfl⟩:∃C D,B=C++[D]:=#[B.dropLast,B.getLast (by rintro rfl;cases hB),(List.dropLast_concat_getLast _).symm]
   have hC:∀E∈C,AN ys E:=λE hE=>hd E (zA _ hE);have hD:=hd D (by simp);cases m:AX C with
   | none=>unfold AX at m h;rw[a6J,m] at h;cases h
   | some X=> rw[N2 m] at h;exact cG (JJ hn hC X m) (OkE.deed hn hD) (U C (by simpa using hB) hC X m) h
end
theorem ZB (hn:AK ys) (h:∀D∈Ds,AN ys D):∀E,AX Ds=al E->P4 E:=wN hn _ Ds rfl h
theorem W4 (hn:AK ys) (h:∀n∈l,n∈ys):(AQ l).canLay0=ap/\(AQ l).depth<=3:=by
 refine#[zG (YO (ss:=l) λz q=>hn.1 z (h z q)),?_];have:a2W (l.map a0K)<=1:=J8 λd hd=>by obtain⟨z,_,rfl⟩:=zL.mp hd;simp[a2Z]
 simp only[AQ,a2Z];lia
theorem A2Q (hn:AK ys) (h:∀E,o=al E->OkE ys E):(efO o).canLay0=ap/\(efO o).depth<=9:=by
 cases o with
 | none=>exact#[rfl,by show a2Z .none<=9;simp[a2Z]]
 | some E=>
   have hE:=h E rfl;have k:=W4 hn hE.st.2;have Z:=W4 hn hE.fr.2;have v:∀d∈E.lf.map lfE,d.canLay0=ap/\d.depth<=5:=λd hd=>by
     obtain⟨t,u,rfl⟩:=zL.mp hd;have x:=W4 hn (l:=t.2.2.1) λn i=>hE.st.2 n ((hE.from_ t u).2 n i);have e:CQ t.1:=hn.1 _ ((yW.mp (hE.known t u)).elim (hE.st.2 _) (hE.fr.2 _));have z:(plE t.2.1).canLay0=ap/\(plE t.2.1).depth<=1:=by
       cases hp:t.2.1 with
       | inl p=>exact#[rfl,by simp[plE,a2Z]]
       | inr n=>exact#[D3 (hn.1 n (hE.st.2 n (hE.place t u n hp))),by simp[plE,a2Z]]
     have f:(a0K t.1).canLay0=true:=D3 e;have all:∀d∈[a0K t.1,plE t.2.1,AQ t.2.2.1,.int t.2.2.2],d.canLay0=ap/\d.depth<=3:=λd hd=>by
       simp only[yX,xW,or_false] at hd;rcases hd with rfl | rfl | rfl | rfl;. exact#[f,by simp[a2Z]]
       . exact#[z.1,by lia]
       . exact x
       . exact#[rfl,by simp[a2Z]]
     refine#[J7 λd hd=>(all d hd).1,?_];have:a2W [a0K t.1,plE t.2.1,AQ t.2.2.1,.int t.2.2.2]<=3:=J8 λd hd=>(all d hd).2;simp only[lfE,a2Z];lia
   have I:(b9V (E.lf.map lfE)).canLay0=ap/\(b9V (E.lf.map lfE)).depth<=7:=by refine#[J7 λd hd=>(v d hd).1,?_];have:a2W (E.lf.map lfE)<=5:=J8 λd hd=>(v d hd).2;simp only[a2Z];lia
   have all:∀d∈[AQ E.st,AQ E.fr,.tuple (E.lf.map lfE)],d.canLay0=ap/\d.depth<=7:=λd hd=>by
     simp only[yX,xW,or_false] at hd;rcases hd with rfl | rfl | rfl;. exact#[k.1,by lia]
     . exact#[Z.1,by lia]
     . exact I
   refine#[J7 λd hd=>(all d hd).1,?_];have:a2W [AQ E.st,AQ E.fr,.tuple (E.lf.map lfE)]<=7:=J8 λd hd=>(all d hd).2;show a2Z (.tuple [AQ E.st,AQ E.fr,.tuple (E.lf.map lfE)])<=9;simp only[a2Z];lia
theorem HG (hn:AK ys) (h:∀E,o=al E->OkE ys E):zH (efO o)=true:=by have h1:=A2Q hn h;exact D8 h1.1 (by lia)
open Classical in
theorem cH {Q:DS->Own->Prop}(m:M p=al (SV one.lf)) (h1:OkE ys one) (e:OkE ys other) (hn:AK ys) (q:Q (.d (.bool (B3 one other))) M):(clX one other p).length=3/\HA.pre (clX one other p) M/\∀x i,HA.post (clX one other p) M x i->Q x i:=#[rfl,#[ys,one,other,p,rfl,m,h1,e,hn],λx i t=>by obtain⟨rfl,rfl⟩:=t one other p rfl;exact q]
theorem ZC {Q:DS->Own->Prop}(t:∀n∈e.2.1,CK ts n=ap) (hp:∀n,e.1 = .inr n->CK ts n=ap) (y:(e.2.1.flatMap λn=>(AI ts n).2.1).length < 64) (q:Q (.d (DH (BA ts e))) M):(taX ts e).length=4/\JH.pre (taX ts e) M/\∀x i,JH.post (taX ts e) M x i->Q x i:=#[rfl,#[ts,e,rfl,t,hp,y],λx i r=>by obtain⟨rfl,rfl⟩:=r ts e rfl;exact q]
theorem qU (h:Z0 a=Z0 b):a=b:=qH (congrArg MO.d (PyData.dict.inj h))
end DL
namespace DL
open PySem PySem.Spec L2 XC
abbrev Gt:=Str->Option (Int×Int)
def plV (g:Gt):Pl->Int | .inl p=>p | .inr n=>((g n).getD (0,0)).1
def ctV (g:Gt) (l:List Str):Int:=(l.map λn=>((g n).getD (0,0)).2).sum
def enV (g:Gt) (e:Ent):Int×Int:=(plV g e.1,e.2.2+ctV g e.2.1)
def CL (E:Eff) (g:Gt) (n:Str):Option (Int×Int):=match AC E.lf n with | some e=>al (enV g e) | none=>if n∈E.st then am else g n
def okV (E:Eff) (g:Gt):Prop:=(∀n∈E.st,(g n).isSome=ap)/\∀n∈E.fr,g n=am
section
theorem JK (h:AC E.lf n=al e):CL E g n=al (enV g e):=by unfold CL;rw[h]
theorem ID (h:AC E.lf n=am) (hs:n∈E.st):CL E g n=none:=by unfold CL;rw[h];exact if_pos hs
theorem FM (h:AC E.lf n=am) (hs:n∉E.st):CL E g n=g n:=by unfold CL;rw[h];exact if_neg hs
theorem PU (h:n∉ts.map (·.1)):AC ts n=none:=by
 cases e:AC ts n with
 | none=>rfl
 | some v=>exact absurd (BZ.mp (by unfold CK;rw[e];rfl)) h
theorem JL (h:n∈ts.map (·.1)):∃e,AC ts n=al e:=qJ h
theorem W5 (h:OkE ys A) (hn:n∉A.st++A.fr):AC A.lf n=none:=PU λq=>hn (by
 rcases jO h q with q | q;. exact yW.mpr (.inl q)
 . exact yW.mpr (.inr q))
theorem W6 (h1:OkE ys A) (i:OkE ys B) (hF:Beh A B F):okV F g↔okV A g/\okV B (CL A g):=by
 obtain⟨k,Z⟩:=RO hF.no;constructor
 . rintro⟨hs,M⟩;have t:okV A g:=#[λn hn=>hs n ((hF.st n).mpr (.inl hn)),λn hn=>M n ((hF.fr n).mpr (.inl hn))]
   refine#[t,λn hn=>?_,λn hn=>?_]
   . by_cases hk:n∈A.st++A.fr;. obtain⟨e,he⟩:=JL (k n hn hk);rw[JK he];rfl
     . rw[FM (W5 h1 hk) λq=>hk (yW.mpr (.inl q))];exact hs n ((hF.st n).mpr (.inr #[hn,hk]))
   . have r:=PU (Z n hn);by_cases hA:n∈A.st;. exact ID r hA
     . rw[FM r hA];by_cases hB:n∈A.fr;. exact t.2 n hB
       . exact M n ((hF.fr n).mpr (.inr #[hn,λq=>(yW.mp q).elim hA hB]))
 . rintro⟨t,hs,M⟩;refine#[λn hn=>?_,λn hn=>?_]
   . rcases (hF.st n).mp hn with q | ⟨q,hk⟩
     . exact t.1 n q
     . have:=hs n q;rwa [FM (W5 h1 hk) λq=>hk (yW.mpr (.inl q))] at this
   . rcases (hF.fr n).mp hn with q | ⟨q,hk⟩
     . exact t.2 n q
     . have:=M n q;rwa [FM (W5 h1 hk) λq=>hk (yW.mpr (.inl q))] at this
theorem jQ (h1:OkE ys A) (h:B3 A B=ap):¬(okV A g/\okV B (CL A g)):=by
 rintro⟨i,hs,M⟩;obtain⟨n,⟨T,t,m⟩ | ⟨T,t⟩⟩:=jN.mp h
 . have J:=hs n T;have r:=PU m;by_cases hA:n∈A.st;. rw[ID r hA] at J;cases J
   . rw[FM r hA,i.2 n ((yW.mp t).resolve_left hA)] at J;cases J
 . have J:=M n T;obtain⟨e,he⟩:=JL t;rw[JK he] at J;cases J
theorem fQ (h1:OkE ys A) (hc:B3 A B=aw) (t:okV B (CL A g)) (x:m∈B.st):CL A g m=al (enV g (AI A.lf m)):=by
 obtain⟨k,Z⟩:=RO hc;by_cases hk:m∈A.st++A.fr;. obtain⟨e,he⟩:=JL (k m x hk);rw[JK he];unfold AI;rw[he];rfl
 . have r:=W5 h1 hk;have J:=t.1 m x;rw[FM r λq=>hk (yW.mpr (.inl q))] at J ⊢;unfold AI;rw[r];obtain⟨v,S⟩:=xX.mp J;rw[S];show al v=al (((g m).getD (0,0)).1,0+([m].map λn=>((g n).getD (0,0)).2).sum);simp[S]
theorem qV (h1:OkE ys A) (hc:B3 A B=aw) (t:okV B (CL A g)) (M:∀m∈e.2.1,m∈B.st) (hp:∀m,e.1 = .inr m->m∈B.st):enV g (BA A.lf e)=enV (CL A g) e:=by
 obtain⟨p,fs,k⟩:=e;have h:plV g (BA A.lf (p,fs,k)).1=plV (CL A g) p:=by
   cases p with
   | inl p=>rfl
   | inr m=> show plV g (AI A.lf m).1=((CL A g m).getD (0,0)).1;rw[fQ h1 hc t (hp m rfl)];rfl
 have j:ctV (CL A g) fs=(fs.map λm=>(AI A.lf m).2.2+ctV g (AI A.lf m).2.1).sum:=by unfold ctV;congr 1;refine yM λm x=>?_;rw[fQ h1 hc t (M m x)];rfl
 have i:ctV g (BO (fs.flatMap λn=>(AI A.lf n).2.1))=(fs.map λm=>ctV g (AI A.lf m).2.1).sum:=by unfold ctV;rw[Z8 ((AU _).map _),Z9]
 show(plV g (BA A.lf (p,fs,k)).1,(k+(fs.map λn=>(AI A.lf n).2.2).sum)+ctV g (BO (fs.flatMap λn=>(AI A.lf n).2.1)))=(plV (CL A g) p,k+ctV (CL A g) fs);rw[h,j,i,UH];congr 1;lia
theorem qW (h1:OkE ys A) (m:OkE ys B) (U:OkE ys F) (hF:Beh A B F) (b:okV A g) (c:okV B (CL A g)) (n:Str):CL F g n=CL B (CL A g) n:=by
 have hc:=hF.no;cases hB:AC B.lf n with
 | some t=> have x:=(BJ m.keys).mp hB;have i:AC F.lf n=al (BA A.lf t):=(BJ U.keys).mpr ((hF.lf _ _).mpr (.inr #[t,x,rfl]));rw[JK i,JK hB,qV h1 hc c (m.from_ _ x).2 (m.place _ x)]
 | none=>
   have p:n∉B.lf.map (·.1):=λq=>by obtain⟨e,he⟩:=JL q;rw[he] at hB;cases hB
   have S:∀t,(n,t)∉B.lf:=λt q=>p (zL.mpr #[_,q,rfl]);by_cases hs:n∈B.st
   . rw[ID hB hs];have r:AC F.lf n=none:=by
       cases Q:AC F.lf n with
       | none=>rfl
       | some e=>
         rcases (hF.lf _ _).mp ((BJ U.keys).mp Q) with ⟨_,q,_⟩ | ⟨t,q,_⟩
         . exact absurd hs q
         . exact absurd q (S t)
     by_cases hk:n∈A.st++A.fr
     . rcases yW.mp hk with q | q;. exact ID r ((hF.st n).mpr (.inl q))
       . by_cases hFs:n∈F.st;. exact ID r hFs
         . rw[FM r hFs];exact b.2 n q
     . exact ID r ((hF.st n).mpr (.inr #[hs,hk]))
   . rw[FM hB hs];cases hA:AC A.lf n with
     | some e=> have i:AC F.lf n=al e:=(BJ U.keys).mpr ((hF.lf _ _).mpr (.inl #[(BJ h1.keys).mp hA,hs,p]));rw[JK i,JK hA]
     | none=>
       have r:AC F.lf n=none:=by
         cases Q:AC F.lf n with
         | none=>rfl
         | some e=>
           rcases (hF.lf _ _).mp ((BJ U.keys).mp Q) with ⟨q,_,_⟩ | ⟨t,q,_⟩
           . rw[(BJ h1.keys).mpr q] at hA;cases hA
           . exact absurd q (S t)
       by_cases hAs:n∈A.st;. rw[ID hA hAs,ID r ((hF.st n).mpr (.inl hAs))]
       . rw[FM hA hAs,FM r λq=>?_];rcases (hF.st n).mp q with q | ⟨q,_⟩
         . exact hAs q
         . exact hs q
end
end DL
namespace DL
open PySem PySem.Spec L2 XC
section
variable {ys:List Str}{A B F:Eff}{g:Gt}{n:Str}{w:List Th}{D:Deed}
theorem jR :AJ ns D=am↔∀n∈D.names,(n∈ns)↔¬D.made=al n:=#[D9,R9]
theorem W7 (hr:D.real):okV (AD D) (AA w)↔AJ (w.map (·.1)) D=none:=by
 rw[jR];have t:∀n,n∈w.map (·.1)↔(AA w n).isSome=true:=λn=>BS;have M:∀n,AA w n=am↔¬(n∈w.map (·.1)):=λn=>by rw[t];simp
 have z:=hr.2.1;have hp:∀x y n,n∈BO [x,y]↔n=x\/n=y:=λx y n=>by rw[(AU _).mem_iff];simp
 unfold okV;simp only[<-t,M];cases D with
 | put x p k=>simp[AD,Deed.names,Deed.made]
 | take x=>simp[AD,Deed.names,Deed.made]
 | move x p=>simp[AD,Deed.names,Deed.made]
 | count x k=>simp[AD,Deed.names,Deed.made]
 | name x y=> have h1:x≠y:=z;have e:=a4Z h1;simp[AD,Deed.names,Deed.made,h1,e]
 | split x y p k=> have h1:x≠y:=z;have e:=a4Z h1;simp[AD,Deed.names,Deed.made,h1,e]
 | join x y=>simp[AD,Deed.names,Deed.made,hp]
theorem jS (nd:(ts.map (·.1)).Nodup) (n:Str):AC (CU ts) n=AC ts n:=by
 have t:=HE nd;have i:((CU ts).map (·.1)).Nodup:=((t.map (·.1)).nodup_iff).mpr nd;cases h:AC ts n with
 | none=> exact PU λq=>by obtain⟨e,he⟩:=JL ((t.map (·.1)).mem_iff.mp q);rw[h] at he;cases he
 | some e=>exact(BJ i).mpr (t.mem_iff.mpr ((BJ nd).mp h))
theorem qX (hr:D.real) (r:AJ (w.map (·.1)) D=am) (n:Str):AA (doT w D) n=CL (AD D) (AA w) n:=by
 rw[CY hr r];have z:=hr.2.1;have i:∀{n},n∈D.names->D.made≠al n->∃v,AA w n=al v:=λhn m=>BH (MS r hn m);unfold CL;cases D with
 | put x p k=>
   by_cases h:n=x;. subst h;simp[AD,AC,enV,plV,ctV]
   . simp[AD,AC,h,a4Z h]
 | take x=>
   by_cases h:n=x;. subst h;simp[AD,AC]
   . simp[AD,AC,h]
 | move x p=>
   obtain⟨v,S⟩:=i (n:=x) (by simp[Deed.names]) (by simp[Deed.made]);by_cases h:n=x;. subst h;simp[AD,AC,enV,plV,ctV,S]
   . simp[AD,AC,h,a4Z h]
 | count x k=>
   obtain⟨v,S⟩:=i (n:=x) (by simp[Deed.names]) (by simp[Deed.made]);by_cases h:n=x;. subst h;simp[AD,AC,enV,plV,ctV,S,Int.add_comm]
   . simp[AD,AC,h,a4Z h]
 | name x y=>
   have h1:x≠y:=z;obtain⟨v,S⟩:=i (n:=x) (by simp[Deed.names]) (by simp[Deed.made];exact λe=>h1 e.symm);by_cases h:n=y;. subst h;simp[AD,AC,enV,plV,ctV,S]
   . by_cases t:n=x;. subst t;simp[AD,AC,h,a4Z h]
     . simp[AD,AC,h,t,a4Z h]
 | split x y p k=>
   have h1:x≠y:=z;obtain⟨v,S⟩:=i (n:=x) (by simp[Deed.names]) (by simp[Deed.made];exact λe=>h1 e.symm);have nd:([(x,((.inr x,[x],-k):Ent)),(y,.inl p,[],k)].map (·.1)).Nodup:=by simpa using h1
   have e:=jS nd n;show _=match AC (CU [(x,((.inr x,[x],-k):Ent)),(y,.inl p,[],k)]) n with | some e=>al (enV (AA w) e) | none=>if n∈[x] then am else AA w n
   rw[e];by_cases h:n=y;. subst h;simp[AC,enV,plV,ctV,h1]
   . by_cases t:n=x;. subst t;simp[AC,enV,plV,ctV,S,h,Int.add_comm]
     . simp[AC,h,t,a4Z h,a4Z t]
 | join x y=>
   have h1:x≠y:=z;obtain⟨v,S⟩:=i (n:=x) (by simp[Deed.names]) (by simp[Deed.made]);obtain⟨u,hu⟩:=i (n:=y) (by simp[Deed.names]) (by simp[Deed.made]);have hp:∀n,n∈BO [x,y]↔n=x\/n=y:=λn=>by rw[(AU _).mem_iff];simp
   have hs:ctV (AA w) (BO [x,y])=v.2+u.2:=by unfold ctV;rw[Z8 ((AU _).map _)];simp[S,hu]
   by_cases h:n=y;. subst h;simp[AD,AC,hp,h1]
   . by_cases t:n=x;. subst t;simp[AD,AC,enV,plV,hs,S,hu,h]
     . simp[AD,AC,hp,h,t,a4Z t]
def N6 (o:Option (List Th)) (D:Deed):Option (List Th):=o.bind λw=>if AJ (w.map (·.1)) D=am then al (doT w D) else am
def AY (w:List Th) (Ds:List Deed):Option (List Th):=Ds.foldl N6 (al w)
theorem N7 (w:List Th) (Ds:List Deed) (D:Deed):AY w (Ds++[D])=N6 (AY w Ds) D:=by unfold AY;rw[a6J];rfl
theorem qY (h:AY w (Ds.take k)=am):AY w Ds=none:=by
 have e:Ds=Ds.take k++Ds.drop k:=(b1V k Ds).symm;unfold AY at h ⊢;rw[e,a6J,h];generalize Ds.drop k=l;induction l with
 | nil=>rfl
 | cons a r U=>exact U
theorem ZD {Ds:List Deed}(h:AY w (Ds.take k)=al w2) (hD:Ds[k]?=al D) (e:AJ (w2.map (·.1)) D=am):AY w (Ds.take (k+1))=al (doT w2 D):=by rw[a1V,hD];show AY w (Ds.take k++[D])=_;rw[N7,h];show(if AJ (w2.map (·.1)) D=am then al (doT w2 D) else am)=_;rw[if_pos e]
theorem RP (h:AY w (Ds.take k)=al w2) (hD:Ds[k]?=al D) (e:¬AJ (w2.map (·.1)) D=am):AY w Ds=none:=by refine qY (k:=k+1) ?_;rw[a1V,hD];show AY w (Ds.take k++[D])=_;rw[N7,h];show(if AJ (w2.map (·.1)) D=am then al (doT w2 D) else am)=_;rw[if_neg e]
def JM (w:List Th) (o:Option Eff) (r:Option (List Th)):Prop:=match o with
 | none=>r=am
 | some E=>match r with
   | none=>¬okV E (AA w)
   | some O=>okV E (AA w)/\∀n,AA O n=CL E (AA w) n
theorem CG (hn:AK ys) (w:List Th):∀(k:Nat) (Ds:List Deed),Ds.length=k->(∀D∈Ds,AN ys D)->JM w (AX Ds) (AY w Ds)
 | 0,Ds,r,h=>by obtain rfl:=List.length_eq_zero_iff.mp r;exact#[#[(λn h=>nomatch h),(λn h=>nomatch h)],λn=>rfl]
 | k+1,Ds,r,h=>by
   obtain⟨C,D,rfl⟩:∃C D,Ds=C++[D]:=#[Ds.dropLast,Ds.getLast (by rintro rfl;cases r),(List.dropLast_concat_getLast _).symm]
   have hC:∀D∈C,AN ys D:=λD hD=>h D (yW.mpr (.inl hD));have hD:AN ys D:=h D (by simp);have U:=CG hn w k C (by simpa using r) hC;cases hE:AX C with
   | none=> rw[hE] at U;have U:AY w C=none:=U;rw[Z2 (k:=C.length) (by rw[List.take_left];exact hE),N7,U];exact rfl
   | some E=>
     rw[hE] at U;rw[N2 hE,N7];have e:=JJ hn hC E hE;have G:=OkE.deed hn hD;cases hc:B3 E (AD D) with
     | true=>
       rw[qT hc];show N6 (AY w C) D=am;cases hr:AY w C with
       | none=>rfl
       | some O=> rw[hr] at U;obtain⟨m,p⟩:=U;have i:AA O=CL E (AA w):=funext p;show(if AJ (O.map (·.1)) D=am then al (doT O D) else am)=am;rw[if_neg λq=>jQ e hc #[m,by rw[<-i];exact(W7 hD.1).mpr q]]
     | false=>
       have hs:=ZA hc;have hF:=qS e G hs;have c:=OkE.behind hn e G hs;rw[hs];generalize (#[BO (AS E (AD D)),BO (CJ E (AD D)),CU (DB E (AD D))]:Eff)=F at hF c;cases hr:AY w C with
       | none=> rw[hr] at U;have U:¬okV E (AA w):=U;show ¬okV F (AA w);exact λq=>U ((W6 e G hF).mp q).1
       | some O=>
         rw[hr] at U;obtain⟨m,p⟩:=U;have i:AA O=CL E (AA w):=funext p;show JM w (al F) (if AJ (O.map (·.1)) D=am then al (doT O D) else am);by_cases t:AJ (O.map (·.1)) D=am
         . rw[if_pos t];have b:okV (AD D) (CL E (AA w)):=by rw[<-i];exact(W7 hD.1).mpr t
           refine#[(W6 e G hF).mpr #[m,b],λn=>?_];rw[qX hD.1 t,i,qW e G c hF m b]
         . rw[if_neg t];show ¬okV F (AA w);exact λq=>t ((W7 hD.1).mp (by rw[i];exact((W6 e G hF).mp q).2))
end
end DL
namespace DL
open PySem PySem.Spec L2
section
variable {K:Frg}{M:Own}{Q:DS->Own->Prop}{ρ:List (Option DS)}{td ty:TE}
def isTD (M:Own) (x:DS) (ts:List (Str×PyData)):Prop:=(∃a,x = .loc a/\M a=al (.d (AF ts)))\/x = .d (.dict (AF ts))
theorem isTD.o (h:M a=al (.d (AF ts))):isTD M (.loc a) ts:=.inl #[a,rfl,h]
theorem isTD.d :isTD M (.d (.dict (AF ts))) ts:=.inr rfl
theorem isTD.put (h:isTD M x ts) (g:M a=am):isTD (M.put a m) x ts:=by
 rcases h with ⟨b,rfl,hb⟩ | rfl
 . exact .inl #[b,rfl,by rw[yH (by rintro rfl;rw[hb] at g;cases g)];exact hb]
 . exact .inr rfl
theorem fR (h:DE K ty ρ M λy M1=>DE K td ρ M1 λx e=>∃(ts:List (Str×PyData)) (k:Str),isTD e x ts/\y = .d (.str k)/\Q (.d (.bool (BK ts k).isSome)) e):DE K (A1M ty td) ρ M Q:=λb H QQ R S=>
 h b H _ R λv c x M1 T N p h1=>h1 b c _ (R.step T p) λu f y e r n I z=>by
   obtain⟨ts,k,hx,rfl,q⟩:=z;rw[BD N];obtain⟨a,O,D,t,j⟩:∃a O,u = .ref a/\Rd f a (.dK O)/\DKV K f e.W (AF ts) O:=by
     rcases hx with ⟨a,rfl,m⟩ | rfl
     . unfold SI at n;obtain⟨O,t,j⟩:=r a _ m;exact#[a,O,n,.inl t,j]
     . unfold SI DV at n;obtain⟨a,O,D,nw,t,j⟩:=n;exact#[a,O,D,t,j]
   subst D;refine#[a,GD O (a1Z k),rfl,.inl #[O,a1Z k,t,rfl,rfl],S _ f _ e r ?_ (p.trans I) q];rcases CS (k:=k) j with ⟨G,J,i,g,B⟩ | ⟨i,g⟩
   . rw[i,g];exact AM
   . rw[i,g];exact AM
theorem qZ (hx:isTD M x ts) (q:∀p,M p=am->Q (.loc p) (M.put p (.d (AF ts)))):DR K c9 [x] M Q:=λH i QQ e s k=>by
 obtain⟨v,r,rfl,h1,t⟩:=s;cases t;obtain⟨a,O,D,h,j⟩:∃a O,v = .ref a/\Rd H a (.dK O)/\DKV K H M.W (AF ts) O:=by
   rcases hx with ⟨a,rfl,m⟩ | rfl
   . unfold SI at h1;obtain⟨O,h,j⟩:=e a _ m;exact#[a,O,h1,.inl h,j]
   . unfold SI DV at h1;obtain⟨a,O,D,nw,h,j⟩:=h1;exact#[a,O,D,h,j]
 subst D;refine#[a,O,rfl,h,λp hp=>?_];obtain⟨n,y⟩:=MI e hp j;exact k _ _ (.loc p) _ n rfl y (q p (e.none hp))
end
end DL
namespace DL
open PySem PySem.Spec L2 XC
section
variable {ys:List Str}{E:Eff}{g:Gt}{n:Str}{w a b:List Th}{D:Deed}
abbrev wQ (w:List Th):PyData:=.dict (AF (tsD w))
theorem wP (h:(ts.map (·.1)).Nodup):((E5 ts x p c).map (·.1)).Nodup:=by
 unfold E5;split
 . rw[zD];have e:((λt:Th=>t.1)∘λt:Th=>if t.1=x then (t.1,p,c) else t)=λt:Th=>t.1:=by funext t;show(if t.1=x then (t.1,p,c) else t).1=t.1;split <;> rfl
   rw[e];exact h
 . rename_i q;rw[xI,List.nodup_append];refine#[h,by simp,λa i b hb=>?_];obtain rfl:b=x:=by simpa using hb
   rintro rfl;obtain⟨t,u,e⟩:=zL.mp i;exact q (List.any_eq_true.mpr #[t,u,decide_eq_true e])
def r6 (o:Option (List Th)):PyData:=match o with | some w=>wQ w | none=>.none
theorem F4 (h:There zs w) (hz:zs.length < 60) (hD:∀D∈Ds,D.real/\∀x∈D.names,x∈zs):∀w2,AY w Ds=al w2->There zs w2:=by
 induction Ds generalizing w with
 | nil=>intro w2 e;cases e;exact h
 | cons D r U=>
   intro w2 e;have hd:=hD D (a0Z ..);by_cases t:AJ (w.map (·.1)) D=am
   . have e:AY (doT w D) r=al w2:=by
       have:AY w (D::r)=AY (doT w D) r:=by show r.foldl N6 (N6 (al w) D)=r.foldl N6 (al (doT w D));show r.foldl N6 (if AJ (w.map (·.1)) D=am then al (doT w D) else am)=_;rw[if_pos t]
       rw[<-this];exact e
     have hg:goD w D:=#[#[h.nd,by have:=h.few;lia],hd.1,t]
     exact U (RJ h hg hd.2) (λi L=>hD i (yV _ L)) w2 e
   . have:AY w (D::r)=none:=RP (Ds:=D::r) (k:=0) (w2:=w) rfl rfl t;rw[this] at e;cases e
end
end DL
namespace DL
open PySem PySem.Spec L2 XC
section
variable {K:Frg}{ρ:List (Option DS)}{td ty:TE}{M:Own}{Q:DS->Own->Prop}{ys:List Str}{w:List Th}{D:Deed}{p:Addr}{x:DS}{Ds:List Deed}{E:Eff}
theorem EL (h:DE K td ρ M λx M1=>DE K ty ρ M1 λy e=>∃(ts:List (Str×PyData)) (k:Str) (d:PyData),isTD e x ts/\y = .d (.str k)/\BK ts k=al d/\Q (.d d) e):DE K (dO td ty) ρ M Q:=by
 intro T H QQ R G;refine h T H _ R λv N x M1 J i c h1=>h1 T N _ (R.step J c) λu f y e r L z B=>?_;obtain⟨ts,k,d,hx,rfl,l,q⟩:=B;rw[BD L];obtain⟨a,O,rfl,n,j⟩:∃a O,v = .ref a/\Rd f a (.dK O)/\DKV K f e.W (AF ts) O:=by
   rcases hx with ⟨a,rfl,m⟩ | rfl
   . unfold SI at i;obtain⟨O,n,j⟩:=r a _ m;exact#[a,O,i,.inl n,j]
   . have b:=i.step z;unfold SI DV at b;obtain⟨a,O,S,nw,n,j⟩:=b;exact#[a,O,S,n,j]
 rcases CS (k:=k) j with ⟨X,U,t,g,I⟩ | ⟨t,g⟩
 . rw[l] at t;cases t;exact#[a,U,rfl,.inl #[O,a1Z k,n,rfl,g.symm],G _ f (.d d) e r I (c.trans z) q]
 . rw[l] at t;cases t
theorem cI (h:wQ a=wQ b):a=b:=c8 (by unfold wQ at h;injection h with h;unfold tsO;rw[h])
theorem isTD.inj (h1:isTD M x (tsD a)) (n:isTD M x (tsD b)):a=b:=by
 rcases h1 with ⟨p,rfl,m⟩ | rfl
 . rcases n with ⟨q,e,t⟩ | e
   . injection e with e;subst e;rw[m] at t;exact c8 (Option.some.inj t)
   . cases e
 . rcases n with ⟨q,e,t⟩ | e
   . cases e
   . injection e with e;exact cI e
def tdW (x:DS) (D:Deed):List DS:=[x,.d D.d]
def KD:FSp:=#[λt M=>∃(x:DS) (w:List Th) (D:Deed),t=tdW x D/\isTD M x (tsD w)/\D.real,λt M y i=>∀(x:DS) (w:List Th) (D:Deed),t=tdW x D->isTD M x (tsD w)->D.real->y = .d (.bool (decide (AJ (w.map (·.1)) D=am)))/\i=M]
theorem RQ (m:isTD M x (tsD w)) (h:D.real) (q:Q (.d (.bool (decide (AJ (w.map (·.1)) D=am)))) M):(tdW x D).length=2/\KD.pre (tdW x D) M/\∀y i,KD.post (tdW x D) M y i->Q y i:=#[rfl,#[x,w,D,rfl,m,h],λy i e=>by obtain⟨rfl,rfl⟩:=e x w D rfl m h;exact q]
def HH:FSp:=#[λt M=>∃(x:DS) (w:List Th) (D:Deed),t=tdW x D/\isTD M x (tsD w)/\goD w D/\w.length < 60,λt M y i=>∀(x:DS) (w:List Th) (D:Deed),t=tdW x D->isTD M x (tsD w)->∃q,M q=am/\y = .loc q/\i=M.put q (tsO (doT w D))]
theorem OT (m:isTD M x (tsD w)) (h:goD w D) (t:w.length < 60) (q:∀r,M r=am->Q (.loc r) (M.put r (tsO (doT w D)))):(tdW x D).length=2/\HH.pre (tdW x D) M/\∀y i,HH.post (tdW x D) M y i->Q y i:=#[rfl,#[x,w,D,rfl,m,h,t],λy i e=>by obtain⟨r,h1,rfl,rfl⟩:=e x w D rfl m;exact q r h1]
def A3v (M M1:Own) (x:DS) (w:List Th):Prop:=(M1=M/\x = .d (wQ w))\/∃r,M r=am/\M1=M.put r (tsO w)/\x = .loc r
theorem UI {D:EndsD}{M1:Own}(h:A3v M M1 x w) (e:ρ[i]?=al (al x)) (hd:DSt K t (ρ.set i (al (.d (wQ w)))) M D):DSt K t ρ M1 D:=by
 rcases h with ⟨rfl,rfl⟩ | ⟨r,hr,rfl,rfl⟩
 . have j:ρ.set i (al (.d (wQ w)))=ρ:=by obtain⟨hi,n⟩:=yT.mp e;rw[<-n,List.set_getElem_self]
   rwa [j] at hd
 . refine LJ (i:=i) (a:=r) e zU ?_;rw[yG hr];exact hd
def rnX (w:List Th) (Ds:List Deed):List DS:=[.d (wQ w),.d (.tuple (Ds.map Deed.d))]
structure Go17 (w:List Th) (Ds:List Deed):Prop where
 ex:∃zs,There zs w/\zs.length < 60/\∀D∈Ds,D.real/\∀x∈D.names,x∈zs
 few:Ds.length<=60
def A2R (w:List Th) (Ds:List Deed) (d:PyData):Prop:=∃(k:PyData) (O:List Th),d = .tuple [k,wQ O]/\((AY w Ds=al O/\k = .none)\/(AY w Ds=am/\∃i:Int,k = .int i))
def N8:FSp:=#[λt M=>∃(w:List Th) (Ds:List Deed),t=rnX w Ds/\Go17 w Ds,λt M y i=>∀(w:List Th) (Ds:List Deed),t=rnX w Ds->(∃d,y = .d d/\A2R w Ds d)/\i=M]
theorem cJ (h:Go17 w Ds) (q:∀d,A2R w Ds d->Q (.d d) M):(rnX w Ds).length=2/\N8.pre (rnX w Ds) M/\∀y i,N8.post (rnX w Ds) M y i->Q y i:=#[rfl,#[w,Ds,rfl,h],λy i e=>by obtain⟨⟨d,rfl,h1⟩,rfl⟩:=e w Ds rfl;exact q d h1]
def HI:FSp:=#[λt M=>∃(w:List Th) (Ds:List Deed),t=rnX w Ds/\Go17 w Ds,λt M y i=>∀(w:List Th) (Ds:List Deed),t=rnX w Ds->y = .d (r6 (AY w Ds))/\i=M]
theorem LO (h:Go17 w Ds) (q:Q (.d (r6 (AY w Ds))) M):(rnX w Ds).length=2/\HI.pre (rnX w Ds) M/\∀y i,HI.post (rnX w Ds) M y i->Q y i:=#[rfl,#[w,Ds,rfl,h],λy i e=>by obtain⟨rfl,rfl⟩:=e w Ds rfl;exact q]
open Classical in
theorem A3w (h:There zs w) (hz:zs.length < 60) (hD:∀D∈Ds,AN ys D) (hs:∀y∈ys,y∈zs) (k:Ds.length<=60):Go17 w Ds:=#[#[zs,h,hz,λD hd=>#[(hD D hd).1,λx hx=>hs x ((hD D hd).2 x hx)]],k]
end
end DL
namespace L2
open PySem PySem.Spec PyProof.Rows
open AutoSeq1 (wpAny_loadPart')
section
variable {prog:bn}{w:bj}{A:ca}{E:ao->aq->Prop}{s:aq}
theorem fS (hh:A.handled=am) (hx:items[i]?=am):NxE prog w A it (λh=>h.IsTupleIter it l i/\h.IsTuple l items):=λs Q E hS hE=>by
 obtain⟨hit,u⟩:=hS;obtain⟨o,ho,hc,hd⟩:=id hit;obtain⟨t,U,_,r,e⟩:=id u;unfold a1W;refine zZ (wpAny_callSpecial?_slot (name:=a0Q "__next__") hit.typeIs a6Z (cb a6Z hit.typeIs b7V ?_ (b7Z _)));show wpAny _ _ (ka (.ref it) 0 >>= _) _ _ s;refine zZ (bf ho hd (x:=.ref l) rfl ?_);show wpAny _ _ (if (a0X l==a1X)=ap then _ else _) _ _ s;rw[if_neg (show ¬((a0X l==a1X)=ap) from nft)];show wpAny _ _ (ka (.ref it) 1 >>= _) _ _ s;refine zZ (bf ho hd (x:=.int i 0) rfl ?_);show wpAny _ _ (seqItems? (.ref l) >>= _) _ _ s;refine zZ (c3 U e ?_);simp only[a9V,hx];refine zZ (db (zZ (dl ho hd (by simp) ?_)));show wpAny _ _ (newExc (.type "StopIteration") [] >>= _) _ _ _;refine zZ ?_;simp only[newExc,newTuple];refine zZ (xM ?_ (by size_fits));refine zZ (m:=kn _ _) (fz (a:=a1X) (by first | rfl | (simp only[kn];rfl)) ?_);refine xM ?_ (by size_fits);simp only[raiseNew];refine zZ (wpAny_handled ?_);first | rw[show A.in1.handled=am from hh] | rw[hh]
 refine zZ (zY (wpAny_throw ?_));exact hE _ _ (((b5V ..).extBut.push _).push _) #[_,yZ _ rfl,rfl]
theorem jT (hh:A.handled=am) (it l:Addr) (au:l≠it) (items:Array ao):Draws prog w A it [it,l] items.size (λi v=>items[i]?=al v) (λi h=>h.IsTupleIter it l i/\h.IsTuple l items) where
 live:=λ_ _ st=>let #[o,ho,_]:=st.1;#[o,ho]
 frame:=λ_ _ _ st hk=>#[st.1.at λo e=>hk it (by simp) o e,let #[o,e,r]:=st.2;#[o,hk l (by simp) o e,r]]
 item:=λi s Q E hi st hQ=>nU au (y:=items[i]) (by simp[hi]) s Q E st λh' tk x e a b=>hQ x h' tk (by rw[e];simp[hi]) a b
 done:=λs Q E st hE=>fS hh (by simp) s Q E st hE
theorem jU {i:Nat}(hh:A.handled=am) (he:IsEnum s.heap e it i old) (hit:s.heap.IsTupleIter it l i) (r:s.heap.IsTuple l items) (hx:items[i]?=am) (n:∀h',Heap.ExtBut it s.heap h'->Q am { s with heap:=h' }):wpAny (model prog w) A (pyNext (.ref e)) Q E s:=by have t:s.TypeIs (.ref e) "enumerate" := #[_,he,rfl];unfold pyNext;refine zZ (wpAny_attempt (wpAny_callSpecial?_slot (name:=a0Q "__next__") t F.slot_enumerate_next (cb F.slot_enumerate_next t F.entry_enumerate_next ?_ (F.args_enumerate_next_1 _))));show wpAny _ _ (ka (.ref e) 2 >>= _) _ _ _;refine zZ (bf he rfl (x:=.ref it) rfl (zZ (fS (A:=A.in1) hh hx _ _ _ #[hit,r] λh' x m Y=>?_)));obtain⟨o,ho,hc⟩:=Y;exact zZ (iu (T:= "StopIteration") (b:=ap) #[o,ho,hc] isSubtype_stop (zY (n _ m)))
theorem ZE (l:Addr) (items:Array ao) :
   Meets (Builtin.«enumerate.__new__» #[[.type "enumerate", .ref l],[]]) (λ_ R s=>s.heap.IsTuple l items /\
     R (.ok (.ret (.ref (s.heap.push { cls:=.type "tuple_iterator", data:=.fields (y9 [.ref l,.int 0 0]) }).objs.size))) { s with heap:=(s.heap.push { cls:=.type "tuple_iterator", data:=.fields (y9 [.ref l,.int 0 0]) }).push { cls:=.type "enumerate", data:=.fields (y9 [.none,.bool aw,.ref s.heap.objs.size,dk 0,.none,.none]) } }):=
 .of_wp λprog w A R s h=>by
   obtain⟨hp,g,d,i,e⟩:=s;obtain⟨hL,h⟩:=h;have I:=sub_enumerate;obtain⟨⟨c,N,B,sl⟩,r,hc,n,hd⟩:=id hL
   wp_walk using eH r
   refine wpAny_stack_any λt=>zY ?_;split;. rename_i c _ _ _ _ _;cases (c==Value.type "enumerate") <;> (wp_walk using eH r,g5 hL;exact#[_,rfl,h])
   . (wp_walk using eH r,g5 hL;exact#[_,rfl,h])
theorem cK (hL:s.heap.IsTuple l items) (h:∀h',IsEnum h' (s.heap.objs.size+1) s.heap.objs.size 0 .none->h'.IsTupleIter s.heap.objs.size l 0 ->(∀b o,s.heap.get? b=al o->h'.get? b=al o)->Q (.ref (s.heap.objs.size+1)) { s with heap:=h' }) :
   wpAny (model prog w) A (call (.type "enumerate") [.ref l]) Q E s:=by
 refine callType_new F.called_enumerate (by decide) (F.typeCall_enumerate_1 _) (F.newCall_enumerate_1 _) (λobj=>F.args_object_init_2 obj _) F.entry_enumerate_new (ZE l items) #[hL,?_];have q:(s.heap.push { cls:=.type "tuple_iterator", data:=.fields (y9 [.ref l,.int 0 0]) }).objs.size=s.heap.objs.size+1:=a9X ..;show _/\_;rw[q];have he:IsEnum ((s.heap.push { cls:=.type "tuple_iterator", data:=.fields (y9 [.ref l,.int 0 0]) }).push { cls:=.type "enumerate", data:=.fields (y9 [.none,.bool aw,.ref s.heap.objs.size,dk 0,.none,.none]) }) (s.heap.objs.size+1) s.heap.objs.size 0 .none:=by have:=yZ (s.heap.push { cls:=.type "tuple_iterator", data:=.fields (y9 [.ref l,.int 0 0]) }) (o:={ cls:=.type "enumerate", data:=.fields (y9 [.none,.bool aw,.ref s.heap.objs.size,dk 0,.none,.none]) }) rfl;rw[q] at this;exact this
 exact#[#[_,he,rfl],h _ he #[_,zW _ (yZ _ rfl),rfl,rfl] λb o x=>zW _ (zW _ x)]
end
end L2
namespace L2
open PySem PySem.Spec PyProof.Rows
def A3x (K:Frg) (l:Addr):It:=#[λi H=>∃t,SqT K H l t/\i < t.length,
  λi H x H'=>∃p a,H p=am/\x = .ref p/\H'=upd H p (.tup [.int (i:Nat),a])/\∀t,SqT K H l t->t[i]?=al a,
  λi H=>∃t,SqT K H l t/\t.length<=i]
theorem cL {P:bn}{w:bj}{K:Frg}{mh:List bp}{kk:Nat}{kc:ew}(e it l:Addr) (d1:e≠it) :
   Turn P w K (.Tuple mh kk kc) (A3x K l) [e,it] e (λi h=>(∃old,IsEnum h e it (i:Nat) old)/\h.IsTupleIter it l i) where
 mem:=by simp
 obj:=by
   rintro i h ⟨⟨old,a1⟩,a2⟩ b hb;simp only[yX,xW,or_false] at hb;rcases hb with rfl | rfl;. exact⟨_,a1,λv q=>by cases q⟩
   . obtain⟨o,q,c,d⟩:=a2;exact⟨o,q,λv z=>by rw[d] at z;cases z⟩
 keep:=by rintro i h h' ⟨⟨old,a1⟩,a2⟩ k;exact#[#[old,k e (by simp) _ a1],a2.at λo q=>k it (by simp) o q]
 item:=by
   intro X hP hw hK hc i pins s σ H E I hf #[#[old,a1],a2] hg;subst hP hw hK;obtain⟨xs,hx,lx⟩:=hg;obtain⟨aa,rx,px,_⟩:=I.tuple hx;obtain⟨u,hu,ru⟩:=rx.get (zV lx);have hle:l≠e:=QJ I (hf e (by simp)) hx;have G':l≠it:=QJ I (hf it (by simp)) hx;have Nb:=rx.length;refine wpAny_pyNext_enum_itemD (jT (items:=aa.toArray) (A:=X.A.in1) (I.ok.hd hc) it l G') a1 #[a2,px] (show i < aa.toArray.size by simp;lia) d1 (by simp;exact#[d1,hle.symm]) λx h' tk ex b1 b2 b3 b4 hk=>?_;have ex:x=u:=by
     have:aa[i]?=al x:=by simpa using ex
     rw[hu] at this;exact(Option.some.inj this).symm
   subst ex;refine#[_,rfl,wpAny_letOwnedTupleGo_enum (s:={ s with heap:=h',toks:=tk+1 }) b1 λh2 c1 sb=>?_];have lt:∀{c o},s.heap.get? c=al o->s.heap.objs.size≠c:=λq=>a5W (zM q);have keep:∀b o,b∉[e,it]->s.heap.get? b=al o->h2.get? b=al o:=λb o hb q=>by simp only[yX,xW,or_false,not_or] at hb;exact sb.extBut b o hb.1 (hk b o hb.1 hb.2 q)
   have sf:s.heap.objs.size≠e:=lt a1;have I1:Inv X pins σ (upd H s.heap.objs.size (.tup [.int (i:Nat),xs[i]])) { s with heap:=h2,toks:=tk+1 }:=I.turnedT (t':=tk+1) (ch:=[e,it]) keep (λb hb=>(hf b hb).1) (λb hb=>let q:=hf b hb;#[q.2.2.2.1,q.2.1,q.2.2.2.2.1,q.2.2.2.2.2]) (zR _) #[by show 2<=aB;decide,[.int (i:Nat) tk,x],.cons #[_,rfl] (.cons ru .nil),#[_,sb.extBut _ _ sf b3,rfl,_,rfl]];refine#[.ref s.heap.objs.size,_,I1,rfl,#[s.heap.objs.size,xs[i],I.hok.fresh (zR _),rfl,rfl,λQf pj=>?_],#[#[_,c1],let #[o,q,r]:=b2.1;#[o,sb.extBut it o (a4Z d1) q,r]],λb hb=>?_];. rw[I.tuple_inj pj hx];exact zV lx
   . have bx:s.heap.objs.size≠b:=by
       simp only[yX,xW,or_false] at hb;rcases hb with rfl | rfl;. exact lt a1
       . obtain⟨o,q,_⟩:=a2;exact lt q
     rw[AH (a4Z bx)];exact(hf b hb).1
 done:=by
   intro X hP hw hK hc i pins s σ H E I hf #[#[old,a1],a2] hg;subst hP hw hK;obtain⟨xs,hx,Nc⟩:=hg;obtain⟨aa,rx,px,_⟩:=I.tuple hx;have e1:=rx.length;have G':l≠it:=QJ I (hf it (by simp)) hx;refine jU (I.ok.hd hc) a1 a2 px (by rw[b9W];simp;lia) λh' hk=>#[rfl,I.turnedL (t':=s.toks) (ch:=[e,it]) (λb o hb q=>?_) (λb hb=>(hf b hb).1) λb hb=>let q:=hf b hb;#[q.2.2.2.1,q.2.1,q.2.2.2.2.1,q.2.2.2.2.2]]
   simp only[yX,xW,or_false,not_or] at hb;exact hk b o hb.2 q
 self:=λ_ _ _ _ _ st h=>let #[_,q]:=st.1;wpAny_pyIter_enum q h
section
variable {X:Cx}{K:Frg}
def r8 (K:Frg) (j:TA):TI:=λn H R=>j n H λe m=>∃a,e=[.ref a]/\(∃t,SqT K m a t)/\R (A3x K a) m
theorem A2S {a:bp}{j:TA}{p pos:ew}{c:List bp}{S:Nat}{Y:ew}(hk:X.K=K) (hg:Gl X "enumerate") (x:X.mg "enumerate"=am) (g:PA X [a] j) (hs:starEach [a] X.env=[(aw,eval a X.env)]:=by rfl) :
   PI X (.Tuple c S Y) (.Call (.Name "enumerate" p) [a] [] pos) (r8 K j):=by
 subst hk;intro pins s y H R I h;refine Call_ (IX I hg x boot_enumerate (xH (thn (g pos pins s y H _ I h) λO t i=>?_) hs rfl));obtain⟨M,m,G,f,T⟩:=i;obtain⟨l,e,⟨D,hx⟩,q⟩:=T;subst e;obtain⟨u,rfl,v⟩:=GM f;cases v;obtain⟨z,N,k,_⟩:=G.tuple hx;refine cK k λr b1 n hk=>?_;refine wpAny_pyIter_enum (s:={ t with heap:=r }) b1 ?_;refine#[t.heap.objs.size+1,[t.heap.objs.size+1,t.heap.objs.size],_,_,m,rfl,G.kept (t':=t.toks) hk,cL (t.heap.objs.size+1) t.heap.objs.size l (Nat.succ_ne_self _),#[#[_,b1],n],λb hb=>?_,q];have hle:t.heap.objs.size<=b:=by
   simp only[yX,xW,or_false] at hb;rcases hb with rfl | rfl;. exact c0X _ _
   . exact zR _
 exact G.fpOk hle (G.hok.fresh hle)
end
end L2
namespace DL
open PySem PySem.Spec L2
section
theorem r9 (h:DA K j ρ M λxs M1=>∃as,xs=[.d (.tuple as)]/\QI (OS as) M1):DI K (r8 K j) ρ M QI:=λB H R X k=>
 h B H _ X λU g xs M1 N O I G=>by
   obtain⟨as,e,q⟩:=G;subst e;obtain⟨v,r,rfl,h1,J⟩:=O;cases J;unfold SI DV at h1;obtain⟨a,c,rfl,m,hd⟩:=h1;have f:(OS as).length=as.length:=by unfold OS;rw[zX,List.length_zipIdx]
   refine#[a,rfl,#[c,m.sq],k _ (OS as) g M1 N I #[λi H' n hi b t=>?_,λH' n b t=>?_,λi H' n x L b t hi y=>?_] q];. rw[f] at hi;exact#[c,(m.grow t.grow).sq,by rw[hd.length];lia]
   . refine#[c,(m.grow t.grow).sq,?_];rw[f,hd.length];lia
   . obtain⟨p,D,hp,rfl,rfl,hy⟩:=y;have z:=hy c (m.grow t.grow).sq;obtain⟨u,T,Q⟩:=hd.get z;have S:Grow K n.W n.W H' (upd H' p (.tup [.int (i:Nat),D])):=B0 _ hp;refine#[b.new hp,#[S],.tuple [.int (i:Nat),u],?_,?_];. unfold OS;rw[zF,List.getElem?_zipIdx,T];simp
     . unfold DV;exact#[p,_,rfl,.inl #[λw=>w (b.none hp),.inl AE],DVs.cons (by unfold DV;rfl) (DVs.cons ((Q.grow t.grow).grow S) DVs.nil)]
end
end DL
namespace DL
open PySem PySem.Spec L2 XC
structure rowP (w:List Th) (Ds:List Deed):Prop where
 fine:DY w
 book:BC w Ds
 few:w.length+Ds.length < 60
def EW (w:List Th) (Ds:List Deed):List DS:=[.d (wD w),.d (.tuple (Ds.map Deed.d))]
theorem GA (e:EW w Ds=EW f u):w=f/\Ds=u:=by
 unfold EW at e;simp only[List.cons.injEq,DS.d.injEq,PyData.tuple.injEq,and_true] at e;refine#[NU e.1,?_];have:=e.2;clear e;induction Ds generalizing u with
 | nil=>cases u with | nil=>rfl | cons _ _=>cases this
 | cons a r U=>cases u with
   | nil=>cases this
   | cons b s=> simp only[zI,List.cons.injEq] at this;rw[CT this.1,U this.2]
end DL
namespace DL
open PySem PySem.Spec L2
theorem rA (h:rowP w Ds):DY (DF w Ds)/\(DF w Ds).length<=w.length+Ds.length:=by have:=K6 h.book h.fine h.few (zR _);rw[show wsF w Ds Ds.length=DF w Ds by unfold wsF;rw[a1Q]] at this;exact#[this.1,this.2.1]
end DL
namespace L2
open PySem PySem.Spec PyProof.Rows
def A0c (i r iter:bp) (ifs:List bp) (dp:Nat) (em:Sem Fin->Sem Fin) (it acc:ao) (env:i3):Sem Fin:=do
 standAt iter.pos
 match <- pyNext it with
 | none=>pure (.done .next)
 | some v=>
   letOwnedTupleGo r it v
   ko r env v
   let mut ok:=ap
   for c in ifs do
     if ok then ok <- isTrue c env (eval c env)
   if ok then em (again (.compLoop i dp it acc env)) else again (.compLoop i dp it acc env)
def rB (prog:bn) (w:bj) (A:ca) (i target:bp) (ifs:List bp) (dp:Nat) (tl:i3->Addr->(aq->Prop)->aq->Prop):Prop:=∀(L D:Addr) (env:i3) (R:Result->aq->Prop) (I:Nat->aq->Prop),(∀n s,I n s->wpAny (model prog w) A (pyNext (.ref L)) (λr z=>match r with
     | none=>R (.ok .next) z
     | some v=>wpAny (model prog w) A (letOwnedTupleGo target (.ref L) v) (λ_ h=>wpAny (model prog w) A (ko target env v) (λ_ G=>
         wpAny (model prog w) A (LA ifs env) (λok e=>if ok=ap then tl env D (λs'=>∃m,m < n/\I m s') e else ∃m,m < n/\I m e) (λ_ _=>False) G) (λ_ _=>False) h) (λ_ _=>False) z) (λ_ _=>False) s) ->
   ∀n s,I n s->codeAny (model prog w) A (.compLoop i dp (.ref L) (.ref D) env) R s
theorem rC {em:Addr->i3->Sem Fin->Sem Fin} (he:∀it D env,compTurn (.ListComp elt gens scope pos) dp (.ref it) (.ref D) env=A0c (.ListComp elt gens scope pos) target iter ifs dp (em D env) (.ref it) (.ref D) env) (U:∀env D P s k Q E,tl env D P s->(∀s',P s'->wpAny (model prog w) A k Q E s')->wpAny (model prog w) A (em D env k) Q E s):rB prog w A (.ListComp elt gens scope pos) target ifs dp tl:=by
 intro it D env R I turn n s h;refine codeAny_loop rfl I (λn s hI=>?_) n h;show wpAny _ A ((compTurn (.ListComp elt gens scope pos) dp (.ref it) (.ref D) env).onRaise (λx=>do g0 x env;theTreesLotGoes x)) _ _ s;refine wpAny_noted ?_;rw[he];unfold A0c;refine zZ (bv (zZ (bg (AO (turn n s hI)) (λr z b=>?_) λ_ _ p=>p)));cases r with
 | none=>exact zY b
 | some v=>
   refine zZ (bg (AO b) (λ_ i g=>?_) λ_ _ p=>p);refine zZ (bg (AO g) (λ_ G t=>zZ (bg (AO t) (λok m e=>?_) λ_ _ p=>p)) λ_ _ p=>p);cases ok with
   | false=>exact zY #[rfl,e]
   | true=>exact U _ _ _ _ _ _ _ e λX Y=>zY #[rfl,Y]
def tlC (prog:bn) (w:bj) (A:ca) (i e:bp):i3->Addr->(aq->Prop)->aq->Prop:=λenv D P s=>
 wpAny (model prog w) A (eval e env) (λx z=>wpAny (model prog w) A (pyIter x) (λL G=>codeAny (model prog w) A (.compStart i 1 L (.ref D) env) (λr s'=>match r with | .ok _=>P s' | .error _=>False) G) (λ_ _=>False) z) (λ_ _=>False) s
section
theorem A2T (hs:∀env x,ce aj env x=pure x):V5 prog w A (.ListComp elt [#[tg,iter,[],0],#[kq,aj,[],0]] scope pos) tg [] (tlC prog w A (.ListComp elt [#[tg,iter,[],0],#[kq,aj,[],0]] scope pos) aj):=by
 refine rC (iter:=iter) (dp:=0) (em:=λD env k=>do
           let x <- eval aj env
           standAt aj.pos
           let x <- ce aj env x;let _ <- runOwn (.compStart (.ListComp elt [#[tg,iter,[],0],#[kq,aj,[],0]] scope pos) 1 (<- holding [x] (pyIter x)) (.ref D) env) env
           k) (λL D env=>rfl) λenv D P s k Q E h hk=>?_;refine zZ (thn (AO h) λx z b=>zZ (bv (zZ (fz (hs env x) (zZ (bt (thn (AO b) λL G t=>?_)))))));refine zZ (wpAny_runOwn (xN t λr s' hr=>?_));cases r with
 | ok f=>exact hk _ hr
 | error e=>exact hr.elim
theorem rD:rB prog w A (.ListComp elt [#[tg,iter,[],0],#[kq,aj,[],0]] scope pos) kq [] 1 (tlL prog w A elt):=by refine rC (iter:=aj) (em:=λD env k=>(do let _ <- call (.builtin "list.append") [.ref D,<-eval elt env]) >>= λ_=>k) (λL D env=>rfl) λenv D P s k Q E h hk=>?_;exact zZ (zZ (thn (AO h) λx X Y=>zZ (thn (AO Y) λ_ e G=>zY (hk _ G))))
theorem jV  (S:codeAny (model prog w) A (.compLoop (.ListComp elt [#[tg,iter,[],0],#[kq,aj,[],0]] scope pos) 1 it acc env) R s) (h:wpAny (model prog w) A (pyIter it) (λz s'=>codeAny (model prog w) A (.compLoop (.ListComp elt [#[tg,iter,[],0],#[kq,aj,[],0]] scope pos) 1 z acc env) R s') (notedBy (model prog w) A env λx s'=>R (.error x) s') s) :
   codeAny (model prog w) A (.compStart (.ListComp elt [#[tg,iter,[],0],#[kq,aj,[],0]] scope pos) 1 it acc env) R s:=by
 refine codeAny_of_tree ?_;show wpAny _ _ ((compStart (.ListComp elt [#[tg,iter,[],0],#[kq,aj,[],0]] scope pos) 1 it acc env).onRaise (λx=>do g0 x env;standAt theWindowsPlace)) _ _ s;refine wpAny_notedAt ?_;unfold compStart;show wpAny _ _ (ask >>= _) _ _ s;refine zZ (wpAny_askSetting (wpAny_ite ?_));split
 . first
     | exact zZ (zY (zY (And.intro rfl S)))
     | exact zY (And.intro rfl S)
 . first
     | exact zZ (db (zZ (bv (zZ (bg h (λz s' p=>zY (And.intro rfl p)) λ_ _ x=>x)))))
     | (refine zZ (db ?_);show wpAny _ _ (standAt aj.pos >>= _) _ _ s;exact zZ (bv (zZ (bg h (λz s' p=>zY (And.intro rfl p)) λ_ _ x=>x))))
end
def A2U (k:TI) (j:TG) (q:TE):Addr->Nat->(Nat->List V->Hp->Prop)->St->Hp->Prop:=λD n W p H=>k p H λJ g=>∃r:Nat->Nat->Hp->Prop,(∃m,r 0 m g) /\∀i m f,r i m f->(J.stop i f/\∃e u,e < n/\W e u f)\/(J.go i f/\∀x b,J.yld i f x b->j x p b λt h=>
   (∀(i:Nat) v,p[i]?=al (al v)->t[i]?=al (al v))/\q t h λy c=>∃M,c D=al (.lst M)/\M.length < aB/\∃e,e < m/\r (i+1) e (upd c D (.lst (M++[y]))))
def rE (v:List (Option Nat)) (X:TI) (g:TG) (n:TI) (t:TG) (e:TE):TE:=A0Q v X g u0 [] .lst (A2U n t e)
section
variable {X:Cx}{scope:fc}{NC:List Str}{fr:List (Option Nat)}{elt iter tg aj kq:bp}{pos:ew}{wi sh:TI}{g g1:TG}{te:TE}
theorem jW (hx:Y.xe=λ_ _=>False) (hc:Y.calm=ap) (hi:PI Y kq aj sh) (hg:PG Y kq g1) (he:PE Y elt te) {t:St} (I:Inv Y pn t H s) (q:A2U sh g1 te D n W t H) (k:∀m y j f,m < n->W m y j->Inv Y pn t j f->P f):tlC Y.prog Y.w Y.A (.ListComp elt [#[tg,iter,[],0],#[kq,aj,[],0]] scope pos) aj Y.env D P s:=by
 have hi':=hi pn s t H _ I q;rw[hx] at hi';refine thn hi' λv s1 h1=>thn h1 λCe f h2=>?_;obtain⟨it,N,tn,J,j,e,I2,T,U,Q,L,⟨m0,w0⟩,turn⟩:=h2;subst e;have stat:∀{H':Hp},(∀b∈N,H' b=am)->∀b∈N,MC Y pn H' b:=λhn b hb=>#[hn b hb,(Q b hb).2]
 have loop:codeAny (model Y.prog Y.w) Y.A (.compLoop (.ListComp elt [#[tg,iter,[],0],#[kq,aj,[],0]] scope pos) 1 (.ref it) (.ref D) Y.env) (λr s'=>match r with | .ok _=>P s' | .error _=>False) f:=by
   refine rD _ _ _ _ (λn s'=>∃i H',Inv Y pn t H' s'/\tn i s'.heap/\(∀b∈N,H' b=am)/\L i n H') ?_ m0 _ #[0,_,I2,U,λb hb=>(Q b hb).1,w0];rintro n s3 ⟨i,c,G,Z,z_,w3⟩;rcases turn i n c w3 with ⟨stop,p,ys,hm,wn⟩ | ⟨go,step⟩
   . refine thn (T.done Y rfl rfl rfl hc i pn s3 t c _ G (stat z_) Z stop) ?_;rintro r s4 ⟨hr,I4⟩;subst hr;exact k p ys c s4 hm wn I4
   . refine thn (T.item Y rfl rfl rfl hc i pn s3 t c _ G (stat z_) Z go) ?_;rintro r s4 ⟨u,hr,h4⟩;subst hr;refine thn h4 ?_;rintro _ s5 ⟨x,B,I5,r5,y5,O,yz⟩;have Dl:=I5.pinned (stat yz) (T.obj _ _ O);have S:=hg _ s5 t B x u _ Dl r5 (step x B y5);rw[hx] at S;refine thn S ?_;rintro _ s6 ⟨z,H6,I6,Fb,q6⟩;refine wpAny_tests_nil (if_pos rfl▸?_);have M:=he _ s6 z H6 _ I6 q6;rw[hx] at M;refine thn M ?_;rintro y s7 ⟨yv,H7,I7,r7,bw,hD,hsz,p,wa,w'⟩;have ha:=NJ _ s7 z H7 (.ref D) [yv] (.ref D) [y] (λ_ H'=>∃p,p < n/\L (i+1) p H') I7 rfl (.cons r7 .nil) #[_,bw,yv,rfl,rfl,hD,hsz,p,wa,w'];rw[hx] at ha;refine thn ha ?_;rintro _ s8 ⟨_,H8,h,_,Al,xy,Dz⟩;refine#[Al,xy,i+1,H8,h.unpinned.weak (by rw[h.len,I.len]) Fb,T.keep _ _ _ O λb hb o e=>(h.pin (b,o) (zB _ (zB _ (E1 hb e)))).1,λb hb=>?_,Dz];obtain⟨o,e,d⟩:=T.obj _ _ O b hb;exact(h.pin (b,o) (zB _ (zB _ (E1 hb e)))).2.1
 exact jV loop (T.self _ 0 _ _ _ U loop)
theorem rF (hc:X.calm=ap) (S:CSc X scope NC fr) (hi:PI X tg iter wi) (hb:∀(C:Addr) (s:aq) (H:Hp) (e:List Addr) (pn:List (Addr×cE)),PG (AW X scope NC C s H e pn) tg g/\PI (AW X scope NC C s H e pn) kq aj sh/\PG (AW X scope NC C s H e pn) kq g1/\PE (AW X scope NC C s H e pn) elt te) (hs:∀x,ce iter X.env x=pure x:=by intro _;rfl) (i:∀env x,ce aj env x=pure x:=by intro _ _;rfl):PE X (.ListComp elt [#[tg,iter,[],0],#[kq,aj,[],0]] scope pos) (rE fr wi g sh g1 te):=by
 intro pins s t H Q I h;rw[eval_ListComp];refine NM (use:=am) (Q:=Q) (y0:=[]) (at_:=.lst) (Ty:= "list") (dt:=.seq #[]) (tl:=tlC X.prog X.w X.A (.ListComp elt [#[tg,iter,[],0],#[kq,aj,[],0]] scope pos) aj) (el:=A2U sh g1 te) rfl rfl (by size_fits) (λH h _=>#[xT _,[],0,.nil,yZ _ rfl]) (A2T i) codeAny_compStart_list hc S hi (λC s H e pn=>#[(hb C s H e pn).1,dQ,λvp s' t H' D n W P I q k=>?_]) I h (λD C H' s' m z L hn q back _ p r=>?_) hs;. exact jW (Y:=AW X scope NC C s H e pn) rfl hc (hb C s H e pn).2.1 (hb C s H e pn).2.2.1 (hb C s H e pn).2.2.2 I q k
 . exact#[.ref D,H',back pins t H' s' p L r,rfl,q]
end
end L2
namespace DL
open PySem PySem.Spec L2
theorem jX {e t:Type}(F:e->List t) {l:List e}{i:Nat}{d:e}(h:l[i]?=al d):(l.take (i+1)).flatMap F=(l.take i).flatMap F++F d:=by rw[a1V,h,b0K];simp
theorem rG {t n:Type}(F:t->List n) (l:List t) (i:Nat):((l.take i).flatMap F).length<=(l.flatMap F).length:=by
 have e:(l.take i).flatMap F++(l.drop i).flatMap F=l.flatMap F:=by rw[<-b0K,b1V]
 rw[<-e,yY];exact c0X _ _
section
theorem fT {N:Own}:(N.del A).Sub N:=λb o q=>by
 unfold Own.del at q;by_cases hb:b=A;. rw[if_pos hb] at q;cases q
 . rw[if_neg hb] at q;exact q
theorem rH (ho:J5 g T) (hT:∀i∈T,∀j,v[i]?≠al (al j)) (Cv:J5 g1 T1) (hT1:∀i∈T1,i∉T/\∀j,v[i]?≠al (al j)) (h:DI K wi ρ M λds M1=>∃(r:PyData->List PyData) (f:PyData->PyData->PyData),(ds.flatMap λd=>(r d).map (f d)).length < aB/\(∀d∈ds,∀n,DG K g d (G4 v ρ) n λX M2=>M2=n/\DI K sh X M2 λes M3=>M3=n/\es=r d/\∀e∈es,∀n,DG K g1 e X n λb M4=>M4=n/\DE K te b M4 λy M5=>y = .d (f d e)/\M5=n)/\Q (.d (.list (ds.flatMap λd=>(r d).map (f d)))) M1) :
   DE K (rE v wi g sh g1 te) ρ M Q:=λσ H QQ R k=>
 h σ H _ R λJ ds H1 M1 Y t1 wd cw=>by
   obtain⟨r,f,hsz,he,q⟩:=cw;intro A hA;obtain⟨oA,sA⟩:=PF Y hA (DVs.nil (K:=K) (H:=H1) (W:=M1.W));generalize hF:(λd=>(r d).map (f d))=F at hsz q;refine#[λi m ys t=>m=ds.length - i/\i<=ds.length/\t A=al (.lst ys)/\OA K t (M1.put A (.l ((ds.take i).flatMap F)))/\Step K M1 (M1.put A (.l ((ds.take i).flatMap F))) H1 t,#[_,rfl,xT _,AE,oA,sA],?_];rintro i m ys t ⟨rfl,hi,wg,D,I⟩;refine#[wg,?_];by_cases bx:i < ds.length
   . refine .inr #[wd.go i t _ bx D I,λx H3 y=>?_];obtain⟨yb,gb,d,e1,e2⟩:=wd.yld i t _ x H3 D I bx y;have Rc:Rel K _ (G4 v ρ) (L2.capt v σ) H3:=((R.step Y t1).step yb (I.trans gb)).capt;refine ho _ _ _ _ (he d (yN e1) _ (L2.capt v σ) H3 x _ Rc e2 λb M3 U H4 R3 ig #[eM,b3] hext=>#[λu v' O=>?_,?_]);. obtain⟨j,r,f2⟩:=F0 O;rw[hext u λhm=>hT u hm j r];exact O
     . subst eM;unfold u0;refine L2.hU ?_;refine b3 U H4 _ R3 ?_;rintro J1 es H5 M5 o5 t5 Z ⟨El,Nf,mf⟩;subst El;have Ha:F d=es.map (f d):=by rw[<-hF,Nf]
       have Hb:=jX F e1;have Nb:((ds.take i).flatMap F).length+es.length < sizeLine:=by have:=rG F ds (i+1);rw[Hb,yY,Ha,zX] at this;lia
       refine#[λj m c=>m=es.length - j/\j<=es.length/\OA K c (M1.put A (.l ((ds.take i).flatMap F++(es.take j).map (f d))))/\Step K (M1.put A (.l ((ds.take i).flatMap F))) (M1.put A (.l ((ds.take i).flatMap F++(es.take j).map (f d)))) H5 c,#[_,rfl,xT _,by simpa using o5,by simpa using Step.refl],?_];rintro j m c ⟨rfl,hj,S,p⟩;by_cases hjl:j < es.length
       . refine .inr #[Z.go j c _ hjl S p,λx1 H7 y1=>?_];obtain⟨Ng,wx,e,Hc,Ej⟩:=Z.yld j c _ x1 H7 S p hjl y1;have R7:Rel K _ b U H7:=R3.step Ng ((t5.trans p).trans wx);refine Cv _ _ _ _ (mf e (yN Hc) _ U H7 x1 _ R7 Ej λρ4 M8 σ4 H8 R8 st8 #[Nh,b8] hext1=>#[λu v' O=>?_,?_])
         . rw[hext1 u λhm=>?_];. exact O
           . obtain⟨hn,hc⟩:=hT1 u hm;rw[hext u hn] at O;obtain⟨j',Ni,_⟩:=F0 O;exact hc j' Ni
         . subst Nh;refine b8 σ4 H8 _ R8 ?_;rintro y H9 z M9 o9 s9 Nj ⟨ez,Nk⟩;subst ez Nk;obtain⟨L,G,B⟩:=o9 A _ zU;obtain⟨w1,w2⟩:=GQ o9 zU (B.append (DVs.cons s9 DVs.nil));rw[yI] at w1 w2;have e3:(ds.take i).flatMap F++(es.take j).map (f d)++[f d e]=(ds.take i).flatMap F++(es.take (j+1)).map (f d):=by rw[a1V,Hc,List.append_assoc];simp
           rw[e3] at w1 w2;refine#[L,G,?_,es.length - (j+1),by lia,rfl,hjl,w1,(((p.trans wx).trans st8).trans Nj).trans w2];rw[B.length,yY,zX,a0J];lia
       . have e:j=es.length:=by lia
         subst e;obtain⟨L,G,B⟩:=S A _ zU;rw[a1Q,<-Ha,<-Hb] at S p;exact .inl #[Z.stop c _ S p,ds.length - (i+1),L,by lia,rfl,bx,G,S,(((I.trans gb).trans ig).trans t5).trans p]
   . have e:i=ds.length:=by lia
     subst e;refine .inl #[wd.stop t _ D I,?_];obtain⟨L,G,B⟩:=D A _ zU;have e4:=yG (o:=.l ((ds.take ds.length).flatMap F)) (Y.none hA);have cc:Step K (M1.put A (.l ((ds.take ds.length).flatMap F))) M1 t t:=by
       have:=(#[B8 (fT (N:=M1.put A (.l ((ds.take ds.length).flatMap F))) (A:=A))]:Step K _ _ t t)
       rwa [e4] at this
     have Nl:OA K t M1:=by have:=D.sub (fT (A:=A));rwa [e4] at this
     refine k _ t (.d (.list (ds.flatMap F))) M1 Nl ?_ ((t1.trans I).trans cc) q;unfold SI DV;rw[a1Q] at B cc;exact#[A,L,rfl,.inl #[λw=>w (Y.none hA),.inl G],B.grow cc.grow]
end
end DL
namespace DL
open PySem PySem.Spec L2 XC
theorem ZF {e t:Type}{F:e->List t}{n:Nat}:∀{l:List e},(∀x∈l,(F x).length<=n)->(l.flatMap F).length<=l.length*n
 | [],_=>by simp
 | x::r,h=>by rw[a9K,yY,yR,Nat.succ_mul];have:=ZF (l:=r) λy hy=>h y (yV _ hy);have:=h x (by simp);omega
end DL
namespace DL
open PySem PySem.Spec L2 XC
def bkS (w:List Th):List Deed->List Deed
 | []=>[]
 | D::r=>B4 w D::bkS (BN w D) r
section
theorem fU:∀{A B:List Deed}{w:List Th},bkS w (A++B)=bkS w A++bkS (DF w A) B
 | [],_,_=>rfl
 | D::A,B,w=>by show _::bkS (BN w D) (A++B)=_;rw[fU (A:=A)];rfl
theorem fV:∀{A B:List Deed}{w:List Th},DF w (A++B)=DF (DF w A) B
 | [],_,_=>rfl
 | D::A,B,w=>fV (A:=A)
theorem RR:∀{A B:List Deed}{w:List Th},BC w (A++B)↔BC w A/\BC (DF w A) B
 | [],_,_=>by simp[BC,DF]
 | D::A,B,w=>by show goD w D/\BC (BN w D) (A++B)↔(goD w D/\BC (BN w D) A)/\BC (DF (BN w D) A) B;rw[RR (A:=A),and_assoc]
theorem fW:∀{Ds:List Deed}{w:List Th},(bkS w Ds).length=Ds.length
 | [],_=>rfl
 | D::r,w=>by show(bkS (BN w D) r).length+1=_;rw[fW (Ds:=r)];rfl
theorem A0d:∀{Ds:List Deed}{w:List Th},bkL w Ds Ds.length=(bkS w Ds).map Deed.d
 | [],_=>rfl
 | D::r,w=>by unfold bkL;rw[yR,List.range_succ_eq_map,zI,zD];show bkF w (D::r) 0::_=(B4 w D).d::(bkS (BN w D) r).map Deed.d;rw[<-A0d (Ds:=r)];rfl
theorem ZG:∀{Ds:List Deed}{w:List Th},DY w->BC w Ds->w.length+Ds.length < 60 ->
   BC (DF w Ds) (bkS w Ds).reverse/\DF (DF w Ds) (bkS w Ds).reverse=w/\bkS (DF w Ds) (bkS w Ds).reverse=Ds.reverse
 | [],w,_,_,_=>#[trivial,rfl,rfl]
 | D::r,w,i,hb,n=>by rw[yR] at n;obtain⟨b1,j,t,c,y⟩:=YH i hb.1 (by lia);obtain⟨m,e,p⟩:=ZG (Ds:=r) (w:=BN w D) c hb.2 (by unfold BN;lia);show BC (DF (BN w D) r) (B4 w D::bkS (BN w D) r).reverse/\DF (DF (BN w D) r) (B4 w D::bkS (BN w D) r).reverse=w/\bkS (DF (BN w D) r) (B4 w D::bkS (BN w D) r).reverse=_;rw[b2K,b2K];refine#[UD m (by rw[e];exact b1),by rw[RA,e];exact j,?_];rw[fU,e,p];show _++[B4 (BN w D) (B4 w D)]=_;rw[show B4 (BN w D) (B4 w D)=D from t]
end
end DL
namespace L2
open PySem PySem.Spec PyProof.Rows
open AutoSeq1 (wpAny_loadPart')
theorem P5 (I l:Addr) (items:Array ao) (t:l≠I) (hn:items.size<=aB) :
   Meets (Builtin.«tuple.__new__» #[[.type "tuple", .ref I],[]]) (λA R s=>A.handled=am/\s.heap.IsRevIter I l ((items.size:Int) - 1)/\s.heap.IsList l items/\∀s':aq,(∀b o,b≠I->s.heap.get? b=al o->s'.heap.get? b=al o)->s'.gens=s.gens->s'.drawn=s.drawn->s'.os=s.os->R (.ok (.ret (.ref s'.heap.objs.size))) { s' with heap:=s'.heap.push { cls:=.type "tuple", data:=.seq items.toList.reverse.toArray } }):=
 .of_wp λprog w A R s h=>by
   obtain⟨Q,u,r,h⟩:=h;have m:=sub_tuple_self;have M:=init_tuple_lookup;have D:=madeHere_tuple;have n:=u.typeIs;have e:A.in1.handled=none:=Q;obtain⟨o,ho,_⟩:=id u;obtain⟨hp,g,d,c,p⟩:=s
   wp_walk using eH ho,eo n,YN e t u r hn
   intro s' x z i Y;show wpAny _ _ (a2K items.toList.reverse.toArray >>= λv=>ret v) _ _ _;unfold a2K;refine zZ (xM ?_ (show items.toList.reverse.toArray.size<=aB by simpa using hn));exact zY #[_,rfl,h s' x z i Y]
section
theorem RS (hh:A.handled=am) (e:l≠I) (hit:s.heap.IsRevIter I l ((items.size:Int) - 1)) (r:s.heap.IsList l items) (hn:items.size<=aB) (h:∀s':aq,(∀b o,b≠I->s.heap.get? b=al o->s'.heap.get? b=al o)->s'.gens=s.gens->s'.drawn=s.drawn->s'.os=s.os->Q (.ref s'.heap.objs.size) { s' with heap:=s'.heap.push { cls:=.type "tuple", data:=.seq items.toList.reverse.toArray } }) :
   wpAny (model prog w) A (call (.type "tuple") [.ref I]) Q E s:=
 callType_new F.called_tuple (by decide) (F.typeCall_tuple_1 _) (F.newCall_tuple_1 _) (λobj=>F.args_object_init_2 obj _) F.entry_tuple_new
   (P5 I l items e hn) #[hh,hit,r,λs' x z g Y=>#[#[_,yZ _ rfl,rfl],h s' x z g Y]]
end
section
variable {X:Cx}{K:Frg}
theorem rJ:∀{xs:List V}{e:List ao},Vals xs e->Vals xs.reverse e.reverse:=λ{xs e} h=>by
 have n:∀{xs:List V}{e:List ao},Vals xs e->∀{as:List V}{bs:List ao},Vals as bs->Vals (xs.reverseAux as) (e.reverseAux bs):=by
   intro xs e h;induction h with
   | nil=>intro as bs q;exact q
   | cons r t U=>intro as bs q;exact U (.cons r q)
 exact n h .nil
def fX (K:Frg) (e:TE):TE:=λi H Q=>T9 e tK i H λn m=>∃(l:Addr) (t:List V),n=[.ref l]/\SqL K m l t/\∀p,m p=am->Q (.ref p) (upd m p (.tup t.reverse))
theorem jY {e:bp}{x:TE}{L t pos Z:ew}(hk:X.K=K) (he:PE X e x) (hh:X.A.handled=am) (hg:Gl X "reversed") (M:X.mg "reversed"=am) (z:Gl X "tuple") (zh:X.mg "tuple"=am) (hs:starEach [.Call (.Name "reversed" L) [e] [] t] X.env=[(aw,eval (.Call (.Name "reversed" L) [e] [] t) X.env)]:=by rfl) (c:starEach [e] X.env=[(aw,eval e X.env)]:=by rfl) :
   PE X (.Call (.Name "tuple" Z) [.Call (.Name "reversed" L) [e] [] t] [] pos) (fX K x):=by
 subst hk;intro pins s m H Q I h;refine cR (IX I z zh boot_tuple ?_);refine xH ?_ hs rfl;rw[hs];show wpAny _ _ (spliced ((aw,eval (.Call (.Name "reversed" L) [e] [] t) X.env)::backTo pos (starEach [] X.env))) _ _ _;refine xP ?_;refine cR (IX I hg M boot_reversed ?_);refine xH (thn ((PB he aS c) t pins s m H _ I h) λus v G=>?_) c rfl;obtain⟨vs,f,g,r2,l,xs,T,S,q⟩:=G;subst T;obtain⟨u,rfl,ru⟩:=GM r2;cases ru;obtain⟨n,k,i,hsz⟩:=g.list S;refine call_reversed_list i.isList ?_;show wpAny _ _ (spliced []) _ _ _;refine zY ?_;have D:l < v.heap.objs.size:=by obtain⟨o,ho,_⟩:=i.isList;exact zM ho
 have hle:n.length<=sizeLine:=by rw[<-k.length];exact hsz
 refine RS (l:=l) (items:=n.toArray) hh (zC D) #[_,yZ _ rfl,rfl,rfl] (i.isList.at λo O=>zW _ O) (by simpa using hle) λs' B J U Y=>?_;obtain⟨p,g',d',r,Cf⟩:=s';cases J;cases U;cases Y;have N:Inv X pins m f { v with heap:=p,toks:=r }:=g.kept λb u j=>B b u (zC (zM j)) (zW _ j);have y:Inv X pins m (upd f p.objs.size (.tup xs.reverse)) { v with heap:=p.push { cls:=.type "tuple", data:=.seq n.toArray.toList.reverse.toArray },toks:=r }:=
   N.laid (t':=r) (λb o e=>zW _ e) (zR _) (show ObjOk X.prog X.w _ _ _ (.tup _) from #[by rw[b0J];exact hsz,n.reverse,rJ k,c0K _ _]);exact#[.ref p.objs.size,_,y,rfl,q _ (N.hok.fresh (zR _))]
end
end L2
namespace DL
open PySem PySem.Spec L2
section
theorem wR (h:DVs K H W ds vs):DVs K H W ds.reverse vs.reverse:=by
 have e:∀{ds:List PyData}{vs:List V},DVs K H W ds vs->∀{as:List PyData}{bs:List V},DVs K H W as bs->DVs K H W (ds.reverseAux as) (vs.reverseAux bs):=by
   intro ds;induction ds with
   | nil=>intro vs h as bs q;cases h;exact q
   | cons d r U=> intro vs h as bs q;obtain⟨v,t,rfl,h1,n⟩:=h;exact U n (DVs.cons h1 q)
 exact e h DVs.nil
end
end DL
namespace DL
open PySem PySem.Spec L2
section
theorem SW (ho:J5 g T) (hT:∀i∈T,∀j,x[i]?≠al (al j)) (h:DI K wi ρ M λds M1=>ds.length < aB/\∃(c:PyData->Bool) (f:PyData->PyData),(∀d∈ds,∀A acc e,M1 A=am->e=M1.put A (.l acc)->DG K g d (G4 x ρ) e λr m=>m=e/\DT K L r m λb p=>p=e/\b=c d/\(c d=ap->DE K B r p λy I=>y = .d (f d)/\I=e))/\∀A,M1 A=am->Q (.loc A) (M1.put A (.l ((ds.filter c).map f)))) :
   DE K (OI x wi g L B) ρ M Q:=by
 refine pR ho hT λz H R Rl k=>h z H R Rl λJ ds X M1 o1 t1 wd q=>k J ds X M1 o1 t1 wd ?_;obtain⟨hsz,c,f,he,q⟩:=q;refine#[hsz,λA hA=>#[λk acc e=>acc=((ds.take k).filter c).map f/\e=M1.put A (.l acc),#[by simp,rfl],λk acc e #[n,t]=>#[by rw[t];exact zU,?_],λk d acc e hd #[n,t]=>?_,λacc e #[n,t]=>?_]];. rw[n,zX];exact zN (yJ _ _) (by rw[a0J];lia)
 . have hm:d∈ds:=yN hd;intro z H v QQ R dv kk;refine he d hm A acc e hA t z H v QQ R dv λD m N H' R' st cw=>kk D m N H' R' st λO Y QQ2 R2 k2=>?_;obtain⟨eM,q2⟩:=cw;refine q2 O Y QQ2 R2 λb Z p o3 gb tw=>k2 b Z p o3 gb ?_;obtain⟨U,u,q3⟩:=tw;have G:(ds.take (k+1)).filter c=(ds.take k).filter c++(if c d then [d] else []):=iv c ds k d hd;cases hb:c d with
   | false=> rw[hb] at u;subst u;refine L2.m5 #[?_,by rw[U,t]];rw[G,hb,n];simp
   | true=>
     rw[hb] at u;subst u;refine L2.hU ?_;refine V8 (q3 hb) λy I #[ey,S]=>#[f d,ey,by rw[S,t];exact zU,?_,by rw[S,t,yI]]
     rw[G,hb,n];simp
 . rw[t,n,a1Q];exact q A hA
end
end DL
namespace DL
open PySem PySem.Spec L2 XC
section
theorem ZH:∀{Ds:List Deed}{w:List Th},BC w Ds->∀D∈Ds,D.real
 | D::r,w,h,E,hE=>by
   rcases yX.mp hE with rfl | hE;. exact h.1.2.1
   . exact ZH h.2 E hE
end
end DL
namespace XC
open PySem PySem.Spec L2
open PyProof.Rows (envOfC AllBare)
structure RoomA (k:Nat) (A:ca):Prop where
 dp:A.depth+3*k+5 < recursionLimit
 un:A.units+16*k+200 < ej
theorem RoomA.of (r:Room k A):RoomA k A:=#[r.dp,r.un]
theorem RoomA.make (r:RoomA (k+1) A) (C:Addr) (t:List ao) (e:List (Str×ao)):RoomA k (A.under (.builtin "type.__call__" #[.ref C::t,e])):=#[by rw[Q4];have:=r.dp;lia,by rw[Q5];have:=r.un;lia]
structure FnOkA (P:bn) (w:bj) (K:Frg) (mg:Str->Option ao) (base:cr) (k:Nat) (f:Addr) (fd:dV) (ps:List Str) (sp:Sp):Prop where
 len:∀vs H Q E,sp vs H Q E->vs.length=ps.length
 run:∀(A:ca) (outer:List i3) (s:aq) (H:Hp) (args:Args) (us:List ao) (vs:List V) (Q:VK) (E:XK),RoomA k A->Env0 P w K mg base A outer s H->BindsTo s fd args (ps.zip us)->Vals vs us->sp vs H Q E ->
   codeAny (model P w) A (.call (.ref f) args) (CR CX0 outer P w H s Q E) s
def cxA (P:bn) (w:bj) (K:Frg) (mg:Str->Option ao) (base:cr) (N:List Str) (qual:Str) (scope:fc) (f:Addr) (cd:ao) (A:ca) (outer:List i3) (s:aq) (H:Hp) (E:XK):Cx:={ HN CX0 P w K mg base N qual scope f cd A outer s H E with calm:=aw,xe:=λ_ _=>False }
theorem A2V {P:bn}{w:bj}{K:Frg}{mg:Str->Option ao}{base:cr}{k:Nat}{f:Addr}{name qual:Str}{params:Arguments}{body:List eu}{scope:fc}{g kV doc h cdv ct U:ao}{L X:Option Addr} {osl:Array (Option ao)}{N ps:List Str}{sp:Sp}(G:K.lookup f=al #[U,X,.func (a5Z name qual params body scope g kV doc h L cdv ct),osl]) (B:b0Q K cdv qual=ap) (S:FnScope N ps scope) (len:∀vs H Q E,sp vs H Q E->vs.length=ps.length) (j:∀(A:ca) (outer:List i3) (s:aq) (H:Hp) (vs:List V) (Q:VK) (E:XK),sp vs H Q E->∃t,PSs (cxA P w K mg base N qual scope f cdv A outer s H E) body t/\t { nx:=λ_ H'=>Q .non H',rt:=Q } (DW N vs) H) :
   FnOkA P w K mg base (k+1) f (a5Z name qual params body scope g kV doc h L cdv ct) ps sp:=by
 refine#[len,λA outer s H args Z vs Q E hr D hb r c=>?_];have O:=len _ _ _ _ c;have KX:K.In s.heap:=D.mod.kin.keeps λb o e=>(D.bs b o e).1;have lim:s.heap.NoLimit:=D.mod.nolimit.keeps λb o e=>(D.bs b o e).1;have Y:∀y∈ps.zip Z,scope.names.lookup y.1=al .local\/(scope.names.lookup y.1=al .cell/\((cellsFrom (s.heap.objs.size+1) scope.names []).lookup y.1).isSome=ap):=by
   rintro⟨n,v⟩ hy;rcases S.par n (b4X hy).1 with q | q;. exact .inl q
   . exact .inr #[q,b8K _ _ _ (.inl q)]
 refine codeAny_call_function (by have:=hr.dp;lia) (KX _ _ G) rfl S.co S.gen rfl (PySem.W.codeRec_of KX B) (hb _ _ _ _ ?_);refine wpAny_newFunctionEnv_cells S.kind Y λenv he p x=>?_;subst he;refine#[lim.keeps x.toInCall.keep,codeAny_func ?_];obtain⟨t,M,hq⟩:=j A outer s H vs Q E c;have J:Inv (HN CX0 P w K mg base N qual scope f cdv { A with handled:=am } outer s H E) [] (DW N vs) H p:=TH S rfl #[D.frames,D.mod,D.bs,D.bsz,D.funs,D.frf,D.hok,D.bare] O r x;have I:Inv (cxA P w K mg base N qual scope f cdv A outer s H E) [] (DW N vs) H p:=#[#[J.ok.mod,J.ok.kind,J.ok.glob,J.ok.blt,J.ok.above,J.ok.inj,J.ok.has,J.ok.cab,(λz=>nomatch z),Around.frames_deeper D.frames,J.ok.stk,J.ok.exf,J.ok.bs,J.ok.bsz,J.ok.noex,J.ok.exfs,J.ok.funs,J.ok.frf],J.os,J.bare,J.base,J.loc,J.cell,J.free,J.freeC,J.pin,J.hok,J.len]
 refine bg (M [] p (DW N vs) H _ I hq) (λT s' hs=>?_) λe s' hs=>hs.elim;have fin:∀{i:St}{H':Hp}{v:V}{u:ao},Inv (cxA P w K mg base N qual scope f cdv A outer s H E) [] i H' s'->RelV v u->Q v H'->CE outer P w H s Q u s':=
   λ{i H' v u} J m q=>#[v,H',J.os,J.bare,J.base,J.hok,m,q]
 cases T with
 | ret u=> obtain⟨v,i,H',J,m,q⟩:=hs;exact fin J m q
 | next=> obtain⟨i,H',J,q⟩:=hs;exact fin (v:=V.non) (u:=a1X) J rfl q
 | brk=> obtain⟨_,_,_,q⟩:=hs;exact a6W q
 | cont=> obtain⟨_,_,_,q⟩:=hs;exact a6W q
theorem rK (F:Fun K "__init__" qual st f i) (r:FnScope ["self", pn] ["self", pn] (AB st)) (hb:BE st=[.Assign [.Attribute (.Name "self" n) fn m] (.Name pn O) q]) (c:XCls K C S (.ref f)) (cs:XSet K C fn) (nd:(["self", pn]:List Str).Nodup) (hs:∀env:i3,gt (.Name pn O) (al (.Attribute (.Name "self" n) fn m)) q.line env=pure aw) (b:∀X:Cx,X.N=(["self", pn]:List Str)->X.env.scope=AB st->PE X (.Name "self" n) (X3 0)) (h1:∀X:Cx,X.N=(["self", pn]:List Str)->X.env.scope=AB st->PE X (.Name pn O) (X3 1)):FnOkA P w K mg base 1 f i ["self", pn] (ER C fn):=by obtain⟨x,y,kV,doc,z,L,cdv,T,osl,rfl,j,g⟩:=F.ex;refine A2V (k:=0) j g r (by rintro u H Q E ⟨e,v,t,h,_⟩;rw[h];rfl) λA outer s H u Q E G=>?_;obtain⟨e,v,t,B,he,hq⟩:=G;subst B;rw[hb];refine#[_,MB (f8 (C:=C) (S:=S) (fn:=fn) c cs (b _ rfl rfl) (h1 _ rfl rfl) (hs _)),?_];exact#[v,rfl,.ref e,rfl,e,t,rfl,he,λd hd p=>hq d hd p]
theorem ZI (m:X.stack=X.env::X.outer) (M:X.env.frame=al X.env.locals):PassesOwnAt (model X.prog X.w) (X.A.mark h) X.A X.env (Fly X R):=λe s' k=>by
 obtain⟨a,T,cls,j,Q,p,H,U,rfl,I,⟨x,B⟩,Y,c,y,r⟩:=k;have v:(X.A.mark h).frames=al (X.env::X.outer):=by rw[<-m];exact I.ok.frames
 have u:s'.heap.FunFrames X.base (X.env::X.outer):=by rw[<-m];exact I.stack
 refine JC v u M x B λi n f S D=>?_;have L:(X.env::X.outer).filterMap (·.frame)=frs X.stack:=by rw[m];rfl
 rw[L] at D;have g:Inv X [] p H { s' with heap:=i }:=BU I D λb hb=>by
   rcases yX.mp hb with q | q;. rw[q];exact Y.ch
   . exact(c b (by cases T with | none=>simp at q | some t=>simp at q;rw[q])).ch
 have Z:Loose X H n:=S.elim (λz=>c n z) λz=>Loose.of I z.2 (I.hok.fresh z.2);obtain⟨oe,vs,he,hc,ua,hd,h0,h1,sf,_⟩:=id f;unfold cameBackBy;refine zZ (bf (s:={ s' with heap:=i }) he hd h1 ?_);rw[if_neg (by simp),M];refine RD (s:={ s' with heap:=i }) f λJ G O=>?_;have N:Inv X [] p H { s' with heap:=J }:=BU (s:={ s' with heap:=i }) (ch:=[n]) g (O.mono (λb z=>absurd z (by simp)) λb z=>z) λb hb=>by
   have:b=n:=by simpa using hb
   rw[this];exact Z.ch
 exact#[a,al n,cls,j,Q,p,H,_,rfl,N,#[G,.inr #[by simp,rfl]],Y,λt e=>(by cases e;exact Z),y,r]
theorem SX:entryFor table "proto.unchain"=al Builtin.«proto.unchain»:=entryFor_of_tree (by kernel_rfl)
section
variable {prog:bn}{w:bj}{A:ca}{E:ao->aq->Prop}{nm q:Str}{C N:Addr}{bs bm:List ao}{hdct:Bool}{sn:List Str}{sub:List ao}{ab:Bool}{col:Option Bool}{dd:Option Addr}{k0 k1 k2 k3 k5:Option ao}{newId:String}
abbrev rL (C t a:Addr) (e:Option Addr):Obj:={ cls:=.ref C,dict:=e,data:=.fields (y9 [.ref t,.none,.ref a,.none,.bool ap,.none]) }
theorem cM (hbase:bm.contains (.type "BaseException")=ap) (hh:A.handled=al (.ref a)) (hc:∀(s:aq) (p:ao->aq->Prop),p .none s->wpAny (model prog w) A c p E s) (hx:wpAny (model prog w) A x (λv z=>∃e t n i vs,v = .ref e/\e≠a/\z.heap.get? C=al (excClassObj nm q C N bs bm hdct sn sub ab col dd k0 k1 k2 k3 k5 newId)/\C≠e /\
     z.heap.get? e=al { cls:=.ref C,dict:=n,data:=.fields (y9 [.ref t,.none,.none,.none,.bool aw,.none]) }/\z.heap.get? a=al i/\i.data = .fields vs/\vs[2]?=al .none /\
     ∀h',h'.get? e=al (rL C t a n)->Moved [] [e] z.heap h'->E (.ref e) { z with heap:=h' }) E s) :
   wpAny (model prog w) A (raiseStmt env (al x) (al c)) Q E s:=by
 have S:(a0X C::bm).contains (.type "BaseException")=true:=by rw[a1K,hbase,Bool.or_true]
 unfold raiseStmt;refine zZ (bg hx (λv z b=>?_) λ_ _ x=>x);obtain⟨e,t,n,i,vs,rfl,G,hC,M,he,y,k,u,hE⟩:=b;obtain⟨hp,g,d,I,O⟩:=z;refine zZ (bt (hc _ _ (zZ (zY ?_))));repeat (first | with_reducible refine a0 he ?_ | with_reducible refine a0 hC ?_ | (with_reducible refine bu hC ?_;rw[S]) | wp_step)
 have Z:((y9 [a0X t,.none,.none,.none,.bool aw,.none]):Array ao).size=6:=rfl;have T:=E9 (h:=hp) (a:=e) (·.setIfInBounds 3 a1X) he rfl [];have j:(hp.update e (b2V λx=>x.setIfInBounds 3 a1X)).get? e=al { cls:=.ref C,dict:=n,data:=.fields (y9 [.ref t,.none,.none,.none,.bool aw,.none]) }:=a3Z _ he rfl;have D:=E9 (a:=e) (·.setIfInBounds 4 (Value.bool ap)) j rfl [];have r:((hp.update e (b2V λx=>x.setIfInBounds 3 a1X)).update e (b2V λx=>x.setIfInBounds 4 (Value.bool ap))).get? e=al { cls:=.ref C,dict:=n,data:=.fields (y9 [.ref t,.none,.none,.none,.bool ap,.none]) }:=a3Z _ j rfl;have m:=T.trans D;generalize ((hp.update e (b2V λx=>x.setIfInBounds 3 a1X)).update e (b2V λx=>x.setIfInBounds 4 (Value.bool ap)))=f at r m;have ha2:f.get? a=al i:=m.keep a i y (by simp) (by simp[a4Z G]);unfold raiseNew;refine zZ (wpAny_handled ?_);rw[hh];dsimp only;rw[if_pos (show(a0X a != a0X e)=ap by simp[a4Z G])];refine zZ (bt (wpAny_runValue (ge SX ?_)));show wpAny _ _ (ka (.ref a) 2 >>= _) _ _ _;refine zZ (bf ha2 k u ?_);rw[if_pos (show(a1X==a1X)=ap by decide)];refine(show wpAny _ _ (pure _) _ _ _ from zY ?_);refine zZ (show wpAny _ _ (setField (.ref e) 2 (.ref a)) _ _ _ from dl (s:=#[f,g,d,I,O]) r rfl (by show 2 < 6;decide) (wpAny_throw ?_));refine hE _ (a3Z _ r rfl) (m.trans (E9 (a:=e) (·.setIfInBounds 2 (a0X a)) r rfl []))
end
def wS (K:Frg) (D1 D2:Addr) (cls:ao):Prop:=cls = .ref D1\/cls = .ref D2
def A2W (dd:Option Addr) (H:Hp):Prop:=¬pC dd H
def rM (K:Frg) (D1 D2 C:Addr) (e:(St->XK)->TS) (t:TA) (R:St->XK):TS:=λi r H=>e (λb cls X H'=>wS K D1 D2 cls/\A2W X H' /\∀p,H' p=am->t b (upd H' p (.tup [.ref D1,.ref D2])) λn m=>∃v,n=[v]/\∀d,m d=am->R b (.ref C) (al d) (upd m d (.xd [(a0Q "number", v)]))) i r H
theorem A2X (v:XCls K D1 h i1) (Z:XCls K D2 T i2) (X:K.In s.heap) (he:s.heap.get? e=al i) (hc:i.cls = .ref D1\/i.cls = .ref D2) (y:s.heap.IsTuple p (y9 [.ref D1,.ref D2])) (q:Q ap s):wpAny (model prog w) A (excMatches (.ref e) (.ref p)) Q E s:=by
 obtain⟨nm,q',N,bs,sn,sub,L,col,Y,k0,k1,k2,k3,k5,z⟩:=v.lk;obtain⟨M,D,I,zj,G,S,O,J,jn,j0,j1,j2,j3,j5,k⟩:=Z.lk;obtain⟨hp,g,d,t,os⟩:=s;have hC:=X _ _ z;have hS:=X _ _ k;have B:(a0X D1::a0X h::bmV).contains (.type "BaseException")=true:=by rw[a1K,a1K];simp
 have hb2:(a0X D2::a0X T::bmV).contains (.type "BaseException")=true:=by rw[a1K,a1K];simp
 obtain⟨⟨c,dt,U,sl⟩,ho,b,n,j⟩:=y;simp only at b j;subst b j;have f:=AutoSeq1.sub_tuple_tuple;unfold excMatches;have x:hp.get? e=al i:=he;have r:(a0X D1::a0X h::bmV).contains (.ref D1)=true:=by simp
 have u:(a0X D2::a0X T::bmV).contains (.ref D2)=true:=by simp
 rcases hc with hc | hc
 . repeat (first | with_reducible refine a0 ho ?_ | (with_reducible refine a0 x ?_;rw[hc]) | with_reducible refine a0 hC ?_ | with_reducible refine a0 hS ?_ | (with_reducible refine bu hC ?_;first | rw[B] | rw[r]) | (with_reducible refine bu hS ?_;rw[hb2]) | wp_step)
   exact q
 . by_cases hDD:D1=D2
   . subst hDD;repeat (first | with_reducible refine a0 ho ?_ | (with_reducible refine a0 x ?_;rw[hc]) | with_reducible refine a0 hC ?_ | (with_reducible refine bu hC ?_;first | rw[B] | rw[r]) | wp_step)
     exact q
   . by_cases hSD:T=D1
     . have m:(a0X D2::a0X T::bmV).contains (.ref D1)=true:=by simp[hSD]
       repeat (first | with_reducible refine a0 ho ?_ | (with_reducible refine a0 x ?_;rw[hc]) | with_reducible refine a0 hC ?_ | with_reducible refine a0 hS ?_ | (with_reducible refine bu hC ?_;rw[B]) | (with_reducible refine bu hS ?_;first | rw[hb2] | rw[m]) | wp_step)
       exact q
     . have m:(a0X D2::a0X T::bmV).contains (.ref D1)=false:=by simp[hDD,a4Z hSD]
       repeat (first | with_reducible refine a0 ho ?_ | (with_reducible refine a0 x ?_;rw[hc]) | with_reducible refine a0 hC ?_ | with_reducible refine a0 hS ?_ | (with_reducible refine bu hC ?_;rw[B]) | (with_reducible refine bu hS ?_;first | rw[hb2] | rw[m] | rw[u]) | wp_step)
       exact q
end XC
namespace XC
open PySem PySem.Spec L2
open PyProof.Rows (envOfC AllBare)
theorem RT {e:St}(I:Inv X pins e H s) (h1:s.heap.get? a=al o) (t:H a=am) (J:a≠X.env.locals) (n:a∉X.fs) (u:∀v,o.data≠.cell v):Inv X ((a,o)::pins) e H s:=#[I.ok,I.os,I.bare,I.base,I.loc,I.cell,I.free,I.freeC,λp hp=>by
   rcases yW.mp hp with q | q;. exact I.pin p (yW.mpr (.inl q))
   . rcases yX.mp q with rfl | q;. exact#[h1,t,J,n,u]
     . exact I.pin p (yW.mpr (.inr q)),I.hok,I.len]
theorem wU (h:SP X pins D f s'):SP (X.wish E) pins D f s':=by
 cases f with
 | next=>obtain⟨b,H',I,q⟩:=h;exact#[b,H',I.wish E,q]
 | brk=>obtain⟨b,H',I,q⟩:=h;exact#[b,H',I.wish E,q]
 | cont=>obtain⟨b,H',I,q⟩:=h;exact#[b,H',I.wish E,q]
 | ret u=>obtain⟨v,b,H',I,r,q⟩:=h;exact#[v,b,H',I.wish E,r,q]
section
variable {Y:Cx}{R:St->XK}{C S f a:Addr}{x:Str}{np ah pos:ew}{arg:bp}{t:TA}{k:Nat}{fd:dV}{ps:List Str}
theorem jZ {i:St}(c:XCls Y.K C S (.ref f)) (vt:b5J Y.K (.ref f)=ap) (F:FnOkA Y.prog Y.w Y.K Y.mg Y.base k f fd ps (ER C (a0Q "number"))) (hb:Binds Y.K fd ps []) (hr:RoomA (k+1) Y.A) (hg:Gl Y x) (hm:Y.mg x=al (.ref C)) (ha:PA (HY Y a) [arg] t) (I:Inv (HY Y a) ((a,j)::pins) i H s) (Nx:Y.Ok) (hd:j.data = .fields vs) (h2:vs[2]?=al .none) (h:t i H λD m=>∃v,D=[v]/\∀d,m d=am->R i (.ref C) (al d) (upd m d (.xd [(a0Q "number", v)]))) (dz:(x==("__debug__":Str))=aw) (he:starEach [arg] Y.env=[(aw,eval arg Y.env)]) :
   wpAny (model Y.prog Y.w) (Y.A.mark (al (.ref a))) (exec (.Raise (al (.Call (.Name x np) [arg] [] ah)) (al (.Constant .none ck cp)) pos) Y.env) Q (Fly Y R) s:=by
 have FB:=b6Z;obtain⟨nm,q,N,bs,sn,sub,ab,col,dd,k0,k1,k2,k3,k5,lk⟩:=c.lk;rw[arm_exec_Raise];refine zZ (bv (cM (C:=C) (a:=a) (hbase:=MW (S:=S)) (hh:=rfl) (nm:=nm) (q:=q) (N:=N) (bs:=bs) (hdct:=ap) (sn:=sn) (sub:=sub) (ab:=ab) (col:=col) (dd:=dd) (k0:=k0) (k1:=k1) (k2:=k2) (k3:=k3) (k5:=k5) (newId:= "ValueError.__new__") ?_ ?_));. intro s Q' hq;refine zZ (PyProof.Rows.Constant_none ?_);refine zZ (bv ?_);exact zY hq
 refine bg (E:=λ_ _=>False) ?_ (λ_ _ z=>z) λ_ _ z=>z.elim;refine zZ (thn (cR (G1 I (X:=HY Y a) hg hm (b6K (h₀:=Y.base) I.ok.mod.kin c.kp (Q:=λv n=>∃e t U oa vs,v = .ref e/\e≠a/\n.heap.get? C=al (excClassObj nm q C N bs (.ref S::bmV) ap sn sub ab col dd k0 k1 k2 k3 k5 "ValueError.__new__")/\C≠e /\
     n.heap.get? e=al { cls:=.ref C,dict:=U,data:=.fields (y9 [.ref t,.none,.none,.none,.bool aw,.none]) }/\n.heap.get? a=al oa/\oa.data = .fields vs/\vs[2]?=al .none /\
     ∀T,T.get? e=al (rL C t a U)->Moved [] [e] n.heap T->Fly Y R (.ref e) { n with heap:=T }) (thn (ha ah _ s i H _ I h) λD s1 #[Ql,m,G,r,v,ev,q1]=>#[G.kIn,?_]) he rfl) dz)) λv s3 h3=>zZ (bv (zY h3)));subst ev;obtain⟨u,rfl,ru⟩:∃u,D=[u]/\RelV v u:=by cases r with | cons a b=>cases b;exact#[_,rfl,a]
 have hC:=G.kIn _ _ lk;have Ny:=(G.pin (a,j) (yW.mpr (.inr (a0Z ..)))).1;obtain⟨hp,g,d,tk,os⟩:=s1;have kk:=D4 (h:=hp) (C:=C) (rest:=[u]);have yh:=PM (h:=hp) (C:=C) (rest:=[u]);have M:Inv (HY Y a) ((a,j)::pins) i (upd m (hp.objs.size+1) (xo (hp.objs.size+1) C hp.objs.size am)) #[MV hp C [u],g,d,tk,os]:=G.laid (a:=hp.objs.size+1) (t':=tk) kk (a5K _) (pH yh);have Eu:m (hp.objs.size+1)=none:=G.hok.fresh (a5K _);have r2:Vals [V.ref (hp.objs.size+1),v] [a0X (hp.objs.size+1),u]:=.cons rfl (.cons ru .nil);have Z:ER C (a0Q "number") [V.ref (hp.objs.size+1),v] (upd m (hp.objs.size+1) (xo (hp.objs.size+1) C hp.objs.size am)) (λw J=>w = .non/\∃y,m y=am/\y≠hp.objs.size+1/\J=upd (upd m y (.xd [(a0Q "number", v)])) (hp.objs.size+1) (xo (hp.objs.size+1) C hp.objs.size (al y))) (λ_ _ _=>False):=by refine#[_,v,hp.objs.size,rfl,AE,λy kr L=>#[rfl,y,by rw[AH L] at kr;exact kr,L,?_]];funext b;unfold upd;by_cases z:b=hp.objs.size+1 <;> simp[z]
 have hl:([a0X (hp.objs.size+1),u]++[]).length=ps.length:=by have:=F.len _ _ _ _ Z;simpa using this
 have yp:RoomA (k+1) (HY Y a).A:=#[hr.dp,hr.un]
 refine bX FB PN VL VM hC (c0Z G.kIn c.init) (λself=>PySem.W.bind_fn G.kIn self (beq_iff_eq.mp vt)) (xN (F.run _ Y.stack _ _ #[[a0X (hp.objs.size+1),u],[]] ([a0X (hp.objs.size+1),u]++[]) _ _ _ (yp.make C [u] []) (M.env0.make C [u] []) (hb _ [a0X (hp.objs.size+1),u] M.kIn hl) r2 Z) λr' s' B=>?_) (by show 1<=aB;decide);rcases r' with e | (w | _ | _ | _) <;> first | exact B.elim | skip
 obtain⟨w',J,O,jz,rfl,y,ym,hd2,rfl⟩:=M.after B;have hx:=(O.hok _ _ AE).1;have uc:(upd m y (.xd [(a0Q "number", v)])) (hp.objs.size+1)=none:=by rw[AH (a4Z hd2)];exact Eu
 have C':(HY Y a).s₀.heap.objs.size<=hp.objs.size+1:=zN G.sz (a5K _);have I4:=VI (RE O uc C');have Fg:=(O.pin (a,j) (yW.mpr (.inr (a0Z ..)))).1;have p:Loose (HY Y a) (upd m y (.xd [(a0Q "number", v)])) (hp.objs.size+1):=Loose.of G (a5K _) uc;refine#[jz,hp.objs.size+1,hp.objs.size,al y,j,vs,rfl,λe=>?_,O.kIn _ _ lk,λe=>?_,hx,Fg,hd,h2,λT Nz m3=>?_];. have:=zM Ny;have e':a=hp.objs.size+1:=e.symm;rw[e'] at this;exact absurd this (by simp)
 . have:=zM hC;rw[e] at this;exact absurd this (by simp)
 . have I5:Inv (HY Y a) [] i (upd m y (.xd [(a0Q "number", v)])) { s' with heap:=T }:=BU (ch:=[hp.objs.size+1]) I4 (m3.mono (λb z=>absurd z (by simp)) λb z=>z) λb hb=>by
     have:b=hp.objs.size+1:=by simpa using hb
     rw[this];exact p.ch
   exact#[hp.objs.size+1,am,.ref C,al y,.ref a,i,_,.none,rfl,FG Nx I5,#[#[_,_,Nz,rfl,rfl,rfl,rfl,rfl],.inl rfl],#[p.above,p.loc,p.cel,p.fre,p.pn],λt e=>(by cases e),.inr #[y,v,rfl,AE],q1 y ym]
theorem wV {D1 D2 S1 S2:Addr}{i1 i2:ao}{body:List eu}{te:bp}{yq lj:ew}{ck:Nat}{cp:ew}{tb:(St->XK)->TS}(u:Y.stack=Y.env::Y.outer) (L:Y.env.frame=al Y.env.locals) (c1:XCls Y.K D1 S1 i1) (c2:XCls Y.K D2 S2 i2) (c:XCls Y.K C S (.ref f)) (vt:b5J Y.K (.ref f)=ap) (F:FnOkA Y.prog Y.w Y.K Y.mg Y.base k f fd ps (ER C (a0Q "number"))) (Fh:Binds Y.K fd ps []) (hr:RoomA (k+1) Y.A) (hg:Gl Y x) (X:Y.mg x=al (.ref C)) (N_:∀a,PE (HY Y a) te (A08 (T9 (tC (.ref D1)) (T9 (tC (.ref D2)) tK)))) (ha:∀a,PA (HY Y a) [arg] t) (hb:∀(pn:List (Addr×cE)) (R':St->XK),PSs ((pinned Y pn).wish (Fly (pinned Y pn) R')) body (tb R')) (dz:(x==("__debug__":Str))=false:=by decide) (he:starEach [arg] Y.env=[(aw,eval arg Y.env)]:=by rfl) :
   PS (Y.wish (Fly Y R)) (.Try body [.ExceptHandler (al te) am [.Raise (al (.Call (.Name x np) [arg] [] ah)) (al (.Constant .none ck cp)) yq] lj] [] [] pos) (rM Y.K D1 D2 C tb t R):=by
 intro pins s σ H D' I0 h;have I:=I0.unwish;have ok:=I.ok;refine wpAny_Try_except ?_;have bh:=hb (Y.pn++pins) _ [] s σ H D' ((f9 I).wish _) h;refine bg bh (λfl j q=>?_) λe j q=>?_
 . have M:=wU (E:=Fly Y R) (YM ok q.unwish);cases fl with
   | next=>exact eN M
   | ret v=>exact M
   | brk=>exact M
   | cont=>exact M
 . obtain⟨a,T,cls,dd,ar,n,H',fl,rfl,J,⟨x1,pz⟩,la,lT,lx,xl,hE,r⟩:=q;have Oa:ar = .none:=lx.resolve_right hE;subst Oa;have I1:=F3 ok J;have fr:Y.A.frames=al (Y.env::Y.outer):=by rw[<-u];exact ok.frames
   have hl:j.heap.FunFrames Y.base (Y.env::Y.outer):=by rw[<-u];exact I1.stack
   refine JC fr hl L x1 pz λU i x2 n2 m2=>?_;have yl:(Y.env::Y.outer).filterMap (·.frame)=frs Y.stack:=by rw[u];rfl
   rw[yl] at m2;have N:∀b,Loose (pinned Y (Y.pn++pins)) H' b->H' b=am/\Y.s₀.heap.objs.size<=b/\b≠Y.env.locals/\(∀x c,Y.env.cells.lookup x=al c->c≠b)/\∀p∈Y.pn++pins,p.1≠b:=λb l=>#[l.fre,l.above,l.loc,l.cel,l.pn]
   have I2:Inv Y pins n H' { j with heap:=U }:=BU I1 m2 λb hb=>by
     rcases yX.mp hb with q | q;. rw[q];exact N _ la
     . exact N _ (lT b (by cases T with | none=>simp at q | some t=>simp at q;rw[q]))
   have Z:=N _ (n2.elim (λz=>lT i z) λz=>Loose.of (b:=i) J z.2 (J.hok.fresh z.2));refine GY (s:={ j with heap:=U }) x2 λy x3 m3=>?_;have I3:Inv Y pins n H' { j with heap:=y }:=BU (s:={ j with heap:=U }) (ch:=[i]) I2 (m3.mono (λb z=>absurd z (by simp)) λb z=>z) λb hb=>by
     have:b=i:=by simpa using hb
     rw[this];exact Z
   have I4:=RF I3 a;obtain⟨q1,q2,q3,q4,q5⟩:=N _ la;obtain⟨g,vs,Hf,Hg,Fi,B,Hh,Ob,sf,O,ts,k_,jo,Oc⟩:=id x3;have Od:y.FunFrames Y.base (Y.env::Y.outer):=by rw[<-u];exact I3.stack
   have C_:∀{b:Addr}{o:cE}{zs:Array ao},y.get? b=al o->o.data = .fields zs->b∉Y.fs:=λ{b o zs} e1 e2 X=>by obtain⟨_,o',ho,Bg⟩:=Od.mem (show b∈(Y.env::Y.outer).filterMap (·.frame) by rw[a5X,L];exact yV _ X);rw[e1] at ho;injection ho with ho;subst ho;exact Bg zs e2
   have I5:Inv (HY Y a) ((a,g)::(i,O)::pins) n H' { j with heap:=y }:=RT (RT I4 k_ Z.1 Z.2.2.1 (C_ k_ jo) (λv e=>by rw[jo] at e;cases e)) Hf q1 q3 (C_ Hf B) (λv e=>by rw[B] at e;cases e);refine wpAny_handleBy_cons (codeAny_handlers_test (bg (N_ a _ { j with heap:=y } n H' (λv H1=>∃p,v = .ref p/\H' p=am/\H1=upd H' p (.tup [.ref D1,.ref D2])) I5 #[by show 2<=aB;decide,λp hp=>#[p,rfl,hp,rfl]]) (λc5 D q=>?_) λ_ _ z=>z.elim)) (by intro q;cases q);obtain⟨v5,H5,m,Oe,p,rfl,ox,rfl⟩:=q;cases Oe;have G:=(m.pin (a,g) (yW.mpr (.inr (a0Z ..)))).1;have hT5:=(m.pin (i,O) (yW.mpr (.inr (yV _ (a0Z ..))))).1;obtain⟨aa,Of,Og,_⟩:=m.tuple (a:=p) (xs:=[.ref D1,.ref D2]) (.inl (.inl AE));obtain rfl:aa=[.ref D1,.ref D2]:=by
     cases Of with
     | cons a1 r1=>cases r1 with
       | cons a2 r2=>cases r2;cases a1;cases a2;rfl
   have Ag:g.cls = .ref D1\/g.cls = .ref D2:=by rw[Hg];exact xl
   refine A2X c1 c2 m.kIn G Ag Og (codeAny_handlers_suite ?_);have x5:MU D.heap a cls dd .none (al i) .none:=#[g,vs,G,Hg,Fi,B,Hh,Ob,sf,O,ts,hT5,jo,Oc]
   refine GY (s:=D) x5 λh6 x6 m6=>?_;have Hi:i≠a:=sf;have Qm:h6.get? a=al g:=m6.keep a g G (by simp) (by simp[a4Z Hi]);have I7:Inv (HY Y a) ((a,g)::pins) n (upd H' p (.tup [.ref D1,.ref D2])) { D with heap:=h6 }:=by
     refine BU (s:=D) (ch:=[i]) (m.pins_of λp' vo=>?_) (m6.mono (λb z=>absurd z (by simp)) λb z=>z) λb hb=>?_
     . rcases yX.mp vo with rfl | z;. exact m.pin _ (yW.mpr (.inr (a0Z ..)))
       . exact m.pin _ (yW.mpr (.inr (yV _ (yV _ z))))
     . have:b=i:=by simpa using hb
       subst this;refine#[?_,Z.2.1,Z.2.2.1,Z.2.2.2.1,λp' vo=>?_];. have:=(m.pin (b,O) (yW.mpr (.inr (yV _ (a0Z ..))))).2.1;exact this
       . rcases yW.mp vo with z | z;. exact Z.2.2.2.2 p' (yW.mpr (.inl z))
         . rcases yX.mp z with rfl | z;. exact a4Z Hi
           . exact Z.2.2.2.2 p' (yW.mpr (.inr z))
   refine bg (Q:=λ_ _=>False) (E:=Fly Y R) ?_ (λ_ _ z=>z.elim) (λe s' hf=>ZI u L e s' hf);refine wpAny_execs_cons (bg (jZ (Y:=Y) (Q:=λ_ _=>False) c vt F Fh hr hg X (ha a) I7 ok B Hh (r p ox) dz he) (λ_ _ z=>z.elim) λ_ _ z=>z)
end
end XC
namespace DL
open PySem PySem.Spec L2 XC
open PyProof.Rows (envOfC AllBare)
section
variable {P:bn}{w:bj}{K:Frg}{mg:Str->Option ao}{base:cr}
structure HasRA (P:bn) (w:bj) (K:Frg) (mg:Str->Option ao) (base:cr) (x fn:Str) (C S:Addr):Prop where
 ex:∃(f:Addr) (fd:dV) (ps:List Str),XCls K C S (.ref f)/\b5J K (.ref f)=ap/\FnOkA P w K mg base 1 f fd ps (ER C fn)/\Binds K fd ps []/\mg x=al (.ref C)
def fY (K:Frg) (mg:Str->Option ao) (x:Str) (C S:Addr):Prop:=(∃i,XCls K C S i)/\mg x=al (.ref C)
theorem HasR.cls (h:HasR P w K mg base x fn C S):fY K mg x C S:=let #[_,_,_,c,_,_,_,q]:=h.ex;#[#[_,c],q]
theorem HasN.cls (h:HasN K mg x C S):fY K mg x C S:=#[#[_,h.c],h.at_]
theorem A3y (Y:Cx) (R:Rx) {D1 D2 C S r T:Addr}{body:List eu}{arg:bp}{x N n:Str}{L B yq I pos J Q tp v:ew}{u:Nat}{tc:Nat}{i:Rx->TS}{t:TA}(hK:Y.K=K) (z:Y.prog=P) (O:Y.w=w) (U:Y.mg=mg) (yc:Y.base=base) (m:Y.stack=Y.env::Y.outer) (M:Y.env.frame=al Y.env.locals) (k:fY K mg N D1 r) (Z:fY K mg n D2 T) (h:HasRA P w K mg base x (a0Q "number") C S) (hr:Room 2 Y.A) (b:Gl Y N) (g:Gl Y n) (hg:Gl Y x) (j:∀a,PA (HY Y a) [arg] t) (hb:∀(pn:List (Addr×cE)) (e:Rx),PSs ((pinned Y pn).wish (Fly (pinned Y pn) e)) body (i e)) (hd:(x==("__debug__":Str))=false:=by decide) (ym:(N==("__debug__":Str))=false:=by decide) (hd2:(n==("__debug__":Str))=false:=by decide) (he:starEach [arg] Y.env=[(aw,eval arg Y.env)]:=by rfl) :
   PS (Y.wish (Fly Y R)) (.Try body [.ExceptHandler (al (.Tuple [.Name N J,.Name n Q] tc tp)) am [.Raise (al (.Call (.Name x L) [arg] [] B)) (al (.Constant .none u v)) yq] I] [] [] pos) (rM K D1 D2 C i t R):=by subst hK z O U yc;obtain⟨⟨i1,X⟩,D⟩:=k;obtain⟨⟨i2,q2⟩,G⟩:=Z;obtain⟨f,fd,ps,c,q,F,p,y⟩:=h.ex;exact wV m M X q2 c q F p (.of hr) hg y (λa=>lQ (PB (eI b D ym) (PB (eI g G hd2) aS))) j hb hd he
end
section
theorem A2Y (h:DE K ta ρ M λx M1=>DTy K T x M1/\DAx K R tl ρ M1 (λxs e=>DM K r x xs e Q) DX):DEx K R (tBM K T r ta tl) ρ M Q DX:=λi H QQ X k I=>
 h i H _ X (by rintro v m x M1 t n y ⟨S,h1⟩;exact#[S m v t n,h1 i m _ (X.step t y) (λB f xs e j N c g=>g f v B QQ j (n.step c) N λw p z b u O G q=>k w p z b u O ((y.trans c).trans G) q) (I.step y)])
theorem wW {D1 D2 C:Addr}{u:Rx->TS}{t:TA}(h:∀m,DXt K m (u m) ρ M D λi cls fs c=>(cls = .ref D1\/cls = .ref D2)/\(∀z,fs≠[(a0Q "number", z)])/\DA K t i c λxs M1=>∃d,xs=[.d d]/\DX i (.ref C) [(a0Q "number", d)] M1):DXt K R (rM K D1 D2 C u t R) ρ M D DX:=λσ H E X O I S Y B=>by
 refine h _ σ H E X O I S Y λi cls fs c b dd H' m J L #[hc,T,q]=>#[hc,?_,λp hp=>?_]
 . rintro⟨d,v,rfl,hd⟩
   match fs,L with
   | [(n,z)],L=> obtain⟨v',_,e,_⟩:=L;rw[hd] at e;injection e with e;injection e with e;injection e with f e2;injection f with f e3;exact T z (by rw[f])
 . have N:Step K c c H' (upd H' p (.tup [.ref D1,.ref D2])):=#[B0 _ hp]
   have U:=m.step (m.own.new (o:=.tup [.ref D1,.ref D2]) hp) N;refine q b _ _ U ?_;rintro vs k xs M1 j G y ⟨d,x,z⟩;subst x;obtain⟨v,r,rfl,Z,rfl⟩:=G;refine#[v,rfl,λe he=>?_];have g:Step K M1 M1 k (upd k e (.xd [(a0Q "number", v)])):=#[B0 _ he]
   exact B i _ [(a0Q "number", d)] M1 b (al e) _ ((U.step j y).step (j.new he) g) (J.trans (N.trans (y.trans g))) #[v,λz=>z (j.none he),AE,DV.grow g.grow Z] z
end
end DL
namespace DL
open PySem PySem.Spec L2 XC
section
theorem rN (h:DEx K R ta ρ M (λx M1=>DE K tb ρ M1 λy e=>D2 K r x y e Q) DX):DEx K R (tOp r ta tb) ρ M Q DX:=λn H QQ X k I=>
 h n H _ X (λv m x M1 g T t h1=>h1 n m _ (X.step g t) λu f y e j N c b=>b f v u QQ j (T.step c) N λw i z p S O G q=>k w i z p S O ((t.trans c).trans G) q) I
theorem cO (h:DEx K R te ρ M (λv M1=>∃ds:List PyData,v = .d (.list ds)/\Q (.d (.tuple ds.reverse)) M1) DX):DEx K R (fX K te) ρ M Q DX:=λb H QQ X k I=>
 h b H _ X (λv m x M1 t n y G=>by obtain⟨ds,e,q⟩:=G;subst e;unfold SI DV at n;obtain⟨a,i,rfl,r,hd⟩:=n;refine#[a,i,rfl,r.sq,λp hp=>?_];have g:Grow K M1.W M1.W m (upd m p (.tup i.reverse)):=B0 _ hp;refine k _ _ (.d (.tuple ds.reverse)) M1 (t.new hp) ?_ (y.trans #[g]) q;unfold SI DV;exact#[p,_,rfl,.inl #[λw=>w (t.none hp),.inl AE],(wR hd).grow g]) I
end
section
variable {M:Own}{Q:DS->Own->Prop}{DX:ao->List (Str×PyData)->Own->Prop}{ys:List Str}{w u v:List Th}{D:Deed}{Ds:List Deed}{p:Addr}{x:DS}{n:Str}
def nnX (z:Str):List (Str×PyData):=[("name", .str z)]
def DD (O:Addr):FSpX:=#[λt M=>∃(p:Addr) (e:List Th) (D:Deed),t=[.loc p,.d D.d]/\M p=al (tsO e)/\D.real,
 λt M y i=>∀(p:Addr) (e:List Th) (D:Deed),t=[.loc p,.d D.d]->M p=al (tsO e)->AJ (e.map (·.1)) D=am/\y = .d .none/\i=M,
 λt M cls fs i=>∀(p:Addr) (e:List Th) (D:Deed),t=[.loc p,.d D.d]->M p=al (tsO e)->∃z,AJ (e.map (·.1)) D=al z/\cls = .ref O/\fs=nnX z/\i=M]
theorem W8 (m:M p=al (tsO ts)) (hr:D.real) (q:AJ (ts.map (·.1)) D=am->Q (.d .none) M) (B:∀z,AJ (ts.map (·.1)) D=al z->DX (.ref O) (nnX z) M) :
   [DS.loc p,.d D.d].length=2/\(DD O).pre [.loc p,.d D.d] M/\(∀x i,(DD O).post [.loc p,.d D.d] M x i->Q x i)/\∀cls fs i,(DD O).xpost [.loc p,.d D.d] M cls fs i->DX cls fs i:=
 #[rfl,#[p,ts,D,rfl,m,hr],λx i h=>(by obtain⟨a,rfl,rfl⟩:=h p ts D rfl m;exact q a),λcls fs i h=>by obtain⟨z,a,rfl,rfl,rfl⟩:=h p ts D rfl m;exact B z a]
theorem RU (e:[DS.loc p,.d D.d]=[.loc p',.d i.d]) (m:M p=al (tsO ts)) (t:M p'=al (tsO U)):p=p'/\ts=U/\D=i:=by simp only[List.cons.injEq,DS.loc.injEq,DS.d.injEq,and_true] at e;obtain⟨rfl,e⟩:=e;rw[m] at t;exact#[rfl,c8 (Option.some.inj t),CT e]
def amB (ns:List Str) (D:Deed) (n:Str):Bool:=decide (n∈ns)==decide (D.made=al n)
theorem ZJ (h:∀x∈D.names.take k,amB ns D x=aw) (hn:D.names[k]?=al n) (hb:amB ns D n=ap):AJ ns D=al n:=by
 unfold AJ;have e:D.names=D.names.take k++n::D.names.drop (k+1):=by
   obtain⟨hk,e⟩:=yT.mp hn
   conv=>lhs;rw[<-b1V k D.names,List.drop_eq_getElem_cons hk,e]
 rw[e,List.find?_append,List.find?_eq_none.mpr λx hx=>by rw[show(decide (x∈ns)==decide (D.made=al x))=aw from h x hx];exact nft];rw[Option.none_or];exact List.find?_cons_of_pos hb
theorem rO (h:∀x∈D.names,amB ns D x=aw):AJ ns D=none:=by unfold AJ;exact List.find?_eq_none.mpr λx hx=>by rw[show(decide (x∈ns)==decide (D.made=al x))=aw from h x hx];exact nft
def KF (O:Addr):FSpX:=#[λt M=>∃(w:List Th) (D:Deed),t=[.d (wD w),.d D.d]/\KU w/\D.real,
 λt M y i=>∀(w:List Th) (D:Deed),t=[.d (wD w),.d D.d]->AJ (w.map (·.1)) D=am/\y = .d (B4 w D).d/\i=M,
 λt M cls fs i=>∀(w:List Th) (D:Deed),t=[.d (wD w),.d D.d]->∃z,AJ (w.map (·.1)) D=al z/\cls = .ref O/\fs=nnX z/\i=M]
theorem cP (hc:KU w) (hr:D.real) (q:AJ (w.map (·.1)) D=am->Q (.d (B4 w D).d) M) (B:∀z,AJ (w.map (·.1)) D=al z->DX (.ref O) (nnX z) M) :
   [DS.d (wD w),.d D.d].length=2/\(KF O).pre [.d (wD w),.d D.d] M/\(∀x i,(KF O).post [.d (wD w),.d D.d] M x i->Q x i)/\∀cls fs i,(KF O).xpost [.d (wD w),.d D.d] M cls fs i->DX cls fs i:=
 #[rfl,#[w,D,rfl,hc,hr],λx i h=>(by obtain⟨a,rfl,rfl⟩:=h w D rfl;exact q a),λcls fs i h=>by obtain⟨z,a,rfl,rfl,rfl⟩:=h w D rfl;exact B z a]
theorem JN {w:bj}(h:HasX P w K mg base "refuse_undoable" k ps (DD O)):Has P w K mg base "refuse_undoable" k ps DQ:=
 h.calm (by rintro b M ⟨p,t,D,e,m,hr,g⟩;exact⟨#[p,t,D,e,m,hr],λy r q=>(q p t D e m).2,λcls fs r q=>by obtain⟨z,i,_⟩:=q p t D e m;rw[g] at i;cases i⟩)
structure rowQ16 (w:List Th) (Ds:List Deed):Prop where
 fine:DY w
 few:w.length+Ds.length < 60
 real:∀D∈Ds,D.real
def O4 (w:List Th) (Ds:List Deed) (i:Nat):Prop:=BC w (Ds.take i)/\∃D,Ds[i]?=al D/\¬AJ ((wsF w Ds i).map (·.1)) D=am
theorem fZ:∀{Ds:List Deed}{w:List Th}{i j:Nat}{D:Deed},BC w (Ds.take j)->i < j->Ds[i]?=al D->goD (wsF w Ds i) D
 | [],w,i,j,D,_,_,h=>by simp at h
 | E::r,w,0,j+1,D,hb,_,h=>by
   obtain rfl:E=D:=by simpa using h
   exact hb.1
 | E::r,w,i+1,j+1,D,hb,e,h=>fZ (Ds:=r) (w:=BN w E) hb.2 (Nat.lt_of_succ_lt_succ e) (by simpa using h)
 | E::r,w,_,0,D,_,e,_=>absurd e (Nat.not_lt_zero _)
theorem W9 (h:O4 w Ds i):¬BC w Ds:=λhb=>by
 obtain⟨_,D,hD,g⟩:=h;have hi:=(yT.mp hD).1;have hb2:BC w (Ds.take Ds.length):=by rw[a1Q];exact hb
 exact g (fZ hb2 hi hD).2.2
theorem OU (hb:BC w (Ds.take k)) (hD:Ds[k]?=al D) (hg:goD (wsF w Ds k) D):BC w (Ds.take (k+1)):=by rw[a1V,hD];exact RR.mpr #[hb,hg,trivial]
def nrX (i:Nat):List (Str×PyData):=[(a0Q "number", .int (i:Nat))]
def GX (N:Addr) (f:List Th->List Deed->PyData):FSpX:=#[λt M=>∃(w:List Th) (Ds:List Deed),t=EW w Ds/\rowQ16 w Ds,
 λt M y e=>∀(w:List Th) (Ds:List Deed),t=EW w Ds->BC w Ds/\y = .d (f w Ds)/\e=M,
 λt M cls fs e=>∀(w:List Th) (Ds:List Deed),t=EW w Ds->∃i,O4 w Ds i/\cls = .ref N/\fs=nrX i/\e=M]
def UJ (w:List Th) (Ds:List Deed):PyData:=.tuple [wD (DF w Ds),.list (bkL w Ds Ds.length)]
def OV (w:List Th) (Ds:List Deed):PyData:=wD (DF w Ds)
def LP (w:List Th) (Ds:List Deed):PyData:=.tuple ((bkS w Ds).reverse.map Deed.d)
theorem WA (h:rowQ16 w Ds) (q:BC w Ds->Q (.d (f w Ds)) M) (B:∀i,O4 w Ds i->DX (.ref N) (nrX i) M) : (EW w Ds).length=2/\(GX N f).pre (EW w Ds) M/\(∀x e,(GX N f).post (EW w Ds) M x e->Q x e)/\∀cls fs e,(GX N f).xpost (EW w Ds) M cls fs e->DX cls fs e:=#[rfl,#[w,Ds,rfl,h],λx e t=>(by obtain⟨a,rfl,rfl⟩:=t w Ds rfl;exact q a),λcls fs e t=>by obtain⟨i,a,rfl,rfl,rfl⟩:=t w Ds rfl;exact B i a]
def S16 (f:List Th->List Deed->PyData):FSp:=#[λt M=>∃(w:List Th) (Ds:List Deed),t=EW w Ds/\rowQ16 w Ds/\BC w Ds,λt M y i=>∀(w:List Th) (Ds:List Deed),t=EW w Ds->y = .d (f w Ds)/\i=M]
theorem ZK (h:rowQ16 w Ds) (hb:BC w Ds) (q:Q (.d (f w Ds)) M):(EW w Ds).length=2/\(S16 f).pre (EW w Ds) M/\∀x i,(S16 f).post (EW w Ds) M x i->Q x i:=#[rfl,#[w,Ds,rfl,h,hb],λx i e=>by obtain⟨rfl,rfl⟩:=e w Ds rfl;exact q]
theorem g6 (h:HasX P Y K mg base nm k ps (GX N f)):Has P Y K mg base nm k ps (S16 f):=
 h.calm (by rintro g M ⟨w,Ds,e,h1,b⟩;exact#[#[w,Ds,e,h1],λy t q c m e'=>(q c m e').2,λcls fs t q=>by obtain⟨i,r,_⟩:=q w Ds e;exact W9 r b])
theorem k6 (h:HasX P Y K mg base "gone" k ps (GX N OV)):Has P Y K mg base "gone" k ps (S16 OV):=g6 h
theorem cQ (h:HasX P Y K mg base "backs" k ps (GX N LP)):Has P Y K mg base "backs" k ps (S16 LP):=g6 h
structure Alk (v u:List Th):Prop where
 nd:(v.map (·.1)).Nodup
 lk:∀n,AA v n=AA u n
theorem Alk.amiss (h:Alk v u) (D:Deed):AJ (v.map (·.1)) D=AJ (u.map (·.1)) D:=by
 unfold AJ;congr 1;funext n;have:(n∈v.map (·.1))↔(n∈u.map (·.1)):=by rw[BS,BS,h.lk]
 simp only[this]
theorem Alk.step (h:Alk v u) (S:goD v D) (hu:goD u D):Alk (doT v D) (BN u D):=by refine#[(NW S).1,λn=>?_];rw[show AA (BN u D) n=AA (doT u D) n from GW (NW hu).1 n,CY S.2.1 S.2.2,CY hu.2.1 hu.2.2];cases D <;> simp only[h.lk]
def UK (w:List Th) (Ds:List Deed) (k:Nat) (v:List Th):Prop:=BC w (Ds.take k)/\Alk v (wsF w Ds k)
theorem k7 (e:DY w):UK w Ds 0 w:=#[by rw[List.take_zero];trivial,e.1.nodup,λn=>rfl]
theorem A2Z (T:rowQ16 w Ds) (h:UK w Ds k v) (hD:Ds[k]?=al D) (g:AJ (v.map (·.1)) D=am) (hc:KU v):UK w Ds (k+1) (doT v D):=by
 have hk:=(yT.mp hD).1;have hr:=T.real D (yN hD);have L:=T.few;obtain⟨t,i,_⟩:=K6 (k:=k) h.1 T.fine (by rw[a0J];lia) (by rw[a0J];lia);have e:wsF w (Ds.take k) k=wsF w Ds k:=by unfold wsF;rw[List.take_take,Nat.min_self]
 rw[e] at t i;have hg:goD (wsF w Ds k) D:=#[#[t.1.nodup,by lia],hr,by rw[<-h.2.amiss];exact g]
 refine#[OU h.1 hD hg,?_];rw[f6 hD];exact h.2.step #[hc,hr,g] hg
theorem rP (h:UK w Ds k v) (hD:Ds[k]?=al D) (g:¬AJ (v.map (·.1)) D=am):O4 w Ds k:=#[h.1,D,hD,by rw[<-h.2.amiss];exact g]
theorem PV (T:rowQ16 w Ds) (h:UK w Ds Ds.length v):BC w Ds/\BB v=DF w Ds:=by
 have hb:BC w Ds:=by have:=h.1;rwa [a1Q] at this
 have L:=T.few;obtain⟨t,_,_⟩:=K6 (k:=Ds.length) hb T.fine L (zR _);have e:wsF w Ds Ds.length=DF w Ds:=by unfold wsF;rw[a1Q]
 refine#[hb,?_];rw[<-e];exact NY h.2.nd t.1 h.2.lk
end
end DL
namespace DL
open PySem PySem.Spec L2
section
variable {ys l:List Str}{A B E:Eff}{a b:Option Eff}{w u v:List Th}{D:Deed}{As Bs Ds:List Deed}{n z:Str}{m:Option Str}
def mkV (m:Option Str) (n:Str):Int×Int:=if al n=m then (1,1) else (0,0)
def mkP (m:Option Str) (ts:List Th) (n:Str):List Th:=E5 ts n (mkV m n).1 (mkV m n).2
def OW (m:Option Str) (l:List Str):List Th:=l.foldl (mkP m) []
def gM (m:Option Str) (l:List Str):Gt:=λn=>if n∈l then al (mkV m n) else am
theorem UL (m:Option Str):∀(l:List Str) (ts:List Th) (n:Str),AA (l.foldl (mkP m) ts) n=if n∈l then al (mkV m n) else AA ts n
 | [],ts,n=>by simp
 | x::l,ts,n=>by
   rw[b4Z,UL m l];unfold mkP;rw[FF];by_cases h:n∈l;. rw[if_pos h,if_pos (yV _ h)]
   . rw[if_neg h];by_cases e:n=x;. subst e;rw[if_pos rfl,if_pos a0Z]
     . rw[if_neg e,if_neg (by simp[e,h])]
theorem g9:AA (OW m l)=gM m l:=funext λn=>by unfold OW gM;rw[UL];rfl
theorem ZL (m:Option Str):∀(l:List Str) {ts:List Th},(ts.map (·.1)).Nodup->((l.foldl (mkP m) ts).map (·.1)).Nodup
 | [],_,h=>h
 | _::l,_,h=>ZL m l (wP h)
theorem KG:((OW m l).map (·.1)).Nodup:=ZL m l (ts:=[]) List.nodup_nil
theorem WB (i:t∈OW m l):t.1∈l/\t.2=mkV m t.1:=by
 have h:=BY KG i;rw[g9] at h;unfold gM at h;by_cases e:t.1∈l;. rw[if_pos e] at h;exact#[e,(Option.some.inj h).symm]
 . rw[if_neg e] at h;cases h
theorem ZM:(OW m l).length<=l.length:=by rw[<-zX (f:=(·.1))];exact JG KG λn hn=>by obtain⟨t,e,rfl⟩:=zL.mp hn;exact(WB e).1
def wM (m:Option Str) (l:List Str):List Th:=BB (OW m l)
theorem EE:AA (wM m l)=gM m l:=funext λn=>by unfold wM;rw[GW KG,g9]
theorem rQ :t∈wM m l↔t∈OW m l:=(BR _).mem_iff
theorem A2a:(wM m l).length<=l.length:=by unfold wM;rw[(BR _).length_eq];exact ZM
theorem gA (h:∀n∈l,CQ n):DY (wM m l):=#[FE KG,λt i=>by obtain⟨h1,e⟩:=WB (rQ.mp i);rw[e];unfold mkV;refine#[h _ h1,?_];split <;> decide]
theorem ZN (h:∀n∈l,n∈zs):There zs (wM m l):=#[(FE KG).nodup,λt e=>h _ (WB (rQ.mp e)).1]
def bhO (w:List Th) (Ds:List Deed):Option (List Th):=(AY w Ds).map BB
theorem N9 (T:rowQ16 w Ds):∀k,k<=Ds.length->(∃v,AY w (Ds.take k)=al v/\UK w Ds k v)\/(AY w Ds=am/\∃i,O4 w Ds i)
 | 0,_=>.inl #[w,rfl,k7 T.fine]
 | k+1,h=>by
   rcases N9 T k (Nat.le_of_succ_le h) with ⟨v,h1,t⟩ | h1
   . have hD:Ds[k]?=al Ds[k]:=zV h;have L:=T.few;by_cases g:AJ (v.map (·.1)) Ds[k]=am
     . obtain⟨r,Q,_⟩:=K6 (k:=k) t.1 T.fine (by rw[a0J];lia) (by rw[a0J];lia);have e:wsF w (Ds.take k) k=wsF w Ds k:=by unfold wsF;rw[List.take_take,Nat.min_self]
       rw[e] at r Q;have hc:v.length < 63:=by
         have:(v.map (·.1)).length<=((wsF w Ds k).map (·.1)).length:=JG t.2.nd λn hn=>by rw[BS,<-t.2.lk,<-BS];exact hn
         rw[zX,zX] at this;lia
       exact .inl #[doT v Ds[k],ZD h1 hD g,A2Z T t hD g #[t.2.nd,hc]]
     . exact .inr #[RP h1 hD g,k,rP t hD g]
   . exact .inr h1
theorem gB (T:rowQ16 w Ds) (hb:BC w Ds):bhO w Ds=al (DF w Ds):=by
 rcases N9 T Ds.length (zR _) with ⟨v,h1,e⟩ | ⟨_,i,h⟩
 . rw[a1Q] at h1;unfold bhO;rw[h1,<-(PV T e).2];rfl
 . exact absurd hb (W9 h)
theorem wX (T:rowQ16 w Ds) (hs:O4 w Ds i):bhO w Ds=none:=by
 rcases N9 T Ds.length (zR _) with ⟨v,h1,e⟩ | ⟨h,_⟩
 . exact absurd (PV T e).1 (W9 hs)
 . unfold bhO;rw[h];rfl
def okO (o:Option Eff) (g:Gt):Prop:=∃E,o=al E/\okV E g
theorem ZO (h:JM w a r):r≠am↔okO a (AA w):=by
 unfold JM at h;cases a with
 | none=>simp only at h;rw[h];exact#[λq=>absurd rfl q,by rintro⟨_,q,_⟩;exact nomatch q]
 | some E=>
   cases r with
   | none=>exact#[λq=>absurd rfl q,by rintro⟨F,q,ok⟩;cases q;exact absurd ok h]
   | some O=>exact#[λ_=>#[E,rfl,h.1],λ_ q=>nomatch q]
theorem A2b (g:JM w a (AY w As)) (hb:JM w b (AY w Bs)) (h:¬(okO a (AA w)↔okO b (AA w))):bhO w As≠bhO w Bs:=λe=>h (by
 rw[<-ZO g,<-ZO hb];unfold bhO at e;have:=congrArg Option.isSome e;rw[a4K,a4K] at this;rw[Option.ne_none_iff_isSome,Option.ne_none_iff_isSome,this])
theorem A2c (g:JM w (al A) (AY w As)) (hb:JM w (al B) (AY w Bs)) (i:∀v,AY w As=al v->(v.map (·.1)).Nodup) (I:∀v,AY w Bs=al v->(v.map (·.1)).Nodup) (r:okV A (AA w)) (c:okV B (AA w)) (h:CL A (AA w) n≠CL B (AA w) n):bhO w As≠bhO w Bs:=λe=>by
 unfold bhO at e;cases t:AY w As with
 | none=>rw[t] at g;exact g r
 | some x=>
   cases p:AY w Bs with
   | none=>rw[p] at hb;exact hb c
   | some y=> rw[t] at g e;rw[p] at hb e;have e:BB x=BB y:=Option.some.inj e;refine h ?_;rw[<-g.2 n,<-hb.2 n,<-GW (i x t),<-GW (I y p),e]
def FN (a b:Option Eff):List Eff:=[a,b].filterMap id
def GB (E:Eff) (ts:List Eff):List (List Th):=ts.map (λF=>wM am F.st)++ts.flatMap (λF=>F.fr.map λn=>wM am (E.st++[n]))++E.st.map λn=>wM (al n) E.st
def KN (a b:Option Eff):List (List Th):=match FN a b with | []=>[] | E::r=>GB E (E::r)
theorem KH (h:OkE ys E):okV E (gM m E.st):=#[λn hn=>by unfold gM;rw[if_pos hn];rfl,λn hn=>by unfold gM;rw[if_neg λq=>h.apart n q hn]]
theorem ZP:∀(l:List Int),(∀x∈l,x=0)->l.sum=0
 | [],_=>rfl
 | x::l,h=>by rw[b0Z,h x a0Z,ZP l λy hy=>h y (yV _ hy)];rfl
theorem rR {f:Str->Int}:∀{l:List Str},l.Nodup->(∀x∈l,f x=if x=z then 1 else 0)->(l.map f).sum=if z∈l then 1 else 0
 | [],_,_=>by simp
 | x::l,nd,h=>by
   obtain⟨h1,t⟩:=xV.mp nd;rw[zI,b0Z,rR t λy hy=>h y (yV _ hy),h x a0Z];by_cases e:x=z;. subst e;rw[if_pos rfl,if_neg h1,if_pos a0Z];rfl
   . rw[if_neg e];by_cases q:z∈l;. rw[if_pos q,if_pos (yV _ q)];rfl
     . rw[if_neg q,if_neg (by simp[a4Z e,q])];rfl
def Dif (a b:Option Eff) (g:Gt):Prop:=¬(okO a g↔okO b g)\/∃A B n,a=al A/\b=al B/\okV A g/\okV B g/\CL A g n≠CL B g n
theorem HJ :okO (al E) g↔okV E g:=#[(by rintro⟨_,e,h⟩;cases e;exact h),λh=>#[E,rfl,h]]
theorem ZQ :¬okO am g:=by rintro⟨_,e,_⟩;exact nomatch e
theorem Dif.one (h1:okV A g) (e:¬okV B g):Dif (al A) (al B) g:=.inl λh=>e (HJ.mp (h.mp (HJ.mpr h1)))
theorem Dif.two (h1:¬okV A g) (e:okV B g):Dif (al A) (al B) g:=.inl λh=>h1 (HJ.mp (h.mpr (HJ.mpr e)))
theorem ZR (h:n∉l):gM m l n=none:=if_neg h
theorem LQ (h:n∈l):gM m l n=al (mkV m n):=if_pos h
theorem rS (h:OkE ys A):CL A (gM m A.st) n=(AC A.lf n).map (enV (gM m A.st)):=by
 cases e:AC A.lf n with
 | some x=>exact JK e
 | none=>
   by_cases hs:n∈A.st;. exact ID e hs
   . rw[FM e hs,ZR hs];rfl
theorem ZS (h:k∈l):plV (gM m l) (.inr k)=(mkV m k).1:=by unfold plV;simp only[LQ h,Option.getD_some]
theorem gC (h:∀k∈q,k∈l):ctV (gM am l) q=0:=ZP _ λx hx=>by obtain⟨k,hk,rfl⟩:=zL.mp hx;rw[LQ (h k hk)];rfl
theorem gD (nd:q.Nodup) (h:∀k∈q,k∈l):ctV (gM (al z) l) q=if z∈q then 1 else 0:=rR nd λk hk=>by
 rw[LQ (h k hk)];unfold mkV;by_cases e:k=z;. subst e;rw[if_pos rfl,if_pos rfl];rfl
 . rw[if_neg (λq=>e (Option.some.inj q)),if_neg e];rfl
structure EntK (l:List Str) (e:Ent):Prop where
 pl:∀k,e.1 = .inr k->k∈l
 nd:e.2.1.Nodup
 sub:∀k∈e.2.1,k∈l
 srt:BO e.2.1=e.2.1
theorem rT (he:EntK l e) (M:EntK l f) (S:enV (gM am l) e=enV (gM am l) f) (h1:∀z∈l,enV (gM (al z) l) e=enV (gM (al z) l) f):e=f:=by
 obtain⟨p,q,c⟩:=e;obtain⟨N,h,G⟩:=f;have I:=congrArg Prod.snd S;unfold enV at I S h1;simp only[gC he.sub,gC M.sub] at I;have J:c=G:=by have:=I;simp only[Int.add_zero] at this;exact this
 subst J;have hq:q=h:=by
   refine he.srt.symm.trans (Eq.trans (W1 he.nd M.nd λk=>?_) M.srt);have key:∀k∈l,(k∈q↔k∈h):=λk hk=>by
     have O:=congrArg Prod.snd (h1 k hk);simp only[gD he.nd he.sub,gD M.nd M.sub] at O;have g:=Int.add_left_cancel O;by_cases u:k∈q
     . by_cases r:k∈h;. exact#[λ_=>r,λ_=>u]
       . simp only[if_pos u,if_neg r] at g;exact absurd g (by decide)
     . by_cases r:k∈h;. simp only[if_neg u,if_pos r] at g;exact absurd g (by decide)
       . exact#[λx=>absurd x u,λx=>absurd x r]
   exact#[λx=>(key k (he.sub k x)).mp x,λx=>(key k (M.sub k x)).mpr x]
 subst hq;have hp:p=N:=by
   have i:=congrArg Prod.fst S;have b1:=λz L=>congrArg Prod.fst (h1 z L);simp only at i b1;cases p with
   | inl x=>
     cases N with
     | inl y=>exact congrArg Sum.inl i
     | inr k=> have hk:=M.pl k rfl;rw[ZS hk] at i;have t:=b1 k hk;rw[ZS hk] at t;unfold mkV at i t;rw[if_neg (by simp)] at i;rw[if_pos rfl] at t;unfold plV at i t;simp only at i t;lia
   | inr j=>
     have T:=he.pl j rfl;rw[ZS T] at i;have t:=b1 j T;rw[ZS T] at t;unfold mkV at i t;rw[if_neg (by simp)] at i;rw[if_pos rfl] at t;cases N with
     | inl y=> unfold plV at i t;simp only at i t;lia
     | inr k=>
       have hk:=M.pl k rfl;rw[ZS hk] at t;unfold mkV at t;by_cases e:k=j;. rw[e]
       . rw[if_neg (λq=>e (Option.some.inj q))] at t;exact absurd t (by decide)
 rw[hp]
theorem A0e (h:OkE ys A) (s:P4 A) (he:AC A.lf n=al e):EntK A.st e:=by have x:=(BJ h.keys).mp he;exact#[λk hk=>h.place _ x k hk,(h.from_ _ x).1,(h.from_ _ x).2,s.2.2.2 _ x]
theorem rV (hA:OkE ys A) (hB:OkE ys B) (p:P4 A) (t:P4 B) (h:∀n,AC A.lf n=AC B.lf n):A.lf=B.lf:=by rw[<-p.2.2.1,<-t.2.2.1];exact Z7 hA.keys hB.keys λn e=>by rw[<-BJ hA.keys,<-BJ hB.keys,h]
theorem wY (hA:OkE ys A) (hB:OkE ys B) (c:P4 A) (j:P4 B) (h:A≠B):∃w∈GB A [A,B],Dif (al A) (al B) (AA w):=by
 have T:wM am A.st∈GB A [A,B]:=by unfold GB;simp
 have Y:wM am B.st∈GB A [A,B]:=by unfold GB;simp
 by_cases h1:∃n,n∈B.st/\n∉A.st;. obtain⟨n,hb,g⟩:=h1;refine#[_,T,?_];rw[EE];exact .one (KH hA) λq=>by have:=q.1 n hb;rw[ZR g] at this;cases this
 by_cases O:∃n,n∈A.st/\n∉B.st;. obtain⟨n,g,hb⟩:=O;refine#[_,Y,?_];rw[EE];exact .two (λq=>by have:=q.1 n g;rw[ZR hb] at this;cases this) (KH hB)
 have i:A.st=B.st:=by rw[<-c.1,<-j.1];exact W1 hA.st.1 hB.st.1 λn=>#[λx=>a8X λy=>O #[n,x,y],λx=>a8X λy=>h1 #[n,x,y]]
 by_cases J:∃n,n∈A.fr/\n∉B.fr
 . obtain⟨n,g,hb⟩:=J;refine#[wM am (A.st++[n]),by unfold GB;simp only[yW,List.mem_flatMap];exact .inl (.inr #[A,by simp,zL.mpr #[n,g,rfl]]),?_];rw[EE];refine .two (λq=>by have:=q.2 n g;rw[LQ (by simp)] at this;cases this) #[λk hk=>by rw[LQ (by rw[i];exact yW.mpr (.inl hk))];rfl,λk hk=>ZR λq=>?_];rcases yW.mp q with q | q;. rw[i] at q;exact hB.apart k q hk
   . rw[List.mem_singleton.mp q] at hk;exact hb hk
 by_cases I:∃n,n∈B.fr/\n∉A.fr
 . obtain⟨n,hb,g⟩:=I;refine#[wM am (A.st++[n]),by unfold GB;simp only[yW,List.mem_flatMap];exact .inl (.inr #[B,by simp,zL.mpr #[n,hb,rfl]]),?_];rw[EE];refine .one #[λk hk=>by rw[LQ (yW.mpr (.inl hk))];rfl,λk hk=>ZR λq=>?_] (λq=>by have:=q.2 n hb;rw[LQ (by simp)] at this;cases this);rcases yW.mp q with q | q;. exact hA.apart k q hk
   . rw[List.mem_singleton.mp q] at hk;exact g hk
 have L:A.fr=B.fr:=by rw[<-c.2.1,<-j.2.1];exact W1 hA.fr.1 hB.fr.1 λn=>#[λx=>a8X λy=>J #[n,x,y],λx=>a8X λy=>I #[n,x,y]]
 by_cases M:∀n,AC A.lf n=AC B.lf n
 . exact absurd (by
     have:=rV hA hB c j M;obtain⟨x,y,k⟩:=A;obtain⟨x',y',Z⟩:=B;cases i;cases L;cases this;rfl) h
 obtain⟨n,hn⟩:=Classical.not_forall.mp M;have X:∀m,okV B (gM m A.st):=λm=>by rw[i];exact KH hB
 have Q:∀m,CL B (gM m A.st) n=(AC B.lf n).map (enV (gM m A.st)):=λm=>by rw[i];exact rS hB
 have r:∀m,(AC A.lf n).map (enV (gM m A.st))≠(AC B.lf n).map (enV (gM m A.st))->Dif (al A) (al B) (gM m A.st):=λm q=>.inr #[A,B,n,rfl,rfl,KH hA,X m,by rw[rS hA,Q m];exact q];cases t:AC A.lf n with
 | none=>
   cases p:AC B.lf n with
   | none=>rw[t,p] at hn;exact absurd rfl hn
   | some f=>exact#[_,T,by rw[EE];exact r am (by rw[t,p];exact λq=>nomatch q)]
 | some e=>
   cases p:AC B.lf n with
   | none=>exact#[_,T,by rw[EE];exact r am (by rw[t,p];exact λq=>nomatch q)]
   | some f=>
     by_cases S:enV (gM am A.st) e=enV (gM am A.st) f
     . by_cases G:∀z∈A.st,enV (gM (al z) A.st) e=enV (gM (al z) A.st) f;. rw[t,p,rT (A0e hA c t) (by rw[i];exact A0e hB j p) S G] at hn;exact absurd rfl hn
       . obtain⟨z,N⟩:=Classical.not_forall.mp G;obtain⟨U,N⟩:=Classical.not_imp.mp N;exact#[wM (al z) A.st,by unfold GB;simp only[yW];exact .inr (zL.mpr #[z,U,rfl]),by rw[EE];exact r _ (by rw[t,p];exact λq=>N (Option.some.inj q))]
     . exact#[_,T,by rw[EE];exact r am (by rw[t,p];exact λq=>S (Option.some.inj q))]
theorem wZ (t:∀E,a=al E->OkE ys E) (i:∀E,b=al E->OkE ys E) (I:∀E,a=al E->P4 E) (r:∀E,b=al E->P4 E) (h:a≠b):∃w∈KN a b,Dif a b (AA w):=by
 cases a with
 | none=>
   cases b with
   | none=>exact absurd rfl h
   | some B=>exact#[wM am B.st,by unfold KN FN GB;simp,.inl λq=>ZQ (q.mpr (by rw[EE];exact HJ.mpr (KH (i B rfl))))]
 | some A=>
   cases b with
   | none=>exact#[wM am A.st,by unfold KN FN GB;simp,.inl λq=>ZQ (q.mp (by rw[EE];exact HJ.mpr (KH (t A rfl))))]
   | some B=>exact wY (t A rfl) (i B rfl) (I A rfl) (r B rfl) λe=>h (by rw[e])
theorem WC (h:There zs w) (hz:zs.length < 60) (hD:∀D∈Ds,D.real/\∀x∈D.names,x∈zs):∀v,AY w Ds=al v->(v.map (·.1)).Nodup:=λv e=>(F4 h hz hD v e).nd
theorem k8 (hn:AK ys) (hA:∀D∈As,AN ys D) (hB:∀D∈Bs,AN ys D) (h:There zs w) (hs:∀y∈ys,y∈zs) (hz:zs.length < 60) (d:Dif (AX As) (AX Bs) (AA w)):bhO w As≠bhO w Bs:=by
 have j:=CG hn w _ As rfl hA;have e:=CG hn w _ Bs rfl hB;rcases d with d | ⟨A,B,n,t,p,i,r,d⟩
 . exact A2b j e d
 . rw[t] at j;rw[p] at e;exact A2c j e (WC h hz λD hD=>#[(hA D hD).1,λx hx=>hs x ((hA D hD).2 x hx)]) (WC h hz λD hD=>#[(hB D hD).1,λx hx=>hs x ((hB D hD).2 x hx)]) i r d
end
end DL
namespace DL
open PySem PySem.Spec L2 XC
section
theorem rW (T:rowQ16 w Ds) (hb:BC w (Ds.take k)) (hk:k<=Ds.length):DY (wsF w Ds k)/\KU (wsF w Ds k):=by
 have L:=T.few;obtain⟨t,n,_⟩:=K6 (k:=k) hb T.fine (by rw[a0J];lia) (by rw[a0J];lia);have e:wsF w (Ds.take k) k=wsF w Ds k:=by unfold wsF;rw[List.take_take,Nat.min_self]
 rw[e] at t n;exact#[t,t.1.nodup,by lia]
end
end DL
namespace L2
open PySem PySem.Spec PyProof.Rows
theorem cS (l:Addr) (items:Array ao) (n:Nat) (b:Addr) (e:Array ao) (p:Nat) (dd:Option Addr) (sl:Array (Option ao)) (y:¬(!items.isEmpty&&b2J (items.size+e.size))=ap) (i:items.size<=aB) (t:items.size+e.size<=aB+1) :
   Meets (Builtin.«list.__iadd__» #[[.ref l,.ref b],[]]) (λ_ R s=>s.heap.get? l=al { cls:=.type "list", dict:=am,data:=.seq items n,slots:=#[] }/\s.heap.get? b=al { cls:=.type "list", dict:=dd,data:=.seq e p,slots:=sl }/\R (.ok (.ret (a0X l))) { s with heap:=s.heap.update l (a7Z λx=>x++e),toks:=s.toks }):=
 .of_wp λprog w A R s h=>by
   obtain⟨hp,g,d,u,q⟩:=s;obtain⟨r,hb,h⟩:=h;have c:=AutoSeq1.idx_int;have Q:=AutoSeq1.sub_tuple_tuple;have f:=AutoSeq1.sub_list_list;have j:=AutoSeq1.sub_tuple_list;have k:=AutoSeq1.sub_list_tuple;have m:(items++e).size<=aB+1:=by rw[Array.size_append];exact t
   wp_walk using (wpAny_updateSeq r rfl (hz:=i) (_hz':=m)),eH r,eH hb;exact#[_,rfl,h]
theorem UM:ea (.type "list") (dunderI "add")=pure (al (.builtin "list.__iadd__")):=by rw[jj,fk];kernel_rfl
theorem xA (g:s.TypeIs a "list") (hb:s.TypeIs b "list") (hc:wpAny M A (call (.builtin "list.__iadd__") [a,b]) Q E s):wpAny M A (inplaceOp .Add a b) Q E s:=by
 unfold inplaceOp;refine bt ?_;have S:fillsInplaceSlot (.type "list") "add" (Operator.Add==.Add)=pure false:=by unfold fillsInplaceSlot;show(ea (.type "list") (dunderI "add") >>= λe=>pure (e.isSome&&!isSeqSlot e))=pure aw;rw[UM];kernel_rfl
 have c:seqSlot? (.type "list") (dunderI "add")=pure (al (.builtin "list.__iadd__")):=by unfold seqSlot?;rw[UM];kernel_rfl
 refine zZ (eo g (zZ (fz S ?_)));show wpAny M A (if aw=ap then _ else _) Q E s;rw[if_neg nft];refine zZ (wpAny_binaryOp1_none (nm:= "add") g hb noFill_list_add ?_);refine zZ (fz c ?_);exact zZ (db hc)
section
def cT (K:Frg):R2:=λx y H Q=>∃l b t e,x = .ref l/\y = .ref b/\H l=al (.lst t)/\SqL K H b e/\t.length+e.length<=aB/\Q (.ref l) (upd H l (.lst (t++e)))
theorem rX {K:Frg}(hK:X.K=K):PIp X .Add (cT K):=by
 subst hK;intro pins s D H x y v u Q I g Z h;obtain⟨l,b,O,S,rfl,rfl,hH,hB,T,q⟩:=h;cases g;cases Z;obtain⟨z,t,n,r,k,e⟩:=I.lstM hH;obtain⟨i,M,c,_⟩:=I.list hB;have N:=M.length;obtain⟨⟨cls,j,data,sl⟩,f,ho,hc,m,hd⟩:=id c;dsimp only at hc m hd;subst hc m hd;have hsz:t.toArray.size+i.toArray.size<=sizeLine:=by rw[zJ,zJ];lia
 have p:¬(!t.toArray.isEmpty&&b2J (t.toArray.size+i.toArray.size))=true:=by rw[lV hsz,Bool.and_false];exact nft
 refine xA #[_,e,rfl] #[_,ho,rfl] (call_meets F.slot_list_iadd #[_,e,rfl] F.entry_list_iadd (F.args_list_iadd_2 _ _) (cS l t.toArray n b i.toArray f am sl p (by rw[zJ];lia) (by lia)) #[e,ho,?_]);refine#[.ref l,_,I.lset (its':=t++i) hH e (by simp) (r.append M) ?_,rfl,q];rw[yY];lia
end
end L2
namespace DL
open PySem PySem.Spec L2
theorem A2d {X:Cx}{K:Frg}(hK:X.K=K):PIp X .Add (cT K):=rX hK
theorem rY (m:M a=al (.l ds)) (hz:ds.length+es.length<=aB) (q:Q (.loc a) (M.put a (.l (ds++es)))):D2 K (cT K) (.loc a) (.d (.list es)) M Q:=λH v u QQ e t n k=>by unfold SI at t;subst t;obtain⟨i,S,hd⟩:=e a _ m;unfold SI DV at n;obtain⟨b,p,rfl,r,hd2⟩:=n;obtain⟨x,y⟩:=GQ e m (hd.append hd2);exact#[a,b,i,p,rfl,rfl,S,r.sq,by rw[hd.length,hd2.length];exact hz,k _ _ (.loc a) _ x rfl y q]
end DL
namespace DL
open PySem PySem.Spec L2 XC
section
variable {M:Own}{Q:DS->Own->Prop}{ys l:List Str}{A B E:Eff}{a b:Option Eff}{w u v:List Th}{D:Deed}{As Bs Ds:List Deed}{n z:Str}{m:Option Str}{p:Addr}{ts:List Th}{es:List (Str×Ent)}
theorem OX:∀{x y:List (Str×PyData)},AF x=AF y->x=y
 | [],[],_=>rfl
 | [],_::_,h=>nomatch h
 | _::_,[],h=>nomatch h
 | (a,b)::r,(c,d)::s,h=>by simp only[AF,zI,List.cons.injEq,Prod.mk.injEq,PyData.str.injEq] at h;obtain⟨⟨rfl,rfl⟩,h⟩:=h;rw[OX h]
theorem RV:∀{ts:List (Str×PyData)}{t:Str×PyData},(ts.map (·.1)).Nodup->t∈ts->BK ts t.1=al t.2
 | x::r,t,nd,h=>by
   obtain⟨h1,i⟩:=xV.mp nd;rcases yX.mp h with rfl | h;. unfold BK;exact if_pos rfl
   . unfold BK;rw[if_neg (λe=>h1 (zL.mpr #[t,h,e.symm]))];exact RV i h
def RW (ts:List (Str×PyData)):PyData->PyData | .str n=>(match BK ts n with | some (.tuple ds)=>.tuple (.str n::ds) | _=>.none) | d=>d
def A4g (d:PyData):Prop:=∃ds,d = .tuple ds/\ds.length<=9
def BM:FSp:=#[λe M=>∃(p:Addr) (ts:List (Str×PyData)),e=[.loc p]/\M p=al (.d (AF ts))/\(ts.map (·.1)).Nodup/\ts.length < 64/\∀t∈ts,A4g t.2,
 λe M y i=>∀(p:Addr) (ts:List (Str×PyData)),e=[.loc p]->M p=al (.d (AF ts))->∃h:List Str,h.Perm (ts.map (·.1))/\xG h=ap/\y = .d (.tuple ((h.map a0K).map (RW ts)))/\i=M]
theorem ZT {ts:List (Str×PyData)}{ss:List Str}(h:∀s∈ss,RW ts (.str s)=f (.str s)):(ss.map a0K).map (RW ts)=(ss.map a0K).map f:=
 yM λd hd=>by obtain⟨s,hs,rfl⟩:=zL.mp hd;exact h s hs
theorem GH (m:M p=al (tsO ts)) (nd:(ts.map (·.1)).Nodup) (c:ts.length < 64) (q:Q (.d (wD (BB ts))) M):[DS.loc p].length=1/\BM.pre [.loc p] M/\∀x r,BM.post [.loc p] M x r->Q x r:=by
 have e:(tsD ts).map (·.1)=ts.map (·.1):=by unfold tsD;rw[zD];rfl
 refine#[rfl,#[p,tsD ts,rfl,m,by rw[e];exact nd,by unfold tsD;rw[zX];exact c,λt i=>?_],λx r h=>?_];. unfold tsD at i;obtain⟨s,_,rfl⟩:=zL.mp i;exact#[_,rfl,yD rfl]
 . obtain⟨k,h1,j,rfl,rfl⟩:=h p (tsD ts) rfl m;rw[e] at h1;rw[ZT (f:=eY ts) λs hs=>by
     obtain⟨t,i,g⟩:=zL.mp (h1.mem_iff.mp hs);have c:AA ts s=al t.2:=by rw[<-g];exact BY nd i
     simp only[RW,eY,AR,c];rfl,iQ nd h1 j];exact q
theorem KZ (m:M p=al (SV es)) (nd:(es.map (·.1)).Nodup) (c:es.length < 64) (q:Q (.d (.tuple ((CU es).map lfE))) M):[DS.loc p].length=1/\BM.pre [.loc p] M/\∀x i,BM.post [.loc p] M x i->Q x i:=by
 have e:(KM es).map (·.1)=es.map (·.1):=by rw[zD];rfl
 refine#[rfl,#[p,KM es,rfl,m,by rw[e];exact nd,by rw[zX];exact c,λt g=>?_],λx i h=>?_];. obtain⟨s,_,rfl⟩:=zL.mp g;exact#[_,rfl,yD rfl]
 . obtain⟨j,h1,r,rfl,rfl⟩:=h p (KM es) rfl m;rw[e] at h1;rw[ZT (f:=qK es) λs hs=>by obtain⟨v,S⟩:=qJ (h1.mem_iff.mp hs);simp only[RW,qK,HD,S,AI];rfl,jG,fG h1 r];exact q
def mkD (m:Option Str):PyData:=match m with | some z=>.str z | none=>.none
def mkX (l:List Str) (m:Option Str):List DS:=[.d (AQ l),.d (mkD m)]
theorem xB (e:mkX l m=mkX f t):l=f/\m=t:=by
 simp only[mkX,List.cons.injEq,DS.d.injEq,and_true] at e;refine#[FK e.1,?_];have j:=e.2;cases m <;> cases t <;> simp only[mkD] at j;. rfl
 . cases j
 . cases j
 . cases j;rfl
structure MkQ (l:List Str) (m:Option Str):Prop where
 nm:∀n∈l,CQ n
 mark:∀z,m=al z->CQ z
 few:l.length < 60
def KI:FSp:=#[λt M=>∃(l:List Str) (m:Option Str),t=mkX l m/\MkQ l m,λt M y i=>∀(l:List Str) (m:Option Str),t=mkX l m->y = .d (wD (wM m l))/\i=M]
theorem IE (h:MkQ l m) (q:Q (.d (wD (wM m l))) M):(mkX l m).length=2/\KI.pre (mkX l m) M/\∀y i,KI.post (mkX l m) M y i->Q y i:=#[rfl,#[l,m,rfl,h],λy i e=>by obtain⟨rfl,rfl⟩:=e l m rfl;exact q]
def mkF (m:Option Str):PyData->PyData | .str n=>pcD (mkV m n).1 (mkV m n).2 | d=>d
theorem k9 (m:Option Str) (l:List Str):JA RL (mkF m) (l.map .str)=tsD (OW m l):=by
 have e:∀(l:List Str) (ts:List Th),(l.map a0K).foldl (λts d=>HR ts (RL d) (mkF m d)) (tsD ts)=tsD (l.foldl (mkP m) ts):=λl=>by
   induction l with
   | nil=>exact λts=>rfl
   | cons x r U=> intro ts;show(r.map a0K).foldl _ (HR (tsD ts) x (pcD (mkV m x).1 (mkV m x).2))=_;rw[CB];exact U _
 exact e l []
def wO (o:Option (List Th)):PyData:=match o with | some w=>wD w | none=>.none
theorem LR {e:Type}{f:e->PyData}(h:∀x,plD (f x)=ap):∀l:List e,plAll (l.map f)=ap
 | []=>rfl
 | x::l=>by rw[zI];unfold plAll;rw[h x,LR h l];rfl
theorem gE {ys:List PyData}(h1:plAll xs=ap) (t:plAll ys=ap) (e:a0W (.tuple xs) (.tuple ys)=ap):b9V xs = .tuple ys:=c7 _ _ (by unfold plD;exact h1) (by unfold plD;exact t) e
theorem xC (T:rowQ16 w Ds) (h:bhO w Ds=al v):DY v:=by
 rcases N9 T Ds.length (zR _) with ⟨u,h1,e⟩ | ⟨h1,_⟩
 . have hb:=(PV T e).1;rw[gB T hb] at h;cases h;exact(rA #[T.fine,hb,T.few]).1
 . unfold bhO at h;rw[h1] at h;cases h
theorem O5 (T:rowQ16 w Ds):zH (wO (bhO w Ds))=true:=by
 cases e:bhO w Ds with
 | none=>rfl
 | some v=>exact NZ (xC T e)
theorem A2e (h1:rowQ16 w As) (c:rowQ16 w Bs):(!a0W (wO (bhO w As)) (wO (bhO w Bs)))=decide (bhO w As≠bhO w Bs):=by
 cases i:bhO w As with
 | none=>
   cases r:bhO w Bs with
   | none=>rfl
   | some v=>rfl
 | some u=>
   cases r:bhO w Bs with
   | none=>rfl
   | some v=>
     by_cases e:u=v;. subst e;rw[EI (by have:=O5 h1;rw[i] at this;exact this),decide_eq_false (by simp)];rfl
     . rw[decide_eq_true (p:=al u≠al v) (λq=>e (Option.some.inj q)),Bool.not_eq_true'];refine Bool.eq_false_iff.mpr λq=>e (NU (gE (LR (λt=>rfl) u) (LR (λt=>rfl) v) q))
theorem A2f (t:Str×Ent):plD (lfE t)=true:=by obtain⟨n,p,q,c⟩:=t;have:plAll (q.map a0K)=true:=LR (λ_=>rfl) q;cases p <;> simp[lfE,plE,AQ,plD,plAll,this]
theorem rZ (E:Eff):plD E.d=true:=by have h1:plAll (E.st.map a0K)=true:=LR (λ_=>rfl) _;have e:plAll (E.fr.map a0K)=true:=LR (λ_=>rfl) _;have J:plAll (E.lf.map lfE)=true:=LR A2f _;simp[Eff.d,AQ,plD,plAll,h1,e,J]
theorem gF (hn:AK ys) (h1:∀E,a=al E->OkE ys E):a0W (efO a) (efO a)=true:=EI (HG hn h1)
theorem gG (e:a≠b):a0W (efO a) (efO b)=false:=by
 cases a with
 | none=>
   cases b with
   | none=>exact absurd rfl e
   | some F=>rfl
 | some E=>
   cases b with
   | none=>rfl
   | some F=>exact Bool.eq_false_iff.mpr λq=>e (by rw[EV (c7 _ _ (rZ E) (rZ F) q)])
def IF:FSp:=#[λt M=>∃(w:List Th) (Ds:List Deed),t=EW w Ds/\rowQ16 w Ds,λt M y i=>∀(w:List Th) (Ds:List Deed),t=EW w Ds->y = .d (wO (bhO w Ds))/\i=M]
theorem L0 (h:rowQ16 w Ds) (q:Q (.d (wO (bhO w Ds))) M):(EW w Ds).length=2/\IF.pre (EW w Ds) M/\∀y i,IF.post (EW w Ds) M y i->Q y i:=#[rfl,#[w,Ds,rfl,h],λy i e=>by obtain⟨rfl,rfl⟩:=e w Ds rfl;exact q]
def B1 (Ds:List Deed):PyData:=.tuple (Ds.map Deed.d)
theorem F5 (e:B1 As=B1 Bs):As=Bs:=EK (by unfold B1 at e;rw[e])
def prX (w:List Th) (As Bs:List Deed):List DS:=[.d (wD w),.d (B1 As),.d (B1 Bs)]
theorem xD (e:prX w As Bs=prX f t i):w=f/\As=t/\Bs=i:=by simp only[prX,List.cons.injEq,DS.d.injEq,and_true] at e;exact#[NU e.1,F5 e.2.1,F5 e.2.2]
def KJ:FSp:=#[λt M=>∃(w:List Th) (As Bs:List Deed),t=prX w As Bs/\rowQ16 w As/\rowQ16 w Bs,λt M y i=>∀(w:List Th) (As Bs:List Deed),t=prX w As Bs->y = .d (.bool (decide (bhO w As≠bhO w Bs)))/\i=M]
theorem WE (h1:rowQ16 w As) (e:rowQ16 w Bs) (q:Q (.d (.bool (decide (bhO w As≠bhO w Bs)))) M):(prX w As Bs).length=3/\KJ.pre (prX w As Bs) M/\∀y i,KJ.post (prX w As Bs) M y i->Q y i:=#[rfl,#[w,As,Bs,rfl,h1,e],λy i t=>by obtain⟨rfl,rfl⟩:=t w As Bs rfl;exact q]
def tyX (a b:Option Eff):List DS:=[.d (efO a),.d (efO b)]
structure TryQ (ys:List Str) (a b:Option Eff):Prop where
 nm:AK ys
 one:∀E,a=al E->OkE ys E
 two:∀E,b=al E->OkE ys E
 any:FN a b≠[]
theorem xE (e:tyX a b=tyX k j):a=k/\b=j:=by simp only[tyX,List.cons.injEq,DS.d.injEq,and_true] at e;exact#[fI e.1,fI e.2]
def PX:FSp:=#[λt M=>∃(ys:List Str) (a b:Option Eff),t=tyX a b/\TryQ ys a b,λt M y i=>∀a b:Option Eff,t=tyX a b->y = .d (.list ((KN a b).map wD))/\i=M]
theorem cU (h:TryQ ys a b) (q:Q (.d (.list ((KN a b).map wD))) M):(tyX a b).length=2/\PX.pre (tyX a b) M/\∀y i,PX.post (tyX a b) M y i->Q y i:=#[rfl,#[ys,a,b,rfl,h],λy i e=>by obtain⟨rfl,rfl⟩:=e a b rfl;exact q]
def alX (As Bs:List Deed):List DS:=[.d (B1 As),.d (B1 Bs)]
theorem xF (e:alX As Bs=alX t i):As=t/\Bs=i:=by simp only[alX,List.cons.injEq,DS.d.injEq,and_true] at e;exact#[F5 e.1,F5 e.2]
structure AlQ (ys:List Str) (As Bs:List Deed):Prop where
 nm:AK ys
 one:∀D∈As,AN ys D
 two:∀D∈Bs,AN ys D
 few:ys.length+1+As.length < 60/\ys.length+1+Bs.length < 60
def NA (w:List Th):PyData:=.tuple [.str (a0Q "parted"),wD w]
def RX:PyData:=.tuple [.str (a0Q "alike")]
def alR (As Bs:List Deed) (d:PyData):Prop:=(AX As=AX Bs/\d=RX)\/(AX As≠AX Bs/\∃w∈KN (AX As) (AX Bs),bhO w As≠bhO w Bs/\d=NA w)
def HK:FSp:=#[λt M=>∃(ys:List Str) (As Bs:List Deed),t=alX As Bs/\AlQ ys As Bs,λt M y i=>∀As Bs:List Deed,t=alX As Bs->(∃d,y = .d d/\alR As Bs d)/\i=M]
theorem EX (h:AlQ ys As Bs) (q:∀d,alR As Bs d->Q (.d d) M):(alX As Bs).length=2/\HK.pre (alX As Bs) M/\∀y i,HK.post (alX As Bs) M y i->Q y i:=#[rfl,#[ys,As,Bs,rfl,h],λy i e=>by obtain⟨⟨d,rfl,h1⟩,rfl⟩:=e As Bs rfl;exact q d h1]
theorem gH (h:TryQ ys a b) (hE:E∈FN a b):OkE ys E:=by
 unfold FN at hE;rw[List.mem_filterMap] at hE;obtain⟨o,ho,e⟩:=hE;have e:o=al E:=e;subst e;rcases yX.mp ho with e | ho;. exact h.one E e.symm
 . exact h.two E (List.mem_singleton.mp ho).symm
theorem WF (h:TryQ ys a b) (e:w∈KN a b):∃m l,w=wM m l/\(∀n∈l,n∈ys)/\l.length<=ys.length+1:=by
 have G:∀E∈FN a b,OkE ys E:=λE hE=>gH h hE;unfold KN at e;revert e G;cases FN a b with
 | nil=>exact λe _=>nomatch e
 | cons E r=>
   intro e G;have hE:=G E a0Z;have few:∀{F:Eff},OkE ys F->F.st.length<=ys.length:=λ{F} hF=>JG hF.st.1 hF.st.2;simp only[GB,yW,List.mem_flatMap,zL] at e;rcases e with (⟨F,hF,rfl⟩ | ⟨F,hF,k,hk,rfl⟩) | ⟨k,hk,rfl⟩
   . exact#[am,F.st,rfl,(G F hF).st.2,Nat.le_succ_of_le (few (G F hF))]
   . refine#[am,E.st++[k],rfl,λn hn=>?_,by rw[yY];exact Nat.succ_le_succ (few hE)];rcases yW.mp hn with q | q;. exact hE.st.2 n q
     . rw[List.mem_singleton.mp q];exact(G F hF).fr.2 k hk
   . exact#[al k,E.st,rfl,hE.st.2,Nat.le_succ_of_le (few hE)]
theorem A2g (s:Str) (m:Option Str):a0W (.str s) (mkD m)=decide (al s=m):=by
 cases m with
 | none=>rfl
 | some z=> show a0W (.str s) (.str z)=_;rw[BQ,a3Q,decide_eq_true_iff,beq_iff_eq,Option.some.injEq]
theorem kB (h:∀z,m=al z->CQ z):zH (mkD m)=true:=by
 cases m with
 | none=>rfl
 | some z=>exact BX (h z rfl)
theorem xK (h:al s=m):mkF m (.str s) = .tuple [.int 1,.int 1]:=by simp only[mkF,mkV,if_pos h];rfl
theorem A2h (h:¬al s=m):mkF m (.str s) = .tuple [.int 0,.int 0]:=by simp only[mkF,mkV,if_neg h];rfl
def A3z (d:PyData):Bool:=!DO d
theorem kC:(([efO a,efO b].filter A3z).map id)=(FN a b).map Eff.d:=by cases a <;> cases b <;> rfl
def stF:PyData->PyData | .tuple (.tuple l::_)=>wD (wM am (l.map RL)) | d=>d
def frF:PyData->List PyData | .tuple [_,.tuple l,_]=>l | _=>[]
theorem xO (l:List Str):(l.map a0K).map RL=l:=by rw[zD];exact b2Q _
theorem gI (E:Eff):stF E.d=wD (wM am E.st):=by show wD (wM am ((E.st.map a0K).map RL))=_;rw[xO]
theorem xS (l:List Eff):(l.map Eff.d).map stF=(l.map λF=>wM am F.st).map wD:=by rw[zD,zD];exact yM λE _=>gI E
def yA (st:List Str) (e:PyData):PyData:=wD (wM am (st++[RL e]))
theorem yE (st:List Str) (l:List Eff):((l.map Eff.d).flatMap λd=>(frF d).map (yA st))=(l.flatMap λF=>F.fr.map λn=>wM am (st++[n])).map wD:=by rw[List.flatMap_map,List.map_flatMap];refine congrArg (λf=>l.flatMap f) (funext λF=>?_);show(F.fr.map a0K).map (yA st)=(F.fr.map λn=>wM am (st++[n])).map wD;rw[zD,zD];rfl
def A4A (st:List Str) (e:PyData):PyData:=wD (wM (al (RL e)) st)
theorem sC (st:List Str):(st.map a0K).map (A4A st)=(st.map λn=>wM (al n) st).map wD:=by rw[zD,zD];rfl
theorem cV (a b:Option Eff):(FN a b).length<=2:=by cases a <;> cases b <;> simp[FN]
theorem sD (h:FN a b=E::r):KN a b=GB E (E::r):=by unfold KN;rw[h]
theorem cW (hn:AK ys) (h:∀n∈l,n∈ys) (r:l.length<=27) (x:∀z,m=al z->z∈ys):MkQ l m:=#[λn q=>hn.1 n (h n q),λz q=>hn.1 z (x z q),by lia]
theorem yK (h:AlQ ys As Bs) (hq:TryQ ys (AX As) (AX Bs)) (i:w∈KN (AX As) (AX Bs)):rowQ16 w As/\rowQ16 w Bs:=by obtain⟨m,l,rfl,h1,t⟩:=WF hq i;have e:=gA (m:=m) λn q=>h.nm.1 n (h1 n q);have r:=zN (A2a (m:=m) (l:=l)) t;have:=h.few;exact#[#[e,by lia,λD hD=>(h.one D hD).1],#[e,by lia,λD hD=>(h.two D hD).1]]
theorem O6 (h:AlQ ys As Bs) (e:AX As≠AX Bs):TryQ ys (AX As) (AX Bs)/\∃(J:Nat) (w:List Th),(KN (AX As) (AX Bs))[J]?=al w/\bhO w As≠bhO w Bs:=by
 have t:=JJ h.nm h.one;have g:=JJ h.nm h.two;obtain⟨Z,x,r⟩:=wZ t g (ZB h.nm h.one) (ZB h.nm h.two) e;have hq:TryQ ys (AX As) (AX Bs):=⟨h.nm,t,g,λq=>by unfold KN at x;rw[q] at x;cases x⟩
 obtain⟨J,hJ⟩:=List.mem_iff_getElem?.mp x;obtain⟨m,l,i,h1,_⟩:=WF hq x;have:=h.few;exact#[hq,J,Z,hJ,k8 h.nm h.one h.two (zs:=ys) (by rw[i];exact ZN h1) (λ_ q=>q) (by lia) r]
theorem sE (hn:AK ys) {L:List Eff}(hL:L.length<=2) (h:∀F∈L,OkE ys F):((L.map Eff.d).flatMap λd=>(frF d).map (yA st)).length<=60:=by refine zN (ZF (n:=26) λd hd=>?_) (by rw[zX];lia);obtain⟨F,hF,rfl⟩:=zL.mp hd;rw[zX];show(F.fr.map a0K).length<=26;rw[zX];exact DZ hn (h F hF).fr
end
end DL
namespace DL
open PySem PySem.Spec L2 XC
section
variable {X:Cx}{K:Frg}{M:Own}{ρ:List (Option DS)}{t u v:TS}{D E:EndsD}{x:DS}{a:eu}{r:List eu}{Φ:TS->Prop}
def Nm (X:Cx) (l:List eu) (Φ:TS->Prop):Prop:=∃t,PSs X l t/\Φ t
theorem yO (h:Nm X r λS=>∀x,S=x->∃j,PS X a j/\Φ (l9 j x)):Nm X (a::r) Φ:=by obtain⟨S,h1,e⟩:=h;obtain⟨j,J,n⟩:=e S rfl;exact#[_,Q0 J h1,n]
theorem sF (h:∃j,PS X a j/\Φ j):Nm X [a] Φ:=by obtain⟨j,J,e⟩:=h;exact#[_,MB J,e]
theorem hD (N:List Str) {x:Str}(F:Fun K x qual st f i) (n:FnScope N ps (AB st)) (hb:∀(cdv:ao) (A:ca) (outer:List i3) (s:aq) (H:Hp) (E:XK),Room k (A.deeper (xL qual (AB st) s.heap.objs.size f cdv))->(A.deeper (xL qual (AB st) s.heap.objs.size f cdv)).units+64 < ej->(A.deeper (xL qual (AB st) s.heap.objs.size f cdv)).units+1 < ej->N.Nodup ->
     Nm (HN CX0 P w K mg base N qual (AB st) f cdv A outer s H E).nox (BE st) λt=>∀xs M,xs.length=ps.length->S.pre xs M->DSt K t (LB N xs) M { nx:=λ_ M1=>∃e:Own,e.Sub M1/\S.post xs M (.d .none) e,rt:=λy M1=>∃e:Own,e.Sub M1/\S.post xs M y e }) :
   FnOk P w K mg base CX0 (k+1) f i ps (spD K ps.length S):=
 fnD F n λcdv A outer s H E hr=>hb cdv A outer s H E hr hr.units (zQ (Nat.add_le_add_left (show 1<=64 by decide) _) hr.units) n.nd
theorem hDX (N:List Str) {x:Str}(F:Fun K x qual st f i) (n:FnScope N ps (AB st)) (hb:∀(cdv:ao) (A:ca) (outer:List i3) (s:aq) (H:Hp) (E:XK),Room k (A.deeper (xL qual (AB st) s.heap.objs.size f cdv))->(A.deeper (xL qual (AB st) s.heap.objs.size f cdv)).units+64 < ej->(A.deeper (xL qual (AB st) s.heap.objs.size f cdv)).units+1 < ej->N.Nodup ->
     Nm ((HN (CXE P w) P w K mg base N qual (AB st) f cdv A outer s H E).wish (Fly (HN (CXE P w) P w K mg base N qual (AB st) f cdv A outer s H E) λ_=>E)) (BE st) λt=>
       ∀xs M,xs.length=ps.length->S.pre xs M->DXt K (λ_=>E) t (LB N xs) M { nx:=λ_ M1=>∃e:Own,e.Sub M1/\S.post xs M (.d .none) e,rt:=λy M1=>∃e:Own,e.Sub M1/\S.post xs M y e } λ_ cls fs M1=>∃e:Own,e.Sub M1/\S.xpost xs M cls fs e) :
   FnOk P w K mg base (CXE P w) (k+1) f i ps (spX K ps.length S):=
 A4e F n λcdv A outer s H E hr=>hb cdv A outer s H E hr hr.units (zQ (Nat.add_le_add_left (show 1<=64 by decide) _) hr.units) n.nd
theorem A2i {a:PyData}(q:Q (.d a) M):D2 K (QC K) (.d (.tuple (a::l))) (.d (.int 0)) M Q:=AL (AG (j:=0) rfl) q
theorem A2j {a:PyData}(q:Q (.d b) M):D2 K (QC K) (.d (.tuple (a::b::l))) (.d (.int 1)) M Q:=AL (AG (j:=1) rfl) q
theorem A2k {a:PyData}(q:Q (.d c) M):D2 K (QC K) (.d (.tuple (a::b::c::l))) (.d (.int 2)) M Q:=AL (AG (j:=2) rfl) q
theorem A2l {a:PyData}(q:Q (.d d) M):D2 K (QC K) (.d (.tuple (a::b::c::d::l))) (.d (.int 3)) M Q:=AL (AG (j:=3) rfl) q
theorem A2m {a:PyData}(q:Q (.d e) M):D2 K (QC K) (.d (.tuple (a::b::c::d::e::l))) (.d (.int 4)) M Q:=AL (AG (j:=4) rfl) q
theorem yP (h1:u=v) (h:DSt K u ρ M D):DSt K v ρ M D:=h1▸h
theorem yS {G} {F} (h1:u=v) (h:DXt K G u ρ M D F):DXt K G v ρ M D F:=h1▸h
end
end DL
namespace L2
open PySem PySem.Spec PyProof.Rows
structure Src (P:bn) (w:bj) (K:Frg) (j:Addr) (st:Nat->cr->Prop) (se:Hp->Nat->Prop) (has:Hp->Nat->V->Prop) (out:Hp->Nat->Prop):Prop where
 obj:∀i h,st i h->∃o,h.get? j=al o/\∀v,o.data≠.cell v
 keep:∀i h h',st i h->(∀o,h.get? j=al o->h'.get? j=al o)->st i h'
 item:∀{X:Cx}{pins:List (Addr×cE)}{σ:St}{H:Hp}{s:aq}{i:Nat}{fp:List Addr},Inv X pins σ H s->X.K=K->(∀c∈fp,MC X pins H c)->se H i->st i s.heap->j∈fp ->∃(x:V) (F:List Addr) (S S':cr->Prop) (R:ao->Prop),has H i x/\(∀c∈F,c=j\/c∉fp)/\FA F S/\FA F S'/\(∀A,NxI P w A j S S' R)/\S s.heap/\(∀u,R u->RelV x u)/\∀h,S' h->st (i+1) h
 done:∀{X:Cx}{pins:List (Addr×cE)}{σ:St}{H:Hp}{s:aq}{i:Nat}{fp:List Addr},Inv X pins σ H s->X.K=K->(∀c∈fp,MC X pins H c)->out H i->st i s.heap->j∈fp ->∃(F:List Addr) (S:cr->Prop),(∀c∈F,c=j\/c∉fp)/\FA F S/\(∀A:ca,A.handled=am->NxE P w A j S)/\S s.heap
def Itg (k Z:Hp->Nat->Prop) (h1 e:Hp->Nat->V->Prop) (t n:Hp->Nat->Prop):It:=#[λi H=>k H i/\Z H i,λi H v H'=>∃p a b,H p=am/\v = .ref p/\H'=upd H p (.tup [a,b])/\h1 H i a/\e H i b,λi H=>t H i\/k H i/\n H i]
theorem kD {P:bn}{w:bj}{K:Frg}{mh:List bp}{kk:Nat}{kc:ew}(z TI TO i1 i2:Addr) {s1 s2:Nat->cr->Prop}{c1 c2:Hp->Nat->Prop}{h1 h2:Hp->Nat->V->Prop}{o1 o2:Hp->Nat->Prop}(A1:Src P w K i1 s1 c1 h1 o1) (A2:Src P w K i2 s2 c2 h2 o2) (d1:TI≠z) (d2:TO≠z) (d3:i1≠z) (d4:i2≠z) (d5:TI≠TO) (d6:TI≠i1) (d7:TI≠i2) (d8:TO≠i1) (d9:TO≠i2) (zq:i1≠i2) :
   Turn P w K (.Tuple mh kk kc) (Itg c1 c2 h1 h2 o1 o2) [z,TI,TO,i1,i2] z (λi h=>gg h z TI TO .none/\dm h TI (.ref i1) (.ref i2)/\(∃a b,dm h TO a b)/\s1 i h/\s2 i h) where
 mem:=by simp
 obj:=by
   rintro i h ⟨a1,a2,⟨x,y,a3⟩,a4,a5⟩ b hb;simp only[yX,xW,or_false] at hb;rcases hb with rfl | rfl | rfl | rfl | rfl;. exact⟨_,a1,λv q=>by cases q⟩
   . exact⟨_,a2,λv q=>by cases q⟩
   . exact⟨_,a3,λv q=>by cases q⟩
   . exact A1.obj i h a4
   . exact A2.obj i h a5
 keep:=by rintro i h h' ⟨a1,a2,⟨x,y,a3⟩,a4,a5⟩ k;exact#[k z (by simp) _ a1,k TI (by simp) _ a2,#[x,y,k TO (by simp) _ a3],A1.keep i h h' a4 λo e=>k i1 (by simp) o e,A2.keep i h h' a5 λo e=>k i2 (by simp) o e]
 item:=by
   intro X hP hw hK hc i pins s σ H E I hf #[a1,a2,#[x0,y0,a3],a4,a5] #[hx,hy];subst hP hw;obtain⟨x,F1,S1,sd,R1,pj,f1,t1,yd,n1,q1,r1,e1⟩:=A1.item I hK hf hx a4 (by simp);obtain⟨y,F2,S2,vq,R2,Ol,f2,t2,zf,n2,q2,r2,e2⟩:=A2.item I hK hf hy a5 (by simp);have D:ZAp z TI TO i1 i2 F1 F2:=#[d2,d3,d4,d8,d9,zq,λc hc=>by
       rcases f1 c hc with rfl | hn;. exact#[d3,d8.symm,zq]
       . simp only[yX,xW,or_false,not_or] at hn;exact#[hn.1,hn.2.2.1,hn.2.2.2.2],λc hc=>by
       rcases f2 c hc with rfl | hn;. exact#[d4,d9.symm,zq.symm]
       . simp only[yX,xW,or_false,not_or] at hn;exact#[hn.1,hn.2.2.1,hn.2.2.2.1]]
   refine iH D t1 yd t2 zf n1 n2 a1 a2 a3 q1 q2 (λh q=>let #[o,e,_]:=A1.obj _ h (e1 h q);zM e) (λh q=>let #[o,e,_]:=A2.obj _ h (e2 h q);zM e) λh' tk u1 u2 Om Oo b1 b2 b3 b4 b5 b6 hk=>?_;refine#[_,rfl,wpAny_letOwnedTupleGo_zip (s:={ s with heap:=h',toks:=tk }) b1 λh2 c1 sb=>?_];have lt:∀{c o},s.heap.get? c=al o->s.heap.objs.size≠c:=λe=>a5W (zM e);have keep:∀b o,b∉[z,TO,i1,i2]->s.heap.get? b=al o->h2.get? b=al o:=λb o hb e=>by simp only[yX,xW,or_false,not_or] at hb;exact sb.extBut b o hb.1 (hk b o hb.1 hb.2.1 hb.2.2.1 hb.2.2.2 e)
   have sub:∀b∈[z,TO,i1,i2],b∈[z,TI,TO,i1,i2]:=λb hb=>by simp only[yX,xW,or_false] at hb ⊢;rcases hb with h | h | h | h <;> simp[h]
   have I1:Inv X pins σ (upd H s.heap.objs.size (.tup [x,y])) { s with heap:=h2,toks:=tk }:=I.turnedT (t':=tk) (ch:=[z,TO,i1,i2]) keep (λb hb=>(hf b (sub b hb)).1) (λb hb=>let q:=hf b (sub b hb);#[q.2.2.2.1,q.2.1,q.2.2.2.2.1,q.2.2.2.2.2]) (zR _) #[by show 2<=aB;decide,[u1,u2],.cons (r1 _ Om) (.cons (r2 _ Oo) .nil),#[_,sb.extBut _ _ (lt a1) b5,rfl,_,rfl]];refine#[.ref s.heap.objs.size,_,I1,rfl,#[s.heap.objs.size,x,y,I.hok.fresh (zR _),rfl,rfl,pj,Ol],#[c1,keep _ _ (by simp[d1,d5,d6,d7]) a2,#[_,_,sb.extBut _ _ d2 b2],A1.keep _ _ _ (e1 _ b3) λo e=>sb.extBut _ _ d3 e,A2.keep _ _ _ (e2 _ b4) λo e=>sb.extBut _ _ d4 e],λb hb=>?_];rw[AH λe=>?_];. exact(hf b hb).1
   . obtain⟨o,q,_⟩:∃o,s.heap.get? b=al o/\True:=by
       simp only[yX,xW,or_false] at hb;rcases hb with rfl | rfl | rfl | rfl | rfl;. exact#[_,a1,trivial]
       . exact#[_,a2,trivial]
       . exact#[_,a3,trivial]
       . obtain⟨o,e,_⟩:=A1.obj _ _ a4;exact#[o,e,trivial]
       . obtain⟨o,e,_⟩:=A2.obj _ _ a5;exact#[o,e,trivial]
     exact lt q e.symm
 done:=by
   intro X hP hw hK hc i pins s σ H E I hf #[a1,a2,#[x0,y0,a3],a4,a5] hg;subst hP hw;have sub:∀b∈[z,TO,i1,i2],b∈[z,TI,TO,i1,i2]:=λb hb=>by simp only[yX,xW,or_false] at hb ⊢;rcases hb with h | h | h | h <;> simp[h]
   have mk:∀{F1 F2:List Addr},(∀c∈F1,c=i1\/c∉[z,TI,TO,i1,i2])->(∀c∈F2,c=i2\/c∉[z,TI,TO,i1,i2])->ZAp z TI TO i1 i2 F1 F2:=λf1 f2=>#[d2,d3,d4,d8,d9,zq,λc hc=>by
       rcases f1 c hc with rfl | hn;. exact#[d3,d8.symm,zq]
       . simp only[yX,xW,or_false,not_or] at hn;exact#[hn.1,hn.2.2.1,hn.2.2.2.2],λc hc=>by
       rcases f2 c hc with rfl | hn;. exact#[d4,d9.symm,zq.symm]
       . simp only[yX,xW,or_false,not_or] at hn;exact#[hn.1,hn.2.2.1,hn.2.2.2.1]]
   refine iI (TI:=TI) (TO:=TO) (i1:=i1) (i2:=i2) (I.ok.hd hc) a1 (λQ' E' Hj A' Hk=>?_) λh' tk hk=>#[rfl,I.turnedL (t':=tk) (ch:=[z,TO,i1,i2]) (λb o hb e=>?_) (λb hb=>(hf b (sub b hb)).1) λb hb=>let q:=hf b (sub b hb);#[q.2.2.2.1,q.2.1,q.2.2.2.2.1,q.2.2.2.2.2]]
   . rcases hg with ho | ⟨hx,ho⟩
     . obtain⟨F1,S1,f1,t1,n1,q1⟩:=A1.done I hK hf ho a4 (by simp);exact iF (F2:=[]) (mk f1 (by simp)) t1 (n1 A' Hk) a1 a2 a3 q1 Hj
     . obtain⟨x,F1,S1,sd,R1,_,f1,t1,yd,n1,q1,r1,e1⟩:=A1.item I hK hf hx a4 (by simp);obtain⟨F2,S2,f2,t2,n2,q2⟩:=A2.done I hK hf ho a5 (by simp);exact iG (mk f1 f2) t1 t2 (n1 A') (n2 A' Hk) a1 a2 a3 q1 q2 Hj
   . simp only[yX,xW,or_false,not_or] at hb;exact hk b o hb.1 hb.2.1 hb.2.2.1 hb.2.2.2 e
 self:=λ_ _ _ _ _ st h=>wpAny_pyIter_zip st.1 h
theorem z0 {P:bn}{w:bj}{K:Frg}(j l:Addr):Src P w K j (λi h=>h.IsTupleIter j l i) (λH i=>∃xs,SqT K H l xs/\i < xs.length) (λH i x=>∀xs,SqT K H l xs->xs[i]?=al x) (λH i=>∃xs,SqT K H l xs/\xs.length<=i) where
 obj:=by rintro i h ⟨o,e,c,d⟩;exact⟨o,e,λv q=>by rw[d] at q;cases q⟩
 keep:=λi h h' st k=>st.at k
 item:=by
   intro X pins σ H s i fp I hK hf #[xs,hx,lx] st hj;subst hK;obtain⟨aa,rx,px,_⟩:=I.tuple hx;obtain⟨u,hu,ru⟩:=rx.get (zV lx);have ne:∀c∈fp,l≠c:=λc hc=>QJ I (hf c hc) hx;have t:∀k,FA [j,l] (λh=>h.IsTupleIter j l k/\h.IsTuple l aa.toArray):=by rintro k h h' ⟨⟨o,e,r⟩,⟨o',e',r'⟩⟩ q;exact#[#[o,q j (by simp) o e,r],#[o',q l (by simp) o' e',r']]
   exact#[_,[j,l],_,_,λv=>v=u,λys hy=>by rw[I.tuple_inj hy hx];exact zV lx,λc hc=>by
     rcases yX.mp hc with rfl | hc;. exact .inl rfl
     . have:c=l:=by simpa using hc
       subst this;exact .inr λq=>ne _ q rfl,t i,t (i+1),λA=>nU (ne j hj) (by simpa using hu),#[st,px],λv e=>e▸ru,λh q=>q.1]
 done:=by
   intro X pins σ H s i fp I hK hf #[xs,hx,ex] st hj;subst hK;obtain⟨aa,rx,px,_⟩:=I.tuple hx;have ne:∀c∈fp,l≠c:=λc hc=>QJ I (hf c hc) hx;have hn:aa.toArray[i]?=none:=b9W (by have:=rx.length;simp;omega);exact#[[j,l],λh=>h.IsTupleIter j l i/\h.IsTuple l aa.toArray,λc hc=>by
     rcases yX.mp hc with rfl | hc;. exact .inl rfl
     . have:c=l:=by simpa using hc
       subst this;exact .inr λq=>ne _ q rfl,(by rintro h h' ⟨⟨o,e,r⟩,⟨o',e',r'⟩⟩ q;exact#[#[o,q j (by simp) o e,r],#[o',q l (by simp) o' e',r']]),λA hA=>jB hA hn,#[st,px]]
theorem z6 {P:bn}{w:bj}{K:Frg}(j:Addr) (x:Str) (t:Tok):Src P w K j (λi h=>h.IsStrIter j "str_ascii_iterator" x t i) (λH i=>i < x.cps.size) (λH i v=>∃c,x.cps[i]?=al c/\v = .str #[(y9 [c])]) (λH i=>x.cps.size<=i) where
 obj:=by rintro i h ⟨o,e,c,d⟩;exact⟨o,e,λv q=>by rw[d] at q;cases q⟩
 keep:=by rintro i h h' ⟨o,e,r⟩ k;exact#[o,k o e,r]
 item:=λI hK hf e st hj=>#[_,[j],_,_,_,#[_,b3K e,rfl],λc hc=>.inl (by simpa using hc),(by rintro h h' ⟨o,e,r⟩ q;exact#[o,q j (by simp) o e,r]),(by rintro h h' ⟨o,e,r⟩ q;exact#[o,q j (by simp) o e,r]),λA=>nT (b3K e),st,λu r=>r,λh q=>q]
 done:=λI hK hf ho st hj=>#[[j],_,λc hc=>.inl (by simpa using hc),(by rintro h h' ⟨o,e,r⟩ q;exact#[o,q j (by simp) o e,r]),λA hA=>iJ hA (b9W ho),st]
def z7 (K:Frg) (H:Hp) (u:V) (f:Hp->Nat->Prop) (has:Hp->Nat->V->Prop) (out:Hp->Nat->Prop):Prop:=(∃l,u = .ref l/\(∃t,SqT K H l t)/\(f=λH i=>∃t,SqT K H l t/\i < t.length)/\(has=λH i x=>∀t,SqT K H l t->t[i]?=al x)/\out=λH i=>∃t,SqT K H l t/\t.length<=i) \/∃x:Str,u = .str x/\x.cps.all (· < 128)=ap/\(f=λ_ i=>i < x.cps.size)/\(has=λ_ i v=>∃c,x.cps[i]?=al c/\v = .str #[(y9 [c])])/\out=λ_ i=>x.cps.size<=i
theorem ZU {m:St}(I:Inv X pins m H s) (h:z7 X.K H u f has out) (r:RelV u v) : ∃(o:cE) (Pre:cr->Prop) (st:Addr->Nat->cr->Prop),QH v o Pre/\(∀h o,Pre h->Pre (h.push o))/\o.isFreed=aw/\Pre s.heap/\∀j,Src X.prog X.w X.K j (st j) f has out/\∀h:cr,h.get? j=al o->st j 0 h:=by
 rcases h with ⟨l,rfl,⟨b,hx⟩,rfl,rfl,rfl⟩ | ⟨x,rfl,hx,rfl,rfl,rfl⟩
 . cases r;obtain⟨n,p,k,_⟩:=I.tuple hx;exact#[_,_,λj i h=>h.IsTupleIter j l i,vA (items:=n.toArray),λh o q=>q.push o,rfl,k,λj=>#[z0 j l,λh e=>#[_,e,rfl,rfl]]]
 . obtain⟨t,rfl⟩:=r;exact#[_,_,λj i h=>h.IsStrIter j "str_ascii_iterator" x t i,iK hx,λh o q=>q,rfl,trivial,λj=>#[z6 j x t,λh e=>#[_,e,rfl,rfl]]]
section
variable {X:Cx}{K:Frg}
def A0f (K:Frg) (j:TA):TI:=λr H R=>j r H λi m=>∃u v k Z h1 e t n,i=[u,v]/\z7 K m u k h1 t/\z7 K m v Z e n/\R (Itg k Z h1 e t n) m
theorem A4B {a b:bp}{j:TA}{p pos:ew}{Z:List bp}{U:Nat}{Y:ew}(h:X.K=K) (hg:Gl X "zip") (L:X.mg "zip"=am) (J:PA X [a,b] j) (hs:starEach [a,b] X.env=[(aw,eval a X.env),(aw,eval b X.env)]:=by rfl) (g:starEach [b] X.env=[(aw,eval b X.env)]:=by rfl) :
   PI X (.Tuple Z U Y) (.Call (.Name "zip" p) [a,b] [] pos) (A0f K j):=by
 subst h;intro pins s σ H R I h;refine Call_ (IX I hg L boot_zip (xH (thn (J pos pins s σ H _ I h) λus t #[vs,k,G,r1,q1]=>?_) (by rw[hs,g]) (by rw[g];rfl)));have i:∀(m n:Nat),m≠n->t.heap.objs.size+m≠t.heap.objs.size+n:=λm n h e=>h (Nat.add_left_cancel e);obtain⟨u,v,c1,c2,h1,h2,o1,o2,rfl,z1,z2,q⟩:=q1;cases r1 with
 | cons r c=>
   cases c with
   | cons r' c=>
     cases c;obtain⟨p1,P1,t1,n1,ud,N,M,Q⟩:=ZU G z1 r;obtain⟨p2,P2,t2,n2,S,O,D,f⟩:=ZU G z2 r';refine iL n1 n2 S N O M D λB b1 x y z T hk=>?_;refine wpAny_pyIter_zip (s:={ t with heap:=B }) b1 ?_;refine#[t.heap.objs.size+4,[t.heap.objs.size+4,t.heap.objs.size+2,t.heap.objs.size+3,t.heap.objs.size,t.heap.objs.size+1],_,_,k,rfl,G.kept (t':=t.toks) hk,
       kD (t.heap.objs.size+4) (t.heap.objs.size+2) (t.heap.objs.size+3) t.heap.objs.size (t.heap.objs.size+1) (Q _).1 (f _).1 (i 2 4 (by decide)) (i 3 4 (by decide)) (i 0 4 (by decide)) (i 1 4 (by decide)) (i 2 3 (by decide)) (i 2 0 (by decide)) (i 2 1 (by decide)) (i 3 0 (by decide)) (i 3 1 (by decide)) (i 0 1 (by decide)),
       #[b1,x,#[_,_,y],(Q _).2 _ z,(f _).2 _ T],λb hb=>?_,q];have hle:t.heap.objs.size<=b:=by simp only[yX,xW,or_false] at hb;rcases hb with rfl | rfl | rfl | rfl | rfl <;> first | exact zR _ | exact c0X _ _
     exact G.fpOk hle (G.hok.fresh hle)
end
end L2
namespace DL
open PySem PySem.Spec L2
section
def A2n (d:PyData) (as:List PyData):Prop:=d = .tuple as\/∃z:Str,d = .str z/\z.cps.all (· < 128)=ap/\as=CO z
theorem ZV (hz:A2n d as) (s:SI K H M (.d d) v):∃f has out,z7 K H v f has out/\∀H' n,Step K M n H H'->(∀i,i < as.length->f H' i)/\(∀i,as.length<=i->out H' i)/\∀i x,has H' i x->∃e,as[i]?=al e/\DV K H' n.W e x:=by
 rcases hz with rfl | ⟨z,rfl,g,rfl⟩
 . unfold SI DV at s;obtain⟨a,m,rfl,r,hd⟩:=s;refine#[_,_,_,.inl #[a,rfl,#[m,r.sq],rfl,rfl,rfl],λH' n t=>#[λi hi=>#[m,(r.grow t.grow).sq,by rw[hd.length];exact hi],λi hi=>#[m,(r.grow t.grow).sq,by rw[hd.length];exact hi],λi x h=>?_]];obtain⟨e,p,j⟩:=hd.get (h m (r.grow t.grow).sq);exact#[e,p,j.grow t.grow]
 . have k:(CO z).length=z.cps.size:=by simp[CO]
   rw[show v = .str z by unfold SI DV at s;exact s];refine#[_,_,_,.inr #[z,rfl,g,rfl,rfl,rfl],λH' n t=>#[λi hi=>by rw[k] at hi;exact hi,λi hi=>by rw[k] at hi;exact hi,?_]];rintro i x ⟨c,p,rfl⟩;exact#[.str #[(y9 [c])],by unfold CO;rw[zF];simp[p],by unfold DV;rfl]
theorem z8 (h:DA K j ρ M λxs M1=>∃d e as bs,xs=[.d d,.d e]/\A2n d as/\A2n e bs/\QI (XN as bs) M1):DI K (A0f K j) ρ M QI:=λσ H R X k=>
 h σ H _ X λvs u xs M1 o1 s1 t1 G=>by
   obtain⟨d,e,as,bs,D,z1,z2,q⟩:=G;subst D;obtain⟨v,r,rfl,h1,v2,r2,rfl,L,U⟩:=s1;cases U;obtain⟨I,B,u1,y1,m⟩:=ZV z1 h1;obtain⟨Z,J,u2,y2,Q⟩:=ZV z2 L;have c:(XN as bs).length=min as.length bs.length:=by unfold XN;rw[zX,List.length_zip]
   refine#[v,v2,I,Z,B,J,u1,u2,rfl,y1,y2,k _ (XN as bs) u M1 o1 t1 #[λi H' t hi b n=>?_,λH' t b n=>?_,λi H' t x H2 b n hi y=>?_] q];. rw[c] at hi;exact#[(m H' t n).1 i (by omega),(Q H' t n).1 i (by omega)]
   . rw[c];by_cases hle:as.length<=bs.length;. exact .inl ((m H' t n).2.1 _ (by omega))
     . exact .inr #[(m H' t n).1 _ (by omega),(Q H' t n).2.1 _ (by omega)]
   . obtain⟨p,T,Y,hp,rfl,rfl,hx,hy⟩:=y;obtain⟨f,z,N⟩:=(m H' t n).2.2 i T hx;obtain⟨g,b1,O⟩:=(Q H' t n).2.2 i Y hy;have S:Grow K t.W t.W H' (upd H' p (.tup [T,Y])):=B0 _ hp;refine#[b.new hp,#[S],.tuple [f,g],?_,?_];. unfold XN;rw[zF,show(as.zip bs)[i]?=al (f,g) by rw[a9Z];exact#[z,b1]];rfl
     . unfold DV;exact#[p,_,rfl,.inl #[λw=>w (b.none hp),.inl AE],DVs.cons (N.grow S) (DVs.cons (O.grow S) DVs.nil)]
end
end DL
namespace L2
open PySem PySem.Spec PyProof.Rows
section
variable {X:Cx}{scope:fc}{NC:List Str}{fr:List (Option Nat)}
theorem sG {c f iter r:bp}{ifs:List bp}{pos:ew}{B:TI}{g:TG}{O:TT}{tk T:TE}{i:Nat}{x:Str}{e M:ew}(hc:X.calm=ap) (hu:X.A.units+1 < ej) (hN:X.N.Nodup) (zd:X.N[i]?=al x) (hx:Loc X.env.scope x) (S:CSc X scope NC fr) (hi:PI X r iter B) (hb:∀(C:Addr) (s:aq) (H:Hp) (p:List Addr) (pn:List (Addr×cE)),PG (AW X scope NC C s H p pn) r g/\PTs (AW X scope NC C s H p pn) ifs O/\PE (AW X scope NC C s H p pn) c tk/\PE (AW X scope NC C s H p pn) f T) (G:gt (.DictComp c f [#[r,iter,ifs,0]] scope pos) (al (.Name x e)) M.line X.env=pure ap) (hf:X.fn x=ap\/X.env.scope.names.lookup x=al .local:=by first | exact .inl rfl | exact .inr rfl | assumption)
   (hs:∀x,ce iter X.env x=pure x:=by intro _;rfl) :
   PS X (.Assign [.Name x e] (.DictComp c f [#[r,iter,ifs,0]] scope pos) M) (λD t H=>QN fr B g O tk T t H λv H'=>D.nx (t.set i (al v)) H'):=by intro pins s t H D I h;rw[exec_Assign_Name_used _ _ _ _ G];refine zZ (bv (zZ ?_));show wpAny _ X.A (do let _ <- ip (.DictComp c f [#[r,iter,ifs,0]] scope pos) scope X.env _ newDict aw (eval iter X.env) (al (ko (.Name x e) X.env))) _ _ s;refine zZ (thn (U4 (use:=al (ko (.Name x e) X.env)) (Q:=λv H'=>D.nx (t.set i (al v)) H') (QQ:=λ_ s'=>∃b H',Inv X pins b H' s'/\D.nx b H') hc S hi hb I hu h (λA C H' s' m z L hn q back zc=>?_) hs) λ_ s' hq=>zY (zY hq));have U:=US (X:=X) (pos:=e) hN zd hx hf (pins++[(C,z)]) s' t H' (.ref A) (.ref A) (λb H'=>D.nx b H') L rfl q;refine thn U ?_;rintro _ y ⟨n,j,k,q2⟩;have J:y.heap.get? C=al z:=(k.pin (C,z) (zB _ (zB _ (by simp)))).1;obtain⟨o',Z,Y,u,kr,wb⟩:=hn;rw[zc] at u;cases u;exact#[m,#[_,Z,Y,J,kr,wb],λh' sb=>#[n,j,back pins n j y h' k sb,q2]]
end
end L2
namespace L2
open PySem PySem.Spec PyProof.Rows PySem.SeqAt
def ZW (as bs:List (Str×PyData)):Bool:=as.all λp=>match DL.BK bs p.1 with | some d=>a0W p.2 d | none=>aw
def ZX (as bs:List (Str×PyData)):Bool:=as.length==bs.length&&ZW as bs
def cX (as:List (Str×PyData)):Prop:=∀p∈as,p.2.canLay0=ap/\p.2.depth<=8
theorem sH (h:DL.BK bs k=al d):∃p∈bs,p.2=d:=by
 induction bs with
 | nil=>cases h
 | cons p r U=>
   unfold DL.BK at h;split at h;. exact#[p,a0Z ..,Option.some.inj h]
   . obtain⟨q,h1,e⟩:=U h;exact#[q,yV _ h1,e]
theorem ZY {X:Cx}{A:ca}{pins:List (Addr×cE)}{σ:St}{H:Hp}{s:aq}{W:Addr->Prop}(I:Inv X pins σ H s) (hu:A.units+64 < ej) {bs:List (Str×PyData)}{T:List (Key×V)}{U:List (Key×ao)}(hb:DKV X.K H W (DL.AF bs) T) (O:KV T U) (N:cX bs) : ∀{as:List (Str×PyData)}{e:List (Key×V)}{n:List (Key×ao)},DKV X.K H W (DL.AF as) e->KV e n->cX as->PySem.W.KeqHits A.in1 s U n (ZW as bs)
 | [],e,n,g,c,h=>by have g:DKV X.K H W [] e:=g;unfold DKV at g;subst g;cases c;exact .nil
 | p::r,e,n,g,c,h=>by
   have g:DKV X.K H W ((a0K p.1,p.2)::DL.AF r) e:=g;unfold DKV at g;obtain⟨x,v,ks,rfl,j,hd,hr⟩:=g;cases c with
   | cons q ra'=>
     rename_i y ys;obtain⟨f,M⟩:=q;obtain⟨D,d8⟩:=h p (a0Z ..);obtain rfl:x=a1Z p.1:=by
       cases x with
       | inl i=>cases j
       | inr z=>cases j;rfl
     obtain⟨y1,y2⟩:=y;simp only at f M;subst f;have S:=O.val (a1Z p.1);unfold ZW;rw[List.all_cons];rcases DL.CS (k:=p.1) hb with ⟨d,w',t,m,J⟩ | ⟨t,m⟩
     . rw[m] at S;rw[t];generalize hva:ik U (a1Z p.1)=o at S;cases o with
       | none=>cases S
       | some u=> have ru:RelV w' u:=S;obtain⟨b,Q,rfl⟩:=sH t;have B:=(N b Q).1;obtain⟨G,Z⟩:=hd.reads I D M;obtain⟨L,r2⟩:=J.reads I B ru;exact PySem.W.KeqHits.hit hva (eqAt_reads p.2 b.2 A.in1 s _ _ G L Z r2 D B (by have:min p.2.depth b.2.depth<=p.2.depth:=Nat.min_le_left _ _;show A.units+1+_ < ej;lia)) (ZY I hu hb O N hr ra' λY vo=>h Y (yV _ vo))
     . rw[m] at S;rw[t];generalize hva:ik U (a1Z p.1)=o at S;cases o with
       | none=>exact PySem.W.KeqHits.miss hva
       | some u=>cases S
def rDG (K:Frg):R2:=λx y H Q=>∃(W:Addr->Prop) (as bs:List (Str×PyData)),DV K H W (.dict (DL.AF as)) x/\DV K H W (.dict (DL.AF bs)) y/\cX as/\cX bs/\Q (.bl (!ZX as bs)) H
theorem A4C (hu:X.A.units+64 < ej):OpR X (bq .NotEq) (rDG X.K):=by
 intro pins s B H x y v u Q I k T h;obtain⟨W,as,bs,h1,i,c,f,q⟩:=h;unfold DV at h1 i;obtain⟨a,M,rfl,_,g,Z⟩:=h1;obtain⟨b,D,rfl,_,hb,n⟩:=i;cases k;cases T;obtain⟨_,O,N,r,m⟩:=IR I.hok g;obtain⟨_,S,U,z,p⟩:=IR I.hok hb;have e:N.length=as.length:=by have e:=r.length;have t:=DL.K4 Z;simp only[DL.AF,zX] at t;lia
 have j:U.length=bs.length:=by have e:=z.length;have t:=DL.K4 n;simp only[DL.AF,zX] at t;lia
 refine PySem.W.keq_ne (knd:=AV X.prog X.w) O S m p (by lia) (λ_=>ZY I hu n z f Z r c) ?_;rw[e,j];exact#[.bl (!ZX as bs),H,I,rfl,q]
theorem NB (u:s.TypeIs (.ref l) "dict") (hq:Q .notImplemented s) :
   wpAny (model P w) A (call (.builtin "dict.__ne__") [.ref l,.none]) Q E s:=by refine cb PySem.F.slot_dict_ne u PySem.F.entry_dict_ne ?_ (PySem.F.args_dict_ne_2 _ _);show wpAny _ _ (Builtin.Dict.dictSlotArgs "__ne__" #[[.ref l,.none],[]] >>= _) _ _ s;refine zZ ?_;unfold Builtin.Dict.dictSlotArgs;refine zZ (wpAny_notOrdered_dict u ?_);show wpAny _ _ (pure (a0X l,a1X)) _ _ s;refine zY (zZ (iu (T:= "NoneType") (show s.TypeIs .none "NoneType" from rfl) PySem.F.sub_NoneType_dict ?_));simp only[Bool.not_false,if_true];exact zZ (db (zY #[_,rfl,hq]))
def rDZ:R2:=λx y H Q=>∃(a:Addr) (O:List (Key×V)),Rd H a (.dK O)/\((x = .ref a/\y = .non)\/(x = .non/\y = .ref a))/\Q (.bl ap) H
theorem A4D (hu:X.A.units+64 < ej):OpR X (bq .NotEq) rDZ:=by
 intro pins s p H x y v u Q I t Z h;obtain⟨a,O,g,J,q⟩:=h;obtain⟨_,m,r,i,n⟩:=IR I.hok g;have e:=n.typeIs;rcases J with ⟨rfl,rfl⟩ | ⟨rfl,rfl⟩
 . cases t;cases Z;exact rc_ne_decline_or (k:=aw) (Tb:= "NoneType") e rfl (by decide) PySem.F.sub_NoneType_dict PySem.F.slot_dict_ne PySem.F.slot_NoneType_ne_refl (λ_ hq=>NB e hq) (λ_ hq=>call_gives PySem.F.slot_NoneType_ne_refl rfl PySem.F.entry_NoneType_ne (PySem.F.args_NoneType_ne_2 _ _) (NoneType___ne___none_ref_0 a) hq) (λ_ hq=>fz (rfl:isSame (.ref a) .none=pure aw) hq) (.inr (by lia)) #[.bl ap,H,I,rfl,q]
 . cases t;cases Z;exact rc_ne_decline_or (k:=aw) (Ta:= "NoneType") rfl e (by decide) PySem.F.sub_dict_NoneType PySem.F.slot_NoneType_ne PySem.F.slot_dict_ne_refl (λ_ hq=>call_gives PySem.F.slot_NoneType_ne rfl PySem.F.entry_NoneType_ne (PySem.F.args_NoneType_ne_2 _ _) (NoneType___ne___none_ref_0 a) hq) (λ_ hq=>NB e hq) (λ_ hq=>fz (rfl:isSame .none (.ref a)=pure aw) hq) (.inr (by lia)) #[.bl ap,H,I,rfl,q]
end L2
namespace DL
open PySem PySem.Spec L2
def kE (K:Frg):R2:=λx y H Q=>SO K ap x y H Q\/rDG K x y H Q\/rDZ x y H Q
theorem A4h {X:Cx}{K:Frg}(h:X.K=K) (hu:X.A.units+64 < ej):OpR X (bq .NotEq) (kE K):=by
 subst h;intro pins s t H x y v u Q I e Z h;rcases h with h | h | h;. exact mD hu pins s t H x y v u Q I e Z h
 . exact A4C hu pins s t H x y v u Q I e Z h
 . exact A4D hu pins s t H x y v u Q I e Z h
section
theorem WG (h:D2 K (SO K ap) x y M Q):D2 K (kE K) x y M Q:=λH v u QQ e t n k=>.inl (h H v u QQ e t n k)
theorem A4E (e:cX as) (t:cX bs) (q:Q (.d (.bool (!ZX as bs))) M):D2 K (kE K) (.d (.dict (AF as))) (.d (.dict (AF bs))) M Q:=λH v u QQ n i r k=>
 .inr (.inl #[M.W,as,bs,i,r,e,t,k _ H (.d (.bool (!ZX as bs))) M n AM Step.refl q])
theorem A2o (q:Q (.d (.bool ap)) M):D2 K (kE K) (.d (.dict (AF as))) (.d .none) M Q:=λH v u QQ t n e k=>by have b:=n;unfold SI DV at b e;obtain⟨a,O,rfl,_,g,_⟩:=b;exact .inr (.inr #[a,O,g,.inl #[rfl,e],k _ H (.d (.bool ap)) M t AM Step.refl q])
theorem A2p (q:Q (.d (.bool ap)) M):D2 K (kE K) (.d .none) (.d (.dict (AF as))) M Q:=λH v u QQ n e i k=>by have t:=i;unfold SI DV at t e;obtain⟨a,O,rfl,_,g,_⟩:=t;exact .inr (.inr #[a,O,g,.inr #[e,rfl],k _ H (.d (.bool ap)) M n AM Step.refl q])
end
end DL
namespace DL
open PySem PySem.Spec L2 XC
section
variable {M:Own}{Q:DS->Own->Prop}{L:List Int}{a k n:Nat}{ys:List Str}{w u v:List Th}{D:Deed}{As Bs Ds:List Deed}{z:Str}{p c:Int}
theorem sI (x m:Int) (e:0 < m):∃k:Nat,x % m=(k:Int)/\(k:Int) < m:=#[(x % m).toNat,by have:=a7W x (Int.ne_of_gt e);lia,by have:=a7W x (Int.ne_of_gt e);have:=b1K x e;lia]
def swX (Ds:List Deed) (k:Nat):List DS:=[.d (B1 Ds),.d (.int k)]
def GC:FSp:=#[λt M=>∃(Ds:List Deed) (k:Nat),t=swX Ds k/\Ds.length<=100,λt M y i=>∀(Ds:List Deed) (k:Nat),t=swX Ds k->i=M/\∃e,y = .d (B1 e)/\(∀D∈e,D∈Ds)/\e.length<=Ds.length]
theorem WH (h:Ds.length<=100) (q:∀e,(∀D∈e,D∈Ds)->e.length<=Ds.length->Q (.d (B1 e)) M):(swX Ds k).length=2/\GC.pre (swX Ds k) M/\∀y i,GC.post (swX Ds k) M y i->Q y i:=#[rfl,#[Ds,k,rfl,h],λy i r=>by obtain⟨rfl,e,rfl,h1,t⟩:=r Ds k rfl;exact q e h1 t]
theorem z9 (e:swX Ds k=swX t i):Ds=t:=by simp only[swX,List.cons.injEq,DS.d.injEq,and_true] at e;exact F5 e.1
def gJ (Ds:List Deed) (k:Nat):List Deed:=Ds.take k++((Ds.take (k+2)).drop k).reverse++Ds.drop (k+2)
theorem sJ (Ds:List Deed) (k:Nat):(∀D∈gJ Ds k,D∈Ds)/\(gJ Ds k).length<=Ds.length:=by
 unfold gJ;refine#[λD hD=>?_,?_]
 . rcases yW.mp hD with h | h
   . rcases yW.mp h with h | h;. exact b3J h
     . exact b3J (List.mem_of_mem_drop (List.mem_reverse.mp h))
   . exact List.mem_of_mem_drop h
 . rw[yY,yY,b0J,a4V,a0J,a0J,a4V];lia
theorem SY (h:DY w):zH (NA w)=true:=by
 have e:wD w = .tuple (w.map thD):=rfl;refine D8 (J7 ?_) ?_;. simp only[List.forall_mem_cons];exact#[by decide +kernel,zG (NZ h),by simp]
 . have:a2W (w.map thD)<=5:=J8 λd hd=>by obtain⟨t,_,rfl⟩:=zL.mp hd;simp[thD,a2Z,a2W]
   simp only[NA,e,a2Z,a2W];lia
theorem kF (w:List Th):a0W (NA w) RX=false:=by simp[NA,RX,a0W,PyData.eqvAll]
theorem gK (w:List Th):cX (tsD w):=λp hp=>by
 unfold tsD at hp;obtain⟨t,_,rfl⟩:=zL.mp hp;refine#[?_,?_];. simp[pcD,PyData.canLay0,b5Z]
 . simp[pcD,a2Z,a2W]
theorem A2q (a b c d:Int):a0W (pcD a b) (pcD c d)=ap↔(a,b)=(c,d):=by
 constructor;. intro h;have:=gE (xs:=[.int a,.int b]) (ys:=[.int c,.int d]) rfl rfl h;simpa using this
 . rintro⟨⟩;exact EI rfl
theorem zE (i:(u.map (·.1)).Nodup) (I:(v.map (·.1)).Nodup):ZX (tsD u) (tsD v)=ap↔∀n,AA u n=AA v n:=by
 have step:∀t:Th,(match BK (tsD v) t.1 with | some d=>a0W (pcD t.2.1 t.2.2) d | none=>aw)=ap↔AA v t.1=al t.2:=λt=>by
   rw[AR];cases AA v t.1 with
   | none=>exact#[λh=>(nomatch h),λh=>(nomatch h)]
   | some x=> show a0W (pcD t.2.1 t.2.2) (pcD x.1 x.2)=ap↔_;rw[A2q];exact#[λh=>congrArg al h.symm,λh=>(Option.some.inj h).symm]
 have m:∀x:List Th,(tsD x).length=x.length:=λx=>by unfold tsD;rw[zX]
 unfold ZX;rw[a0V,beq_iff_eq,m,m];have j:ZW (tsD u) (tsD v)=ap↔∀t∈u,AA v t.1=al t.2:=by unfold ZW;rw[show tsD u=u.map λt=>(t.1,pcD t.2.1 t.2.2) from rfl];rw[List.all_map,a8V];exact#[λh t e=>(step t).mp (h t e),λh t e=>(step t).mpr (h t e)]
 rw[j];constructor
 . rintro⟨h1,r⟩ n;by_cases hn:n∈u.map (·.1);. obtain⟨t,e,rfl⟩:=zL.mp hn;rw[r t e,BY i e]
   . have:n∉v.map (·.1):=λS=>by
       have:=JG (l:=n::u.map (·.1)) (ys:=v.map (·.1)) (xV.mpr #[hn,i]) λx hx=>by
         rcases yX.mp hx with rfl | hx;. exact S
         . obtain⟨t,e,rfl⟩:=zL.mp hx;rw[BS,r t e];rfl
       rw[yR,zX,zX] at this;lia
     rw[BS,Bool.not_eq_true,Option.isSome_eq_false_iff,Option.isNone_iff_eq_none] at hn this;rw[hn,this]
 . intro h;have hk:∀n,n∈u.map (·.1)↔n∈v.map (·.1):=λn=>by rw[BS,BS,h]
   refine#[?_,λt e=>by rw[<-h,BY i e]];have:=(((b3Q i I).mpr hk).length_eq)
   rwa [zX,zX] at this
def A4F (x y:Option (List Th)):Bool:=match x,y with
 | some a,al b=>!ZX (tsD a) (tsD b)
 | none,am=>aw
 | _,_=>ap
theorem A2r (q:Q (.d (.bool (A4F x y))) M):D2 K (kE K) (.d (r6 x)) (.d (r6 y)) M Q:=by
 cases x with
 | none=>
   cases y with
   | none=>exact WG (AZ rfl rfl q)
   | some b=>exact A2p q
 | some a=>
   cases y with
   | none=>exact A2o q
   | some b=>exact A4E (gK a) (gK b) q
theorem kG (hn:AK ys) (hA:∀D∈As,AN ys D) (hB:∀D∈Bs,AN ys D) (e:AX As=AX Bs) (m:∀v,AY w As=al v->(v.map (·.1)).Nodup) (I:∀v,AY w Bs=al v->(v.map (·.1)).Nodup):A4F (AY w As) (AY w Bs)=false:=by
 have j:=CG hn w _ As rfl hA;have t:=CG hn w _ Bs rfl hB;rw[e] at j;cases i:AX Bs with
 | none=> rw[i] at j t;have j:AY w As=none:=j;have t:AY w Bs=none:=t;rw[j,t];rfl
 | some E=>
   rw[i] at j t;cases r:AY w As with
   | none=>
     cases i:AY w Bs with
     | none=>rfl
     | some b=>rw[r] at j;rw[i] at t;exact absurd t.1 j
   | some a=>
     cases i:AY w Bs with
     | none=>rw[r] at j;rw[i] at t;exact absurd j.1 t
     | some b=> rw[r] at j;rw[i] at t;show(!ZX (tsD a) (tsD b))=aw;rw[(zE (m a r) (I b i)).mpr λn=>by rw[j.2 n,t.2 n]];rfl
end
end DL
namespace DL
open PySem PySem.Spec L2 XC
section
variable {K:Frg}{M:Own}{Q:DS->Own->Prop}{L:List Int}{a k n:Nat}{ys zs:List Str}{w u v:List Th}{D:Deed}{A B X Y As Bs Ds:List Deed}{z:Str}{p c:Int}{d:PyData}
theorem UN:∀Ds:List Deed,Ds.foldl N6 am=am
 | []=>rfl
 | _::r=>UN r
theorem PY:AY w (A++B)=(AY w A).bind λv=>AY v B:=by
 unfold AY;rw[a6J];cases A.foldl N6 (al w) with
 | none=>exact UN B
 | some v=>rfl
theorem UO (j:JM u o r) (e:JM v o s) (h:AA u=AA v):(r=am/\s=am)\/∃x y,r=al x/\s=al y/\AA x=AA y:=by
 unfold JM at j e;cases o with
 | none=>exact .inl #[j,e]
 | some E=>
   simp only at j e;cases r with
   | none=>
     cases s with
     | none=>exact .inl #[rfl,rfl]
     | some y=>rw[h] at j;exact absurd e.1 j
   | some x=>
     cases s with
     | none=>rw[h] at j;exact absurd j.1 e
     | some y=>exact .inr #[x,y,rfl,rfl,funext λn=>by rw[j.2,e.2,h]]
theorem kH (hn:AK ys) (hs:There ys w) (t:ys.length < 60) (T:∀D∈X,AN ys D) (hA:∀D∈A,AN ys D) (hB:∀D∈B,AN ys D) (G:∀D∈Y,AN ys D) (e:AX A=AX B):bhO w (X++A++Y)=bhO w (X++B++Y):=by
 unfold bhO;rw[PY,PY,PY,PY];cases hx:AY w X with
 | none=>rfl
 | some v=>
   have S:There ys v:=F4 hs t T v hx;show((AY v A).bind _).map _=((AY v B).bind _).map _;have f:=CG hn v _ A rfl hA;rw[e] at f;rcases UO f (CG hn v _ B rfl hB) rfl with ⟨i,j⟩ | ⟨x,y,i,j,h⟩
   . rw[i,j]
   . rw[i,j];show(AY x Y).map _=(AY y Y).map _;have U:There ys x:=F4 S t hA x i;have g:There ys y:=F4 S t hB y j;rcases UO (CG hn x _ Y rfl G) (CG hn y _ Y rfl G) h with ⟨r,m⟩ | ⟨O,I,r,m,q⟩
     . rw[r,m]
     . rw[r,m];have N:=(F4 U t G O r).nd;have b:=(F4 g t G I m).nd;exact congrArg al (NY N (FE b) λn=>by rw[GW b,q])
theorem RY {P:Deed->Prop}(m:∀D∈X,P D) (hA:∀D∈A,P D) (G:∀D∈Y,P D):∀D∈X++A++Y,P D:=λD h=>by
 rcases yW.mp h with h | h;. exact(yW.mp h).elim (m D) (hA D)
 . exact G D h
theorem cY (t:∀D∈X,AN ys D) (hA:∀D∈A,AN ys D) (hB:∀D∈B,AN ys D) (G:∀D∈Y,AN ys D) (h:AlQ ys (X++A++Y) (X++B++Y)) (e:AX A=AX B):AX (X++A++Y)=AX (X++B++Y):=
 a8X λq=>by obtain⟨hq,J,w,hJ,hd⟩:=O6 h q;obtain⟨m,l,rfl,h1,_⟩:=WF hq (yN hJ);have:=h.few;exact hd (kH h.nm (ZN h1) (by lia) t hA hB G e)
theorem ND {neg:Bool}(h:AlQ ys As Bs) (hd:alR As Bs d) (q:∀b:Bool,(b=ap↔AX As=AX Bs)->Q (.d (.bool (if neg then !b else b))) M):D2 K (SO K neg) (.d d) (.d RX) M Q:=by
 rcases hd with ⟨e,rfl⟩ | ⟨e,w,t,_,rfl⟩
 . refine AZ (by decide +kernel) (by decide +kernel) ?_;rw[EI (d:=RX) (by decide +kernel)];exact q ap #[λ_=>e,λ_=>rfl]
 . obtain⟨m,l,rfl,h1,_⟩:=WF (O6 h e).1 t;refine AZ (SY (gA λn q=>h.nm.1 n (h1 n q))) (by decide +kernel) ?_;rw[kF];exact q aw #[(λx=>nomatch x),λx=>absurd x e]
theorem sK {neg:Bool}(h:AlQ ys As Bs) (q:∀b:Bool,(b=ap↔AX As=AX Bs)->Q (.d (.bool (if neg then !b else b))) M):D2 K (SO K neg) (.d (efO (AX As))) (.d (efO (AX Bs))) M Q:=by
 have t:=JJ h.nm h.one;have g:=JJ h.nm h.two;refine AZ (HG h.nm t) (HG h.nm g) ?_;by_cases e:AX As=AX Bs;. have:=q ap #[λ_=>e,λ_=>rfl];rw[<-e,gF h.nm t];exact this
 . rw[gG e];exact q aw #[(λx=>nomatch x),λx=>absurd x e]
def WI (Ds:List Deed) (k:Nat) (z:Str):List DS:=[.d (B1 Ds),.d (.int k),.d (.str z)]
def ZZ (Ds:List Deed) (k:Nat) (z:Str):List Deed:=Ds.take k++[.count z 7,.count z (-7)]++Ds.drop k
def PZ:FSp:=#[λt M=>∃(Ds:List Deed) (k:Nat) (z:Str),t=WI Ds k z/\Ds.length<=100,λt M y i=>∀(Ds:List Deed) (k:Nat) (z:Str),t=WI Ds k z->y = .d (B1 (ZZ Ds k z))/\i=M]
theorem a6 (h:Ds.length<=100) (q:Q (.d (B1 (ZZ Ds k z))) M):(WI Ds k z).length=3/\PZ.pre (WI Ds k z) M/\∀y i,PZ.post (WI Ds k z) M y i->Q y i:=#[rfl,#[Ds,k,z,rfl,h],λy i e=>by obtain⟨rfl,rfl⟩:=e Ds k z rfl;exact q]
theorem sL (e:WI Ds k z=WI t i J):Ds=t/\k=i/\z=J:=by simp only[WI,List.cons.injEq,DS.d.injEq,PyData.int.injEq,PyData.str.injEq,and_true] at e;exact#[F5 e.1,by lia,e.2.2]
theorem sM (hn:AK ys) (hz:z∈ys) (h:∀D∈Ds,AN ys D):(∀D∈ZZ Ds k z,AN ys D)/\(ZZ Ds k z).length=Ds.length+2:=by
 refine#[RY (λD q=>h D (b3J q)) (λD q=>?_) (λD q=>h D (List.mem_of_mem_drop q)),?_]
 . rcases yX.mp q with rfl | q;. exact(VU (pl:=0) hn (by decide) (by decide) hz).2.2.2
   . rw[List.mem_singleton.mp q];exact(VU (pl:=0) hn (by decide) (by decide) hz).2.2.2
 . unfold ZZ;rw[yY,yY,a0J,a4V,show [Deed.count z 7,.count z (-7)].length=2 from rfl];lia
theorem a7 (D:Deed):∃z ds,D.d = .tuple ds/\ds[1]?=al (.str z)/\z∈D.names:=by cases D <;> exact#[_,_,rfl,rfl,by simp[Deed.names]]
theorem sO (T:rowQ16 w Ds) (h:AY w Ds≠am):BC w Ds:=by
 rcases N9 T Ds.length (zR _) with ⟨v,_,e⟩ | ⟨h1,_⟩
 . exact(PV T e).1
 . exact absurd h1 h
end
end DL
namespace DL
open PySem PySem.Spec L2
def FnIn (K:Frg) (n:Str) (st:eu):Prop:=∃(f:Addr) (p:ao) (t:Option Addr) (kV e i:ao) (L:Option Addr) (y T:ao) (sl:Array (Option ao)),a2X K bd n=al (al (.ref f)) /\
 K.lookup f=al #[p,t,.func (a5Z n n (DK st) (BE st) (AB st) .none kV e i L y T),sl]/\b0Q K y n=ap/\a3K K (.ref f)=ap
theorem zK {K:Frg}{n:Str}{st:eu}{f:Addr}{p:ao}{t:Option Addr}{kV e i:ao}{L:Option Addr}{cd ct:ao}{sl:Array (Option ao)}(a:a2X K bd n=al (al (.ref f))) (l:K.lookup f=al #[p,t,.func (a5Z n n (DK st) (BE st) (AB st) .none kV e i L cd ct),sl]) (c:b0Q K cd n=ap) (k:a3K K (.ref f)=ap):FnIn K n st:=#[f,p,t,kV,e,i,L,cd,ct,sl,a,l,c,k]
structure FnAt (K:Frg) (mg:Str->Option ao) (n:Str) (st:eu) (f:Addr) (fd:dV):Prop where
 fn:Fun K n n st f fd
 mg_:mg n=al (.ref f)
 kp:a3K K (.ref f)=ap
theorem FnIn.at (b:FnIn K n st) (X:K.In h) (G:h.Ns bd mg):∃f N,FnAt K mg n st f N:=by obtain⟨f,_,_,_,_,_,_,_,_,_,a,l,c,k⟩:=b;exact#[f,_,aX l c k,a6X X G a,k]
theorem A4i {C:List ao->Prop}(h:C []) (e:List ao) (r:e.length=0):C e:=by obtain rfl:=List.eq_nil_of_length_eq_zero r;exact h
theorem A4G {C:List ao->Prop}(h:∀I,C [I]) (e:List ao) (r:e.length=1):C e:=by
 cases e with
 | nil=>cases r
 | cons a e=>exact A4i (C:=λe=>C (a::e)) (h a) e (Nat.succ.inj r)
theorem sP {C:List ao->Prop}(h:∀I t,C [I,t]) (e:List ao) (r:e.length=2):C e:=by
 cases e with
 | nil=>cases r
 | cons a e=>exact A4G (C:=λe=>C (a::e)) (h a) e (Nat.succ.inj r)
theorem A4H {C:List ao->Prop}(h:∀I t g,C [I,t,g]) (e:List ao) (r:e.length=3):C e:=by
 cases e with
 | nil=>cases r
 | cons a e=>exact sP (C:=λe=>C (a::e)) (h a) e (Nat.succ.inj r)
theorem A4I {C:List ao->Prop}(h:∀I t g n,C [I,t,g,n]) (e:List ao) (r:e.length=4):C e:=by
 cases e with
 | nil=>cases r
 | cons a e=>exact A4H (C:=λe=>C (a::e)) (h a) e (Nat.succ.inj r)
theorem A4j {C:List ao->Prop}(h:∀I t g n U,C [I,t,g,n,U]) (e:List ao) (r:e.length=5):C e:=by
 cases e with
 | nil=>cases r
 | cons a e=>exact A4I (C:=λe=>C (a::e)) (h a) e (Nat.succ.inj r)
section
variable {P:bn}{w:bj}{K:Frg}{mg:Str->Option ao}{base:cr}{n:Str}{st:eu}{f:Addr}{fd:dV}{k:Nat}{ps:List Str}
abbrev sQ (n:Str) (st:eu) (ps:List Str):Prop:=∀(kV doc t:ao) (L:Option Addr) (cdv T:ao) (e:List ao),e.length=ps.length->bindArgs (a5Z n n (DK st) (BE st) (AB st) .none kV doc t L cdv T) #[e,[]]=pure (ps.zip e)
theorem FnAt.has (a:FnAt K mg n st f fd) (h:FnOk P w K mg base CX0 k f fd ps (spD K ps.length S)) (b:sQ n st ps):Has P w K mg base n k ps S:=#[f,fd,h,a.mg_,a.kp,a.fn.binds b]
theorem FnAt.hasX (a:FnAt K mg n st f fd) (h:FnOk P w K mg base (XC.CXE P w) k f fd ps (spX K ps.length S)) (b:sQ n st ps):HasX P w K mg base n k ps S:=#[f,fd,h,a.mg_,a.kp,a.fn.binds b]
end
end DL
namespace DL
open PySem PySem.Spec L2 XC
abbrev JO:Stmt:=_root_.sT 48
abbrev FO:Stmt:=_root_.sT 49
abbrev EY:Stmt:=_root_.sT 50
abbrev IG:Stmt:=_root_.sT 52
abbrev GI:Stmt:=_root_.sT 51
abbrev JP:Stmt:=_root_.sT 54
abbrev IH:Stmt:=_root_.sT 53
abbrev II:Stmt:=_root_.sT 60
abbrev GJ:Stmt:=_root_.sT 56
abbrev JQ:Stmt:=_root_.sT 57
abbrev IJ:Stmt:=_root_.sT 58
abbrev JR:Stmt:=_root_.sT 59
abbrev EM:Stmt:=_root_.sT 55
abbrev LS:Stmt:=_root_.sT 62
abbrev LU:Stmt:=_root_.sT 61
abbrev CM:Stmt:=_root_.sT 63
abbrev FP:Stmt:=_root_.sT 64
abbrev CA:Stmt:=_root_.sT 65
abbrev LV:Stmt:=_root_.sT 4
abbrev JS:Stmt:=_root_.sT 6
abbrev LX:Stmt:=_root_.sT 7
abbrev KK:Stmt:=_root_.sT 5
abbrev O7:Stmt:=_root_.sT 26
abbrev cZ:Stmt:=_root_.sT 28
abbrev LY:Stmt:=_root_.sT 29
abbrev KL:Stmt:=_root_.sT 27
abbrev O8:Stmt:=_root_.sT 30
abbrev IK:Stmt:=_root_.sT 9
abbrev CC:Stmt:=_root_.sT 10
abbrev JT:Stmt:=_root_.sT 36
abbrev C9:Stmt:=fB 0 (_root_.sT 22)
abbrev DU:Stmt:=_root_.sT 34
abbrev RZ:Stmt:=_root_.sT 35
abbrev d0:Stmt:=_root_.sT 32
abbrev JU:Stmt:=_root_.sT 33
abbrev C0:Stmt:=fB 0 (_root_.sT 23)
abbrev S0:Stmt:=_root_.sT 40
abbrev dA:Stmt:=_root_.sT 38
abbrev WJ:Stmt:=_root_.sT 39
abbrev S3:Stmt:=_root_.sT 44
abbrev WK:Stmt:=_root_.sT 43
abbrev S4:Stmt:=_root_.sT 18
abbrev CZ:Stmt:=_root_.sT 17
abbrev NE:Stmt:=_root_.sT 15
abbrev ES:Stmt:=_root_.sT 16
abbrev GK:Stmt:=_root_.sT 14
abbrev C8:Stmt:=_root_.sT 13
abbrev S5:Stmt:=_root_.sT 12
abbrev IL:Stmt:=_root_.sT 46
abbrev BL:Stmt:=_root_.sT 45
abbrev WL:Stmt:=_root_.sT 42
abbrev IM:Stmt:=_root_.sT 66
abbrev sR:Stmt:=_root_.sT 67
abbrev vS (x:String) (t:Tok):Value:=.str (a0Q x) t
abbrev eS (P:fi) (x:String) (t:Tok) (v:ao):DictEntry:=#[b0W P (a0Q x),.str (a0Q x) t,v]
abbrev hs (i:Nat):Stmt:=ad.main.body.getD i (.Pass #[0,0,0,0])
abbrev fO (n q:String) (st:eu) (doc e:ao) (c:Nat):Obj:=#[.type "function", am,.func (a5Z (a0Q n) (a0Q q) (DK st) (BE st) (AB st) .none .none doc e am (.ref c) .none),#[]]
abbrev gO (n q:String) (st:eu):Obj:=#[.none,am,.func (.mk (a0Q n) (a0Q q) (DK st) (.stmts (BE st)) (AB st) 0 [] .none .none .none .none am .none .none 0),#[]]
abbrev tO (vs:Array ao):Obj:=#[.type "tuple", am,.seq vs 0,#[]]
abbrev kO (n q:String) (a b c:Tok) (l k f:Nat) (N:ao) (t:Nat) (i r L h:ao) (u e:Nat) (d:Tok):Obj:=#[.type "code", am,.fields (y9 [vS n a,vS q b,vS "/claim/cut.py" c,.int l 0,.int k 0,.int 0 0,.int 0 0,.int f 0,N,.bool ap,.int t 0,i,.none,r,L,h,.int u 0,.int e 0,vS "/claim/cut.py" d]),#[]]
abbrev fP (n:String) (st:eu) (doc e:ao) (c:Nat):Obj:=fO n n st doc e c
abbrev gP (n:String) (st:eu):Obj:=gO n n st
abbrev kPz (n:String) (a b c:Tok) (l k f:Nat) (N:ao) (t:Nat) (i r L h:ao) (u e:Nat) (d:Tok):Obj:=kO n n a b c l k f N t i r L h u e d
abbrev nF (vs:Array ao):Obj:=#[.none,am,.fields vs,#[]]
abbrev lF (l:List (Nat×Nat×Nat)):Obj:=nF (l.flatMap λt=>[.int t.1 0,.int t.2.1 0,.ref t.2.2]).toArray
def hV:Program:={ ad with main:={ ad.main with body:=([1,2,3,4,5,6,7,9,10,12,13,14,15,16,17,18,20,21,22,23,25,26,27,28,29,30,32,33,34,35,36,38,39,40,42,43,44,45,46,48,49,50,51,52,53,54,55,56,57,58,59,60,61,62,63,64,65,66,67]:List Nat).map hs } }
abbrev hB:List Stmt:=PySem.W.behindTheImports ad
def hN:Env:={ scope:=ad.main.scope,locals:=mainNs,globals:=mainNs,cells:=[],code:=a0X 13,frame:=al 14 }
abbrev hC:Code:=.body hB hN
abbrev hF:List Frame:=[PySem.W.topFrame { line:=0,col:=0,endLine:=0,endCol:=0 }]
abbrev hI (t:PySem.W.BT) (l:List (Nat×cE)):PySem.W.BT:=l.foldl (λt x=>t.ins x.1 x.2) t
noncomputable def hT0:fi->PySem.W.BT:=λP=>hI .nil [(0,PySem.W.boot_o_0 P),(1,PySem.W.boot_o_1 P),(2,PySem.W.boot_o_2 P),(3,PySem.W.boot_o_3 P),(4,PySem.W.boot_o_4 P),(5,PySem.W.boot_o_5 P),(6,PySem.W.boot_o_6 P),(7,PySem.W.boot_o_7 P),(8,PySem.W.boot_o_8 P),(9,PySem.W.boot_o_9 P),(10,PySem.W.boot_o_10 P)]
def qA (a t:Nat) (n:String) (k e Q i:Nat) (ns:List String) (m:String) (s:Tok):List (Nat×cE):=[(a,tO #[]),(a+1,nF #[]),(a+2,tO (ns.zipIdx.map λp=>vS p.1 (t+3+p.2)).toArray),(a+3,tO #[]),(a+4,gP n (hs k)),(a+5,kPz n t (t+1) (t+2) e Q i (.ref a) 181 (.ref (a+1)) (.ref (a+2)) (.ref (a+3)) (.ref (a+4)) (t+3+ns.length) e (t+4+ns.length)),(a+6,fP n (hs k) .none (vS m s) (a+5))]
def qB (a t:Nat) (n:String) (k e Q i:Nat) (m:String) (s:Tok):List (Nat×cE):=[(a,tO #[]),(a+1,nF #[]),(a+2,gP n (hs k)),(a+3,kPz n t (t+1) (t+2) e Q i (.ref a) 181 (.ref (a+1)) .none .none (.ref (a+2)) (t+3) e (t+4)),(a+4,fP n (hs k) .none (vS m s) (a+3))]
def qC (P:fi) (a t:Nat) (n u f:String) (l k q:Nat) (m:String) (s:Tok):List (Nat×cE):=[(a,tO (y9 [(.ref q)])),(a+1,(#[(.type "builtin_function_or_method"),am,(.fields (y9 [(.builtin "type.__prepare__"),(.type "type")])),#[]]:cE)),(a+2,(#[(.type "dict"),am,(.dict (y9 [eS P "__module__" (t+7) (vS m s),eS P "__qualname__" (t+9) (vS n (t+8)),eS P "__firstlineno__" (t+11) (.int l (t+10)),eS P "__init__" (t+19) (.ref (a+13)),eS P "__static_attributes__" (t+21) (.ref (a+14))]) 5),#[]]:cE)),(a+3,tO #[]),(a+4,lF [((l+2),4,(a+12))]),(a+5,(#[(.type "code"),am,(.fields (y9 [(vS n (t+2)),(vS n (t+3)),(vS "/claim/cut.py" (t+4)),(.int l 0),(.int 0 0),(.int 0 0),(.int 0 0),(.int 0 0),(.ref (a+3)),(.bool aw),(.int 181 0),(.ref (a+4)),.none,.none,.none,.none,(.int (t+5) 0),(.int l 0),(vS "/claim/cut.py" (t+6))])),#[]]:cE)),(a+6,(#[(.type "frame"),am,.plain,(y9 [(al (.ref (a+5))),(al (.ref 3)),(al (.ref (a+2))),am,(al (vS m s)),am,(al (.ref 0))])]:cE)),(a+7,tO #[]),(a+8,nF #[]),(a+9,tO (y9 [(vS "self" (t+15)),(vS f (t+16))])),(a+10,tO #[]),(a+11,gO "__init__" u (fB 0 (hs k))),(a+12,kO "__init__" u (t+12) (t+13) (t+14) (l+2) 2 3 (.ref (a+7)) 181 (.ref (a+8)) (.ref (a+9)) (.ref (a+10)) (.ref (a+11)) (t+17) (l+2) (t+18)),(a+13,fO "__init__" u (fB 0 (hs k)) .none (vS m s) (a+12)),(a+14,tO (y9 [(vS f (t+20))])),(a+15,(#[(.type "dict"),am,(.dict (y9 [eS P "__module__" (t+7) (vS m s),eS P "__firstlineno__" (t+11) (.int l (t+10)),eS P "__init__" (t+19) (.ref (a+13)),eS P "__static_attributes__" (t+21) (.ref (a+14)),eS P "__doc__" (t+22) .none]) 2),#[]]:cE)),(a+16,(#[(.type "type"),am,(.cls (.mk n [(.ref q)] [(.ref (a+16)),(.ref q),(.type "ValueError"),(.type "Exception"),(.type "BaseException"),(.type "object")] (a+15) n ap [] [] aw am aw)),(y9 [(al (.ref a)),am,(al (vS n t)),(al (vS n (t+8))),(al (.builtin "ValueError.__new__")),(al (.bool ap))])]:cE)),(a+17,(#[(.type "super"),am,(.fields (y9 [(.ref (a+16)),(.ref (a+16)),(.ref (a+16))])),#[]]:cE)),(a+18,(#[(.type "builtin_function_or_method"),am,(.fields (y9 [(.builtin "object.__init_subclass__"),(.ref (a+16))])),#[]]:cE))]
noncomputable def hT1:fi->PySem.W.BT:=λP=>hI (hT0 P) ((11,tO #[]) :: (12,nF #[]) :: (13,(#[(.type "code"),am,(.fields (y9 [(vS "<module>" 182),(vS "<module>" 183),(vS "/claim/cut.py" 184),(.int 1 0),(.int 0 0),(.int 0 0),(.int 0 0),(.int 0 0),(.ref 11),(.bool aw),(.int 181 0),(.ref 12),.none,.none,.none,.none,(.int 185 0),(.int 1 0),(vS "/claim/cut.py" 186)])),#[]]:cE)) :: (14,(#[(.type "frame"),am,.plain,(y9 [(al (.ref 13)),(al (.ref 3)),(al (.ref 3)),am,(al (vS "__main__" 164)),am,(al (.ref 0))])]:cE)) ::
 [])
noncomputable abbrev hX1 (w:bj) (e:en):PySem.W.SharedT:=#[hT1 w.params,15,{ },#[[]],{ },187,e]
noncomputable abbrev hX2 (w:bj) (e:en):PySem.W.SharedT:=#[hT1 w.params,15,{ },#[[]],{ },187,e]
def hD3:fi->List DictEntry:=λP=>[eS P "__name__" 165 (vS "struckdeeds.errors" 298),eS P "__doc__" 166 .none,eS P "__package__" 167 .none,eS P "__loader__" 168 (.builtin "__main__.__loader__#opaque"),eS P "__spec__" 169 .none,eS P "__annotations__" 170 (.ref 6),eS P "__builtins__" 171 (.ref 4),eS P "__file__" 173 (vS "/claim/cut.py" 172),eS P "__cached__" 174 .none,eS P "LETTERS" 190 (vS "abcdefghijklmnopqrstuvwxyz" 189),eS P "LONGEST_NAME" 192 (.int 8 191),eS P "LAST_PLACE" 194 (.int 999 193),eS P "is_whole" 201 (.ref 21),eS P "is_name" 207 (.ref 26),eS P "is_within" 216 (.ref 33),eS P "is_place" 223 (.ref 40),eS P "by_names" 231 (.ref 45),eS P "rising_by_names" 237 (.ref 50),eS P "effect" 248 (.ref 57),eS P "effect_behind" 254 (.ref 62),eS P "deed_effect" 266 (.ref 69),eS P "clash" 272 (.ref 74),eS P "told_at_first" 284 (.ref 81),eS P "by_left_names" 290 (.ref 86),eS P "rising" 297 (.ref 93),eS P "StrikeError" 317 (.ref 103)]
noncomputable def hT3:fi->PySem.W.BT:=λP=>hI (hT1 P) ((3,(#[.type "dict", am,.dict (hD3 P).toArray 26,#[]]:cE)) :: (12,lF [(5,0,20),(7,0,25),(11,0,32),(13,0,39),(16,0,44),(18,0,49),(21,0,56),(28,0,61),(42,0,68),(60,0,73),(64,0,80),(72,0,85),(74,0,92),(77,0,99)]) ::
 qA 15 195 "is_whole" 4 5 1 3 ["thing"] "struckdeeds.words" 187 ++
 (qB 22 202 "is_name" 5 7 1 3 "struckdeeds.words" 187 ++
 (qA 27 208 "is_within" 6 11 3 3 ["thing","low","high"] "struckdeeds.words" 187 ++
 (qA 34 217 "is_place" 7 13 1 3 ["thing"] "struckdeeds.words" 187 ++
 (qB 41 226 "by_names" 9 16 1 3 "struckdeeds.worlds" 224 ++
 (qB 46 232 "rising_by_names" 10 18 1 3 "struckdeeds.worlds" 224 ++
 (qA 51 240 "effect" 12 21 1 3 ["row","whole","deed"] "struckdeeds.effects" 238 ++
 (qB 58 249 "effect_behind" 13 28 2 3 "struckdeeds.effects" 238 ++
 (qA 63 255 "deed_effect" 14 42 1 3 ["deed","word","name","other","parts","both"] "struckdeeds.effects" 238 ++
 (qB 70 267 "clash" 15 60 3 3 "struckdeeds.effects" 238 ++
 (qA 75 273 "told_at_first" 16 64 4 3 ["between","place","froms","plus","firsts","name"] "struckdeeds.effects" 238 ++
 (qB 82 285 "by_left_names" 17 72 1 3 "struckdeeds.effects" 238 ++
 (qA 87 291 "rising" 18 74 1 3 ["names"] "struckdeeds.effects" 238 ++
 ((94,tO (y9 [(.type "ValueError")])) ::
 (95,(#[(.type "builtin_function_or_method"),am,(.fields (y9 [(.builtin "type.__prepare__"),(.type "type")])),#[]]:cE)) ::
 (96,(#[(.type "dict"),am,(.dict (y9 [eS P "__module__" 307 (vS "struckdeeds.errors" 298),eS P "__qualname__" 309 (vS "StrikeError" 308),eS P "__firstlineno__" 311 (.int 77 310),eS P "__static_attributes__" 312 (.ref 101)]) 4),#[]]:cE)) ::
 (97,tO #[]) ::
 (98,nF #[]) ::
 (99,(#[(.type "code"),am,(.fields (y9 [(vS "StrikeError" 302),(vS "StrikeError" 303),(vS "/claim/cut.py" 304),(.int 77 0),(.int 0 0),(.int 0 0),(.int 0 0),(.int 0 0),(.ref 97),(.bool aw),(.int 181 0),(.ref 98),.none,.none,.none,.none,(.int 305 0),(.int 77 0),(vS "/claim/cut.py" 306)])),#[]]:cE)) ::
 (100,(#[(.type "frame"),am,.plain,(y9 [(al (.ref 99)),(al (.ref 3)),(al (.ref 96)),am,(al (vS "struckdeeds.errors" 298)),am,(al (.ref 0))])]:cE)) ::
 (101,tO #[]) ::
 (102,(#[(.type "dict"),am,(.dict (y9 [eS P "__module__" 307 (vS "struckdeeds.errors" 298),eS P "__firstlineno__" 311 (.int 77 310),eS P "__static_attributes__" 312 (.ref 101),eS P "__weakref__" 314 (.ref 104),eS P "__doc__" 315 .none]) 3),#[]]:cE)) ::
 (103,(#[(.type "type"),am,(.cls (.mk "StrikeError" [(.type "ValueError")] [(.ref 103),(.type "ValueError"),(.type "Exception"),(.type "BaseException"),(.type "object")] 102 "StrikeError" ap [] [] aw am aw)),(y9 [(al (.ref 94)),am,(al (vS "StrikeError" 300)),(al (vS "StrikeError" 308)),(al (.builtin "ValueError.__new__")),(al (.bool ap))])]:cE)) ::
 (104,(#[(.type "getset_descriptor"),am,(.fields (y9 [(vS "__weakref__" 313),(.ref 103),(.builtin "ExceptionGroup.__weakref__"),.none])),#[]]:cE)) ::
 (105,(#[(.type "super"),am,(.fields (y9 [(.ref 103),(.ref 103),(.ref 103)])),#[]]:cE)) ::
 (106,(#[(.type "builtin_function_or_method"),am,(.fields (y9 [(.builtin "object.__init_subclass__"),(.ref 103)])),#[]]:cE)) ::
 []))))))))))))))
noncomputable abbrev hX3 (w:bj) (e:en):PySem.W.SharedT:=#[hT3 w.params,107,{ },#[[]],{ },318,e]
def hD4:fi->List DictEntry:=λP=>(hD3 P).set 0 (eS P "__name__" 165 (vS "struckdeeds.deeds" 384))++[eS P "NoDeed" 333 (.ref 116),eS P "NotNow" 358 (.ref 135),eS P "NoRow" 383 (.ref 154)]
noncomputable def hT4:fi->PySem.W.BT:=λP=>hI (hT3 P) ((3,(#[.type "dict", am,.dict (hD4 P).toArray 29,#[]]:cE)) :: (12,lF [(5,0,20),(7,0,25),(11,0,32),(13,0,39),(16,0,44),(18,0,49),(21,0,56),(28,0,61),(42,0,68),(60,0,73),(64,0,80),(72,0,85),(74,0,92),(77,0,99),(79,0,112),(81,0,124),(85,0,143)]) :: (103,(#[(.type "type"),am,(.cls (.mk "StrikeError" [(.type "ValueError")] [(.ref 103),(.type "ValueError"),(.type "Exception"),(.type "BaseException"),(.type "object")] 102 "StrikeError" ap [] [(.ref 116),(.ref 135),(.ref 154)] aw am aw)),(y9 [(al (.ref 94)),am,(al (vS "StrikeError" 300)),(al (vS "StrikeError" 308)),(al (.builtin "ValueError.__new__")),(al (.bool ap))])]:cE)) :: (107,tO (y9 [(.ref 103)])) :: (108,(#[(.type "builtin_function_or_method"),am,(.fields (y9 [(.builtin "type.__prepare__"),(.type "type")])),#[]]:cE)) :: (109,(#[(.type "dict"),am,(.dict (y9 [eS P "__module__" 325 (vS "struckdeeds.errors" 298),eS P "__qualname__" 327 (vS "NoDeed" 326),eS P "__firstlineno__" 329 (.int 79 328),eS P "__static_attributes__" 330 (.ref 114)]) 4),#[]]:cE)) :: (110,tO #[]) :: (111,nF #[]) :: (112,(#[(.type "code"),am,(.fields (y9 [(vS "NoDeed" 320),(vS "NoDeed" 321),(vS "/claim/cut.py" 322),(.int 79 0),(.int 0 0),(.int 0 0),(.int 0 0),(.int 0 0),(.ref 110),(.bool aw),(.int 181 0),(.ref 111),.none,.none,.none,.none,(.int 323 0),(.int 79 0),(vS "/claim/cut.py" 324)])),#[]]:cE)) :: (113,(#[(.type "frame"),am,.plain,(y9 [(al (.ref 112)),(al (.ref 3)),(al (.ref 109)),am,(al (vS "struckdeeds.errors" 298)),am,(al (.ref 0))])]:cE)) :: (114,tO #[]) :: (115,(#[(.type "dict"),am,(.dict (y9 [eS P "__module__" 325 (vS "struckdeeds.errors" 298),eS P "__firstlineno__" 329 (.int 79 328),eS P "__static_attributes__" 330 (.ref 114),eS P "__doc__" 331 .none]) 2),#[]]:cE)) :: (116,(#[(.type "type"),am,(.cls (.mk "NoDeed" [(.ref 103)] [(.ref 116),(.ref 103),(.type "ValueError"),(.type "Exception"),(.type "BaseException"),(.type "object")] 115 "NoDeed" ap [] [] aw am aw)),(y9 [(al (.ref 107)),am,(al (vS "NoDeed" 318)),(al (vS "NoDeed" 326)),(al (.builtin "ValueError.__new__")),(al (.bool ap))])]:cE)) :: (117,(#[(.type "super"),am,(.fields (y9 [(.ref 116),(.ref 116),(.ref 116)])),#[]]:cE)) :: (118,(#[(.type "builtin_function_or_method"),am,(.fields (y9 [(.builtin "object.__init_subclass__"),(.ref 116)])),#[]]:cE)) ::
 qC P 119 334 "NotNow" "NotNow.__init__" "name" 81 22 103 "struckdeeds.errors" 298 ++
 (qC P 138 359 "NoRow" "NoRow.__init__" "number" 85 23 103 "struckdeeds.errors" 298 ++
 ([])))
noncomputable abbrev hX4 (w:bj) (e:en):PySem.W.SharedT:=#[hT4 w.params,157,{ },#[[]],{ },386,e]
def hD5:fi->List DictEntry:=λP=>(hD4 P).set 0 (eS P "__name__" 165 (vS "law_struckdeeds_k22_whole_alike_within_rows" 569))++[eS P "FORMS" 407 (.ref 157),eS P "form_of" 414 (.ref 164),eS P "is_deed" 420 (.ref 169),eS P "fits" 428 (.ref 176),eS P "names_in" 435 (.ref 183),eS P "made_by" 442 (.ref 190),eS P "done" 453 (.ref 197),eS P "back_deed" 464 (.ref 204),eS P "refuse_undoable" 474 (.ref 211),eS P "change" 484 (.ref 218),eS P "add_count" 495 (.ref 225),eS P "gone" 505 (.ref 232),eS P "backs" 513 (.ref 239),eS P "walked" 525 (.ref 246),eS P "alike" 539 (.ref 253),eS P "parts" 548 (.ref 260),eS P "behind" 556 (.ref 267),eS P "worlds_to_try" 562 (.ref 272),eS P "world_of" 568 (.ref 277),eS P "_law_cell" 578 (.ref 284)]
noncomputable def hT5:fi->PySem.W.BT:=λP=>hI (hT4 P) ((3,(#[.type "dict", am,.dict (hD5 P).toArray 49,#[]]:cE)) :: (12,lF [(5,0,20),(7,0,25),(11,0,32),(13,0,39),(16,0,44),(18,0,49),(21,0,56),(28,0,61),(42,0,68),(60,0,73),(64,0,80),(72,0,85),(74,0,92),(77,0,99),(79,0,112),(81,0,124),(85,0,143),(91,0,163),(93,0,168),(103,0,175),(109,0,182),(111,0,189),(118,0,196),(123,0,203),(140,0,210),(147,0,217),(165,0,224),(169,0,231),(171,0,238),(173,0,245),(184,0,252),(193,0,259),(195,0,266),(200,0,271),(206,0,276),(209,0,283)]) :: (157,(#[(.type "dict"),am,(.dict (y9 [eS P "put" 386 (vS "npk" 387),eS P "take" 388 (vS "n" 389),eS P "move" 390 (vS "np" 391),eS P "count" 392 (vS "nk" 393),eS P "name" 394 (vS "nn" 395),eS P "split" 396 (vS "nnpk" 397),eS P "join" 398 (vS "nn" 399)]) 7),#[]]:cE)) ::
 qA 158 408 "form_of" 26 91 1 3 ["word"] "struckdeeds.deeds" 384 ++
 (qB 165 415 "is_deed" 27 93 1 3 "struckdeeds.deeds" 384 ++
 (qA 170 421 "fits" 28 103 2 3 ["sign","part"] "struckdeeds.deeds" 384 ++
 (qA 177 429 "names_in" 29 109 1 3 ["deed"] "struckdeeds.deeds" 384 ++
 (qA 184 436 "made_by" 30 111 1 3 ["deed"] "struckdeeds.deeds" 384 ++
 (qA 191 445 "done" 32 118 2 3 ["world","deed","things"] "struckdeeds.doings" 443 ++
 (qA 198 454 "back_deed" 33 123 2 3 ["world","deed","things","word","name"] "struckdeeds.doings" 443 ++
 (qA 205 465 "refuse_undoable" 34 140 2 3 ["things","deed","made","name"] "struckdeeds.doings" 443 ++
 (qA 212 475 "change" 35 147 2 3 ["things","deed","word","name"] "struckdeeds.doings" 443 ++
 (qA 219 485 "add_count" 36 165 3 3 ["things","name","more","place","count"] "struckdeeds.doings" 443 ++
 (qA 226 498 "gone" 38 169 2 3 ["world","row"] "struckdeeds.rows" 496 ++
 (qA 233 506 "backs" 39 171 2 3 ["world","row"] "struckdeeds.rows" 496 ++
 (qA 240 514 "walked" 40 173 2 3 ["world","row","here","back","number","deed"] "struckdeeds.rows" 496 ++
 (qA 247 528 "alike" 42 184 2 3 ["row","other","one","two","worlds","at"] "struckdeeds.partings" 526 ++
 (qA 254 540 "parts" 43 193 3 3 ["world","row","other"] "struckdeeds.partings" 526 ++
 (qA 261 549 "behind" 44 195 2 3 ["world","row"] "struckdeeds.partings" 526 ++
 (qB 268 557 "worlds_to_try" 45 200 2 3 "struckdeeds.partings" 526 ++
 (qB 273 563 "world_of" 46 206 2 3 "struckdeeds.partings" 526 ++
 (qA 278 571 "_law_cell" 48 209 2 3 ["_law_script","_law_k"] "law_struckdeeds_k22_whole_alike_within_rows" 569 ++
 ([]))))))))))))))))))))
noncomputable abbrev hX5 (w:bj) (e:en):PySem.W.SharedT:=#[hT5 w.params,285,{ },#[[]],{ },579,e]
def hD6:fi->List DictEntry:=λP=>hD5 P++[eS P "_law_stirred" 591 (.ref 291),eS P "_law_names" 597 (.ref 296),eS P "_law_number" 604 (.ref 303),eS P "_law_place" 611 (.ref 310),eS P "_law_world" 622 (.ref 317),eS P "_law_pick" 630 (.ref 324),eS P "_law_deed" 636 (.ref 329),eS P "_law_wanted" 643 (.ref 336),eS P "_law_made" 650 (.ref 343),eS P "_law_can" 656 (.ref 348),eS P "_law_step" 667 (.ref 355),eS P "_law_there" 678 (.ref 362),eS P "_law_run" 687 (.ref 369),eS P "_law_row" 701 (.ref 376),eS P "_law_row_comes_to" 711 (.ref 383),eS P "_law_swapped" 720 (.ref 390),eS P "_law_there_and_back" 730 (.ref 397),eS P "_law_right" 748 (.ref 404),eS P "law" 756 (.ref 411)]
noncomputable def hT6:fi->PySem.W.BT:=λP=>hI (hT5 P) ((3,(#[.type "dict", am,.dict (hD6 P).toArray 68,#[]]:cE)) :: (12,lF [(5,0,20),(7,0,25),(11,0,32),(13,0,39),(16,0,44),(18,0,49),(21,0,56),(28,0,61),(42,0,68),(60,0,73),(64,0,80),(72,0,85),(74,0,92),(77,0,99),(79,0,112),(81,0,124),(85,0,143),(91,0,163),(93,0,168),(103,0,175),(109,0,182),(111,0,189),(118,0,196),(123,0,203),(140,0,210),(147,0,217),(165,0,224),(169,0,231),(171,0,238),(173,0,245),(184,0,252),(193,0,259),(195,0,266),(200,0,271),(206,0,276),(209,0,283),(213,0,290),(226,0,295),(238,0,302),(240,0,309),(242,0,316),(248,0,323),(250,0,328),(278,0,335),(284,0,342),(290,0,347),(294,0,354),(315,0,361),(320,0,368),(326,0,375),(334,0,382),(339,0,389),(342,0,396),(345,0,403),(370,0,410)]) ::
 qA 285 579 "_law_stirred" 49 213 2 3 ["_law_cell_here","_law_size","_law_one","_law_other","_law_found","_law_k","_law_number_here"] "law_struckdeeds_k22_whole_alike_within_rows" 569 ++
 (qB 292 592 "_law_names" 50 226 3 3 "law_struckdeeds_k22_whole_alike_within_rows" 569 ++
 (qA 297 598 "_law_number" 51 238 1 3 ["_law_x"] "law_struckdeeds_k22_whole_alike_within_rows" 569 ++
 (qA 304 605 "_law_place" 52 240 1 3 ["_law_x"] "law_struckdeeds_k22_whole_alike_within_rows" 569 ++
 (qA 311 612 "_law_world" 53 242 3 3 ["_law_xs","_law_at","_law_names_here","_law_found","_law_k"] "law_struckdeeds_k22_whole_alike_within_rows" 569 ++
 (qA 318 623 "_law_pick" 54 248 2 3 ["_law_some","_law_x"] "law_struckdeeds_k22_whole_alike_within_rows" 569 ++
 (qB 325 631 "_law_deed" 55 250 4 3 "law_struckdeeds_k22_whole_alike_within_rows" 569 ++
 (qA 330 637 "_law_wanted" 56 278 1 3 ["_law_deed_here"] "law_struckdeeds_k22_whole_alike_within_rows" 569 ++
 (qA 337 644 "_law_made" 57 284 1 3 ["_law_deed_here"] "law_struckdeeds_k22_whole_alike_within_rows" 569 ++
 (qB 344 651 "_law_can" 58 290 2 3 "law_struckdeeds_k22_whole_alike_within_rows" 569 ++
 (qA 349 657 "_law_step" 59 294 2 3 ["_law_there_here","_law_deed_here","_law_found","_law_word","_law_name"] "law_struckdeeds_k22_whole_alike_within_rows" 569 ++
 (qA 356 668 "_law_there" 60 315 1 3 ["_law_world_here","_law_found","_law_name","_law_place_here","_law_count"] "law_struckdeeds_k22_whole_alike_within_rows" 569 ++
 (qA 363 679 "_law_run" 61 320 2 3 ["_law_there_here","_law_row_here","_law_k"] "law_struckdeeds_k22_whole_alike_within_rows" 569 ++
 (qA 370 688 "_law_row" 62 326 5 3 ["_law_xs","_law_at","_law_size","_law_names_here","_law_there_here","_law_row_here","_law_k","_law_deed_here"] "law_struckdeeds_k22_whole_alike_within_rows" 569 ++
 (qA 377 702 "_law_row_comes_to" 63 334 2 3 ["_law_there_here","_law_row_here","_law_number_here","_law_behind"] "law_struckdeeds_k22_whole_alike_within_rows" 569 ++
 (qA 384 712 "_law_swapped" 64 339 2 3 ["_law_row_here","_law_k","_law_two"] "law_struckdeeds_k22_whole_alike_within_rows" 569 ++
 (qA 391 721 "_law_there_and_back" 65 342 3 3 ["_law_row_here","_law_k","_law_name","_law_some"] "law_struckdeeds_k22_whole_alike_within_rows" 569 ++
 (qA 398 731 "_law_right" 66 345 1 3 ["_law_cell_here","_law_xs","_law_names_here","_law_world_here","_law_there_here","_law_ahead","_law_row_here","_law_behind","_law_k","_law_other","_law_yes","_law_third"] "law_struckdeeds_k22_whole_alike_within_rows" 569 ++
 (qA 405 749 "law" 67 370 1 3 ["_law_script","_law_cell_here"] "law_struckdeeds_k22_whole_alike_within_rows" 569 ++
 ([]))))))))))))))))))))
noncomputable abbrev hX6 (w:bj) (e:en):PySem.W.SharedT:=#[hT6 w.params,412,{ },#[[]],{ },757,e]
noncomputable abbrev hX7 (w:bj) (e:en):PySem.W.SharedT:=#[hT6 w.params,412,{ },#[[]],{ },757,e]
noncomputable def hg (P:fi) (a:Nat):Obj:=((hT6 P).get a).getD default
noncomputable def hK:Params->PySem.W.Frag:=λP=>
 (nat_lit 2,hg P 2) ::
 (nat_lit 3,hg P 3) ::
 (nat_lit 20,hg P 20) ::
 (nat_lit 21,fP "is_whole" LV .none (vS "struckdeeds.words" 187) 20) ::
 (nat_lit 25,hg P 25) ::
 (nat_lit 26,fP "is_name" KK .none (vS "struckdeeds.words" 187) 25) ::
 (nat_lit 32,hg P 32) ::
 (nat_lit 33,fP "is_within" JS .none (vS "struckdeeds.words" 187) 32) ::
 (nat_lit 39,hg P 39) ::
 (nat_lit 40,fP "is_place" LX .none (vS "struckdeeds.words" 187) 39) ::
 (nat_lit 44,hg P 44) ::
 (nat_lit 45,fP "by_names" IK .none (vS "struckdeeds.worlds" 224) 44) ::
 (nat_lit 49,hg P 49) ::
 (nat_lit 50,fP "rising_by_names" CC .none (vS "struckdeeds.worlds" 224) 49) ::
 (nat_lit 56,hg P 56) ::
 (nat_lit 57,fP "effect" S5 .none (vS "struckdeeds.effects" 238) 56) ::
 (nat_lit 61,hg P 61) ::
 (nat_lit 62,fP "effect_behind" C8 .none (vS "struckdeeds.effects" 238) 61) ::
 (nat_lit 68,hg P 68) ::
 (nat_lit 69,fP "deed_effect" GK .none (vS "struckdeeds.effects" 238) 68) ::
 (nat_lit 73,hg P 73) ::
 (nat_lit 74,fP "clash" NE .none (vS "struckdeeds.effects" 238) 73) ::
 (nat_lit 80,hg P 80) ::
 (nat_lit 81,fP "told_at_first" ES .none (vS "struckdeeds.effects" 238) 80) ::
 (nat_lit 85,hg P 85) ::
 (nat_lit 86,fP "by_left_names" CZ .none (vS "struckdeeds.effects" 238) 85) ::
 (nat_lit 92,hg P 92) ::
 (nat_lit 93,fP "rising" S4 .none (vS "struckdeeds.effects" 238) 92) ::
 (nat_lit 102,hg P 102) ::
 (nat_lit 103,(#[(.type "type"),am,(.cls (.mk "StrikeError" [(.type "ValueError")] [(.ref 103),(.type "ValueError"),(.type "Exception"),(.type "BaseException"),(.type "object")] 102 "StrikeError" ap [] [(.ref 116),(.ref 135),(.ref 154)] aw am aw)),(y9 [(al (.ref 94)),am,(al (vS "StrikeError" 300)),(al (vS "StrikeError" 308)),(al (.builtin "ValueError.__new__")),(al (.bool ap))])]:cE)) ::
 (nat_lit 104,hg P 104) ::
 (nat_lit 115,hg P 115) ::
 (nat_lit 116,(#[(.type "type"),am,(.cls (.mk "NoDeed" [(.ref 103)] [(.ref 116),(.ref 103),(.type "ValueError"),(.type "Exception"),(.type "BaseException"),(.type "object")] 115 "NoDeed" ap [] [] aw am aw)),(y9 [(al (.ref 107)),am,(al (vS "NoDeed" 318)),(al (vS "NoDeed" 326)),(al (.builtin "ValueError.__new__")),(al (.bool ap))])]:cE)) ::
 (nat_lit 131,hg P 131) ::
 (nat_lit 132,fO "__init__" "NotNow.__init__" C9 .none (vS "struckdeeds.errors" 298) 131) ::
 (nat_lit 134,hg P 134) ::
 (nat_lit 135,(#[(.type "type"),am,(.cls (.mk "NotNow" [(.ref 103)] [(.ref 135),(.ref 103),(.type "ValueError"),(.type "Exception"),(.type "BaseException"),(.type "object")] 134 "NotNow" ap [] [] aw am aw)),(y9 [(al (.ref 119)),am,(al (vS "NotNow" 334)),(al (vS "NotNow" 342)),(al (.builtin "ValueError.__new__")),(al (.bool ap))])]:cE)) ::
 (nat_lit 150,hg P 150) ::
 (nat_lit 151,fO "__init__" "NoRow.__init__" C0 .none (vS "struckdeeds.errors" 298) 150) ::
 (nat_lit 153,hg P 153) ::
 (nat_lit 154,(#[(.type "type"),am,(.cls (.mk "NoRow" [(.ref 103)] [(.ref 154),(.ref 103),(.type "ValueError"),(.type "Exception"),(.type "BaseException"),(.type "object")] 153 "NoRow" ap [] [] aw am aw)),(y9 [(al (.ref 138)),am,(al (vS "NoRow" 359)),(al (vS "NoRow" 367)),(al (.builtin "ValueError.__new__")),(al (.bool ap))])]:cE)) ::
 (nat_lit 157,(#[(.type "dict"),am,(.dict (y9 [eS P "put" 386 (vS "npk" 387),eS P "take" 388 (vS "n" 389),eS P "move" 390 (vS "np" 391),eS P "count" 392 (vS "nk" 393),eS P "name" 394 (vS "nn" 395),eS P "split" 396 (vS "nnpk" 397),eS P "join" 398 (vS "nn" 399)]) 7),#[]]:cE)) ::
 (nat_lit 163,hg P 163) ::
 (nat_lit 164,fP "form_of" O7 .none (vS "struckdeeds.deeds" 384) 163) ::
 (nat_lit 168,hg P 168) ::
 (nat_lit 169,fP "is_deed" KL .none (vS "struckdeeds.deeds" 384) 168) ::
 (nat_lit 175,hg P 175) ::
 (nat_lit 176,fP "fits" cZ .none (vS "struckdeeds.deeds" 384) 175) ::
 (nat_lit 182,hg P 182) ::
 (nat_lit 183,fP "names_in" LY .none (vS "struckdeeds.deeds" 384) 182) ::
 (nat_lit 189,hg P 189) ::
 (nat_lit 190,fP "made_by" O8 .none (vS "struckdeeds.deeds" 384) 189) ::
 (nat_lit 196,hg P 196) ::
 (nat_lit 197,fP "done" d0 .none (vS "struckdeeds.doings" 443) 196) ::
 (nat_lit 203,hg P 203) ::
 (nat_lit 204,fP "back_deed" JU .none (vS "struckdeeds.doings" 443) 203) ::
 (nat_lit 210,hg P 210) ::
 (nat_lit 211,fP "refuse_undoable" DU .none (vS "struckdeeds.doings" 443) 210) ::
 (nat_lit 217,hg P 217) ::
 (nat_lit 218,fP "change" RZ .none (vS "struckdeeds.doings" 443) 217) ::
 (nat_lit 224,hg P 224) ::
 (nat_lit 225,fP "add_count" JT .none (vS "struckdeeds.doings" 443) 224) ::
 (nat_lit 231,hg P 231) ::
 (nat_lit 232,fP "gone" dA .none (vS "struckdeeds.rows" 496) 231) ::
 (nat_lit 238,hg P 238) ::
 (nat_lit 239,fP "backs" WJ .none (vS "struckdeeds.rows" 496) 238) ::
 (nat_lit 245,hg P 245) ::
 (nat_lit 246,fP "walked" S0 .none (vS "struckdeeds.rows" 496) 245) ::
 (nat_lit 252,hg P 252) ::
 (nat_lit 253,fP "alike" WL .none (vS "struckdeeds.partings" 526) 252) ::
 (nat_lit 259,hg P 259) ::
 (nat_lit 260,fP "parts" WK .none (vS "struckdeeds.partings" 526) 259) ::
 (nat_lit 266,hg P 266) ::
 (nat_lit 267,fP "behind" S3 .none (vS "struckdeeds.partings" 526) 266) ::
 (nat_lit 271,hg P 271) ::
 (nat_lit 272,fP "worlds_to_try" BL .none (vS "struckdeeds.partings" 526) 271) ::
 (nat_lit 276,hg P 276) ::
 (nat_lit 277,fP "world_of" IL .none (vS "struckdeeds.partings" 526) 276) ::
 (nat_lit 283,hg P 283) ::
 (nat_lit 284,fP "_law_cell" JO .none (vS "law_struckdeeds_k22_whole_alike_within_rows" 569) 283) ::
 (nat_lit 290,hg P 290) ::
 (nat_lit 291,fP "_law_stirred" FO .none (vS "law_struckdeeds_k22_whole_alike_within_rows" 569) 290) ::
 (nat_lit 295,hg P 295) ::
 (nat_lit 296,fP "_law_names" EY .none (vS "law_struckdeeds_k22_whole_alike_within_rows" 569) 295) ::
 (nat_lit 302,hg P 302) ::
 (nat_lit 303,fP "_law_number" GI .none (vS "law_struckdeeds_k22_whole_alike_within_rows" 569) 302) ::
 (nat_lit 309,hg P 309) ::
 (nat_lit 310,fP "_law_place" IG .none (vS "law_struckdeeds_k22_whole_alike_within_rows" 569) 309) ::
 (nat_lit 316,hg P 316) ::
 (nat_lit 317,fP "_law_world" IH .none (vS "law_struckdeeds_k22_whole_alike_within_rows" 569) 316) ::
 (nat_lit 323,hg P 323) ::
 (nat_lit 324,fP "_law_pick" JP .none (vS "law_struckdeeds_k22_whole_alike_within_rows" 569) 323) ::
 (nat_lit 328,hg P 328) ::
 (nat_lit 329,fP "_law_deed" EM .none (vS "law_struckdeeds_k22_whole_alike_within_rows" 569) 328) ::
 (nat_lit 335,hg P 335) ::
 (nat_lit 336,fP "_law_wanted" GJ .none (vS "law_struckdeeds_k22_whole_alike_within_rows" 569) 335) ::
 (nat_lit 342,hg P 342) ::
 (nat_lit 343,fP "_law_made" JQ .none (vS "law_struckdeeds_k22_whole_alike_within_rows" 569) 342) ::
 (nat_lit 347,hg P 347) ::
 (nat_lit 348,fP "_law_can" IJ .none (vS "law_struckdeeds_k22_whole_alike_within_rows" 569) 347) ::
 (nat_lit 354,hg P 354) ::
 (nat_lit 355,fP "_law_step" JR .none (vS "law_struckdeeds_k22_whole_alike_within_rows" 569) 354) ::
 (nat_lit 361,hg P 361) ::
 (nat_lit 362,fP "_law_there" II .none (vS "law_struckdeeds_k22_whole_alike_within_rows" 569) 361) ::
 (nat_lit 368,hg P 368) ::
 (nat_lit 369,fP "_law_run" LU .none (vS "law_struckdeeds_k22_whole_alike_within_rows" 569) 368) ::
 (nat_lit 375,hg P 375) ::
 (nat_lit 376,fP "_law_row" LS .none (vS "law_struckdeeds_k22_whole_alike_within_rows" 569) 375) ::
 (nat_lit 382,hg P 382) ::
 (nat_lit 383,fP "_law_row_comes_to" CM .none (vS "law_struckdeeds_k22_whole_alike_within_rows" 569) 382) ::
 (nat_lit 389,hg P 389) ::
 (nat_lit 390,fP "_law_swapped" FP .none (vS "law_struckdeeds_k22_whole_alike_within_rows" 569) 389) ::
 (nat_lit 396,hg P 396) ::
 (nat_lit 397,fP "_law_there_and_back" CA .none (vS "law_struckdeeds_k22_whole_alike_within_rows" 569) 396) ::
 (nat_lit 403,hg P 403) ::
 (nat_lit 404,fP "_law_right" IM .none (vS "law_struckdeeds_k22_whole_alike_within_rows" 569) 403) ::
 (nat_lit 410,hg P 410) ::
 (nat_lit 411,fP "law" sR .none (vS "law_struckdeeds_k22_whole_alike_within_rows" 569) 410)::[]
def hA:List Addr:=[2,3,20,21,25,26,32,33,39,40,44,45,49,50,56,57,61,62,68,69,73,74,80,81,85,86,92,93,102,103,104,115,116,131,132,134,135,150,151,153,154,157,163,164,168,169,175,176,182,183,189,190,196,197,203,204,210,211,217,218,224,225,231,232,238,239,245,246,252,253,259,260,266,267,271,272,276,277,283,284,290,291,295,296,302,303,309,310,316,317,323,324,328,329,335,336,342,343,347,348,354,355,361,362,368,369,375,376,382,383,389,390,396,397,403,404,410,411]
theorem hE:∀P,hA=(hK P).map (·.1):=λ_=>by kernel_rfl
theorem hp1 (w:bj):(λe=>PySem.W.topGo cN ad w 11 (a4X (a0X 6)) 12 #[a5V w.params,#[[]],b6W,b7W,e] (PySem.W.topStub ad))=λe=>al ((hX1 w e).abs,#[denote cN hC,hC,{ line:=0,col:=0,endLine:=0,endCol:=0 },hF]):=by kernel_rfl
theorem hp2 (w:bj):(λe=>b1X cN ad w 11 (a4X (a0X 6)) 1 1 (hX1 w e) (PySem.W.blockOf hB hN hC { line:=0,col:=0,endLine:=0,endCol:=0 } hF))=λe=>al (.next,hX2 w e,hC,{ line:=0,col:=0,endLine:=0,endCol:=0 }):=by kernel_rfl
def hQ3:List Stmt:=(hB.drop 0).take 21
theorem hp3 (w:bj):(λe=>b1X cN ad w 11 (a4X (a0X 6)) 1 623 (hX2 w e) (b3X hQ3 hN hC { line:=0,col:=0,endLine:=0,endCol:=0 } hF))=λe=>al (.next,hX3 w e,hC,{ line:=77,col:=0,endLine:=78,endCol:=8 }):=by kernel_rfl
def hQ4:List Stmt:=(hB.drop 21).take 4
theorem hp4 (w:bj):(λe=>b1X cN ad w 11 (a4X (a0X 6)) 1 713 (hX3 w e) (b3X hQ4 hN hC { line:=77,col:=0,endLine:=78,endCol:=8 } hF))=λe=>al (.next,hX4 w e,hC,{ line:=89,col:=0,endLine:=89,endCol:=8 }):=by kernel_rfl
def hQ5:List Stmt:=(hB.drop 25).take 24
abbrev A4k (w:bj):Prop:=(λe=>b1X cN ad w 11 (a4X (a0X 6)) 1 727 (hX4 w e) (b3X hQ5 hN hC { line:=89,col:=0,endLine:=89,endCol:=8 } hF))=λe=>al (.next,hX5 w e,hC,{ line:=209,col:=0,endLine:=212,endCol:=12 })
theorem kI (w:bj):(λe=>b1X cN ad (w.withFollow "special-get-raises" aw) 11 (a4X (a0X 6)) 1 727 (hX4 (w.withFollow "special-get-raises" aw) e) (b3X hQ5 hN hC { line:=89,col:=0,endLine:=89,endCol:=8 } hF))=λe=>al (.next,hX5 (w.withFollow "special-get-raises" aw) e,hC,{ line:=209,col:=0,endLine:=212,endCol:=12 }):=by kernel_rfl
theorem sS (w:bj):(λe=>b1X cN ad (w.withFollow "special-get-raises" ap) 11 (a4X (a0X 6)) 1 727 (hX4 (w.withFollow "special-get-raises" ap) e) (b3X hQ5 hN hC { line:=89,col:=0,endLine:=89,endCol:=8 } hF))=λe=>al (.next,hX5 (w.withFollow "special-get-raises" ap) e,hC,{ line:=209,col:=0,endLine:=212,endCol:=12 }):=by kernel_rfl
theorem hp5:∀w:bj,A4k w:=PySem.W.byRow2 "special-get-raises" kI sS
def hQ6:List Stmt:=(hB.drop 49).take 19
theorem hp6 (w:bj):(λe=>b1X cN ad w 11 (a4X (a0X 6)) 1 591 (hX5 w e) (b3X hQ6 hN hC { line:=209,col:=0,endLine:=212,endCol:=12 } hF))=λe=>al (.next,hX6 w e,hC,{ line:=370,col:=0,endLine:=374,endCol:=15 }):=by kernel_rfl
theorem hp7 (w:bj):(λe=>a8J cN ad w 11 (a4X (a0X 6)) 2 (hX6 w e).abs (b5X [] hN hC { line:=370,col:=0,endLine:=374,endCol:=15 } hF))=λe=>al (hX7 w e).abs:=by kernel_rfl
theorem hR1:hB=(hQ3++(hQ4++(hQ5++(hQ6++[])))):=by kernel_rfl
theorem hr7 (w:bj) (e:en):a8J cN ad w 11 (a4X (a0X 6)) 2 (hX6 w e).abs (b5X [] hN hC { line:=370,col:=0,endLine:=374,endCol:=15 } hF)=al (hX7 w e).abs:=congrFun (hp7 w) e
theorem hr6 (w:bj) (e:en):a8J cN ad w 11 (a4X (a0X 6)) (591+2) (hX5 w e).abs (b5X (hQ6++[]) hN hC { line:=209,col:=0,endLine:=212,endCol:=12 } hF)=al (hX7 w e).abs:=b7K (n:=591) (N:=2) (s:=(hX5 w e).abs) (s':=(hX6 w e).abs) (r:=(hX7 w e).abs) (l:=hQ6) (rest:=[]) (c:=hC) (pos:={ line:=209,col:=0,endLine:=212,endCol:=12 }) (p':={ line:=370,col:=0,endLine:=374,endCol:=15 }) (env:=hN) (q:={ line:=0,col:=0,endLine:=0,endCol:=0 }) (b4W (congrFun (hp6 w) e)) (hr7 w e)
theorem hr5 (w:bj) (e:en):a8J cN ad w 11 (a4X (a0X 6)) (727+(591+2)) (hX4 w e).abs (b5X (hQ5++(hQ6++[])) hN hC { line:=89,col:=0,endLine:=89,endCol:=8 } hF)=al (hX7 w e).abs:=b7K (n:=727) (N:=(591+2)) (s:=(hX4 w e).abs) (s':=(hX5 w e).abs) (r:=(hX7 w e).abs) (l:=hQ5) (rest:=(hQ6++[])) (c:=hC) (pos:={ line:=89,col:=0,endLine:=89,endCol:=8 }) (p':={ line:=209,col:=0,endLine:=212,endCol:=12 }) (env:=hN) (q:={ line:=0,col:=0,endLine:=0,endCol:=0 }) (b4W (congrFun (hp5 w) e)) (hr6 w e)
theorem hr4 (w:bj) (e:en):a8J cN ad w 11 (a4X (a0X 6)) (713+(727+(591+2))) (hX3 w e).abs (b5X (hQ4++(hQ5++(hQ6++[]))) hN hC { line:=77,col:=0,endLine:=78,endCol:=8 } hF)=al (hX7 w e).abs:=b7K (n:=713) (N:=(727+(591+2))) (s:=(hX3 w e).abs) (s':=(hX4 w e).abs) (r:=(hX7 w e).abs) (l:=hQ4) (rest:=(hQ5++(hQ6++[]))) (c:=hC) (pos:={ line:=77,col:=0,endLine:=78,endCol:=8 }) (p':={ line:=89,col:=0,endLine:=89,endCol:=8 }) (env:=hN) (q:={ line:=0,col:=0,endLine:=0,endCol:=0 }) (b4W (congrFun (hp4 w) e)) (hr5 w e)
theorem hr3 (w:bj) (e:en):a8J cN ad w 11 (a4X (a0X 6)) (623+(713+(727+(591+2)))) (hX2 w e).abs (b5X (hQ3++(hQ4++(hQ5++(hQ6++[])))) hN hC { line:=0,col:=0,endLine:=0,endCol:=0 } hF)=al (hX7 w e).abs:=b7K (n:=623) (N:=(713+(727+(591+2)))) (s:=(hX2 w e).abs) (s':=(hX3 w e).abs) (r:=(hX7 w e).abs) (l:=hQ3) (rest:=(hQ4++(hQ5++(hQ6++[])))) (c:=hC) (pos:={ line:=0,col:=0,endLine:=0,endCol:=0 }) (p':={ line:=77,col:=0,endLine:=78,endCol:=8 }) (env:=hN) (q:={ line:=0,col:=0,endLine:=0,endCol:=0 }) (b4W (congrFun (hp3 w) e)) (hr4 w e)
theorem hr2 (w:bj) (e:en):a8J cN ad w 11 (a4X (a0X 6)) (1+(623+(713+(727+(591+2))))) (hX1 w e).abs #[denote cN hC,hC,{ line:=0,col:=0,endLine:=0,endCol:=0 },hF]=al (hX7 w e).abs:=PySem.W.piece_block (n:=1) (N:=(623+(713+(727+(591+2))))) (s:=(hX1 w e).abs) (s':=(hX2 w e).abs) (r:=(hX7 w e).abs) (b:=hB) (env:=hN) (c:=hC) (pos:={ line:=0,col:=0,endLine:=0,endCol:=0 }) (p':={ line:=0,col:=0,endLine:=0,endCol:=0 }) (q:={ line:=0,col:=0,endLine:=0,endCol:=0 }) (b4W (congrFun (hp2 w) e)) (by rw[hR1];exact hr3 w e)
noncomputable def hH:fi->Heap:=λP=>PySem.W.absHeap (hT6 P) 412 { }
theorem hr1 (w:bj) (e:en):a8J cN ad w 11 (a4X (a0X 6)) (12+(1+(623+(713+(727+(591+2)))))) #[a5V w.params,#[[]],b6W,b7W,e] (PySem.W.topStub ad)=al (hX7 w e).abs:=PySem.W.go_top (n:=12) (N:=(1+(623+(713+(727+(591+2)))))) (s':=(hX1 w e).abs) (t':=#[denote cN hC,hC,{ line:=0,col:=0,endLine:=0,endCol:=0 },hF]) (congrFun (hp1 w) e) (hr2 w e)
theorem hR (w:bj) (e:en):a8J cN ad w 11 (a4X (a0X 6)) (12+(1+(623+(713+(727+(591+2)))))) #[a5V w.params,#[[]],b6W,b7W,e] (PySem.W.topStub ad)=al #[hH w.params,#[[]],{ },757,e]:=(hr1 w e).trans (by kernel_rfl)
theorem hZ (w:bj):(λe=>((PySem.W.staticsOk (PySem.importedModules ad.main.body) (a5V w.params) (hH w.params)&&PySem.W.namesBound ad (hH w.params)&&PySem.W.gensDone #[hH w.params,#[[]],{ },757,e]&&PySem.W.laidKept (a5V w.params) (hH w.params)),PySem.W.openSeen hV [a0Q "FORMS"] (PySem.importedModules ad.main.body) (λs=>PySem.W.xlAt hV [] s&&PySem.W.recOk (b4V (b3Z (b5Q PySem.Challenge.rw_struckdeeds_k22_whole_alike_within_rows))) s) ap #[hH w.params,#[[]],{ },757,e],b7X (a6V hK hA hE) #[hH w.params,#[[]],{ },757,e]))=λ_=>(ap,PySem.W.openGood hV [a0Q "FORMS"],b7Q (a6V hK hA hE) w):=by kernel_rfl
theorem hO:PySem.W.opening ad=PySem.W.plainProg ad.main.scope.names:=by kernel_rfl
theorem hG (w:bj):((a5V w.params).isNs bd&&(#[[]]:Array GenState).size==0,(a5V w.params).objs.size,(a5V w.params).nsMap bd (a0Q "__annotations__"))=(ap,11,a4X (a0X 6)):=by kernel_rfl
theorem hJ (s:aq):PySem.fenceModules? ad s=al s:=by kernel_rfl
theorem hL:PySem.W.LeftO ad hV [a0Q "FORMS"] (λs=>PySem.W.xlAt hV [] s&&PySem.W.recOk (b4V (b3Z (b5Q PySem.Challenge.rw_struckdeeds_k22_whole_alike_within_rows))) s) (b7X (a6V hK hA hE)) (b7Q (a6V hK hA hE)) 5426:=
 @PySem.W.LeftO.of_pieces ad hV [a0Q "FORMS"] (λs=>PySem.W.xlAt hV [] s&&PySem.W.recOk (b4V (b3Z (b5Q PySem.Challenge.rw_struckdeeds_k22_whole_alike_within_rows))) s) _ (b7X (a6V hK hA hE)) (b7Q (a6V hK hA hE)) 5426 ap a5V hH #[[]] #[[]] b6W { } b7W 757 11 (a4X (a0X 6)) (12+(1+(623+(713+(727+(591+2)))))) (PySem.W.boot_open hO (by decide) hJ) hG hR (by decide) hZ
theorem hS:PySem.W.OpenLaw.wellSaid PySem.Challenge.rw_struckdeeds_k22_whole_alike_within_rows=true:=by kernel_rfl
set_option hygiene false
local macro_rules | `(tactic| walk_at "lc")=>`(tactic| first | exact Or.inl rfl | exact Or.inr rfl | exact Or.inr (Or.inl rfl) | exact Or.inr (Or.inr rfl))
local macro_rules | `(tactic| walk_at "or")=>`(tactic| first | exact .inl rfl | exact .inr rfl | assumption)
local macro_rules | `(tactic| walk_at "q")=>`(tactic| first | ((with_reducible show PSs _ [] _);exact @t9 _) | ((with_reducible show PSs _ [_] _);exact @MB _ _ _ (by walk_at "s")) | ((with_reducible show PSs _ (_::_) _);exact @Q0 _ _ _ _ _ (by walk_at "s") (by walk_at "q")))
local macro_rules | `(tactic| walk_at "s")=>`(tactic| first | ((with_reducible show PS _ (.Assign [.Name ..] (.DictComp ..) _) _);exact @sG _ _ _ _ _ _ _ _ _ _ _ _ _ _ _ _ _ _ _ rfl ij (by assumption) (RC (by rfl)) (by walk_at "lc") (by walk_at "cs") (by walk_at "n") (λC s' H' zw vp=>#[(by walk_at "g"),(by walk_at "u"),(by walk_at "e"),(by walk_at "e")]) rfl (by walk_at "or") (by intro _;rfl)) | ((with_reducible show PS _ (.Assign [.Name ..] (.ListComp ..) _) _);exact @u6 _ _ _ _ _ _ _ _ _ _ _ _ _ _ _ _ _ rfl (by assumption) (RC (by rfl)) (by walk_at "lc") (by walk_at "cs") (by walk_at "n") (λC s' H' zw vp=>#[(by walk_at "g"),(by walk_at "u"),(by walk_at "e")]) rfl (by walk_at "or") (by intro _;rfl)) | ((with_reducible show PS _ (.Assign [.Name ..] ..) _);exact @A0w _ _ _ _ _ _ _ (by assumption) (RC (by rfl)) (by walk_at "lc") (by walk_at "e") (by rfl) (by walk_at "or")) | ((with_reducible show PS _ (.If ..) _);first | walk_at "z" | exact @A3C _ _ _ _ _ _ _ _ (by walk_at "t") (by walk_at "q") (by walk_at "q")) | ((with_reducible show PS _ (.Return (al _) _) _);exact @A0t _ _ _ _ (by walk_at "e")) | ((with_reducible show PS _ (.For ..) _);first | exact @lK _ _ _ _ _ _ _ _ PassesOwn.never rfl (by walk_at "n") (by walk_at "g") (by walk_at "q") (by intro _;rfl) | exact @lK _ _ _ _ _ _ _ _ (@bY _ _ rfl rfl) rfl (by walk_at "n") (by walk_at "g") (by walk_at "q") (by intro _;rfl)) | ((with_reducible show PS _ (.Expr ..) _);exact @tD _ _ _ _ (by walk_at "e") (by rfl)) | ((with_reducible show PS _ (.Raise ..) _);first | ((with_reducible show PS _ (.Raise (al (.Call _ [_] ..)) ..) _);exact @vX P w K mg base _ _ _ _ _ _ _ _ _ _ _ rfl rfl rfl rfl rfl (by with_reducible assumption) (hr.mono (by decide)) rfl (by walk_at "a") (by decide) (by rfl)) | ((with_reducible show PS _ (.Raise (al (.Call _ [] ..)) ..) _);exact @vY K mg _ _ _ _ _ _ _ _ rfl rfl (by with_reducible assumption) hr.hd rfl (by decide))) | walk_at "x")
local macro_rules | `(tactic| walk_at "e")=>`(tactic| first | ((with_reducible show PE _ (.Name ..) _);first | exact @pvx _ _ _ _ (by rfl) (by walk_at "lc") (by decide) (by decide) | exact @uT _ _ _ _ (by rfl) (by assumption) (by decide) | exact @uS _ _ _ _ (by rfl) (by assumption) (by decide) | exact @HM _ _ (.ty "int") _ _ (by rfl) (by assumption) PyProof.Rows.boot_int rfl (by decide) (by decide) | exact @HM _ _ (.ty "str") _ _ (by rfl) (by assumption) PyProof.Rows.boot_str rfl (by decide) (by decide) | exact @HM _ _ (.ty "bool") _ _ (by rfl) (by assumption) PyProof.Rows.boot_bool rfl (by decide) (by decide) | exact @HM _ _ (.ty "list") _ _ (by rfl) (by assumption) PyProof.Rows.boot_list rfl (by decide) (by decide) | exact @HM _ _ (.ty "tuple") _ _ (by rfl) (by assumption) PyProof.Rows.boot_tuple rfl (by decide) (by decide) | exact @HM _ _ (.ty "dict") _ _ (by rfl) (by assumption) PyProof.Rows.boot_dict rfl (by decide) (by decide) | exact @HM _ _ (.ty "ValueError") _ _ (by rfl) (by assumption) PyProof.Rows.boot_ValueError rfl (by decide) (by decide)) | ((with_reducible show PE _ (.ListComp ..) _);first | ((with_reducible show PE _ (.ListComp _ [_,_] ..) _);exact @rF _ _ _ _ _ _ _ _ _ _ _ _ _ _ _ rfl (by walk_at "cs") (by walk_at "n") (λC s' H' zw vp=>#[(by walk_at "g"),(by walk_at "n"),(by walk_at "g"),(by walk_at "e")]) (by intro _;rfl) (by intro _ _;rfl)) | exact @u5 _ _ _ _ _ _ _ _ _ _ _ _ _ rfl (by walk_at "cs") (by walk_at "n") (λC s' H' zw vp=>#[(by walk_at "g"),(by walk_at "u"),(by walk_at "e")]) (by intro _;rfl)) | ((with_reducible show PE _ (.DictComp ..) _);exact @o0 _ _ _ _ _ _ _ _ _ _ _ _ _ _ _ rfl ij (by walk_at "cs") (by walk_at "n") (λC s' H' zw vp=>#[(by walk_at "g"),(by walk_at "u"),(by walk_at "e"),(by walk_at "e")]) (by intro _;rfl)) | ((with_reducible show PE _ (.Constant ..) _);first | ((with_reducible show PE _ (.Constant (.int _) ..) _);exact @A0k _ _ _ _) | ((with_reducible show PE _ (.Constant (.str _) ..) _);exact @A0m _ _ _ _) | ((with_reducible show PE _ (.Constant (.bool _) ..) _);exact @A2x _ _ _ _) | ((with_reducible show PE _ (.Constant .none ..) _);exact @A0l _ _ _)) | ((with_reducible show PE _ (.Call ..) _);first | walk_at "y" | ((with_reducible show PE _ (.Call (.Name (a0Q "len") _) ..) _);exact @GO _ _ _ _ _ _ _ _ _ (@A4S _ K rfl) (by rfl) (by assumption) PySem.boot_len (by walk_at "a") (by decide) (by decide) (by rfl) (by rfl)) | ((with_reducible show PE _ (.Call (.Name (a0Q "isinstance") _) ..) _);exact @GO _ _ _ _ _ _ _ _ _ (@A4V _ K rfl) (by rfl) (by assumption) PyProof.Rows.boot_isinstance (by walk_at "a") (by decide) (by decide) (by rfl) (by rfl)) | ((with_reducible show PE _ (.Call (.Name (a0Q "all") _) ..) _);exact @GO _ _ _ _ _ _ _ _ _ (@A4T _ K rfl rfl) (by rfl) (by assumption) PyProof.Rows.boot_all (by walk_at "a") (by decide) (by decide) (by rfl) (by rfl)) | ((with_reducible show PE _ (.Call (.Name (a0Q "any") _) ..) _);exact @GO _ _ _ _ _ _ _ _ _ (@A4U _ K rfl rfl) (by rfl) (by assumption) PyProof.Rows.boot_any (by walk_at "a") (by decide) (by decide) (by rfl) (by rfl)) | ((with_reducible show PE _ (.Call (.Name (a0Q "sorted") _) ..) _);exact @GO _ _ _ _ _ _ _ _ _ (@A2A _ K rfl rfl) (by rfl) (by assumption) PyProof.Rows.boot_sorted (by walk_at "a") (by decide) (by decide) (by rfl) (by rfl)) | ((with_reducible show PE _ (.Call (.Name (a0Q "tuple") _) ..) _);exact @TJ _ _ _ _ _ _ _ _ _ (@A1s _ K rfl) (by rfl) (by assumption) PyProof.Rows.boot_tuple (by walk_at "a") (by decide) (by decide) (by rfl) (by rfl)) | ((with_reducible show PE _ (.Call (.Name ..) ..) _);exact @e9 _ K P w mg base _ _ _ _ _ _ _ _ _ rfl rfl rfl rfl rfl (by with_reducible assumption) (hr.mono (by decide)) rfl (by walk_at "a") (by decide) (by rfl) (by rfl)) | ((with_reducible show PE _ (.Call (.Name ..) ..) _);exact @A2I P w K mg base _ _ _ _ _ _ _ _ _ _ _ rfl rfl rfl rfl rfl (by with_reducible assumption) (hr.mono (by decide)) rfl (by walk_at "a") (by decide) (by rfl) (by rfl)) | ((with_reducible show PE _ (.Call (.Attribute _ (a0Q "append") _) ..) _);exact @kBm _ K _ _ _ _ _ _ _ _ _ _ _ rfl PySem.F.plainAttrs_list PySem.F.slot_list_append PySem.F.type_list_append (@nN _) (by walk_at "e") (by walk_at "a") (by rfl) (by rfl) (by rfl) (by rfl) (by rfl)) | walk_at "x") | ((with_reducible show PE _ (.BinOp ..) _);first | ((with_reducible show PE _ (.BinOp _ .Add ..) _);exact @KO _ _ _ _ _ _ _ _ (@A3h _ K rfl) (by walk_at "e") (by walk_at "e")) | ((with_reducible show PE _ (.BinOp _ .Sub ..) _);exact @KO _ _ _ _ _ _ _ _ (@A02 _) (by walk_at "e") (by walk_at "e")) | ((with_reducible show PE _ (.BinOp _ .Mod ..) _);exact @KO _ _ _ _ _ _ _ _ (@A03 _) (by walk_at "e") (by walk_at "e")) | ((with_reducible show PE _ (.BinOp _ .FloorDiv ..) _);exact @KO _ _ _ _ _ _ _ _ (@mB _) (by walk_at "e") (by walk_at "e")) | ((with_reducible show PE _ (.BinOp _ .Pow ..) _);exact @KO _ _ _ _ _ _ _ _ (@A04 _) (by walk_at "e") (by walk_at "e")) | ((with_reducible show PE _ (.BinOp _ .LShift ..) _);exact @KO _ _ _ _ _ _ _ _ (@A05 _) (by walk_at "e") (by walk_at "e"))) | ((with_reducible show PE _ (.Compare ..) _);first | walk_at "y" | ((with_reducible show PE _ (.Compare _ [.Eq] ..) _);exact @G2 _ _ _ _ _ _ _ _ (@kEq _ K rfl hu) (by walk_at "e") (by walk_at "e") (@D0 _ _ (by decide) (by decide))) | ((with_reducible show PE _ (.Compare _ [.NotEq] ..) _);exact @G2 _ _ _ _ _ _ _ _ (@kNe _ K rfl hu) (by walk_at "e") (by walk_at "e") (@D0 _ _ (by decide) (by decide))) | ((with_reducible show PE _ (.Compare _ [.Lt] ..) _);exact @G2 _ _ _ _ _ _ _ _ (@mM _) (by walk_at "e") (by walk_at "e") (@D0 _ _ (by decide) (by decide))) | ((with_reducible show PE _ (.Compare _ [.Is] ..) _);exact @G2 _ _ _ _ _ _ _ _ (@nV _) (by walk_at "e") (by walk_at "e") (@D0 _ _ (by decide) (by decide))) | ((with_reducible show PE _ (.Compare _ [.IsNot] ..) _);exact @G2 _ _ _ _ _ _ _ _ (@eL _) (by walk_at "e") (by walk_at "e") (@D0 _ _ (by decide) (by decide))) | ((with_reducible show PE _ (.Compare _ [.Gt] ..) _);exact @G2 _ _ _ _ _ _ _ _ (@A0I _) (by walk_at "e") (by walk_at "e") (@D0 _ _ (by decide) (by decide))) | ((with_reducible show PE _ (.Compare _ [.GtE] ..) _);exact @G2 _ _ _ _ _ _ _ _ (@A0J _) (by walk_at "e") (by walk_at "e") (@D0 _ _ (by decide) (by decide)))) | ((with_reducible show PE _ (.Subscript ..) _);first | ((with_reducible show PE _ (.Subscript _ (.Slice _ _ am _) _) _);exact @lS _ _ _ _ _ _ _ _ _ _ (@A4W _ K rfl) (by walk_at "e") (by walk_at "o") (by walk_at "o")) | walk_at "y" | exact @A3J _ _ _ _ _ _ _ (@kIx _ K rfl) (by walk_at "e") (by walk_at "e") (λ_ _=>rfl)) | ((with_reducible show PE _ (.Tuple ..) _);exact @lQ _ _ _ _ _ (by walk_at "a")) | ((with_reducible show PE _ (.List ..) _);exact @A1A _ _ _ _ (by walk_at "a")) | ((with_reducible show PE _ (.IfExp ..) _);exact @l7 _ _ _ _ _ _ _ _ (by walk_at "t") (by walk_at "e") (by walk_at "e")) | ((with_reducible show PE _ (.BoolOp ..) _);first | ((with_reducible show PE _ (.BoolOp _ [_] _) _);exact @A0p _ _ _ _ _ (by walk_at "e")) | ((with_reducible show PE _ (.BoolOp .Or ..) _);exact @A3B _ _ _ _ _ _ _ (by walk_at "e") (by walk_at "e")) | exact @A0q _ _ _ _ _ _ _ (by walk_at "e") (by walk_at "e")) | ((with_reducible show PE _ (.UnaryOp ..) _);first | ((with_reducible show PE _ (.UnaryOp .Not ..) _);exact @A0r _ _ _ _ (by walk_at "e")) | exact @A3F _ _ _ _ _ _ (@A06 _) (by walk_at "e")) | walk_at "x")
local macro_rules | `(tactic| walk_at "t")=>`(tactic| first | ((with_reducible show PT _ (.Compare ..) _);first | walk_at "y" | ((with_reducible show PT _ (.Compare _ [.Eq] ..) _);exact @CV _ _ _ _ _ _ _ _ (@kEq _ K rfl hu) (by walk_at "e") (by walk_at "e") (@D0 _ _ (by decide) (by decide))) | ((with_reducible show PT _ (.Compare _ [.NotEq] ..) _);exact @CV _ _ _ _ _ _ _ _ (@kNe _ K rfl hu) (by walk_at "e") (by walk_at "e") (@D0 _ _ (by decide) (by decide))) | ((with_reducible show PT _ (.Compare _ [.Lt] ..) _);exact @CV _ _ _ _ _ _ _ _ (@mM _) (by walk_at "e") (by walk_at "e") (@D0 _ _ (by decide) (by decide))) | ((with_reducible show PT _ (.Compare _ [.Is] ..) _);exact @CV _ _ _ _ _ _ _ _ (@nV _) (by walk_at "e") (by walk_at "e") (@D0 _ _ (by decide) (by decide))) | ((with_reducible show PT _ (.Compare _ [.IsNot] ..) _);exact @CV _ _ _ _ _ _ _ _ (@eL _) (by walk_at "e") (by walk_at "e") (@D0 _ _ (by decide) (by decide))) | ((with_reducible show PT _ (.Compare _ [.Gt] ..) _);exact @CV _ _ _ _ _ _ _ _ (@A0I _) (by walk_at "e") (by walk_at "e") (@D0 _ _ (by decide) (by decide))) | ((with_reducible show PT _ (.Compare _ [.GtE] ..) _);exact @CV _ _ _ _ _ _ _ _ (@A0J _) (by walk_at "e") (by walk_at "e") (@D0 _ _ (by decide) (by decide))) | walk_at "x") | ((with_reducible show PT _ (.BoolOp ..) _);exact @L2.PW.pt _ _ _ (by walk_at "w")) | ((with_reducible show PT _ (.UnaryOp .Not ..) _);exact @A0o _ _ _ _ (by walk_at "t")) | exact @A0n _ _ _ (by walk_at "e") (by intro _;rfl))
local macro_rules | `(tactic| walk_at "w")=>`(tactic| first | ((with_reducible show PW _ (.BoolOp .Or ..) _);first | ((with_reducible show PW _ (.BoolOp _ [_] _) _);exact @pw_or1 _ _ _ _ (by walk_at "t")) | exact @pw_or _ _ _ _ _ _ _ (by walk_at "t") (by walk_at "w")) | ((with_reducible show PW _ (.BoolOp _ [_] _) _);exact @pw_and1 _ _ _ _ (by walk_at "t")) | exact @pw_and _ _ _ _ _ _ _ (by walk_at "t") (by walk_at "w"))
local macro_rules | `(tactic| walk_at "a")=>`(tactic| first | ((with_reducible show PA _ [] _);exact @aS _) | exact @PB _ _ _ _ _ (by walk_at "e") (by walk_at "a") (by rfl))
local macro_rules | `(tactic| walk_at "o")=>`(tactic| first | ((with_reducible show PO _ am _);exact @tM _) | exact @tN _ _ _ (by walk_at "e"))
local macro_rules | `(tactic| walk_at "u")=>`(tactic| first | ((with_reducible show PTs _ [] _);exact @dQ _) | exact @u4 _ _ _ (by walk_at "t"))
local macro_rules | `(tactic| walk_at "n")=>`(tactic| first | ((with_reducible show PI _ _ (.Call ..) _);first | ((with_reducible show PI _ _ (.Call (.Name (a0Q "range") _) [_] ..) _);exact @gT _ _ _ _ _ _ rfl (by assumption) (by walk_at "a") (by rfl)) | walk_at "x") | walk_at "y" | exact @A3g _ K _ _ _ rfl (by walk_at "e"))
local macro_rules | `(tactic| walk_at "g")=>`(tactic| first | ((with_reducible show PG _ (.Name ..) _);exact @US _ _ _ _ (by assumption) (RC (by rfl)) (by walk_at "lc") (by walk_at "or")) | walk_at "x")
local macro_rules | `(tactic| walk_at "j")=>`(tactic| first | ((with_reducible show PGs _ [] _);exact @tE _) | exact @lC _ _ _ _ _ (by walk_at "g") (by walk_at "j") (by rfl))
local macro_rules | `(tactic| walk_at "b1")=>`(tactic| exact @MB _ _ _ (by walk_at "s"))
local macro_rules | `(tactic| walk_at "b2")=>`(tactic| exact @Q0 _ _ _ _ _ (by walk_at "s") (by walk_at "q"))
local macro_rules | `(tactic| walk_at "dl")=>`(tactic| first
 | (with_reducible first | refine mI ?_ | refine pK ?_ | refine mH ?_ | refine dX ?_ | refine mG ?_ | refine A3a ?_ | refine dW ?_ | refine dU ?_ | refine ds_setitem ?_ | refine oM ?_ | refine A3r ?_ | refine j4 ?_ | refine dx_raise0 ?_ | refine fA (FH ?_) | refine dx_set (FH ?_) | refine VO (FH ?_) | refine EU (mH ?_) | refine EU (dX ?_) | refine EU (mG ?_) | refine EU (dW ?_) | refine EU (dU ?_) | refine EU (ds_setitem ?_) | refine EU (oM ?_))
 | ((with_reducible apply A1U);exact rfl)
 | (with_reducible first | refine A1V ?_ | refine A3R ?_ | refine A1W ?_ | refine A1X ?_ | refine A3S ?_ | refine A3T ?_ | refine A3U ?_ | refine mE ?_ | refine u9 ?_ | refine A4Q ?_ | refine A1Y ?_ | refine A3V ?_ | refine A1Z ?_ | refine A1a ?_ | refine A1b ?_ | refine A3W ?_ | refine A1c ?_ | refine A3X ?_ | refine mF ?_ | refine uA ?_ | refine A3Y ?_ | refine A1d ?_ | refine A3Z ?_ | refine uC ?_ | refine uD ?_ | refine uL ?_ | refine n5 ?_ | refine uW ?_)
 | ((with_reducible refine A1u ?_ ?_);exact rfl)
 | ((with_reducible refine vD ?_ ?_);exact rfl)
 | (with_reducible first | refine A3c ?_ | refine A3d ?_ | refine A4R ?_ | refine n8 ?_ | refine uO ?_)
 | ((with_reducible refine dY ?_ ?_);(first
     | ((with_reducible show CMul _ _);first | exact nC (by decide) (by decide) | exact VB (by decide) (by decide) | exact VB (by lia) (by lia))
     | ((with_reducible show A0S _ _);first | exact#[by decide,by decide] | exact#[by assumption,by assumption])
     | ((with_reducible show A00 _ _);exact#[by decide,by decide,by decide])
     | (show(0:Int) < _;first | decide | assumption | lia)))
 | ((with_reducible apply d2A_ixo);(first | assumption | exact zU);exact rfl)
 | ((with_reducible apply setq);(first | assumption | exact zU);exact rfl)
 | ((with_reducible refine nQ ?_ ?_);(first | exact CMul.ok (nC (by decide) (by decide)) | exact CMul.ok (VB (by decide) (by decide))))
 | (with_reducible first | refine d2_isB ?_ | refine d2_notB ?_ | refine rd_max ?_ | refine rd_min ?_ | refine rd_intb ?_ | refine dgs_item ?_ | refine rd_abs ?_)
 | ((with_reducible refine mX (b:=ap) ?_ ?_);exact rfl)
 | ((with_reducible refine mX (b:=aw) ?_ ?_);exact rfl)
 | with_reducible refine uB ?_
 | ((with_reducible show D2 _ (QC _) (.d (.tuple (_::_))) (.d (.int _)) _ _);first | refine A2i ?_ | refine A2j ?_ | refine A2k ?_ | refine A2l ?_ | refine A2m ?_)
 | ((with_reducible show D2 _ _ (.d (.str (a0Q _))) (.d (.str (a0Q _))) _ _);first | refine pA (t:=ap) (by decide +kernel) ?_ | refine pA (t:=aw) (by decide +kernel) ?_)
 | ((with_reducible apply A4Y);exact rfl;exact yD rfl)
 | (with_reducible refine Exists.intro _ (And.intro rfl ?_))
 | (with_reducible refine L2.hU ?_)
 | (with_reducible refine L2.m5 ?_)
 | (refine L2.hU ?_)
 | (refine L2.m5 ?_)
 | walk_at "unf")
local macro_rules | `(tactic| walk_at "unf")=>`(tactic| first | ((with_reducible show DSt _ _ _ _ _);(with_reducible refine yP (by assumption) ?_)) | ((with_reducible show DXt _ _ _ _ _ _ _);(with_reducible refine yS (by assumption) ?_)))
local macro_rules | `(tactic| walk_at "hi")=>`(tactic| (intro cdv A outer s H E hr hu ij nd))
local macro_rules | `(tactic| walk_at "hd")=>`(tactic| (walk_at "hi";walk_at "nm";clear nd))
local macro_rules | `(tactic| walk_at "nm")=>`(tactic| first | ((with_reducible show Nm _ [_] _);refine sF ?_;refine#[_,by walk_at "s", ?_];repeat (intro xx hx;refine#[_,by walk_at "s", ?_])) | (refine yO ?_;walk_at "nm") | (refine sF ?_;refine#[_,by walk_at "s", ?_]))
local macro_rules | `(tactic| left)=>`(tactic| repeat walk_at "dl")
local macro_rules | `(tactic| walk_at "wkd")=>`(tactic| repeat (first | walk_at "dl" | refine J3 ?_ | refine de_dnew ?_))
local macro_rules | `(tactic| walk_at "wks")=>`(tactic| ((repeat ((fail_if_success (with_reducible show DSt _ _ _ _ _));(first | walk_at "dl" | refine J3 ?_ | refine de_dnew ?_)));(try walk_at "unf")))
section
variable {P:bn}{w:bj}{K:Frg}{mg:Str->Option ao}{base:cr}
def WM:List Str:=["_law_script","_law_k"]
theorem WN (F:Fun K "_law_cell" "_law_cell" JO f N) (j:mg "len"=am):FnOk P w K mg base CX0 1 f N ["_law_script","_law_k"] (spD K 2 MX):=by
 refine hD WM F #[rfl,rfl,rfl,by decide +kernel,rfl,by decide +kernel,by decide +kernel] ?_;walk_at "hd";rintro t M r ⟨e,k,rfl⟩;left;refine MJ ?_;left;rw[zX];cases hk:decide ((k:Int) < (e.length:Int)) with
 | true=>
   have n:k < e.length:=by have:=of_decide_eq_true hk;lia
   left;refine AT (d:=.int e[k]) (AG (by rw[zF,zV n];rfl)) ?_;exact#[M,zT M,rfl,_,rfl]
 | false=> left;exact#[M,zT M,rfl,_,rfl]
def P6:List Str:=["_law_cell_here","_law_size","_law_one","_law_other","_law_found","_law_k","_law_number_here"]
section
local macro_rules | `(tactic| walk_at "x")=>`(tactic| first | ((with_reducible show PE _ (.BinOp _ .Mult ..) _);exact @KO _ _ _ _ _ _ _ _ (@v9 _ K rfl) (by walk_at "e") (by walk_at "e")))
theorem P7 (F:Fun K "_law_stirred" "_law_stirred" FO f z) (B:mg "range"=am):FnOk P w K mg base CX0 1 f z ["_law_cell_here","_law_size"] (spD K 2 G9):=by
 refine hD P6 F #[rfl,rfl,rfl,by decide +kernel,rfl,by decide +kernel,by decide +kernel] ?_;walk_at "hd";rintro U M J ⟨c,n,rfl,hn⟩;left;refine MH ?_;left;intro A hA;left;try walk_at "unf"
 refine F7 ?_;refine K1 ?_;left;refine#[by lia,by lia,?_];refine#[λk t M1=>∃(r a b:Int) (acc:List Int) (m p:Option DS),acc.length=k/\okX acc/\0<=a/\a < 2147483629/\0<=b/\b < 2147483549/\M1=M.put A (.l (acc.map .int))/\t=[al (.d (.int r)),al (.d (.int n)),al (.d (.int a)),al (.d (.int b)),al (.loc A),m,p],#[c,_,_,[],_,_,rfl,(λx hx=>nomatch hx),(by lia:0<=c % 2147483579+13),by lia,(by lia:0<=c/1013 % 1999999871+31),by lia,rfl,rfl],?_,?_]
 . rintro k d t M1 hd ⟨r,a,b,acc,m,p,hk,hok,I,O,D,b1,rfl,rfl⟩;obtain⟨Q,rfl⟩:=K7 hd;left;refine nQ (CMul.ok (VB (by lia) (by lia))) ?_;left;generalize G:(a*48271+b+43*(k:Int)) % 2147483629=g;have q:0<=g:=by lia
   have u:g < 2147483629:=by lia
   generalize y:(b*39373+7*g+(k:Int)*(k:Int)) % 2147483549=j;have T:0<=j:=by rw[<-y];exact a7W _ (by decide)
   have N:j < 2147483549:=by rw[<-y];exact b1K _ (by decide)
   cases hc:decide ((10:Int) ^ Int.toNat 18<=r) with
   | true=>
     left;refine OJ ?_;walk_at "dl";refine#[HP (ds:=acc.map .int) zU,?_];left;refine E4 (ds:=acc.map .int) zU (by rw[zX];exact zP (show _ < 201 by lia) (by decide)) ?_;rw[yI,show(10:Int) ^ Int.toNat 9=1000000000 by decide];refine#[_,g,j,acc++[r % 1000000000],_,_,by rw[yY,hk];rfl,λv S=>?_,q,u,T,N,by rw[xI];rfl,rfl];rcases yW.mp S with h | h;. exact hok v h
     . rw[List.mem_singleton.mp h];lia
   | false=>
     left;refine OJ ?_;walk_at "dl";refine#[HP (ds:=acc.map .int) zU,?_];left;refine E4 (ds:=acc.map .int) zU (by rw[zX];exact zP (show _ < 201 by lia) (by decide)) ?_;rw[yI];refine#[_,g,j,acc++[(g+13*j) % 999999883],_,_,by rw[yY,hk];rfl,λv S=>?_,q,u,T,N,by rw[xI];rfl,rfl];rcases yW.mp S with h | h;. exact hok v h
     . rw[List.mem_singleton.mp h];lia
 . rintro t M1 ⟨r,a,b,acc,m,p,hk,hok,I,O,D,b1,rfl,rfl⟩;rw[JD] at hk;try walk_at "unf"
   refine EZ (i:=4) (a:=A) rfl zU ?_;rw[yG hA];left;refine#[M,zT M,λZ L e=>#[rfl,acc,rfl,?_,hok]];simp only[List.cons.injEq,DS.d.injEq,PyData.int.injEq,and_true] at e;lia
end
def L1:List Str:=["_law_xs","_law_at","_law_size","_law_letters","_law_word","_law_x","_law_found","_law_k","_law_name","_law_first"]
def IU:List Str:=["_law_k","_law_letters","_law_xs","_law_at"]
def IV:List (Option Nat):=[am,al 3,al 0,al 1]
section
local macro_rules | `(tactic| walk_at "cs")=>`(tactic| first | exact @JB _ _ IU IV (AB EY) L1 (by decide +kernel) (by decide +kernel) rfl rfl)
local macro_rules | `(tactic| walk_at "x")=>`(tactic| first | ((with_reducible show PE _ (.Call (.Attribute _ (a0Q "join") _) ..) _);exact @kBm _ K _ _ _ _ _ _ _ _ _ _ _ rfl PySem.F.plainAttrs_str PySem.F.slot_str_join PySem.F.type_str_join (@A3f _ K rfl) (by walk_at "e") (by walk_at "a") (by rfl) (by rfl) (by rfl) (by rfl) (by rfl)) | ((with_reducible show PE _ (.BinOp _ .Mult ..) _);exact @KO _ _ _ _ _ _ _ _ (@v9 _ K rfl) (by walk_at "e") (by walk_at "e")))
theorem SZ (F:Fun K "_law_names" "_law_names" EY f N) (y:mg "range"=am):FnOk P w K mg base CX0 1 f N ["_law_xs","_law_at","_law_size"] (spD K 3 K8):=by
 refine hD L1 F #[rfl,rfl,rfl,by decide +kernel,rfl,by decide +kernel,by decide +kernel] ?_;walk_at "hi";have Z:IU.Nodup:=by decide +kernel
 walk_at "nm";clear Z nd;rintro B M O ⟨L,a,n,rfl,hL,T,hn,S⟩;unfold nxX;have Y:(L.map b8Z)[a]?=al (.int L[a]):=by rw[zF,zV (by lia)];rfl
 have r:(L.map b8Z)[a+1]?=al (.int L[a+1]):=by rw[zF,zV (by lia)];rfl
 have G:=hL _ (a1J (l:=L) (n:=a) (by lia));have p:=hL _ (a1J (l:=L) (n:=a+1) (by lia));generalize L[a]=u at Y G;generalize L[a+1]=x at r p;left;refine OJ ?_;walk_at "dl";refine#[dZ,?_];walk_at "dl";refine CF (BF 0) (by simp[IV]) ?_;refine K1 ?_;left;refine#[by decide,by decide,?_];refine#[by decide,λ_=>ap,A3s u,?_,?_];. intro d hd q;obtain⟨k,hk,rfl⟩:=pT (n:=8) hd;walk_at "dl";refine#[rfl,?_];walk_at "dl";refine#[rfl,rfl,λ_=>?_];left;refine AT (AG Y) ?_;left;refine dY #[by lia,by lia] ?_;left;refine e8 (by rw[OK];decide) (pW _) ?_;exact#[rfl,rfl]
 have b:((GS 0 (Int.toNat 8)).filter λ_=>ap).map (A3s u)=((HZ u).map λc=>(#[(y9 [c])]:Str)).map .str:=rfl;rw[b];left;refine uJ (by rw[TV,LM];show 8+_*0<=_;lia) ?_;rw[bI,show(#[(HZ u).toArray]:Str)=z18 u from rfl];left;refine AT (AG (j:=a+1) r) ?_;left;refine MH ?_;left;intro A hA;left;try walk_at "unf"
 refine F7 ?_;refine K1 ?_;left;refine#[by lia,by lia,?_];refine#[λk t M1=>M1=M.put A (.l (((a2Q k).map (GZ u x)).map .str))/\∃x7 x8 x9:Option DS,t=[al (.d (.list (L.map .int))),al (.d (.int a)),al (.d (.int n)),al (.d (.str (a0Q "abcdefghijklmnopqrstuvwxyz"))),al (.d (.str (z18 u))),al (.d (.int x)),al (.loc A),x7,x8,x9],#[rfl,_,_,_,rfl],?_,?_]
 . rintro k d t M1 hd ⟨rfl,x7,x8,x9,rfl⟩;obtain⟨D,rfl⟩:=K7 hd;left;refine XR (by rw[RG];decide) ?_;left;refine AZ rfl rfl ?_;rw[if_neg nft,PP];have z:∀m:Int,(b2Z (z18 u) am (al m)).length<=8:=λm=>i9 _ _ _ (by rw[RG];exact zR _);have fin:∀{x7 x8 x9:Option DS},(M.put A (.l ((((a2Q k).map (GZ u x)).map .str)++[.str (GZ u x k)])))=M.put A (.l (((a2Q (k+1)).map (GZ u x)).map .str)):=λ{_ _ _}=>by rw[List.range_succ,xI,xI];rfl
   cases hc:decide (x/8 % 2=0) with
   | true=> have g:=of_decide_eq_true hc;left;refine e8 (by rw[OK];decide) (pW _) ?_;left;refine XR (by rw[RG];decide) ?_;left;refine n9 (by have:=z (x/16 % 8);exact zN (show _<=9 by show 1+_<=9;lia) (by decide)) ?_;rw[show(#[(y9 [KW (x/16+(k:Int))])]:Str)++b2Z (z18 u) am (al (x/16 % 8))=GZ u x k by unfold GZ;rw[if_pos g]];left;refine OJ ?_;walk_at "dl";refine#[HP (ds:=((a2Q k).map (GZ u x)).map .str) zU,?_];left;refine E4 (ds:=((a2Q k).map (GZ u x)).map .str) zU (by simp only[zX,xY];exact zP (show k < 7 by lia) (by decide)) ?_;rw[yI];exact#[fin (x7:=am) (x8:=am) (x9:=am),_,_,_,rfl]
   | false=> have g:=of_decide_eq_false hc;rw[show b2Z (z18 u) am (al (1+(x+(k:Int)) % 8))=GZ u x k by unfold GZ;rw[if_neg g]];left;refine OJ ?_;walk_at "dl";refine#[HP (ds:=((a2Q k).map (GZ u x)).map .str) zU,?_];left;refine E4 (ds:=((a2Q k).map (GZ u x)).map .str) zU (by simp only[zX,xY];exact zP (show k < 7 by lia) (by decide)) ?_;rw[yI];exact#[fin (x7:=am) (x8:=am) (x9:=am),_,_,_,rfl]
 . rintro t M1 ⟨rfl,x7,x8,x9,rfl⟩;rw[JD];try walk_at "unf"
   refine EZ (i:=6) (a:=A) rfl zU ?_;rw[yG hA];left;refine#[M,zT M,λh v I e=>#[rfl,_,rfl,wA u x hn,?_]];simp only[nxX,List.cons.injEq,DS.d.injEq,PyData.int.injEq,and_true] at e;rw[zX,xY];lia
end
def T0:List Str:=["_law_x"]
theorem T2 (F:Fun K "_law_place" "_law_place" IG f N):FnOk P w K mg base CX0 1 f N ["_law_x"] (spD K 1 H0):=by
 refine hD T0 F #[rfl,rfl,rfl,by decide +kernel,rfl,by decide +kernel,by decide +kernel] ?_;walk_at "hd";rintro t M r ⟨x,rfl,S,h1⟩;walk_at "wkd";obtain h | h | h:x % 3=0\/x % 3=1\/x % 3=2:=by lia
 all_goals
   rw[h];refine AT rfl ?_;exact#[M,zT M,rfl,_,rfl,by lia,by lia]
def S6:List Str:=["_law_x"]
section
local macro_rules | `(tactic| walk_at "x")=>`(tactic| first | ((with_reducible show PE _ (.BinOp _ .Mult ..) _);exact @KO _ _ _ _ _ _ _ _ (@v9 _ K rfl) (by walk_at "e") (by walk_at "e")))
theorem S7 (F:Fun K "_law_number" "_law_number" GI f N):FnOk P w K mg base CX0 1 f N ["_law_x"] (spD K 1 FI):=by
 refine hD S6 F #[rfl,rfl,rfl,by decide +kernel,rfl,by decide +kernel,by decide +kernel] ?_;walk_at "hd";rintro t M r ⟨x,rfl,S,h1⟩;walk_at "wkd";rw[show(10:Int) ^ Int.toNat 6=1000000 by decide,show(10:Int) ^ Int.toNat 8=100000000 by decide];obtain h | h | h | h:x % 4=0\/x % 4=1\/x % 4=2\/x % 4=3:=by lia
 all_goals
   rw[h];refine AT rfl ?_;exact#[M,zT M,rfl,_,rfl,by lia,by lia]
end
def WO:List Str:=["_law_some","_law_x"]
theorem WP (F:Fun K "_law_pick" "_law_pick" JP f N) (n:mg "len"=am):FnOk P w K mg base CX0 1 f N ["_law_some","_law_x"] (spD K 2 MZ):=by
 refine hD WO F #[rfl,rfl,rfl,by decide +kernel,rfl,by decide +kernel,by decide +kernel] ?_;walk_at "hd";rintro p M r ⟨ys,x,rfl,h,k⟩;rw[show C7 ys = .list (ys.map .str) from rfl];have m:0 < ys.length:=List.length_pos_iff.mpr h;left;refine MJ ?_;rw[zX];have hp2:(0:Int) < (ys.length:Int):=by lia
 left;obtain⟨z,t,j⟩:=eT (ys:=ys) (v:=x % (ys.length:Int)) (a7W _ (by lia)) (b1K _ hp2);refine AT t ?_;refine#[M,zT M,λi Z e=>#[rfl,z,rfl,?_]];simp only[C7,List.cons.injEq,DS.d.injEq,PyData.list.injEq,and_true] at e;rw[<-J9 e.1];exact j
def T3:List Str:=["_law_xs","_law_at","_law_names_here","_law_found","_law_k"]
theorem T4 (F:Fun K "_law_world" "_law_world" IH f N) (ba:mg "len"=am) (ax:mg "range"=am) (bi:mg "sorted"=am) (ak:mg "tuple"=am) (ay:Has P w K mg base "_law_number" 1 ["_law_x"] FI) (be:Has P w K mg base "_law_place" 1 ["_law_x"] H0):FnOk P w K mg base CX0 2 f N ["_law_xs","_law_at","_law_names_here"] (spD K 3 K9):=by
 refine hD T3 F #[rfl,rfl,rfl,by decide +kernel,rfl,by decide +kernel,by decide +kernel] ?_;walk_at "hd";rintro xs M hl ⟨L,a,c,rfl,hL,ha,r_,hn,h6⟩;unfold RI;have Z:∀i,i < L.length->(L.map b8Z)[i]?=al (.int (L.getD i 0)):=λi hi=>by rw[zF,yU,zV hi];rfl
 have hx:∀i,i < L.length->0<=L.getD i 0/\L.getD i 0 < 1000000000:=λi hi=>by rw[yU,zV hi];exact hL _ (a1J hi)
 left;refine MH ?_;left;intro A hA;left;try walk_at "unf"
 refine F7 ?_;refine K1 ?_;left;refine MJ ?_;rw[zX];left;refine#[by lia,by lia,?_];refine#[λk n M1=>k<=c.length/\∃(w:List Th) (r:Option DS),(w.map (·.1)).Sublist (c.take k)/\(∀t∈w,0<=t.2.1/\t.2.1<=999/\-1000000000000<=t.2.2/\t.2.2<=1000000000000)/\M1=M.put A (.l (w.map thD))/\n=[al (.d (.list (L.map .int))),al (.d (.int a)),al (.d (C7 c)),al (.loc A),r],#[xT _,[],_,List.nil_sublist _,(λt u=>nomatch u),rfl,rfl],?_,?_]
 . rintro k d n M1 hd ⟨hk,w,r,I,hb,rfl,rfl⟩;obtain⟨p,rfl⟩:=K7 hd;have m:w.length<=6:=by have:=I.length_le;rw[zX,a0J] at this;lia
   have q:(c.map a0K)[k]?=al (.str c[k]):=by rw[zF,zV p];rfl
   have htk:c.take (k+1)=c.take k++[c[k]]:=by rw[a1V,zV p];rfl
   left;refine AT (AG (Z a (by lia))) ?_;left;refine dY #[by lia,by lia] ?_;obtain⟨b,Y,Q,x⟩:∃b:Int,0 < b/\b < 2 ^ 64/\(1:Int)*2 ^ ((k:Int).toNat)=b:=by
     rw[a9V];have v:k < 6:=by lia
     match k,v with
     | 0,_=>exact#[_,by decide,by decide,rfl]
     | 1,_=>exact#[_,by decide,by decide,rfl]
     | 2,_=>exact#[_,by decide,by decide,rfl]
     | 3,_=>exact#[_,by decide,by decide,rfl]
     | 4,_=>exact#[_,by decide,by decide,rfl]
     | 5,_=>exact#[_,by decide,by decide,rfl]
   rw[x];refine dY #[Y,Q] ?_;left;refine AZ rfl rfl ?_;rw[if_neg nft,PP];cases decide (L.getD a 0/b % 2=1) with
   | false=> left;exact#[by lia,w,_,I.trans (by rw[htk];exact List.sublist_append_left _ _),hb,rfl,rfl]
   | true=>
     left;refine OJ ?_;walk_at "dl";refine#[HP (ds:=w.map thD) zU,?_];left;refine AT (AG q) ?_;left;refine AT (AG (j:=a+1+k) (Z _ (by lia))) ?_;left;refine MY (hx _ (by lia)) λG y z=>?_;left;refine AT (AG (j:=a+1+k) (Z _ (by lia))) ?_;left;refine KY (by have:=hx (a+1+k) (by lia);lia) λJ T O=>?_;left;refine E4 (ds:=w.map thD) zU (by rw[zX];exact zQ m (by decide)) ?_;rw[yI];refine#[by lia,w++[(c[k],G,J)],_,by rw[xI,htk];exact List.Sublist.append I (List.Sublist.refl _),λt u=>?_,by rw[xI];rfl,rfl];rcases yW.mp u with h | h;. exact hb t h
     . rw[List.mem_singleton.mp h];exact#[y,z,T,O]
 . rintro n M1 ⟨hk,w,r,I,hb,rfl,rfl⟩;rw[JD,a1Q] at I;have g:(w.map (·.1)).Nodup:=hn.2.1.sublist I;have m:w.length<=6:=by have:=I.length_le;rw[zX] at this;lia
   try walk_at "unf"
   refine EZ (i:=3) (a:=A) rfl zU ?_;rw[yG hA];left;rw[<-oZ];refine oI (by rw[zD];exact g) (by rw[zX];lia) λU hp D=>?_;obtain⟨X,S,B⟩:=p6 hp;rw[S];left;refine K3 ?_;refine#[M,zT _,λL' a' bw e=>#[rfl,U.map unB,rfl,#[by rw[B];exact bW D,λt u=>?_],λt u=>?_]];. have u:=X.mem_iff.mp u;exact#[hn.1 _ (I.subset (zL.mpr #[t,u,rfl])),hb t u]
   . have u:=X.mem_iff.mp u;simp only[RI,List.cons.injEq,DS.d.injEq,and_true] at e;rw[<-RB e.2.2];exact I.subset (zL.mpr #[t,u,rfl])
def T5:List Str:=["_law_world_here","_law_found","_law_name","_law_place_here","_law_count"]
section
local macro_rules | `(tactic| walk_at "x")=>`(tactic| first | ((with_reducible show PE _ (.Dict ..) _);exact @lX _ _) | ((with_reducible show PG _ (.Tuple ..) _);exact @i6 _ K _ _ _ _ (3) rfl rfl (by walk_at "j") (by rfl) (by rfl)) | ((with_reducible show PS _ (.Assign [.Subscript ..] ..) _);exact @MG _ _ _ _ _ _ _ _ _ ij (by walk_at "e") (by walk_at "e") (by walk_at "e") (by rfl)))
theorem T6 (F:Fun K "_law_there" "_law_there" II f N):FnOk P w K mg base CX0 1 f N ["_law_world_here"] (spD K 1 KA):=by
 refine hD T5 F #[rfl,rfl,rfl,by decide +kernel,rfl,by decide +kernel,by decide +kernel] ?_;walk_at "hd";rintro j M g ⟨w,rfl,b,c⟩;left;refine pV λp hp=>?_;left;try walk_at "unf"
 refine F7 ?_;refine BP ?_;left;refine#[λk n M1=>k<=w.length/\M1=M.put p (tsO (w.take k))/\∃i r L:Option DS,n=[al (.d (wD w)),al (.loc p),i,r,L],#[xT _,rfl,_,_,_,rfl],?_,?_]
 . rintro k d n M1 hd ⟨hk,rfl,i,r,L,rfl⟩;have m:k < w.length:=by have:=(yT.mp hd).1;rw[zX] at this;exact this
   obtain rfl:thD w[k]=d:=by rw[zF,zV m] at hd;simpa using hd
   generalize hwk:w[k]=t;rw[thD];left;refine BW ?_;left;refine#[p,tsD (w.take k),t.1,pcD t.2.1 t.2.2,rfl,rfl,rfl,zU,CW (by rw[a0J];lia),?_];rw[yI,CB];refine#[by lia,?_,_,_,_,rfl];rw[pZ b (by rw[zV m,hwk])]
 . rintro n M1 ⟨hk,rfl,i,r,L,rfl⟩;rw[zX,a1Q];left;refine#[_,zT _,λh e=>?_];simp only[List.cons.injEq,DS.d.injEq,and_true] at e;rw[<-NU e];exact#[p,hp,rfl,rfl]
end
def S8:List Str:=["_law_deed_here"]
theorem S9 (F:Fun K "_law_wanted" "_law_wanted" GJ f N):FnOk P w K mg base CX0 1 f N ["_law_deed_here"] (spD K 1 EH):=by
 refine hD S8 F #[rfl,rfl,rfl,by decide +kernel,rfl,by decide +kernel,by decide +kernel] ?_;walk_at "hd";rintro n M r ⟨D,rfl,hr⟩;have z:=hr.2.1;have fin:∀{y:DS}{ms:List Str},D.must=ms->y = .d (C7 ms)->∃k:Own,k.Sub M/\EH.post [.d D.d] M y k:=λh j=>#[M,zT M,λi e=>by simp only[List.cons.injEq,DS.d.injEq,and_true] at e;obtain rfl:=CT e;rw[h];exact#[j,rfl]]
 rw[D.d_eq] at *;left;refine AZ D.word_ok (by decide +kernel) ?_;rw[if_neg nft,BQ];cases h1:(D.word==a0Q "put") with
 | true=>
   left;refine J3 ?_;left;cases D <;> first | (exfalso;simp only[Deed.word] at h1;revert h1;decide +kernel) | skip
   exact fin (ms:=[]) (by simp[Deed.must,Deed.names,Deed.made,Deed.fst,Deed.rest]) rfl
 | false=>
   left;refine AZ D.word_ok (by decide +kernel) ?_;rw[if_neg nft,BQ];cases t:(D.word==a0Q "join") with
   | true=>
     left;refine J3 ?_;left;cases D <;> first | (exfalso;simp only[Deed.word] at t;revert t;decide +kernel) | skip
     refine AL (d:=_) rfl ?_;left;exact fin (ms:=[_,_]) (by simp[Deed.must,Deed.names,Deed.made,Deed.fst,Deed.rest]) rfl
   | false=>
     left;refine J3 ?_;left;cases D <;> first | (exfalso;simp only[Deed.word] at h1;revert h1;decide +kernel) | (exfalso;simp only[Deed.word] at t;revert t;decide +kernel) | skip
     all_goals
       left;exact fin (ms:=[_]) (by first | (simp[Deed.must,Deed.names,Deed.made,Deed.fst,Deed.rest];done) | (simp[Deed.must,Deed.names,Deed.made,Deed.fst,Deed.rest,a4Z z];done)) rfl
def WQ:List Str:=["_law_deed_here"]
section
local macro_rules | `(tactic| walk_at "x")=>`(tactic| first | ((with_reducible show PT _ (.Compare _ [.In] ..) _);exact @CV _ _ _ _ _ _ _ _ (@kIn _ K rfl) (by walk_at "e") (by walk_at "e") (by with_unfolding_all rfl)))
theorem WR (F:Fun K "_law_made" "_law_made" JQ f N):FnOk P w K mg base CX0 1 f N ["_law_deed_here"] (spD K 1 JE):=by
 refine hD WQ F #[rfl,rfl,rfl,by decide +kernel,rfl,by decide +kernel,by decide +kernel] ?_;walk_at "hd";rintro n M r ⟨D,rfl,hr⟩;have fin:∀{l:List Str},D.made.toList=l->∃k:Own,k.Sub M/\JE.post [.d D.d] M (.d (C7 l)) k:=λj=>#[M,zT M,λi e=>by simp only[List.cons.injEq,DS.d.injEq,and_true] at e;obtain rfl:=CT e;rw[j];exact#[rfl,rfl]]
 rw[D.d_eq] at *;left;refine AZ D.word_ok (by decide +kernel) ?_;rw[if_neg nft,BQ];cases h1:(D.word==a0Q "put") with
 | true=>
   left;refine J3 ?_;left;cases D <;> first | (exfalso;simp only[Deed.word] at h1;revert h1;decide +kernel) | skip
   exact fin (l:=[_]) rfl
 | false=>
   left;walk_at "wkd";refine uQ (ys:=[a0Q "name", a0Q "split"]) ?_;rw[show decide (D.word∈[a0Q "name", a0Q "split"])=(D.word==a0Q "name" || D.word==a0Q "split") by rw[a3Q];simp];cases t:(D.word==a0Q "name" || D.word==a0Q "split") with
   | true=>
     left;refine J3 ?_;left;cases D <;> first | (exfalso;simp only[Deed.word] at t;revert t;decide +kernel) | skip
     all_goals
       left;exact fin (l:=[_]) rfl
   | false=> walk_at "wkd";cases D <;> first | (exfalso;simp only[Deed.word] at h1;revert h1;decide +kernel) | (exfalso;simp only[Deed.word] at t;revert t;decide +kernel) | exact fin (l:=[]) rfl
end
def OY:List Str:=["_law_there_here","_law_deed_here"]
def L4:List Str:=["_law_name","_law_there_here"]
def GL:List (Option Nat):=[am,al 0]
section
local macro_rules | `(tactic| walk_at "cs")=>`(tactic| first | exact @JB _ _ L4 GL (AB IJ) OY (by decide +kernel) (by decide +kernel) rfl rfl)
local macro_rules | `(tactic| walk_at "x")=>`(tactic| first | ((with_reducible show PE _ (.Compare _ [.In] ..) _);exact @l6 _ _ _ _ _ _ (@V1 _ _ _ _ _ ij (by walk_at "e") (by walk_at "e")) (by with_unfolding_all rfl)))
theorem a8 (F:Fun K "_law_can" "_law_can" IJ f N) (X:mg "all"=am) (S:mg "any"=am) (y:Has P w K mg base "_law_made" 1 ["_law_deed_here"] JE) (x:Has P w K mg base "_law_wanted" 1 ["_law_deed_here"] EH):FnOk P w K mg base CX0 2 f N ["_law_there_here","_law_deed_here"] (spD K 2 KD):=by
 refine hD OY F #[rfl,rfl,rfl,by decide +kernel,rfl,by decide +kernel,by decide +kernel] ?_;walk_at "hi";have Z:L4.Nodup:=by decide +kernel
 walk_at "nm";clear Z nd;rintro B M T ⟨p,w,D,rfl,m,hr⟩;unfold tdW;have t:∀l:List Str,l.length<=2->(l.map a0K).length < sizeLine:=λl h=>by rw[zX];exact zQ h (by decide)
 have u:D.must.length<=2:=zN (yJ _ _) (by cases D <;> simp[Deed.names]);have r:D.made.toList.length<=2:=by cases D.made <;> simp
 have n:∀(z:Str),(BK (tsD w) z).isSome=decide (z∈w.map (·.1)):=λz=>by rw[AR,a4K,a3Q,decide_eq_true_iff,BS]
 left;refine BG (BF 0) (by simp[GL]) ?_;refine DN ?_;left;refine jA hr ?_;refine#[_,rfl,?_];refine#[t _ u,λ_=>ap,inT (w.map (·.1)),?_,?_];. rintro d hd A acc i hA rfl;obtain⟨z,q,rfl⟩:=zL.mp hd;walk_at "dl";refine#[rfl,?_];walk_at "dl";refine#[rfl,rfl,λ_=>?_];refine fR ?_;left;refine#[tsD w,z,m.put hA,rfl,?_];rw[n];exact#[rfl,rfl]
 rw[SU,YR];left;refine aZ ?_;left;have fin:∀{b:Bool},b=decide (AJ (w.map (·.1)) D=am)->∃k:Own,k.Sub M/\KD.post (tdW p D) M (.d (.bool b)) k:=λ{b} e=>#[M,zT M,λO I v e' c _=>by simp only[tdW,List.cons.injEq,DS.d.injEq,and_true] at e';obtain⟨rfl,j⟩:=e';obtain rfl:=CT j;obtain rfl:=m.inj c;rw[e];exact#[rfl,rfl]]
 rw[A3t] at fin;cases g:(D.must.map λz=>decide (z∈w.map (·.1))).all id with
 | false=> left;exact fin (by rw[g];rfl)
 | true=>
   left;refine BG (BF 0) (by simp[GL]) ?_;refine DN ?_;left;refine YW hr ?_;refine#[_,rfl,?_];refine#[t _ r,λ_=>ap,inT (w.map (·.1)),?_,?_];. rintro d hd A acc i hA rfl;obtain⟨z,q,rfl⟩:=zL.mp hd;walk_at "dl";refine#[rfl,?_];walk_at "dl";refine#[rfl,rfl,λ_=>?_];refine fR ?_;left;refine#[tsD w,z,m.put hA,rfl,?_];rw[n];exact#[rfl,rfl]
   rw[SU,YR];left;refine A1r ?_;left;exact fin (by rw[g];rfl)
end
def WS:List Str:=["_law_there_here","_law_deed_here","_law_found","_law_word","_law_name"]
section
local macro_rules | `(tactic| walk_at "x")=>`(tactic| first | ((with_reducible show PS _ (.Assign [.Subscript ..] ..) _);exact @MG _ _ _ _ _ _ _ _ _ ij (by walk_at "e") (by walk_at "e") (by walk_at "e") (by rfl)) | ((with_reducible show PE _ (.Call (.Attribute _ (a0Q "pop") _) ..) _);exact @XA _ _ _ _ _ _ _ (by walk_at "e") (by walk_at "e") (@L2.M1.mk _ _ _ _ _ _ rfl rfl rfl rfl)))
local macro_rules | `(tactic| walk_at "y")=>`(tactic| first | ((with_reducible show PE _ (.Call (.Name (a0Q "dict") _) ..) _);exact @TJ _ _ _ _ _ _ _ _ _ (@A2M _ K rfl) (by rfl) mi PyProof.Rows.boot_dict (by walk_at "a") (by decide) (by decide) (by rfl) (by rfl)) | ((with_reducible show PE _ (.Subscript ..) _);exact @DJ _ _ _ _ _ _ ij (@pv _ 0 _ _ (by rfl) (by walk_at "lc") (by decide) (by decide)) (@pv _ 4 _ _ (by rfl) (by walk_at "lc") (by decide) (by decide)) (λ_ _=>rfl)) | ((with_reducible show PE _ (.Subscript ..) _);exact @DJ _ _ _ _ _ _ ij (@pv _ 0 _ _ (by rfl) (by walk_at "lc") (by decide) (by decide)) (by walk_at "e") (λ_ _=>rfl)))
theorem WT (F:Fun K "_law_step" "_law_step" JR f N) (mi:mg "dict"=am):FnOk P w K mg base CX0 1 f N ["_law_there_here","_law_deed_here"] (spD K 2 HH):=by
 refine hD WS F #[rfl,rfl,rfl,by decide +kernel,rfl,by decide +kernel,by decide +kernel] ?_;walk_at "hd";rintro I M z ⟨r,w,D,rfl,m,hg,h⟩;unfold tdW;have fin:∀{w2:List Th}{q:Addr}{hq:M q=am},doT w D=w2->∃i:Own,i.Sub (M.put q (tsO w2))/\HH.post (tdW r D) M (.loc q) i:=λ{w2 q hq} e=>#[_,zT _,λT O g e' b=>by simp only[tdW,List.cons.injEq,DS.d.injEq,and_true] at e';obtain⟨rfl,j⟩:=e';obtain rfl:=CT j;obtain rfl:=m.inj b;rw[<-e];exact#[q,hq,rfl,rfl]]
 left;refine qZ m λq hq=>?_;have fin:=λ(w2:List Th)=>fin (w2:=w2) (q:=q) (hq:=hq);have U:∀o:MO,isTD (M.put q o) r (tsD w):=λo=>m.put hq;cases D with
 | put x t k=> rw[Deed.d];left;refine BW ?_;left;refine#[q,tsD (w),x,pcD (t) (k),rfl,rfl,rfl,zU,CW (by lia),?_];rw[yI,CB];left;exact fin _ rfl
 | take x=> rw[Deed.d];obtain⟨v,S⟩:=here hg (n:=x) (by simp[Deed.names]) (by simp[Deed.made]);left;refine PL ?_;left;refine#[q,tsD (w),rfl,zU,?_];left;refine#[tsD (w),x,pcD v.1 v.2,rfl,zU,by rw[AR,S];rfl,?_];rw[yI,GV];left;exact fin _ rfl
 | move x t=> rw[Deed.d];obtain⟨v,S⟩:=here hg (n:=x) (by simp[Deed.names]) (by simp[Deed.made]);left;refine BW ?_;left;refine EL ?_;left;refine#[tsD w,x,pcD v.1 v.2,U _,rfl,by rw[AR,S];rfl,?_];rw[pcD];left;refine#[q,tsD (w),x,pcD (t) (v.2),rfl,rfl,rfl,zU,CW (by lia),?_];rw[yI,CB];left;exact fin _ (by simp only[doT,S])
 | count x k=> rw[Deed.d];obtain⟨v,S⟩:=here hg (n:=x) (by simp[Deed.names]) (by simp[Deed.made]);left;refine BW ?_;left;refine EL ?_;left;refine#[tsD w,x,pcD v.1 v.2,U _,rfl,by rw[AR,S];rfl,?_];rw[pcD];left;refine EL ?_;left;refine#[tsD w,x,pcD v.1 v.2,U _,rfl,by rw[AR,S];rfl,?_];rw[pcD];left;refine#[q,tsD (w),x,pcD (v.1) (v.2+k),rfl,rfl,rfl,zU,CW (by lia),?_];rw[yI,CB];left;exact fin _ (by simp only[doT,HV,S])
 | name x y=> rw[Deed.d];obtain⟨v,S⟩:=here hg (n:=x) (by simp[Deed.names]) (by simp only[Deed.made,ne_eq,Option.some.injEq];exact a4Z hg.2.1.2.1);left;refine BW ?_;refine PL ?_;left;refine#[q,tsD (w),rfl,zU,?_];left;refine#[tsD (w),x,pcD v.1 v.2,rfl,zU,by rw[AR,S];rfl,?_];rw[yI,GV];left;refine#[q,tsD (IT w x),y,pcD (v.1) (v.2),rfl,rfl,rfl,zU,CW (zQ (yJ _ _) (by lia)),?_];rw[yI,CB];left;exact fin _ (by simp only[doT,S])
 | split x y t k=> rw[Deed.d];obtain⟨v,S⟩:=here hg (n:=x) (by simp[Deed.names]) (by simp only[Deed.made,ne_eq,Option.some.injEq];exact a4Z hg.2.1.2.1);left;refine BW ?_;left;refine EL ?_;left;refine#[tsD w,x,pcD v.1 v.2,U _,rfl,by rw[AR,S];rfl,?_];rw[pcD];left;refine EL ?_;left;refine#[tsD w,x,pcD v.1 v.2,U _,rfl,by rw[AR,S];rfl,?_];rw[pcD];left;refine#[q,tsD (w),x,pcD (v.1) (v.2 - k),rfl,rfl,rfl,zU,CW (by lia),?_];rw[yI,CB];left;refine BW ?_;left;refine#[q,tsD (E5 w x v.1 (v.2 - k)),y,pcD (t) (k),rfl,rfl,rfl,zU,CW (by have:=jD (ts:=w) (x:=x) (p:=v.1) (c:=v.2 - k);lia),?_];rw[yI,CB];left;exact fin _ (by simp only[doT,HV,S,Int.sub_eq_add_neg])
 | join x y=> rw[Deed.d];obtain⟨v,S⟩:=here hg (n:=x) (by simp[Deed.names]) (by simp[Deed.made]);obtain⟨u,hu⟩:=here hg (n:=y) (by simp[Deed.names]) (by simp[Deed.made]);left;refine BW ?_;left;refine EL ?_;left;refine#[tsD w,x,pcD v.1 v.2,U _,rfl,by rw[AR,S];rfl,?_];rw[pcD];left;refine EL ?_;left;refine#[tsD w,x,pcD v.1 v.2,U _,rfl,by rw[AR,S];rfl,?_];rw[pcD];left;refine EL ?_;left;refine#[tsD w,y,pcD u.1 u.2,U _,rfl,by rw[AR,hu];rfl,?_];rw[pcD];left;refine#[q,tsD (w),x,pcD (v.1) (v.2+u.2),rfl,rfl,rfl,zU,CW (by lia),?_];rw[yI,CB];left;refine PL ?_;left;refine#[q,tsD (E5 w x v.1 (v.2+u.2)),rfl,zU,?_];left;refine#[tsD (E5 w x v.1 (v.2+u.2)),y,pcD u.1 u.2,rfl,zU,by rw[AR,YS (a4Z hg.2.1.2.1),hu];rfl,?_];rw[yI,GV];left;exact fin _ (by simp only[doT,HV,S,hu])
end
def IN:List Str:=["_law_xs","_law_at","_law_names_here","_law_there_here","_law_standing","_law_others","_law_word","_law_one","_law_place_here","_law_number_here","_law_second"]
def JV:List Str:=["_law_name","_law_there_here"]
def FQ:List (Option Nat):=[am,al 3]
def JW:List Str:=["_law_name","_law_one"]
def JX:List (Option Nat):=[am,al 7]
section
local macro_rules | `(tactic| walk_at "cs")=>`(tactic| first | exact @JB _ _ JV FQ (AB EM) IN (by decide +kernel) (by decide +kernel) rfl rfl | exact @JB _ _ JW JX (AB EM) IN (by decide +kernel) (by decide +kernel) rfl rfl)
local macro_rules | `(tactic| walk_at "x")=>`(tactic| first | ((with_reducible show PT _ (.Compare _ [.In] ..) _);exact @UR _ _ _ _ _ _ (@V1 _ _ _ _ _ ij (by walk_at "e") (by walk_at "e")) (by with_unfolding_all rfl)) | ((with_reducible show PT _ (.Compare _ [.NotIn] ..) _);exact @UR _ _ _ _ _ _ (@TM _ _ _ _ _ ij (by walk_at "e") (by walk_at "e")) (by with_unfolding_all rfl)))
theorem WU (F:Fun K "_law_deed" "_law_deed" EM f fd) (ay:Has P w K mg base "_law_number" 1 ["_law_x"] FI) (g_:Has P w K mg base "_law_pick" 1 ["_law_some","_law_x"] MZ) (be:Has P w K mg base "_law_place" 1 ["_law_x"] H0):FnOk P w K mg base CX0 2 f fd ["_law_xs","_law_at","_law_names_here","_law_there_here"] (spD K 4 JF):=by
 refine hD IN F #[rfl,rfl,rfl,by decide +kernel,rfl,by decide +kernel,by decide +kernel] ?_;walk_at "hi";have n0:JV.Nodup:=by decide +kernel
 have n1:JW.Nodup:=by decide +kernel
 walk_at "nm";clear n0 n1 nd;rintro xs M hl ⟨L,a,ys,p,w,rfl,hL,ha,r_,hn,v,h6,m⟩;have Z:∀i,i < L.length->(L.map b8Z)[i]?=al (.int (L.getD i 0)):=λi hi=>by rw[zF,yU,zV hi];rfl
 have hx:∀i,i < L.length->0<=L.getD i 0/\L.getD i 0 < 1000000000:=λi hi=>by rw[yU,zV hi];exact hL _ (a1J hi)
 have fin:∀{D:Deed},AN ys D->∃g:Own,g.Sub M/\JF.post (ddX L a ys p) M (.d D.d) g:=λ{D} h=>#[M,zT M,λL' a' bw p' e=>#[rfl,D,rfl,by
   simp only[ddX,List.cons.injEq,DS.d.injEq,and_true] at e;rw[<-RB e.2.2.1];exact h]]
 have u:∀z∈ys,zH (.str z)=true:=λz q=>BX (hn.1 z q);rw[show ddX L a ys p=[.d (.list (L.map .int)),.d (.int a),.d (C7 ys),.loc p] from rfl];have N:(ys.map a0K).length < sizeLine:=by rw[zX];exact zQ h6 (by decide)
 left;refine BG (BF 0) (by simp[FQ]) ?_;refine DN ?_;left;refine#[N,stT (w.map (·.1)),id,?_,?_]
 . rintro d hd A acc M' hA rfl;obtain⟨z,q,rfl⟩:=zL.mp hd;have S:p≠A:=by rintro rfl;rw[m] at hA;cases hA
   walk_at "dl";refine#[rfl,?_];left;refine VE ?_;left;refine#[p,tsD w,z,rfl,rfl,by rw[yH S];exact m,?_];refine#[_,rfl,rfl,?_,λ_=>?_];. rw[AR,a4K,a3Q];unfold stT;rw[decide_eq_true_iff,BS]
   left;exact#[rfl,rfl]
 rw[qD];left;refine BG (BF 0) (by simp[FQ]) ?_;refine DN ?_;left;refine#[N,frT (w.map (·.1)),id,?_,?_]
 . rintro d hd A acc M' hA rfl;obtain⟨z,q,rfl⟩:=zL.mp hd;have S:p≠A:=by rintro rfl;rw[m] at hA;cases hA
   walk_at "dl";refine#[rfl,?_];left;refine YY ?_;left;refine#[p,tsD w,z,rfl,rfl,by rw[yH S];exact m,?_];refine#[_,rfl,rfl,?_,λ_=>?_];. unfold frT stT;congr 1;rw[AR,a4K,a3Q,decide_eq_true_iff,BS]
   left;exact#[rfl,rfl]
 rw[RH];try walk_at "unf"
 refine HQ (λt M1=>M1=M/\∃(k n:List Str) (x6 x7 x8 x9 zr:Option DS),(k≠[]/\k.length<=60/\∀z∈k,z∈ys)/\(n≠[]/\n.length<=60/\∀z∈n,z∈ys)/\t=[al (.d (.list (L.map .int))),al (.d (.int a)),al (.d (C7 ys)),al (.loc p),al (.d (C7 k)),al (.d (C7 n)),x6,x7,x8,x9,zr]) ?_ ?_
 . have U:∀z∈ys.filter (λz=>decide (z∈w.map (·.1))),z∈ys:=λz q=>(yL.mp q).1;have I:∀z∈ys.filter (λz=>!decide (z∈w.map (·.1))),z∈ys:=λz q=>(yL.mp q).1;have l1:(ys.filter (λz=>decide (z∈w.map (·.1)))).length<=60:=zN (yJ _ _) (by lia);have l2:(ys.filter (λz=>!decide (z∈w.map (·.1)))).length<=60:=zN (yJ _ _) (by lia);generalize ys.filter (λz=>decide (z∈w.map (·.1)))=k at U l1;generalize ys.filter (λz=>!decide (z∈w.map (·.1)))=n at I l2;have wg:ys≠[]:=by rintro rfl;simp at v
   have whole:(ys≠[]/\ys.length<=60/\∀z∈ys,z∈ys):=#[wg,by lia,λz q=>q]
   left;refine AT (AG (j:=a) (Z _ (by lia))) ?_;left;refine AZ rfl rfl ?_;rw[if_neg nft,PP];cases decide (L.getD a 0 % 8=7) with
   | true=> left;exact#[rfl,ys,ys,_,_,_,_,_,whole,whole,rfl]
   | false=>
     walk_at "wkd";refine AZ (OO λz q=>D3 (hn.1 z (U z q))) rfl ?_;rw[if_neg nft,YT];cases h1:k.isEmpty with
     | true=> left;exact#[rfl,ys,ys,_,_,_,_,_,whole,whole,rfl]
     | false=>
       walk_at "wkd";refine AZ (OO λz q=>D3 (hn.1 z (I z q))) rfl ?_;rw[if_neg nft,YT];cases v:n.isEmpty with
       | true=> left;exact#[rfl,ys,ys,_,_,_,_,_,whole,whole,rfl]
       | false=> left;exact#[rfl,k,n,_,_,_,_,_,#[YU h1,l1,U],#[YU v,l2,I],rfl]
 . rintro t M1 ⟨rfl,k,n,x6,x7,x8,x9,zr,⟨G,J,Q⟩,⟨X,Hu,Hv⟩,rfl⟩;walk_at "wkd";refine AT (AG (j:=a) (Z _ (by lia))) ?_;walk_at "wkd";obtain⟨Y,Pb,Hw⟩:∃Y:Str,atI [a0K (a0Q "put"),.str (a0Q "take"),.str (a0Q "move"),.str (a0Q "count"),.str (a0Q "name"),.str (a0Q "split"),.str (a0Q "join")] (L.getD a 0/8 % 7)=al (.str Y)/\Y∈[a0Q "put", "take", "move", "count", "name", "split", "join"]:=eT (ys:=[a0Q "put","take","move","count","name","split","join"]) (by lia) (by show _ < (7:Int);lia);refine AT Pb ?_;left;refine AT (AG (j:=a+1) (Z _ (by lia))) ?_;left;refine EJ G J λone r=>?_;have r:=Q one r;left;refine AT (AG (j:=a+3) (Z _ (by lia))) ?_;left;refine MY (hx _ (by lia)) λpl p0 p1=>?_;left;refine AT (AG (j:=a+4) (Z _ (by lia))) ?_;left;refine KY (hx _ (by lia)) λnum q0 q1=>?_;left;have x:=λ(z:Str) (q:z∈ys)=>VU (num:=num) hn p0 p1 q;have B:=λ(y:Str) (hy:y∈ys) (b:y≠one)=>wB (num:=num) hn p0 p1 r hy b;have c:zH (.str Y)=true:=by simp only[yX,xW,or_false] at Hw;rcases Hw with rfl | rfl | rfl | rfl | rfl | rfl | rfl <;> decide +kernel
   refine AZ c (by decide +kernel) ?_;rw[if_neg nft,BQ];cases (Y==a0Q "put") with
   | true=> left;refine AT (AG (j:=a+1) (Z _ (by lia))) ?_;left;refine EJ X Hu λz q=>?_;left;exact fin (x z (Hv z q)).1
   | false=>
     left;refine AZ c (by decide +kernel) ?_;rw[if_neg nft,BQ];cases (Y==a0Q "take") with
     | true=> left;exact fin (x one r).2.1
     | false=>
       left;refine AZ c (by decide +kernel) ?_;rw[if_neg nft,BQ];cases (Y==a0Q "move") with
       | true=> left;exact fin (x one r).2.2.1
       | false=>
         left;refine AZ c (by decide +kernel) ?_;rw[if_neg nft,BQ];cases (Y==a0Q "count") with
         | true=> left;exact fin (x one r).2.2.2
         | false=>
           left;refine AT (AG (j:=a+2) (Z _ (by lia))) ?_;left;refine EJ X Hu λy0 Av=>?_;walk_at "wks";try walk_at "unf"
           refine HQ (λt g=>g=M1/\∃y:Str,y∈ys/\t=[al (.d (.list (L.map .int))),al (.d (.int a)),al (.d (C7 ys)),al (.loc p),al (.d (C7 k)),al (.d (C7 n)),al (.d (.str Y)),al (.d (.str one)),al (.d (.int pl)),al (.d (.int num)),al (.d (.str y))]) ?_ ?_
           . left;refine AZ c (by decide +kernel) ?_;rw[if_neg nft,BQ];cases (Y==a0Q "join") with
             | true=> left;refine AT (AG (j:=a+2) (Z _ (by lia))) ?_;left;refine EJ G J λT O=>?_;left;exact#[rfl,T,Q T O,rfl]
             | false=> left;exact#[rfl,y0,Hv y0 Av,rfl]
           rintro t g ⟨rfl,y,hy,rfl⟩;try walk_at "unf"
           refine HQ (λt M3=>M3=g/\∃y:Str,y∈ys/\y≠one/\t=[al (.d (.list (L.map .int))),al (.d (.int a)),al (.d (C7 ys)),al (.loc p),al (.d (C7 k)),al (.d (C7 n)),al (.d (.str Y)),al (.d (.str one)),al (.d (.int pl)),al (.d (.int num)),al (.d (.str y))]) ?_ ?_
           . left;refine AZ (u y hy) (u one r) ?_;rw[if_neg nft,BQ];cases he:(y==one) with
             | false=> left;exact#[rfl,y,hy,λe=>by rw[e] at he;simp at he,rfl]
             | true=>
               left;refine CF (BF 0) (by simp[JX]) ?_;refine DN ?_;left;refine#[N,neT one,id,?_,?_]
               . intro d hd M';obtain⟨z,q,rfl⟩:=zL.mp hd;walk_at "dl";refine#[rfl,?_];left;refine AZ (u z q) (u one r) ?_;rw[if_pos rfl,BQ];refine#[_,rfl,rfl,?_,λ_=>?_];. rw[a3Q];unfold neT;simp
                 left;exact#[rfl,rfl]
               rw[qE];left;refine AT (AG (j:=a+2) (Z _ (by lia))) ?_;left;refine EJ (wC hn v one) (zN (yJ _ _) (by lia)) λT O=>?_;obtain⟨O,b⟩:=yL.mp O;left;exact#[rfl,T,O,by simpa using b,rfl]
           rintro t M3 ⟨rfl,y,hy,b,rfl⟩;left;refine AZ c (by decide +kernel) ?_;rw[if_neg nft,BQ];cases (Y==a0Q "name") with
           | true=> left;exact fin (B y hy b).1
           | false=>
             left;refine AZ c (by decide +kernel) ?_;rw[if_neg nft,BQ];cases (Y==a0Q "join") with
             | true=> left;exact fin (B y hy b).2.2
             | false=> left;exact fin (B y hy b).2.1
end
def a9:List Str:=["_law_xs","_law_at","_law_size","_law_names_here","_law_there_here","_law_row_here","_law_k","_law_deed_here"]
section
local macro_rules | `(tactic| walk_at "x")=>`(tactic| first | ((with_reducible show PE _ (.BinOp _ .Mult ..) _);exact @KO _ _ _ _ _ _ _ _ (@v9 _ K rfl) (by walk_at "e") (by walk_at "e")))
theorem aA (F:Fun K "_law_row" "_law_row" LS f N) (ax:mg "range"=am) (ak:mg "tuple"=am) (cf:Has P w K mg base "_law_can" 2 ["_law_there_here","_law_deed_here"] KD) (h_:Has P w K mg base "_law_deed" 2 ["_law_xs","_law_at","_law_names_here","_law_there_here"] JF) (br:Has P w K mg base "_law_step" 1 ["_law_there_here","_law_deed_here"] HH):FnOk P w K mg base CX0 3 f N ["_law_xs","_law_at","_law_size","_law_names_here","_law_there_here"] (spD K 5 PQ):=by
 refine hD a9 F #[rfl,rfl,rfl,by decide +kernel,rfl,by decide +kernel,by decide +kernel] ?_;walk_at "hd";rintro xs M hl ⟨L,a,n,u,p,w,rfl,hL,ha,X,Y,hn,J,O,m,Q⟩;unfold rwX;left;refine MH ?_;left;intro A hA;have S:p≠A:=by rintro rfl;rw[m] at hA;cases hA
 left;try walk_at "unf"
 refine F7 ?_;refine K1 ?_;left;refine#[by lia,by lia,?_];refine#[λk b M1=>∃(t:List Deed) (q:Addr) (w:List Th) (y z:Option DS),t.length=k/\(∀D∈t,AN u D)/\q≠A/\There u w/\M1 q=al (tsO w)/\M.Sub (M1.del A)/\M1 A=al (.l (t.map Deed.d))/\b=[al (.d (.list (L.map .int))),al (.d (.int a)),al (.d (.int n)),al (.d (C7 u)),al (.loc q),al (.loc A),y,z],#[[],p,w,_,_,rfl,(λD hD=>nomatch hD),S,Q,by rw[yH S];exact m,by rw[yG hA];exact zT M,zU,rfl],?_,?_]
 . rintro k d b M1 hd ⟨t,q,w,y,z,hk,x,c,g,U,I,v,rfl⟩;obtain⟨xf,rfl⟩:=K7 hd;have Z:w.length<=6:=zN g.few O;left;refine YX (a:=a+5*k) hL (by lia) X hn J O U λD hD=>?_;left;refine OJ ?_;walk_at "dl";refine#[HP v,?_];left;refine E4 v (by rw[zX];exact zQ (show _<=12 by lia) (by decide)) ?_;have G:t.map Deed.d++[D.d]=(t++[D]).map Deed.d:=by rw[xI];rfl
   have T:∀E∈t++[D],AN u E:=λE hE=>by
     rcases yW.mp hE with h | h;. exact x E h
     . rw[List.mem_singleton.mp h];exact hD
   rw[G];left;refine RQ (isTD.o (by rw[yH c];exact U)) hD.1 ?_;cases hc:decide (AJ (w.map (·.1)) D=am) with
   | false=> left;exact#[t++[D],q,w,_,_,by rw[yY,hk];rfl,T,c,g,by rw[yH c];exact U,by rw[N0];exact I,zU,rfl]
   | true=>
     have B:goD w D:=#[#[g.nd,by lia],hD.1,of_decide_eq_true hc]
     left;refine OT (isTD.o (by rw[yH c];exact U)) B (by lia) λr hr=>?_;have j:r≠A:=by rintro rfl;rw[zU] at hr;cases hr
     left;exact#[t++[D],r,doT w D,_,_,by rw[yY,hk];rfl,T,j,RJ g B hD.2,zU,(by rw[Own.del_put_ne j,N0];exact I.put (qF I (by rw[A2L j];rw[yH j] at hr;exact hr))),by rw[yH j.symm];exact zU,rfl]
 . rintro b M1 ⟨t,q,w,y,z,hk,x,c,g,U,I,v,rfl⟩;rw[JD] at hk;try walk_at "unf"
   refine EZ (i:=5) (a:=A) rfl v ?_;left;refine K3 ?_;refine#[M,I,λL' a' n' bw p' e=>#[rfl,t,rfl,?_,λD hD=>?_]];. simp only[rwX,List.cons.injEq,DS.d.injEq,PyData.int.injEq,and_true] at e;lia
   . simp only[rwX,List.cons.injEq,DS.d.injEq,and_true] at e;rw[<-RB e.2.2.2.1];exact x D hD
end
def aC:List Str:=["_law_there_here","_law_row_here","_law_k"]
theorem aD (F:Fun K "_law_run" "_law_run" LU f N) (Q:mg "len"=am) (L:mg "range"=am) (X:Has P w K mg base "_law_can" 2 ["_law_there_here","_law_deed_here"] KD) (U:Has P w K mg base "_law_step" 1 ["_law_there_here","_law_deed_here"] HH):FnOk P w K mg base CX0 3 f N ["_law_there_here","_law_row_here"] (spD K 2 N8):=by
 refine hD aC F #[rfl,rfl,rfl,by decide +kernel,rfl,by decide +kernel,by decide +kernel] ?_;walk_at "hd";rintro xs M Y ⟨w,t,rfl,⟨B,T,Z,I⟩,G⟩;unfold rnX;have fin:∀{d:PyData},A2R w t d->∃c:Own,c.Sub M/\N8.post (rnX w t) M (.d d) c:=λ{d} h=>#[M,zT M,λw' z e=>by simp only[rnX,List.cons.injEq,DS.d.injEq,and_true] at e;obtain⟨u,y⟩:=e;obtain rfl:=cI u;obtain rfl:=EK (a:=t) (b:=z) (by rw[y]);exact#[#[d,rfl,h],rfl]]
 left;try walk_at "unf"
 refine F7 ?_;refine K1 ?_;left;refine K2 ?_;rw[zX];left;refine#[by lia,by lia,?_];refine#[λk n M1=>∃(O:List Th) (x:DS) (p:Option DS),AY w (t.take k)=al O/\There B O/\A3v M M1 x O/\n=[al x,al (.d (.tuple (t.map Deed.d))),p],#[w,_,_,rfl,T,.inl #[rfl,rfl],rfl],?_,?_]
 . rintro k d n M1 hd ⟨O,x,p,hr,m,g,rfl⟩;obtain⟨j,rfl⟩:=K7 hd;have hk:t[k]?=al t[k]:=zV j;have v:(t.map Deed.d)[k]?=al (t[k]).d:=by rw[zF,hk];rfl
   have hD:=I _ (a1J j);generalize t[k]=D at hk v hD;have J:=m.few;walk_at "dl";try walk_at "unf"
   refine UI (i:=0) g rfl ?_;left;refine AL (AG v) ?_;left;refine RQ (w:=O) isTD.d hD.1 ?_;cases hc:decide (AJ (O.map (·.1)) D=am) with
   | false=> left;exact fin #[_,O,rfl,.inr #[RP hr hk (of_decide_eq_false hc),_,rfl]]
   | true=>
     have hc:=of_decide_eq_true hc;have q:goD O D:=#[#[m.nd,by lia],hD.1,hc]
     left;refine AL (AG v) ?_;left;refine OT (w:=O) isTD.d q (by lia) λr S=>?_;left;exact#[doT O D,.loc r,_,ZD hr hk hc,RJ m q hD.2,.inr #[r,S,rfl,rfl],rfl]
 . rintro n M1 ⟨O,x,p,hr,m,g,rfl⟩;rw[JD,a1Q] at hr;try walk_at "unf"
   refine UI (i:=0) g rfl ?_;left;exact fin #[_,O,rfl,.inl #[hr,rfl]]
def JY:List Str:=["_law_there_here","_law_row_here","_law_number_here","_law_behind"]
section
local macro_rules | `(tactic| walk_at "x")=>`(tactic| first | ((with_reducible show PS _ (.Assign [.Tuple ..] ..) _);exact @lG _ _ _ _ _ _ (by walk_at "e") (by walk_at "g") (by rfl) (by rfl) (by rfl)) | ((with_reducible show PG _ (.Tuple ..) _);exact @A0Y _ K _ _ _ _ (2) rfl rfl (by walk_at "j") (by rfl) (by rfl)))
theorem JZ (F:Fun K "_law_row_comes_to" "_law_row_comes_to" CM f N) (p:Has P w K mg base "_law_run" 3 ["_law_there_here","_law_row_here"] N8):FnOk P w K mg base CX0 4 f N ["_law_there_here","_law_row_here"] (spD K 2 HI):=by
 refine hD JY F #[rfl,rfl,rfl,by decide +kernel,rfl,by decide +kernel,by decide +kernel] ?_;walk_at "hd";rintro g M m ⟨w,t,rfl,hg⟩;unfold rnX;have fin:∀{o:Option (List Th)},AY w t=o->∃n:Own,n.Sub M/\HI.post (rnX w t) M (.d (r6 o)) n:=λ{d} h=>#[M,zT M,λc u e=>by simp only[rnX,List.cons.injEq,DS.d.injEq,and_true] at e;obtain⟨r,j⟩:=e;obtain rfl:=cI r;obtain rfl:=EK (a:=t) (b:=u) (by rw[j]);rw[h];exact#[rfl,rfl]]
 left;try walk_at "unf"
 refine nM ?_;left;refine cJ hg λd hd=>?_;obtain⟨k,O,rfl,h⟩:=hd;left;refine XY ?_;rcases h with ⟨hr,rfl⟩ | ⟨hr,i,rfl⟩
 . left;exact fin (o:=al O) hr
 . left;exact fin (o:=am) hr
end
def P8:List Str:=["_law_row_here","_law_k","_law_two"]
section
local macro_rules | `(tactic| walk_at "x")=>`(tactic| first | ((with_reducible show PE _ (.Subscript ..) _);exact @A4X _ K _ _ _ _ _ _ rfl (by walk_at "e") (by walk_at "e")))
theorem P9 (F:Fun K "_law_swapped" "_law_swapped" FP f N):FnOk P w K mg base CX0 1 f N ["_law_row_here","_law_k"] (spD K 2 GC):=by
 refine hD P8 F #[rfl,rfl,rfl,by decide +kernel,rfl,by decide +kernel,by decide +kernel] ?_;walk_at "hd";rintro c M m ⟨t,k,rfl,q⟩;have b:(t.map Deed.d).length<=100:=by rw[zX];exact q
 obtain⟨r,v⟩:=sJ t k;unfold swX B1;left;refine EG ?_;rw[show EF (t.map Deed.d) (al (k:Int)) (al ((k:Int)+2))=((t.take (k+2)).drop k).map Deed.d from(PH _ k (k+2)).trans (by rw[List.map_drop,List.map_take])];left;refine EG ?_;rw[show EF (t.map Deed.d) am (al (k:Int))=(t.take k).map Deed.d from(nI _ k).trans (by rw[List.map_take])];left;refine A1x ?_;left;refine#[rfl,?_];rw[<-List.map_reverse];have T:(t.take k).length<=100:=by rw[a0J];lia
 have n:((t.take (k+2)).drop k).reverse.length<=100:=by rw[b0J,a4V,a0J];lia
 have i:(t.drop (k+2)).length<=100:=by rw[a4V];lia
 refine B9 (by rw[zX,zX];exact zN (a9J T n) (by decide)) ?_;rw[<-xI];left;refine EG ?_;rw[show EF (t.map Deed.d) (al ((k:Int)+2)) am=(t.drop (k+2)).map Deed.d from(QG _ (k+2)).trans (by rw[List.map_drop])];refine B9 (by rw[zX,zX,yY];exact zN (a9J (a9J T n) i) (by decide)) ?_;rw[<-xI];refine#[M,zT M,λu p e=>?_];rw[<-z9 e];exact#[rfl,gJ t k,rfl,r,v]
end
def IP:List Str:=["_law_row_here","_law_k","_law_name","_law_some"]
theorem IQ (F:Fun K "_law_there_and_back" "_law_there_and_back" CA f N):FnOk P w K mg base CX0 1 f N ["_law_row_here","_law_k","_law_name"] (spD K 3 PZ):=by
 refine hD IP F #[rfl,rfl,rfl,by decide +kernel,rfl,by decide +kernel,by decide +kernel] ?_;walk_at "hd";rintro m M r ⟨t,k,z,rfl,q⟩;have T:(t.take k).length<=100:=by rw[a0J];lia
 have n:(t.drop k).length<=100:=by rw[a4V];lia
 unfold WI B1;left;refine EG ?_;rw[show EF (t.map Deed.d) am (al (k:Int))=(t.take k).map Deed.d from(nI _ k).trans (by rw[List.map_take])];left;refine B9 (as:=(t.take k).map Deed.d) (bs:=[Deed.count z 7,.count z (-7)].map Deed.d) (by rw[zX,zX];exact zN (a9J T (yD rfl:2<=100)) (by decide)) ?_;rw[<-xI];left;refine EG ?_;rw[show EF (t.map Deed.d) (al (k:Int)) am=(t.drop k).map Deed.d from(QG _ k).trans (by rw[List.map_drop])];refine B9 (by rw[zX,zX,yY];exact zN (a9J (a9J T (yD rfl:2<=100)) n) (by decide)) ?_;rw[<-xI];refine#[M,zT M,λu i J e=>?_];obtain⟨rfl,rfl,rfl⟩:=sL e;exact#[rfl,rfl]
def aE:List Str:=["thing"]
theorem aF (F:Fun K "is_whole" "is_whole" LV f N) (u:mg "bool"=am) (v:mg "int"=am) (t:mg "isinstance"=am):FnOk P w K mg base CX0 1 f N ["thing"] (spD K 1 LF):=by
 refine hD aE F #[rfl,rfl,rfl,by decide +kernel,rfl,by decide +kernel,by decide +kernel] ?_;walk_at "hd";rintro n M r ⟨d,rfl,-⟩;walk_at "dl";walk_at "dl";walk_at "dl";cases d <;>
 . left;exact#[M,zT M,λy e=>by cases e;exact#[rfl,rfl]]
def WV:List Str:=["thing","low","high"]
section
local macro_rules | `(tactic| walk_at "x")=>`(tactic| first | ((with_reducible show PE _ (.Compare _ [_,_] ..) _);exact @lM _ _ _ _ _ _ _ _ _ _ _ _ (@dJ _) (@dJ _) (by walk_at "e") (by walk_at "e") (by walk_at "e") (by with_unfolding_all rfl)))
theorem WW (F:Fun K "is_within" "is_within" JS f N) (G:Has P w K mg base "is_whole" 1 ["thing"] LF):FnOk P w K mg base CX0 2 f N ["thing","low","high"] (spD K 3 G5):=by
 refine hD WV F #[rfl,rfl,rfl,by decide +kernel,rfl,by decide +kernel,by decide +kernel] ?_;walk_at "hd";rintro m M r ⟨d,n,hi,rfl⟩;left;refine CP trivial ?_;cases d
 case int i=>
   left;refine A1P (λh=>?_) (λh=>?_);. left;exact#[M,zT M,λy t hi' e=>by cases e;refine#[?_,rfl];simp only[MK];rw[h];rfl]
   . exact#[M,zT M,λy t hi' e=>by cases e;refine#[?_,rfl];simp only[MK];simp at h;simp;lia]
 all_goals
   left;exact#[M,zT M,λy t hi' e=>by cases e;exact#[rfl,rfl]]
end
def aG:List Str:=["thing"]
theorem aH (F:Fun K "is_place" "is_place" LX f N) (x:∃t,mg "LAST_PLACE"=al (.int (999) t)) (n:Has P w K mg base "is_within" 2 ["thing","low","high"] G5):FnOk P w K mg base CX0 3 f N ["thing"] (spD K 1 QD):=by refine hD aG F #[rfl,rfl,rfl,by decide +kernel,rfl,by decide +kernel,by decide +kernel] ?_;walk_at "hd";rintro i M r ⟨d,rfl,-⟩;left;refine XS ?_;exact#[M,zT M,λy e=>by cases e;exact#[by rw[VA],rfl]]
def SA:List Str:=["thing"]
def NF:List Str:=["sign"]
def NG:List (Option Nat):=[am]
section
local macro_rules | `(tactic| walk_at "cs")=>`(tactic| first | exact @JB _ _ NF NG (AB KK) SA (by decide +kernel) (by decide +kernel) rfl rfl)
local macro_rules | `(tactic| walk_at "x")=>`(tactic| first | ((with_reducible show PT _ (.Compare _ [_,_] ..) _);exact @lN _ _ _ _ _ _ _ _ _ _ _ _ (@dJ _) (@dJ _) (by walk_at "e") (by walk_at "e") (by walk_at "e") (by with_unfolding_all rfl)) | ((with_reducible show PE _ (.Compare _ [.In] ..) _);exact @G2 _ _ _ _ _ _ _ _ (@kIn _ K rfl) (by walk_at "e") (by walk_at "e") (by with_unfolding_all rfl)))
theorem dB (F:Fun K "is_name" "is_name" KK f N) (X:mg "all"=am) (m:mg "isinstance"=am) (j:mg "len"=am) (g:mg "str"=am) (h:∃t,mg "LETTERS"=al (.str ("abcdefghijklmnopqrstuvwxyz") t)) (p:∃t,mg "LONGEST_NAME"=al (.int (8) t)):FnOk P w K mg base CX0 1 f N ["thing"] (spD K 1 TU):=by
 refine hD SA F #[rfl,rfl,rfl,by decide +kernel,rfl,by decide +kernel,by decide +kernel] ?_;walk_at "hi";have Z:NF.Nodup:=by decide +kernel
 walk_at "nm";clear Z nd;rintro u M b ⟨d,rfl,hd⟩;cases d
 case str z=>
   have q:z.length<=sizeLine:=zN hd.1 (by decide);have k:(z.length:Int)=(z.cps.size:Int):=rfl;left;refine eF q ?_;left;refine A1P (λh1=>?_) (λh1=>?_)
   . left;refine A1P (λn=>?_) (λn=>?_);. left;exact#[M,zT M,λy e=>by cases e;refine#[?_,rfl];simp only[CI];simp at h1 n;rw[k] at h1 n;simp;lia]
     . left;refine CF (BF 0) (by simp[NG]) ?_;refine uR ?_;left;refine#[by simp only[CO,zX,a5Q];exact zQ hd.1 (by decide),λ_=>ap,λd=>.bool (v0 d),?_,?_];. intro d i r;obtain⟨c,hc,rfl⟩:=zL.mp i;walk_at "dl";refine#[rfl,?_];walk_at "dl";refine#[rfl,rfl,λ_=>?_];left;refine uP ?_;rw[bG c (hd.2 c hc)];exact#[by simp[v0],rfl]
       . left;rw[i7];refine aZ ?_;rw[bH];exact#[M,zT M,λy e=>by cases e;refine#[?_,rfl];simp only[CI];simp at h1 n;rw[k] at h1 n;simp;lia]
   . left;exact#[M,zT M,λy e=>by cases e;refine#[?_,rfl];simp only[CI];simp at h1;rw[k] at h1;simp;lia]
 all_goals
   left;exact#[M,zT M,λy e=>by cases e;exact#[rfl,rfl]]
end
def dC:List Str:=["word"]
section
local macro_rules | `(tactic| walk_at "x")=>`(tactic| first | ((with_reducible show PE _ (.Call (.Attribute _ (a0Q "get") _) ..) _);exact @v6 _ _ _ _ _ _ _ _ rfl kd (by walk_at "e") (@L2.M1.mk _ _ _ _ _ _ rfl rfl rfl rfl) (by decide)))
theorem dD (F:Fun K "form_of" "form_of" O7 f N) (t:mg "isinstance"=am) (Z:mg "str"=am) (kd:∃a,mg "FORMS"=al (.ref a)/\GDict w K a GU):FnOk P w K mg base CX0 1 f N ["word"] (spD K 1 NR):=by
 refine hD dC F #[rfl,rfl,rfl,by decide +kernel,rfl,by decide +kernel,by decide +kernel] ?_;walk_at "hd";rintro n M r ⟨d,rfl,-⟩;cases d
 case str z=> left;refine v7 ?_;left;exact#[M,zT M,λy e=>by cases e;exact#[rfl,rfl]]
 all_goals
   left;exact#[M,zT M,λy e=>by cases e;exact#[rfl,rfl]]
end
def zO:List Str:=["sign","part"]
theorem zS (F:Fun K "fits" "fits" cZ f N) (T:Has P w K mg base "is_name" 1 ["thing"] TU) (n:Has P w K mg base "is_place" 3 ["thing"] QD) (G:Has P w K mg base "is_whole" 1 ["thing"] LF):FnOk P w K mg base CX0 4 f N ["sign","part"] (spD K 2 oR):=by
 refine hD zO F #[rfl,rfl,rfl,by decide +kernel,rfl,by decide +kernel,by decide +kernel] ?_;walk_at "hd";rintro i M r ⟨a,b,rfl,c,rfl,hc,hb⟩;have U:zH (.str #[(y9 [c])])=true:=D8 (by show c0Q _=ap;simp[c0Q];lia) (by simp[a2Z]);left;refine AZ U (by decide +kernel) ?_;rw[if_neg nft,BQ];cases h1:((⟨(y9 [c])⟩:Str)==a0Q "n") with
 | true=> left;refine CP hb ?_;exact#[M,zT M,λa b e=>by cases e;exact#[by simp only[MP,h1];rfl,rfl]]
 | false=>
   left;refine AZ U (by decide +kernel) ?_;rw[if_neg nft,BQ];cases t:((⟨(y9 [c])⟩:Str)==a0Q "p") with
   | true=> left;refine CP trivial ?_;exact#[M,zT M,λa b e=>by cases e;exact#[by simp only[MP,h1,t];rfl,rfl]]
   | false=> left;refine CP trivial ?_;exact#[M,zT M,λa b e=>by cases e;exact#[by simp only[MP,h1,t];rfl,rfl]]
def aI:List Str:=["deed"]
section
local macro_rules | `(tactic| walk_at "x")=>`(tactic| first | ((with_reducible show PE _ (.Call (.Attribute _ (a0Q "startswith") _) ..) _);exact @kBm _ K _ _ _ _ _ _ _ _ _ _ _ rfl PySem.F.plainAttrs_str PySem.F.slot_str_startswith PySem.F.type_str_startswith (@XX _ K rfl) (by walk_at "e") (by walk_at "a") (by rfl) (by rfl) (by rfl) (by rfl) (by rfl)))
theorem aJ (F:Fun K "names_in" "names_in" LY f N) (m:Has P w K mg base "form_of" 1 ["word"] NR):FnOk P w K mg base CX0 2 f N ["deed"] (spD K 1 LH):=by
 refine hD aI F #[rfl,rfl,rfl,by decide +kernel,rfl,by decide +kernel,by decide +kernel] ?_;walk_at "hd";rintro c M b ⟨d,rfl,w,f,r,rfl,t⟩;obtain⟨p,fs,n,_,_⟩:=QX t;have i:QV (.str w) = .str f:=by show iA (GU.lookup w)=_;rw[t];rfl
 left;refine OJ ?_;left;refine CP trivial ?_;rw[i];refine#[dZ,?_];left;refine iC ?_;rw[n];cases htw:Y9 w with
 | true=> left;refine EG ?_;rw[show EF (a0K w::r) (al 1) (al 3)=r.take 2 from PH _ 1 3];exact#[M,zT M,λy e=>by cases e;refine#[?_,rfl];simp only[QW,htw];rfl]
 | false=> left;refine EG ?_;rw[show EF (a0K w::r) (al 1) (al 2)=r.take 1 from PH _ 1 2];exact#[M,zT M,λy e=>by cases e;refine#[?_,rfl];simp only[QW,htw];rfl]
end
def SB:List Str:=["thing","form","names"]
def NH:List Str:=["sign","part"]
def NI:List (Option Nat):=[am,am]
section
local macro_rules | `(tactic| walk_at "cs")=>`(tactic| first | exact @JB _ _ NH NI (AB KL) SB (by decide +kernel) (by decide +kernel) rfl rfl)
local macro_rules | `(tactic| walk_at "x")=>`(tactic| first | ((with_reducible show PI _ _ (.Call (.Name (a0Q "zip") _) ..) _);exact @A4B _ K _ _ _ _ _ _ _ _ rfl rfl uh (by walk_at "a") (by rfl) (by rfl)) | ((with_reducible show PG _ (.Tuple ..) _);exact @i6 _ K _ _ _ _ (2) rfl rfl (by walk_at "j") (by rfl) (by rfl)))
theorem dE (F:Fun K "is_deed" "is_deed" KL f N) (jp:mg "all"=am) (af:mg "isinstance"=am) (ba:mg "len"=am) (ak:mg "tuple"=am) (uh:mg "zip"=am) (ui:Has P w K mg base "fits" 4 ["sign","part"] oR) (dq:Has P w K mg base "form_of" 1 ["word"] NR) (ci:Has P w K mg base "names_in" 2 ["deed"] LH):FnOk P w K mg base CX0 5 f N ["thing"] (spD K 1 NS):=by
 refine hD SB F #[rfl,rfl,rfl,by decide +kernel,rfl,by decide +kernel,by decide +kernel] ?_;walk_at "hi";have Z:NH.Nodup:=by decide +kernel
 walk_at "nm";clear Z nd;rintro xs M hl ⟨d,rfl,hd⟩;cases d
 case tuple ds=>
   have fin:∀b:Bool,B5 ds=b->∃i:Own,i.Sub M/\NS.post [.d (.tuple ds)] M (.d (.bool b)) i:=λb hb=>#[M,zT M,λT e=>by cases e;exact#[by show DS.d (.bool b) = .d (.bool (B5 ds));rw[hb],rfl]]
   left;refine K2 ?_;left;refine AZ rfl rfl ?_;rw[if_neg nft]
   match ds,hd,fin with
   | [],_,fin=> left;exact fin aw rfl
   | a::r,hd,fin=>
     rw[show a0W (.int ((a::r).length:Nat)) (.int 0)=aw by simp[a0W];lia];left;refine CP trivial ?_;have X:DO (QV a)=ap->B5 (a::r)=false:=λh=>by
       cases a with
       | str w=>
         cases t:GU.lookup w with
         | none=>simp only[B5,t]
         | some f=>simp only[QV,t,iA,DO] at h;cases h
       | _=>rfl
     cases hn:DO (QV a) with
     | true=> left;refine PJ ?_;rw[hn];left;exact fin aw (X hn)
     | false=>
       have G:∃w f,a = .str w/\GU.lookup w=al f:=by
         cases a with
         | str w=>
           cases t:GU.lookup w with
           | none=>simp only[QV,t,iA,DO] at hn;cases hn
           | some f=>exact#[w,f,rfl,t]
         | _=>cases hn
       obtain⟨w,f,rfl,t⟩:=G;obtain⟨m,fs,fn,O,f1⟩:=QX t;have ug:QV (.str w) = .str f:=by show iA (GU.lookup w)=_;rw[t];rfl
       have n:B5 (.str w::r)=((r.length==f.cps.size)&&HS f r&&(!Y9 w||!a0W (r.getD 0 .none) (r.getD 1 .none))):=by simp only[B5,t]
       rw[ug];left;refine PJ ?_;left;refine K2 ?_;left;refine eF (zN fs (by decide)) ?_;left;refine AZ rfl rfl ?_;rw[if_pos rfl];have v:a0W (.int ((a0K w::r).length:Nat)) (.int ((f.length:Int)+1))=(r.length==f.cps.size):=by show(((r.length+1:Nat):Int)==((f.cps.size:Int)+1))=_;rw[a3Q,beq_iff_eq,beq_iff_eq];lia
       rw[v];cases k:(r.length==f.cps.size) with
       | false=> left;exact fin aw (by rw[n,k];rfl)
       | true=>
         have D:r.length=f.cps.size:=eq_of_beq k;have L:r.length<=4:=by lia
         left;refine CF (bC (ET (ET bB))) (by simp[NI]) ?_;refine z8 ?_;left;refine EG ?_;rw[show EF (a0K w::r) (al 1) am=r from QG _ 1];left;refine#[_,_,_,_,rfl,.inr #[_,rfl,m,rfl],.inl rfl,?_,λ_=>ap,A3n,?_,?_];. unfold XN;rw[zX,List.length_zip];exact zQ (show _<=4 by lia) (by decide)
         . intro d J M';obtain⟨⟨s1,q⟩,g,rfl⟩:=zL.mp J;have hs:s1∈CO f:=(b4X g).1;have hp:q∈r:=(b4X g).2;obtain⟨c,hc,rfl⟩:=zL.mp hs;have u:c < 128:=by have:=Array.all_eq_true'.mp m c (by simpa using hc);simpa using this
           left;refine#[rfl,?_];walk_at "dl";refine#[rfl,rfl,λ_=>?_];left;refine nJ #[c,rfl,u,hd.2 q (yV _ hp)] ?_;exact#[rfl,rfl]
         . rw[oS];left;refine aZ ?_;rw[show(((CO f).zip r).map λp=>MP p.1 p.2).all id=HS f r by unfold HS;rw[List.all_map];rfl];cases hfit:HS f r with
           | false=> left;exact fin aw (by rw[n,k,hfit];rfl)
           | true=>
             left;refine CP #[w,f,r,rfl,t] ?_;rw[show QW (.tuple (.str w::r)) = .tuple (r.take (if Y9 w then 2 else 1)) from rfl];cases htw:Y9 w with
             | false=>
               match r,D,L,n,hfit,fin with
               | [],D,_,_,_,_=>exact absurd D (by show ¬(0=f.cps.size);lia)
               | x::Y,D,L,n,hfit,fin=> left;refine K2 ?_;left;refine AZ rfl rfl ?_;left;exact fin ap (by rw[n,k,hfit,htw];rfl)
             | true=>
               obtain⟨f2,I,B⟩:=O htw
               match r,D,L,n,hfit,fin with
               | [],D,_,_,_,_=>exact absurd D (by show ¬(0=f.cps.size);lia)
               | [_],D,_,_,_,_=>exact absurd D (by show ¬(1=f.cps.size);lia)
               | x::y::Y,D,L,n,hfit,fin=> obtain⟨Q,U⟩:=oU I B hfit;obtain⟨zx,rfl,z⟩:=U2 Q;obtain⟨zy,rfl,S⟩:=U2 U;left;refine K2 ?_;left;refine AZ rfl rfl ?_;left;refine AL (d:=.str zx) (AG (j:=0) rfl) ?_;left;refine AL (d:=.str zy) (AG (j:=1) rfl) ?_;refine AZ (BX z) (BX S) ?_;rw[if_pos rfl];exact fin _ (by rw[n,k,hfit,htw];rfl)
 all_goals
   left;exact#[M,zT M,λT e=>by cases e;exact#[rfl,rfl]]
end
def dF:List Str:=["deed"]
section
local macro_rules | `(tactic| walk_at "x")=>`(tactic| first | ((with_reducible show PT _ (.Compare _ [.In] ..) _);exact @CV _ _ _ _ _ _ _ _ (@kIn _ K rfl) (by walk_at "e") (by walk_at "e") (by with_unfolding_all rfl)))
theorem dG (F:Fun K "made_by" "made_by" O8 f N):FnOk P w K mg base CX0 1 f N ["deed"] (spD K 1 UA):=by
 refine hD dF F #[rfl,rfl,rfl,by decide +kernel,rfl,by decide +kernel,by decide +kernel] ?_;walk_at "hd";rintro p M m ⟨d,rfl,D,rfl,hD⟩;rw[D.d_eq];left;refine AZ D.word_ok (by decide +kernel) ?_;rw[if_neg nft,BQ,oV];cases hp:D.isPut with
 | true=> left;refine#[M,zT M,λi e=>?_];cases e;refine#[?_,rfl];cases D <;> first | rfl | cases hp
 | false=>
   left;refine eJ (ys:=[a0Q "name", a0Q "split"]) ?_;rw[A4b,vF];cases hn:D.isNS with
   | true=>
     have n:∃y t,D.rest = .str y::t:=by cases D <;> first | exact#[_,_,rfl] | cases hn
     obtain⟨y,t,n⟩:=n;left;refine AL (d:=.str y) (AG (j:=2) (by rw[n];rfl)) ?_;refine#[M,zT M,λi e=>?_];cases e;refine#[?_,rfl];cases D <;> first | (cases hn;done) | (simp only[Deed.rest] at n;injection n with J r;injection J with J;subst J;rfl)
   | false=> left;refine#[M,zT M,λi e=>?_];cases e;refine#[?_,rfl];cases D <;> first | rfl | (cases hn;done) | (cases hp;done)
end
def OZ:List Str:=["world"]
def L5:List Str:=["name","place","count"]
def L6:List (Option Nat):=[am,am,am]
section
local macro_rules | `(tactic| walk_at "cs")=>`(tactic| first | exact @JB _ _ L5 L6 (AB IK) OZ (by decide +kernel) (by decide +kernel) rfl rfl)
local macro_rules | `(tactic| walk_at "x")=>`(tactic| first | ((with_reducible show PG _ (.Tuple ..) _);exact @i6 _ K _ _ _ _ (3) rfl rfl (by walk_at "j") (by rfl) (by rfl)))
theorem aK (F:Fun K "by_names" "by_names" IK f N):FnOk P w K mg base CX0 1 f N ["world"] (spD K 1 E7):=by
 refine hD OZ F #[rfl,rfl,rfl,by decide +kernel,rfl,by decide +kernel,by decide +kernel] ?_;walk_at "hi";have Z:L5.Nodup:=by decide +kernel
 walk_at "nm";clear Z nd;rintro b M m ⟨w,rfl,nd,k⟩;have q:w.length < sizeLine:=zP k (by decide);left;refine QU (bC (ET (ET (ET bB)))) (by simp[L6]) ?_;refine BP ?_;left;have n:(w.map thD).map nm0=w.map (·.1):=v4 w;refine#[by rw[zX];exact q,λ_=>ap,nm0,A4c,by rw[SU,n];exact nd,?_,?_];. intro d hd r;obtain⟨t,u,rfl⟩:=zL.mp hd;rw[thD];left;refine#[rfl,?_];walk_at "dl";refine#[rfl,rfl,λ_=>?_];left;refine#[rfl,rfl,?_];left;exact#[rfl,rfl]
 . intro p hp;rw[SU,zD];refine#[_,zT _,λi e=>#[p,hp,rfl,?_]];have e:=NU (show wD w=wD i by simpa using e);subst e;rfl
end
def FR:List Str:=["things"]
def EN:List Str:=["name","things"]
def EO:List (Option Nat):=[am,al 0]
section
local macro_rules | `(tactic| walk_at "cs")=>`(tactic| first | exact @JB _ _ EN EO (AB CC) FR (by decide +kernel) (by decide +kernel) rfl rfl)
local macro_rules | `(tactic| walk_at "y")=>`(tactic| first | ((with_reducible show PE _ (.Subscript ..) _);exact @DJ _ _ _ _ _ _ ij (@pv _ 1 _ _ (by rfl) (by walk_at "lc") (by decide) (by decide)) (@pv _ 0 _ _ (by rfl) (by walk_at "lc") (by decide) (by decide)) (λ_ _=>rfl)))
theorem LZ (F:Fun K "rising_by_names" "rising_by_names" CC f N) (bi:mg "sorted"=am) (ak:mg "tuple"=am):FnOk P w K mg base CX0 1 f N ["things"] (spD K 1 BM):=by
 refine hD FR F #[rfl,rfl,rfl,by decide +kernel,rfl,by decide +kernel,by decide +kernel] ?_;walk_at "hi";have Z:EN.Nodup:=by decide +kernel
 walk_at "nm";clear Z nd;rintro x M q ⟨p,ts,rfl,m,nd,y,hb⟩;left;refine BG (BF 0) (by simp[EO]) ?_;refine DN ?_;left;refine oH (ts:=ts) m y λh hp hs=>?_;have k:h.length=ts.length:=by have:=hp.length_eq;simpa using this
 refine#[_,rfl,by rw[zX,k];exact zP y (by decide),λ_=>ap,RW ts,?_,?_]
 . rintro d hd A acc g hA rfl;obtain⟨s,b,rfl⟩:=zL.mp hd;obtain⟨t,u,i⟩:=zL.mp (hp.mem_iff.mp b);obtain⟨ds,n,j⟩:=hb t u;have O:BK ts s=al (.tuple ds):=by rw[<-i,<-n];exact RV nd u
   have c:p≠A:=λe=>by rw[e] at m;rw[hA] at m;cases m
   left;refine#[rfl,?_];walk_at "dl";refine#[rfl,rfl,λ_=>?_];left;refine FC ?_;left;refine#[p,ts,s,.tuple ds,rfl,rfl,by rw[yH c];exact m,O,?_];refine B9 (zN (show _<=10 by simp;lia) (by decide)) ?_;refine#[?_,rfl];simp only[RW,O];rfl
 . rw[SU];left;refine K3 ?_;refine#[M,zT M,λv U e r=>?_];cases e;obtain rfl:=OX (MO.d.inj (Option.some.inj (m.symm.trans r)));exact#[h,hp,hs,rfl,rfl]
end
def WX:List Str:=["things","name","more","place","count"]
section
local macro_rules | `(tactic| walk_at "x")=>`(tactic| first | ((with_reducible show PS _ (.Assign [.Tuple ..] ..) _);exact @lG _ _ _ _ _ _ (by walk_at "e") (by walk_at "g") (by rfl) (by rfl) (by rfl)) | ((with_reducible show PG _ (.Tuple ..) _);exact @A0Y _ K _ _ _ _ (2) rfl rfl (by walk_at "j") (by rfl) (by rfl)) | ((with_reducible show PS _ (.Assign [.Subscript ..] ..) _);exact @MG _ _ _ _ _ _ _ _ _ ij (by walk_at "e") (by walk_at "e") (by walk_at "e") (by rfl)))
local macro_rules | `(tactic| walk_at "y")=>`(tactic| first | ((with_reducible show PE _ (.Subscript ..) _);exact @DJ _ _ _ _ _ _ ij (@pv _ 0 _ _ (by rfl) (by walk_at "lc") (by decide) (by decide)) (@pv _ 1 _ _ (by rfl) (by walk_at "lc") (by decide) (by decide)) (λ_ _=>rfl)))
theorem WY (F:Fun K "add_count" "add_count" JT f N):FnOk P w K mg base CX0 1 f N ["things","name","more"] (spD K 3 G6):=by
 refine hD WX F #[rfl,rfl,rfl,by decide +kernel,rfl,by decide +kernel,by decide +kernel] ?_;walk_at "hd";rintro g M r ⟨p,n,x,k,v,rfl,m,t,y⟩;walk_at "dl";try walk_at "unf"
 refine nM ?_;refine FC ?_;left;refine#[p,tsD n,x,pcD v.1 v.2,rfl,rfl,m,by rw[AR,t];rfl,?_];rw[pcD];left;refine BW ?_;left;refine#[p,tsD n,x,pcD v.1 (v.2+k),rfl,rfl,rfl,m,by unfold tsD;rw[zX];exact zP y (by decide),?_];refine#[_,zT _,λc U Z b e i=>?_];cases e;have e:=eV (Option.some.inj (m.symm.trans i));subst e;refine#[rfl,?_];rw[CB];unfold HV;rw[t]
end
theorem aL (F:Fun K "__init__" "NotNow.__init__" C9 f N) (c:XCls K C S (.ref f)) (cs:XSet K C "name"):FnOk P w K mg base CX0 1 f N ["self","name"] (ER C "name"):=
 fC F #[rfl,rfl,rfl,by decide +kernel,rfl,by decide +kernel,by decide +kernel] rfl c cs (by decide) (λ_=>rfl) (λX hN hS=>pv 0 (by rw[hN];rfl) (by rw[hS];exact Or.inl rfl)) (λX hN hS=>pv 1 (by rw[hN];rfl) (by rw[hS];exact Or.inl rfl))
def M0:List Str:=["things","deed","made","name"]
section
local macro_rules | `(tactic| walk_at "x")=>`(tactic| first | ((with_reducible show PE _ (.Compare _ [.In] ..) _);exact @l6 _ _ _ _ _ _ (@V1 _ _ _ _ _ ij (by walk_at "e") (by walk_at "e")) (by with_unfolding_all rfl)))
theorem MA (F:Fun K "refuse_undoable" "refuse_undoable" DU f N) (de:HasN K mg "NoDeed" z c) (df:HasR P w K mg base "NotNow" "name" q c) (I:Has P w K mg base "is_deed" 5 ["thing"] NS) (S:Has P w K mg base "made_by" 1 ["deed"] UA) (J:Has P w K mg base "names_in" 2 ["deed"] LH):FnOk P w K mg base (CXE P w) 6 f N ["things","deed"] (spX K 2 (DD q)):=by
 refine hDX M0 F #[rfl,rfl,rfl,by decide +kernel,rfl,by decide +kernel,by decide +kernel] ?_;walk_at "hd";rintro B M O ⟨p,i,D,rfl,m,hr⟩;have v:bU D.d:=YD hr;left;refine CP (vO hr.1) ?_;rw[vN hr];left;refine CP v ?_;left;try walk_at "unf"
 refine pM ?_;refine BP ?_;left;refine CP (oP D) ?_;rw[oQ];left;refine#[λk t r=>r=M/\(∀x∈D.names.take k,amB (i.map (·.1)) D x=aw)/\∃x:Option DS,t=[al (.loc p),al (.d D.d),al (.d (YA D.d)),x],#[rfl,by simp,_,rfl],?_,?_]
 . rintro k d t r hd ⟨rfl,hk,x,rfl⟩;rw[zF] at hd;cases hsk:D.names[k]? with
   | none=>rw[hsk] at hd;cases hd
   | some n=>
     rw[hsk] at hd;cases hd;have hn:n∈D.names:=yN hsk;have u:CQ n:=hr.1 n hn;left;refine VE ?_;left;refine#[p,tsD i,n,rfl,rfl,m,?_];left;refine AZ (BX u) (vG hr.1) ?_;rw[if_neg nft,vP];refine AZ rfl rfl ?_;rw[if_neg nft,iR,AR,a4K,HU];have j:(decide (n∈i.map (·.1))==decide (D.made=al n))=amB (i.map (·.1)) D n:=rfl;rw[j];cases hb:amB (i.map (·.1)) D n with
     | true=> left;refine#[_,zT _,λT U g e b=>?_];obtain⟨rfl,rfl,rfl⟩:=RU e m b;exact#[n,ZJ hk hsk hb,rfl,rfl,rfl]
     | false=>
       left;refine#[rfl,λy hy=>?_,_,rfl];rw[a1V,hsk] at hy;rcases yW.mp hy with h | h;. exact hk y h
       . have:y=n:=by simpa using h
         rw[this];exact hb
 . rintro t r ⟨rfl,hk,x,rfl⟩;rw[zX,a1Q] at hk;refine#[_,zT _,λT U g e b=>?_];obtain⟨rfl,rfl,rfl⟩:=RU e m b;exact#[rO hk,rfl,rfl]
end
def kJ:List Str:=["things","deed","word","name"]
section
local macro_rules | `(tactic| walk_at "x")=>`(tactic| first | ((with_reducible show PS _ (.Assign [.Tuple ..] (.Tuple ..) _) _);exact @UT _ _ (2) (3) _ _ _ _ _ _ _ _ _ _ _ rfl nd rfl rfl (by decide) rfl rfl (by walk_at "a") rfl (by rfl)) | ((with_reducible show PS _ (.Assign [.Subscript ..] ..) _);exact @MG _ _ _ _ _ _ _ _ _ ij (by walk_at "e") (by walk_at "e") (by walk_at "e") (by rfl)) | ((with_reducible show PS _ (.Delete ..) _);exact @tV _ _ _ _ _ _ _ (by walk_at "e") (by walk_at "e")) | ((with_reducible show PE _ (.Call (.Attribute _ (a0Q "pop") _) ..) _);exact @XA _ _ _ _ _ _ _ (by walk_at "e") (by walk_at "e") (@L2.M1.mk _ _ _ _ _ _ rfl rfl rfl rfl)))
local macro_rules | `(tactic| walk_at "y")=>`(tactic| first | ((with_reducible show PE _ (.Subscript ..) _);exact @DJ _ _ _ _ _ _ ij (@pv _ 0 _ _ (by rfl) (by walk_at "lc") (by decide) (by decide)) (@pv _ 3 _ _ (by rfl) (by walk_at "lc") (by decide) (by decide)) (λ_ _=>rfl)) | ((with_reducible show PE _ (.Subscript ..) _);exact @DJ _ _ _ _ _ _ ij (@pv _ 0 _ _ (by rfl) (by walk_at "lc") (by decide) (by decide)) (by walk_at "e") (λ_ _=>rfl)))
theorem kK (F:Fun K "change" "change" RZ f N) (O:Has P w K mg base "add_count" 1 ["things","name","more"] G6):FnOk P w K mg base CX0 2 f N ["things","deed"] (spD K 2 MQ):=by
 refine hD kJ F #[rfl,rfl,rfl,by decide +kernel,rfl,by decide +kernel,by decide +kernel] ?_;walk_at "hd";rintro I M T ⟨p,n,D,rfl,m,⟨nd,h⟩,hr,z⟩;have r:n.length < 64:=b8V h;have B:=D9 z;cases D with
 | put x i k=> have hx:x∉n.map (·.1):=λq=>(B x (by simp[Deed.names])).mp q rfl;rw[Deed.d];left;refine#[_,_,rfl,?_];left;refine BW ?_;left;refine#[p,tsD n,x,pcD i k,rfl,rfl,rfl,m,CW r,?_];refine#[_,zT _,λc U b e t=>?_];obtain⟨rfl,rfl,rfl⟩:=HW (D:=Deed.put x i k) m e t;refine#[rfl,?_];rw[CB];rfl
 | take x=> obtain⟨v,S⟩:=BH ((B x (by simp[Deed.names])).mpr (by simp[Deed.made]));rw[Deed.d];left;refine#[_,_,rfl,?_];left;refine eR ?_;left;refine#[p,tsD n,x,rfl,rfl,m,by rw[AR,S];rfl,?_];refine#[_,zT _,λc U b e t=>?_];obtain⟨rfl,rfl,rfl⟩:=HW (D:=Deed.take x) m e t;refine#[rfl,?_];rw[GV];rfl
 | move x i=> obtain⟨v,S⟩:=BH ((B x (by simp[Deed.names])).mpr (by simp[Deed.made]));rw[Deed.d];left;refine#[_,_,rfl,?_];left;refine BW ?_;left;refine FC ?_;left;refine#[p,tsD n,x,pcD v.1 v.2,rfl,rfl,m,by rw[AR,S];rfl,?_];left;refine AL (ds:=[.int v.1,.int v.2]) (d:=.int v.2) (AG (j:=1) rfl) ?_;left;refine#[p,tsD n,x,pcD i v.2,rfl,rfl,rfl,m,CW r,?_];refine#[_,zT _,λc U b e t=>?_];obtain⟨rfl,rfl,rfl⟩:=HW (D:=Deed.move x i) m e t;refine#[rfl,?_];rw[CB];simp only[doT,S]
 | count x k=> obtain⟨v,S⟩:=BH ((B x (by simp[Deed.names])).mpr (by simp[Deed.made]));rw[Deed.d];left;refine#[_,_,rfl,?_];left;refine QY m S r ?_;left;refine#[_,zT _,λc U b e t=>?_];obtain⟨rfl,rfl,rfl⟩:=HW (D:=Deed.count x k) m e t;refine#[rfl,?_];rfl
 | name x y=> obtain⟨v,S⟩:=BH ((B x (by simp[Deed.names])).mpr (by simp[Deed.made,hr.2.1.symm]));rw[Deed.d];left;refine#[_,_,rfl,?_];left;refine BW ?_;refine PL ?_;left;refine#[p,tsD n,rfl,m,?_];left;refine#[tsD n,x,pcD v.1 v.2,rfl,m,by rw[AR,S];rfl,?_];rw[GV];left;refine#[p,tsD (IT n x),y,pcD v.1 v.2,rfl,rfl,rfl,zU,CW (zQ (yJ _ _) r),?_];rw[yI];refine#[_,zT _,λc U b e t=>?_];obtain⟨rfl,rfl,rfl⟩:=HW (D:=Deed.name x y) m e t;refine#[rfl,?_];rw[CB];simp only[doT,S]
 | split x y i k=> obtain⟨v,S⟩:=BH ((B x (by simp[Deed.names])).mpr (by simp[Deed.made,hr.2.1.symm]));rw[Deed.d];left;refine#[_,_,rfl,?_];left;refine QY m S r ?_;left;refine BW ?_;left;refine#[p,tsD (HV n x (-k)),y,pcD i k,rfl,rfl,rfl,zU,CW (by rw[oY];exact r),?_];rw[yI];refine#[_,zT _,λc U b e t=>?_];obtain⟨rfl,rfl,rfl⟩:=HW (D:=Deed.split x y i k) m e t;refine#[rfl,?_];rw[CB];rfl
 | join x y=> obtain⟨v,S⟩:=BH ((B x (by simp[Deed.names])).mpr (by simp[Deed.made]));obtain⟨u,g⟩:=BH ((B y (by simp[Deed.names])).mpr (by simp[Deed.made]));rw[Deed.d];left;refine#[_,_,rfl,?_];left;refine FC ?_;left;refine#[p,tsD n,y,pcD u.1 u.2,rfl,rfl,m,by rw[AR,g];rfl,?_];left;refine AL (ds:=[.int u.1,.int u.2]) (d:=.int u.2) (AG (j:=1) rfl) ?_;left;refine QY m S r ?_;left;refine eR ?_;left;refine#[p,tsD (HV n x u.2),y,rfl,rfl,zU,by rw[AR,a4K,HU,E8,<-HU,g];rfl,?_];rw[yI];refine#[_,zT _,λc U b e t=>?_];obtain⟨rfl,rfl,rfl⟩:=HW (D:=Deed.join x y) m e t;refine#[rfl,?_];rw[GV];simp only[doT,g]
end
def A0A:List Str:=["world","deed","things"]
section
local macro_rules | `(tactic| walk_at "x")=>`(tactic| first | ((with_reducible show PE _ (.Call (.Name (a0Q "refuse_undoable") _) ..) _);exact @e9 _ K P w mg base _ _ _ _ _ _ _ _ _ rfl rfl rfl rfl rfl (JN ai) (hr.mono (by decide)) rfl (by walk_at "a") (by decide) (by rfl) (by rfl)))
theorem A0B (F:Fun K "done" "done" d0 f N) (ai:HasX P w K mg base "refuse_undoable" 6 ["things","deed"] (DD q)) (t:Has P w K mg base "by_names" 1 ["world"] E7) (n:Has P w K mg base "change" 2 ["things","deed"] MQ) (u:Has P w K mg base "rising_by_names" 1 ["things"] BM):FnOk P w K mg base CX0 7 f N ["world","deed"] (spD K 2 VF):=by refine hD A0A F #[rfl,rfl,rfl,by decide +kernel,rfl,by decide +kernel,by decide +kernel] ?_;walk_at "hd";rintro c M r ⟨w,D,rfl,hg⟩;obtain⟨n1,m⟩:=NW hg;obtain⟨hc,hr,g⟩:=hg;left;refine GG hc λp hp=>?_;left;refine YE zU hr g ?_;left;refine YF zU hc hr g ?_;rw[yI];left;refine GH zU n1 m ?_;refine#[M,(zT M).put hp,λb i e=>?_];obtain⟨rfl,rfl⟩:=HX e;exact#[rfl,rfl]
end
def WZ:List Str:=["world","deed","things","word","name"]
section
local macro_rules | `(tactic| walk_at "x")=>`(tactic| first | ((with_reducible show PS _ (.Assign [.Tuple ..] (.Tuple ..) _) _);exact @UT _ _ (3) (4) _ _ _ _ _ _ _ _ _ _ _ rfl nd rfl rfl (by decide) rfl rfl (by walk_at "a") rfl (by rfl)))
local macro_rules | `(tactic| walk_at "y")=>`(tactic| first | ((with_reducible show PE _ (.Subscript ..) _);exact @DJ _ _ _ _ _ _ ij (@pv _ 2 _ _ (by rfl) (by walk_at "lc") (by decide) (by decide)) (@pv _ 4 _ _ (by rfl) (by walk_at "lc") (by decide) (by decide)) (λ_ _=>rfl)) | ((with_reducible show PE _ (.Subscript ..) _);exact @DJ _ _ _ _ _ _ ij (@pv _ 2 _ _ (by rfl) (by walk_at "lc") (by decide) (by decide)) (by walk_at "e") (λ_ _=>rfl)))
theorem X0 (F:Fun K "back_deed" "back_deed" JU f N) (ai:HasX P w K mg base "refuse_undoable" 6 ["things","deed"] (DD q)) (b:Has P w K mg base "by_names" 1 ["world"] E7):FnOk P w K mg base (CXE P w) 7 f N ["world","deed"] (spX K 2 (KF q)):=by
 refine hDX WZ F #[rfl,rfl,rfl,by decide +kernel,rfl,by decide +kernel,by decide +kernel] ?_;walk_at "hd";rintro g M c ⟨w,D,rfl,hc,hr⟩;left;refine GG hc λp hp=>?_;left;refine W8 zU hr (λhn=>?_) λz m=>?_
 rotate_left
 . refine#[M,(zT M).put hp,λt i e=>?_];obtain⟨rfl,rfl⟩:=HX e;exact#[z,m,rfl,rfl,rfl]
 have B:=D9 hn;cases D with
 | put x n k=> rw[Deed.d];left;refine#[_,_,rfl,?_];left;refine#[M,(zT M).put hp,λt i e=>?_];obtain⟨rfl,rfl⟩:=HX (D:=Deed.put x n k) e;refine#[hn,?_];exact#[rfl,rfl]
 | take x=> obtain⟨v,S⟩:=BH ((B x (by simp[Deed.names])).mpr (by simp[Deed.made]));rw[Deed.d];left;refine#[_,_,rfl,?_];left;refine FC ?_;left;refine#[p,tsD w,x,pcD v.1 v.2,rfl,rfl,zU,by rw[AR,S];rfl,?_];refine B9 (yD rfl) ?_;refine#[M,(zT M).put hp,λt i e=>?_];obtain⟨rfl,rfl⟩:=HX (D:=Deed.take x) e;refine#[hn,?_];exact#[by simp only[B4,S];rfl,rfl]
 | move x n=> obtain⟨v,S⟩:=BH ((B x (by simp[Deed.names])).mpr (by simp[Deed.made]));rw[Deed.d];left;refine#[_,_,rfl,?_];left;refine FC ?_;left;refine#[p,tsD w,x,pcD v.1 v.2,rfl,rfl,zU,by rw[AR,S];rfl,?_];left;refine AL (ds:=[.int v.1,.int v.2]) (d:=.int v.1) (AG (j:=0) rfl) ?_;left;refine#[M,(zT M).put hp,λt i e=>?_];obtain⟨rfl,rfl⟩:=HX (D:=Deed.move x n) e;refine#[hn,?_];exact#[by simp only[B4,S];rfl,rfl]
 | count x k=> rw[Deed.d];left;refine#[_,_,rfl,?_];left;refine#[M,(zT M).put hp,λt i e=>?_];obtain⟨rfl,rfl⟩:=HX (D:=Deed.count x k) e;refine#[hn,?_];exact#[rfl,rfl]
 | name x y=> rw[Deed.d];left;refine#[_,_,rfl,?_];left;refine#[M,(zT M).put hp,λt i e=>?_];obtain⟨rfl,rfl⟩:=HX (D:=Deed.name x y) e;refine#[hn,?_];exact#[rfl,rfl]
 | split x y n k=> rw[Deed.d];left;refine#[_,_,rfl,?_];left;refine#[M,(zT M).put hp,λt i e=>?_];obtain⟨rfl,rfl⟩:=HX (D:=Deed.split x y n k) e;refine#[hn,?_];exact#[rfl,rfl]
 | join x y=> obtain⟨u,r⟩:=BH ((B y (by simp[Deed.names])).mpr (by simp[Deed.made]));rw[Deed.d];left;refine#[_,_,rfl,?_];left;refine FC ?_;left;refine#[p,tsD w,y,pcD u.1 u.2,rfl,rfl,zU,by rw[AR,r];rfl,?_];refine B9 (yD rfl) ?_;refine#[M,(zT M).put hp,λt i e=>?_];obtain⟨rfl,rfl⟩:=HX (D:=Deed.join x y) e;refine#[hn,?_];exact#[by simp only[B4,r];rfl,rfl]
end
theorem dH (F:Fun K "__init__" "NoRow.__init__" C0 f N) (c:XCls K C S (.ref f)) (cs:XSet K C "number"):FnOk P w K mg base CX0 1 f N ["self","number"] (ER C "number"):=
 fC F #[rfl,rfl,rfl,by decide +kernel,rfl,by decide +kernel,by decide +kernel] rfl c cs (by decide) (λ_=>rfl) (λX hN hS=>pv 0 (by rw[hN];rfl) (by rw[hS];exact Or.inl rfl)) (λX hN hS=>pv 1 (by rw[hN];rfl) (by rw[hS];exact Or.inl rfl))
def kL:List Str:=["world","row","here","back","number","deed"]
section
local macro_rules | `(tactic| walk_at "x")=>`(tactic| first | ((with_reducible show PI _ _ (.Call (.Name (a0Q "enumerate") _) ..) _);exact @A2S _ K _ _ _ _ _ _ _ rfl rfl dg (by walk_at "a") (by rfl)) | ((with_reducible show PG _ (.Tuple ..) _);exact @i6 _ K _ _ _ _ (2) rfl rfl (by walk_at "j") (by rfl) (by rfl)) | ((with_reducible show PS _ (.Try ..) _);exact @A3y _ _ _ _ _ _ _ _ _ _ _ _ _ _ _ _ _ _ _ _ _ _ _ _ _ _ _ _ _ _ _ rfl rfl rfl rfl rfl rfl rfl de.cls df.cls iw (hr.mono (by decide)) rfl rfl rfl (λa=>(by walk_at "a")) (λpn R=>(by walk_at "q")) (by decide) (by decide) (by decide) (by rfl)))
theorem kM (F:Fun K "walked" "walked" S0 f g) (dg:mg "enumerate"=am) (iw:HasRA P w K mg base "NoRow" "number" S m) (de:HasN K mg "NoDeed" T m) (fe:HasR P w K mg base "NoRow" "number" S m) (df:HasR P w K mg base "NotNow" "name" q m) (Y:HasX P w K mg base "back_deed" 7 ["world","deed"] (KF q)) (L:Has P w K mg base "by_names" 1 ["world"] E7) (Z:Has P w K mg base "done" 7 ["world","deed"] VF) (J:Has P w K mg base "rising_by_names" 1 ["things"] BM):FnOk P w K mg base (CXE P w) 8 f g ["world","row"] (spX K 2 (GX S UJ)):=by
 refine hDX kL F #[rfl,rfl,rfl,by decide +kernel,rfl,by decide +kernel,by decide +kernel] ?_;walk_at "hd";rintro xs M X ⟨w,t,rfl,r⟩;have b:=r.fine;have G:=r.few;unfold EW;left;refine GG #[b.1.nodup,by lia] λp hp=>?_;left;refine GH zU b.1.nodup (by lia) ?_;rw[iO b.1];left;refine MH ?_;left;intro A hA;have O:p≠A:=by rintro rfl;rw[zU] at hA;cases hA
 have u:M A=none:=by rw[yH O.symm] at hA;exact hA
 walk_at "wks";try walk_at "unf"
 refine pM ?_;refine r9 ?_;left;have hle:(OS (t.map Deed.d)).length=t.length:=by unfold OS;rw[zX,List.length_zipIdx,zX]
 refine#[λk n M1=>k<=t.length/\BC w (t.take k)/\M1=(M.put p (tsO w)).put A (.l (bkL w t k))/\∃(N c:Option DS),n=[al (.d (wD w)),al (.d (.tuple (t.map Deed.d))),al (.d (wD (wsF w t k))),al (.loc A),N,c],#[xT _,trivial,rfl,_,_,rfl],?_,?_]
 . rintro k d n M1 hd ⟨hk,hb,rfl,N,c,rfl⟩;have j:k < t.length:=by rw[<-hle];exact(yT.mp hd).1
   have hD:t[k]?=al t[k]:=zV j;obtain rfl:d = .tuple [.int (k:Nat),(t[k]).d]:=by unfold OS at hd;rw[zF,List.getElem?_zipIdx,zF,hD] at hd;simpa using hd.symm
   obtain⟨U,Q⟩:=rW r hb hk;have hr:=r.real _ (a1J j);generalize t[k]=D at hD hr;left;try walk_at "unf"
   refine wW λB=>?_;try walk_at "unf"
   refine pK (fA (A2Y ?_));walk_at "dl";refine#[HP zU,?_];refine pO (FH ?_);left;refine cP Q hr (λx=>?_) λz y=>?_
   . have hg:goD (wsF w t k) D:=#[Q,hr,x]
     refine pN (mF ?_);refine E4 zU (by rw[vQ];exact zP (show k < 60 by lia) (by decide)) ?_;refine EU ?_;left;refine iP hg ?_;refine#[by lia,OU hb hD hg,?_,al (.d (.int (k:Nat))),al (.d D.d),?_];. rw[yI,p7];congr 3;simp only[bkF,hD]
     . rw[f6 hD];rfl
   . refine#[.inr rfl,(λz' e=>by unfold nnX at e;injection e with e;injection e with e;exact absurd e (by decide +kernel)),?_];left;refine#[M,((zT M).put hp).put u,λI v e=>?_];obtain⟨rfl,rfl⟩:=GA e;exact#[k,#[hb,D,hD,by rw[y];exact Option.some_ne_none z],rfl,rfl,rfl]
 . rintro n M1 ⟨hk,hb,h⟩;rw[hle] at h hb;rw[a1Q] at hb;obtain⟨rfl,N,c,rfl⟩:=h;refine EU ?_;try walk_at "unf"
   refine EZ (i:=3) (a:=A) rfl zU ?_;rw[yG hA];left;refine#[M,(zT M).put hp,λI v e=>?_];obtain⟨rfl,rfl⟩:=GA e;refine#[hb,?_,rfl];rw[show wsF w t t.length=DF w t by unfold wsF;rw[a1Q]];rfl
end
def A0C:List Str:=["world","row"]
theorem A0D (F:Fun K "gone" "gone" dA f N) (Q:HasX P w K mg base "walked" 8 ["world","row"] (GX S UJ)):FnOk P w K mg base (CXE P w) 9 f N ["world","row"] (spX K 2 (GX S OV)):=by
 refine hDX A0C F #[rfl,rfl,rfl,by decide +kernel,rfl,by decide +kernel,by decide +kernel] ?_;walk_at "hd";rintro m M r ⟨w,t,rfl,z⟩;unfold EW;try walk_at "unf"
 refine VO (rN (FH ?_));left;refine WA z (λhb=>?_) λi hi=>?_;. left;unfold UJ;refine AL (d:=wD (DF w t)) rfl ?_;refine#[M,zT M,λn u e=>?_];obtain⟨rfl,rfl⟩:=GA e;exact#[hb,rfl,rfl]
 . refine#[M,zT M,λn u e=>?_];obtain⟨rfl,rfl⟩:=GA e;exact#[i,hi,rfl,rfl,rfl]
def sU:List Str:=["world","row"]
section
local macro_rules | `(tactic| walk_at "x")=>`(tactic| first | ((with_reducible show PE _ (.Call (.Name (a0Q "tuple") _) [.Call ..] ..) _);exact @jY _ K _ _ _ _ _ _ rfl (by walk_at "e") hr.hd rfl d_ rfl ak (by rfl) (by rfl)))
theorem sV (F:Fun K "backs" "backs" WJ f N) (d_:mg "reversed"=am) (ak:mg "tuple"=am) (Q:HasX P w K mg base "walked" 8 ["world","row"] (GX S UJ)):FnOk P w K mg base (CXE P w) 9 f N ["world","row"] (spX K 2 (GX S LP)):=by
 refine hDX sU F #[rfl,rfl,rfl,by decide +kernel,rfl,by decide +kernel,by decide +kernel] ?_;walk_at "hd";rintro m M r ⟨w,t,rfl,z⟩;unfold EW;try walk_at "unf"
 refine VO (cO (rN (FH ?_)));left;refine WA z (λhb=>?_) λi hi=>?_;. left;unfold UJ;refine AL (d:=.list (bkL w t t.length)) rfl ?_;refine#[_,rfl,?_];refine#[M,zT M,λn u e=>?_];obtain⟨rfl,rfl⟩:=GA e;unfold LP;rw[A0d,List.map_reverse];exact#[hb,rfl,rfl]
 . refine#[M,zT M,λn u e=>?_];obtain⟨rfl,rfl⟩:=GA e;exact#[i,hi,rfl,rfl,rfl]
end
def kN:List Str:=["world","row"]
section
local macro_rules | `(tactic| walk_at "x")=>`(tactic| first | ((with_reducible show PS _ (.Try ..) _);exact @A4f _ _ _ _ _ _ _ _ _ _ _ _ rfl rfl rfl rfl fe.at (λpn R=>(by walk_at "q")) (λa=>(by walk_at "q")) (by decide)))
theorem kP (F:Fun K "behind" "behind" S3 f N) (y:XM K S S) (fe:HasR P w K mg base "NoRow" "number" S n) (ix:HasX P w K mg base "gone" 9 ["world","row"] (GX S OV)):FnOk P w K mg base CX0 10 f N ["world","row"] (spD K 2 IF):=by
 refine hD kN F #[rfl,rfl,rfl,by decide +kernel,rfl,by decide +kernel,by decide +kernel] ?_;walk_at "hd";rintro p M m ⟨w,r,rfl,T⟩;unfold EW;try walk_at "unf"
 refine A2H λR=>?_;try walk_at "unf"
 refine VO (FH ?_);left;refine WA T (λhb=>?_) λi hi=>#[#[S,rfl,y],?_]
 . refine#[M,zT M,λt u e=>?_];obtain⟨rfl,rfl⟩:=GA e;rw[gB T hb];exact#[rfl,rfl]
 . left;refine#[M,zT M,λt u e=>?_];obtain⟨rfl,rfl⟩:=GA e;rw[wX T hi];exact#[rfl,rfl]
end
def sW:List Str:=["world","row","other"]
theorem sY (F:Fun K "parts" "parts" WK f N) (B:Has P w K mg base "behind" 10 ["world","row"] IF):FnOk P w K mg base CX0 11 f N ["world","row","other"] (spD K 3 KJ):=by refine hD sW F #[rfl,rfl,rfl,by decide +kernel,rfl,by decide +kernel,by decide +kernel] ?_;walk_at "hd";rintro m M r ⟨w,v,n,rfl,h1,t⟩;unfold prX B1;left;refine L0 h1 ?_;left;refine L0 t ?_;refine AZ (O5 h1) (O5 t) ?_;rw[if_pos rfl];refine#[M,zT M,λi p b e=>?_];obtain⟨rfl,rfl,rfl⟩:=xD e;rw[A2e h1 t];exact#[rfl,rfl]
def kQ:List Str:=["names"]
section
local macro_rules | `(tactic| walk_at "y")=>`(tactic| first | ((with_reducible show PE _ (.Call (.Name (a0Q "sorted") _) ..) _);exact @GO _ _ _ _ _ _ _ _ _ (@wE _ K rfl) (by rfl) bi PyProof.Rows.boot_sorted (by walk_at "a") (by decide) (by decide) (by rfl) (by rfl)))
theorem kR (F:Fun K "rising" "rising" S4 f N) (bi:mg "sorted"=am) (ak:mg "tuple"=am):FnOk P w K mg base CX0 1 f N ["names"] (spD K 1 EA):=by refine hD kQ F #[rfl,rfl,rfl,by decide +kernel,rfl,by decide +kernel,by decide +kernel] ?_;walk_at "hd";rintro n M r ⟨l,rfl,y⟩;rw[show AQ l = .tuple (l.map .str) from rfl];left;refine jF y λh hp hs=>?_;left;refine K3 ?_;refine#[M,zT M,λt e=>?_];simp only[List.cons.injEq,DS.d.injEq,and_true] at e;rw[<-FK e,fG hp hs];exact#[rfl,rfl]
end
def HL:List Str:=["told"]
def FS:List Str:=["name","place","froms","plus"]
def FT:List (Option Nat):=[am,am,am,am]
section
local macro_rules | `(tactic| walk_at "cs")=>`(tactic| first | exact @JB _ _ FS FT (AB CZ) HL (by decide +kernel) (by decide +kernel) rfl rfl)
local macro_rules | `(tactic| walk_at "x")=>`(tactic| first | ((with_reducible show PG _ (.Tuple ..) _);exact @i6 _ K _ _ _ _ (4) rfl rfl (by walk_at "j") (by rfl) (by rfl)))
theorem O9 (F:Fun K "by_left_names" "by_left_names" CZ f N):FnOk P w K mg base CX0 1 f N ["told"] (spD K 1 IB):=by
 refine hD HL F #[rfl,rfl,rfl,by decide +kernel,rfl,by decide +kernel,by decide +kernel] ?_;walk_at "hi";have Z:FS.Nodup:=by decide +kernel
 walk_at "nm";clear Z nd;rintro b M m ⟨E,rfl,n,k⟩;left;refine QU (bC (ET (ET (ET (ET bB))))) (by simp[FT]) ?_;refine BP ?_;left;refine AL (ds:=[AQ E.st,AQ E.fr,.tuple (E.lf.map lfE)]) (d:=.tuple (E.lf.map lfE)) rfl ?_;refine#[_,rfl,?_];refine#[by rw[zX];exact zQ k (by decide),λ_=>ap,nmE,vlE,?_,?_,λp hp=>?_];. rw[SU,zD];exact n
 . intro d hd r;obtain⟨t,u,rfl⟩:=zL.mp hd;unfold lfE;left;refine#[rfl,?_];walk_at "dl";refine#[rfl,rfl,λ_=>?_];left;refine#[rfl,rfl,?_];left;exact#[rfl,rfl]
 rw[SU,zD];refine#[_,zT _,λi e=>?_];simp only[List.cons.injEq,DS.d.injEq,and_true] at e;rw[<-EV e];exact#[p,hp,rfl,rfl]
end
def SD:List Str:=["one","between","other","missing","in_the_way"]
def SE:List Str:=["name","between","one"]
def SG:List (Option Nat):=[am,al 1,al 0]
def SH:List Str:=["name","between"]
def SJ:List (Option Nat):=[am,al 1]
section
local macro_rules | `(tactic| walk_at "cs")=>`(tactic| first | exact @JB _ _ SE SG (AB NE) SD (by decide +kernel) (by decide +kernel) rfl rfl | exact @JB _ _ SH SJ (AB NE) SD (by decide +kernel) (by decide +kernel) rfl rfl)
local macro_rules | `(tactic| walk_at "x")=>`(tactic| first | ((with_reducible show PT _ (.Compare _ [.In] ..) _);exact @CV _ _ _ _ _ _ _ _ (@kIn _ K rfl) (by walk_at "e") (by walk_at "e") (by with_unfolding_all rfl)))
local macro_rules | `(tactic| walk_at "y")=>`(tactic| first | ((with_reducible show PT _ (.Compare _ [.NotIn] ..) _);exact @UR _ _ _ _ _ _ (@TM _ _ _ _ _ ij (@pv _ 0 _ _ (by rfl) (by walk_at "lc") (by decide) (by decide)) (@pv _ 1 _ _ (by rfl) (by walk_at "lc") (by decide) (by decide))) (by with_unfolding_all rfl)) | ((with_reducible show PT _ (.Compare _ [.In] ..) _);exact @UR _ _ _ _ _ _ (@V1 _ _ _ _ _ ij (@pv _ 0 _ _ (by rfl) (by walk_at "lc") (by decide) (by decide)) (@pv _ 1 _ _ (by rfl) (by walk_at "lc") (by decide) (by decide))) (by with_unfolding_all rfl)))
theorem sZ (F:Fun K "clash" "clash" NE f N) (y:mg "len"=am):FnOk P w K mg base CX0 1 f N ["one","between","other"] (spD K 3 HA):=by
 refine hD SD F #[rfl,rfl,rfl,by decide +kernel,rfl,by decide +kernel,by decide +kernel] ?_;walk_at "hi";have Z:SE.Nodup:=by decide +kernel
 have n1:SH.Nodup:=by decide +kernel
 walk_at "nm";clear Z n1 nd;rintro G M O ⟨J,one,other,p,rfl,m,h1,r,hn⟩;have T:=DZ hn r.st;have v:=DZ hn r.fr;have I:=DZ hn h1.st;have S:=DZ hn h1.fr;have sz:∀{l:List Str},l.length<=26->(l.map a0K).length < sizeLine:=λ{l} h=>by rw[zX];exact zQ h (by decide)
 have c:∀z,(BK (one.lf.map λt=>(t.1,DH t.2)) z).isSome=CK one.lf z:=λz=>by rw[HD,a4K];rfl
 rw[show clX one other p=[.d one.d,.loc p,.d other.d] from rfl];left;refine BG (BF 0) (by simp[SG]) ?_;refine BP ?_;left;refine AL (ds:=[AQ other.st,AQ other.fr,.tuple (other.lf.map lfE)]) (d:=AQ other.st) rfl ?_;refine#[_,rfl,?_];refine#[sz T,msT (one.st++one.fr) one.lf,id,?_,?_]
 . rintro d hd A acc j hA rfl;obtain⟨z,u,rfl⟩:=zL.mp hd;have i:p≠A:=by rintro rfl;rw[m] at hA;cases hA
   walk_at "dl";refine#[rfl,?_];left;refine AL (ds:=[AQ one.st,AQ one.fr,.tuple (one.lf.map lfE)]) (d:=AQ one.st) rfl ?_;left;refine AL (ds:=[AQ one.st,AQ one.fr,.tuple (one.lf.map lfE)]) (d:=AQ one.fr) rfl ?_;refine B9 (by rw[zX,zX];exact zN (show _<=52 by lia) (by decide)) ?_;rw[<-xI];refine eJ ?_;cases hk:decide (z∈one.st++one.fr) with
   | false=>
     refine#[_,rfl,?_];left;refine#[rfl,?_,λq=>?_];. show aw=(decide (z∈one.st++one.fr)&&!CK one.lf z);rw[hk];rfl
     . have g:(decide (z∈one.st++one.fr)&&!CK one.lf z)=true:=q;rw[hk] at g;cases g
   | true=>
     refine#[_,rfl,?_];left;refine YY ?_;left;refine#[p,_,z,rfl,rfl,by rw[yH i];exact m,?_];rw[c];refine#[_,rfl,rfl,?_,λ_=>?_];. show _=(decide (z∈one.st++one.fr)&&!CK one.lf z);rw[hk];rfl
     left;exact#[rfl,rfl]
 left;refine BG (BF 0) (by simp[SJ]) ?_;refine BP ?_;left;refine AL (ds:=[AQ other.st,AQ other.fr,.tuple (other.lf.map lfE)]) (d:=AQ other.fr) rfl ?_;refine#[_,rfl,?_];refine#[sz v,wyT one.lf,id,?_,?_]
 . rintro d hd A acc j hA rfl;obtain⟨z,u,rfl⟩:=zL.mp hd;have i:p≠A:=by rintro rfl;rw[m] at hA;cases hA
   walk_at "dl";refine#[rfl,?_];left;refine VE ?_;left;refine#[p,_,z,rfl,rfl,by rw[yH i];exact m,?_];rw[c];refine#[_,rfl,rfl,rfl,λ_=>?_];left;exact#[rfl,rfl]
 left;refine MJ ?_;rw[A2N];left;have fin:∀{b:Bool},b=B3 one other->∃k:Own,k.Sub M/\HA.post [.d one.d,.loc p,.d other.d] M (.d (.bool b)) k:=λ{b} e=>#[M,zT M,λx B D e'=>by simp only[clX,List.cons.injEq,DS.d.injEq,DS.loc.injEq,and_true] at e';rw[<-EV e'.1,<-EV e'.2.2,e];exact#[rfl,rfl]]
 rw[fH];cases h1:other.st.any (λn=>decide (n∈one.st++one.fr)&&!CK one.lf n) with
 | true=> rw[if_pos rfl];exact fin (by unfold B3;rw[h1];rfl)
 | false=> rw[if_neg nft];left;refine MJ ?_;rw[A2O];left;rw[fH];exact fin (by unfold B3;rw[h1];rfl)
end
def OB:List Str:=["between","place","froms","plus","firsts","name"]
section
local macro_rules | `(tactic| walk_at "x")=>`(tactic| first | ((with_reducible show PS _ (.AugAssign ..) _);exact @UU _ _ (4) _ _ _ _ _ _ nd rfl (by walk_at "lc") (by walk_at "e") (@c6 _ K rfl) (by walk_at "or")) | ((with_reducible show PS _ (.AugAssign ..) _);exact @UU _ _ (3) _ _ _ _ _ _ nd rfl (by walk_at "lc") (by walk_at "e") (@c6 _ K rfl) (by walk_at "or")))
local macro_rules | `(tactic| walk_at "y")=>`(tactic| first | ((with_reducible show PE _ (.Subscript ..) _);exact @DJ _ _ _ _ _ _ ij (@pv _ 0 _ _ (by rfl) (by walk_at "lc") (by decide) (by decide)) (@pv _ 1 _ _ (by rfl) (by walk_at "lc") (by decide) (by decide)) (λ_ _=>rfl)) | ((with_reducible show PE _ (.Subscript ..) _);exact @DJ _ _ _ _ _ _ ij (@pv _ 0 _ _ (by rfl) (by walk_at "lc") (by decide) (by decide)) (@pv _ 5 _ _ (by rfl) (by walk_at "lc") (by decide) (by decide)) (λ_ _=>rfl)))
theorem OC (F:Fun K "told_at_first" "told_at_first" ES f N) (Q:mg "isinstance"=am) (jq:mg "str"=am) (X:Has P w K mg base "rising" 1 ["names"] EA):FnOk P w K mg base CX0 2 f N ["between","place","froms","plus"] (spD K 4 JH):=by
 refine hD OB F #[rfl,rfl,rfl,by decide +kernel,rfl,by decide +kernel,by decide +kernel] ?_;walk_at "hd";rintro xs M hl ⟨i,e,rfl,I,hp,u⟩;rw[show taX i e=[.d (Z0 i),.d (plE e.1),.d (AQ e.2.1),.d (.int e.2.2)] from rfl];have S:∀n,CK i n=ap->BK (i.map λt:Str×Ent=>(t.1,DH t.2)) n=al (DH (AI i n)):=λn h=>by rw[HD];unfold CK at h;obtain⟨v,S⟩:=xX.mp h;unfold AI;rw[S];rfl
 have fin:∀{y:DS},y = .d (DH (BA i e))->∃m:Own,m.Sub M/\JH.post [.d (Z0 i),.d (plE e.1),.d (AQ e.2.1),.d (.int e.2.2)] M y m:=λ{y} O=>#[M,zT M,λZ e' G=>by
   simp only[taX,List.cons.injEq,DS.d.injEq,DS.loc.injEq,PyData.int.injEq,and_true] at G;obtain⟨D,x,z,T⟩:=G;have D:=qU D;subst D;have:e=e':=by obtain⟨a,b,c⟩:=e;obtain⟨J,U,Y⟩:=e';simp only at x z T;rw[VY x,FK z,T]
   subst this;exact#[O,rfl]]
 have B:∀n,e.1 = .inr n->CK i n=true:=hp;try walk_at "unf"
 refine HQ (λr M1=>M1=M/\∃L p:Option DS,r=[al (.d (Z0 i)),al (.d (plE (BA i e).1)),al (.d (AQ e.2.1)),al (.d (.int e.2.2)),L,p]) ?_ ?_
 . cases he:e.1 with
   | inl q=> rw[show plE (.inl q) = .int q from rfl];left;refine#[rfl,am,am,?_];rw[show(BA i e).1 = .inl q by unfold BA;rw[he]];rfl
   | inr n=> have hn:=S n (B n he);rw[show plE (.inr n) = .str n from rfl];left;refine MN ?_;left;refine#[_,n,_,rfl,rfl,hn,?_];left;refine AL (ds:=[plE (AI i n).1,AQ (AI i n).2.1,.int (AI i n).2.2]) (d:=plE (AI i n).1) rfl ?_;refine#[rfl,am,am,?_];rw[show(BA i e).1=(AI i n).1 by unfold BA;rw[he]];rfl
 . rintro r M1 ⟨rfl,L,p,rfl⟩;rw[show AQ e.2.1 = .tuple (e.2.1.map .str) from rfl];left;try walk_at "unf"
   refine F7 ?_;refine BP ?_;left;refine#[λk r m=>m=M1/\∃p:Option DS,r=[al (.d (Z0 i)),al (.d (plE (BA i e).1)),al (.d (.tuple (e.2.1.map .str))),al (.d (.int (e.2.2+((e.2.1.take k).map λn=>(AI i n).2.2).sum))),al (.d (.tuple (((e.2.1.take k).flatMap λn=>(AI i n).2.1).map .str))),p],#[rfl,_,by rw[List.take_zero,show((([]:List Str).map λn=>(AI i n).2.2).sum)=0 from rfl,Int.add_zero];rfl],?_,?_]
   . rintro k d r m hd ⟨rfl,p,rfl⟩;have j:k < e.2.1.length:=by have:=(yT.mp hd).1;rw[zX] at this;exact this
     obtain rfl:a0K (e.2.1[k])=d:=by rw[zF,zV j] at hd;simpa using hd
     have hk:=S _ (I _ (a1J j));have htk:e.2.1.take (k+1)=e.2.1.take k++[e.2.1[k]]:=by rw[a1V,zV j];rfl
     have g:(((e.2.1.take (k+1)).flatMap λn=>(AI i n).2.1)).length < 64:=zQ (by
       have:=(b1V (k+1) e.2.1).symm
       conv=>rhs;rw[this,b0K,yY]
       exact c0X _ _) u;rw[htk,b0K,yY] at g;left;try walk_at "unf"
     refine VP #[_,rfl,?_];left;refine MN ?_;left;refine#[_,_,_,rfl,rfl,hk,?_];left;generalize e.2.1[k]=n at hk htk g;refine AL (ds:=[plE (AI i n).1,AQ (AI i n).2.1,.int (AI i n).2.2]) (d:=AQ (AI i n).2.1) rfl ?_;refine w9 (by rw[zX,zX];simp only[a9K,List.flatMap_nil,a4W] at g;exact zN (xR g) (by decide)) ?_;left;try walk_at "unf"
     refine VP #[_,rfl,?_];left;refine MN ?_;left;refine#[_,n,_,rfl,rfl,hk,?_];left;refine AL (ds:=[plE (AI i n).1,AQ (AI i n).2.1,.int (AI i n).2.2]) (d:=.int (AI i n).2.2) rfl ?_;refine fD ?_;refine#[rfl,al (.d (.str n)),?_];rw[htk,b0K,xI,xI,List.sum_append,<-Int.add_assoc];simp only[a9K,List.flatMap_nil,a4W,zI,b8X,b0Z,List.sum_nil,Int.add_zero];rfl
   . rintro r m ⟨rfl,p,rfl⟩;rw[zX,a1Q];left;rw[show b9V ((e.2.1.flatMap λn=>(AI i n).2.1).map .str)=AQ (e.2.1.flatMap λn=>(AI i n).2.1) from rfl];refine ED u ?_;left;exact fin rfl
end
def SK:List Str:=["deed","word","name","other","parts","both"]
section
local macro_rules | `(tactic| walk_at "x")=>`(tactic| first | ((with_reducible show PS _ (.Assign [.Tuple ..] (.Tuple ..) _) _);exact @UT _ _ (1) (2) _ _ _ _ _ _ _ _ _ _ _ rfl nd rfl rfl (by decide) rfl rfl (by walk_at "a") rfl (by rfl)) | ((with_reducible show PE _ (.Dict ..) _);exact @tX _ _ _ _ _ (@X9 _ _ _ _ _ _ _ _ _ (by walk_at "e") (by walk_at "e") (@X9 _ _ _ _ _ _ _ _ _ (by walk_at "e") (by walk_at "e") (@tW _ _))) rfl rfl (by simp) (by decide)))
theorem SL (F:Fun K "deed_effect" "deed_effect" GK f N) (m:Has P w K mg base "rising" 1 ["names"] EA) (u:Has P w K mg base "rising_by_names" 1 ["things"] BM):FnOk P w K mg base CX0 2 f N ["deed"] (spD K 1 HB):=by
 refine hD SK F #[rfl,rfl,rfl,by decide +kernel,rfl,by decide +kernel,by decide +kernel] ?_;walk_at "hd";rintro c M p ⟨D,rfl,hr⟩;have fin:∀{E:Eff},AD D=E->∃t:Own,t.Sub M/\HB.post [.d D.d] M (.d E.d) t:=λ{E} e=>#[M,zT M,λr e'=>by simp only[List.cons.injEq,DS.d.injEq,and_true] at e';rw[<-CT e',e];exact#[rfl,rfl]]
 cases D with
 | put x n k=> rw[Deed.d];left;refine#[_,_,rfl,?_];left;exact fin rfl
 | take x=> rw[Deed.d];left;refine#[_,_,rfl,?_];left;exact fin rfl
 | move x n=> rw[Deed.d];left;refine#[_,_,rfl,?_];left;exact fin rfl
 | count x k=> rw[Deed.d];left;refine#[_,_,rfl,?_];left;exact fin rfl
 | name x y=> rw[Deed.d];left;refine#[_,_,rfl,?_];left;exact fin rfl
 | split x y n k=> rw[Deed.d];left;refine#[_,_,rfl,?_];left;refine jE λq hq=>?_;refine XZ ?_;left;refine XZ ?_;left;refine vB ?_;refine#[zU,by show 2<=15;decide,by simpa using (show x≠y from hr.2.1),?_];rw[yI];left;refine KZ (es:=[(x,.inr x,[x],-k),(y,.inl n,[],k)]) zU (by simpa using (show x≠y from hr.2.1)) (by show 2 < 64;decide) ?_;left;obtain⟨t,h1,i⟩:=fin (E:=AD (.split x y n k)) rfl;exact#[t,λb o e=>((zT M).put hq) b o (h1 b o e),i]
 | join x y=> rw[Deed.d];left;refine#[_,_,rfl,?_];left;rw[show b9V [.str x,.str y]=AQ [x,y] from rfl];refine ED (by show 2 < 64;decide) ?_;left;exact fin rfl
end
def EB:List Str:=["one","other","between","known","stand","free","name","behind","place","froms","plus"]
def FU:List Str:=["name","known"]
def D5:List (Option Nat):=[am,al 3]
def FV:List Str:=["name","between","other"]
def FW:List (Option Nat):=[am,al 2,al 1]
section
local macro_rules | `(tactic| walk_at "cs")=>`(tactic| first | exact @JB _ _ FU D5 (AB C8) EB (by decide +kernel) (by decide +kernel) rfl rfl | exact @JB _ _ FV FW (AB C8) EB (by decide +kernel) (by decide +kernel) rfl rfl)
local macro_rules | `(tactic| walk_at "x")=>`(tactic| first | ((with_reducible show PT _ (.Compare _ [.NotIn] ..) _);exact @CV _ _ _ _ _ _ _ _ (@A1q _ K rfl) (by walk_at "e") (by walk_at "e") (by with_unfolding_all rfl)) | ((with_reducible show PS _ (.Assign [.Subscript ..] ..) _);exact @MG _ _ _ _ _ _ _ _ _ ij (by walk_at "e") (by walk_at "e") (by walk_at "e") (by rfl)) | ((with_reducible show PG _ (.Tuple ..) _);exact @i6 _ K _ _ _ _ (4) rfl rfl (by walk_at "j") (by rfl) (by rfl)))
local macro_rules | `(tactic| walk_at "y")=>`(tactic| first | ((with_reducible show PI _ _ (.Name ..) _);exact @w6 _ _ _ _ (@pv _ 2 _ _ (by rfl) (by walk_at "lc") (by decide) (by decide))) | ((with_reducible show PE _ (.Subscript ..) _);exact @DJ _ _ _ _ _ _ ij (@pv _ 1 _ _ (by rfl) (by walk_at "lc") (by decide) (by decide)) (@pv _ 0 _ _ (by rfl) (by walk_at "lc") (by decide) (by decide)) (λ_ _=>rfl)))
theorem OD (F:Fun K "effect_behind" "effect_behind" C8 f D) (ak:mg "tuple"=am) (cn:Has P w K mg base "by_left_names" 1 ["told"] IB) (pb:Has P w K mg base "clash" 1 ["one","between","other"] HA) (b_:Has P w K mg base "rising" 1 ["names"] EA) (ae:Has P w K mg base "rising_by_names" 1 ["things"] BM) (cq:Has P w K mg base "told_at_first" 2 ["between","place","froms","plus"] JH):FnOk P w K mg base CX0 3 f D ["one","other"] (spD K 2 IC):=by
 refine hD EB F #[rfl,rfl,rfl,by decide +kernel,rfl,by decide +kernel,by decide +kernel] ?_;walk_at "hi";have n0:FU.Nodup:=by decide +kernel
 have n1:FV.Nodup:=by decide +kernel
 walk_at "nm";clear n0 n1 nd;rintro xs M hl ⟨ys,one,other,rfl,h1,r,hn⟩;have B:=DZ hn h1.st;have G:=DZ hn h1.fr;have J:=DZ hn r.st;have L:=DZ hn r.fr;have l5:=qI hn h1;left;refine Z1 h1.keys (by lia) λp hp=>?_;left;refine cH zU h1 r hn ?_;cases hc:B3 one other with
 | true=> left;refine#[M,(zT M).put hp,λQ uk e=>?_];simp only[List.cons.injEq,DS.d.injEq,and_true] at e;rw[<-EV e.1,<-EV e.2,show B6 one other=am by unfold B6;rw[hc];rfl];exact#[rfl,rfl]
 | false=>
   have sz:∀{l:List Str},l.length<=26->(l.map a0K).length < sizeLine:=λ{l} h=>by rw[zX];exact zQ h (by decide)
   have add:∀{a b:List Str},a.length<=26->b.length<=26->(a.map a0K).length+(b.map a0K).length<=sizeLine:=λ{a b} h h'=>by rw[zX,zX];exact zN (show _<=52 by lia) (by decide)
   have Z:(other.st.filter λn=>!decide (n∈one.st++one.fr)).length<=26:=zN (yJ _ _) J;have Ph:(other.fr.filter λn=>!decide (n∈one.st++one.fr)).length<=26:=zN (yJ _ _) L;left;refine AL (ds:=[AQ one.st,AQ one.fr,.tuple (one.lf.map lfE)]) (d:=AQ one.st) rfl ?_;left;refine AL (ds:=[AQ one.st,AQ one.fr,.tuple (one.lf.map lfE)]) (d:=AQ one.fr) rfl ?_;refine B9 (add B G) ?_;rw[<-xI];left;refine AL (ds:=[AQ one.st,AQ one.fr,.tuple (one.lf.map lfE)]) (d:=AQ one.st) rfl ?_;left;refine CF (BF 0) (by simp[D5]) ?_;refine BP ?_;left;refine AL (ds:=[AQ other.st,AQ other.fr,.tuple (other.lf.map lfE)]) (d:=AQ other.st) rfl ?_;refine#[_,rfl,?_];refine#[sz J,frT (one.st++one.fr),id,?_,?_];. intro d hd S;obtain⟨z,hz,rfl⟩:=zL.mp hd;walk_at "dl";refine#[rfl,?_];left;refine MM ?_;refine#[_,rfl,rfl,rfl,λ_=>?_];left;exact#[rfl,rfl]
   rw[RH];left;refine K3 ?_;refine B9 (add B Z) ?_;rw[<-xI,show(one.st++other.st.filter λz=>!decide (z∈one.st++one.fr))=AS one other from rfl];left;refine AL (ds:=[AQ one.st,AQ one.fr,.tuple (one.lf.map lfE)]) (d:=AQ one.fr) rfl ?_;left;refine CF (BF 0) (by simp[D5]) ?_;refine BP ?_;left;refine AL (ds:=[AQ other.st,AQ other.fr,.tuple (other.lf.map lfE)]) (d:=AQ other.fr) rfl ?_;refine#[_,rfl,?_];refine#[sz L,frT (one.st++one.fr),id,?_,?_];. intro d hd S;obtain⟨z,hz,rfl⟩:=zL.mp hd;walk_at "dl";refine#[rfl,?_];left;refine MM ?_;refine#[_,rfl,rfl,rfl,λ_=>?_];left;exact#[rfl,rfl]
   rw[RH];left;refine K3 ?_;refine B9 (add G Ph) ?_;rw[<-xI,show(one.fr++other.fr.filter λz=>!decide (z∈one.st++one.fr))=CJ one other from rfl];left;try walk_at "unf"
   refine F7 ?_;refine BP ?_;left;refine#[λk m M1=>M1=M.put p (SV (one.lf++(O3 one ((AS one other).take k)).map N1))/\∃j x u v Y:Option DS,m=[al (.d one.d),al (.d other.d),al (.loc p),al (.d (.tuple ((one.st++one.fr).map .str))),al (.d (.tuple ((AS one other).map .str))),al (.d (.tuple ((CJ one other).map .str))),j,x,u,v,Y],#[by rw[List.take_zero];show _=M.put p (SV (one.lf++[]));rw[a4W],_,_,_,_,_,rfl],?_,?_]
   . rintro k d m M1 hd ⟨rfl,j,x,u,v,Y,rfl⟩;have c:k < (AS one other).length:=by have:=(yT.mp hd).1;rw[zX] at this;exact this
     have hk:(AS one other)[k]?=al (AS one other)[k]:=zV c;obtain rfl:a0K ((AS one other)[k])=d:=by rw[zF,hk] at hd;simpa using hd
     generalize (AS one other)[k]=n at hk;left;refine MM ?_;cases g:decide (n∈one.st++one.fr) with
     | true=> left;refine#[?_,_,_,_,_,_,rfl];rw[Z5 hk,g,if_pos rfl,a4W]
     | false=>
       have s_:=of_decide_eq_false g;left;refine BW ?_;left;refine#[p,KM (one.lf++(O3 one ((AS one other).take k)).map N1),n,DH (.inr n,[n],0),rfl,rfl,rfl,zU,?_,?_];. rw[zX,yY,zX];have Ek:(O3 one ((AS one other).take k)).length<=(AS one other).length:=zN (yJ _ _) (List.length_take_le' _ _);have zi:=DZ hn (N4 h1 r);exact zQ (show _<=78 by lia) (by decide)
       rw[yI,fJ,jI (qO h1 r hk s_)];refine#[?_,_,_,_,_,_,rfl];rw[Z5 hk,g,if_neg nft,xI,<-List.append_assoc];rfl
   . rintro m M1 ⟨rfl,j,x,u,v,Y,rfl⟩;rw[zX,a1Q,jJ,show one.lf++(other.st.filter λn=>!decide (n∈one.st++one.fr)).map N1=BI one other from rfl];have bk:=N3 h1 r;have bl:(BI one other).length<=78:=by unfold BI;rw[yY,zX];lia
     have ll:=qI hn r;try walk_at "unf"
     refine LJ (i:=2) (a:=p) rfl zU ?_;rw[yG hp];left;refine QU (BF 0) (by simp[FW]) ?_;refine w8 ?_;left;refine#[by rw[zX,zX];exact zQ bl (by decide),frT other.st,RL,A3u (BI one other),jK bk _,?_,λq hq=>?_];. intro d hd S;obtain⟨s0,ya,rfl⟩:=zL.mp hd;obtain⟨t,X,rfl⟩:=zL.mp ya;have I:=PR bk X;walk_at "dl";refine#[rfl,?_];left;refine AL (ds:=[AQ other.st,AQ other.fr,.tuple (other.lf.map lfE)]) (d:=AQ other.st) rfl ?_;refine MM ?_;refine#[_,rfl,rfl,rfl,λ_=>?_];left;refine#[rfl,rfl,?_];refine MN ?_;left;refine#[KM (BI one other),t.1,DH t.2,rfl,rfl,by rw[HD,I];rfl,?_];refine#[?_,rfl];show _=DS.d (DH (AI (BI one other) t.1));unfold AI;rw[I];rfl
     rw[qP bk];left;try walk_at "unf"
     refine F7 ?_;refine BP ?_;left;refine AL (ds:=[AQ other.st,AQ other.fr,.tuple (other.lf.map lfE)]) (d:=.tuple (other.lf.map lfE)) rfl ?_;refine#[_,rfl,?_];refine#[λk m M1=>M1=M.put q (SV (N5 one other k))/\∃y N O T:Option DS,m=[al (.d one.d),al (.d other.d),al (.d (Z0 (BI one other))),al (.d (.tuple ((one.st++one.fr).map .str))),al (.d (.tuple ((AS one other).map .str))),al (.d (.tuple ((CJ one other).map .str))),y,al (.loc q),N,O,T],#[rfl,_,_,_,_,rfl],?_,?_]
     . rintro k d m M1 hd ⟨rfl,y,N,O,T,rfl⟩;have c:k < other.lf.length:=by have:=(yT.mp hd).1;rw[zX] at this;exact this
       have hk:other.lf[k]?=al other.lf[k]:=zV c;obtain rfl:lfE (other.lf[k])=d:=by rw[zF,hk] at hd;simpa using hd
       have U:=a1J c;generalize other.lf[k]=t at hk U;rw[show lfE t = .tuple [.str t.1,plE t.2.1,AQ t.2.2.1,.int t.2.2.2] from rfl];left;refine BW ?_;left;refine ZC (e:=t.2) (λn cy=>JI h1 r hc ((r.from_ t U).2 n cy)) (λn vo=>JI h1 r hc (r.place t U n vo)) (qM hn h1 r hc U) ?_;left;refine#[q,KM (N5 one other k),t.1,_,rfl,rfl,rfl,zU,?_,?_];. rw[zX];have:=jL one other k;exact zQ (show _<=130 by lia) (by decide)
       rw[yI,fJ,<-cD hk];exact#[rfl,_,_,_,_,rfl]
     . rintro m M1 ⟨rfl,y,N,O,T,rfl⟩;rw[zX,jM];have s1:=DZ hn (N4 h1 r);have s2:=DZ hn (fL h1 r);left;refine ED (l:=AS one other) (by lia) ?_;left;refine ED (l:=CJ one other) (by lia) ?_;left;refine KZ zU (HF h1 r) (qQ hn h1 r hc) ?_;left;refine#[M,(zT M).put hq,λQ uk e=>?_];simp only[List.cons.injEq,DS.d.injEq,and_true] at e;rw[<-EV e.1,<-EV e.2,show B6 one other=al #[BO (AS one other),BO (CJ one other),CU (DB one other)] by unfold B6;rw[hc];rfl];exact#[rfl,rfl]
end
def kS:List Str:=["row","whole","deed"]
theorem kU (F:Fun K "effect" "effect" S5 f p) (L:Has P w K mg base "deed_effect" 2 ["deed"] HB) (Q:Has P w K mg base "effect_behind" 3 ["one","other"] IC):FnOk P w K mg base CX0 4 f p ["row"] (spD K 1 FJ):=by
 refine hD kS F #[rfl,rfl,rfl,by decide +kernel,rfl,by decide +kernel,by decide +kernel] ?_;walk_at "hd";rintro j M g ⟨c,t,rfl,hn,hD,q⟩;left;try walk_at "unf"
 refine F7 ?_;refine BP ?_;left;refine#[λk n M1=>M1=M/\∃(E:Eff) (m:Option DS),AX (t.take k)=al E/\OkE c E/\n=[al (.d (.tuple (t.map Deed.d))),al (.d E.d),m],#[rfl,#[[],[],[]],_,rfl,OkE.nil c,rfl],?_,?_]
 . rintro k d n M1 hd ⟨rfl,E,m,hE,hok,rfl⟩;have r:k < t.length:=by have:=(yT.mp hd).1;rw[zX] at this;exact this
   obtain rfl:(t[k]).d=d:=by rw[zF,zV r] at hd;simpa using hd
   have i:=hD _ (a1J r);have N:AX (t.take (k+1))=B6 E (AD t[k]):=by rw[a1V,zV r];exact N2 hE
   have b:B6 E (AD t[k])=am->AX t=none:=λh=>Z2 (k:=k+1) (by rw[N];exact h);generalize t[k]=D at i N b;left;refine cC i.1 ?_;left;refine Z3 hok (OkE.deed hn i) hn ?_;left;refine PJ ?_;cases hb:B6 E (AD D) with
   | none=> left;refine#[M1,zT _,λu e=>?_];rw[<-EK e,b hb];exact#[rfl,rfl]
   | some F=> left;exact#[rfl,F,_,by rw[N,hb],OkE.behind hn hok (OkE.deed hn i) hb,rfl]
 . rintro n M1 ⟨rfl,E,m,hE,hok,rfl⟩;rw[zX,a1Q] at hE;left;refine#[M1,zT _,λu e=>?_];rw[<-EK e,hE];exact#[rfl,rfl]
def P0:List Str:=["names","marked"]
def L7:List Str:=["name","marked"]
def L8:List (Option Nat):=[am,al 1]
section
local macro_rules | `(tactic| walk_at "cs")=>`(tactic| first | exact @JB _ _ L7 L8 (AB IL) P0 (by decide +kernel) (by decide +kernel) rfl rfl)
theorem aM (F:Fun K "world_of" "world_of" IL f N) (u:Has P w K mg base "rising_by_names" 1 ["things"] BM):FnOk P w K mg base CX0 2 f N ["names","marked"] (spD K 2 KI):=by
 refine hD P0 F #[rfl,rfl,rfl,by decide +kernel,rfl,by decide +kernel,by decide +kernel] ?_;walk_at "hi";have Z:L7.Nodup:=by decide +kernel
 walk_at "nm";clear Z nd;rintro b M r ⟨l,m,rfl,x⟩;have k:=x.few;unfold mkX;left;refine U8 (BF 0) (by simp[L8]) ?_;refine BP ?_;left;refine#[by rw[zX];exact xQ k (by decide),λ_=>ap,RL,mkF m,?_,λp hp=>?_]
 . intro d hd i;obtain⟨s,hs,rfl⟩:=zL.mp hd;left;refine#[rfl,?_];walk_at "dl";refine#[rfl,rfl,λ_=>?_];left;refine#[rfl,rfl,?_];left;refine AZ (BX (x.nm s hs)) (kB x.mark) ?_;rw[if_neg nft,A2g];by_cases h:al s=m;. rw[decide_eq_true h,xK h];left;exact#[rfl,rfl]
   . rw[decide_eq_false h,A2h h];left;exact#[rfl,rfl]
 rw[SU,k9];left;refine GH zU KG (zQ ZM (xQ k (by decide))) ?_;refine#[M,(zT M).put hp,λt n e=>?_];obtain⟨rfl,rfl⟩:=xB e;exact#[rfl,rfl]
end
def CH:List Str:=["one","two","told","stand","worlds"]
def FX:List Str:=["part"]
def D6:List (Option Nat):=[am]
def FY:List Str:=["part","name","stand"]
def D7:List (Option Nat):=[am,am,al 3]
def FZ:List Str:=["name","stand"]
def G0:List (Option Nat):=[am,al 3]
section
local macro_rules | `(tactic| walk_at "cs")=>`(tactic| first | exact @JB _ _ FX D6 (AB BL) CH (by decide +kernel) (by decide +kernel) rfl rfl | exact @JB _ _ FY D7 (AB BL) CH (by decide +kernel) (by decide +kernel) rfl rfl | exact @JB _ _ FZ G0 (AB BL) CH (by decide +kernel) (by decide +kernel) rfl rfl)
local macro_rules | `(tactic| walk_at "x")=>`(tactic| first | ((with_reducible show PS _ (.AugAssign ..) _);exact @UU _ _ (4) _ _ _ _ _ _ nd rfl (by walk_at "lc") (by walk_at "e") (@A2d _ K rfl) (by walk_at "or")))
theorem OE (F:Fun K "worlds_to_try" "worlds_to_try" BL f N) (U:Has P w K mg base "world_of" 2 ["names","marked"] KI):FnOk P w K mg base CX0 3 f N ["one","two"] (spD K 2 PX):=by
 refine hD CH F #[rfl,rfl,rfl,by decide +kernel,rfl,by decide +kernel,by decide +kernel] ?_;walk_at "hi";have Z:FX.Nodup:=by decide +kernel
 have n1:FY.Nodup:=by decide +kernel
 have x:FZ.Nodup:=by decide +kernel
 walk_at "nm";clear Z n1 x nd;rintro D M S ⟨B,a,b,rfl,h⟩;have hn:=h.nm;have hok:=λ(E:Eff) (q:E∈FN a b)=>gH h q;have g:=cV a b;obtain⟨E,r,hr⟩:∃E r,FN a b=E::r:=by
   cases e:FN a b with
   | nil=>exact absurd e h.any
   | cons E r=>exact#[E,r,rfl]
 have hE:=hok E (by rw[hr];exact a0Z);have T:=DZ hn hE.st;unfold tyX;left;refine BG (BF 0) (by simp[D6]) ?_;refine BP ?_;left;refine#[by show 2 < aB;decide,A3z,id,?_,?_];. rintro d hd A acc c hA rfl;left;refine#[rfl,?_];left;refine XY ?_;refine#[_,rfl,rfl,rfl,λ_=>?_];left;exact#[rfl,rfl]
 rw[kC,hr];left;refine AT (d:=E.d) (AG (j:=0) rfl) ?_;left;refine AL (ds:=[AQ E.st,AQ E.fr,.tuple (E.lf.map lfE)]) (d:=AQ E.st) rfl ?_;left;refine SW (BF 0) (by simp[D6]) ?_;refine DN ?_;left;refine#[by rw[zX,<-hr];exact zQ g (by decide),λ_=>ap,stF,?_,λp hp=>?_];. rintro d hd A acc c hA rfl;obtain⟨F,hF,rfl⟩:=zL.mp hd;have t:=hok F (by rw[hr];exact hF);left;refine#[rfl,?_];walk_at "dl";refine#[rfl,rfl,λ_=>?_];left;refine AL (ds:=[AQ F.st,AQ F.fr,.tuple (F.lf.map lfE)]) (d:=AQ F.st) rfl ?_;left;refine IE (m:=am) (cW hn t.st.2 (by have:=DZ hn t.st;lia) (λ_ q=>nomatch q)) ?_;rw[<-gI];exact#[rfl,rfl]
 rw[SU,xS];left;try walk_at "unf"
 refine VP #[_,rfl,?_];refine rH (BF 0) (by simp[D7]) (BF 1) (by simp[D7]) ?_;refine DN ?_;left;have X:=sE (st:=E.st) (L:=E::r) hn (by rw[<-hr];exact g) (λF hF=>hok F (by rw[hr];exact hF));refine#[frF,λ_=>yA E.st,zQ X (by decide),?_,?_]
 . intro d hd c;obtain⟨F,hF,rfl⟩:=zL.mp hd;have t:=hok F (by rw[hr];exact hF);walk_at "dl";refine#[rfl,?_];refine BP ?_;left;refine AL (ds:=[AQ F.st,AQ F.fr,.tuple (F.lf.map lfE)]) (d:=AQ F.fr) rfl ?_;refine#[_,rfl,rfl,rfl,λe he y=>?_];obtain⟨z,k,rfl⟩:=zL.mp he;walk_at "dl";refine#[rfl,?_];left;refine B9 (by rw[zX];exact zN (show _<=27 by simp;lia) (by decide)) ?_;rw[show E.st.map a0K++[.str z]=(E.st++[z]).map .str by rw[xI];rfl];left;refine IE (l:=E.st++[z]) (m:=am) (cW hn (λn q=>?_) (by rw[yY];simp;lia) (λ_ q=>nomatch q)) ?_
   . rcases yW.mp q with q | q;. exact hE.st.2 n q
     . rw[List.mem_singleton.mp q];exact t.fr.2 z k
   exact#[rfl,rfl]
 rw[yE] at X ⊢;have u:(((E::r).map λF=>wM am F.st).map wD).length<=2:=by rw[zX,zX,<-hr];exact g
 refine rY zU (zN (a9J u X) (by decide)) ?_;rw[yI];walk_at "wks";try walk_at "unf"
 refine EZ (i:=4) rfl zU ?_;rw[yG hp];left;refine BG (BF 0) (by simp[G0]) ?_;refine BP ?_;left;refine#[by rw[zX];exact zQ T (by decide),λ_=>ap,A4A E.st,?_,?_];. rintro d hd A acc c hA rfl;obtain⟨z,k,rfl⟩:=zL.mp hd;left;refine#[rfl,?_];walk_at "dl";refine#[rfl,rfl,λ_=>?_];left;refine IE (l:=E.st) (m:=al z) (cW hn hE.st.2 (by lia) (λ_ q=>by cases q;exact hE.st.2 z k)) ?_;exact#[rfl,rfl]
 rw[SU,sC];refine XQ ?_ ?_
 . have v:((E.st.map λn=>wM (al n) E.st).map wD).length<=26:=by rw[zX,zX];exact T
   rw[yY];exact zN (a9J (a9J u X) v) (by decide)
 refine#[M,zT M,λO I e=>?_];obtain⟨rfl,rfl⟩:=xE e;rw[sD hr];unfold GB;rw[xI,xI];exact#[rfl,rfl]
end
def t0:List Str:=["row","other","one","two","worlds","at"]
section
local macro_rules | `(tactic| walk_at "x")=>`(tactic| first | ((with_reducible show PS _ (.Assign [.Tuple ..] (.Tuple ..) _) _);exact @UT _ _ (2) (3) _ _ _ _ _ _ _ _ _ _ _ rfl nd rfl rfl (by decide) rfl rfl (by walk_at "a") rfl (by rfl)) | ((with_reducible show PS _ (.While ..) _);exact @lI _ _ _ _ _ _ PassesOwn.never (by walk_at "t") (by walk_at "q")) | ((with_reducible show PS _ (.AugAssign ..) _);exact @UU _ _ (5) _ _ _ _ _ _ nd rfl (by walk_at "lc") (by walk_at "e") (@c6 _ K rfl) (by walk_at "or")))
theorem t7 (F:Fun K "alike" "alike" WL f N) (Y:Has P w K mg base "effect" 4 ["row"] FJ) (O:Has P w K mg base "parts" 11 ["world","row","other"] KJ) (y:Has P w K mg base "worlds_to_try" 3 ["one","two"] PX):FnOk P w K mg base CX0 12 f N ["row","other"] (spD K 2 HK):=by
 refine hD t0 F #[rfl,rfl,rfl,by decide +kernel,rfl,by decide +kernel,by decide +kernel] ?_;walk_at "hd";rintro I M T ⟨S,v,t,rfl,h⟩;have hn:=h.nm;have z:=h.few;have p:=JJ hn h.one;have g:=JJ hn h.two;have fin:∀{d:PyData},alR v t d->∃r:Own,r.Sub M/\HK.post (alX v t) M (.d d) r:=λ{d} q=>#[M,zT M,λD B e=>by obtain⟨rfl,rfl⟩:=xF e;exact#[#[d,rfl,q],rfl]]
 unfold alX B1;left;refine DC hn h.one (by lia) ?_;left;refine DC hn h.two (by lia) ?_;left;refine#[_,_,rfl,?_];left;refine AZ (HG hn p) (HG hn g) ?_;rw[if_neg nft];by_cases e:AX v=AX t;. rw[<-e,gF hn p];left;exact fin (.inl #[e,rfl])
 . rw[gG e];obtain⟨hq,J,Z,hJ,hp⟩:=O6 h e;left;refine cU hq ?_;left;try walk_at "unf"
   refine pU (λm n M1=>∃k:Nat,M1=M/\k<=J/\m=J - k/\n=[al (.d (.tuple (v.map Deed.d))),al (.d (.tuple (t.map Deed.d))),al (.d (efO (AX v))),al (.d (efO (AX t))),al (.d (.list ((KN (AX v) (AX t)).map wD))),al (.d (.int (k:Nat)))]) #[_,0,rfl,xT _,rfl,rfl] ?_;rintro m n M1 ⟨k,rfl,hk,rfl,rfl⟩;have b:=zQ hk (yT.mp hJ).1;obtain⟨w,i⟩:∃w,(KN (AX v) (AX t))[k]?=al w:=#[_,zV b]
   have X:=yN i;obtain⟨c,u⟩:=yK h hq X;have j:((KN (AX v) (AX t)).map wD)[k]?=al (wD w):=by rw[zF,i];rfl
   left;refine AT (AG j) ?_;left;refine WE c u ?_;cases hc:decide (bhO w v≠bhO w t) with
   | true=> left;refine AT (AG j) ?_;left;exact fin (.inr #[e,w,X,of_decide_eq_true hc,rfl])
   | false=>
     have x:k≠J:=λq=>of_decide_eq_false hc (by rw[q,hJ] at i;cases i;exact hp);left;try walk_at "unf"
     refine VP #[_,rfl,?_];left;refine fD ?_;exact#[J - (k+1),by lia,k+1,rfl,by lia,rfl,rfl]
end
def T7:List Str:=["_law_cell_here","_law_xs","_law_names_here","_law_world_here","_law_there_here","_law_ahead","_law_row_here","_law_behind","_law_k","_law_other","_law_yes","_law_third"]
section
local macro_rules | `(tactic| walk_at "x")=>`(tactic| first | ((with_reducible show PE _ (.Call (.Name (a0Q "gone") _) ..) _);exact @e9 _ K P w mg base _ _ _ _ _ _ _ _ _ rfl rfl rfl rfl rfl (k6 ix) (hr.mono (by decide)) rfl (by walk_at "a") (by decide) (by rfl) (by rfl)) | ((with_reducible show PE _ (.Call (.Name (a0Q "backs") _) ..) _);exact @e9 _ K P w mg base _ _ _ _ _ _ _ _ _ rfl rfl rfl rfl rfl (cQ ke) (hr.mono (by decide)) rfl (by walk_at "a") (by decide) (by rfl) (by rfl)))
local macro_rules | `(tactic| walk_at "y")=>`(tactic| first | ((with_reducible show PT _ (.Compare _ [.NotEq] ..) _);exact @CV _ _ _ _ _ _ _ _ (@A4h _ K rfl hu) (by walk_at "e") (by walk_at "e") (@D0 _ _ (by decide) (by decide))))
theorem T8 (F:Fun K "_law_right" "_law_right" IM f fd) (ba:mg "len"=am) (ke:HasX P w K mg base "backs" 9 ["world","row"] (GX ag LP)) (ix:HasX P w K mg base "gone" 9 ["world","row"] (GX ag OV)) (fh:Has P w K mg base "_law_names" 1 ["_law_xs","_law_at","_law_size"] K8) (iz:Has P w K mg base "_law_row" 3 ["_law_xs","_law_at","_law_size","_law_names_here","_law_there_here"] PQ) (bb:Has P w K mg base "_law_row_comes_to" 4 ["_law_there_here","_law_row_here"] HI) (dh:Has P w K mg base "_law_stirred" 1 ["_law_cell_here","_law_size"] G9) (di:Has P w K mg base "_law_swapped" 1 ["_law_row_here","_law_k"] GC) (fj:Has P w K mg base "_law_there" 1 ["_law_world_here"] KA) (av:Has P w K mg base "_law_there_and_back" 1 ["_law_row_here","_law_k","_law_name"] PZ) (fm:Has P w K mg base "_law_world" 2 ["_law_xs","_law_at","_law_names_here"] K9) (pf:Has P w K mg base "alike" 12 ["row","other"] HK) (fg:Has P w K mg base "effect" 4 ["row"] FJ):FnOk P w K mg base CX0 13 f fd ["_law_cell_here"] (spD K 1 HC):=by
 refine hD T7 F #[rfl,rfl,rfl,by decide +kernel,rfl,by decide +kernel,by decide +kernel] ?_;walk_at "hd";rintro xs M hl ⟨c,rfl⟩;left;refine VQ (n:=100) (by decide) λL hL hok=>?_;have O:∀i,i < L.length->(L.map b8Z)[i]?=al (.int (L.getD i 0)):=λi hi=>by rw[zF,yU,zV hi];rfl
 left;refine VR (a:=0) (n:=5) hok (by lia) (by decide) (by lia) λm hn h5=>?_;left;refine VS (a:=2) hok (by lia) (by lia) hn (by lia) λw I=>?_;have u:There m w:=#[I.1.1.nodup,I.2]
 have Cg:=u.few;obtain⟨n1,e1,Qp⟩:=sI (L.getD 90 0) 5 (by decide);obtain⟨n2,e2,Gj⟩:=sI (L.getD 91 0) 5 (by decide);obtain⟨n3,e3,Qq⟩:=sI (L.getD 92 0) 5 (by decide);obtain⟨n4,e4,Gg⟩:=sI (L.getD 94 0) 3 (by decide);left;refine VT u.nd (by lia) λp hp=>?_;left;refine AT (AG (j:=90) (O _ (by lia))) ?_;left;rw[e1];refine IA (a:=10) (n:=n1) hok (by lia) (by lia) (by lia) hn (by lia) (by lia) zU u λX Qr hX=>?_;left;refine AT (AG (j:=91) (O _ (by lia))) ?_;left;rw[e2,show(1:Int)+(n2:Int)=((1+n2:Nat):Int) by lia];refine IA (a:=30) (n:=1+n2) hok (by lia) (by lia) (by lia) hn (by lia) (by lia) zU u λA Qs hA=>?_;left;refine AT (AG (j:=92) (O _ (by lia))) ?_;left;rw[e3];refine IA (a:=55) (n:=n3) hok (by lia) (by lia) (by lia) hn (by lia) (by lia) zU u λY Qt hY=>?_;left;refine AT (AG (j:=93) (O _ (by lia))) ?_;left;refine K2 ?_;rw[zX];obtain⟨k,ek,hk⟩:=sI (L.getD 93 0) A.length (by lia);left;rw[ek];left;refine AT (AG (j:=94) (O _ (by lia))) ?_;left;rw[e4];refine IA (a:=75) (n:=n4) hok (by lia) (by lia) (by lia) hn (by lia) (by lia) zU u λZ Qu hZ=>?_;walk_at "wks";try walk_at "unf"
 refine LJ (i:=4) (a:=p) rfl zU ?_;rw[yG hp];have g:∀D∈A,AN m D:=hA;have kX:∀D∈X,AN m D:=hX;have kY:∀D∈Y,AN m D:=hY;have kZ:∀D∈Z,AN m D:=hZ;try walk_at "unf"
 refine HQ (λr M1=>M1=M/\∃q:List Deed,q.length<=5/\(∀D∈q,AN m D)/\r=[al (.d (.int c)),al (.d (.list (L.map .int))),al (.d (C7 m)),al (.d (wD w)),al (.d (wQ w)),al (.d (B1 X)),al (.d (B1 A)),al (.d (B1 Y)),al (.d (.int k)),al (.d (B1 q)),am,am]) ?_ ?_
 . left;refine AT (AG (j:=95) (O _ (by lia))) ?_;left;cases decide ((0:Int) < L.getD 95 0 % 3) with
   | false=> left;exact#[rfl,Z,by lia,kZ,rfl]
   | true=> left;refine WH (k:=k) (by lia) λEs hE lE=>?_;left;exact#[rfl,Es,by lia,λD hD=>g D (hE D hD),rfl]
 rintro r M1 ⟨rfl,q,Qv,hC,rfl⟩;try walk_at "unf"
 refine HQ (λr T=>T=M1/\∃q:List Deed,q.length<=7/\(∀D∈q,AN m D)/\r=[al (.d (.int c)),al (.d (.list (L.map .int))),al (.d (C7 m)),al (.d (wD w)),al (.d (wQ w)),al (.d (B1 X)),al (.d (B1 A)),al (.d (B1 Y)),al (.d (.int k)),al (.d (B1 q)),am,am]) ?_ ?_
 . left;refine AT (AG (j:=95) (O _ (by lia))) ?_;left;refine AZ rfl rfl ?_;rw[if_neg nft,PP];cases decide (L.getD 95 0 % 3=2) with
   | false=> left;exact#[rfl,q,by lia,hC,rfl]
   | true=>
     obtain⟨z,ds,eD,J,hz⟩:=a7 A[k];have Hz:(A.map Deed.d)[k]?=al (A[k]).d:=by rw[zF,zV (by lia)];rfl
     rw[eD] at Hz;have G:z∈m:=(g _ (a1J (by lia))).2 z hz;left;refine AL (AG Hz) ?_;left;refine AL (ds:=ds) (d:=.str z) (AG (j:=1) J) ?_;left;refine a6 (Ds:=q) (k:=k) (z:=z) (by lia) ?_;obtain⟨t1,t2⟩:=sM (k:=k) hn G hC;left;exact#[rfl,_,by lia,t1,rfl]
 rintro ρ2 T ⟨rfl,Ds,Qw,hD,rfl⟩;have fin:∃B:Own,B.Sub T/\HC.post [.d (.int c)] T (.d (.bool ap)) B:=#[T,zT T,rfl,rfl]
 obtain⟨z,ds,eD,J,hz⟩:=a7 A[0];have H_:(A.map Deed.d)[0]?=al (A[0]).d:=by rw[zF,zV (by lia)];rfl
 rw[eD] at H_;have G:z∈m:=(g _ (a1J (by lia))).2 z hz;obtain⟨kT,hT⟩:=sM (k:=0) hn G g;have S:AlQ m A Ds:=#[hn,g,hD,by lia,by lia]
 have q3:AlQ m A (ZZ A 0 z):=#[hn,g,kT,by lia,by lia]
 have q4:AlQ m (ZZ A 0 z) Ds:=#[hn,kT,hD,by lia,by lia]
 have q2:AlQ m (X++A++Y) (X++Ds++Y):=#[hn,RY kX g kY,RY kX hD kY,by rw[yY,yY];lia,by rw[yY,yY];lia]
 have Fs:=cY kX g hD kY q2;have g1:Go17 w A:=A3w u (by lia) g (λy h=>h) (by lia);have g2:Go17 w Ds:=A3w u (by lia) hD (λy h=>h) (by lia);have room:∀{n:Nat},n<=40->n<=sizeLine:=λh=>zN h (by decide);have nA:∀v,AY w A=al v->(v.map (·.1)).Nodup:=WC u (by lia) g;have nD:∀v,AY w Ds=al v->(v.map (·.1)).Nodup:=WC u (by lia) hD;left;refine EX S λd1 ym=>?_;left;refine ND S ym λb hb=>?_;rw[if_neg nft];walk_at "wks";try walk_at "unf"
 refine HQ (λr M1=>M1=T/\r=[al (.d (.int c)),al (.d (.list (L.map .int))),al (.d (C7 m)),al (.d (wD w)),al (.d (wQ w)),al (.d (B1 X)),al (.d (B1 A)),al (.d (B1 Y)),al (.d (.int k)),al (.d (B1 Ds)),al (.d (.bool b)),am]) ?_ ?_
 . left;cases b with
   | false=> left;exact#[rfl,rfl]
   | true=> have e:=hb.mp rfl;left;refine B9 (by rw[zX,zX];exact room (by lia)) ?_;rw[<-xI];left;refine B9 (by rw[zX,zX,yY];exact room (by lia)) ?_;rw[<-xI];left;refine B9 (by rw[zX,zX];exact room (by lia)) ?_;rw[<-xI];left;refine B9 (by rw[zX,zX,yY];exact room (by lia)) ?_;rw[<-xI];left;refine EX q2 λd2 hd2=>?_;left;refine WG (ND q2 hd2 λb2 hb2=>?_);rw[if_pos rfl];obtain rfl:b2=true:=hb2.mpr (Fs e);rw[b9Z];left;exact#[rfl,rfl]
 rintro ρ3 B ⟨rfl,rfl⟩;try walk_at "unf"
 refine HQ (λr M1=>M1=B/\r=[al (.d (.int c)),al (.d (.list (L.map .int))),al (.d (C7 m)),al (.d (wD w)),al (.d (wQ w)),al (.d (B1 X)),al (.d (B1 A)),al (.d (B1 Y)),al (.d (.int k)),al (.d (B1 Ds)),al (.d (.bool b)),am]) ?_ ?_
 . left;cases b with
   | false=> left;exact#[rfl,rfl]
   | true=> left;refine LO (w:=w) g1 ?_;left;refine LO (w:=w) g2 ?_;refine A2r ?_;rw[kG hn g hD (hb.mp rfl) nA nD];left;exact#[rfl,rfl]
 rintro ρ4 M4 ⟨rfl,rfl⟩;left;refine AL (AG (j:=0) H_) ?_;left;refine AL (ds:=ds) (d:=.str z) (AG (j:=1) J) ?_;left;refine a6 (Ds:=A) (k:=0) (z:=z) (by lia) ?_;walk_at "wks";try walk_at "unf"
 refine HQ (λr M1=>M1=M4/\r=[al (.d (.int c)),al (.d (.list (L.map .int))),al (.d (C7 m)),al (.d (wD w)),al (.d (wQ w)),al (.d (B1 X)),al (.d (B1 A)),al (.d (B1 Y)),al (.d (.int k)),al (.d (B1 Ds)),al (.d (.bool b)),al (.d (B1 (ZZ A 0 z)))]) ?_ ?_
 . left;refine EX q3 λd3 Pj=>?_;left;refine ND q3 Pj λb3 Q=>?_;rw[if_neg nft];cases b3 with
   | false=> left;exact#[rfl,rfl]
   | true=> left;refine EX q4 λd4 Pk=>?_;left;refine ND q4 Pk λb4 Pn=>?_;rw[if_neg nft];obtain rfl:b4=b:=Bool.eq_iff_iff.mpr (by rw[Pn,hb,<-Q.mp rfl]);left;refine WG (AZ rfl rfl ?_);rw[if_pos rfl,EI (d:=.bool b4) rfl,b9Z];left;exact#[rfl,rfl]
 rintro ρ5 M5 ⟨rfl,rfl⟩;have Po:=S.few;left;refine DC hn g (by lia) ?_;left;refine DC hn hD (by lia) ?_;refine sK S λb5 Pp=>?_;rw[if_neg nft];obtain rfl:b5=b:=Bool.eq_iff_iff.mpr (by rw[Pp,hb]);left;refine WG (AZ rfl rfl ?_);rw[if_pos rfl,EI (d:=.bool b5) rfl,b9Z];left;refine LO (w:=w) g1 ?_;left;refine PJ ?_;have N:rowQ16 w A:=#[#[I.1.1,λt ht=>#[(I.1.2 t ht).1,(I.1.2 t ht).2.1,(I.1.2 t ht).2.2.1]],by lia,λD hD=>(g D hD).1]
 cases er:AY w A with
 | none=> left;refine DC hn g (by lia) ?_;left;refine DC hn hD (by lia) ?_;refine sK S λb6 Pq=>?_;rw[if_neg nft];obtain rfl:b6=b5:=Bool.eq_iff_iff.mpr (by rw[Pq,hb]);refine AZ rfl rfl ?_;rw[if_neg nft,EI (d:=.bool b6) rfl];exact fin
 | some v=>
   have U:=sO N (by rw[er];exact λx=>nomatch x);obtain⟨r1,r2,r3⟩:=ZG N.fine U N.few;have Ia:(bkS w A).reverse.length=A.length:=by rw[b0J,fW]
   have Pr:∀D∈(bkS w A).reverse,D.real:=ZH r1;have eB:LP w A = .tuple ((bkS w A).reverse.map Deed.d):=rfl;have Fv:zH (wD w)=true:=NZ N.fine;have Q:BC w (A++(bkS w A).reverse):=RR.mpr #[U,r1];have hQ3:rowQ16 w (A++(bkS w A).reverse):=#[N.fine,by rw[yY,Ia];lia,λD hD=>by
     rcases yW.mp hD with h | h;. exact N.real D h
     . exact Pr D h]
   have e3:OV w (A++(bkS w A).reverse)=wD w:=by unfold OV;rw[fV,r2]
   left;refine ZK N U ?_;rw[eB];refine B9 (by rw[zX,zX,Ia];exact room (by lia)) ?_;rw[<-xI];left;refine ZK hQ3 Q ?_;rw[e3];left;refine AZ Fv Fv ?_;rw[if_neg nft,EI Fv];exact fin
end
def A2s:List Str:=["_law_script","_law_cell_here"]
theorem A2t (F:Fun K "law" "law" sR f i) (b:Has P w K mg base "_law_cell" 1 ["_law_script","_law_k"] MX) (r:Has P w K mg base "_law_right" 13 ["_law_cell_here"] HC):FnOk P w K mg base CX0 14 f i ["_law_script"] (spD K 1 U9):=by
 refine hD A2s F #[rfl,rfl,rfl,by decide +kernel,rfl,by decide +kernel,by decide +kernel] ?_;walk_at "hd";rintro g M m ⟨t,rfl,v,p⟩;have fin:∀{M1:Own},M.Sub M1->∃n:Own,n.Sub M1/\U9.post [.d (.list (t.map .int))] M (.d (.bool ap)) n:=λh=>#[M,h,rfl]
 left;try walk_at "unf"
 refine F7 ?_;refine DN ?_;left;refine J3 ?_;left;refine YV (k:=0) λO=>?_;left;refine i5 ?_;rw[show EF (t.map b8Z) (al 1) (al 8)=((t.take 8).drop 1).map .int from(PH _ 1 8).trans (by rw[List.map_drop,List.map_take])];refine XQ (by rw[zX];exact zN (show _<=200 by rw[a4V,a0J];simp;lia) (by decide)) ?_;refine#[_,rfl,λk e M1=>M1=M/\∃N:Option DS,e=[al (.d (.list (t.map .int))),N],#[rfl,_,rfl],?_,?_]
 . rintro k d e M1 hd ⟨rfl,N,rfl⟩;obtain⟨c,rfl⟩:∃c:Int,d = .int c:=by
     rcases yW.mp (yN hd) with h | h;. exact#[O,List.mem_singleton.mp h]
     . obtain⟨c,_,rfl⟩:=zL.mp h;exact#[c,rfl]
   left;refine W0 ?_;left;exact#[rfl,_,rfl]
 . rintro e M1 ⟨rfl,N,rfl⟩;left;exact fin (zT _)
end
end DL
namespace DL
open PySem PySem.Spec L2 XC
theorem aN (F:Fun K "__init__" "NoRow.__init__" C0 f N) (c:XCls K C S (.ref f)) (cs:XSet K C "number"):FnOkA P w K mg base 1 f N ["self","number"] (ER C "number"):=
 rK F #[rfl,rfl,rfl,by decide +kernel,rfl,by decide +kernel,by decide +kernel] rfl c cs (by decide) (λ_=>rfl) (λX hN hS=>pv 0 (by rw[hN];rfl) (by rw[hS];exact Or.inl rfl)) (λX hN hS=>pv 1 (by rw[hN];rfl) (by rw[hS];exact Or.inl rfl))
local macro_rules | `(tactic| walk_at "b1")=>`(tactic| exact λ_ _ _ _ _ _=>A4G λ_=>rfl)
local macro_rules | `(tactic| walk_at "b2")=>`(tactic| exact λ_ _ _ _ _ _=>sP λ_ _=>rfl)
local macro_rules | `(tactic| walk_at "b3")=>`(tactic| exact λ_ _ _ _ _ _=>A4H λ_ _ _=>rfl)
local macro_rules | `(tactic| walk_at "b4")=>`(tactic| exact λ_ _ _ _ _ _=>A4I λ_ _ _ _=>rfl)
local macro_rules | `(tactic| walk_at "b5")=>`(tactic| exact λ_ _ _ _ _ _=>A4j λ_ _ _ _ _=>rfl)
set_option hygiene false in
local macro_rules | `(`hhh)=>`(Has l.prog w K mg base _ _ _ _)
theorem A2u {l:PySem.W.OpenLaw} (X:K.In h) (G:h.Ns bd mg) (Pt:mg "law"=al (.ref fa)) (b0:FnIn K "_law_cell" JO) (b1:FnIn K "_law_stirred" FO) (b2:FnIn K "_law_names" EY) (b3:FnIn K "_law_place" IG) (b4:FnIn K "_law_number" GI) (b5:FnIn K "_law_pick" JP) (b6:FnIn K "_law_world" IH) (b7:FnIn K "_law_there" II) (b8:FnIn K "_law_wanted" GJ) (b9:FnIn K "_law_made" JQ) (Ib:FnIn K "_law_can" IJ) (Ic:FnIn K "_law_step" JR) (Ie:FnIn K "_law_deed" EM) (Ig:FnIn K "_law_row" LS) (Ih:FnIn K "_law_run" LU) (Ii:FnIn K "_law_row_comes_to" CM) (Ij:FnIn K "_law_swapped" FP) (Ik:FnIn K "_law_there_and_back" CA) (Il:FnIn K "is_whole" LV) (Im:FnIn K "is_within" JS) (Bu:FnIn K "is_place" LX) (Bv:FnIn K "is_name" KK) (Io:FnIn K "form_of" O7) (Ip:FnIn K "fits" cZ) (Iq:FnIn K "names_in" LY) (Ir:FnIn K "is_deed" KL) (Iu:FnIn K "made_by" O8) (Iv:FnIn K "by_names" IK) (Iw:FnIn K "rising_by_names" CC) (Iy:FnIn K "add_count" JT) (Iz:FnIn K "refuse_undoable" DU) (I_:FnIn K "change" RZ) (Ja:FnIn K "done" d0) (Jb:FnIn K "back_deed" JU) (Jc:FnIn K "walked" S0) (Jd:FnIn K "gone" dA) (Je:FnIn K "backs" WJ) (Jf:FnIn K "behind" S3) (Jg:FnIn K "parts" WK) (Jh:FnIn K "rising" S4) (Ji:FnIn K "by_left_names" CZ) (Jj:FnIn K "clash" NE) (Jk:FnIn K "told_at_first" ES) (Jl:FnIn K "deed_effect" GK) (Jm:FnIn K "effect_behind" C8) (Jn:FnIn K "effect" S5) (Jo:FnIn K "world_of" IL) (Jp:FnIn K "worlds_to_try" BL) (Jq:FnIn K "alike" WL) (Jr:FnIn K "_law_right" IM) (Js:FnIn K "law" sR) (vg:a2X K bd "all"=al am) (vh:a2X K bd "any"=al am) (oh:a2X K bd "bool"=al am) (oi:a2X K bd "dict"=al am) (dj:a2X K bd "enumerate"=al am) (vi:a2X K bd "int"=al am) (cj:a2X K bd "isinstance"=al am) (vj:a2X K bd "len"=al am) (kh:a2X K bd "range"=al am) (ef:a2X K bd "reversed"=al am) (jb:a2X K bd "sorted"=al am) (vk:a2X K bd "str"=al am) (ki:a2X K bd "tuple"=al am) (vm:a2X K bd "zip"=al am) (kj:a2X K bd "FORMS"=al (al (.ref T))) (kl:K.lookup T=al { cls:=.type "dict", data:=.dict (y9 [{ hash:=b0W w.params (a0Q "put"),key:=.str (a0Q "put") mj,val:=.str (a0Q "npk") ml },{ hash:=b0W w.params (a0Q "take"),key:=.str (a0Q "take") mm,val:=.str (a0Q "n") mn },{ hash:=b0W w.params (a0Q "move"),key:=.str (a0Q "move") mo,val:=.str (a0Q "np") mr },{ hash:=b0W w.params (a0Q "count"),key:=.str (a0Q "count") mw,val:=.str (a0Q "nk") mx },{ hash:=b0W w.params (a0Q "name"),key:=.str (a0Q "name") my,val:=.str (a0Q "nn") mz },{ hash:=b0W w.params (a0Q "split"),key:=.str (a0Q "split") nc,val:=.str (a0Q "nnpk") ng },{ hash:=b0W w.params (a0Q "join"),key:=.str (a0Q "join") nh,val:=.str (a0Q "nn") ni }]) um }) (km:(T==c4)=aw) (cm:a2X K bd "LAST_PLACE"=al (al (.int 999 kg))) (gh:a2X K bd "LETTERS"=al (al (.str "abcdefghijklmnopqrstuvwxyz" qb))) (bo:a2X K bd "LONGEST_NAME"=al (al (.int 8 i_))) (dr:a2X K bd "NoDeed"=al (al (.ref p))) (gi:K.lookup p=al (excClassObj qc lr p uo qd (.ref i::XC.bmV) ap qf qe qg qh qi qj qk ql qm qo "ValueError.__new__")) (gj:a3K K (.ref p)=ap) (gk:a8K K (.ref p) "__init__"=al (al (.builtin "ValueError.__init__"))) (D:a2X K bd "NoRow"=al (al (.ref c))) (jc:K.lookup c=al (excClassObj uq ph c wt ur (.ref i::XC.bmV) ap uv uu uw ux uy uz u_ vc vd ve "ValueError.__new__")) (jd:a3K K (.ref c)=ap) (je:a8K K (.ref c) "__init__"=al (al (.ref r))) (jf:K.lookup r=al #[qu,qp,.func (a5Z "__init__" "NoRow.__init__" (DK C0) (BE C0) (AB C0) .none qv qw qx qr jw qy),qt]) (jg:b0Q K jw "NoRow.__init__"=ap) (fq:b5J K (.ref r)=ap) (jh:a3K K (.ref r)=ap) (fu:a8K K (.ref c) "__setattr__"=al (al (.builtin "object.__setattr__"))) (fv:PySem.W.takerIn K c "number"=al am) (du:a2X K bd "NotNow"=al (al (.ref n))) (gm:K.lookup n=al (excClassObj qz lu n vf q_ (.ref i::XC.bmV) ap rf rc rg rh ri rl rm rn ro rq "ValueError.__new__")) (gn:a3K K (.ref n)=ap) (gp:a8K K (.ref n) "__init__"=al (al (.ref m))) (gq:K.lookup m=al #[nu,nj,.func (a5Z "__init__" "NotNow.__init__" (DK C9) (BE C9) (AB C9) .none nv nz n_ nq ja og),nr]) (gr:b0Q K ja "NotNow.__init__"=ap) (gu:b5J K (.ref m)=ap) (gv:a3K K (.ref m)=ap) (gw:a8K K (.ref n) "__setattr__"=al (al (.builtin "object.__setattr__"))) (gx:PySem.W.takerIn K n "name"=al am) : ∃fd:dV,(∀(s:aq) (v:ao),BindsTo s fd #[[v],[]] [("_law_script", v)])/\∀base:cr,K.In base->base.Ns bd mg->FnOk l.prog w K mg base CX0 14 fa fd ["_law_script"] (spD K 1 U9):=by
 obtain⟨_,_,N⟩:=b0.at X G;obtain⟨_,_,Q⟩:=b1.at X G;obtain⟨_,_,O⟩:=b2.at X G;obtain⟨_,_,I⟩:=b3.at X G;obtain⟨_,_,S⟩:=b4.at X G;obtain⟨_,_,M⟩:=b5.at X G;obtain⟨_,_,B⟩:=b6.at X G;obtain⟨_,_,J⟩:=b7.at X G;obtain⟨_,_,L⟩:=b8.at X G;obtain⟨_,_,U⟩:=b9.at X G;obtain⟨_,_,Jt⟩:=Ib.at X G;obtain⟨_,_,Ju⟩:=Ic.at X G;obtain⟨_,_,Jv⟩:=Ie.at X G;obtain⟨_,_,Jw⟩:=Ig.at X G;obtain⟨_,_,Jx⟩:=Ih.at X G;obtain⟨_,_,Jy⟩:=Ii.at X G;obtain⟨_,_,Jz⟩:=Ij.at X G;obtain⟨_,_,J_⟩:=Ik.at X G;obtain⟨_,_,Y⟩:=Il.at X G;obtain⟨_,_,Ka⟩:=Im.at X G;obtain⟨_,_,Kb⟩:=Bu.at X G;obtain⟨_,_,Kc⟩:=Bv.at X G;obtain⟨_,_,Kd⟩:=Io.at X G;obtain⟨_,_,Ke⟩:=Ip.at X G;obtain⟨_,_,Kf⟩:=Iq.at X G;obtain⟨_,_,Kg⟩:=Ir.at X G;obtain⟨_,_,Kh⟩:=Iu.at X G;obtain⟨_,_,Ki⟩:=Iv.at X G;obtain⟨_,_,Kj⟩:=Iw.at X G;obtain⟨_,_,Kk⟩:=Iy.at X G;obtain⟨_,_,Kl⟩:=Iz.at X G;obtain⟨_,_,Km⟩:=I_.at X G;obtain⟨_,_,Kn⟩:=Ja.at X G;obtain⟨_,_,Ko⟩:=Jb.at X G;obtain⟨_,_,Kp⟩:=Jc.at X G;obtain⟨_,_,Kq⟩:=Jd.at X G;obtain⟨_,_,Kr⟩:=Je.at X G;obtain⟨_,_,Ks⟩:=Jf.at X G;obtain⟨_,_,Kt⟩:=Jg.at X G;obtain⟨_,_,Ku⟩:=Jh.at X G;obtain⟨_,_,Kv⟩:=Ji.at X G;obtain⟨_,_,Kw⟩:=Jj.at X G;obtain⟨_,_,Kx⟩:=Jk.at X G;obtain⟨_,_,Ky⟩:=Jl.at X G;obtain⟨_,_,Kz⟩:=Jm.at X G;obtain⟨_,_,K_⟩:=Jn.at X G;obtain⟨_,_,K'⟩:=Jo.at X G;obtain⟨_,_,La⟩:=Jp.at X G;obtain⟨_,_,Lb⟩:=Jq.at X G;obtain⟨_,_,Lc⟩:=Jr.at X G;obtain⟨Qx,Pu,x⟩:=Js.at X G;have e:=Pt.symm.trans x.mg_;cases e;have z:=a2J X G vg;have xg:=a2J X G vh;have uf:=a2J X G oh;have mi:=a2J X G oi;have dg:=a2J X G dj;have xj:=a2J X G vi;have b:=a2J X G cj;have j:=a2J X G vj;have f:=a2J X G kh;have d_:=a2J X G ef;have bi:=a2J X G jb;have Z:=a2J X G vk;have ak:=a2J X G ki;have uh:=a2J X G vm;have kd:∃a,mg "FORMS"=al (.ref a)/\GDict w K a GU:=#[_,a6X X G kj,km,by decide +kernel,_,_,kl,rfl,#[_,rfl],#[_,rfl],rfl,#[_,rfl],#[_,rfl],rfl,#[_,rfl],#[_,rfl],rfl,#[_,rfl],#[_,rfl],rfl,#[_,rfl],#[_,rfl],rfl,#[_,rfl],#[_,rfl],rfl,#[_,rfl],#[_,rfl],trivial]
 have fb:∃t,mg "LAST_PLACE"=al (.int 999 t):=#[_,a6X X G cm]
 have jr:∃t,mg "LETTERS"=al (.str "abcdefghijklmnopqrstuvwxyz" t):=#[_,a6X X G gh]
 have c_:∃t,mg "LONGEST_NAME"=al (.int 8 t):=#[_,a6X X G bo]
 have de:HasN K mg "NoDeed" p i:=#[#[#[_,_,_,_,_,_,_,_,_,_,_,_,_,_,gi],gk,gj],a6X X G dr]
 have g:XC.XCls K c i (.ref r):=#[#[_,_,_,_,_,_,_,_,_,_,_,_,_,_,jc],je,jd]
 have k:=aX (st:=C0) jf jg jh;have jx:XC.XCls K n i (.ref m):=#[#[_,_,_,_,_,_,_,_,_,_,_,_,_,_,gm],gp,gn]
 have jy:=aX (st:=C9) gq gr gv;have lr:=a6X X G dr;have ph:=a6X X G D;have lu:=a6X X G du;refine#[Pu,λs v=>?_,λbase _ _=>?_];. obtain⟨oc,od,kV,doc,pm,an,cdv,ct,osl,e,_,_⟩:=x.fn.ex;subst e;exact .of_eq rfl
 have fe:HasR l.prog w K mg base "NoRow" "number" c i:=#[r,_,["self","number"],g,fq,dH k g #[fu,fv],k.binds (ps:=["self","number"]) λ_ _ _ _ _ _=>sP λ_ _=>rfl,a6X X G D]
 have df:HasR l.prog w K mg base "NotNow" "name" n i:=#[m,_,["self","name"],jx,gu,aL jy jx #[gw,gx],jy.binds (ps:=["self","name"]) λ_ _ _ _ _ _=>sP λ_ _=>rfl,a6X X G du]
 have iw:HasRA l.prog w K mg base "NoRow" "number" c i:=#[r,_,["self","number"],g,fq,aN k g #[fu,fv],k.binds (ps:=["self","number"]) λ_ _ _ _ _ _=>sP λ_ _=>rfl,a6X X G D]
 have Fo:=XC.vV g;have ie:`hhh:=N.has (WN N.fn j) (by walk_at "b2");have dh:`hhh:=Q.has (P7 Q.fn f) (by walk_at "b2");have fh:`hhh:=O.has (SZ O.fn f) (by walk_at "b3");have be:`hhh:=I.has (T2 I.fn ) (by walk_at "b1");have ay:`hhh:=S.has (S7 S.fn ) (by walk_at "b1");have g_:`hhh:=M.has (WP M.fn j) (by walk_at "b2");have fm:`hhh:=B.has (T4 B.fn j f bi ak ay be) (by walk_at "b3");have fj:`hhh:=J.has (T6 J.fn ) (by walk_at "b1");have dw:`hhh:=L.has (S9 L.fn ) (by walk_at "b1");have gz:`hhh:=U.has (WR U.fn ) (by walk_at "b1");have cf:`hhh:=Jt.has (a8 Jt.fn z xg gz dw) (by walk_at "b2");have br:`hhh:=Ju.has (WT Ju.fn mi) (by walk_at "b2");have h_:`hhh:=Jv.has (WU Jv.fn ay g_ be) (by walk_at "b4");have iz:`hhh:=Jw.has (aA Jw.fn f ak cf h_ br) (by walk_at "b5");have iq:`hhh:=Jx.has (aD Jx.fn j f cf br) (by walk_at "b2");have bb:`hhh:=Jy.has (JZ Jy.fn iq) (by walk_at "b2");have di:`hhh:=Jz.has (P9 Jz.fn ) (by walk_at "b2");have av:`hhh:=J_.has (IQ J_.fn ) (by walk_at "b3");have cg:`hhh:=Y.has (aF Y.fn uf xj b) (by walk_at "b1");have ia:`hhh:=Ka.has (WW Ka.fn cg) (by walk_at "b3");have ir:`hhh:=Kb.has (aH Kb.fn fb ia) (by walk_at "b1");have jt:`hhh:=Kc.has (dB Kc.fn z b j Z jr c_) (by walk_at "b1");have dq:`hhh:=Kd.has (dD Kd.fn b Z kd) (by walk_at "b1");have ui:`hhh:=Ke.has (zS Ke.fn jt ir cg) (by walk_at "b2");have ci:`hhh:=Kf.has (aJ Kf.fn dq) (by walk_at "b1");have ju:`hhh:=Kg.has (dE Kg.fn z b j ak uh ui dq ci) (by walk_at "b1");have jv:`hhh:=Kh.has (dG Kh.fn ) (by walk_at "b1");have q:`hhh:=Ki.has (aK Ki.fn ) (by walk_at "b1");have u:`hhh:=Kj.has (LZ Kj.fn bi ak) (by walk_at "b1");have ib:`hhh:=Kk.has (WY Kk.fn ) (by walk_at "b3");have ai:HasX l.prog w K mg base "refuse_undoable" 6 ["things","deed"] (DD n):=Kl.hasX (MA Kl.fn de df ju jv ci) (by walk_at "b2");have lp:`hhh:=Km.has (kK Km.fn ib) (by walk_at "b2");have uj:`hhh:=Kn.has (A0B Kn.fn ai q lp u) (by walk_at "b2");have ic:HasX l.prog w K mg base "back_deed" 7 ["world","deed"] (KF n):=Ko.hasX (X0 Ko.fn ai q) (by walk_at "b2");have ff:HasX l.prog w K mg base "walked" 8 ["world","row"] (GX c UJ):=Kp.hasX (kM Kp.fn dg iw de fe df ic q uj u) (by walk_at "b2");have ix:HasX l.prog w K mg base "gone" 9 ["world","row"] (GX c OV):=Kq.hasX (A0D Kq.fn ff) (by walk_at "b2");have ke:HasX l.prog w K mg base "backs" 9 ["world","row"] (GX c LP):=Kr.hasX (sV Kr.fn d_ ak ff) (by walk_at "b2");have lq:`hhh:=Ks.has (kP Ks.fn Fo fe ix) (by walk_at "b2");have pd:`hhh:=Kt.has (sY Kt.fn lq) (by walk_at "b3");have y:`hhh:=Ku.has (kR Ku.fn bi ak) (by walk_at "b1");have cn:`hhh:=Kv.has (O9 Kv.fn ) (by walk_at "b1");have pb:`hhh:=Kw.has (sZ Kw.fn j) (by walk_at "b3");have cq:`hhh:=Kx.has (OC Kx.fn b Z y) (by walk_at "b4");have dy:`hhh:=Ky.has (SL Ky.fn y u) (by walk_at "b1");have cu:`hhh:=Kz.has (OD Kz.fn ak cn pb y u cq) (by walk_at "b2");have fg:`hhh:=K_.has (kU K_.fn dy cu) (by walk_at "b1");have iy:`hhh:=K'.has (aM K'.fn u) (by walk_at "b2");have cv:`hhh:=La.has (OE La.fn iy) (by walk_at "b2");have pf:`hhh:=Lb.has (t7 Lb.fn fg pd cv) (by walk_at "b2");have fo:`hhh:=Lc.has (T8 Lc.fn j ke ix fh iz bb dh di fj av fm pf fg) (by walk_at "b1");exact A2t x.fn ie fo
theorem A2v {ns:List Int}(r:ns.length<=63) (hb:∀i∈ns,xJ i<=2 ^ 20) (hS:SqL K H a (ns.map V.int)):spD K 1 U9 [.ref a] H (λv _=>v = .bl ap) λ_ _ _=>False:=by
 refine#[[.d (.list (ns.map .int))],λ_=>am,rfl,(λa o e=>nomatch e),#[.ref a,[],rfl,?_,rfl],#[ns,rfl,r,hb],λx t v H' post p m n=>?_]
 . unfold SI DV;refine#[a,ns.map V.int,rfl,?_,OQ];rcases hS with h | h;. exact .inl #[λw=>w rfl,h]
   . exact .inr h
 . have e:x = .d (.bool ap):=post;subst e;exact A3b n
theorem A4l {l:PySem.W.OpenLaw}{q:bn}{loose:List Str}{XP:(Str->Option ao)->cr->Prop}{YP:bj->cr->Prop}{d:DefRec}{K:fi->Frg}(hn:l.most=al 63) (B:d.params.defaults=[]) (G:∀(w:bj) (h:cr),YP w h->(K w.params).In h) (F:∀(w:bj) (mg:Str->Option ao) (i:Addr) (h:cr),(K w.params).In h->h.Ns bd mg->mg d.name=al (.ref i) ->∃N:dV,(∀(s:aq) (u:ao),BindsTo s N #[[u],[]] [("_law_script", u)])/\∀base:cr,(K w.params).In base->base.Ns bd mg->FnOk l.prog w (K w.params) mg base CX0 14 i N ["_law_script"] (spD (K w.params) 1 U9)) :
   PySem.W.WalkO q loose XP YP l.row.toRowW d [] (λf vs=>PySem.call f vs):=
 L2.nR (n:=63) (k:=14) (x:= "_law_script") (CX:=λ_=>CX0) (sp:=λw=>spD (K w.params) 1 U9) hn (by decide) B #[rfl,by decide,by decide] G F (λ_ _ a e r hb _ hS=>A2v r hb hS) λ_ _ _ _ _ z=>z
end DL
open PySem PySem.W PyProof.Rows
set_option maxRecDepth 100000 in
set_option maxHeartbeats 0 in
theorem PySem.Challenge.cw_struckdeeds_k22_whole_alike_within_rows_holds : PySem.Challenge.rw_struckdeeds_k22_whole_alike_within_rows.Holds := by
 w_on
 refine PySem.W.holds_law DL.hS λn=>?_;refine PySem.W.holds_open (q:=DL.hV) (loose:=[a0Q "FORMS"]) (Xt:=(λs=>PySem.W.xlAt DL.hV [] s&&PySem.W.recOk (b4V (b3Z (b5Q PySem.Challenge.rw_struckdeeds_k22_whole_alike_within_rows))) s)) (XP:=PySem.W.XL DL.hV []) (Yf:=b7X (a6V DL.hK DL.hA DL.hE)) (Ya:=b7Q (a6V DL.hK DL.hA DL.hE)) (YP:=PySem.W.Hook.says (a6V DL.hK DL.hA DL.hE)) (N:=5426) DL.hL (PySem.W.Hook.of (a6V DL.hK DL.hA DL.hE)) (PySem.W.Hook.keeps (a6V DL.hK DL.hA DL.hE)) (λs e=>PySem.W.xl_of s (Bool.and_eq_true_iff.mp e).1) PySem.W.XL.keeps (by rfl) (by rfl) (by rfl) (λs e=>PySem.W.recFacts_of (Bool.and_eq_true_iff.mp e).2) rfl n (by decide +kernel) #[rfl,rfl,rfl,rfl,rfl,by decide +kernel] ?X ?hc
 (case X=>w_witness2)
 k_fill
 refine DL.A4l (l:=PySem.Challenge.rw_struckdeeds_k22_whole_alike_within_rows) rfl rfl (λw h Y=>PySem.W.kIn_of Y) ?F
 case F=>
   intro w mg i h KX G pq;refine' DL.A2u KX G pq ?b0 ?b1 ?b2 ?b3 ?b4 ?b5 ?b6 ?b7 ?b8 ?b9 ?Ib ?Ic ?Ie ?Ig ?Ih ?Ii ?Ij ?Ik ?Il ?Im ?Bu ?Bv ?Io ?Ip ?Iq ?Ir ?Iu ?Iv ?Iw ?Iy ?Iz ?I_ ?Ja ?Jb ?Jc ?Jd ?Je ?Jf ?Jg ?Jh ?Ji ?Jj ?Jk ?Jl ?Jm ?Jn ?Jo ?Jp ?Jq ?Jr ?Js ?vg ?vh ?oh ?oi ?p ?vi ?r ?vj ?kh ?U ?jb ?vk ?ki ?vm ?kj ?kl ?km ?m ?v ?t ?Z ?x ?y ?z ?D ?jc ?jd ?je ?jf ?jg ?j ?jh ?k ?u ?b ?T ?O ?I ?S ?M ?B ?J ?L ?Q;all_goals (first | (refine' DL.zK ?i ?g ?c ?f;(case i=>k_is);(case g=>k_is);(case c=>k_is);(case f=>k_is)) | skip)
   (case vg=>k_is)
   (case vh=>k_is)
   (case oh=>k_is)
   (case oi=>k_is)
   (case p=>k_is)
   (case vi=>k_is)
   (case r=>k_is)
   (case vj=>k_is)
   (case kh=>k_is)
   (case U=>k_is)
   (case jb=>k_is)
   (case vk=>k_is)
   (case ki=>k_is)
   (case vm=>k_is)
   (case kj=>k_is)
   (case kl=>k_is)
   (case km=>decide)
   (case m=>k_is)
   (case v=>k_is)
   (case t=>k_is)
   (case Z=>k_is)
   (case x=>k_is)
   (case y=>k_is)
   (case z=>k_is)
   (case D=>k_is)
   (case jc=>k_is)
   (case jd=>k_is)
   (case je=>k_is)
   (case jf=>k_is)
   (case jg=>k_is)
   (case j=>k_is)
   (case jh=>k_is)
   (case k=>k_is)
   (case u=>k_is)
   (case b=>k_is)
   (case T=>k_is)
   (case O=>k_is)
   (case I=>k_is)
   (case S=>k_is)
   (case M=>k_is)
   (case B=>k_is)
   (case J=>k_is)
   (case L=>k_is)
   (case Q=>k_is)
#print axioms PySem.Challenge.cw_struckdeeds_k22_whole_alike_within_rows_holds
