import PyProof.Rows.All
import Wide.All
import OpenK.AllK
import Wide.FinOn
import Lean
import PyProof.EqAt
import PyProof.EqKinds
import PyProof.TupleCall
import KE.KRevIter
import PyProof.P3In
import PyProof.SumAnyB
import PyProof.NeKinds
import KE.KEqDict
import PyProof.ListRange
import PyProof.TupleOfSeq
import PyProof.Draws
import KE.KIsAll
import PyProof.WalksS
import PyProof.CollectWalk
import PyProof.SetRoads
import PyProof.Rows.SetFrom
import PyProof.RulesAssignMore
import KE.KDictList
import PySem.Challenge.RW_struckdeeds_k42_whole_no_way_takes_back
set_option Elab.async false
set_option linter.all false
set_option maxRecDepth 100000
set_option compiler.extract_closed false
set_option maxHeartbeats 4000000
open PySem.Challenge renaming pw_struckdeeds_k42_whole_no_way_takes_back->ad
open Option renaming some->al,none->am
open Bool renaming true->ap,false->bj
open PySem renaming Value->ar,Shared->ba,sizeLine->bd,mainGlobals->bm,wpAny_field->bn,World->bo,Program->bq,wpAny_holding->bv,compareOp->bx,Expr->ca,wpAny_mono->ce,wpAny_call_entry->cr,foldedSetIterable->cv,Around->cx,wpAny_truthy_bool->cE,treeTable->c3,wpAny_seqItems->c4,Heap->db,Obj->dc,IsPair->dd,wpAny_standAt->df,sizeLine_eq->dh,wpAny_setField_rec->dl,sysModules->dz,wpAny_rule->dV,assignEach->ed,binaryOp->eg,wpAny_of_eq->ej,OsState->ek,NameKind->en,wpAny_attempt->er,rawInt->et,cLine->ev,Params->ew,wpAny_Call_Name_kw->eD,tupleKind_room_in1->eH,wpAny_getItem_str_slice->eN,Pos->fb,wpAny_setField->fc,wpAny_pyIter_list->fk,firstArgMember->fl,IsZip->ft,Stmt->fv,wpAny_isInstance->fw,take_succ_filter->fx,behindInMarks->fy,sliceBounds->ga,Scope->gc,wpAny_specialOf->ge,wpAny_passesOwn->gg,wpAny_typeOf->gl,call_meetsIn->gp,bootBuiltins->gq,wpAny_pyIter_tuple->gu,field->gv,FuncData->gy,wpAny_pyIter_enum->gz,getItem->g0,wpAny_onRaise->g5,wpAny_newList->g8,comprehension->hY,attributeBase->ie,typeLookup->ig,assign->ij,wpAny_execs_nil->ip,post_val_or_str->ir,codeAny_builtin->iv,builtinLookup_eq_fast->iD,wpAny_updateSeq_pair->iE,isSubtype_type->jb,isSubtype_stop->jc,IsPart->jd,valueAt->je,tupleKind->jf,Keyword->ji
open PyProof.Rows renaming seqObj->da,kindOf->gk,IntsAre->im,AllBare->io
open PySem.Str renaming ofString->a0Q
open PySem.Value renaming ref->a0X,none->a3X,type->c0Z,str->c2V
open PySem.PyData renaming eqv->a0Z,str->a0W,int->a4V,depthAll->a6V,keyHash->b0Q,depth->b2V,strOk->b5Q,canLayAll0->b9V,bool->c0W
open PySem.Builtin.SmallTypes renaming ownedTupleIsFree->a0J,nextOf->a0K,ownedTupleHandOut->b8K
open List renaming take_add_one->a0V,mem_cons_self->a1Q,range->a1K,take_length->a1V,length_take->a2Q,getElem?_eq_none->a2X,filter_cons->a2K,lookup_cons->a3Q,replicate->a3J,drop_eq_nil_of_le->a3W,pairwise_cons->a4Z,length_drop->a4K,take_of_length_le->a5Q,pairwise_map->a5J,filter_sublist->a5K,filterMap_cons->a5W,any_cons->a5V,append_nil->a6Q,all_eq_true->a6J,append_assoc->a7Q,getElem_mem->a7K,zip_cons_cons->a8Z,mem_singleton->a8J,getElem?_zip_eq_some->a8W,mem_of_mem_take->a9Q,find?_cons->a9Z,map_nil->a9W,length->a9V,take_append_drop->b1X,length_replicate->b1Z,length_nil->b1J,getElem?_set_ne->b2J,replicate_succ->b3X,map_id->b3Z,length_reverse->b3J,eq_of_mem_replicate->b4Q,forIn_cons->b4X,filter_congr->b5X,ext_getElem?->b5Z,any_eq_false->b5J,take_eq_take_iff->b6Q,any_eq_true->b6W,of_mem_zip->b7K,length_zip->b7W,foldl_cons->b7V,perm_ext_iff_of_nodup->b8V,length_zipIdx->b9K,forIn_nil->c0Q,drop_eq_getElem_cons->c0X,getLast?_map->c0V,getElem?_take_of_lt->c1Q,foldl_append->c1X,map_drop->c1V,eraseIdx_cons_succ->c2Q,zipIdx_cons->c2K,cons_append->c2W
open PySem.Txt renaming slice->a1X
open Sum renaming inr->a1Z,inl->a4X
open Bool renaming and_eq_true->a1J,eq_iff_iff->a2Z,false_eq_true->a6X,not_eq_true'->c1Z,false_or->c2X
open PySem.W renaming mg_none_of->a1W,nsIn->a2J,kia_one->a2V,boot_heap->a4W,kHook->a6K,topRun->a6W,segRunT->a8V,fnOf->a9X,piecesOf->a9J,segRun_of->b0V,restOf->b2Q,keepIn->b2X,piece_app->b4Z,mg_of->b6Z,boot_drawn->b7J,codeIn->b8Q,boot_toks->b9Q
open Option renaming some->a2W,isSome_map->b4W,none->b7Q
open PySem.Builtin.Str renaming occurrences->a3Z,strSliceIndices->a4Q
open Int renaming toNat_natCast->a3K,natCast_nonneg->b0W,fdiv_eq_ediv_of_nonneg->b9W
open Array renaming length_toList->a3V,getElem?_toList->a7W,getElem?_eq_getElem->b2K,getElem?_eq_none->b4V,getD_eq_getD_getElem?->b7Z
open List.Sublist renaming refl->a4J
open PySem renaming mem_of_lookup->a5X
open PySem.F renaming slot_tuple_iterator_next->a5Z,slot_zip_next->a9K,slot_dict_get->b0Z,plainAttrs_dict->b3V,args_tuple_iterator_next_1->b8J,entry_tuple_iterator_next->b9X,args_tuple_add_2->b9Z,entry_tuple_add->c0J,slot_tuple_add->c1J,entry_dict_get->c1K,args_zip_next_1->c2Z
open PySem.Heap.SameBut renaming update->a6Z
open PySem.NameKind renaming free->a7X
open PyProof.Rows renaming slot_tuple_getitem->a7Z,boot_sorted->b1K,boot_list->b8W
open True renaming intro->a7J
open PySem.Obj renaming mapSeq->a7V,data_mapFields->b0K
open Ne renaming symm->a8Q
open Nat renaming le_add_right->a8X,ne_of_gt->a8K,min_eq_left->b1W,lt_trichotomy->b5K,le_succ->b5W,min_eq_right->b6V,add_le_add_right->b7X,lt_succ_of_lt->c1W,add_sub_cancel_left->c2J
open PySem.Calls renaming callWith_builtin->b0X,evalArgs_plain->b6K,call_function_entry->b9J,spliced_nil->c0K
open PySem.Builtin.Slice renaming slicePlaces->b0J,sliceAdjust->b6J
open PySem.Builtin.Tuple renaming tupleExact->b1Q
open Decidable renaming byContradiction->b1V
open PySem.W.OpenRow renaming toRowW->b2Z
open PySem.Heap renaming size_push->b2W,get?_update_self->b5V
open ForInStep renaming yield->b3Q
open False renaming elim->b3K
open PySem.Spec renaming ltCps->b3W
open PySem.W.RowW renaming records->b4J
open PySem.W.OpenLaw renaming row->b4K
open Function renaming comp->b6X
open PySem.W.Hook renaming val->b8X,obs->b8Z
open PySem renaming wpAny_bind->zZ,wpAny_pure->zY,wpAny_newObj_type->xM
open List renaming length_map->zX,getElem?_eq_getElem->zV,mem_map->zL,size_toArray->zJ,map_cons->zI,getElem?_map->zF,map_map->zD,mem_append_right->zB,mem_append_left->zA,length_append->yY,mem_cons->yX,mem_append->yW,mem_cons_of_mem->yV,getD_eq_getElem?_getD->yU,getElem?_eq_some_iff->yT,length_cons->yR,getElem?_append_left->yQ,getElem?_append_right->yP,mem_of_getElem?->yN,map_congr_left->yM,mem_filter->yL,length_filter_le->yJ,getElem?_range->yA,length_range->xZ,not_mem_nil->xX,nodup_cons->xV,filter_map->xU,map_append->xI
open PySem.Heap renaming get?_push_of_some->zW,lt_size->zM,get?_push_size->yZ
open Nat renaming le_refl->zR,lt_of_le_of_lt->zQ,lt_of_lt_of_le->zP,le_trans->zN,ne_of_lt->zC,lt_irrefl->yF,le_of_ble_eq_true->yD,zero_le->xT,le_of_lt->xR
open PySem.SeqAt renaming shaped->zH,canLay_of_shaped->zG
open Option renaming isSome_iff_exists->xY
open PySem.Calls renaming spliced_cons->xP
open PyProof.Rows renaming envOfC->xL,callWith_type1->xH,sortedS->xG
open PySem.Builtin.Int renaming intBits->xJ
open List renaming toArray->z3
local macro_rules | `(#[$e,*])=>if e.getElems.isEmpty then Lean.Macro.throwUnsupported else `(⟨$e,*⟩)
abbrev sT (n:Nat):PySem.Stmt:=ad.main.body.getD n (.Pass #[0,0,0,0])
abbrev Frg:=PySem.W.Frag
theorem nft:¬(bj=ap):=Bool.false_ne_true
namespace L2
open PySem PySem.Spec PyProof.Rows
abbrev Key:=Sum Int Str
def KY:Key->ar->Bool
 | .inl k,v=>Value.isInt k v
 | .inr x,v=>Value.isStrOf x v
def A2U (w:bo):Key->Int
 | .inl k=>hashInt k
 | .inr x=>hashStr w x
theorem B4:∀{k:Key}{v:ar},KY k v=ap->(∃i t,k=a4X i/\v=Value.int i t)\/(∃x t,k=a1Z x/\v=c2V x t)
 | .inl i,v,h=>by obtain⟨t,e⟩:=Value.isInt_shape (k:=i) (v:=v) h;exact .inl #[i,t,rfl,e]
 | .inr x,v,h=>by obtain⟨t,e⟩:=Value.isStrOf_shape (x:=x) (v:=v) h;exact .inr #[x,t,rfl,e]
theorem gB (i:Int) (t:Tok):KY (.inl i) (.int i t)=true:=by simp[KY,Value.isInt]
theorem gC (x:Str) (t:Tok):KY (.inr x) (.str x t)=true:=by simp[KY,Value.isStrOf]
theorem wB (a b:Int):decide ((a4X a:Key)=a4X b)=(a==b):=by
 by_cases e:a=b;. subst e;simp
 . have h:¬(a4X a:Key)=a4X b:=λq=>e (Sum.inl.inj q);rw[decide_eq_false h];exact(beq_eq_false_iff_ne.mpr e).symm
theorem wC (a b:Str):decide ((a1Z a:Key)=a1Z b)=decide (a=b):=by
 by_cases e:a=b;. subst e;simp
 . have h:¬(a1Z a:Key)=a1Z b:=λq=>e (Sum.inr.inj q);rw[decide_eq_false h,decide_eq_false e]
theorem wE (a:Int) (b:Str):decide ((a4X a:Key)=a1Z b)=false:=decide_eq_false (λq=>nomatch q)
theorem wF (a:Str) (b:Int):decide ((a1Z a:Key)=a4X b)=false:=decide_eq_false (λq=>nomatch q)
def AG (prog:bq) (w:bo):PySem.KeyKind prog w Key where
 is:=KY
 hash:=A2U w
 inj:=λv a b ha hb=>by
   rcases B4 ha with ⟨i,t,rfl,rfl⟩ | ⟨x,t,rfl,rfl⟩
   . rcases B4 hb with ⟨j,u,rfl,e⟩ | ⟨y,u,rfl,e⟩
     . injection e with e1 _;rw[e1]
     . exact nomatch e
   . rcases B4 hb with ⟨j,u,rfl,e⟩ | ⟨y,u,rfl,e⟩
     . exact nomatch e
     . injection e with e1 _;rw[e1]
 byValue:=λk v h=>by rcases B4 h with ⟨i,t,rfl,rfl⟩ | ⟨x,t,rfl,rfl⟩ <;> rfl
 pyHash:=λhv h=>by
   rcases B4 hv with ⟨i,t,rfl,rfl⟩ | ⟨x,t,rfl,rfl⟩
   . exact wpAny_pyHash_int h
   . exact wpAny_pyHash_str h
 eqBool:=λhu hv h=>by
   rcases B4 hu with ⟨i,t,rfl,rfl⟩ | ⟨x,t,rfl,rfl⟩
   . rcases B4 hv with ⟨j,u,rfl,rfl⟩ | ⟨y,u,rfl,rfl⟩
     . rw[wB] at h;exact wpAny_eqBool_int h
     . rw[wE] at h;exact SeqAt.EqAt.int_str i t y u _ _ _ _ h
   . rcases B4 hv with ⟨j,u,rfl,rfl⟩ | ⟨y,u,rfl,rfl⟩
     . rw[wF] at h;exact SeqAt.EqAt.str_int x t j u _ _ _ _ h
     . rw[wC] at h;exact wpAny_eqBool_str h
 «strs»:=λk x t v h=>by
   rcases B4 h with ⟨i,u,rfl,e⟩ | ⟨y,u,rfl,e⟩
   . exact nomatch e
   . injection e with e1 _;subst e1;cases v <;> rfl
theorem XN (prog:bq) (w:bo) (i:Int) (t:Tok):(AG prog w).is (.inl i) (.int i t)=true:=gB i t
theorem OP (prog:bq) (w:bo) (x:Str) (t:Tok):(AG prog w).is (.inr x) (.str x t)=true:=gC x t
inductive V where
 | non | bl (b:Bool) | int (i:Int) | str (x:Str) | byt (b:Array UInt8) | flt (b:UInt64) | ref (a:Addr) | ty (n:String)
 deriving DecidableEq
def RelV:V->ar->Prop
 | .non,u=>u=a3X
 | .bl b,u=>u=Value.bool b
 | .int i,u=>∃t,u=Value.int i t
 | .str x,u=>∃t,u=c2V x t
 | .byt b,u=>∃t,u=Value.bytes b t
 | .flt b,u=>∃t,u=Value.float b t
 | .ref a,u=>u=a0X a
 | .ty n,u=>u=c0Z n
abbrev Vals:List V->List ar->Prop:=Paired RelV
theorem Vals.length (r:Vals xs e):xs.length=e.length:=Paired.length r
theorem Vals.get:∀{xs:List V}{n:List ar}{i:Nat}{x:V},Vals xs n->xs[i]?=al x->∃u,n[i]?=al u/\RelV x u
 | _,_,_,_,.nil,e=>by simp at e
 | _,_,0,_,.cons r _,e=>by simp at e;subst e;exact#[_,rfl,r]
 | _,_,i+1,x,.cons _ t,e=>by obtain⟨u,h1,a⟩:=Vals.get (i:=i) (x:=x) t (by simpa using e);exact#[u,by simpa using h1,a]
theorem Vals.set (r:RelV x u):∀{xs:List V}{e:List ar}(i:Nat),Vals xs e->Vals (xs.set i x) (e.set i u)
 | _,_,_,.nil=>.nil
 | _,_,0,.cons _ t=>.cons r t
 | _,_,i+1,.cons q t=>.cons q (Vals.set r i t)
theorem Vals.append:∀{xs ys:List V}{e o:List ar},Vals xs e->Vals ys o->Vals (xs++ys) (e++o)
 | _,_,_,_,.nil,s=>s
 | _,_,_,_,.cons r t,s=>.cons r (Vals.append t s)
theorem Vals.take:∀{xs:List V}{e:List ar}(n:Nat),Vals xs e->Vals (xs.take n) (e.take n)
 | _,_,0,_=>.nil
 | _,_,_+1,.nil=>.nil
 | _,_,n+1,.cons r t=>.cons r (Vals.take n t)
theorem Vals.drop:∀{xs:List V}{e:List ar}(n:Nat),Vals xs e->Vals (xs.drop n) (e.drop n)
 | _,_,0,r=>r
 | _,_,_+1,.nil=>.nil
 | _,_,n+1,.cons _ t=>Vals.drop n t
def RelO:Option V->Option ar->Prop
 | some v,al u=>RelV v u
 | none,am=>True
 | _,_=>False
def KV {e:Type}:List (e×V)->List (e×ar)->Prop:=Paired λ(p:e×V) (q:e×ar)=>p.1=q.1/\RelV p.2 q.2
def kV:Key->V
 | .inl i=>.int i
 | .inr x=>.str x
inductive HO where
 | lst (xs:List V)
 | tup (xs:List V)
 | dK (kvs:List (Key×V)) | dT (kvs:List (List Key×V))
 | set (S:Int->Bool) (n:Nat)
 | ins (C dx:Addr) (fs:List (Str×V))
 | own (x:Addr)
 | xd (fs:List (Str×V))
 | met (f x:Addr)
 | rng (lo hi:Int)
 | frz (o:dc) (u:HO)
 | tbl (ps:Array ar)
 | ext (φ:db->Prop)
abbrev Hp:=Addr->Option HO
def upd (H:Hp) (a:Addr) (o:HO):Hp:=λb=>if b=a then al o else H b
theorem AD :upd H a o a=al o:=by unfold upd;rw[if_pos rfl]
theorem AH (h:b≠a):upd H a o b=H b:=by unfold upd;rw[if_neg h]
theorem A1C {H:Hp}(h:H a=al o) (h':H b=al u) (d:o≠u):a≠b:=by intro e;subst e;rw[h] at h';exact d (Option.some.inj h')
theorem B1 {H:Hp}(h:H a=al o) (h':H b=am):a≠b:=by intro e;subst e;rw[h] at h';cases h'
section
variable (P:bq) (w:bo)
def ObjOk (H:Hp) (h:db) (a:Addr):HO->Prop
 | .lst e=>e.length<=bd/\∃(i:List ar) (n:Nat),Vals e i/\h.get? a=al { cls:=.type "list", data:=.seq i.toArray n }
 | .tup e=>e.length<=bd/\∃i:List ar,Vals e i/\IsTup h a i.toArray
 | .dK kvs=>kvs.length<=bd/\(a==dz)=bj/\∃c,KV kvs c/\h.DictOf (AG P w) a c
 | .dT kvs=>kvs.length<=bd/\(a==dz)=bj/\∃e:List (List Key×Addr×ar),
     Paired (λ(p:List Key×V) (q:List Key×Addr×ar)=>p.1=q.1/\H q.2.1=al (.tup (p.1.map kV))/\RelV p.2 q.2.2) kvs e /\
     ∃o z M,h.get? a=al o/\o.ExactDict/\o.data = .dict z M/\z.toList=e.map (entryOfKey (jf (AG P w)))/\(e.map (·.1)).Nodup
 | .set S n=>h.SetOf (intKind P w) a S n
 | .ins C r fs=>H r=al (.own a)/\fs.length<=1000/\r≠a/\h.get? a=al (PySem.W.instObj C r) /\∃U,h.Ns1 r U/\(∀f,RelO (fs.lookup f) (U f))/\PySem.Within U (fs.map (·.1))
 | .own _=>∃o,h.get? a=al o
 | .xd fs=>∃U,h.Ns1 a U/\∀f,RelO (fs.lookup f) (U f)
 | .rng g hi=>∃t u v,h.get? a=al { cls:=.type "range", data:=.fields (z3 [.int g t,.int hi u,.int 1 v]) }
 | .frz o u=>h.get? a=al o/\ObjOk H h a u
 | .tbl j=>h.get? a=al { cls:=.none,data:=.fields j }
 | .met f x=>h.get? a=al (PySem.W.methodObj (.ref f) (.ref x))
 | .ext m=>m h/\(∃o,h.get? a=al o)/\∀h1 b:db,m h1->(∀o,h1.get? a=al o->b.get? a=al o)->m b
def HOk (H:Hp) (h:db):Prop:=∀a o,H a=al o->ObjOk P w H h a o
end
section
variable {P:bq}{w:bo}{H H':Hp}{h h':db}{a:Addr}{o:HO}
theorem ObjOk.lt (x:ObjOk P w H h a o):a < h.objs.size:=by
 cases o with
 | lst t=>obtain⟨_,_,_,_,e⟩:=x;exact zM e
 | tup t=>obtain⟨_,_,_,p⟩:=x;exact p.lt
 | dK kvs=>obtain⟨_,_,_,_,o,_,_,e,_⟩:=x;exact zM e
 | dT kvs=>obtain⟨_,_,_,_,o,_,_,e,_⟩:=x;exact zM e
 | set S n=>obtain⟨o,_,_,_,e,_⟩:=x;exact zM e
 | ins C i fs=>obtain⟨_,_,_,e,_⟩:=x;exact zM e
 | own y=>obtain⟨_,e⟩:=x;exact zM e
 | xd fs=>obtain⟨_,⟨_,_,_,e,_⟩,_⟩:=x;exact zM e
 | rng r hi=>obtain⟨_,_,_,e⟩:=x;exact zM e
 | frz N u=>obtain⟨e,_⟩:=x;exact zM e
 | tbl m=>exact zM (show h.get? a=al _ from x)
 | met f y=>exact zM (show h.get? a=al _ from x)
 | ext b=>obtain⟨_,⟨_,e⟩,_⟩:=x;exact zM e
theorem Paired.mapP :∀{e:List i}{n:List S},Paired F e n->(∀a b,F a b->G a b)->Paired G e n
 | _,_,.nil,_=>.nil
 | _,_,.cons r t,f=>.cons (f _ _ r) (Paired.mapP t f)
theorem ObjOk.stay (x:ObjOk P w H h a o) (k:∀b u,(b=a\/H b=al (.own a))->h.get? b=al u->h'.get? b=al u) (I:∀b,H b=al (.own a)->H' b=al (.own a)) (R:∀b xs,H b=al (.tup xs)->H' b=al (.tup xs)):ObjOk P w H' h' a o:=by
 induction o with
 | lst xs=>obtain⟨z,m,n,r,e⟩:=x;exact#[z,m,n,r,k _ _ (.inl rfl) e]
 | tup xs=>obtain⟨z,m,r,N,e,c⟩:=x;exact#[z,m,r,N,k _ _ (.inl rfl) e,c]
 | dK kvs=>obtain⟨z,y,G,r,N,i,M,e,c⟩:=x;exact#[z,y,G,r,N,i,M,k _ _ (.inl rfl) e,c]
 | dT kvs=> obtain⟨z,y,xs,r,N,i,M,e,c⟩:=x;exact#[z,y,xs,Paired.mapP r λp q z=>#[z.1,R _ _ z.2.1,z.2.2],N,i,M,k _ _ (.inl rfl) e,c]
 | set S n=>obtain⟨N,i,M,t,e,c⟩:=x;exact#[N,i,M,t,k _ _ (.inl rfl) e,c]
 | ins C J fs=> obtain⟨d,z,B,e,U,⟨O,i,M,T,c⟩,r⟩:=x;exact#[I _ d,z,B,k _ _ (.inl rfl) e,U,#[O,i,M,k _ _ (.inr d) T,c],r]
 | own y=>obtain⟨N,e⟩:=x;exact#[N,k _ _ (.inl rfl) e]
 | xd fs=>obtain⟨U,⟨O,i,M,e,c⟩,r⟩:=x;exact#[U,#[O,i,M,k _ _ (.inl rfl) e,c],r]
 | rng L hi=>obtain⟨t,u,v,e⟩:=x;exact#[t,u,v,k _ _ (.inl rfl) e]
 | frz N u D=>obtain⟨e,q⟩:=x;exact#[k _ _ (.inl rfl) e,D q]
 | tbl g=> have e:h.get? a=al { cls:=.none,data:=.fields g }:=x;show h'.get? a=al { cls:=.none,data:=.fields g };exact k a _ (.inl rfl) e
 | met f y=> have e:h.get? a=al (PySem.W.methodObj (.ref f) (.ref y)):=x;show h'.get? a=al (PySem.W.methodObj (.ref f) (.ref y));exact k a _ (.inl rfl) e
 | ext Q=>obtain⟨p,⟨o,e⟩,j⟩:=x;exact#[j _ _ p λo q=>k _ _ (.inl rfl) q,#[o,k _ _ (.inl rfl) e],j]
theorem HOk.lt (x:HOk P w H h) (e:H a=al o):a < h.objs.size:=(x a o e).lt
theorem HOk.fresh (x:HOk P w H h) (e:h.objs.size<=a):H a=none:=by
 cases q:H a with
 | none=>rfl
 | some u=>exact absurd (zP (x.lt q) e) (yF _)
theorem HOk.kept (x:HOk P w H h) (k:∀b u,h.get? b=al u->h'.get? b=al u):HOk P w H h':=λa o e=>
 (x a o e).stay (λb u _ q=>k b u q) (λ_ q=>q) λ_ _ q=>q
theorem HOk.laid (x:HOk P w H h) (k:∀b u,h.get? b=al u->h'.get? b=al u) (hp:h.objs.size<=a) (new:ObjOk P w (upd H a o) h' a o):HOk P w (upd H a o) h':=λb u e=>by
 have hn:=x.fresh hp;by_cases hb:b=a;. subst hb;rw[AD] at e;cases e;exact new
 . rw[AH hb] at e;exact(x b u e).stay (λc v _ q=>k c v q) (λc q=>by rw[AH (B1 q hn)];exact q) λc t q=>by rw[AH (B1 q hn)];exact q
end
def Rd (H:Hp) (a:Addr) (u:HO):Prop:=H a=al u\/∃o,H a=al (.frz o u)
theorem Rd.ok (r:Rd H a u) (x:HOk P w H h):ObjOk P w H h a u:=by
 rcases r with r | ⟨o,r⟩
 . exact x a u r
 . obtain⟨_,q⟩:=x a _ r;exact q
def Mut:Option HO->Prop
 | some (.lst _)=>True
 | some (.dK _)=>True
 | some (.dT _)=>True
 | some (.set _ _)=>True
 | some (.ins _ _ _)=>True
 | some (.ext _)=>True
 | _=>False
section
theorem HOk.write (ok:HOk P w H h) (R:Mut (H x)) (he:e=x\/H e=al (.own x)) (k:∀b u,b≠e->h.get? b=al u->h'.get? b=al u) (a:∃u,h'.get? e=al u) (new:ObjOk P w (upd H x o') h' x o'):HOk P w (upd H x o') h':=λb u q=>by
 have B:∀c y,H c=al (.own y)->c≠x:=λc y r z=>by subst z;rw[r] at R;exact R
 have Y:∀c t,H c=al (.tup t)->c≠x:=λc t r z=>by subst z;rw[r] at R;exact R
 by_cases hb:b=x;. subst hb;rw[AD] at q;cases q;exact new
 . rw[AH hb] at q;by_cases hbe:b=e
   . have m:H b=al (.own x):=by
       rcases he with z | z;. exact absurd (hbe.trans z) hb
       . rw[hbe];exact z
     rw[q] at m;cases m;obtain⟨v,n⟩:=a;exact#[v,by rw[hbe];exact n]
   . refine(ok b u q).stay (λc v hc r=>k c v ?_ r) (λc r=>by rw[AH (B c b r)];exact r) λc t r=>by rw[AH (Y c t r)];exact r
     rcases hc with rfl | hc;. exact hbe
     . rintro rfl;rcases he with z | z;. exact B c b hc z
       . rw[hc] at z;cases z;exact hb rfl
end
structure Un (fs ex:List Addr) (H H':Hp) (h h':db):Prop where
 keep:∀b o,h.get? b=al o->H b=am->b∉fs->b∉ex->h'.get? b=al o
 slot:∀b o,h.get? b=al o->H b=am->b∈fs->b∉ex->∃sl,h'.get? b=al { o with slots:=sl }
 free:∀b o,h.get? b=al o->H b=am->b∉ex->H' b=am
 there:∀b o,h.get? b=al o->b∉ex->∃o',h'.get? b=al o'
 tups:∀b xs,H b=al (.tup xs)->H' b=al (.tup xs)
 frzs:∀b o u,H b=al (.frz o u)->H' b=al (.frz o u)
 tbls:∀b ps,H b=al (.tbl ps)->∃more,H' b=al (.tbl (ps++more))
section
variable {fs Io ex vm:List Addr}{H H1 H2:Hp}{h h1 h2 h':db}{a x e:Addr}{o:HO}
theorem Un.any (u:Un fs ex H H1 h h1) (q:h.get? b=al N) (n:H b=am) (hx:b∉ex):∃sl,h1.get? b=al { N with slots:=sl }:=by
 by_cases hb:b∈fs;. exact u.slot b N q n hb hx
 . exact#[N.slots,u.keep b N q n hb hx]
theorem Un.kept (k:∀b u,h.get? b=al u->h'.get? b=al u):Un fs ex H H h h':=#[λb N q _ _ _=>k b N q,λb N q _ _ _=>#[N.slots,k b N q],λ_ _ _ n _=>n,λb N q _=>#[N,k b N q],λ_ _ q=>q,λ_ _ _ q=>q,λ_ f q=>#[#[],by rw[q];simp]]
theorem Un.refl:Un fs ex H H h h:=Un.kept λ_ _ q=>q
theorem Un.laid (k:∀b u,h.get? b=al u->h'.get? b=al u) (hp:h.objs.size<=a) (hn:H a=am):Un fs ex H (upd H a o) h h' where
 keep:=λb u q _ _ _=>k b u q
 slot:=λb u q _ _ _=>#[u.slots,k b u q]
 free:=λb u q n _=>by rw[AH (zC (zP (zM q) hp))];exact n
 there:=λb u q _=>#[u,k b u q]
 tups:=λb xs q=>by rw[AH (B1 q hn)];exact q
 frzs:=λb u xs q=>by rw[AH (B1 q hn)];exact q
 tbls:=λb ps q=>#[#[],by rw[AH (B1 q hn),q];simp]
theorem Un.write (R:Mut (H x)) (he:e=x\/H e=al (.own x)) (k:∀b u,b≠e->h.get? b=al u->h'.get? b=al u) (Y:∃u,h'.get? e=al u):Un fs ex H (upd H x o) h h':=by
 have hx:∀b,H b=am->b≠x:=λb n z=>by subst z;rw[n] at R;exact R
 have hb:∀b,H b=am->b≠e:=λb n z=>by
   subst z;rcases he with r | r;. exact hx b n r
   . rw[n] at r;cases r
 have j:∀b u,H b=al u->¬Mut (al u)->b≠x:=λb u q t z=>by subst z;rw[q] at R;exact t R
 refine#[λb u q n _ _=>k b u (hb b n) q,λb u q n _ _=>#[u.slots,k b u (hb b n) q],λb u q n _=>by rw[AH (hx b n)];exact n,λb u q _=>?_,
   λb i q=>by rw[AH (j b _ q λz=>z)];exact q,λb u i q=>by rw[AH (j b _ q λz=>z)];exact q,λb f q=>#[#[],by rw[AH (j b _ q λz=>z),q];simp]];by_cases hbe:b=e
 . subst hbe;exact Y
 . exact#[u,k b u hbe q]
end
def trk (h:db) (H:Hp):List Addr:=(a1K h.objs.size).filter λa=>(H a).isSome
def V2 (h:db) (H:Hp):Heap:=PySem.W.hideAll h (trk h H)
theorem gD (h:db) (H:Hp):(V2 h H).objs.size=h.objs.size:=PySem.W.hideAll_size _ _
theorem k6 (e:h.get? b=al o) (n:H b=am):(V2 h H).get? b=al o:=
 PySem.W.hideAll_get _ e λj=>by have q:(H b).isSome=true:=(yL.mp j).2;rw[n] at q;simp at q
theorem pP (e:(V2 h H).get? b=al o):h.get? b=al o/\H b=none:=by
 have e':h.get? b=al o:=PySem.W.of_hideAll (trk h H) e;refine#[e',?_];cases q:H b with
 | none=>rfl
 | some x=> have j:b∈trk h H:=yL.mpr #[List.mem_range.mpr (zM e'),by simp[q]];have z:(V2 h H).get? b=none:=PySem.W.hideAll_none (trk h H) j;rw[z] at e;cases e
structure Mod (K:Frg) (mg:Str->Option ar) (base:db):Prop where
 kin:K.In base
 glob:base.Ns bm mg
 blt:∃mb,base.Ns builtinsNs mb/\∀x:Str,x ≠ "__name__" -> mb x=gq x
 nolimit:base.NoLimit
structure Cx where
 prog:bq
 w:bo
 K:Frg
 mg:Str->Option ar
 base:db
 A:cx
 N:List Str
 s₀:ba
 H₀:Hp
 env:Env
 outer:List Env
 stack:List Env
 ex:List Addr
 fn:Str->Bool
 calm:Bool
 pn:List (Addr×dc)
 xe:ar->ba->Prop
def frs (l:List Env):List Addr:=l.filterMap (·.frame)
abbrev Cx.fs (X:Cx):List Addr:=frs X.outer
def Vis (j:gc) (x:Str):Prop:=j.names.lookup x=al .local\/j.names.lookup x=al .cell\/j.names.lookup x=al .free
def Loc (j:gc) (x:Str):Prop:=j.names.lookup x=al .local\/j.names.lookup x=al .cell
def A2V (env:Env) (h:db) (m:Str->Option ar) (x:Str) (u:ar):Prop:=(env.kindOf x=al .local/\m x=al u)\/((env.kindOf x=al .cell\/env.kindOf x=al .free)/\∃c,env.cells.lookup x=al c/\h.IsCell c (al u))
structure Cx.Ok (X:Cx):Prop where
 mod:Mod X.K X.mg X.base
 kind:X.env.scope.kind = .function
 glob:X.env.globals=bm
 blt:X.env.builtins=builtinsNs
 above:X.s₀.heap.objs.size<=X.env.locals
 inj:∀x y c,X.env.cells.lookup x=al c->X.env.cells.lookup y=al c->x=y
 has:∀x,(X.env.kindOf x=al .cell\/X.env.kindOf x=al .free)->∃c,X.env.cells.lookup x=al c
 cab:∀x c,X.fn x=ap->X.env.cells.lookup x=al c->X.s₀.heap.objs.size<=c
 hd:X.calm=ap->X.A.handled=am
 frames:X.A.frames=al X.stack
 stk:X.stack=X.outer\/(X.stack=X.env::X.outer/\X.env.frame=al X.env.locals)
 exf:∀b∈X.ex,b≠X.env.locals/\∀x c,X.env.cells.lookup x=al c->c≠b
 bs:∀b o,X.base.get? b=al o->X.s₀.heap.get? b=al o/\X.H₀ b=am
 bsz:X.base.objs.size<=X.s₀.heap.objs.size
 noex:∀b o,X.base.get? b=al o->b∉X.ex
 exfs:∀b∈X.ex,b∉X.fs
 funs:X.s₀.heap.FunFrames X.base X.outer
 frf:∀b∈X.fs,X.H₀ b=am
structure Inv (X:Cx) (pins:List (Addr×dc)) (σ:List (Option V)) (H:Hp) (s:ba):Prop where
 ok:X.Ok
 os:s.os=X.s₀.os
 bare:io s.gens
 base:Un X.fs X.ex X.H₀ H X.s₀.heap s.heap
 loc:∃m,s.heap.Ns X.env.locals m/\∀(i:Nat) (x:Str) (v:V),X.N[i]?=al x->σ[i]?=al (al v)->Vis X.env.scope x->∃u,RelV v u/\A2V X.env s.heap m x u
 cell:∀x c,X.env.cells.lookup x=al c->∃v,s.heap.IsCell c v
 free:H X.env.locals=am
 freeC:∀x c,X.env.cells.lookup x=al c->H c=am
 pin:∀p∈X.pn++pins,s.heap.get? p.1=al p.2/\H p.1=am/\p.1≠X.env.locals/\p.1∉X.fs/\∀v,p.2.data≠.cell v
 hok:HOk X.prog X.w H s.heap
 len:σ.length=X.N.length
section
variable {X:Cx}{pins:List (Addr×dc)}{σ:List (Option V)}{H H':Hp}{s:ba}{h':db}
theorem Cx.Ok.nofr (ok:X.Ok) (e:X.base.get? b=al o):b∉X.fs:=λhb=>by have:=(ok.funs.mem hb).1;rw[e] at this;cases this
theorem Inv.bs (I:Inv X pins σ H s):∀b o,X.base.get? b=al o->s.heap.get? b=al o/\H b=none:=λb o e=>
 #[I.base.keep b o (I.ok.bs b o e).1 (I.ok.bs b o e).2 (I.ok.nofr e) (I.ok.noex b o e),I.base.free b o (I.ok.bs b o e).1 (I.ok.bs b o e).2 (I.ok.noex b o e)]
theorem Inv.bk (I:Inv X pins σ H s):∀b o,X.base.get? b=al o->s.heap.get? b=al o:=λb o e=>(I.bs b o e).1
theorem Inv.mod (I:Inv X pins σ H s):Mod X.K X.mg X.base:=I.ok.mod
theorem Inv.kIn (I:Inv X pins σ H s):X.K.In s.heap:=I.ok.mod.kin.keeps I.bk
theorem Inv.lt (I:Inv X pins σ H s):X.env.locals < s.heap.objs.size:=let #[_,hn,_]:=I.loc;hn.lt
theorem Inv.sz (I:Inv X pins σ H s):X.s₀.heap.objs.size<=s.heap.objs.size:=zN I.ok.above (xR I.lt)
theorem Inv.nofs (I:Inv X pins σ H s) {a:Addr}(h:s.heap.objs.size<=a):a∉X.fs:=λhb=>by obtain⟨_,o,T,_⟩:=I.ok.funs.mem hb;exact absurd (zP (zM T) (zN I.sz h)) (yF _)
theorem Inv.cne (I:Inv X pins σ H s):∀x c,X.env.cells.lookup x=al c->c≠X.env.locals:=λx c e z=>by obtain⟨v,o,T,hd⟩:=I.cell x c e;obtain⟨m,⟨r,n,M,t,Z,_⟩,_⟩:=I.loc;rw[z,t] at T;cases T;rw[Z] at hd;cases hd
theorem Inv.funs (I:Inv X pins σ H s):s.heap.FunFrames X.base X.outer:=by
 have all:∀(l:List Env),(∀b∈frs l,b∈X.fs)->X.s₀.heap.FunFrames X.base l->s.heap.FunFrames X.base l:=by
   intro l;induction l with
   | nil=>intro _ _;trivial
   | cons env r U=> intro hs m;obtain⟨hk,⟨L,o,B,hn,T,hd⟩,hr⟩:=m;have hL:L∈X.fs:=hs L (by unfold frs;rw[a5W,B];exact a1Q);obtain⟨sl,e⟩:=I.base.slot L o T (I.ok.frf L hL) hL λz=>I.ok.exfs L z hL;exact#[hk,#[L,_,B,hn,e,hd],U (λb hb=>hs b (by unfold frs;rw[a5W,B];exact yV _ hb)) hr]
 exact all X.outer (λ_ hb=>hb) I.ok.funs
theorem Inv.stack (I:Inv X pins σ H s):s.heap.FunFrames X.base X.stack:=by
 rcases I.ok.stk with e | ⟨e,B⟩
 . rw[e];exact I.funs
 . rw[e];obtain⟨m,hn,_⟩:=I.loc;refine .cons (by rw[I.ok.kind];decide) B hn ?_ I.funs;exact Heap.get?_none_of_le (zN I.ok.bsz I.ok.above)
theorem Inv.stkSub (I:Inv X pins σ H s):∀b∈frs X.stack,b∈X.env.locals::X.fs:=λb hb=>by
 rcases I.ok.stk with e | ⟨e,B⟩
 . rw[e] at hb;exact yV _ hb
 . rw[e] at hb;unfold frs at hb;rw[a5W,B] at hb;exact hb
theorem Inv.stkFree (I:Inv X pins σ H s):∀b∈frs X.stack,H b=none:=λb hb=>by
 rcases yX.mp (I.stkSub b hb) with e | hb;. rw[e];exact I.free
 . obtain⟨_,o,T,_⟩:=I.ok.funs.mem hb;exact I.base.free b o T (I.ok.frf b hb) λz=>I.ok.exfs b z hb
theorem Inv.step {ch:List Addr}(I:Inv X pins σ H s) (a:∀b∈ch,(b∈X.ex\/X.s₀.heap.objs.size<=b)/\b≠X.env.locals/\(∀x c,X.env.cells.lookup x=al c->c≠b)/\∀p∈X.pn++pins,p.1≠b) (keep:∀b o,b≠X.env.locals->b∉X.fs->b∉ch->s.heap.get? b=al o->H b=am->h'.get? b=al o) (slot:∀b o,b≠X.env.locals->b∈X.fs->b∉ch->s.heap.get? b=al o->H b=am->∃sl,h'.get? b=al { o with slots:=sl }) (free:∀b o,b∉ch->s.heap.get? b=al o->H b=am->H' b=am) (there:∀b o,b∉ch->s.heap.get? b=al o->∃g,h'.get? b=al g) (tups:∀b xs,H b=al (.tup xs)->H' b=al (.tup xs)) (frzs:∀b o u,H b=al (.frz o u)->H' b=al (.frz o u)) (tbls:∀b j,H b=al (.tbl j)->∃more,H' b=al (.tbl (j++more))) (ns:∀m,s.heap.Ns X.env.locals m->h'.Ns X.env.locals m) (hok:HOk X.prog X.w H' h') (hg:io g') :
   Inv X pins σ H' { s with heap:=h',gens:=g',drawn:=d',toks:=t' }:=by
 have N:∀b o,X.s₀.heap.get? b=al o->b≠X.env.locals:=λb o e=>zC (zP (zM e) I.ok.above);have y:∀b o,X.s₀.heap.get? b=al o->b∉X.ex->b∉ch:=λb o e hx hb=>by
   rcases (a b hb).1 with z | z;. exact hx z
   . exact absurd (zP (zM e) z) (yF _)
 have cellK:∀x c,X.env.cells.lookup x=al c->∀v,s.heap.IsCell c v->h'.IsCell c v:=λx c e v #[o,T,hd]=>by
   have R:c∉ch:=λz=>(a c z).2.2.1 x c e rfl;by_cases hc:c∈X.fs;. obtain⟨sl,q⟩:=slot c o (I.cne x c e) hc R T (I.freeC x c e);exact#[_,q,hd]
   . exact#[o,keep c o (I.cne x c e) hc R T (I.freeC x c e),hd]
 refine#[I.ok,I.os,hg,#[λb o e n hb hx=>?_,λb o e n hb hx=>?_,λb o e n hx=>?_,λb o e hx=>?_,λb xs e=>tups b xs (I.base.tups b xs e),λb o xs e=>frzs b o xs (I.base.frzs b o xs e),λb j e=>?_],?_,λx c e=>?_,?_,λx c e=>?_,λp hp=>?_,hok,I.len];. exact keep b o (N b o e) hb (y b o e hx) (I.base.keep b o e n hb hx) (I.base.free b o e n hx)
 . obtain⟨sl,t⟩:=I.base.slot b o e n hb hx;obtain⟨S,f⟩:=slot b _ (N b o e) hb (y b o e hx) t (I.base.free b o e n hx);exact#[S,f]
 . obtain⟨g,t⟩:=I.base.there b o e hx;exact free b g (y b o e hx) t (I.base.free b o e n hx)
 . obtain⟨g,t⟩:=I.base.there b o e hx;exact there b g (y b o e hx) t
 . obtain⟨B,t⟩:=I.base.tbls b j e;obtain⟨G,f⟩:=tbls b _ t;exact#[B++G,by rw[f,Array.append_assoc]]
 . obtain⟨m,hn,D⟩:=I.loc;refine#[m,ns m hn,λi x v t f M=>?_];obtain⟨u,r,l⟩:=D i x v t f M;refine#[u,r,?_];rcases l with l | ⟨k,c,e,z⟩
   . exact .inl l
   . exact .inr #[k,c,e,cellK x c e _ z]
 . obtain⟨v,z⟩:=I.cell x c e;exact#[v,cellK x c e v z]
 . obtain⟨m,⟨o,_,_,T,_⟩,_⟩:=I.loc;exact free _ o (λz=>(a _ z).2.1 rfl) T I.free
 . obtain⟨v,o,T,hd⟩:=I.cell x c e;exact free c o (λz=>(a c z).2.2.1 x c e rfl) T (I.freeC x c e)
 . obtain⟨e,n,O,Z,d⟩:=I.pin p hp;have R:p.1∉ch:=λz=>(a p.1 z).2.2.2 p hp rfl;exact#[keep p.1 p.2 O Z R e n,free p.1 p.2 R e n,O,Z,d]
theorem Inv.un (I:Inv X pins σ H s) (u:Un X.fs [] H H' s.heap h') (hok:HOk X.prog X.w H' h'):Inv X pins σ H' { s with heap:=h',toks:=t' }:=by obtain⟨m,⟨o,i,M,T,r⟩,_⟩:=id I.loc;obtain⟨sl,hL⟩:=u.any T I.free (by simp);exact I.step (g':=s.gens) (d':=s.drawn) (ch:=[]) (λ_ z=>nomatch z) (λb o _ hb _ e n=>u.keep b o e n hb (by simp)) (λb o _ hb _ e n=>u.slot b o e n hb (by simp)) (λb o _ e n=>u.free b o e n (by simp)) (λb o _ e=>u.there b o e (by simp)) u.tups u.frzs u.tbls (λp j=>by obtain⟨c,Q,S,t,a⟩:=j;rw[T] at t;cases t;exact#[_,Q,S,hL,a]) hok I.bare
theorem Inv.call (I:Inv X pins σ H s) (u:Un (frs X.stack) ch H H' s.heap h') (hok:HOk X.prog X.w H' h') (hg:io g') (a:∀b∈ch,(b∈X.ex\/X.s₀.heap.objs.size<=b)/\b≠X.env.locals/\(∀x c,X.env.cells.lookup x=al c->c≠b)/\∀p∈X.pn++pins,p.1≠b) :
   Inv X pins σ H' { s with heap:=h',gens:=g',drawn:=d',toks:=t' }:=by obtain⟨m,⟨o,f,M,T,r⟩,_⟩:=id I.loc;obtain⟨sl,hL⟩:=u.any T I.free λz=>(a _ z).2.1 rfl;exact I.step (ch:=ch) a (λb o hL hb hc e n=>u.keep b o e n (λz=>(yX.mp (I.stkSub b z)).elim hL hb) hc) (λb o _ _ hc e n=>u.any e n hc) (λb o hc e n=>u.free b o e n hc) (λb o hc e=>u.there b o e hc) u.tups u.frzs u.tbls (λg j=>by obtain⟨k,Q,S,t,i⟩:=j;rw[T] at t;cases t;exact#[_,Q,S,hL,i]) hok hg
theorem Inv.turned (I:Inv X pins σ H s) (k:∀b o,b≠it->s.heap.get? b=al o->h'.get? b=al o) (hn:H it=am) (hL:it≠X.env.locals) (h1:it∈X.ex\/X.s₀.heap.objs.size<=it) (i:∀x c,X.env.cells.lookup x=al c->c≠it) (G:∀p∈X.pn++pins,p.1≠it):Inv X pins σ H { s with heap:=h',toks:=t' }:=by
 have t:∀b u,H b=al u->b≠it:=λb u e z=>by rw[z,hn] at e;cases e
 refine I.step (g':=s.gens) (d':=s.drawn) (ch:=[it]) (λb hb=>?_) (λb o _ _ hc e _=>k b o (λz=>hc (by simp[z])) e) (λb o _ _ hc e _=>#[o.slots,k b o (λz=>hc (by simp[z])) e]) (λ_ _ _ _ n=>n)
   (λb o hc e=>#[o,k b o (λz=>hc (by simp[z])) e]) (λ_ _ e=>e) (λ_ _ _ e=>e) (λb f e=>#[#[],by rw[e];simp]) (λm j=>?_) (λb u e=>?_) I.bare
 . have e:b=it:=by simpa using hb
   subst e;exact#[h1,hL,i,G]
 . obtain⟨o,a,M,T,r⟩:=j;exact#[o,a,M,k _ o (a8Q hL) T,r]
 . refine(I.hok b u e).stay (λc v hc q=>k c v ?_ q) (λ_ q=>q) λ_ _ q=>q;rcases hc with z | z;. rw[z];exact t b u e
   . exact t c _ z
theorem Inv.tok (I:Inv X pins σ H s) (t:Nat):Inv X pins σ H { s with toks:=t }:=I.un (h':=s.heap) (t':=t) Un.refl I.hok
theorem Inv.kept (I:Inv X pins σ H s) (k:∀b u,s.heap.get? b=al u->h'.get? b=al u):Inv X pins σ H { s with heap:=h',toks:=t' }:=I.un (Un.kept k) (I.hok.kept k)
theorem Inv.laid {a:Addr}(I:Inv X pins σ H s) (k:∀b u,s.heap.get? b=al u->h'.get? b=al u) (hp:s.heap.objs.size<=a) (new:ObjOk X.prog X.w (upd H a o) h' a o) :
   Inv X pins σ (upd H a o) { s with heap:=h',toks:=t' }:=I.un (Un.laid k hp (I.hok.fresh hp)) (I.hok.laid k hp new)
theorem Inv.write (I:Inv X pins σ H s) (R:Mut (H x)) (he:e=x\/H e=al (.own x)) (k:∀b u,b≠e->s.heap.get? b=al u->h'.get? b=al u) (Y:∃u,h'.get? e=al u) (new:ObjOk X.prog X.w (upd H x o) h' x o):Inv X pins σ (upd H x o) { s with heap:=h',toks:=t' }:=I.un (Un.write R he k Y) (I.hok.write R he k Y new)
theorem Inv.weak (I:Inv X pins σ H s) (n:S.length=σ.length) (w:∀(i:Nat) v,S[i]?=al (al v)->σ[i]?=al (al v)):Inv X pins S H s:=#[I.ok,I.os,I.bare,I.base,let #[m,hn,t]:=I.loc;#[m,hn,λi x v c f e=>t i x v c (w i v f) e],I.cell,I.free,I.freeC,I.pin,I.hok,n.trans I.len]
theorem Inv.pins_of (I:Inv X pins σ H s) (h:∀p∈O,s.heap.get? p.1=al p.2/\H p.1=am/\p.1≠X.env.locals/\p.1∉X.fs/\∀v,p.2.data≠.cell v):Inv X O σ H s:=#[I.ok,I.os,I.bare,I.base,I.loc,I.cell,I.free,I.freeC,λp hp=>(yW.mp hp).elim (λz=>I.pin p (zA _ z)) (h p),I.hok,I.len]
theorem XO {N:List Str}(hN:N.Nodup) {i j:Nat}{x:Str}(a:N[i]?=al x) (b:N[j]?=al x):i=j:=by obtain⟨h1,c⟩:=yT.mp a;obtain⟨e,f⟩:=yT.mp b;exact(List.getElem_inj hN).mp (c.trans f.symm)
theorem gE (I:Inv X pins σ H s) (hN:X.N.Nodup) (hi:X.N[i]?=al x) (hx:Loc X.env.scope x) (r:RelV v u) (h:∀s',Inv X pins (σ.set i (al v)) H s'->(∃a,Heap.SameBut a s.heap s'.heap/\(a=X.env.locals\/X.env.cells.lookup x=al a))->Q () s') (hf:X.fn x=ap\/X.env.scope.names.lookup x=al .local:=by first | exact .inl rfl | exact .inr rfl | assumption):wpAny M A (storeName X.env x u) Q E s:=by
 obtain⟨m,hn,hl⟩:=id I.loc;have Ad:(X.env.scope.kind==.class||(X.env.scope.kind==.module&&X.env.locals != X.env.globals))=false:=by rw[I.ok.kind];rfl
 have U:i < σ.length:=by rw[I.len];exact(yT.mp hi).1
 have cne:=I.cne;have tracked:∀{a:Addr}{h':db},(∃o,s.heap.get? a=al o/\H a=am)->Heap.SameBut a s.heap h'->HOk X.prog X.w H h':=λ{a h'} ha hs b ob e=>by
   obtain⟨_,_,qx⟩:=ha;refine(I.hok b ob e).stay (λc R hc q=>(hs.2 c ?_).trans q) (λ_ q=>q) λ_ _ q=>q;rintro rfl;rcases hc with rfl | hc;. rw[qx] at e;cases e
   . rw[qx] at hc;cases hc
 rcases hx with hk | hk
 . refine wpAny_storeName_local hk hn (λh' sk hs=>?_) Ad;obtain⟨oL,_,_,nh,_⟩:=id hn;refine h _ #[I.ok,I.os,I.bare,#[λb o e n hb hx=>?_,λb o e n hb hx=>?_,I.base.free,λb o e hx=>?_,I.base.tups,I.base.frzs,I.base.tbls],#[_,sk,λj y L t f S=>?_],λy c e=>?_,I.free,I.freeC,λp hp=>?_,tracked #[oL,nh,I.free] hs,by simpa using I.len] #[_,hs,.inl rfl];. exact(hs.2 b (zC (zP (zM e) I.ok.above))).trans (I.base.keep b o e n hb hx)
   . obtain⟨sl,t⟩:=I.base.slot b o e n hb hx;exact#[sl,(hs.2 b (zC (zP (zM e) I.ok.above))).trans t]
   . obtain⟨D,t⟩:=I.base.there b o e hx;exact#[D,(hs.2 b (zC (zP (zM e) I.ok.above))).trans t]
   . by_cases g:j=i;. subst g;rw[hi] at t;cases t;rw[List.getElem?_set_self U] at f;cases f;exact#[u,r,.inl #[hk,by simp]]
     . rw[b2J (a8Q g)] at f;obtain⟨G,B,q⟩:=hl j y L t f S;refine#[G,B,?_];rcases q with ⟨k,e⟩ | ⟨k,c,e,z⟩
       . refine .inl #[k,?_];have:y≠x:=λe=>g (XO hN t (e▸hi));simp[this,e]
       . exact .inr #[k,c,e,z.sameBut hs (cne y c e)]
   . obtain⟨R,z⟩:=I.cell y c e;exact#[R,z.sameBut hs (cne y c e)]
   . obtain⟨e,n,O,Z,d⟩:=I.pin p hp;exact#[(hs.2 p.1 O).trans e,n,O,Z,d]
 . have J:X.fn x=true:=by
     rcases hf with z | z;. exact z
     . rw[z] at hk;cases hk
   obtain⟨c,hc⟩:=I.ok.has x (.inl hk);obtain⟨R,z⟩:=I.cell x c hc;refine wpAny_storeName_cell I.ok.kind hk hc z (λh' qy hs=>?_);obtain⟨oc,Y,Ae⟩:=id z;refine h { s with heap:=h' } #[I.ok,I.os,I.bare,#[λb o e n hb hx=>?_,λb o e n hb hx=>?_,I.base.free,λb o e hx=>?_,I.base.tups,I.base.frzs,I.base.tbls],#[m,hn.sameBut hs (a8Q (cne x c hc)),λj y L t f S=>?_],λy T e=>?_,I.free,I.freeC,λp hp=>?_,tracked #[oc,Y,I.freeC x c hc] hs,by simpa using I.len] #[c,hs,.inr hc];. exact(hs.2 b (zC (zP (zM e) (I.ok.cab x c J hc)))).trans (I.base.keep b o e n hb hx)
   . obtain⟨sl,t⟩:=I.base.slot b o e n hb hx;exact#[sl,(hs.2 b (zC (zP (zM e) (I.ok.cab x c J hc)))).trans t]
   . obtain⟨D,t⟩:=I.base.there b o e hx;exact#[D,(hs.2 b (zC (zP (zM e) (I.ok.cab x c J hc)))).trans t]
   . by_cases g:j=i;. subst g;rw[hi] at t;cases t;rw[List.getElem?_set_self U] at f;cases f;exact#[u,r,.inr #[.inl hk,c,hc,qy]]
     . rw[b2J (a8Q g)] at f;obtain⟨G,B,q⟩:=hl j y L t f S;refine#[G,B,?_];rcases q with q | ⟨k,T,e,z'⟩
       . exact .inl q
       . refine .inr #[k,T,e,z'.sameBut hs ?_];rintro rfl;exact g (XO hN t (I.ok.inj _ _ _ e hc▸hi))
   . by_cases yu:T=c;. subst yu;exact#[_,qy]
     . obtain⟨w2,z2⟩:=I.cell y T e;exact#[w2,z2.sameBut hs yu]
   . obtain⟨e,n,O,Z,d⟩:=I.pin p hp;refine#[(hs.2 p.1 ?_).trans e,n,O,Z,d];intro q;rw[q,Y] at e;have q':oc=p.2:=Option.some.inj e;exact d R (by rw[<-q'];exact Ae)
theorem MI (I:Inv X pins σ H s) (hN:X.N.Nodup) (hi:X.N[i]?=al x) (hx:Loc X.env.scope x) (r:RelV v u) (h:∀s',Inv X pins (σ.set i (al v)) H s'->Q () s') (B:X.fn x=ap\/X.env.scope.names.lookup x=al .local:=by first | exact .inl rfl | exact .inr rfl | assumption):wpAny M A (storeName X.env x u) Q E s:=
 gE I hN hi hx r (λs' U _=>h s' U) B
theorem Inv.call' (I:Inv X pins σ H s) (T:s'.os=s.os) (u:Un (frs X.stack) ch H H' s.heap s'.heap) (hok:HOk X.prog X.w H' s'.heap) (hg:io s'.gens) (t:∀b∈ch,(b∈X.ex\/X.s₀.heap.objs.size<=b)/\b≠X.env.locals/\(∀x c,X.env.cells.lookup x=al c->c≠b)/\∀p∈X.pn++pins,p.1≠b):Inv X pins σ H' s':=by obtain⟨h',g',d',t',r⟩:=s';have e:r=s.os:=T;subst e;exact I.call (g':=g') (t':=t') (d':=d') u hok hg t
end
abbrev XK:=ar->Option Addr->Hp->Prop
abbrev St:=List (Option V)
abbrev VK:=V->Hp->Prop
abbrev TE:=St->Hp->VK->Prop
abbrev TT:=St->Hp->(Bool->Hp->Prop)->Prop
abbrev TA:=St->Hp->(List V->Hp->Prop)->Prop
structure Ends where
 nx:St->Hp->Prop
 rt:VK
 bk:St->Hp->Prop:=λ_ _=>False
 ct:St->Hp->Prop:=λ_ _=>False
abbrev TS:=Ends->St->Hp->Prop
def EP (X:Cx) (pins:List (Addr×dc)) (e:St) (Q:VK) (u:ar) (s':ba):Prop:=∃v H',Inv X pins e H' s'/\RelV v u/\Q v H'
def TP (X:Cx) (pins:List (Addr×dc)) (e:St) (Q:Bool->Hp->Prop) (b:Bool) (s':ba):Prop:=∃H',Inv X pins e H' s'/\Q b H'
def AP (X:Cx) (pins:List (Addr×dc)) (t:St) (Q:List V->Hp->Prop) (e:List ar) (s':ba):Prop:=∃n H',Inv X pins t H' s'/\Vals n e/\Q n H'
def SP (X:Cx) (pins:List (Addr×dc)) (D:Ends) (f:Flow) (s':ba):Prop:=
 match f with
 | .next=>∃S H',Inv X pins S H' s'/\D.nx S H'
 | .brk=>∃S H',Inv X pins S H' s'/\D.bk S H'
 | .cont=>∃S H',Inv X pins S H' s'/\D.ct S H'
 | .ret u=>∃v S H',Inv X pins S H' s'/\RelV v u/\D.rt v H'
def PE (X:Cx) (e:ca) (t:TE):Prop:=∀(pins:List (Addr×dc)) (s:ba) (n:St) (H:Hp) (Q:VK),Inv X pins n H s->t n H Q->wpAny (model X.prog X.w) X.A (eval e X.env) (EP X pins n Q) X.xe s
def PT (X:Cx) (e:ca) (t:TT):Prop:=∀(pins:List (Addr×dc)) (s:ba) (n:St) (H:Hp) (Q:Bool->Hp->Prop),Inv X pins n H s->t n H Q->wpAny (model X.prog X.w) X.A (isTrue e X.env (eval e X.env)) (TP X pins n Q) X.xe s
def PW (X:Cx) (e:ca) (t:TT):Prop:=∀(whole:Sem ar) (pins:List (Addr×dc)) (s:ba) (n:St) (H:Hp) (Q:Bool->Hp->Prop),Inv X pins n H s->t n H Q->wpAny (model X.prog X.w) X.A (isTrue e X.env whole) (TP X pins n Q) X.xe s
theorem PW.pt {X:Cx}{e:ca}{t:TT}(h:PW X e t):PT X e t:=h _
def PA (X:Cx) (z:List ca) (t:TA):Prop:=∀(pos:fb) (pins:List (Addr×dc)) (s:ba) (e:St) (H:Hp) (Q:List V->Hp->Prop),Inv X pins e H s->t e H Q->wpAny (model X.prog X.w) X.A (spliced (backTo pos (starEach z X.env))) (AP X pins e Q) X.xe s
def PS (X:Cx) (st:fv) (t:TS):Prop:=∀(pins:List (Addr×dc)) (s:ba) (e:St) (H:Hp) (D:Ends),Inv X pins e H s->t D e H->wpAny (model X.prog X.w) X.A (exec st X.env) (SP X pins D) X.xe s
def PSs (X:Cx) (st:List fv) (t:TS):Prop:=∀(pins:List (Addr×dc)) (s:ba) (e:St) (H:Hp) (D:Ends),Inv X pins e H s->t D e H->wpAny (model X.prog X.w) X.A (execs st X.env) (SP X pins D) X.xe s
theorem thn {t:Sem e}(h:wpAny M A t Q E s) (c:∀a s,Q a s->f a s):wpAny M A t f E s:=ce h c λ_ _ x=>x
section
variable {X:Cx}
def pQ (i:Nat):TE:=λe H Q=>∃v,e[i]?=al (al v)/\Q v H
def tC (v:V):TE:=λ_ H Q=>Q v H
theorem k7 {i:Nat}{x:Str}{pos:fb}(hN:X.N[i]?=al x) (n:Vis X.env.scope x) (hd:(x==("__debug__":Str))=false:=by decide) (S:(x==("__classdict__":Str))=false:=by decide):PE X (.Name x pos) (pQ i):=by
 intro pins s o H Q I h;obtain⟨v,e,h⟩:=h;obtain⟨m,hn,t⟩:=I.loc;obtain⟨u,r,l⟩:=t i x v hN e n;have fin:EP X pins o Q u s:=#[v,H,I,r,h]
 rcases l with ⟨hk,j⟩ | ⟨hk,c,hc,a⟩
 . exact wpAny_Name (wpAny_loadName_local I.ok.kind hk hn j fin) hd
 . rcases hk with hk | hk;. exact wpAny_Name (wpAny_loadName_cell I.ok.kind hk hc a fin) hd
   . exact wpAny_Name (wpAny_loadName_free I.ok.kind hk hc a fin S) hd
theorem wG {i j pos}:PE X (.Constant (.int i) j pos) (tC (.int i)):=λ_ _ _ H _ I h=>wpAny_Constant_int #[.int i,H,I.tok _,#[_,rfl],h]
theorem A1D {b j pos}:PE X (.Constant (.bool b) j pos) (tC (.bl b)):=λ_ _ _ H _ I h=>Constant_bool #[.bl b,H,I,rfl,h]
theorem wH {j pos}:PE X (.Constant .none j pos) (tC .non):=λ_ _ _ H _ I h=>Constant_none #[.non,H,I,rfl,h]
theorem wI {x j pos}:PE X (.Constant (.str x) j pos) (tC (.str x)):=λ_ _ _ H _ I h=>Calls.Constant_str #[.str x,H,I.tok _,#[_,rfl],h]
def Gl (X:Cx) (x:Str):Prop:=X.env.kindOf x=al .globalImplicit
theorem V3 {E:ar->ba->Prop}{pins:List (Addr×dc)}{s:ba}{e:St}{H:Hp}{x:Str}{u:ar}{pos:fb}{Q:ar->ba->Prop}(I:Inv X pins e H s) (hg:Gl X x) (j:X.mg x=al u) (h:Q u s) (hd:(x==("__debug__":Str))=false:=by decide):wpAny (model X.prog X.w) X.A (eval (.Name x pos) X.env) Q E s:=
 Calls.Name_function_global I.ok.kind hg (Calls.loadGlobal_global (by rw[I.ok.glob];exact I.mod.glob.keeps I.bk) j h) hd
theorem FI {E:ar->ba->Prop}{pins:List (Addr×dc)}{s:ba}{t:St}{H:Hp}{x:Str}{u:ar}{pos:fb}{Q:ar->ba->Prop}(I:Inv X pins t H s) (hg:Gl X x) (j:X.mg x=am) (e:gq x=al u) (h:Q u s) (hn:x ≠ "__name__" := by decide) (hd:(x==("__debug__":Str))=false:=by decide):wpAny (model X.prog X.w) X.A (eval (.Name x pos) X.env) Q E s:=by obtain⟨n,h1,a⟩:=I.mod.blt;exact Calls.Name_function_global I.ok.kind hg (Calls.loadGlobal_builtin (by rw[I.ok.glob];exact I.mod.glob.keeps I.bk) j (by rw[I.ok.blt];exact h1.keeps I.bk) ((a x hn).trans e) h) hd
theorem V4 (hg:Gl X x) (j:X.mg x=al u) (r:RelV v u) (hd:(x==("__debug__":Str))=false:=by decide):PE X (.Name x pos) (tC v):=
 λ_ _ _ H _ I h=>V3 I hg j #[v,H,I,r,h] hd
theorem HD {x:Str}{v:V}{u:ar}{pos:fb}(hg:Gl X x) (j:X.mg x=am) (e:gq x=al u) (r:RelV v u) (hn:x ≠ "__name__" := by decide) (hd:(x==("__debug__":Str))=false:=by decide):PE X (.Name x pos) (tC v):=
 λ_ _ _ H _ I h=>FI I hg j e #[v,H,I,r,h] hn hd
variable {a b:ca}{ta tb:TE}{pos:fb}
def PC (X:Cx) (o:CmpOp) (a b:ca) (t:TE):Prop:=∀(pins:List (Addr×dc)) (s:ba) (n:St) (H:Hp) (Q:VK),Inv X pins n H s->t n H Q ->
   wpAny (model X.prog X.w) X.A (eval a X.env) (λv J=>wpAny (model X.prog X.w) X.A (eval b X.env) (λu e=>wpAny (model X.prog X.w) X.A (bx o v u) (EP X pins n Q) X.xe e) X.xe J) X.xe s
def tB (t:TE):TT:=λn H Q=>t n H λx e=>∃c,x = .bl c/\Q c e
theorem k8 {u:CmpOp}{t:TE}(h:PC X u a b t) (h1:fy u b=false:=by first | exact nobehind _ (by decide) (by decide) | rfl):PE X (.Compare a [u] [b] pos) t:=λpins s e H Q I R=>wpAny_Compare1 (h pins s e H Q I R) h1
theorem V5 {e:CmpOp}{t:TE}(h:PC X e a b t) (h1:fy e b=false:=by first | exact nobehind _ (by decide) (by decide) | rfl):PT X (.Compare a [e] [b] pos) (tB t):=by intro pins s r H Q I R;refine wpAny_isTrue_Compare1 (thn (h pins s r H _ I R) λv m h1=>thn h1 λu p o=>thn o λc f #[x,n,D,i,q1]=>?_) h1;obtain⟨d,rfl,q⟩:=q1;cases i;exact cE #[n,D,q]
theorem wJ {e:ca}{t:TE}(h:PE X e t) (he:∀whole,isTrue e X.env whole=(do let v <- whole;standAt e.pos;holding [v] (truthy v)):=by intro _;rfl):PT X e (tB t):=by intro pins s i H Q I R;refine isTrue_plain (thn (h pins s i H _ I R) λv r #[x,n,D,o,q1]=>?_) (he _);obtain⟨d,rfl,q⟩:=q1;cases o;exact cE #[n,D,q]
variable {tA qh:TT}{rest:List ca}
def A1E (t u:TT):TT:=λn H Q=>t n H λc e=>if c=ap then u n e Q else Q bj e
def tOr (t u:TT):TT:=λn H Q=>t n H λc e=>if c=ap then Q ap e else u n e Q
def A1F (t:TT):TT:=λn H Q=>t n H λc e=>Q (!c) e
theorem pw_and1 (N:PT X a tA):PW X (.BoolOp .And [a] pos) tA:=by
 intro M pins s t H Q I h;refine isTrue_and (thn (N pins s t H Q I h) λc n e=>?_);cases c with
 | true=>exact isTrue_and_nil e
 | false=>exact e
theorem pw_or1 (N:PT X a tA):PW X (.BoolOp .Or [a] pos) tA:=by
 intro M pins s t H Q I h;refine isTrue_or (thn (N pins s t H Q I h) λc n e=>?_);cases c with
 | false=>exact isTrue_or_nil e
 | true=>exact e
theorem pw_and (N:PT X a tA) (hb:PW X (.BoolOp .And (b::rest) pos) qh):PW X (.BoolOp .And (a::b::rest) pos) (A1E tA qh):=by
 intro M pins s t H Q I h;refine isTrue_and (thn (N pins s t H _ I h) λc n #[e,D,q1]=>?_);cases c with
 | true=>exact hb M pins n t e Q D q1
 | false=>exact#[e,D,q1]
theorem pw_or (N:PT X a tA) (hb:PW X (.BoolOp .Or (b::rest) pos) qh):PW X (.BoolOp .Or (a::b::rest) pos) (tOr tA qh):=by
 intro M pins s t H Q I h;refine isTrue_or (thn (N pins s t H _ I h) λc n #[e,D,q1]=>?_);cases c with
 | true=>exact#[e,D,q1]
 | false=>exact hb M pins n t e Q D q1
theorem wK (N:PT X a tA):PT X (.UnaryOp .Not a pos) (A1F tA):=by intro pins s t H Q I h;exact isTrue_not (N pins s t H (λc e=>Q (!c) e) I h)
def uY (ta tb:TE):TE:=λt H Q=>ta t H λx e=>∃c,x = .bl c/\if c=ap then tb t e Q else Q (.bl bj) e
def A1G (ta tb:TE):TE:=λt H Q=>ta t H λx e=>∃c,x = .bl c/\if c=ap then Q (.bl ap) e else tb t e Q
def uZ (ta:TE):TE:=λt H Q=>ta t H λx e=>∃c,x = .bl c/\Q (.bl (!c)) e
theorem wL {u} {t:TE}(h:PE X a t):PE X (.BoolOp u [a] pos) t:=λpins s e H Q I R=>BoolOp_one (h pins s e H Q I R)
theorem wM (N:PE X a ta) (hb:PE X (.BoolOp .And (b::rest) pos) tb):PE X (.BoolOp .And (a::b::rest) pos) (uY ta tb):=by
 intro pins s t H Q I h;refine BoolOp_and (thn (N pins s t H _ I h) λv o #[x,e,D,n,q1]=>?_);obtain⟨c,rfl,q1⟩:=q1;cases n;refine cE ?_;cases c with
 | true=>exact hb pins o t e Q D q1
 | false=>exact#[.bl bj,e,D,rfl,q1]
theorem A1H (N:PE X a ta) (hb:PE X (.BoolOp .Or (b::rest) pos) tb):PE X (.BoolOp .Or (a::b::rest) pos) (A1G ta tb):=by
 intro pins s t H Q I h;refine BoolOp_or (thn (N pins s t H _ I h) λv o #[x,e,D,n,q1]=>?_);obtain⟨c,rfl,q1⟩:=q1;cases n;refine cE ?_;cases c with
 | false=>exact hb pins o t e Q D q1
 | true=>exact#[.bl ap,e,D,rfl,q1]
theorem wN (N:PE X a ta):PE X (.UnaryOp .Not a pos) (uZ ta):=by intro pins s n H Q I h;refine UnaryOp_ (thn (N pins s n H _ I h) λv o #[x,e,D,t,q1]=>?_);obtain⟨c,rfl,q1⟩:=q1;cases t;exact not_of (cE #[.bl (!c),e,D,rfl,q1])
def tIf (t:TT) (ta tb:TE):TE:=λe H Q=>t e H λc n=>if c=ap then ta e n Q else tb e n Q
theorem k9 {c:ca}(hc:PT X c tA) (N:PE X a ta) (hb:PE X b tb):PE X (.IfExp c a b pos) (tIf tA ta tb):=by
 intro pins s e H Q I h;refine wpAny_IfExp (thn (hc pins s e H _ I h) λd n #[t,D,q1]=>?_);cases d with
 | true=>exact N pins n e t Q D q1
 | false=>exact hb pins n e t Q D q1
end
def SqL (K:Frg) (H:Hp) (a:Addr) (xs:List V):Prop:=
 Rd H a (.lst xs) \/∃(o:dc) (e:Array ar) (n:Nat),K.lookup a=al o/\o.cls = .type "list" /\ o.dict=am/\o.data = .seq e n/\e.size<=bd/\Vals xs e.toList
def SqT (K:Frg) (H:Hp) (a:Addr) (xs:List V):Prop:=
 Rd H a (.tup xs) \/∃(o:dc) (e:Array ar) (n:Nat),K.lookup a=al o/\o.cls = .type "tuple" /\ o.data = .seq e n/\e.size<=bd/\Vals xs e.toList
def A2W:ar->Option V
 | .none=>al .non
 | .bool b=>al (.bl b)
 | .int i _=>al (.int i)
 | .str x _=>al (.str x)
 | .bytes b _=>al (.byt b)
 | .float b _=>al (.flt b)
 | .ref a=>al (.ref a)
 | .type n=>al (.ty n)
 | _=>am
theorem RelV.abs (r:RelV x u):A2W u=al x:=by
 cases x with
 | non=>cases r;rfl
 | bl _=>cases r;rfl
 | int _=>obtain⟨t,rfl⟩:=r;rfl
 | str _=>obtain⟨t,rfl⟩:=r;rfl
 | byt _=>obtain⟨t,rfl⟩:=r;rfl
 | flt _=>obtain⟨t,rfl⟩:=r;rfl
 | ref _=>cases r;rfl
 | ty _=>cases r;rfl
theorem RelV.inj (r:RelV x u) (q:RelV y u):x=y:=Option.some.inj (r.abs.symm.trans q.abs)
theorem Vals.inj:∀{xs ys:List V}{e:List ar},Vals xs e->Vals ys e->xs=ys
 | _,_,_,.nil,.nil=>rfl
 | _,_,_,.cons r t,.cons n a=>by rw[r.inj n,Vals.inj t a]
section
variable {X:Cx}{pins:List (Addr×dc)}{σ:St}{H:Hp}{s:ba}{a:Addr}{xs ys:List V}
theorem SqL.of {K:Frg}(h:H a=al (.lst xs)):SqL K H a xs:=.inl (.inl h)
theorem Inv.list (I:Inv X pins σ H s) (h:SqL X.K H a xs):∃t:List ar,Vals xs t/\PlainL s.heap a t.toArray/\xs.length<=sizeLine:=by
 rcases h with h | ⟨o,t,n,hk,hc,hd,hs,i,r⟩
 . obtain⟨z,t,n,r,e⟩:=h.ok I.hok;exact#[t,r,#[_,n,e,rfl,rfl,rfl],z]
 . refine#[t.toList,r,#[o,n,I.kIn a o hk,hc,hd,by simpa using hs],?_];have e:=r.length;simp only[a3V] at e;lia
theorem Inv.tuple (I:Inv X pins σ H s) (h:SqT X.K H a xs):∃t:List ar,Vals xs t/\IsTup s.heap a t.toArray/\xs.length<=sizeLine:=by
 rcases h with h | ⟨o,t,n,hk,hc,hs,i,r⟩
 . obtain⟨z,t,r,p⟩:=h.ok I.hok;exact#[t,r,p,z]
 . refine#[t.toList,r,#[o,I.kIn a o hk,hc,n,by simpa using hs],?_];have e:=r.length;simp only[a3V] at e;lia
theorem Inv.list_inj (I:Inv X pins σ H s) (h:SqL X.K H a xs) (h':SqL X.K H a ys):xs=ys:=by
 obtain⟨t,r,⟨o,n,e,_,_,d⟩,_⟩:=I.list h;obtain⟨its',i,⟨m,k,e',_,_,J⟩,_⟩:=I.list h';rw[e] at e';cases e';rw[d] at J;injection J with M _;have:t=its':=by simpa using congrArg Array.toList M
 subst this;exact r.inj i
theorem Inv.tuple_inj (I:Inv X pins σ H s) (h:SqT X.K H a xs) (h':SqT X.K H a ys):xs=ys:=by
 obtain⟨t,r,⟨o,e,_,n,d⟩,_⟩:=I.tuple h;obtain⟨its',i,⟨m,e',_,k,J⟩,_⟩:=I.tuple h';rw[e] at e';cases e';rw[d] at J;injection J with M _;have:t=its':=by simpa using congrArg Array.toList M
 subst this;exact r.inj i
end
abbrev Cx.wish (X:Cx) (E:ar->ba->Prop):Cx:={ X with xe:=E }
abbrev Cx.nox (X:Cx):Cx:=X.wish λ_ _=>False
theorem Cx.Ok.wish {X:Cx}(ok:X.Ok) (E:ar->ba->Prop):(X.wish E).Ok:=#[ok.mod,ok.kind,ok.glob,ok.blt,ok.above,ok.inj,ok.has,ok.cab,ok.hd,ok.frames,ok.stk,ok.exf,ok.bs,ok.bsz,ok.noex,ok.exfs,ok.funs,ok.frf]
theorem Cx.Ok.unwish {X:Cx}(ok:(X.wish E).Ok):X.Ok:=#[ok.mod,ok.kind,ok.glob,ok.blt,ok.above,ok.inj,ok.has,ok.cab,ok.hd,ok.frames,ok.stk,ok.exf,ok.bs,ok.bsz,ok.noex,ok.exfs,ok.funs,ok.frf]
section
variable {X:Cx}{pins:List (Addr×dc)}{σ:St}{H:Hp}{s:ba}{E:ar->ba->Prop}
theorem Inv.wish (I:Inv X pins σ H s) (E:ar->ba->Prop):Inv (X.wish E) pins σ H s:=#[I.ok.wish E,I.os,I.bare,I.base,I.loc,I.cell,I.free,I.freeC,I.pin,I.hok,I.len]
theorem Inv.unwish (I:Inv (X.wish E) pins σ H s):Inv X pins σ H s:=#[I.ok.unwish,I.os,I.bare,I.base,I.loc,I.cell,I.free,I.freeC,I.pin,I.hok,I.len]
theorem SP.unwish (h:SP (X.wish E) pins D f s'):SP X pins D f s':=by
 cases f with
 | next=>obtain⟨S,H',I,q⟩:=h;exact#[S,H',I.unwish,q]
 | brk=>obtain⟨S,H',I,q⟩:=h;exact#[S,H',I.unwish,q]
 | cont=>obtain⟨S,H',I,q⟩:=h;exact#[S,H',I.unwish,q]
 | ret u=>obtain⟨v,S,H',I,r,q⟩:=h;exact#[v,S,H',I.unwish,r,q]
theorem PSs.nox {st:List fv}(h:PSs X.nox st t):PSs X st t:=λpins s σ H D I R=>
 ce (h pins s σ H D (I.wish _) R) (λ_ _ q=>q.unwish) λ_ _ z=>b3K z
end
section
variable {X:Cx}{st:fv}{rest:List fv}{t u:TS}{e:ca}{te:TE}{pos:fb}
def v0:TS:=λD n H=>D.nx n H
def pR (t u:TS):TS:=λD n H=>t { D with nx:=u D } n H
theorem pS:PSs X [] v0:=λ_ _ n H _ I h=>ip #[n,H,I,h]
theorem PX (h1:PS X st t) (a:PSs X rest u):PSs X (st::rest) (pR t u):=by
 intro pins s o H D I h;refine wpAny_execs_cons (thn (h1 pins s o H { D with nx:=u D } I h) λf n q=>?_);cases f with
 | next=> obtain⟨S,H',U,q⟩:=q;exact a pins n S H' D U q
 | ret v=>exact q
 | brk=>exact q
 | cont=>exact q
theorem V6 (h1:PS X st t):PSs X [st] t:=by
 intro pins s n H D I h;refine wpAny_execs_cons (thn (h1 pins s n H D I h) λf a q=>?_);cases f with
 | next=>exact ip q
 | ret v=>exact q
 | brk=>exact q
 | cont=>exact q
def v6:TS:=λD n H=>D.ct n H
theorem XQ:PS X (.Continue pos) v6:=λ_ _ n H _ I h=>wpAny_Continue #[n,H,I,h]
theorem Inv.quiet {n:St}(I:Inv X pins n H s):interactive X.env=false:=by simp[interactive,I.ok.kind]
def v7 (te:TE):TS:=λD n H=>te n H λ_ a=>D.nx n a
theorem pT (he:PE X e te) (hs:swapsWith e am pos.line X.env=pure false:=by rfl):PS X (.Expr e pos) (v7 te):=by intro pins s n H D I h;exact wpAny_Expr_any (thn (he pins s n H _ I h) λv r #[x,a,o,i,q1]=>#[n,a,o,q1]) I.quiet hs
def A1I (te:TE):TS:=λD n H=>te n H D.rt
theorem wO (he:PE X e te):PS X (.Return (al e) pos) (A1I te):=by intro pins s n H D I h;exact wpAny_Return_some (thn (he pins s n H _ I h) λv r #[x,a,o,i,q1]=>#[x,n,a,o,i,q1])
def A1J (c:TT) (t u:TS):TS:=λD n H=>c n H λb a=>if b=ap then t D n a else u D n a
theorem A1K {c:ca}{a b:List fv}{tc:TT}(hc:PT X c tc) (N:PSs X a t) (hb:PSs X b u):PS X (.If c a b pos) (A1J tc t u):=by
 intro pins s n H D I h;refine wpAny_If (thn (hc pins s n H _ I h) λd r #[o,i,q1]=>?_);cases d with
 | true=>exact N pins r n o D i q1
 | false=>exact hb pins r n o D i q1
def wP:TS:=λ_ _ _=>False
theorem kA:PS X st wP:=λ_ _ _ _ _ _ h=>h.elim
end
abbrev TG:=V->St->Hp->(St->Hp->Prop)->Prop
abbrev TGs:=List V->St->Hp->(St->Hp->Prop)->Prop
def PG (X:Cx) (target:ca) (t:TG):Prop:=∀(pins:List (Addr×dc)) (s:ba) (e:St) (H:Hp) (v:V) (u:ar) (Q:St->Hp->Prop),Inv X pins e H s->RelV v u->t v e H Q ->
   wpAny (model X.prog X.w) X.A (ij target X.env u) (λ_ s'=>∃S H',Inv X pins S H' s'/\Q S H') X.xe s
def PGs (X:Cx) (ts:List ca) (t:TGs):Prop:=∀(pins:List (Addr×dc)) (s:ba) (a:St) (H:Hp) (n:List V) (e:List ar) (Q:St->Hp->Prop),Inv X pins a H s->Vals n e->t n a H Q ->
   wpAny (model X.prog X.w) X.A (assignInOrder ((ed ts X.env).map (·.2)) e) (λ_ s'=>∃S H',Inv X pins S H' s'/\Q S H') X.xe s
abbrev wQ:=V->V->V->Hp->(Hp->Prop)->Prop
def A1L (X:Cx) (t:wQ):Prop:=∀(pins:List (Addr×dc)) (s:ba) (n:St) (H:Hp) (o i v:V) (y e u:ar) (Q:Hp->Prop),Inv X pins n H s->RelV o y->RelV i e->RelV v u->t o i v H Q ->
   wpAny (model X.prog X.w) X.A (setItem y e u) (λ_ s'=>∃H',Inv X pins n H' s'/\Q H') X.xe s
section
variable {X:Cx}{pos:fb}
def MJ (i:Nat):TG:=λv e H Q=>Q (e.set i (al v)) H
theorem V7 {i:Nat}{x:Str}(hN:X.N.Nodup) (hi:X.N[i]?=al x) (hx:Loc X.env.scope x) (B:X.fn x=ap\/X.env.scope.names.lookup x=al .local:=by first | exact .inl rfl | exact .inr rfl | assumption):PG X (.Name x pos) (MJ i):=by intro pins s e H v u Q I r h;exact wpAny_assign_Name (MI I hN hi hx r (λs' U=>#[_,H,U,h]) B)
def wR:TGs:=λn e H Q=>n=[]/\Q e H
def dR (t:TG) (u:TGs):TGs:=λn e H Q=>∃v r,n=v::r/\t v e H λS H'=>u r S H' Q
theorem pU:PGs X [] wR:=by intro pins s t H a n Q I r h;obtain⟨e,h⟩:=h;subst e;cases r;exact assignInOrder_nil #[t,H,I,h]
theorem kB {e:ca}{z:List ca}{t:TG}{u:TGs}(h1:PG X e t) (a:PGs X z u) (hs:(ed (e::z) X.env).map (·.2)=ij e X.env::(ed z X.env).map (·.2):=by rfl):PGs X (e::z) (dR t u):=by
 intro pins s i H b m Q I r h;obtain⟨v,p,c,h⟩:=h;subst c;cases r with
 | cons r M=> rw[hs];refine assignInOrder_cons (thn (h1 pins s i H _ _ _ I r h) λ_ o #[k,n,D,q1]=>?_);exact a pins o k n _ _ Q D M q1
def pV (K:Frg) (n:Nat) (t:TGs):TG:=λv o H Q=>∃a e,v = .ref a/\SqT K H a e/\e.length=n/\t e o H Q
theorem kC {z:List ca}{k:Nat}{t:TGs}{n:Nat}(hc:X.calm=ap) (h:PGs X z t) (hn:(ed z X.env).length=n:=by rfl) (m:(ed z X.env).findIdx? (·.1)=none:=by rfl):PG X (.Tuple z k pos) (pV X.K n t):=by intro pins s i H v u Q I r R;obtain⟨a,g,c,hq,p,R⟩:=R;subst c;cases r;obtain⟨j,T,f,q⟩:=I.tuple hq;refine assign_Tuple_tuple (I.ok.hd hc) f (by simp[hn,<-p,T.length]) m λh' hx=>?_;have D:Inv X pins i H { s with heap:=h' }:=I.kept (t':=s.toks) λb o e=>hx b o (zC (zM e)) e;exact h pins _ i H g _ Q D (by simpa using T) R
def A1M (to J:TE) (t:wQ):TG:=λv e H Q=>to e H λo n=>J e n λi g=>t o i v g λZ=>Q e Z
theorem wS {o i:ca}{to J:TE}{t:wQ}(T:PE X o to) (hi:PE X i J) (hs:A1L X t) (N:∀v,ij (.Subscript o i pos) X.env v=(do
     let e <- holding [v] (eval o X.env);let n <- holding [v,e] (eval i X.env)
     standAt pos
     holding [v,e,n] (setItem e n v)
     release [v,e,n] []):=by intro _;rfl):PG X (.Subscript o i pos) (A1M to J t):=by intro pins s a H v u Q I r h;rw[N];refine zZ (bv (thn (T pins s a H _ I h) λe k #[x,m,D,f,q1]=>?_));refine zZ (bv (thn (hi pins k a m _ D q1) λn q #[y,g,p,j,q2]=>?_));refine zZ (df (zZ (bv (thn (hs pins q a g x y v e n u _ p f j r q2) λ_ z #[Z,b,c]=>?_))));exact wpAny_release #[a,Z,b,c]
def pW (n:TE) (g:TG):TS:=λD e H=>n e H λx t=>g x e t D.nx
theorem V8 {G e:ca}{t:TE}{g:TG}(he:PE X e t) (hg:PG X G g) (hs:swapsWithSole [G] e pos.line X.env=pure false:=by rfl) (R:swappedStores [G] e X.env=pure none:=by rfl)
   (h1:(ed [G] X.env).map (·.2)=[ij G X.env]:=by rfl):PS X (.Assign [G] e pos) (pW t g):=by intro pins s n H D I h;refine wpAny_Assign_stores (thn (he pins s n H _ I h) λv r #[x,a,o,i,q1]=>?_) hs R;rw[h1];exact thn (hg pins r n a x v _ o i q1) λ_ m q=>q
theorem wU {i:Nat}{x:Str}{e:ca}{t:TE}{pos':fb}(hN:X.N.Nodup) (hi:X.N[i]?=al x) (hx:Loc X.env.scope x) (he:PE X e t) (hs:swapsWith e (al (.Name x pos')) pos.line X.env=pure false:=by rfl) (B:X.fn x=ap\/X.env.scope.names.lookup x=al .local:=by first | exact .inl rfl | exact .inr rfl | assumption) :
   PS X (.Assign [.Name x pos'] e pos) (pW t (MJ i)):=by intro pins s m H D I h;refine wpAny_Assign_Name (thn (he pins s m H _ I h) λv p #[y,n,a,r,q1]=>?_) hs;exact MI a hN hi hx r (λb o=>#[_,n,o,q1]) B
def A1N (i j:Nat) (k:TA):TS:=λD e H=>k e H λn t=>∃v w,n=[v,w]/\D.nx ((e.set i (al v)).set j (al w)) t
theorem aO {i j:Nat}{x y:Str}{a b:ca}{u:TA}{c z pt:fb}{m r pt2} (hc:X.calm=ap) (hN:X.N.Nodup) (hi:X.N[i]?=al x) (L:X.N[j]?=al y) (B:i≠j) (hx:X.env.scope.names.lookup x=al .local) (hy:X.env.scope.names.lookup y=al .local) (J:PA X [a,b] u) (Q:swappedStores [.Tuple [.Name x c,.Name y z] m pt] (.Tuple [a,b] r pt2) X.env=pure (al [x,y])) (hs:swapsWithSole [.Tuple [.Name x c,.Name y z] m pt] (.Tuple [a,b] r pt2) pos.line X.env=pure false:=by rfl) :
   PS X (.Assign [.Tuple [.Name x c,.Name y z] m pt] (.Tuple [a,b] r pt2) pos) (A1N i j u):=by
 intro pins s T H D I h;rw[exec_Assign_arm];refine zZ (df ?_);rw[hs];refine zZ (zY ?_);rw[if_neg (by decide)];refine zZ (Tuple_ (thn (J _ pins s T H _ I h) λus t #[vs,f,O,r1,q1]=>?_));obtain⟨v,w,G,q1⟩:=q1;subst G;obtain⟨g,n,rfl,rv,U⟩:∃g n,us=[g,n]/\RelV v g/\RelV w n:=by
   cases r1 with
   | cons p q=>
     cases q with
     | cons Z q'=> cases q';exact#[_,_,rfl,p,Z]
 refine xM ?_ (by show 2<=bd;decide);have R:Inv X pins T f { t with heap:=t.heap.push { cls:=.type "tuple", data:=.seq [g,n].toArray } }:=O.kept (t':=t.toks) λb o e=>zW _ e;rw[Q];refine zZ (zY ?_);show wpAny (model X.prog X.w) X.A (do rule "assign.swapped-stores";let items <- unpackItems (.ref t.heap.objs.size) 2 am;assignInOrder [λv=>bindName X.env y v,λv=>bindName X.env x v] items.reverse;pure Flow.next) _ _ _;refine zZ (dV (zZ (unpackItems_tuple (items:=(z3 [g,n])) (I.ok.hd hc) (IsTup.new t.heap _) λh' Y=>?_)));have S:=R.kept (h':=h') (t':=t.toks) λb o e=>Y b o (zC (zM e)) e;show wpAny _ _ (assignInOrder [λv=>bindName X.env y v,λv=>bindName X.env x v] [n,g] >>= λ_=>pure Flow.next) _ _ _;refine zZ (assignInOrder_cons (wpAny_bindName (MI S hN L (.inl hy) U (λs2 M=>?_) (.inr hy))));refine assignInOrder_cons (wpAny_bindName (MI M hN hi (.inl hx) rv (λs3 k=>assignInOrder_nil (zY ?_)) (.inr hx)));rw[List.set_comm _ _ (a8Q B)] at k;exact#[_,f,k,q1]
end
structure It where
 go:Nat->Hp->Prop
 yld:Nat->Hp->V->Hp->Prop
 stop:Nat->Hp->Prop
def LM (X:Cx) (pins:List (Addr×dc)) (H:Hp) (b:Addr):Prop:=
 H b=am/\b≠X.env.locals/\b∉X.fs/\(b∈X.ex\/X.s₀.heap.objs.size<=b)/\(∀x c,X.env.cells.lookup x=al c->c≠b)/\∀p∈X.pn++pins,p.1≠b
theorem Inv.fpOk {X:Cx}{pins:List (Addr×dc)}{t:St}{H H':Hp}{s:ba}{b:Addr}(I:Inv X pins t H s) (hb:s.heap.objs.size<=b) (hn:H' b=am):LM X pins H' b:=by
 refine#[hn,a8K (zP I.lt hb),I.nofs hb,.inr (zN I.sz hb),λx c e z=>?_,λp hp z=>?_];. obtain⟨v,q⟩:=I.cell x c e;exact absurd (zP q.lt (by rw[z];exact hb)) (yF _)
 . exact absurd (zP (zM (I.pin p hp).1) (by rw[z];exact hb)) (yF _)
structure Turn (P:bq) (w:bo) (K:Frg) (tg:ca) (J:It) (fp:List Addr) (it:Addr) (tn:Nat->db->Prop):Prop where
 mem:it∈fp
 obj:∀i h,tn i h->∀b∈fp,∃o,h.get? b=al o/\∀v,o.data≠.cell v
 keep:∀i h h',tn i h->(∀b∈fp,∀o,h.get? b=al o->h'.get? b=al o)->tn i h'
 item:∀(X:Cx),X.prog=P->X.w=w->X.K=K->X.calm=ap->∀(i:Nat) (pins:List (Addr×dc)) (s:ba) (σ:St) (H:Hp) (E:ar->ba->Prop),Inv X pins σ H s->(∀b∈fp,LM X pins H b)->tn i s.heap->J.go i H ->
   wpAny (model P w) X.A (pyNext (.ref it)) (λr s1=>∃u,r=al u /\
     wpAny (model P w) X.A (letOwnedTupleGo tg (.ref it) u) (λ_ s2=>∃x H',Inv X pins σ H' s2/\RelV x u/\J.yld i H x H'/\tn (i+1) s2.heap/\∀b∈fp,H' b=am) E s1) E s
 done:∀(X:Cx),X.prog=P->X.w=w->X.K=K->X.calm=ap->∀(i:Nat) (pins:List (Addr×dc)) (s:ba) (σ:St) (H:Hp) (E:ar->ba->Prop),Inv X pins σ H s->(∀b∈fp,LM X pins H b)->tn i s.heap->J.stop i H ->
   wpAny (model P w) X.A (pyNext (.ref it)) (λr s1=>r=am/\Inv X pins σ H s1) E s
 self:∀(A:cx) (i:Nat) (s:ba) (Q:ar->ba->Prop) (E:ar->ba->Prop),tn i s.heap->Q (.ref it) s->wpAny (model P w) A (pyIter (.ref it)) Q E s
abbrev TI:=St->Hp->(It->Hp->Prop)->Prop
def PIE (X:Cx) (pins:List (Addr×dc)) (n:St) (G:ca) (R:It->Hp->Prop) (o:ar) (t:ba):Prop:=∃(I:Addr) (e:List Addr) (L:Nat->db->Prop) (J:It) (H':Hp),o = .ref I/\Inv X pins n H' t/\Turn X.prog X.w X.K G J e I L/\L 0 t.heap/\(∀b∈e,LM X pins H' b)/\R J H'
def PI (X:Cx) (G iter:ca) (o:TI):Prop:=∀(pins:List (Addr×dc)) (s:ba) (e:St) (H:Hp) (R:It->Hp->Prop),Inv X pins e H s->o e H R ->
   wpAny (model X.prog X.w) X.A (eval iter X.env) (λv t=>wpAny (model X.prog X.w) X.A (pyIter v) (PIE X pins e G R) X.xe t) X.xe s
theorem XR (T:s.heap.get? it=al o) (hc:o.cls = .type n) (hd:o.data = .fields vs) (hn:["enumerate","zip","dict_itemiterator","dict_reverseitemiterator","odict_iterator","itertools.zip_longest","itertools.pairwise"].contains n=bj) (c:Q () s):wpAny M A (letOwnedTupleGo G (.ref it) u) Q E s:=by
 unfold letOwnedTupleGo;cases G <;> first
   | exact zY c
   | (cases u <;> first
       | exact zY c
       | (refine zZ (wpAny_load T ?_)
          rw[hc,hd];show wpAny M A (if (["enumerate","zip","dict_itemiterator","dict_reverseitemiterator","odict_iterator","itertools.zip_longest","itertools.pairwise"].contains n&&vs[0]?==al (et _))=ap then _ else _) Q E s;rw[if_neg (by intro h;rw[hn,Bool.false_and] at h;cases h)];exact zY c))
def Itl (K:Frg) (a:Addr):It:=#[λi H=>∃t x,SqL K H a t/\t[i]?=al x,λi H x H'=>H'=H/\∀t,SqL K H a t->t[i]?=al x,λi H=>∃t,SqL K H a t/\t.length<=i]
def Itt (K:Frg) (a:Addr):It:=#[λi H=>∃t x,SqT K H a t/\t[i]?=al x,λi H x H'=>H'=H/\∀t,SqT K H a t->t[i]?=al x,λi H=>∃t,SqT K H a t/\t.length<=i]
def Itr (e:Int) (n:Nat):It:=#[λi _=>i < n,λi H x H'=>H'=H/\x = .int (e+i),λi _=>n<=i]
theorem gF {P:bq}{w:bo}{K:Frg}{tg:ca}(a it:Addr):Turn P w K tg (Itl K a) [it] it (λi h=>h.IsListIter it a i) where
 mem:=by simp
 obj:=λi h st b hb=>by
   have e:b=it:=by simpa using hb
   subst e;obtain⟨o,e,c,d⟩:=st;exact⟨o,e,λv z=>by rw[d] at z;cases z⟩
 keep:=λi h h' st k=>st.at λo e=>k it (by simp) o e
 item:=by intro X hP hw hK hc i pins s σ H E I hf st hg;subst hP hw hK;obtain⟨xs,x,hq,hx⟩:=hg;obtain⟨aa,rv,p,hz⟩:=I.list hq;obtain⟨u,hu,ru⟩:=rv.get hx;obtain⟨f0,f1,f2,f3,f4,f5⟩:=hf it (by simp);refine wpAny_pyNext_list_item st p.isList (x:=u) (by simpa using hu) λh' bw sb=>?_;have I1:Inv X pins σ H { s with heap:=h' }:=I.turned (t':=s.toks) (λb o hb e=>(sb.2 b hb).trans e) f0 f1 f3 f4 f5;obtain⟨o,e,c,d⟩:=id bw;exact#[u,rfl,XR (s:={ s with heap:=h' }) e c d (by decide) #[x,H,I1,ru,#[rfl,λys hy=>by rw[I.list_inj hy hq];exact hx],bw,λb hb=>(hf b hb).1]]
 done:=by intro X hP hw hK hc i pins s σ H E I hf st hg;subst hP hw hK;obtain⟨xs,hq,hx⟩:=hg;obtain⟨aa,rv,p,hz⟩:=I.list hq;obtain⟨f0,f1,f2,f3,f4,f5⟩:=hf it (by simp);have hl:=rv.length;exact wpAny_pyNext_list_end (I.ok.hd hc) st p.isList (by simp;lia) λh' eb=>#[rfl,I.turned (t':=s.toks) (λb o hb e=>eb b o hb e) f0 f1 f3 f4 f5]
 self:=λ_ _ _ _ _ st h=>wpAny_pyIter_listiter st h
theorem aT {P:bq}{w:bo}{K:Frg}{tg:ca}(a it:Addr):Turn P w K tg (Itt K a) [it] it (λi h=>h.IsTupleIter it a i) where
 mem:=by simp
 obj:=λi h st b hb=>by
   have e:b=it:=by simpa using hb
   subst e;obtain⟨o,e,c,d⟩:=st;exact⟨o,e,λv z=>by rw[d] at z;cases z⟩
 keep:=λi h h' st k=>st.at λo e=>k it (by simp) o e
 item:=by intro X hP hw hK hc i pins s σ H E I hf st hg;subst hP hw hK;obtain⟨xs,x,hq,hx⟩:=hg;obtain⟨aa,rv,p,hz⟩:=I.tuple hq;obtain⟨u,hu,ru⟩:=rv.get hx;obtain⟨f0,f1,f2,f3,f4,f5⟩:=hf it (by simp);refine wpAny_pyNext_tuple_item st (show s.heap.IsTuple a aa.toArray from p) (x:=u) (by simpa using hu) λh' bw sb=>?_;have I1:Inv X pins σ H { s with heap:=h' }:=I.turned (t':=s.toks) (λb o hb e=>(sb.2 b hb).trans e) f0 f1 f3 f4 f5;obtain⟨o,e,c,d⟩:=id bw;exact#[u,rfl,XR (s:={ s with heap:=h' }) e c d (by decide) #[x,H,I1,ru,#[rfl,λys hy=>by rw[I.tuple_inj hy hq];exact hx],bw,λb hb=>(hf b hb).1]]
 done:=by intro X hP hw hK hc i pins s σ H E I hf st hg;subst hP hw hK;obtain⟨xs,hq,hx⟩:=hg;obtain⟨aa,rv,p,hz⟩:=I.tuple hq;obtain⟨f0,f1,f2,f3,f4,f5⟩:=hf it (by simp);have hl:=rv.length;exact wpAny_pyNext_tuple_end (I.ok.hd hc) st (show s.heap.IsTuple a aa.toArray from p) (by simp;lia) λh' eb=>#[rfl,I.turned (t':=s.toks) (λb o hb e=>eb b o hb e) f0 f1 f3 f4 f5]
 self:=λ_ _ _ _ _ st h=>wpAny_pyIter_tupleiter st h
theorem aU {P:bq}{w:bo}{K:Frg}{tg:ca}(it:Addr) (lo:Int) (n:Nat):Turn P w K tg (Itr lo n) [it] it (λi h=>IsRangeIter h it (lo+(i:Nat)*1) ((n:Int) - (i:Nat)) 1) where
 mem:=by simp
 obj:=λi h st b hb=>by
   have e:b=it:=by simpa using hb
   subst e;exact⟨_,st,λv z=>by have z':Data.fields _=Data.cell v:=z;cases z'⟩
 keep:=λi h h' st k=>k it (by simp) _ st
 item:=by intro X hP hw hK hc i pins s σ H E I hf st hg;subst hP hw hK;obtain⟨f0,f1,f2,f3,f4,f5⟩:=hf it (by simp);have W:=Walks.range (prog:=X.prog) (w:=X.w) (I.ok.hd hc) it lo 1 n;refine W.item i s _ _ hg st λv h' tk hv bw kk=>?_;obtain⟨t,rfl⟩:=hv;have I1:Inv X pins σ H { s with heap:=h',toks:=tk }:=I.turned (λb o hb e=>kk b o (by simpa using hb) e) f0 f1 f3 f4 f5;refine#[_,rfl,XR (s:={ s with heap:=h',toks:=tk }) (n:= "range_iterator") bw rfl rfl (by decide) #[.int (lo+i),H,I1,#[t,?_],#[rfl,rfl],bw,λb hb=>(hf b hb).1]];rw[Int.mul_one]
 done:=by intro X hP hw hK hc i pins s σ H E I hf st hg;subst hP hw hK;obtain⟨f0,f1,f2,f3,f4,f5⟩:=hf it (by simp);exact wpAny_pyNext_range_end (I.ok.hd hc) st (by have:n<=i:=hg;lia) λh' eb=>#[rfl,I.turned (t':=s.toks) (λb o hb e=>eb b o hb e) f0 f1 f3 f4 f5]
 self:=λ_ _ _ _ _ st h=>wpAny_pyIter_rangeiter st h
section
variable {X:Cx}{tg:ca}
theorem kD {a:St}(I:Inv X pins a H s) (h1 : -(2 ^ 62)<=n) (i:n < 2 ^ 62) (G : -(2 ^ 62)<=hi) (z:hi < 2 ^ 62) (q:R (Itr n (hi - n).toNat) H):wpAny (model X.prog X.w) X.A (pyIter (.ref s.heap.objs.size)) (PIE X pins a tg R) E { s with heap:=s.heap.push { cls:=.type "range", data:=.fields (z3 [.int n t,.int hi u,.int 1 v]) },toks:=tk }:=by
 refine wpAny_pyIter_range (IsRange.new ..) (small_one h1 i G z) ?_;have D:Inv X pins a H { s with heap:=s.heap.push { cls:=.type "range", data:=.fields (z3 [.int n t,.int hi u,.int 1 v]) },toks:=tk }:=I.kept λb o e=>zW _ e;refine#[(s.heap.push { cls:=.type "range", data:=.fields (z3 [.int n t,.int hi u,.int 1 v]) }).objs.size,[(s.heap.push { cls:=.type "range", data:=.fields (z3 [.int n t,.int hi u,.int 1 v]) }).objs.size],_,_,H,rfl,
   D.kept (t':=tk) λb o e=>zW _ e,aU _ n (hi - n).toNat,?_,λb hb=>?_,q]
 . have c:n+((0:Nat):Int)*1=n:=by simp
   have f:(((hi - n).toNat:Nat):Int) - ((0:Nat):Int)=Builtin.Range.rangeSize n hi 1:=by rw[rangeSize_one];split <;> lia
   show IsRangeIter _ _ (n+((0:Nat):Int)*1) ((((hi - n).toNat:Nat):Int) - ((0:Nat):Int)) 1;rw[c,f];exact yZ _ rfl
 . have e:b=(s.heap.push { cls:=.type "range", data:=.fields (z3 [.int n t,.int hi u,.int 1 v]) }).objs.size:=by simpa using hb
   subst e;exact D.fpOk (zR _) (D.hok.fresh (zR _))
def v8 (k:TA):TI:=λt H R=>k t H λn e=>∃j:Int,n=[.int j]/\-(2 ^ 62)<=j/\j < 2 ^ 62/\R (Itr 0 j.toNat) e
theorem gG {a:ca}{k:TA}{p pos:fb}(hg:Gl X "range") (n:X.mg "range"=am) (N:PA X [a] k) (hs:starEach [a] X.env=[(bj,eval a X.env)]:=by rfl):PI X tg (.Call (.Name "range" p) [a] [] pos) (v8 k):=by
 intro pins s i H R I h;refine Call_ (FI I hg n boot_range (xH (thn (N pos pins s i H _ I h) λc b #[f,m,D,o,q1]=>?_) hs rfl));obtain⟨j,e,q1,q2,q⟩:=q1;subst e;cases o with
 | cons r M=> cases M;obtain⟨t,rfl⟩:=r;exact call_range_1 (kD D (by lia) (by lia) q1 q2 (by simpa using q))
def A1O (r:TI) (g:TG) (o:TS):TS:=λD e H=>r e H λJ t=>∃W:Nat->Nat->St->Hp->Prop,(∃m,W 0 m e t)/\∀i m e H,W i m e H ->(J.stop i H/\D.nx e H)\/(J.go i H/\∃N:St->Hp->Prop,(∀S H',N S H'->∃j,j < m/\W (i+1) j S H')/\∀x H',J.yld i H x H'->g x e H' λn a=>o { D with nx:=N,ct:=N,bk:=D.nx } n a)
def PY (e:List Addr) (h:db):List (Addr×dc):=e.filterMap λb=>(h.get? b).map λo=>(b,o)
theorem DU (hb:b∈t) (e:h.get? b=al o):(b,o)∈PY t h:=List.mem_filterMap.mpr #[b,hb,by rw[e];rfl]
theorem gH (hp:p∈PY t h):p.1∈t/\h.get? p.1=al p.2:=by
 obtain⟨b,hb,e⟩:=List.mem_filterMap.mp hp;cases q:h.get? b with
 | none=>rw[q] at e;cases e
 | some o=> rw[q] at e;have e':(b,o)=p:=Option.some.inj e;subst e';exact#[hb,q]
theorem Inv.pinned {n:St}(I:Inv X pins n H s) (B:∀b∈t,LM X pins H b) (T:∀b∈t,∃o,s.heap.get? b=al o/\∀v,o.data≠.cell v):Inv X (pins++PY t s.heap) n H s:=
 I.pins_of λp hp=>(yW.mp hp).elim (λz=>I.pin p (zB _ z)) λz=>by obtain⟨hb,e⟩:=gH z;obtain⟨j,a,i,_⟩:=B p.1 hb;obtain⟨o,e',d⟩:=T p.1 hb;rw[e] at e';cases e';exact#[e,j,a,i,d]
theorem Inv.unpinned {e:St}(I:Inv X (pins++t) e H s):Inv X pins e H s:=I.pins_of λp hp=>I.pin p (zB _ (zA _ hp))
theorem wV {iter:ca}{body:List fv}{wi:TI}{g:TG}{Q:TS}{pos:fb}(hp:PassesOwn (model X.prog X.w) X.A X.env X.xe) (hc:X.calm=ap) (hi:PI X tg iter wi) (hg:PG X tg g) (hb:PSs X body Q) (hs:∀x,cv iter X.env x=pure x:=by intro _;rfl):PS X (.For tg iter body [] pos) (A1O wi g Q):=by
 intro pins s σ H D I h;refine wpAny_For (thn (hi pins s σ H _ I h) λv s1 h1=>thn h1 λyw s2 h2=>?_) hs;obtain⟨it,j,U,J,H2,e,I2,T,gw,G,W,⟨m0,w0⟩,turn⟩:=h2;subst e;have stat:∀{H':Hp},(∀b∈j,H' b=am)->∀b∈j,LM X pins H' b:=λhn b hb=>#[hn b hb,(G b hb).2]
 refine codeAny_forLoop_any (λn s'=>∃i S H',Inv X pins S H' s'/\U i s'.heap/\(∀b∈j,H' b=am)/\W i n S H') ?_ m0 #[0,σ,H2,I2,gw,λb hb=>(G b hb).1,w0];rintro n L ⟨i,p,Z,M,B,vn,w3⟩;rcases turn i n p Z w3 with ⟨stop,qn⟩ | ⟨go,N,hN,step⟩
 . refine gg hp (thn (T.done X rfl rfl rfl hc i pins L p Z X.xe M (stat vn) B stop) λr s4 #[hr,I4]=>?_);subst hr;exact ip #[p,Z,I4,qn]
 . refine gg hp (thn (T.item X rfl rfl rfl hc i pins L p Z X.xe M (stat vn) B go) λr s4 #[u,hr,h4]=>?_);subst hr;refine gg hp (thn h4 λ_ Y #[x,R,I5,r5,y5,q,uu]=>?_);have Af:=I5.pinned (stat uu) (T.obj _ _ q);refine gg hp (thn (hg _ Y p R x u _ Af r5 (step x R y5)) λ_ s6 #[O,H6,I6,q6]=>?_);refine gg hp (thn (hb _ s6 O H6 _ I6 q6) λf z c=>?_);have again:∀{t:St}{a:Hp},Inv X (pins++PY j Y.heap) t a z->N t a->∃m,m < n/\∃i S H',Inv X pins S H' z/\U i z.heap/\(∀b∈j,H' b=am)/\W i m S H':=λ{t a} y k=>by obtain⟨m',hm,w7⟩:=hN t a k;refine#[m',hm,i+1,t,a,y.unpinned,T.keep _ _ _ q λb hb o e=>(y.pin (b,o) (zB _ (zB _ (DU hb e)))).1,λb hb=>?_,w7];obtain⟨o,e,d⟩:=T.obj _ _ q b hb;exact(y.pin (b,o) (zB _ (zB _ (DU hb e)))).2.1
   cases f with
   | next=>obtain⟨t,a,y,k⟩:=c;exact again y k
   | cont=>obtain⟨t,a,y,k⟩:=c;exact again y k
   | brk=>obtain⟨t,a,y,c⟩:=c;exact#[t,a,y.unpinned,c]
   | ret v=>obtain⟨x7,t,a,y,r7,c⟩:=c;exact#[x7,t,a,y.unpinned,r7,c]
end
abbrev R2:=V->V->Hp->VK->Prop
def OpR (X:Cx) (f:ar->ar->Sem ar) (r:R2):Prop:=∀(pins:List (Addr×dc)) (s:ba) (e:St) (H:Hp) (x y:V) (v u:ar) (Q:VK),Inv X pins e H s->RelV x v->RelV y u->r x y H Q ->
   wpAny (model X.prog X.w) X.A (f v u) (EP X pins e Q) X.xe s
def UnR (X:Cx) (f:ar->Sem ar) (r:V->Hp->VK->Prop):Prop:=∀(pins:List (Addr×dc)) (s:ba) (e:St) (H:Hp) (x:V) (v:ar) (Q:VK),Inv X pins e H s->RelV x v->r x H Q ->
   wpAny (model X.prog X.w) X.A (f v) (EP X pins e Q) X.xe s
def BO (X:Cx) (f:ar) (r:List V->Hp->VK->Prop):Prop:=∀(pins:List (Addr×dc)) (s:ba) (n:St) (H:Hp) (t:List V) (e:List ar) (Q:VK),Inv X pins n H s->Vals t e->r t H Q ->
   wpAny (model X.prog X.w) X.A (call f e) (EP X pins n Q) X.xe s
def tOp (r:R2) (k n:TE):TE:=λe H Q=>k e H λx t=>n e t λy g=>r x y g Q
def tUn (r:V->Hp->VK->Prop) (k:TE):TE:=λt H Q=>k t H λx e=>r x e Q
def rI (C:Int->Int->Prop) (g:Int->Int->V):R2:=λx y H Q=>∃i j,x = .int i/\y = .int j/\C i j/\Q (g i j) H
def rI0 (g:Int->Int->V):R2:=λx y H Q=>∃i j,x = .int i/\y = .int j/\Q (g i j) H
def rU (g:Int->V):V->Hp->VK->Prop:=λx H Q=>∃i,x = .int i/\Q (g i) H
section
variable {X:Cx}{a b c:ca}{ta tb tc:TE}{pos:fb}
theorem wW (N:PE X a ta) (hb:PE X b tb) {pins:List (Addr×dc)}{s:ba}{e:St}{H:Hp}{R:V->V->Hp->Prop}(I:Inv X pins e H s) (h:ta e H λx o=>tb e o λy g=>R x y g) {Q:ar->ba->Prop}{f:ar->ar->Sem ar} (B:∀v u n x y g,Inv X pins e g n->RelV x v->RelV y u->R x y g->wpAny (model X.prog X.w) X.A (f v u) Q X.xe n) :
   wpAny (model X.prog X.w) X.A (eval a X.env) (λv J=>wpAny (model X.prog X.w) X.A (eval b X.env) (λu t=>wpAny (model X.prog X.w) X.A (f v u) Q X.xe t) X.xe J) X.xe s:=by refine thn (N pins s e H _ I h) λv p #[x,o,D,r,q1]=>?_;refine thn (hb pins p e o _ D q1) λu n #[y,g,i,m,q2]=>?_;exact B v u n x y g i r m q2
theorem MK {e:Operator}{r:R2}(T:OpR X (eg e) r) (N:PE X a ta) (hb:PE X b tb):PE X (.BinOp a e b pos) (tOp r ta tb):=by intro pins s m H Q I h;exact wpAny_BinOp (wW N hb I h λv u i x y g t n o q=>T pins i m g x y v u Q t n o q)
theorem A1P {u:UnaryOp}{r:V->Hp->VK->Prop}(T:UnR X (unaryOp u) r) (N:PE X a ta):PE X (.UnaryOp u a pos) (tUn r ta):=by intro pins s e H Q I h;exact UnaryOp_ (thn (N pins s e H _ I h) λv o #[x,t,D,n,q1]=>T pins o e t x v Q D n q1)
theorem opI {g:Int->Int->Int} (rule:∀(i j:Int) (t u:Tok) (s:ba) (Q:ar->ba->Prop) (E:ar->ba->Prop),C i j->Q (.int (g i j) s.toks) { s with toks:=s.toks+1 }->wpAny (model X.prog X.w) X.A (f (.int i t) (.int j u)) Q E s) :
   OpR X f (rI C λi j=>.int (g i j)):=by intro pins s r H x y v u Q I e n h;obtain⟨i,j,rfl,rfl,hc,q⟩:=h;obtain⟨t,rfl⟩:=e;obtain⟨o,rfl⟩:=n;exact rule i j t o s _ _ hc #[.int (g i j),H,I.tok _,#[_,rfl],q]
theorem A1Q {g:Int->Int->Int} (rule:∀(i j:Int) (t u:Tok) (s:ba) (Q:ar->ba->Prop) (E:ar->ba->Prop),Q (.int (g i j) s.toks) { s with toks:=s.toks+1 }->wpAny (model X.prog X.w) X.A (f (.int i t) (.int j u)) Q E s) :
   OpR X f (rI0 λi j=>.int (g i j)):=by intro pins s r H x y v u Q I e n h;obtain⟨i,j,rfl,rfl,q⟩:=h;obtain⟨t,rfl⟩:=e;obtain⟨o,rfl⟩:=n;exact rule i j t o s _ _ #[.int (g i j),H,I.tok _,#[_,rfl],q]
theorem wX {g:Int->Int->Bool} (rule:∀(i j:Int) (t u:Tok) (s:ba) (Q:ar->ba->Prop) (E:ar->ba->Prop),Q (.bool (g i j)) s->wpAny (model X.prog X.w) X.A (f (.int i t) (.int j u)) Q E s) :
   OpR X f (rI0 λi j=>.bl (g i j)):=by intro pins s r H x y v u Q I e n h;obtain⟨i,j,rfl,rfl,q⟩:=h;obtain⟨t,rfl⟩:=e;obtain⟨o,rfl⟩:=n;exact rule i j t o s _ _ #[.bl (g i j),H,I,rfl,q]
def A1R (i j:Int):Prop:=0 < j/\j < 1073741824
def wY (i j:Int):Prop:=0<=j/\j<=1000000/\i.natAbs < 2 ^ 64
theorem aV (k:Nat):(0:Int)<=2 ^ k:=by rw[two_pow_cast];exact b0W _
theorem wZ:OpR X (eg .Add) (rI0 λi j=>.int (i+j)):=A1Q λ_ _ _ _ _ _ _ q=>add_int q
theorem x8:OpR X (eg .Sub) (rI0 λi j=>.int (i - j)):=A1Q λ_ _ _ _ _ _ _ q=>sub_int q
theorem x9:OpR X (eg .Mod) (rI (λ_ j=>0 < j) λi j=>.int (i % j)):=opI λi j _ _ _ _ _ hc q=>by have h1:(0:Int) < j:=hc;exact mod_int' (by lia) (by rw[Int.fmod_eq_emod_of_nonneg i (by lia)];exact q)
theorem xA:OpR X (eg .Pow) (rI wY λi j=>.int (i ^ j.toNat)):=opI λ_ _ _ _ _ _ _ hc q=>pow_int_small hc.1 hc.2.1 hc.2.2 q
theorem xB:OpR X (eg .LShift) (rI wY λi j=>.int (i*2 ^ j.toNat)):=opI λ_ _ _ _ _ _ _ hc q=>lshift_int_small hc.1 hc.2.1 hc.2.2 q
theorem xC:OpR X (eg .RShift) (rI (λ_ j=>0<=j) λi j=>.int (i/2 ^ j.toNat)):=opI λi j _ _ _ _ _ hc q=>
 rshift_int hc (by rw[b9W i (aV _)];exact q)
theorem unI {g:Int->Int} (rule:∀(i:Int) (t:Tok) (s:ba) (Q:ar->ba->Prop) (E:ar->ba->Prop),Q (.int (g i) s.toks) { s with toks:=s.toks+1 }->wpAny (model X.prog X.w) X.A (f (.int i t)) Q E s) :
   UnR X f (rU λi=>.int (g i)):=by intro pins s n H x v Q I e h;obtain⟨i,rfl,q⟩:=h;obtain⟨t,rfl⟩:=e;exact rule i t s _ _ #[.int (g i),H,I.tok _,#[_,rfl],q]
theorem xD:UnR X (unaryOp .USub) (rU λi=>.int (-i)):=unI λ_ _ _ _ _ q=>neg_int q
theorem PZ {t:St}(I:Inv X pins t H s) (q:Q (.bl k) H) (e:k=J):EP X pins t Q (.bool J) s:=by subst e;exact#[.bl k,H,I,rfl,q]
theorem A1S:OpR X (bx .Lt) (rI0 λi j=>.bl (decide (i < j))):=wX λ_ _ _ _ _ _ _ q=>lt_int q
theorem dS:OpR X (bx .LtE) (rI0 λi j=>.bl (decide (i<=j))):=wX λ_ _ _ _ _ _ _ q=>le_int q
theorem v9:OpR X (bx .Gt) (rI0 λi j=>.bl (decide (j < i))):=wX λ_ _ _ _ _ _ _ q=>gt_int q
theorem gI:OpR X (bx .Lt) (λx y H Q=>∃i j,x = .str i/\y = .str j/\Q (.bl (decide (i.cps.toList < j.cps.toList))) H):=by intro pins s r H x y v u Q I e n h;obtain⟨i,j,rfl,rfl,q⟩:=h;obtain⟨t,rfl⟩:=e;obtain⟨o,rfl⟩:=n;exact lt_str (PZ I q rfl)
theorem gJ:OpR X (bx .In) (λx y H Q=>∃i j,x = .str i/\y = .str j/\Q (.bl (!(a3Z j i 0 j.length 1).isEmpty)) H):=by intro pins s r H x y v u Q I e n h;obtain⟨i,j,rfl,rfl,q⟩:=h;obtain⟨t,rfl⟩:=e;obtain⟨o,rfl⟩:=n;exact in_str (PZ I q rfl)
theorem xE:OpR X (bx .Is) (λx y H Q=>y = .non/\Q (.bl (decide (x = .non))) H):=by
 intro pins s o H x y v u Q I e n h;obtain⟨rfl,q⟩:=h;cases n;refine is_none_gen (PZ I q ?_);cases x <;> first
   | (cases e;rfl)
   | (obtain⟨t,rfl⟩:=e;rfl)
theorem pX:OpR X (bx .IsNot) (λx y H Q=>y = .non/\Q (.bl (!decide (x = .non))) H):=by
 intro pins s o H x y v u Q I e n h;obtain⟨rfl,q⟩:=h;cases n;refine isnot_none_gen (PZ I q ?_);cases x <;> first
   | (cases e;rfl)
   | (obtain⟨t,rfl⟩:=e;rfl)
theorem V9:OpR X (bx .NotIn) (λx y H Q=>∃i j,x = .str i/\y = .str j/\Q (.bl (!(!(a3Z j i 0 j.length 1).isEmpty))) H):=by intro pins s r H x y v u Q I e n h;obtain⟨i,j,rfl,rfl,q⟩:=h;obtain⟨t,rfl⟩:=e;obtain⟨o,rfl⟩:=n;exact notIn_str (PZ I q rfl)
theorem OpR.or (h:OpR X f r) (h':OpR X f e):OpR X f (λx y H Q=>r x y H Q\/e x y H Q):=by
 intro pins s o H x y v u Q I t n q;rcases q with q | q;. exact h pins s o H x y v u Q I t n q
 . exact h' pins s o H x y v u Q I t n q
theorem ER (b:ca) {u:CmpOp}(h:u≠.In:=by decide) (t:u≠.NotIn:=by decide):fy u b=false:=by
 have e:(u==CmpOp.In)=false:=by cases u <;> first | rfl | exact absurd rfl h
 have f:(u==CmpOp.NotIn)=false:=by cases u <;> first | rfl | exact absurd rfl t
 cases b <;> simp[fy,e,f]
theorem C6 {e:CmpOp}{r:R2}(T:OpR X (bx e) r) (N:PE X a ta) (hb:PE X b tb) (j:fy e b=bj):PE X (.Compare a [e] [b] pos) (tOp r ta tb):=by intro pins s m H Q I h;exact wpAny_Compare1 (wW N hb I h λv u i x y g t n o q=>T pins i m g x y v u Q t n o q) j
def kE (t:TE):TT:=λe H Q=>t e H λx H'=>∃k,x = .bl k/\Q k H'
theorem BJ {t:CmpOp}{r:R2}(T:OpR X (bx t) r) (N:PE X a ta) (hb:PE X b tb) (j:fy t b=bj):PT X (.Compare a [t] [b] pos) (kE (tOp r ta tb)):=by
 intro pins s n H Q I h;refine wpAny_isTrue_Compare1 (thn (N pins s n H _ I h) λv R #[x,o,D,f,q1]=>thn (hb pins R n o _ D q1) λu S #[y,g,i,q,q2]=>
   thn (T pins S n g x y v u _ i f q q2) λc M #[z,Z,m,O,k,e,p]=>?_) j;subst e;cases O;exact cE #[Z,m,p]
def aW (r o:R2) (ta tb tc:TE):TE:=λe H Q=>ta e H λx t=>tb e t λy g=>r x y g λz Z=>∃k,z = .bl k /\(if k=ap then tc e Z λi n=>o y i n Q else Q (.bl bj) Z)
theorem kF {n q:CmpOp}{r m:R2}(M:OpR X (bx n) r) (O:OpR X (bx q) m) (R:PE X a ta) (hb:PE X b tb) (hc:PE X c tc) (S:lastMarks [n,q] [b,c]=false:=by with_unfolding_all rfl):PE X (.Compare a [n,q] [b,c] pos) (aW r m ta tb tc):=by
 intro pins s t H Q I h;refine Compare_chain (thn (R pins s t H _ I h) λv U #[x,f,D,G,q1]=>chain_link (thn (hb pins U t f _ D q1) λu Y #[y,g,T,p,q2]=>
   thn (M pins Y t g x y v u _ T G p q2) λd s3 #[z,Z,o,J,k,e,i]=>?_)) S;subst e;cases J;refine cE ?_;cases k with
 | false=>exact ite_ff #[.bl bj,Z,o,rfl,i]
 | true=>exact ite_tt (chain_last (thn (hc pins s3 t Z _ o i) λw' s4 #[z',j,N,L,B]=>O pins s4 t j y z' u w' Q N p L B))
theorem kG {n q:CmpOp}{r m:R2}(J:OpR X (bx n) r) (S:OpR X (bx q) m) (B:PE X a ta) (hb:PE X b tb) (hc:PE X c tc) (G:lastMarks [n,q] [b,c]=false:=by with_unfolding_all rfl):PT X (.Compare a [n,q] [b,c] pos) (kE (aW r m ta tb tc)):=by
 intro pins s t H Q I h;refine isTrue_chain (thn (B pins s t H _ I h) λv s1 #[x,f,D,r1,q1]=>test_link (thn (hb pins s1 t f _ D q1) λu s2 #[y,g,N,p,q2]=>
   thn (J pins s2 t g x y v u _ N r1 p q2) λd s3 #[z,Z,o,r3,k,e,i]=>?_)) G;subst e;cases r3;refine cE ?_;cases k with
 | false=> obtain⟨k',e',L⟩:=i;cases e';exact ite_ff #[Z,o,L]
 | true=> refine ite_tt (test_last (thn (hc pins s3 t Z _ o i) λw' s4 #[z',j,O,r4,U]=>thn (S pins s4 t j y z' u w' _ O p r4 U) λd' s5 #[z2,T,R,r5,k2,M,Y]=>?_));subst M;cases r5;exact cE #[T,R,Y]
theorem Q0:(bd:Nat) < 2 ^ 63:=by rw[dh];decide
theorem aX:OpR X (eg .Add) (λx y H Q=>∃i j,x = .str i/\y = .str j/\i.length+j.length<=bd/\Q (.str (i++j)) H):=by intro pins s m H x y v u Q I n o h;obtain⟨i,j,rfl,rfl,e,q⟩:=h;obtain⟨t,rfl⟩:=n;obtain⟨r,rfl⟩:=o;exact add_str (λr L=>#[.str (i++j),H,I.tok _,#[_,rfl],q]) e
theorem EW (r:Vals [x] e):∃u,e=[u]/\RelV x u:=by
 cases r with
 | cons t n=>cases n;exact#[_,rfl,t]
theorem vA (r:Vals [x,y] e):∃u t,e=[u,t]/\RelV x u/\RelV y t:=by
 cases r with
 | cons n o=>
   cases o with
   | cons i m=>cases m;exact#[_,_,rfl,n,i]
theorem gK:BO X (.type "int") (λxs H Q=>(∃i,xs=[.int i]/\Q (.int i) H)\/∃k,xs=[.bl k]/\Q (.int (if k then 1 else 0)) H):=by
 intro pins s o H xs n Q I r h;rcases h with ⟨i,rfl,q⟩ | ⟨k,rfl,q⟩
 . obtain⟨u,rfl,t,rfl⟩:=EW r;exact call_int_int #[.int i,H,I,#[_,rfl],q]
 . obtain⟨u,rfl,e⟩:=EW r;cases e;exact call_int_bool #[.int (if k then 1 else 0),H,I.tok _,#[_,rfl],q]
def kH (K:Frg) (x:V) (H:Hp) (n:Nat):Prop:=
 match x with
 | .str y=>y.length<=bd/\n=y.length
 | .byt y=>y.size<=bd/\n=y.size
 | .ref p=>(∃t,SqL K H p t/\n=t.length)\/∃t,SqT K H p t/\n=t.length
 | _=>False
theorem kI:BO X (.builtin "len") (λxs H Q=>∃x n,xs=[x]/\kH X.K x H n/\Q (.int n) H):=by
 intro pins s z H xs v Q I r h;obtain⟨x,n,rfl,e,q⟩:=h;obtain⟨u,rfl,f⟩:=EW r;have k:=Q0;have hs:bd=16777216:=dh;cases x with
 | str y=> obtain⟨t,rfl⟩:=f;obtain⟨hy,e'⟩:y.length<=bd/\n=y.length:=e;subst e';exact len_str (by lia) #[.int _,H,I.tok _,#[_,rfl],q]
 | byt y=> obtain⟨t,rfl⟩:=f;obtain⟨hy,e'⟩:y.size<=bd/\n=y.size:=e;subst e';exact PySem.W.len_bytes (by lia) #[.int _,H,I.tok _,#[_,rfl],q]
 | ref p=>
   cases f;have e':(∃xs,SqL X.K H p xs/\n=xs.length)\/∃xs,SqT X.K H p xs/\n=xs.length:=e;rcases e' with ⟨xs,hx,e'⟩ | ⟨xs,hx,e'⟩
   . subst e';obtain⟨g,i,o,j⟩:=I.list hx;have m:=i.length;exact Calls.call_len_list o.isList (by simp only[zJ];lia) #[.int xs.length,H,I.tok _,#[_,by simp only[zJ];rw[m]],q]
   . subst e';obtain⟨g,i,o,j⟩:=I.tuple hx;have m:=i.length;exact len_tuple o (by simp only[zJ];lia) #[.int xs.length,H,I.tok _,#[_,by simp only[zJ];rw[m]],q]
 | _=>exact(show False from e).elim
theorem XS:BO X (.builtin "divmod") (λxs H Q=>∃i j,xs=[.int i,.int j]/\A1R i j/\∀p,H p=am->Q (.ref p) (upd H p (.tup [.int (i/j),.int (i % j)]))):=by intro pins s k H xs f Q I r h;obtain⟨i,j,rfl,⟨h1,n⟩,q⟩:=h;obtain⟨u,g,rfl,⟨t,rfl⟩,⟨m,rfl⟩⟩:=vA r;refine divmod_int (by lia) ?_ (.inl (PyProof.noPylong_small (by lia)));rw[b9W i (by lia),Int.fmod_eq_emod_of_nonneg i (by lia)];have hn:H s.heap.objs.size=none:=I.hok.fresh (zR _);refine#[.ref s.heap.objs.size,_,?_,rfl,q _ hn];refine I.laid (λb o e=>zW _ e) (zR _) #[by simp only[yR,b1J];rw[dh];decide,[.int (i/j) s.toks,.int (i % j) (s.toks+1)],.cons #[_,rfl] (.cons #[_,rfl] .nil),?_];exact#[_,yZ s.heap rfl,rfl,0,rfl]
end
structure ObjM (h:db) (x dx C:Addr) (mA:Str->Option ar):Prop where
 obj:h.get? x=al (PySem.W.instObj C dx)
 ns:h.Ns1 dx mA
 ne:dx≠x
theorem gL {h:db}(n:h.Ns1 i U):∃O,h.get? i=al O/\∀name,PySem.W.lookIn name O=al (U name):=by
 obtain⟨o,r,M,T,hd,hk,_,j⟩:=n;refine#[o,T,λname=>?_];have e:=j name;unfold nsFind findBy at e;rw[<-Array.find?_toList] at e;unfold PySem.W.lookIn;rw[hd];dsimp only;split;. rename_i y q;rw[q] at e;exact congrArg al e
 . rename_i q;rw[q] at e;have a:r.toList.any (·.refKey)=false:=by rw[b5J];intro y hy;obtain⟨z,t,D⟩:=hk y (Array.mem_toList_iff.mp hy);simp[DictEntry.refKey,D]
   have J:¬r.toList.any (·.refKey)=true:=by rw[a];exact nft
   rw[if_neg J];exact congrArg al e
theorem ObjM.look (I:ObjM h x e C U):∃O,PySem.W.InstAt h x (PySem.W.instObj C e) C (al O)/\∀name,PySem.W.lookIn name O=al (U name):=
 let #[O,T,m]:=gL I.ns
 #[O,#[I.obj,rfl,rfl,T],m]
theorem RelO.some_of (r:RelO (al v) o):∃u,o=al u/\RelV v u:=by
 cases o with
 | none=>exact(show False from r).elim
 | some u=>exact#[u,rfl,r]
section
theorem pY (hok:HOk P w H h) (e:H a=al (.ins C dx fs)):∃U,ObjM h a dx C U/\(∀f,RelO (fs.lookup f) (U f))/\PySem.Within U (fs.map (·.1))/\fs.length<=1000/\H dx=al (.own a):=by
 obtain⟨d,z,O,N,U,n,r,q⟩:=(show ObjOk P w H h a (.ins C dx fs) from hok a _ e)
 exact#[U,#[N,n,O],r,q,z,d]
end
structure Cls (K:Frg) (C:Addr):Prop where
 pg:PySem.W.plainGet K C Str.empty=ap
 hd:PySem.W.hasDictIn K C=ap
 po:PySem.W.plainOver K C=ap
 sa:PySem.W.findIn K (.ref C) "__setattr__"=al (al (.builtin "object.__setattr__"))
theorem Cls.get {K:Frg}(c:Cls K C) (f:Str):PySem.W.plainGet K C f=true:=c.pg
section
variable {X:Cx}{pins:List (Addr×dc)}{σ:St}{H:Hp}{s:ba}{A:cx}{E:ar->ba->Prop}{Q:ar->ba->Prop}{c:ar}{b:Bool}
inductive TyOf (K:Frg) (H:Hp):V->ar->Prop where
 | non:TyOf K H .non (.type "NoneType")
 | bl (x:Bool):TyOf K H (.bl x) (.type "bool")
 | int (i:Int):TyOf K H (.int i) (.type "int")
 | str (x:Str):TyOf K H (.str x) (.type "str")
 | flt (x:UInt64):TyOf K H (.flt x) (.type "float")
 | lst {a:Addr}{xs:List V}(e:H a=al (.lst xs)):TyOf K H (.ref a) (.type "list")
 | frz {a:Addr}{o:dc}{xs:List V}(e:H a=al (.frz o (.lst xs))):TyOf K H (.ref a) (.type "list")
 | tup {a:Addr}{xs:List V}(e:H a=al (.tup xs)):TyOf K H (.ref a) (.type "tuple")
 | dK {a:Addr}{kvs:List (Key×V)}(e:H a=al (.dK kvs)):TyOf K H (.ref a) (.type "dict")
 | dT {a:Addr}{kvs:List (List Key×V)}(e:H a=al (.dT kvs)):TyOf K H (.ref a) (.type "dict")
 | ins {a C dx:Addr}{fs:List (Str×V)}(e:H a=al (.ins C dx fs)) (cl:Cls K C) (ha:PySem.W.findIn K (.ref C) "__class__"=al (al (.builtin "object.__class__"))) (hn:PySem.W.specialIn K (.builtin "object.__class__") "__get__"=al (al (.builtin "getset_descriptor.__get__"))) (htk:PySem.W.takesIn K (.builtin "object.__class__")=al ap) (hm:PySem.W.mroIn K C (.type "object")=al ap):TyOf K H (.ref a) (.ref C)
theorem GQ (I:Inv X pins σ H s) (r:RelV x u) (ty:TyOf X.K H x t) (e:PySem.W.kitOne X.K t c=al b) (h:∀tk,Q (.bool b) { s with toks:=tk }) :
   wpAny (model X.prog X.w) A (call (.builtin "isinstance") [u,c]) Q E s:=by
 cases ty with
 | non=>cases (show u=a3X from r);exact a2V PySem.W.kitx_none I.kIn a7J e (λz=>nomatch z) h
 | bl y=>cases (show u=Value.bool y from r);exact a2V PySem.W.kitx_bool I.kIn a7J e (λz=>nomatch z) h
 | int i=>obtain⟨t,q⟩:=(show ∃t,u=Value.int i t from r);cases q;exact a2V PySem.W.kitx_int I.kIn a7J e (λz=>nomatch z) h
 | str y=>obtain⟨t,q⟩:=(show ∃t,u=c2V y t from r);cases q;exact a2V PySem.W.kitx_str I.kIn a7J e (λz=>nomatch z) h
 | flt y=>obtain⟨t,q⟩:=(show ∃t,u=Value.float y t from r);cases q;exact a2V PySem.W.kitx_float I.kIn a7J e (λz=>nomatch z) h
 | @lst a m R=>
   cases (show u=a0X a from r);obtain⟨_,_,n,_,h1⟩:=(show ObjOk X.prog X.w H s.heap a (.lst m) from I.hok a _ R)
   exact a2V PySem.W.kitx_list I.kIn #[_,h1,rfl] e (λz=>nomatch z) h
 | @frz a v m R=>
   cases (show u=a0X a from r);obtain⟨_,_,_,n,_,h1⟩:=(show ObjOk X.prog X.w H s.heap a (.frz v (.lst m)) from I.hok a _ R)
   exact a2V PySem.W.kitx_list I.kIn #[_,h1,rfl] e (λz=>nomatch z) h
 | @tup a m R=>
   cases (show u=a0X a from r);obtain⟨_,_,_,p⟩:=(show ObjOk X.prog X.w H s.heap a (.tup m) from I.hok a _ R)
   obtain⟨o,h1,f,_⟩:=p;exact a2V PySem.W.kitx_tuple I.kIn #[o,h1,f] e (λz=>nomatch z) h
 | @dK a kvs R=>
   cases (show u=a0X a from r);obtain⟨_,_,D,_,p⟩:=(show ObjOk X.prog X.w H s.heap a (.dK kvs) from I.hok a _ R)
   obtain⟨o,j,M,h1,f,_⟩:=p;exact a2V PySem.W.kitx_dict I.kIn #[o,h1,f.1] e (λz=>nomatch z) h
 | @dT a kvs R=>
   cases (show u=a0X a from r);obtain⟨_,_,m,_,o,j,M,h1,f,_⟩:=(show ObjOk X.prog X.w H s.heap a (.dT kvs) from I.hok a _ R)
   exact a2V PySem.W.kitx_dict I.kIn #[o,h1,f.1] e (λz=>nomatch z) h
 | @ins a C T fs R g N hn htk k=> cases (show u=a0X a from r);obtain⟨U,O,_⟩:=pY I.hok R;obtain⟨S,J,_⟩:=O.look;exact a2V (PySem.W.kitx_own (g.get _) g.hd N hn htk k) I.kIn J e (λz=>nomatch z) h
end
structure Room (k:Nat) (A:cx):Prop where
 hd:A.handled=am
 dp:A.depth+3*k+5 < recursionLimit
 un:A.units+16*k+200 < ev
theorem Room.mono (r:Room k A) (h:j<=k):Room j A:=#[r.hd,by have:=r.dp;lia,by have:=r.un;lia]
theorem Room.deeper (r:Room (k+1) A) (env:Env):Room k (A.deeper env):=#[r.hd,by have:=r.dp;show A.depth+1+3*k+5 < _;lia,by have:=r.un;show A.units+3+16*k+200 < _;lia]
theorem Room.depth (r:Room k A):A.depth < recursionLimit:=by have:=r.dp;lia
theorem Room.units (r:Room k A):A.units+64 < cLine:=by have:=r.un;lia
def A1T:TA:=λ_ H Q=>Q [] H
def vB (k:TE) (J:TA):TA:=λe H Q=>k e H λx t=>J e t λn g=>Q (x::n) g
section
variable {X:Cx}{e:ca}{es:List ca}{te:TE}{t:TA}{pos:fb}
theorem xF:PA X [] A1T:=λ_ _ _ _ H Q I h=>c0K #[[],H,I,.nil,h]
theorem pZ (N:PE X e te) (hr:PA X es t) (hs:starEach (e::es) X.env=(bj,eval e X.env)::starEach es X.env:=by rfl):PA X (e::es) (vB te t):=by intro pos pins s n H Q I h;rw[hs];show wpAny _ _ (spliced ((bj,eval e X.env)::backTo pos (starEach es X.env))) _ _ s;refine xP (thn (N pins s n H _ I h) λu m #[x,a,D,i,q1]=>?_);exact thn (hr pos pins m n a _ D q1) λc b #[p,g,o,r,q2]=>#[x::p,g,o,.cons i r,q2]
def A1U (t:TA):TE:=λo H Q=>t o H λa n=>a.length<=bd/\∀p,n p=am->Q (.ref p) (upd n p (.tup a))
def qD (t:TA):TE:=λo H Q=>t o H λa n=>a.length<=bd/\∀p,n p=am->Q (.ref p) (upd n p (.lst a))
theorem xK {S} (h:PA X es t):PE X (.Tuple es S pos) (A1U t):=by intro pins s m H Q I hq;refine wpAny_Tuple_spliced (thn (h pos pins s m H _ I hq) λo n #[i,a,D,r,z,q]=>#[by rw[<-r.length];exact z,?_]);have B:a n.heap.objs.size=none:=D.hok.fresh (zR _);refine#[.ref n.heap.objs.size,upd a n.heap.objs.size (.tup i),D.laid (t':=n.toks) (λb u e=>zW _ e) (zR _) ?_,rfl,q _ B];exact#[z,o,r,#[_,yZ _ rfl,rfl,_,rfl]]
theorem xN (h:PA X es t):PE X (.List es pos) (qD t):=by intro pins s m H Q I hq;refine wpAny_List_spliced (thn (h pos pins s m H _ I hq) λo n #[i,a,D,r,z,q]=>#[by rw[<-r.length];exact z,?_]);have B:a n.heap.objs.size=none:=D.hok.fresh (zR _);refine#[.ref n.heap.objs.size,upd a n.heap.objs.size (.lst i),D.laid (t':=n.toks) (λb u e=>zW _ e) (zR _) ?_,rfl,q _ B];exact#[z,o,0,r,yZ _ rfl]
end
abbrev Sp:=List V->Hp->VK->XK->Prop
abbrev CXT:=List Env->Hp->ba->XK->ar->ba->Prop
structure Env0 (P:bq) (w:bo) (K:Frg) (mg:Str->Option ar) (base:db) (A:cx) (outer:List Env) (s:ba) (H:Hp):Prop where
 frames:A.frames=al outer
 mod:Mod K mg base
 bs:∀b o,base.get? b=al o->s.heap.get? b=al o/\H b=am
 bsz:base.objs.size<=s.heap.objs.size
 funs:s.heap.FunFrames base outer
 frf:∀b∈frs outer,H b=am
 hok:HOk P w H s.heap
 bare:io s.gens
def CE (outer:List Env) (P:bq) (w:bo) (H:Hp) (s:ba) (Q:VK) (u:ar) (s':ba):Prop:=∃v H',s'.os=s.os/\io s'.gens/\Un (frs outer) [] H H' s.heap s'.heap/\HOk P w H' s'.heap/\RelV v u/\Q v H'
def CR (CX:CXT) (outer:List Env) (P:bq) (w:bo) (H:Hp) (s:ba) (Q:VK) (E:XK) (r:Result) (s':ba):Prop:=
 match r with
 | .ok (.ret u)=>CE outer P w H s Q u s'
 | .ok _=>False
 | .error e=>CX outer H s E e s'
structure FnOk (P:bq) (w:bo) (K:Frg) (mg:Str->Option ar) (base:db) (CX:CXT) (k:Nat) (f:Addr) (fd:gy) (ps:List Str) (sp:Sp):Prop where
 len:∀vs H Q E,sp vs H Q E->vs.length=ps.length
 run:∀(A:cx) (outer:List Env) (s:ba) (H:Hp) (args:Args) (us:List ar) (vs:List V) (Q:VK) (E:XK),Room k A->Env0 P w K mg base A outer s H->BindsTo s fd args (ps.zip us)->Vals vs us->sp vs H Q E ->
   codeAny (model P w) A (.call (.ref f) args) (CR CX outer P w H s Q E) s
section
variable {X:Cx}{pins:List (Addr×dc)}{σ:St}{H:Hp}{s s':ba}
theorem Inv.env0 (I:Inv X pins σ H s):Env0 X.prog X.w X.K X.mg X.base X.A X.stack s H:=#[I.ok.frames,I.ok.mod,I.bs,zN I.ok.bsz I.sz,I.stack,I.stkFree,I.hok,I.bare]
theorem Inv.after (I:Inv X pins σ H s) (h:CE X.stack X.prog X.w H s Q u s'):EP X pins σ Q u s':=by obtain⟨v,H',a,bare,un,hok,r,q⟩:=h;obtain⟨n,g,d,t,e⟩:=s';obtain rfl:e=s.os:=a;exact#[v,H',I.call (h':=n) (g':=g) (d':=d) (t':=t) (ch:=[]) un hok bare (λb z=>absurd z (by simp)),r,q]
end
def dU (sp:Sp) (o:List V) (E:XK) (t:TA):TE:=λa H Q=>t a H λn e=>sp (n++o) e Q E
def Binds (K:Frg) (O:gy) (f:List Str) (ds:List ar):Prop:=∀(s:ba) (e:List ar),K.In s.heap->(e++ds).length=f.length->BindsTo s O #[e,[]] (f.zip (e++ds))
theorem Binds.all {K:Frg}(h:∀e:List ar,e.length=f.length->bindArgs O #[e,[]]=pure (f.zip e)):Binds K O f []:=λs e _ m=>by rw[a6Q] at m ⊢;exact .of_eq (h e m)
def aY (CX:CXT) (X:Cx) (E:XK):Prop:=∀(pins:List (Addr×dc)) (t:St) (H:Hp) (s:ba) (e:ar) (s':ba),Inv X pins t H s->CX X.stack H s E e s'->X.xe e s'
section
theorem xO {a:St}(F:FnOk X.prog X.w X.K X.mg X.base CX k f fd ps sp) (hr:Room k X.A) (hb:Binds X.K fd ps ds) (hd:Vals qz ds) (hx:aY CX X E) (I:Inv X pins a H s) (r:Vals vs n) (h:sp (vs++qz) H Q E):wpAny (model X.prog X.w) X.A (call (.ref f) n) (EP X pins a Q) X.xe s:=by
 have i:Vals (vs++qz) (n++ds):=r.append hd;have b:(n++ds).length=ps.length:=by rw[<-i.length];exact F.len _ _ _ _ h
 refine wpAny_call (codeAny_mono (F.run X.A X.stack s H #[n,[]] (n++ds) (vs++qz) Q E hr I.env0 (hb s n I.kIn b) i h) λr s' hq=>?_);cases r with
 | error e=>exact hx pins a H s e s' I hq
 | ok B=>
   cases B with
   | ret u=>exact I.after hq
   | next=>exact b3K hq
   | brk=>exact b3K hq
   | cont=>exact b3K hq
theorem qE{X:Cx}{CX:CXT}{k:Nat}{f:Addr}{fd:gy}{ps:List Str}{sp:Sp}{qz:List V}{ds:List ar}{E:XK}{x:Str}{p:fb}{pos:fb}{e:ca}{es:List ca}{t:TA} (F:FnOk X.prog X.w X.K X.mg X.base CX k f fd ps sp) (hr:Room k X.A) (hg:Gl X x) (j:X.mg x=al (.ref f)) (hk:b2X X.K (.ref f)=ap) (hb:Binds X.K fd ps ds) (hd:Vals qz ds) (hx:aY CX X E) (N:PA X (e::es) t) (u:(x==("__debug__":Str))=false:=by decide) (he:starEach (e::es) X.env=(bj,eval e X.env)::starEach es X.env:=by rfl) (n:(backTo pos (starEach es X.env)).any (·.1)=false:=by rfl) :
   PE X (.Call (.Name x p) (e::es) [] pos) (dU sp qz E t):=by intro pins s a H Q I h;refine eD (V3 I hg j ?_ u);refine PySem.W.callWith_K (h₀:=X.base) I.ok.mod.kin hk (thn (N pos pins s a H _ I h) λc b #[g,i,D,r,q]=>#[D.kIn,?_]) he n;exact xO F hr hb hd hx D r q
end
structure FnScope (N P:List Str) (sc:gc):Prop where
 kind:sc.kind = .function
 co:sc.isCoroutine=bj
 gen:sc.isGenerator=bj
 nd:N.Nodup
 pre:N.take P.length=P
 par:∀x∈P,sc.names.lookup x=al .local\/sc.names.lookup x=al .cell
 nofree:∀y∈sc.names,y.2≠.free
theorem TR {gk:Str->Option en}:∀{binds:List (Str×ar)}{m:Str->Option ar},(∀v,(x,v)∉binds)->bindL gk binds m x=m x
 | [],_,_=>rfl
 | (n,v)::r,m,h=>by
   unfold bindL;rw[TR λw R=>h w (yV _ R)];split
   . have:x≠n:=by rintro rfl;exact h v a1Q
     simp[this]
   . rfl
theorem TU {gk:Str->Option en}:∀{binds:List (Str×ar)}{m:Str->Option ar},(∀v,(x,v)∉binds)->bindC gk binds m x=m x
 | [],_,_=>rfl
 | (n,v)::r,m,h=>by
   unfold bindC;rw[TU λw R=>h w (yV _ R)];split;. rfl
   . have:x≠n:=by rintro rfl;exact h v a1Q
     simp[this]
theorem TV {gk:Str->Option en}:∀{P:List Str}{vs:List ar}{i:Nat}{m:Str->Option ar},P.Nodup->P[i]?=al x->vs[i]?=al v->gk x=al .local ->
   bindL gk (P.zip vs) m x=al v
 | [],_,_,_,_,h,_,_=>by simp at h
 | _::_,[],_,_,_,_,h,_=>by simp at h
 | p::P,w::vs,0,m,nd,h1,a,hk=>by simp at h1 a;subst h1;subst a;show bindL gk ((p,w)::P.zip vs) m p=_;unfold bindL;rw[TR λv e=>(xV.mp nd).1 (b7K e).1,if_pos hk];simp
 | p::P,w::vs,i+1,m,nd,h1,a,hk=>by show bindL gk ((p,w)::P.zip vs) m x=_;unfold bindL;exact TV (i:=i) (xV.mp nd).2 (by simpa using h1) (by simpa using a) hk
theorem TX {gk:Str->Option en}:∀{P:List Str}{vs:List ar}{i:Nat}{m:Str->Option ar},P.Nodup->P[i]?=al x->vs[i]?=al v->gk x≠al .local ->
   bindC gk (P.zip vs) m x=al v
 | [],_,_,_,_,h,_,_=>by simp at h
 | _::_,[],_,_,_,_,h,_=>by simp at h
 | p::P,w::vs,0,m,nd,h1,a,hk=>by simp at h1 a;subst h1;subst a;show bindC gk ((p,w)::P.zip vs) m p=_;unfold bindC;rw[TU λv e=>(xV.mp nd).1 (b7K e).1,if_neg hk];simp
 | p::P,w::vs,i+1,m,nd,h1,a,hk=>by show bindC gk ((p,w)::P.zip vs) m x=_;unfold bindC;exact TX (i:=i) (xV.mp nd).2 (by simpa using h1) (by simpa using a) hk
def start (N:List Str) (vs:List V):St:=vs.map al++a3J (N.length - vs.length) am
def XT (CX:CXT) (P:bq) (w:bo) (K:Frg) (mg:Str->Option ar) (base:db) (N:List Str) (qual:Str) (scope:gc) (f:Addr) (cd:ar) (A:cx) (outer:List Env) (s:ba) (H:Hp) (E:XK):Cx where
 prog:=P
 w:=w
 K:=K
 mg:=mg
 base:=base
 A:=A.deeper (envOfC qual scope s.heap.objs.size f cd)
 N:=N
 s₀:=s
 H₀:=H
 env:=envOfC qual scope s.heap.objs.size f cd
 outer:=outer
 stack:=envOfC qual scope s.heap.objs.size f cd::outer
 ex:=[]
 calm:=ap
 fn:=λ_=>ap
 pn:=[]
 xe:=λe s'=>wpAny (model P w) (A.deeper (envOfC qual scope s.heap.objs.size f cd)) (leaving (envOfC qual scope s.heap.objs.size f cd) e) (λ_ sv=>CX outer H s E e sv) (λe' sv=>CX outer H s E e' sv) s'
theorem XU {j:gc}(h:j.names.lookup x=al .cell):∃c,(cellsFrom n j.names []).lookup x=al c:=by have q:=PySem.W.cellsFrom_some j.names n [] (.inl h);exact xY.mp q
theorem gM {K:Frg} (S:FnScope N o scope) (hd:A.handled=am) (J:Env0 P w K mg base A outer s H) (I:vs.length=o.length) (r:Vals vs m) (x:InCallC s s.heap.objs.size (bindL (envOfC qual scope s.heap.objs.size f D).kindOf (o.zip m) λ_=>am) (cellsFrom (s.heap.objs.size+1) scope.names []) (bindC (envOfC qual scope s.heap.objs.size f D).kindOf (o.zip m) λ_=>am) j) :
   Inv (XT CX P w K mg base N qual scope f D A outer s H E) [] (start N vs) H j:=by
 have Q:o.length<=N.length:=by have:=congrArg a9V S.pre;rw[a2Q] at this;lia
 obtain⟨h1,R,rfl,hk⟩:=x.done;have L:∀b:Addr,b∉(XT CX P w K mg base N qual scope f D A outer s H E).ex:=λb z=>absurd (show b∈([]:List Addr) from z) (by simp);refine#[#[J.mod,S.kind,rfl,rfl,zR _,λy z c h1 t=>?_,λy hy=>?_,λy c _ h=>?_,λ_=>hd,Around.frames_deeper J.frames,.inr #[rfl,rfl],λb z=>absurd z (L b),J.bs,J.bsz,λb _ _=>L b,λb z=>absurd z (L b),J.funs,J.frf],
   rfl,J.bare,Un.kept hk,#[_,x.toInCall.ns,λi y v h1 t G=>?_],λy c h=>#[_,x.cell y c h],J.hok.fresh (zR _),λy c h=>?_,λp hp=>absurd (show p∈([]:List (Addr×dc)) from hp) (by simp),J.hok.kept hk,?_]
 . exact name_of_addr x.apart (a5X h1) (a5X t)
 . have hy:scope.names.lookup y=al .cell\/scope.names.lookup y=al .free:=hy;rcases hy with hy | hy;. exact XU hy
   . exact absurd rfl (S.nofree _ (a5X hy))
 . exact xR (x.above y c (a5X h))
 . have hi:i < vs.length:=by
     unfold start at t;by_cases hi:i < vs.length;. exact hi
     . rw[yP (by simpa using hi)] at t;rw[List.getElem?_replicate] at t;split at t <;> cases t
   have T:vs[i]?=al v:=by
     unfold start at t;rw[yQ (by simpa using hi),zF] at t;cases e:vs[i]? with
     | none=>rw[e] at t;cases t
     | some a=>rw[e] at t;cases t;rfl
   obtain⟨u,hu,O⟩:=r.get T;have hp:o[i]?=al y:=by rw[<-S.pre,c1Q (by lia)];exact h1
   have g:o.Nodup:=by rw[<-S.pre];exact S.nd.sublist (List.take_sublist _ _)
   refine#[u,O,?_];rcases S.par y (yN hp) with k | k;. exact .inl #[k,TV g hp hu k]
   . obtain⟨c,e⟩:=XU (n:=s.heap.objs.size+1) k;refine .inr #[.inl k,c,e,?_];have q:=x.cell y c e;rw[TX g hp hu (by show scope.names.lookup y≠_;rw[k];decide)] at q;exact q
 . exact J.hok.fresh (xR (x.above y c (a5X h)))
 . unfold start;show _=N.length;rw[yY,zX,b1Z];lia
theorem A1V {CX:CXT}{P:bq}{w:bo}{K:Frg}{mg:Str->Option ar}{base:db}{k:Nat}{f:Addr}{name qual:Str}{params:Arguments}{body:List fv}{scope:gc}{c kV doc M cdv ct G:ar}{p L:Option Addr} {osl:Array (Option ar)}{N m:List Str}{sp:Sp}(R:K.lookup f=al #[G,L,.func (a9X name qual params body scope c kV doc M p cdv ct),osl]) (D:b8Q K cdv qual=ap) (S:FnScope N m scope) (len:∀vs H Q E,sp vs H Q E->vs.length=m.length) (U:∀(A:cx) (outer:List Env) (s:ba) (H:Hp) (vs:List V) (Q:VK) (E:XK),Room k (A.deeper (envOfC qual scope s.heap.objs.size f cdv))->sp vs H Q E ->∃t,PSs (XT CX P w K mg base N qual scope f cdv A outer s H E) body t/\t { nx:=λ_ H'=>Q .non H',rt:=Q } (start N vs) H) :
   FnOk P w K mg base CX (k+1) f (a9X name qual params body scope c kV doc M p cdv ct) m sp:=by
 refine#[len,λA outer s H args X vs Q E hr i hb r z=>?_];have j:=len _ _ _ _ z;have KX:K.In s.heap:=i.mod.kin.keeps λb o e=>(i.bs b o e).1;have lim:s.heap.NoLimit:=i.mod.nolimit.keeps λb o e=>(i.bs b o e).1;have Y:∀y∈m.zip X,scope.names.lookup y.1=al .local\/(scope.names.lookup y.1=al .cell/\((cellsFrom (s.heap.objs.size+1) scope.names []).lookup y.1).isSome=ap):=λ#[n,v] hy=>by
   rcases S.par n (b7K hy).1 with q | q;. exact .inl q
   . exact .inr #[q,PySem.W.cellsFrom_some _ _ _ (.inl q)]
 refine codeAny_call_function hr.depth (KX _ _ R) rfl S.co S.gen rfl (PySem.W.codeRec_of KX D) (hb _ _ _ _ ?_);refine wpAny_newFunctionEnv_cells S.kind Y λenv he g x=>?_;subst he;refine#[lim.keeps x.toInCall.keep,codeAny_func ?_];obtain⟨t,O,hq⟩:=U A outer s H vs Q E (hr.deeper _) z;have I:Inv (XT CX P w K mg base N qual scope f cdv A outer s H E) [] (start N vs) H g:=gM S hr.hd i j r x;refine ce (O [] g (start N vs) H _ I hq) (λB s' hs=>?_) λe s' hs=>hs;have fin:∀{a:St}{H':Hp}{v:V}{u:ar},Inv (XT CX P w K mg base N qual scope f cdv A outer s H E) [] a H' s'->RelV v u->Q v H'->CE outer P w H s Q u s':=
   λ{a H' v u} J T q=>#[v,H',J.os,J.bare,J.base,J.hok,T,q]
 cases B with
 | ret u=> obtain⟨v,a,H',J,T,q⟩:=hs;exact fin J T q
 | next=> obtain⟨a,H',J,q⟩:=hs;exact fin (v:=V.non) (u:=a3X) J rfl q
 | brk=> obtain⟨_,_,_,q⟩:=hs;exact b3K q
 | cont=> obtain⟨_,_,_,q⟩:=hs;exact b3K q
section
variable {X:Cx}{x:Str}{p pos:fb}{e:ca}{es:List ca}{t:TA}{id T:String}{r:List V->Hp->VK->Prop}
def tCB (r:List V->Hp->VK->Prop) (t:TA):TE:=λo H Q=>t o H λa n=>r a n Q
theorem D5 (hc:BO X (.builtin id) r) (hg:Gl X x) (j:X.mg x=am) (o:gq x=al (.builtin id)) (N:PA X (e::es) t) (hn:x ≠ "__name__" := by decide) (u:(x==("__debug__":Str))=false:=by decide)
   (he:starEach (e::es) X.env=(bj,eval e X.env)::starEach es X.env:=by rfl) (i:(backTo pos (starEach es X.env)).any (·.1)=false:=by rfl):PE X (.Call (.Name x p) (e::es) [] pos) (tCB r t):=by intro pins s n H Q I h;refine eD (FI I hg j o ?_ hn u);exact PyProof.Rows.callWith_builtin1 (thn (N pos pins s n H _ I h) λc b #[f,a,D,m,q1]=>hc pins b n a f c Q D m q1) he i
theorem NQ (hc:BO X (.type T) r) (hg:Gl X x) (j:X.mg x=am) (o:gq x=al (.type T)) (N:PA X (e::es) t) (hn:x ≠ "__name__" := by decide) (u:(x==("__debug__":Str))=false:=by decide)
   (he:starEach (e::es) X.env=(bj,eval e X.env)::starEach es X.env:=by rfl) (i:(backTo pos (starEach es X.env)).any (·.1)=false:=by rfl):PE X (.Call (.Name x p) (e::es) [] pos) (tCB r t):=by intro pins s n H Q I h;refine eD (FI I hg j o ?_ hn u);exact xH (thn (N pos pins s n H _ I h) λc b #[f,a,D,m,q1]=>hc pins b n a f c Q D m q1) he i
end
end L2
namespace HT
open PySem PyProof.Rows
section
def sIx (n d:Nat):Option Int->Nat
 | none=>d
 | some v=>if v < 0 then (v+(n:Int)).toNat else min v.toNat n
theorem sIx_nat (n d k:Nat):sIx n d (al (k:Int))=min k n:=by show(if (k:Int) < 0 then ((k:Int)+(n:Int)).toNat else min (k:Int).toNat n)=min k n;rw[if_neg (by lia),a3K]
theorem xQ (n d:Nat) (hd:d<=n) (o:Option Int):sIx n d o<=n:=by
 cases o with
 | none=>exact hd
 | some v=>
   show(if v < 0 then (v+(n:Int)).toNat else min v.toNat n)<=n;by_cases e:v < 0;. rw[if_pos e];lia
   . rw[if_neg e];exact Nat.min_le_right _ _
theorem dW (v:Int) (n d:Nat):(if v < 0 then max (v+(n:Int)) 0 else min v (n:Int))=((sIx n d (al v):Nat):Int):=by
 show(if v < 0 then max (v+(n:Int)) 0 else min v (n:Int))=(((if v < 0 then (v+(n:Int)).toNat else min v.toNat n):Nat):Int);by_cases e:v < 0;. simp only[if_pos e];lia
 . simp only[if_neg e];lia
theorem aZ (e hi:Option Int) (n:Nat):b6J e hi 1 (n:Int)=(((sIx n 0 e:Nat):Int),((sIx n n hi:Nat):Int)):=by
 have h1:¬((1:Int) < 0):=by lia
 unfold b6J;simp only[h1,if_false];refine Prod.ext ?_ ?_
 . cases e with
   | none=>rfl
   | some v=>exact dW v n 0
 . cases hi with
   | none=>rfl
   | some v=>exact dW v n n
theorem bA (i j:Nat):b0J (i:Int) (j:Int) 1=j - i:=by
 unfold b0J;have h1:(1:Int) > 0:=by lia
 simp only[h1,if_true,Int.ediv_one];split <;> lia
theorem Q1 (p:jd v o) (h:Q o s):wpAny (model prog w) A (Builtin.Slice.slicePartIndex v) Q E s:=by
 cases p with
 | none=>exact slicePart_none h
 | int i t=>exact slicePart_int h
theorem GR {n:Nat}(hs:s.heap.IsSliceOf sl I R .none) (a:jd I e) (j:jd R hi) (h:Q (((sIx n 0 e:Nat):Int),1,sIx n n hi - sIx n 0 e) s):wpAny (model prog w) A (Builtin.Slice.sliceApplied (.ref sl) (pure (n:Int))) Q E s:=by obtain⟨o,v,i,t⟩:=id hs;unfold Builtin.Slice.sliceApplied Builtin.Slice.sliceFields;refine zZ (zZ (bn v t (x:=I) rfl (zZ (bn v t (x:=R) rfl (zZ (bn v t (x:=.none) rfl (zY ?_)))))));refine zZ (slicePart_none ?_);show wpAny _ _ (if ((1:Int)==0)=ap then _ else _) _ _ s;rw[if_neg (by decide)];refine zZ (Q1 a (zZ (Q1 j (zZ (zY ?_)))));show wpAny _ _ (match b6J e hi 1 (n:Int) with | (e,hi)=>pure (e,(1:Int),b0J e hi 1)) _ _ s;rw[aZ e hi n];show wpAny _ _ (pure (((sIx n 0 e:Nat):Int),(1:Int),b0J ((sIx n 0 e:Nat):Int) ((sIx n n hi:Nat):Int) 1)) _ _ s;rw[bA];exact zY h
theorem kJ (xs:Array ar) (i k:Nat):((a1K k).filterMap λ(m:Nat)=>xs[((i:Int)+(m:Int)*1).toNat]?).toArray=((xs.toList.drop i).take k).toArray:=by
 have e:(λ(m:Nat)=>xs[((i:Int)+(m:Int)*1).toNat]?)=λm=>xs[i+m]?:=by
   funext m;have:((i:Int)+(m:Int)*1).toNat=i+m:=by lia
   rw[this]
 rw[e];have:=pick_run xs i k;rw[List.filterMap_map] at this;have f:((λx=>xs[x]?)∘λx=>i+x)=λm=>xs[i+m]?:=rfl;rw[f] at this;rw[this]
theorem getItem_tuple_cut (a:IsTup s.heap t items) (hs:s.heap.IsSliceOf sl I R .none) (p:jd I e) (j:jd R hi) (o:¬(sIx items.size 0 e=0/\sIx items.size items.size hi=items.size)) (h:Q (.ref s.heap.objs.size) { s with heap:=s.heap.push { cls:=.type "tuple", data:=.seq ((items.toList.drop (sIx items.size 0 e)).take (sIx items.size items.size hi - sIx items.size 0 e)).toArray } }) (hsz:items.size<=bd):wpAny (model prog w) A (g0 (.ref t) (.ref sl)) Q E s:=by
 have n:sizeOk (.seq ((items.toList.drop (sIx items.size 0 e)).take (sIx items.size items.size hi - sIx items.size 0 e)).toArray):=by show((items.toList.drop (sIx items.size 0 e)).take (sIx items.size items.size hi - sIx items.size 0 e)).toArray.size<=bd;rw[zJ,a2Q,a4K,a3V];lia
 have M:sIx items.size items.size hi<=items.size:=xQ _ _ (zR _) hi;obtain⟨r,v,b,c⟩:=id hs;have B:s.TypeIs (.ref sl) "slice" := #[r,v,b]
 unfold g0;try with_reducible refine bv ?_
 first | refine zZ (zY ?_) | skip
 refine zZ (wpAny_sequenceKey a.typeIs (by decide) ?_);refine zZ (wpAny_callSpecial?_slot (name:=a0Q "__getitem__") a.typeIs a7Z (cr a7Z a.typeIs entry_tuple_getitem ?_ (args_tuple_getitem _ _)));show wpAny _ _ (Builtin.Tuple.tupleItemsOf (.ref t) >>= _) _ _ s;refine zZ (tupleItemsOf_ a ?_);refine zZ (gl B ?_);rw[if_pos (by decide)];refine zZ (GR hs p j ?_);have i:¬((((sIx items.size 0 e:Nat):Int)==0&&(1:Int)==1&&(sIx items.size items.size hi - sIx items.size 0 e)==items.size)=ap):=by intro q;rw[a1J,a1J] at q;have q1:((sIx items.size 0 e:Nat):Int)=0:=eq_of_beq q.1.1;have q2:sIx items.size items.size hi - sIx items.size 0 e=items.size:=eq_of_beq q.2;exact o #[by lia,by lia]
 show wpAny _ _ (if (((sIx items.size 0 e:Nat):Int)==0&&(1:Int)==1&&(sIx items.size items.size hi - sIx items.size 0 e)==items.size)=ap then _ else _) _ _ s;rw[if_neg i,kJ];first
   | exact zZ (m:=b1Q _) (xM (zY #[_,rfl,zY h]) n)
   | exact zZ (m:=b1Q _) (xM (zZ (zY (zY #[_,rfl,zY h]))) n)
   | exact zZ (zZ (m:=b1Q _) (xM (zY (zY #[_,rfl,zY h])) n))
   | exact zZ (zZ (m:=b1Q _) (xM (zY #[_,rfl,zY h]) n))
end
end HT
namespace L2
open PySem PySem.Spec PyProof.Rows
abbrev TO:=St->Hp->(Option Int->Hp->Prop)->Prop
def PO (X:Cx) (e:Option ca) (t:TO):Prop:=∀(pins:List (Addr×dc)) (s:ba) (n:St) (H:Hp) (Q:Option Int->Hp->Prop),Inv X pins n H s->t n H Q ->
   wpAny (model X.prog X.w) X.A (evalPart e X.env) (λu s'=>∃o H',Inv X pins n H' s'/\jd u o/\Q o H') X.xe s
def dX:TO:=λ_ H Q=>Q am H
def vC (t:TE):TO:=λn H Q=>t n H λx e=>∃i,x = .int i/\Q (al i) e
section
variable {X:Cx}{e:ca}{te:TE}{lo hi:Option ca}{tl th:TO}{pos p2:fb}
theorem qF:PO X am dX:=by intro pins s t H Q I h;rw[evalPart_none];exact zY #[am,H,I,.none,h]
theorem qG (h:PE X e te):PO X (al e) (vC te):=by intro pins s o H Q I R;rw[evalPart_some];refine thn (h pins s o H _ I R) λu r #[x,n,D,a,q1]=>?_;obtain⟨i,rfl,q⟩:=q1;obtain⟨t,rfl⟩:=a;exact#[al i,n,D,.int i t,q]
def SlR (X:Cx) (r:V->Option Int->Option Int->Hp->VK->Prop):Prop:=∀(pins:List (Addr×dc)) (s:ba) (t:St) (H:Hp) (x:V) (v I R:ar) (lo hi:Option Int) (sl:Addr) (Q:VK),Inv X pins t H s->RelV x v->s.heap.IsSliceOf sl I R .none->jd I lo->jd R hi->r x lo hi H Q ->∃T id,ig (.type T) "__getitem__"=pure (al (.builtin id))/\s.TypeIs v T/\wpAny (model X.prog X.w) X.A (g0 v (.ref sl)) (EP X pins t Q) X.xe s
theorem SlR.or (h:SlR X r) (h':SlR X n):SlR X (λx lo hi H Q=>r x lo hi H Q\/n x lo hi H Q):=by
 intro pins s i H x v o R lo hi sl Q I a hs t j q;rcases q with q | q;. exact h pins s i H x v o R lo hi sl Q I a hs t j q
 . exact h' pins s i H x v o R lo hi sl Q I a hs t j q
def tSl (r:V->Option Int->Option Int->Hp->VK->Prop) (te:TE) (tl th:TO):TE:=λt H Q=>te t H λx n=>tl t n λl g=>th t g λu Z=>r x l u Z Q
theorem kK {r:V->Option Int->Option Int->Hp->VK->Prop}(hr:SlR X r) (he:PE X e te) (f:PO X lo tl) (hu:PO X hi th):PE X (.Subscript e (.Slice lo hi am p2) pos) (tSl r te tl th):=by intro pins s t H Q I h;refine Subscript_ (thn (he pins s t H _ I h) λv O #[x,a,D,N,q1]=>?_);refine wpAny_Slice (thn (f pins O t a _ D q1) λn S #[l,g,o,k,q2]=>thn (hu pins S t g _ o q2) λR p #[u,Z,i,y,z]=>?_);rw[evalPart_none];refine zY ?_;have m:Inv X pins t Z { p with heap:=p.heap.push { cls:=.type "slice", data:=.fields (z3 [n,R,.none]) } }:=i.kept (t':=p.toks) λb M q=>zW _ q;obtain⟨T,id,c,j,hg⟩:=hr pins { p with heap:=p.heap.push { cls:=.type "slice", data:=.fields (z3 [n,R,.none]) } } t Z x v n R l u p.heap.objs.size Q m N (Heap.IsSliceOf.new ..) k y z;show wpAny (model X.prog X.w) X.A (subscriptTail e (.Slice lo hi am p2) v (.ref p.heap.objs.size)) (EP X pins t Q) X.xe { p with heap:=p.heap.push { cls:=.type "slice", data:=.fields (z3 [n,R,.none]) } };exact tail_any (ops:=[.ref p.heap.objs.size,v]) j c hg (by with_unfolding_all rfl)
def LN (xs:List V) (lo hi:Option Int):List V:=(xs.drop (HT.sIx xs.length 0 lo)).take (HT.sIx xs.length xs.length hi - HT.sIx xs.length 0 lo)
theorem OQ (xs:List V) (lo hi:Option Int):(LN xs lo hi).length<=xs.length:=by unfold LN;rw[a2Q,a4K];lia
def A2X (K:Frg):V->Option Int->Option Int->Hp->VK->Prop:=λx lo hi H Q=>∃a t,x = .ref a/\SqT K H a t /\
 ¬(HT.sIx t.length 0 lo=0/\HT.sIx t.length t.length hi=t.length)/\∀p,H p=am->Q (.ref p) (upd H p (.tup (LN t lo hi)))
theorem xS:SlR X (A2X X.K):=by
 intro pins s u H x v g k lo hi sl Q I f hs c j h;obtain⟨a,t,rfl,hx,R,q⟩:=h;cases f;obtain⟨p,r,n,i⟩:=I.tuple hx;have m:p.toArray.size=t.length:=by rw[zJ];exact r.length.symm
 refine#["tuple", _,PyProof.Rows.slot_tuple_getitem.lookup,n.typeIs,?_];refine HT.getItem_tuple_cut n hs c j (by rw[m];exact R) ?_ (by rw[m];exact i);rw[m];refine#[.ref s.heap.objs.size,_,I.laid (t':=s.toks) (o:=.tup (LN t lo hi)) (λb N q=>zW _ q) (zR _) ?_,rfl,q _ (I.hok.fresh (zR _))];exact#[zN (OQ t lo hi) i,_,(r.drop (HT.sIx t.length 0 lo)).take (HT.sIx t.length t.length hi - HT.sIx t.length 0 lo),IsTup.new _ _]
end
def ixN (n:Nat) (i:Int):Option Nat:=if 0<=i then (if i < n then al i.toNat else am) else if -(n:Int)<=i then al (i+n).toNat else am
def atI {e:Type}(xs:List e) (i:Int):Option e:=(ixN xs.length i).bind λj=>xs[j]?
theorem dY (h:ixN n i=al j):seqIndex? i n=al j/\j < n/\-(n:Int)<=i/\i < n:=by
 unfold ixN at h;by_cases h0:0<=i
 . rw[if_pos h0] at h;by_cases h1:i < n;. rw[if_pos h1] at h;have e:i.toNat=j:=Option.some.inj h;exact#[by rw[seqIndex_of h0 h1,e],by lia,by lia,h1]
   . rw[if_neg h1] at h;cases h
 . rw[if_neg h0] at h;by_cases h1 : -(n:Int)<=i;. rw[if_pos h1] at h;have e:(i+n).toNat=j:=Option.some.inj h;exact#[by rw[seqIndex_neg (by lia) h1,e],by lia,h1,by lia]
   . rw[if_neg h1] at h;cases h
theorem VA {v:t}(h:atI xs i=al v):∃j,seqIndex? i xs.length=al j/\xs[j]?=al v/\j < xs.length/\-(xs.length:Int)<=i/\i < xs.length:=by
 unfold atI at h;cases e:ixN xs.length i with
 | none=>rw[e] at h;cases h
 | some j=> rw[e] at h;obtain⟨h1,a,G,z⟩:=dY e;exact#[j,h1,h,a,G,z]
theorem AK {t:Type}{xs:List t}{j:Nat}{v:t}(h:xs[j]?=al v):atI xs (j:Int)=al v:=by
 have M:j < xs.length:=(yT.mp h).1;have e:ixN xs.length (j:Int)=al j:=by unfold ixN;rw[if_pos (by lia),if_pos (by lia)];simp
 unfold atI;rw[e];exact h
def qH (b:ca):Prop:=∀o i,subscripted b bj o i=operate [o,i] (g0 o i)
def IxR (X:Cx) (r:R2):Prop:=∀(value slice:ca) (pins:List (Addr×dc)) (s:ba) (e:St) (H:Hp) (x y:V) (v u:ar) (Q:VK),Inv X pins e H s->RelV x v->RelV y u->r x y H Q ->
   subscripted slice bj v u=operate [v,u] (g0 v u)->wpAny (model X.prog X.w) X.A (subscriptTail value slice v u) (EP X pins e Q) X.xe s
def MtR (X:Cx) (id:String) (r:V->List V->Hp->VK->Prop):Prop:=∀(pins:List (Addr×dc)) (s:ba) (n:St) (H:Hp) (x:V) (t:List V) (v:ar) (e:List ar) (Q:VK),Inv X pins n H s->RelV x v->Vals t e->r x t H Q ->
   wpAny (model X.prog X.w) X.A (call (.builtin id) (v::e)) (EP X pins n Q) X.xe s
section
variable {X:Cx}{a b:ca}{ta tb:TE}{pos:fb}
theorem IxR.or (h:IxR X r) (h':IxR X e):IxR X (λx y H Q=>r x y H Q\/e x y H Q):=by
 intro value slice pins s o H x y v u Q I t n q hs;rcases q with q | q;. exact h value slice pins s o H x y v u Q I t n q hs
 . exact h' value slice pins s o H x y v u Q I t n q hs
theorem A1W {r:R2}(hr:IxR X r) (N:PE X a ta) (hb:PE X b tb) (hs:qH b):PE X (.Subscript a b pos) (tOp r ta tb):=by intro pins s i H Q I h;exact Subscript_ (wW N hb I h λv u o x y g e t n q=>hr a b pins o i g x y v u Q e t n q (hs _ _))
def qI (K:Frg):R2:=λx y H Q=>∃p t i v,x = .ref p/\y = .int i/\SqL K H p t/\atI t i=al v/\Q v H
def xW (K:Frg):R2:=λx y H Q=>∃p t i v,x = .ref p/\y = .int i/\SqT K H p t/\atI t i=al v/\Q v H
def y3:R2:=λx y H Q=>∃z i c,x = .str z/\y = .int i/\z.length<=bd/\atI z.cps.toList i=al c/\Q (.str #[(z3 [c])]) H
theorem qJ:IxR X (qI X.K):=by
 intro value slice pins s o H x y v u Q I N O h hs;obtain⟨p,S,i,z,rfl,rfl,hq,he,q⟩:=h;cases N;obtain⟨t,rfl⟩:=O;obtain⟨m,r,e,R⟩:=I.list hq;obtain⟨j,h1,c,G,f,g⟩:=VA he;obtain⟨w,n,T⟩:=r.get c;have k:=r.length;have hn:=Q0;have fin:EP X pins o Q w s:=#[z,H,I,T,q]
 by_cases h0:0<=i
 . have M:i.toNat=j:=by rw[seqIndex_of h0 g] at h1;exact Option.some.inj h1
   exact item_listR e.isList h0 (by lia) (by rw[M];simpa using n) fin hs
 . have M:(i+(m.toArray.size:Int)).toNat=j:=by rw[seqIndex_neg (by lia) f] at h1;rw[zJ,<-k];exact Option.some.inj h1
   exact subscriptTail_builtinR (x:=w) e.isList.typeIs slot_list_getitem.lookup (wpAny_getItem_list_neg (Q:=λr s'=>r=w/\EP X pins o Q r s') e.isList (by lia) (by rw[zJ] <;> lia) (by lia) (by rw[M];simpa using n) #[rfl,fin]) hs
theorem y9:IxR X (xW X.K):=by
 intro value slice pins s n H x y v u Q I g k h hs;obtain⟨p,S,i,z,rfl,rfl,hq,he,q⟩:=h;cases g;obtain⟨t,rfl⟩:=k;obtain⟨T,r,e,R⟩:=I.tuple hq;obtain⟨j,h1,m,G,N,O⟩:=VA he;obtain⟨w,o,f⟩:=r.get m;have c:=r.length;have hn:=Q0;have fin:EP X pins n Q w s:=#[z,H,I,f,q]
 exact subscriptTail_builtinR (x:=w) e.typeIs slot_tuple_getitem.lookup (getItem_tuple (j:=j) (Q:=λr s'=>r=w/\EP X pins n Q r s') e (by lia) (by lia) (by rw[zJ,<-c];exact h1) (by simpa using o) #[rfl,fin]) hs
theorem yB:IxR X y3:=by
 intro value slice pins s N H x y v u Q I p g h hs;obtain⟨z,i,c,rfl,rfl,k,he,q⟩:=h;obtain⟨t,rfl⟩:=p;obtain⟨T,rfl⟩:=g;obtain⟨j,h1,n,G,o,r⟩:=VA he;have m:z.cps.toList.length=z.length:=by simp[Str.length]
 rw[m] at h1 o r;have hn:=Q0;exact tail_any (typeIs_str s z t) slot_str_getitem.lookup (getItem_str (c:=c) (by
   have e:decide (i < -(2 ^ 63:Int))=false:=decide_eq_false (by lia);have f:decide (i≥2 ^ 63)=false:=decide_eq_false (by lia);rw[e,f,Bool.or_false]) (by rw[h1];simpa using n) #[.str #[(z3 [c])],H,I.tok _,#[_,rfl],q]) hs
theorem bB (e:List ar) (n j:Nat) (u:ar):a7V (·.setIfInBounds j u) { cls:=.type "list", data:=.seq e.toArray n }={ cls:=.type "list", data:=.seq (e.set j u).toArray n }:=by simp[a7V]
theorem Inv.lst {pins:List (Addr×dc)}{o:St}{H:Hp}{s:ba}{p:Addr}{xs:List V}(I:Inv X pins o H s) (h:H p=al (.lst xs)) : ∃(t:List ar) (n:Nat),Vals xs t/\s.heap.get? p=al { cls:=.type "list", data:=.seq t.toArray n }/\xs.length<=sizeLine:=by obtain⟨z,t,n,r,e⟩:=I.hok p _ h;exact#[t,n,r,e,z]
theorem Inv.lstUpd {pins:List (Addr×dc)}{i:St}{H:Hp}{s:ba}{p:Addr}{xs ys:List V}{o its':List ar}{n k:Nat}{f:dc->dc}(I:Inv X pins i H s) (h:H p=al (.lst xs)) (T:s.heap.get? p=al { cls:=.type "list", data:=.seq o.toArray n }) (B:f { cls:=.type "list", data:=.seq o.toArray n }={ cls:=.type "list", data:=.seq its'.toArray k }) (r:Vals ys its') (m:ys.length<=bd) (t:Nat) :
   Inv X pins i (upd H p (.lst ys)) { s with heap:=s.heap.update p f,toks:=t }:=by
 have e:(s.heap.update p f).get? p=al { cls:=.type "list", data:=.seq its'.toArray k }:=by rw[b5V f T (by rw[B] <;> rfl),B]
 refine I.write (x:=p) (e:=p) (by rw[h];trivial) (.inl rfl) (λb u hb q=>(Heap.get?_update_other _ _ (a8Q hb)).trans q) #[_,e] ?_;exact#[m,its',k,r,e]
def vD:V->V->V->Hp->(Hp->Prop)->Prop:=λo i v H Q=>∃p t k j,o = .ref p/\i = .int k/\H p=al (.lst t)/\ixN t.length k=al j/\Q (upd H p (.lst (t.set j v)))
theorem kL:A1L X vD:=by
 intro pins s N H o i v S R u Q I g f x h;obtain⟨p,y,k,j,rfl,rfl,hp,M,q⟩:=h;cases g;obtain⟨t,rfl⟩:=f;obtain⟨e,n,r,T,c⟩:=I.lst hp;obtain⟨h1,O,G,z⟩:=dY M;have m:=r.length;have hn:=Q0;have U:Inv X pins N (upd H p (.lst (y.set j v))) { s with heap:=s.heap.update p (a7V (·.setIfInBounds j u)) }:=
   I.lstUpd hp T (bB e n j u) (r.set x j) (by rw[List.length_set];exact c) s.toks;by_cases h0:0<=k
 . have hk:k.toNat=j:=by rw[seqIndex_of h0 z] at h1;exact Option.some.inj h1
   exact PySem.W.ki_setAt T h0 (by lia) (by rw[zJ,<-m];exact z) (by rw[hk];exact#[_,U,q])
 . have hk:(k+(e.toArray.size:Int)).toNat=j:=by rw[seqIndex_neg (by lia) G] at h1;rw[zJ,<-m];exact Option.some.inj h1
   exact PySem.W.ki_setBack T (by lia) (by rw[zJ,<-m];exact G) (by lia) (by rw[hk];exact#[_,U,q])
theorem VB (e hi:Option Int) (n:Nat):(ga e hi am n).1=((HT.sIx n 0 e:Nat):Int)/\(ga e hi am n).2.1=((HT.sIx n n hi:Nat):Int)/\(ga e hi am n).2.2=1:=by
 refine#[?_,?_,rfl]
 . cases e with
   | none=>simp[ga,HT.sIx]
   | some i=>
     simp only[ga,HT.sIx,Option.getD_none,show(1:Int) > 0 by decide,if_true];by_cases h:i < 0;. simp only[h,if_true] <;> lia
     . simp only[h,if_false] <;> lia
 . cases hi with
   | none=>simp[ga,HT.sIx]
   | some i=>
     simp only[ga,HT.sIx,Option.getD_none,show(1:Int) > 0 by decide,if_true];by_cases h:i < 0;. simp only[h,if_true] <;> lia
     . simp only[h,if_false] <;> lia
theorem SV (e:List ar) (t hi:Option Int):slicePick e.toArray t hi am=((e.drop (HT.sIx e.length 0 t)).take (HT.sIx e.length e.length hi - HT.sIx e.length 0 t)).toArray:=by obtain⟨h1,n,G⟩:=VB t hi e.toArray.size;unfold slicePick;rw[h1,n,G];simp only[sliceRange_one,pick_run,zJ] <;> rfl
def yC (K:Frg):V->Option Int->Option Int->Hp->VK->Prop:=λx e hi H Q=>∃a t,x = .ref a/\SqL K H a t/\∀p,H p=am->Q (.ref p) (upd H p (.lst (LN t e hi)))
theorem qK:SlR X (yC X.K):=by intro pins s k H x v g R e hi sl Q I c hs p j h;obtain⟨a,t,rfl,hx,q⟩:=h;cases c;obtain⟨f,r,n,i⟩:=I.list hx;have m:=r.length;refine#["list", _,slot_list_getitem.lookup,n.isList.typeIs,?_];refine wpAny_getItem_list_slice n.isList hs p j .none (by simp) ?_ (by rw[zJ] <;> lia);rw[SV,<-m];refine#[.ref s.heap.objs.size,_,I.laid (t':=s.toks) (o:=.lst (LN t e hi)) (λb N q=>zW _ q) (zR _) ?_,rfl,q _ (I.hok.fresh (zR _))];exact#[zN (OQ t e hi) i,_,0,(r.drop (HT.sIx t.length 0 e)).take (HT.sIx t.length t.length hi - HT.sIx t.length 0 e),yZ _ rfl]
def KZ:V->Bool
 | .non=>ap
 | .bl _=>ap
 | .int _=>ap
 | .str _=>ap
 | _=>bj
def eqV:V->V->Bool
 | .non,.non=>ap
 | .bl a,.bl b=>a==b
 | .bl a,.int b=>(if a then 1 else 0)==b
 | .int a,.bl b=>a==(if b then 1 else 0)
 | .int a,.int b=>a==b
 | .str a,.str b=>a==b
 | _,_=>bj
theorem yE (o:RelV y u) (e:RelV x v) (m:KZ y=ap) (U:KZ x=ap):SeqAt.EqAt A s u v (eqV y x):=by
 cases y with
 | non=>
   cases o;cases x with
   | non=>cases e;exact SeqAt.EqAt.same _
   | bl b=>cases e;exact SeqAt.EqAt.none_bool b
   | int b=>obtain⟨t,rfl⟩:=e;exact SeqAt.EqAt.none_int b t
   | str b=>obtain⟨t,rfl⟩:=e;exact SeqAt.EqAt.none_str b t
   | _=>exact absurd (show bj=ap from U) nft
 | bl a=>
   cases o;cases x with
   | non=>cases e;exact SeqAt.EqAt.bool_none a
   | bl b=>cases e;exact SeqAt.EqAt.bool_bool a b
   | int b=>obtain⟨t,rfl⟩:=e;exact SeqAt.EqAt.bool_int a b t
   | str b=>obtain⟨t,rfl⟩:=e;exact SeqAt.EqAt.bool_str a b t
   | _=>exact absurd (show bj=ap from U) nft
 | int a=>
   obtain⟨n,rfl⟩:=o;cases x with
   | non=>cases e;exact SeqAt.EqAt.int_none a n
   | bl b=>cases e;exact SeqAt.EqAt.int_bool a n b
   | int b=>obtain⟨t,rfl⟩:=e;exact SeqAt.EqAt.int_int a n b t
   | str b=>obtain⟨t,rfl⟩:=e;exact SeqAt.EqAt.int_str a n b t
   | _=>exact absurd (show bj=ap from U) nft
 | str a=>
   obtain⟨n,rfl⟩:=o;cases x with
   | non=>cases e;exact SeqAt.EqAt.str_none a n
   | bl b=>cases e;exact SeqAt.EqAt.str_bool a n b
   | int b=>obtain⟨t,rfl⟩:=e;exact SeqAt.EqAt.str_int a n b t
   | str b=>obtain⟨t,rfl⟩:=e;exact SeqAt.EqAt.str_str a n b t
   | _=>exact absurd (show bj=ap from U) nft
 | _=>exact absurd (show bj=ap from m) nft
def eqU (x:V) (u:ar):Bool:=match u with
 | .none=>eqV .non x
 | .bool b=>eqV (.bl b) x
 | .int i _=>eqV (.int i) x
 | .str z _=>eqV (.str z) x
 | _=>bj
theorem kM (r:RelV y u) (f:KZ y=ap):eqU x u=eqV y x:=by
 cases y with
 | non=>cases r;rfl
 | bl b=>cases r;rfl
 | int i=>obtain⟨t,rfl⟩:=r;rfl
 | str z=>obtain⟨t,rfl⟩:=r;rfl
 | _=>exact absurd (show bj=ap from f) nft
theorem ML :∀{xs:List V}{e:List ar},Vals xs e->xs.all KZ=ap->e.any (eqU x)=xs.any λy=>eqV y x
 | _,_,.nil,_=>rfl
 | y::xs,u::e,.cons r t,f=>by rw[List.all_cons,a1J] at f;rw[a5V,a5V,kM r f.1,ML t f.2]
theorem IU (n:RelV x v) (U:KZ x=ap):∀{xs:List V}{e:List ar},Vals xs e->xs.all KZ=ap->∀u∈e,SeqAt.EqAt A s u v (eqU x u)
 | _,_,.nil,_=>λu hu=>by cases hu
 | y::xs,u::e,.cons r t,f=>λj hu=>by
   rw[List.all_cons,a1J] at f;rcases yX.mp hu with rfl | hu;. rw[kM r f.1];exact yE r n f.1 U
   . exact IU n U t f.2 j hu
def inV (x:V) (xs:List V):Bool:=xs.any λy=>eqV y x
def rIn (K:Frg) (neg:Bool):R2:=λx y H Q=>∃p t,y = .ref p/\(SqL K H p t\/SqT K H p t)/\KZ x=ap/\t.all KZ=ap/\Q (.bl (if neg then !inV x t else inV x t)) H
theorem gN:OpR X (bx .In) (rIn X.K bj):=by
 intro pins s c H x y v u Q I n i h;obtain⟨p,m,rfl,hq,U,fs,q⟩:=h;cases i;rcases hq with hq | hq;. obtain⟨e,r,t,o⟩:=I.list hq;refine SeqAt.in_listAt (eqU x) t.isList (λw R=>IU n U r fs w (by simpa using R)) #[.bl _,H,I,rfl,?_];rw[show e.toArray.any (eqU x)=e.any (eqU x) by simp,ML r fs];exact q
 . obtain⟨e,r,t,o⟩:=I.tuple hq;refine SeqAt.in_tupleAt (eqU x) t (λw R=>IU n U r fs w (by simpa using R)) #[.bl _,H,I,rfl,?_];rw[show e.toArray.any (eqU x)=e.any (eqU x) by simp,ML r fs];exact q
theorem VC:OpR X (bx .NotIn) (rIn X.K ap):=by
 intro pins s c H x y v u Q I n i h;obtain⟨p,m,rfl,hq,U,fs,q⟩:=h;cases i;rcases hq with hq | hq;. obtain⟨e,r,t,o⟩:=I.list hq;refine SeqAt.notIn_listAt (eqU x) t.isList (λw R=>IU n U r fs w (by simpa using R)) #[.bl _,H,I,rfl,?_];rw[show e.toArray.any (eqU x)=e.any (eqU x) by simp,ML r fs];exact q
 . obtain⟨e,r,t,o⟩:=I.tuple hq;refine SeqAt.notIn_tupleAt (eqU x) t (λw R=>IU n U r fs w (by simpa using R)) #[.bl _,H,I,rfl,?_];rw[show e.toArray.any (eqU x)=e.any (eqU x) by simp,ML r fs];exact q
theorem VD:BO X (.type "list") (λxs H Q=>∃p ys,xs=[.ref p]/\(SqL X.K H p ys\/SqT X.K H p ys)/\∀l,H l=am->Q (.ref l) (upd H l (.lst ys))):=by
 intro pins s x H xs y Q I r h;obtain⟨p,ys,rfl,hq,q⟩:=h;obtain⟨u,rfl,v⟩:=EW r;cases v;have fin:∀(t:List ar),Vals ys t->ys.length<=bd->∀(h':db) (i:Nat),(∀b j,s.heap.get? b=al j->h'.get? b=al j) ->
     h'.get? s.heap.objs.size=al { cls:=.type "list", dict:=am,data:=.seq t.toArray i,slots:=#[] }->EP X pins x Q (.ref s.heap.objs.size) { s with heap:=h' }:=λt m c h' i f e=>
   #[.ref s.heap.objs.size,_,I.laid (t':=s.toks) f (zR _) (show ObjOk X.prog X.w _ h' _ (.lst ys) from #[c,t,i,m,e]),rfl,q _ (I.hok.fresh (zR _))]
 rcases hq with hq | hq;. obtain⟨t,m,g,c⟩:=I.list hq;have k:=m.length;obtain⟨o,T,hc,n,hd⟩:=g.isList;exact call_list_seq p (.inl rfl) T hc hd (λh' i f e=>fin t m c h' i f e) (by simp only[zJ] <;> lia)
 . obtain⟨t,m,g,c⟩:=I.tuple hq;have k:=m.length;obtain⟨o,T,hc,n,hd⟩:=g;exact call_list_seq p (.inr rfl) T hc hd (λh' i f e=>fin t m c h' i f e) (by simp only[zJ] <;> lia)
theorem SW:BO X (.type "tuple") (λxs H Q=>∃p ys,xs=[.ref p]/\((SqL X.K H p ys/\∀l,H l=am->Q (.ref l) (upd H l (.tup ys)))\/(SqT X.K H p ys/\Q (.ref p) H))):=by
 intro pins s c H xs k Q I r h;obtain⟨p,ys,rfl,h⟩:=h;obtain⟨u,rfl,g⟩:=EW r;cases g;rcases h with ⟨hq,q⟩ | ⟨hq,q⟩
 . obtain⟨t,i,n,m⟩:=I.list hq;have j:=i.length;refine call_tuple_list n.isList (λh' f=>?_) (by simp only[zJ] <;> lia);have D:Inv X pins c H { s with heap:=h' }:=I.kept (t':=s.toks) f;have x:Inv X pins c (upd H h'.objs.size (.tup ys)) { s with heap:=h'.push { cls:=.type "tuple", data:=.seq t.toArray } }:=
     D.laid (t':=s.toks) (λb o e=>zW _ e) (zR _) (show ObjOk X.prog X.w _ _ _ (.tup ys) from #[m,t,i,IsTup.new _ _]);exact#[.ref h'.objs.size,_,x,rfl,q _ (D.hok.fresh (zR _))]
 . obtain⟨t,i,n,m⟩:=I.tuple hq;exact call_tuple_same n #[.ref p,H,I,rfl,q]
def tyV (K:Frg) (T:String) (x:V) (H:Hp):Prop:=match x with
 | .str _=>T = "str"
 | .int _=>T = "int"
 | .ref p=>(T = "list" /\ ∃t,SqL K H p t)\/(T = "tuple" /\ ∃o,K.lookup p=al o/\o.cls = .type "tuple" /\ o.dict=am) \/(T = "dict" /\ ((∃kvs,H p=al (.dK kvs))\/∃kvs,H p=al (.dT kvs)))\/(T = "set" /\ ∃S n,H p=al (.set S n))
 | _=>False
theorem yK {j:St}(I:Inv X pins j H s) (r:RelV x v) (ty:tyV X.K T x H) :
   s.TypeIs v T/\∀a,v = .ref a->∃N,s.heap.get? a=al N/\N.dict=none:=by
 cases x with
 | str z=> obtain⟨t,rfl⟩:=r;cases (show T = "str" from ty);exact#[typeIs_str s z t,λ_ e=>nomatch e]
 | int i=> obtain⟨t,rfl⟩:=r;cases (show T = "int" from ty);exact#[typeIs_int s i t,λ_ e=>nomatch e]
 | ref p=>
   cases r;rcases ty with ⟨rfl,q,hq⟩ | ⟨rfl,o,hk,hc,hd⟩ | ⟨rfl,hk⟩ | ⟨rfl,S,n,hk⟩
   . obtain⟨k,_,g,_⟩:=I.list hq;refine#[g.isList.typeIs,λa e=>?_];cases e;obtain⟨o,n,e,c,hd,_⟩:=g;exact#[o,e,hd]
   . refine#[#[o,I.kIn p o hk,hc],λa e=>?_];cases e;exact#[o,I.kIn _ o hk,hd]
   . have z:∃o,s.heap.get? p=al o/\o.ExactDict:=by
       rcases hk with ⟨kvs,hk⟩ | ⟨kvs,hk⟩
       . obtain⟨_,_,_,_,o,_,_,e,m,_⟩:=I.hok p _ hk;exact#[o,e,m]
       . obtain⟨_,_,_,_,o,_,_,e,m,_⟩:=I.hok p _ hk;exact#[o,e,m]
     obtain⟨o,e,m⟩:=z;refine#[#[o,e,m.1],λa f=>?_];cases f;exact#[o,e,m.2.1]
   . obtain⟨o,_,_,_,e,m,_⟩:=I.hok p _ hk;refine#[#[o,e,m.1],λa f=>?_];cases f;exact#[o,e,m.2.1]
 | _=>exact b3K ty
def tBM (K:Frg) (T:String) (r:V->List V->Hp->VK->Prop) (to:TE) (t:TA):TE:=λn H Q=>to n H λx e=>tyV K T x e/\t n e λo g=>r x o g Q
variable {o e:ca}{es:List ca}{to:TE}{t:TA}{name:Str}{apos aj:fb}{T id:String}{r:V->List V->Hp->VK->Prop}
theorem A1X (y:PlainAttrs T) (slot:Slot T name id) (B:typeOf (.builtin id)=pure (.type "method_descriptor")) (j:MtR X id r) (k:PE X o to) (N:PA X (e::es) t) (q:ie o name X.env (eval o X.env)=eval o X.env:=by rfl)
   (c:((backTo aj (starEach (e::es) X.env)).all (λx=>!x.1)&&(backToKw aj (keywordEach [] X.env)).all (λx=>x.1.isSome)
     && decide ((e::es).length+([]:List ji).length+(if ([]:List ji).isEmpty then 0 else 1) < 30))=true:=by rfl)
   (Y:(apos.endLine==aj.line)=true:=by rfl) (hs:starEach (e::es) X.env=(bj,eval e X.env)::starEach es X.env:=by rfl) (u:(backTo aj (starEach es X.env)).any (·.1)=false:=by rfl) :
   PE X (.Call (.Attribute o name apos) (e::es) [] aj) (tBM X.K T r to t):=by intro pins s n H Q I h;refine wpAny_Call_method_late q c Y rfl (thn (k pins s n H _ I h) λv O #[x,m,D,i,ty,q1]=>?_);obtain⟨h1,f⟩:=yK D i ty;refine#[T,id,y,slot,B,h1,f,?_];have hA:=N aj pins O n m _ D q1;rw[hs] at hA ⊢;refine b0X (by show(bj||(backTo aj (starEach es X.env)).any (·.1))=bj;rw[u] <;> rfl) (b6K ?_);exact thn hA λS R #[M,g,p,z,q2]=>j pins R n g x M v S Q p i z q2
end
def MtM (X:Cx) (id:String) (r:V->List V->Hp->VK->Prop):Prop:=∀(pins:List (Addr×dc)) (s:ba) (n:St) (H:Hp) (x:V) (t:List V) (v:ar) (e:List ar) (Q:VK),Inv X pins n H s->RelV x v->Vals t e->r x t H Q ->
   wpAny (model X.prog X.w) X.A (call (.builtin id) (v::e)) (EP X pins n Q) X.xe s
theorem Vals.one:∀{x:V}{e:List ar},Vals [x] e->∃u,e=[u]/\RelV x u
 | _,_,.cons r .nil=>#[_,rfl,r]
section
variable {X:Cx}{pins:List (Addr×dc)}{σ:St}{H:Hp}{s:ba}{l b:Addr}{xs ys zs:List V}
theorem Inv.lset {t:List ar}(I:Inv X pins σ H s) (hH:H l=al (.lst xs)) (e:s.heap.get? l=al { cls:=.type "list", data:=.seq t.toArray n }) (B:f t.toArray=its'.toArray) (a:Vals ys its') (o:ys.length<=bd) :
   Inv X pins σ (upd H l (.lst ys)) { s with heap:=s.heap.update l (a7V f),toks:=t' }:=by have q:=PySem.IsL.update e f;rw[B] at q;refine I.write (x:=l) (e:=l) (by rw[hH];exact trivial) (.inl rfl) (λi u hb hu=>(Heap.get?_update_other s.heap (a7V f) (a8Q hb)).trans hu) #[_,q] ?_;exact#[o,its',_,a,q]
theorem Inv.lnew (I:Inv X pins σ H s) (t:Vals ys e) (n:ys.length<=bd) :
   Inv X pins σ (upd H s.heap.objs.size (.lst ys)) { s with heap:=s.heap.push { cls:=.type "list", data:=.seq e.toArray },toks:=t' }:=
 I.laid (λ_ _ q=>zW _ q) (zR _) #[n,e,0,t,yZ _ rfl]
theorem Inv.fresh (I:Inv X pins σ H s):H s.heap.objs.size=none:=I.hok.fresh (zR _)
theorem Inv.lstM (I:Inv X pins σ H s) (hH:H l=al (.lst xs)):xs.length<=bd/\∃(t:List ar) (n:Nat),Vals xs t/\xs.length=t.length/\s.heap.get? l=al { cls:=.type "list", data:=.seq t.toArray n }:=by obtain⟨z,t,n,r,e⟩:=I.hok l _ hH;exact#[z,t,n,r,r.length,e]
end
section
def VE:V->List V->Hp->VK->Prop:=λx n H Q=>∃l t y,x = .ref l/\n=[y]/\H l=al (.lst t)/\t.length < bd/\Q .non (upd H l (.lst (t++[y])))
theorem NR:MtM X "list.append" VE:=by intro pins s f H x b v i Q I a T h;obtain⟨l,c,y,rfl,rfl,hH,o,q⟩:=h;cases a;obtain⟨u,rfl,p⟩:=T.one;obtain⟨z,t,n,r,m,e⟩:=I.lstM hH;refine call_meets F.slot_list_append #[_,e,rfl] F.entry_list_append (F.args_list_append_2 _ _) (PySem.list_append l t.toArray n u (by rw[zJ];lia)) #[e,?_];refine#[.non,_,I.lset (its':=t++[u]) hH e (by simp) (r.append (.cons p .nil)) ?_,rfl,q];rw[yY,List.length_singleton];lia
end
section
variable {κ:Type}[DecidableEq κ]
def DW (kvs:List (κ×V)) (k:κ):Option V:=(kvs.find? λkv=>decide (kv.1=k)).map (·.2)
def DX (kvs:List (κ×V)) (k:κ) (v:V):List (κ×V):=
 if (kvs.any λkv=>decide (kv.1=k))=ap then kvs.map (λkv=>if kv.1=k then (kv.1,v) else kv) else kvs++[(k,v)]
def MM (kvs:List (κ×V)) (k:κ):List (κ×V):=kvs.filter λkv=>decide (kv.1≠k)
theorem IV {k:κ}(e:p.1=k):DW (p::r) k=al p.2:=by simp[DW,a9Z,e]
theorem FJ {k:κ}(e:¬p.1=k):DW (p::r) k=DW r k:=by simp[DW,a9Z,e]
theorem XV (k:κ):∀kvs:List (κ×V),(kvs.any λkv=>decide (kv.1=k))=(DW kvs k).isSome
 | []=>rfl
 | p::r=>by
   rw[a5V];by_cases e:p.1=k;. simp only[IV e,decide_eq_true e,Bool.true_or,Option.isSome_some]
   . rw[FJ e,decide_eq_false e,c2X];exact XV k r
theorem G1 (kvs:List (κ×V)) (k:κ) (v:V):(DX kvs k v).length<=kvs.length+1:=by
 unfold DX;split;. rw[zX];lia
 . rw[yY,yR,b1J];lia
theorem RelO.isSome_eq (r:RelO o u):o.isSome=u.isSome:=by
 cases o with
 | none=>cases u with
   | none=>rfl
   | some _=>exact(show False from r).elim
 | some _=>cases u with
   | none=>exact(show False from r).elim
   | some _=>rfl
theorem RelO.getD (r:RelO o u) (e:RelV d d'):RelV (o.getD d) (u.getD d'):=by
 cases o with
 | none=>cases u with
   | none=>exact e
   | some _=>exact(show False from r).elim
 | some _=>cases u with
   | none=>exact(show False from r).elim
   | some _=>exact r
theorem KV.val (r:KV kvs vs) (k:κ):RelO (DW kvs k) (je vs k):=by
 unfold KV at r;induction r with
 | nil=>exact a7J
 | @cons p q f n h t U=>
   obtain⟨h1,a⟩:=h;by_cases e:p.1=k
   . have e':q.1=k:=h1.symm.trans e;have b:je (q::n) k=al q.2:=by simp[je,a9Z,e']
     rw[IV e,b];exact a
   . have e':¬q.1=k:=λz=>e (h1.trans z);have b:je (q::n) k=je n k:=by simp[je,a9Z,e']
     rw[FJ e,b];exact U
theorem KV.any (r:KV kvs vs) (k:κ):(kvs.any λkv=>decide (kv.1=k))=vs.any λkv=>decide (kv.1=k):=by
 unfold KV at r;induction r with
 | nil=>rfl
 | cons h t U=>rw[a5V,a5V,U,h.1]
theorem KV.repl (r:KV kvs vs) (k:κ) (X:RelV y u) :
   KV (kvs.map λkv=>if kv.1=k then (kv.1,y) else kv) (vs.map λkv=>if kv.1=k then (kv.1,u) else kv):=by
 unfold KV at r ⊢;induction r with
 | nil=>exact .nil
 | @cons p q f n h t U=>
   rw[zI,zI];refine .cons ?_ U;obtain⟨h1,a⟩:=h;by_cases e:p.1=k;. rw[if_pos e,if_pos (h1.symm.trans e)];exact#[h1,X]
   . rw[if_neg e,if_neg (λz=>e (h1.trans z))];exact#[h1,a]
theorem KV.put (r:KV kvs vs) (k:κ) (X:RelV y u):KV (DX kvs k y) (stored vs k u):=by
 unfold DX stored;rw[r.any k];by_cases e:(vs.any λkv=>decide (kv.1=k))=ap;. rw[if_pos e,if_pos e];exact r.repl k X
 . rw[if_neg e,if_neg e];exact Paired.snoc r #[rfl,X]
theorem KV.drop (r:KV kvs vs) (k:κ):KV (MM kvs k) (without vs k):=by
 unfold KV at r ⊢;unfold MM without;induction r with
 | nil=>exact .nil
 | @cons p q f o h t U=>
   obtain⟨h1,n⟩:=h;rw[a2K,a2K];by_cases e:p.1=k
   . have a:¬decide (p.1≠k)=true:=by simp[e]
     have b:¬decide (q.1≠k)=true:=by simp[h1.symm.trans e]
     rw[if_neg a,if_neg b];exact U
   . have e':¬q.1=k:=λz=>e (h1.trans z);have a:decide (p.1≠k)=true:=by simp[e]
     have b:decide (q.1≠k)=true:=by simp[e']
     rw[if_pos a,if_pos b];exact .cons #[h1,n] U
theorem KV.length {kvs:List (κ×V)}(r:KV kvs vs):kvs.length=vs.length:=Paired.length r
theorem XW (kvs:List (κ×V)) (k:κ):(MM kvs k).length<=kvs.length:=yJ _ _
end
theorem HV (r:RelV (kV k) u):(AG P w).is k u=true:=by
 cases k with
 | inl i=>obtain⟨t,e⟩:=(show ∃t,u=Value.int i t from r);subst e;exact XN P w i t
 | inr x=>obtain⟨t,e⟩:=(show ∃t,u=c2V x t from r);subst e;exact OP P w x t
theorem TY :∀{ks:List Key}{e:List ar},Vals (ks.map kV) e->ItemsAre (AG P w) ks e
 | [],_,r=>by rw[a9W] at r;cases r;exact .nil
 | k::ks,_,r=>by
   rw[zI] at r;cases r with
   | cons h t=>exact .cons (HV h) (TY t)
abbrev KT (H:Hp):List (List Key×V)->List (List Key×Addr×ar)->Prop:=Paired λp q=>p.1=q.1/\H q.2.1=al (.tup (p.1.map kV))/\RelV p.2 q.2.2
theorem KT.val (r:KT H kvs xs) (k:List Key):RelO (DW kvs k) ((atKey xs k).map (·.2)):=by
 induction r with
 | nil=>exact a7J
 | @cons p q f n h t U=>
   obtain⟨h1,_,a⟩:=h;by_cases e:p.1=k
   . have e':q.1=k:=h1.symm.trans e;have b:atKey (q::n) k=al q.2:=by simp[atKey,a9Z,e']
     rw[IV e,b];exact a
   . have e':¬q.1=k:=λz=>e (h1.trans z);have b:atKey (q::n) k=atKey n k:=by simp[atKey,a9Z,e']
     rw[FJ e,b];exact U
theorem KT.repl (r:KT H kvs xs) (k:List Key) (X:RelV y u) :
   KT H (kvs.map λkv=>if kv.1=k then (kv.1,y) else kv) (xs.map (putAt k u)):=by
 induction r with
 | nil=>exact .nil
 | @cons p q f n h t U=>
   rw[zI,zI];refine .cons ?_ U;obtain⟨h1,a,G⟩:=h;unfold putAt;by_cases e:p.1=k;. rw[if_pos e,if_pos (h1.symm.trans e)];exact#[h1,a,X]
   . rw[if_neg e,if_neg (λz=>e (h1.trans z))];exact#[h1,a,G]
theorem KT.put (r:KT H kvs xs) (k:List Key) (hb:H b=al (.tup (k.map kV))) (X:RelV y u) :
   KT H (DX kvs k y) (storedH xs k b u):=by
 have e:(kvs.any λkv=>decide (kv.1=k))=(atKey xs k).isSome:=by rw[XV,(r.val k).isSome_eq,b4W]
 unfold DX storedH;rw[e];by_cases q:(atKey xs k).isSome=ap;. rw[if_pos q,if_pos q];exact r.repl k X
 . rw[if_neg q,if_neg q];exact Paired.snoc r #[rfl,hb,X]
theorem KT.keeps (r:KT H kvs xs) (a:∀b ys,H b=al (.tup ys)->H' b=al (.tup ys)):KT H' kvs xs:=
 Paired.mapP r λ_ _ z=>#[z.1,a _ _ z.2.1,z.2.2]
section
theorem vE (ok:HOk P w H h) (e:Rd H a u):ObjOk P w H h a u:=e.ok ok
theorem IW (ok:HOk P w H h) (e:Rd H a (.dK kvs)):kvs.length<=bd/\(a==dz)=bj/\∃vs,KV kvs vs/\h.DictOf (AG P w) a vs:=
 show ObjOk P w H h a (.dK kvs) from vE ok e
theorem XX (ok:HOk P w H h) (e:H a=al (.dK kvs)):kvs.length<=bd/\(a==dz)=bj/\∃vs,KV kvs vs/\h.DictOf (AG P w) a vs:=IW ok (.inl e)
theorem NS (ok:HOk P w H h) (e:H a=al (.tup (ks.map kV))):(jf (AG P w)).is h ks a:=by
 obtain⟨_,t,r,o,h1,i,n,G⟩:=(show ObjOk P w H h a (.tup (ks.map kV)) from ok a _ e)
 exact#[o,t.toArray,n,h1,i,G,by simpa using TY r]
theorem Q2 (ok:HOk P w H h) (e:Rd H a (.dT kvs)):kvs.length<=bd/\(a==dz)=bj /\∃xs,KT H kvs xs/\h.DictOfH (jf (AG P w)) a xs:=by
 obtain⟨z,y,xs,r,o,n,M,h1,i,G,b,c⟩:=(show ObjOk P w H h a (.dT kvs) from vE ok e)
 refine#[z,y,xs,r,o,n,M,h1,i,G,b,λx hx=>?_,c];have all:∀{l:List (List Key×V)}{m:List (List Key×Addr×ar)},KT H l m->∀x∈m,(jf (AG P w)).is h x.1 x.2.1:=by
   intro l m q;induction q with
   | nil=>intro x hx;exact nomatch hx
   | @cons p q f g hq t U=>
     intro x hx;rcases yX.mp hx with e | hx;. subst e;exact NS ok (by rw[<-hq.1];exact hq.2.1)
     . exact U x hx
 exact all r x hx
theorem A1Y (ok:HOk P w H h) (e:H a=al (.dT kvs)):kvs.length<=bd/\(a==dz)=bj /\∃xs,KT H kvs xs/\h.DictOfH (jf (AG P w)) a xs:=Q2 ok (.inl e)
end
def VF (H:Hp) (a:Addr) (y:V) (r:Option V):Prop:=(∃kvs k,Rd H a (.dK kvs)/\y=kV k/\r=DW kvs k)\/∃kvs k b,Rd H a (.dT kvs)/\y = .ref b/\H b=al (.tup (k.map kV))/\r=DW kvs k
def A1Z (H:Hp) (a:Addr) (y v:V) (H':Hp):Prop:=(∃kvs k,H a=al (.dK kvs)/\y=kV k/\kvs.length < bd/\H'=upd H a (.dK (DX kvs k v))) \/∃kvs k b,H a=al (.dT kvs)/\y = .ref b/\H b=al (.tup (k.map kV))/\kvs.length < bd/\H'=upd H a (.dT (DX kvs k v))
section
variable {X:Cx}{pins:List (Addr×dc)}{σ:St}{H:Hp}{s:ba}{a:Addr}{y v:V}{u r:ar}{o:Option V}{A:cx}{E:ar->ba->Prop}
theorem Inv.big (I:Inv X pins σ H s):dz < s.heap.objs.size:=by have h:bm < s.heap.objs.size:=(I.mod.glob.keeps I.bk).lt;exact Nat.lt_trans (by decide) h
theorem gQ (hu:A.units+1 < ev) (I:Inv X pins σ H s) (g:VF H a y (al v)) (c:RelV y u) (h:∀t s',Inv X pins σ H s'->RelV v t->Q t s') :
   wpAny (model X.prog X.w) A (g0 (.ref a) u) Q E s:=by
 rcases g with ⟨kvs,k,e,i,l⟩ | ⟨kvs,k,b,e,i,f,l⟩
 . subst i;obtain⟨z,hd,j,rel,n⟩:=IW I.hok e;obtain⟨t,R,m⟩:=RelO.some_of (v:=v) (o:=je j k) (by rw[l];exact rel.val k);exact wpAny_getItem_of (HV c) n.mapOf R (h t _ (I.tok _) m)
 . subst i;cases (show u=a0X b from c);obtain⟨z,hd,q,rel,n⟩:=Q2 I.hok e;obtain⟨t,R,m⟩:=RelO.some_of (v:=v) (o:=(atKey q k).map (·.2)) (by rw[l];exact rel.val k);obtain⟨p,hp,hp2⟩:=Option.map_eq_some_iff.mp R;refine wpAny_getItem_heap (eH hu) (NS I.hok f) n hp ?_;rw[hp2];exact h t _ (I.tok _) m
theorem A2Y (hu:A.units+1 < ev) (I:Inv X pins σ H s) (g:VF H a y o) (i:RelV y u) (h:∀s',Inv X pins σ H s'->Q (.bool o.isSome) s') :
   wpAny (model X.prog X.w) A (bx .In u (.ref a)) Q E s:=by
 rcases g with ⟨kvs,k,e,n,l⟩ | ⟨kvs,k,b,e,n,m,l⟩
 . subst n;obtain⟨z,hd,p,rel,t⟩:=IW I.hok e;refine wpAny_in_of (HV i) hd t.mapOf ?_;rw[<-(rel.val k).isSome_eq,<-l];exact h _ (I.tok _)
 . subst n;cases (show u=a0X b from i);obtain⟨z,hd,c,rel,t⟩:=Q2 I.hok e;refine wpAny_in_heap (eH hu) (NS I.hok m) hd t ?_;have q:=(rel.val k).isSome_eq;rw[b4W] at q;rw[<-q,<-l];exact h _ (I.tok _)
theorem qL (hu:A.units+1 < ev) (I:Inv X pins σ H s) (g:VF H a y o) (i:RelV y u) (h:∀s',Inv X pins σ H s'->Q (.bool (!o.isSome)) s') :
   wpAny (model X.prog X.w) A (bx .NotIn u (.ref a)) Q E s:=by
 rcases g with ⟨kvs,k,e,n,l⟩ | ⟨kvs,k,b,e,n,m,l⟩
 . subst n;obtain⟨z,hd,p,rel,t⟩:=IW I.hok e;refine wpAny_notIn_of (HV i) hd t.mapOf ?_;rw[<-(rel.val k).isSome_eq,<-l];exact h _ (I.tok _)
 . subst n;cases (show u=a0X b from i);obtain⟨z,hd,c,rel,t⟩:=Q2 I.hok e;refine wpAny_notIn_heap (eH hu) (NS I.hok m) hd t ?_;have q:=(rel.val k).isSome_eq;rw[b4W] at q;rw[<-q,<-l];exact h _ (I.tok _)
theorem K4 (I:Inv X pins σ H s) (R:Mut (H a)) (hs:Heap.SameBut a s.heap h') (he:∃q,h'.get? a=al q) (new:ObjOk X.prog X.w (upd H a N) h' a N) :
   Inv X pins σ (upd H a N) { s with heap:=h',toks:=t' }:=
 I.write (x:=a) (e:=a) R (.inl rfl) (λb q hb z=>(hs.2 b hb).trans z) he new
theorem NT (z:kvs.length<=bd) (hd:(a==dz)=bj) (rel:KV kvs vs) (g:h'.DictOf (AG P w) a vs) :
   ObjOk P w H' h' a (.dK kvs):=#[z,hd,vs,rel,g]
theorem gR (hu:A.units+1 < ev) (I:Inv X pins σ H s) (g:A1Z H a y v H') (j:RelV y u) (T:RelV v r) (h:∀s',Inv X pins σ H' s'->Q () s') :
   wpAny (model X.prog X.w) A (setItem (.ref a) u r) Q E s:=by
 rcases g with ⟨kvs,k,e,i,l,n⟩ | ⟨kvs,k,b,e,i,f,l,n⟩
 . subst i n;obtain⟨z,hd,D,rel,t⟩:=XX I.hok e;have p:D.length<=sizeLine:=by rw[<-rel.length];exact z
   have m:(DX kvs k v).length<=sizeLine:=by have:=G1 kvs k v;lia
   refine wpAny_setItem_pairs (hsz:=p) (HV j) t λh' N hs=>h _ ?_;have he:∃q,h'.get? a=al q:=let #[q,_,_,hq,_]:=N;#[q,hq];exact K4 I (by rw[e];exact a7J) hs he (NT m hd (rel.put k T) N)
 . subst i n;cases (show u=a0X b from j);obtain⟨z,hd,B,rel,t⟩:=A1Y I.hok e;have p:B.length<=sizeLine:=by rw[<-Paired.length rel];exact z
   have m:(DX kvs k v).length<=sizeLine:=by have:=G1 kvs k v;lia
   refine wpAny_setItem_heap (hsz:=p) (eH hu) (NS I.hok f) t λh' N hs=>h _ ?_;obtain⟨q,x,M,hq,O,G,R,_,S⟩:=N;refine K4 I (by rw[e];exact a7J) hs #[q,hq] #[m,hd,_,(rel.put k f T).keeps λc J Z=>?_,q,x,M,hq,O,G,R,S];rw[AH (A1C Z e (λz=>nomatch z))];exact Z
end
section
variable {X:Cx}{pins:List (Addr×dc)}{σ:St}{H:Hp}{s:ba}{a:Addr}{kvs:List (Key×V)}{k:Key}{u:ar}{A:cx}{E:ar->ba->Prop}
theorem gS (I:Inv X pins σ H s) (e:H a=al (.dK kvs)) (t:RelV (kV k) u) (l:(DW kvs k).isSome=ap) (h:∀s',Inv X pins σ (upd H a (.dK (MM kvs k))) s'->Q () s') :
   wpAny (model X.prog X.w) A (delItem (.ref a) u) Q E s:=by
 obtain⟨z,hd,n,rel,g⟩:=XX I.hok e;refine wpAny_delItem_slot g.typeIs (by decide) PySem.F.slot_dict_delitem
   (gp PySem.F.slot_dict_delitem g.typeIs PySem.F.entry_dict_delitem (PySem.F.args_dict_delitem_2 _ _) (meets_dict_delitem_pairs (AG X.prog X.w) a (HV t)) #[n,g,by rw[<-rel.length];exact z,by rw[<-(rel.val k).isSome_eq];exact l,λh' N hs=>h _ ?_]);have he:∃q,h'.get? a=al q:=let #[q,_,_,hq,_]:=N;#[q,hq];exact K4 I (by rw[e];exact a7J) hs he (NT (zN (XW kvs k) z) hd (rel.drop k) N)
theorem A1a (I:Inv X pins σ H s) (e:H a=al (.dK kvs)) (r:RelV (kV k) u) (l:DW kvs k=al v) (j:more=[]\/∃x,more=[x]) (h:∀n s',Inv X pins σ (upd H a (.dK (MM kvs k))) s'->RelV v n->Q n s'):wpAny (model X.prog X.w) A (call (.builtin "dict.pop") (.ref a::u::more)) Q E s:=by
 obtain⟨z,hd,m,rel,g⟩:=XX I.hok e;obtain⟨n,R,b⟩:=RelO.some_of (v:=v) (o:=je m k) (by rw[<-l];exact rel.val k);have hp:(keyPart u).isSome=true:=by
   cases k with
   | inl i=>obtain⟨t,q⟩:=(show ∃t,u=Value.int i t from r);subst q;rfl
   | inr x=>obtain⟨t,q⟩:=(show ∃t,u=c2V x t from r);subst q;rfl
 have p:argsOk "dict.pop" #[.ref a::u::more,[]]:=by
   rcases j with q | ⟨x,q⟩
   . subst q;exact PySem.F.args_dict_pop_2 _ _
   . subst q;exact PySem.F.args_dict_pop_3 _ _ _
 refine gp PySem.F.slot_dict_pop g.typeIs PySem.F.entry_dict_pop p (meets_dict_pop_there (AG X.prog X.w) a (HV r) more j hp) #[m,n,g,by rw[<-rel.length];exact z,R,λh' N hs=>h n _ ?_ b];have he:∃q,h'.get? a=al q:=let #[q,_,_,hq,_]:=N;#[q,hq];exact K4 I (by rw[e];exact a7J) hs he (NT (zN (XW kvs k) z) hd (rel.drop k) N)
end
def A1b (i:ca):Prop:=∀y e,subscripted i bj y e=operate [y,e] (g0 y e)
theorem qM {id:String} (m:ig (.type T) "__getitem__"=pure (al (.builtin id))) (hs:A1b slice) (h:wpAny (model prog w) A (eval value env) (λo J=>wpAny (model prog w) A (eval slice env) (λi e=>e.TypeIs o T/\wpAny (model prog w) A (g0 o i) Q E e) E J) E s) :
   wpAny (model prog w) A (eval (.Subscript value slice pos) env) Q E s:=by
 refine Subscript_ (ce h (λo J U=>ce U (λi e t=>?_) λ_ _ x=>x) λ_ _ x=>x);obtain⟨n,t⟩:=t;unfold subscriptTail;refine zZ ?_;rw[getitemInPython_of_ne n.not_modules];refine zZ (ge n m ?_);have fin:wpAny (model prog w) A (subscripted slice bj o i) (λr L=>wpAny (model prog w) A (letTemporaryGo value o r >>= λ_=>pure r) Q E L) E e:=by rw[hs o i];exact wpAny_operating (ce t (λr L a=>zZ (wpAny_letTemporaryGo (zY a))) λ_ _ x=>x)
 first
   | exact zY (zZ fin)
   | exact zZ (zY (zZ fin))
   | exact zZ fin
theorem XY {n:St}(I:Inv X pins n H s) (g:VF H a y o):s.TypeIs (.ref a) "dict" := by
 rcases g with ⟨kvs,k,e,_,_⟩ | ⟨kvs,k,b,e,_,_,_⟩
 . obtain⟨_,_,i,_,t⟩:=IW I.hok e;exact t.typeIs
 . obtain⟨_,_,r,_,t⟩:=Q2 I.hok e;exact t.typeIs
def dZ (b ty:TE):TE:=λe H Q=>b e H λx t=>ty e t λy g=>∃a v,x = .ref a/\VF g a y (al v)/\Q v g
def qN (ty b:TE):TE:=λe H Q=>ty e H λy t=>b e t λx g=>∃a o,x = .ref a/\VF g a y o/\Q (.bl o.isSome) g
def e7 (ty b:TE):TE:=λe H Q=>ty e H λy t=>b e t λx g=>∃a o,x = .ref a/\VF g a y o/\Q (.bl (!o.isSome)) g
def kN (b ty o:TE):TS:=λD e H=>o e H λv t=>b e t λx g=>ty e g λy Z=>∃a n,x = .ref a/\A1Z Z a y v n/\D.nx e n
def vF (b ty:TE):TS:=λD e H=>b e H λx t=>ty e t λy g=>∃a kvs k,x = .ref a/\g a=al (.dK kvs)/\y=kV k/\(DW kvs k).isSome=ap/\D.nx e (upd g a (.dK (MM kvs k)))
section
variable {X:Cx}{o i e value:ca}{pos pos' cw:fb}{td ty tv:TE}
theorem D6 (hu:X.A.units+1 < ev) (T:PE X o td) (hi:PE X i ty) (hs:A1b i):PE X (.Subscript o i pos) (dZ td ty):=by intro pins s n H Q I h;refine qM PySem.F.slot_dict_getitem.lookup hs (thn (T pins s n H _ I h) λu k #[x,r,D,f,q1]=>thn (hi pins k n r _ D q1) λq z #[y,m,t,j,a,v,b,g,q2]=>?_);subst b;obtain rfl:u=a0X a:=f;exact#[XY t g,gQ hu t g j λO N p c=>#[v,m,p,c,q2]]
theorem Q3 (hu:X.A.units+1 < ev) (hi:PE X i ty) (T:PE X o td):PC X .In i o (qN ty td):=by intro pins s t H Q I h;refine thn (hi pins s t H _ I h) λq k #[y,n,D,j,q1]=>thn (T pins k t n _ D q1) λu v #[x,r,m,f,a,c,b,g,q2]=>?_;subst b;obtain rfl:u=a0X a:=f;exact A2Y hu m g j λz p=>#[.bl c.isSome,r,p,rfl,q2]
theorem gT (hu:X.A.units+1 < ev) (hi:PE X i ty) (T:PE X o td):PC X .NotIn i o (e7 ty td):=by intro pins s t H Q I h;refine thn (hi pins s t H _ I h) λq k #[y,n,D,j,q1]=>thn (T pins k t n _ D q1) λu v #[x,r,m,f,a,c,b,g,q2]=>?_;subst b;obtain rfl:u=a0X a:=f;exact qL hu m g j λz p=>#[.bl (!c.isSome),r,p,rfl,q2]
theorem K5 (hu:X.A.units+1 < ev) (T:PE X o td) (hi:PE X i ty) (q:PE X value tv) (hs:swapsWith value (al (.Subscript o i pos')) pos.line X.env=pure bj) :
   PS X (.Assign [.Subscript o i pos'] value pos) (kN td ty tv):=by intro pins s t H D I h;refine wpAny_Assign_Subscript (thn (q pins s t H _ I h) λr R #[v,n,b,z,q1]=>thn (T pins R t n _ b q1) λu S #[x,m,c,N,q2]=>thn (hi pins S t m _ c q2) λM B #[y,Z,f,O,a,p,k,g,Q]=>?_) hs;subst k;obtain rfl:u=a0X a:=N;exact gR hu f g O z λL j=>#[t,p,j,Q]
theorem qO (T:PE X o td) (hi:PE X i ty):PS X (.Delete [.Subscript o i cw] pos) (vF td ty):=by intro pins s t H D I h;refine wpAny_Delete (wpAny_deleteEach_cons (wpAny_delete_Subscript (thn (T pins s t H _ I h) λu j #[x,n,r,f,q1]=>thn (hi pins j t n _ r q1) λv z #[y,q,m,g,a,kvs,k,b,e,c,l,q2]=>?_)));subst b c;obtain rfl:u=a0X a:=f;exact gS m e g l λN p=>wpAny_deleteEach_nil #[t,_,p,q2]
end
theorem Q4 (h:db) (hb:dz < h.objs.size):ObjOk P w H (h.push { cls:=.type "dict", data:=.dict #[] }) h.objs.size (.dK []):=#[xT _,beq_eq_false_iff_ne.mpr (a8Q (zC hb)),[],.nil,Heap.DictOf.new h]
def kP:TE:=λ_ H Q=>∀p,H p=am->Q (.ref p) (upd H p (.dK []))
section
variable {X:Cx}{pos:fb}
theorem MN:PE X (.Dict [] [] pos) kP:=λpins s e H Q I h=>
 wpAny_Dict_empty #[.ref s.heap.objs.size,_,I.laid (a:=s.heap.objs.size) (o:=.dK []) (t':=s.toks) (λ_ _ q=>zW _ q) (zR _) (Q4 s.heap I.big),rfl,h _ (I.hok.fresh (zR _))]
end
def VG:List (TE×TE)->St->Hp->(List (V×V)->Hp->Prop)->Prop
 | [],_,H,Q=>Q [] H
 | (L,b)::r,e,H,Q=>L e H λx t=>b e t λy g=>VG r e g λf Z=>Q ((x,y)::f) Z
abbrev VV:List (V×V)->List (ar×ar)->Prop:=Paired λp q=>RelV p.1 q.1/\RelV p.2 q.2
def PPs (X:Cx) (pos:fb) (keys:List (Option ca)) (values:List ca) (t:List (TE×TE)):Prop:=∀(pins:List (Addr×dc)) (s:ba) (e:St) (H:Hp) (Q:List (V×V)->Hp->Prop),Inv X pins e H s->VG t e H Q ->
   wpAny (model X.prog X.w) X.A (evalPairs (pairTrees keys values X.env pos)) (λn s'=>∃f H',Inv X pins e H' s'/\VV f n/\Q f H') X.xe s
theorem VH {X:Cx}{pos:fb}:PPs X pos [] [] []:=λpins s e H Q I h=>pairTrees_nil_walk #[[],H,I,.nil,h]
theorem IX {X:Cx}{pos:fb}{k v:ca}{ks:List (Option ca)}{vs:List ca}{tk b:TE}{t:List (TE×TE)}(hk:PE X k tk) (o:PE X v b) (hr:PPs X pos ks vs t) :
   PPs X pos (al k::ks) (v::vs) ((tk,b)::t):=λpins s e H Q I h=>
 pairTrees_cons_walk (thn (hk pins s e H _ I h) λu c #[x,n,D,m,q1]=>thn (o pins c e n _ D q1) λz j #[y,g,a,p,q2]=>
   thn (hr pins j e g _ a q2) λT q #[f,Z,r,rel,i]=>#[(x,y)::f,Z,r,.cons #[m,p] rel,i])
def FK (kvs more:List (Key×V)):List (Key×V):=more.foldl (λacc kv=>DX acc kv.1 kv.2) kvs
theorem KV.merge:∀{more:List (Key×V)}{Z:List (Key×ar)}{kvs:List (Key×V)}{vs:List (Key×ar)},KV more Z->KV kvs vs->KV (FK kvs more) (merged vs Z):=by
 intro more Z kvs vs r;unfold KV at r;induction r generalizing kvs vs with
 | nil=>intro q;exact q
 | @cons p q f a h t U=>
   intro n;have e:KV (DX kvs p.1 p.2) (stored vs q.1 q.2):=by have:=n.put p.1 h.2;rw[<-h.1];exact this
   exact U e
theorem GJ:∀(more kvs:List (Key×V)),(FK kvs more).length<=kvs.length+more.length
 | [],kvs=>by show kvs.length<=kvs.length+0;lia
 | p::r,kvs=>by have h1:=GJ r (DX kvs p.1 p.2);have a:=G1 kvs p.1 p.2;show(FK (DX kvs p.1 p.2) r).length<=_;rw[yR];lia
theorem Q5 :∀{kvs:List (Key×V)}{o:List (ar×ar)},VV (kvs.map λkv=>(kV kv.1,kv.2)) o->∃Z,Carries (AG P w) o Z/\KV kvs Z
 | [],_,r=>by rw[a9W] at r;cases r;exact#[[],a7J,.nil]
 | p::kvs,_,r=>by
   rw[zI] at r;cases r with
   | @cons a b as bs h t=> obtain⟨Z,c,q⟩:=Q5 (P:=P) (w:=w) t;obtain⟨b1,e⟩:=b;exact#[(p.1,e)::Z,#[HV h.1,rfl,c],.cons #[rfl,h.2] q]
def vG (e:List (TE×TE)):TE:=λt H Q=>∀p,H p=am->VG e t (upd H p (.dK [])) λf g=>g p=al (.dK [])/\∃kvs:List (Key×V),f=kvs.map (λkv=>(kV kv.1,kv.2))/\kvs.length<=15/\Q (.ref p) (upd g p (.dK (FK [] kvs)))
theorem VI {X:Cx}{pos:fb}{keys:List (Option ca)}{values:List ca}{t:List (TE×TE)}(h:PPs X pos keys values t) (v:keys.all (·.isSome)=ap) (m:keys.length=values.length) (h0:keys≠[]) (n:keys.length<=15):PE X (.Dict keys values pos) (vG t):=by
 intro pins s b H Q I q;have hn:=I.hok.fresh (zR s.heap.objs.size);have D:=I.laid (a:=s.heap.objs.size) (o:=.dK []) (h':=s.heap.push { cls:=.type "dict", data:=.dict #[] }) (t':=s.toks) (λ_ _ q=>zW _ q) (zR _) (Q4 s.heap I.big);refine wpAny_Dict_walk (knd:=AG X.prog X.w) v m h0 n (thn (h pins _ b _ _ D (q _ hn)) λT y #[u,j,x,rel,e,kvs,M,k,q2]=>?_);subst M;obtain⟨Z,c,p⟩:=Q5 (P:=X.prog) (w:=X.w) rel;obtain⟨z,hd,f,r,g⟩:=XX x.hok e;cases r;refine#[Z,c,g,λh' N hs=>#[.ref s.heap.objs.size,_,?_,rfl,q2]];have i:(FK [] kvs).length<=sizeLine:=by have h1:=GJ kvs [];rw[b1J] at h1;rw[dh];lia
 have he:∃q,h'.get? s.heap.objs.size=al q:=let #[q,_,_,hq,_]:=N;#[q,hq];exact K4 x (by rw[e];exact a7J) hs he (NT i hd (p.merge .nil) N)
structure M1 (X:Cx) (o:ca) (m:Str) (apos:fb) (e:ca) (aj:fb):Prop where
 base:ie o m X.env (eval o X.env)=eval o X.env
 few:((backTo aj (starEach [e] X.env)).all (λx=>!x.1)&&(backToKw aj (keywordEach [] X.env)).all (λx=>x.1.isSome)
   && decide (([e]:List ca).length+([]:List ji).length+(if ([]:List ji).isEmpty then 0 else 1) < 30))=ap
 line:(apos.endLine==aj.line)=ap
 trees:backTo aj (starEach [e] X.env)=[(bj,eval e X.env)]
structure M2 (X:Cx) (o:ca) (m:Str) (apos:fb) (e f:ca) (aj:fb):Prop where
 base:ie o m X.env (eval o X.env)=eval o X.env
 few:((backTo aj (starEach [e,f] X.env)).all (λx=>!x.1)&&(backToKw aj (keywordEach [] X.env)).all (λx=>x.1.isSome)
   && decide (([e,f]:List ca).length+([]:List ji).length+(if ([]:List ji).isEmpty then 0 else 1) < 30))=ap
 line:(apos.endLine==aj.line)=ap
 trees:backTo aj (starEach [e,f] X.env)=[(bj,eval e X.env),(bj,eval f X.env)]
def IsD (H:Hp) (a:Addr):Prop:=(∃kvs,Rd H a (.dK kvs))\/∃kvs,Rd H a (.dT kvs)
theorem bC {n:St}(I:Inv X pins n H s) (d:IsD H a) :
   s.TypeIs (.ref a) "dict" /\ (∀b,a0X a = .ref b->∃N,s.heap.get? b=al N/\N.dict=am)/\(a==dz)=false:=by
 rcases d with ⟨kvs,e⟩ | ⟨kvs,e⟩
 . obtain⟨_,hd,o,_,g⟩:=IW I.hok e;refine#[g.typeIs,λb q=>?_,hd];cases q;obtain⟨N,_,_,h1,t,_⟩:=g;exact#[N,h1,t.2.1]
 . obtain⟨_,hd,i,_,g⟩:=Q2 I.hok e;refine#[g.typeIs,λb q=>?_,hd];cases q;obtain⟨N,_,_,h1,t,_⟩:=g;exact#[N,h1,t.2.1]
section
variable {X:Cx}{pins:List (Addr×dc)}{σ:St}{H:Hp}{s:ba}{a:Addr}{y d:V}{u r:ar}{o:Option V}{A:cx}{E:ar->ba->Prop}
theorem yO (hu:A.units+1 < ev) (I:Inv X pins σ H s) (g:VF H a y o) (m:RelV y u) (i:RelV d r) (h:∀p s',Inv X pins σ H s'->RelV (o.getD d) p->Q p s') :
   wpAny (model X.prog X.w) A (call (.builtin "dict.get") [.ref a,u,r]) Q E s:=by
 rcases g with ⟨kvs,k,e,n,l⟩ | ⟨kvs,k,b,e,n,c,l⟩
 . subst n;obtain⟨z,hd,j,rel,t⟩:=IW I.hok e;refine gp b0Z t.typeIs c1K (PySem.F.args_dict_get_3 _ _ _) (meets_dict_get_default (AG X.prog X.w) a (HV m) hd r) #[_,t.mapOf,h _ _ (I.tok _) ?_];rw[l];exact(rel.val k).getD i
 . subst n;cases (show u=a0X b from m);obtain⟨z,hd,f,rel,t⟩:=Q2 I.hok e;refine gp b0Z t.typeIs c1K (PySem.F.args_dict_get_3 _ _ _) (meetsH_dict_get_default (jf (AG X.prog X.w)) a b hd r) #[eH hu,k,f,NS I.hok c,t,h _ _ (I.tok _) ?_];rw[l];exact(rel.val k).getD i
end
def kQ (b ty p:TE):TE:=λe H Q=>b e H λx t=>∃a,x = .ref a/\IsD t a/\ty e t λy g=>p e g λz Z=>∃o,VF Z a y o/\Q (o.getD z) Z
def kR (b ty:TE):TE:=λt H Q=>b t H λx e=>∃a,x = .ref a/\IsD e a/\ty t e λy g=>∃kvs k v,g a=al (.dK kvs)/\y=kV k/\DW kvs k=al v/\Q v (upd g a (.dK (MM kvs k)))
section
variable {X:Cx}{o e f:ca}{apos aj:fb}{td ty tx:TE}
theorem kS (hu:X.A.units+1 < ev) (T:PE X o td) (he:PE X e ty) (B:PE X f tx) (m:M2 X o "get" apos e f aj):PE X (.Call (.Attribute o "get" apos) [e,f] [] aj) (kQ td ty tx):=by
 intro pins s t H Q I h;refine wpAny_Call_method m.base m.few m.line b3V b0Z PySem.F.type_dict_get (thn (T pins s t H _ I h) λu O #[x,n,D,q,a,c,d,q1]=>?_);subst c;obtain rfl:u=a0X a:=q;obtain⟨S,M,_⟩:=bC D d;refine#[S,M,?_];rw[m.trees];refine b0X rfl (b6K (xP (thn (he pins O t n _ D q1) λJ R #[y,i,r,v,q2]=>
   xP (thn (B pins R t i _ r q2) λG U #[z,Z,p,N,L,g,k]=>c0K ?_))));exact yO hu p g v N λw' Y b j=>#[_,Z,b,j,k]
theorem kT (T:PE X o td) (he:PE X e ty) (m:M1 X o "pop" apos e aj):PE X (.Call (.Attribute o "pop" apos) [e] [] aj) (kR td ty):=by intro pins s t H Q I h;refine wpAny_Call_method m.base m.few m.line b3V PySem.F.slot_dict_pop PySem.F.type_dict_pop (thn (T pins s t H _ I h) λu q #[x,n,D,g,a,p,d,q1]=>?_);subst p;obtain rfl:u=a0X a:=g;obtain⟨z,N,_⟩:=bC D d;refine#[z,N,?_];rw[m.trees];refine b0X rfl (b6K (xP (thn (he pins q t n _ D q1) λS M #[y,O,i,j,kvs,k,v,R,b,l,q2]=>c0K ?_)));subst b;exact A1a i R j l (.inl rfl) λG B r c=>#[v,_,r,c,q2]
end
end L2
namespace Att
open PySem PySem.W PySem.Calls PyProof.Rows
theorem P8 :∀(ns:List Int) (vs:List ar),WellAll P h vs (ns.map WData.int)->im vs ns:=by
 intro ns;induction ns with
 | nil=> intro vs w;rw[a9W] at w;cases w;exact .nil
 | cons n ns U=>
   intro vs w;rw[zI] at w;cases w with
   | cons a b=> cases a;exact .cons _ _ (U _ b)
theorem script_of {l:OpenLaw}(hn:l.most=al n)  (b:l.row.toRowW.claim.pre args=ap) (i:WellAll P h vals args) : ∃a vs ns,vals=[a0X a]/\args=[WData.list (ns.map WData.int)]/\h.get? a=al { cls:=.type "list", data:=.seq vs.toArray }/\im vs ns/\ns.length<=n:=by
 have y:WShape.hasAll [] args [.list .int]=true:=(pre_splitW b).1;have hc:l.pre.holds [] { args:=args }=true:=(pre_splitW b).2;obtain⟨d,r,rfl,h1,t⟩:=hasAllW_cons y;obtain rfl:=hasAllW_nil t;obtain⟨p,rfl,G⟩:=hasW_list h1;obtain⟨ns,rfl⟩:=items_int G;have m:ns.length<=n:=by
   unfold OpenLaw.pre at hc;have z:(WTm.not (.lt (.lit (.int (n:Int))) (.len (.arg 0)))).holds [] { args:=[.list (ns.map .int)] }=true:=by have z:=(holds_andW hc).1;rw[hn] at z;exact z
   have e:=condW_of z (w_not (w_lt w_lit (w_len_list (w_arg rfl))));rw[zX] at e;refine Nat.le_of_not_lt λq=>?_;have o:(n:Int) < ((ns.length:Nat):Int):=by lia
   first
     | (rw[decide_eq_true o] at e;exact absurd e (by decide))
     | (simp at e;lia)
 cases i with
 | cons U c=>
   cases c;cases U with
   | list T v=>exact#[_,_,ns,rfl,rfl,T,P8 ns _ v,m]
theorem post_true (l:OpenLaw) (args:List WData):l.row.toRowW.claim.post args (.bool ap) args=true:=
 postW_of (r:=l.row.toRowW) (X:=(ap==ap)) (show WShape.has [] (.bool ap) .bool=ap by first | rfl | decide | simp[WShape.has,WShape.arms,WShape.armsAll])
   (show(WTm.eq .res (.lit (.bool ap))).value [] { args:=args,res:=al (.bool ap),after:=args }=al (.bool (ap==ap)) from w_eq_bool (w_res rfl) w_lit) rfl
end Att
namespace L2
open PySem PySem.Spec PyProof.Rows
theorem TZ:∀{vs:List ar}{ns:List Int},im vs ns->Vals (ns.map V.int) vs
 | _,_,.nil=>.nil
 | _,_,.cons n t h=>.cons #[t,rfl] (TZ h)
def yS (H:Hp):Prop:=∀b,H b=am\/∃o t,H b=al (.frz o (.lst t))
theorem kU {K:Frg} (KX:K.In J.heap) (I:J.heap.Ns bm mg) (hb:J.heap.Ns builtinsNs j) (D:∀x:Str,x ≠ "__name__" -> j x=gq x) (R:J.heap.NoLimit) (hg:J.gens=#[]) (N:J.heap.get? a=al { cls:=.type "list", data:=.seq vs.toArray }) (hi:im vs ns) (y:ns.length<=bd) (hr:Room k callerA) (F:∀base:db,K.In base->base.Ns bm mg->FnOk P w K mg base CX k p O [x] sp) (v_:∀(s:ba) (u:ar),BindsTo s O #[[u],[]] [(x,u)]) (jy:∀H:Hp,yS H->SqL K H a (ns.map V.int)->sp [.ref a] H (λv _=>v = .bl ap) λ_ _ _=>False) (G:∀H e s',CX [] H J (λ_ _ _=>False) e s'->False) :
   codeAny (model P w) callerA (.call (.ref p) #[[.ref a],[]]) (λr s'=>r = .ok (.ret (.bool ap))/\OldK J.heap s'.heap/\s'.os=J.os/\io s'.gens) J:=by
 have T:=TZ hi;have S:=hi.length;have core:∀H:Hp,yS H->SqL K H a (ns.map V.int)->HOk P w H J.heap->(∀b,H b≠am->b=a)->(H a≠am->K.lookup a=am) ->
     codeAny (model P w) callerA (.call (.ref p) #[[.ref a],[]]) (λr s'=>r = .ok (.ret (.bool ap))/\OldK J.heap s'.heap/\s'.os=J.os/\io s'.gens) J:=by
   intro H hO hS hok hA hK;have U:∀{b:Addr}{o:dc},J.heap.get? b=al o->H b=am->(V2 J.heap H).get? b=al o:=λe n=>k6 e n;have vo:∀{b:Addr}{o:dc}{t:Array DictEntry}{M:Nat},J.heap.get? b=al o->o.data = .dict t M->H b=none:=λ{b o t M} e d=>by
     cases q:H b with
     | none=>rfl
     | some u=> have e':b=a:=hA b (by rw[q];simp);subst e';rw[N] at e;cases e;have B:Data.seq vs.toArray _=Data.dict t M:=d;cases B
   have c:∀{b:Addr}{m:Str->Option ar},J.heap.Ns b m->(V2 J.heap H).Ns b m:=λ{b m} #[o,t,M,e,d,r]=>#[o,t,M,U e (vo e d),d,r]
   have f:K.In (V2 J.heap H):=λb o e=>U (KX b o e) (by
     cases q:H b with
     | none=>rfl
     | some u=> have e':b=a:=hA b (by rw[q];simp);subst e';rw[hK (by rw[q];simp)] at e;cases e);have Z:Mod K mg (V2 J.heap H):=#[f,c I,#[j,c hb,D],let #[mc,h1,Y]:=R;#[mc,c h1,Y]]
   have L:Env0 P w K mg (V2 J.heap H) callerA [] J H:=#[rfl,Z,λb o e=>pP e,Nat.le_of_eq (gD _ _),trivial,λb hb=>absurd (show b∈([]:List Addr) from hb) (by simp),hok,.of_eq hg]
   refine codeAny_mono ((F _ f (c I)).run callerA [] J H #[[.ref a],[]] [.ref a] [.ref a] _ _ hr L (v_ J (.ref a)) (.cons rfl .nil) (jy H hO hS)) λr s' h=>?_;cases r with
   | error e=>exact(G H e s' h).elim
   | ok X=>
     cases X with
     | next=>exact b3K h
     | brk=>exact b3K h
     | cont=>exact b3K h
     | ret u=>
       obtain⟨v,H',os,bare,un,tm,r',q⟩:=h;have q':v = .bl true:=q;subst q';obtain rfl:u=Value.bool true:=r';refine#[rfl,OldK.of_keep λb o e=>?_,os,bare];cases q:H b with
       | none=>exact un.keep b o e q (by intro z;exact absurd (show b∈([]:List Addr) from z) (by simp)) (by simp)
       | some u=>
         rcases hO b with z | ⟨ob,xs,z⟩
         . rw[q] at z;cases z
         . have z2:=un.frzs b ob _ z;obtain⟨g,_⟩:=hok b _ z;obtain⟨Q,_⟩:=tm b _ z2;rw[e] at g;cases g;exact Q
 cases hk:K.lookup a with
 | some o=> have e:=KX a o hk;rw[N] at e;cases e;refine core (λ_=>am) (λ_=>.inl rfl) (.inr #[_,vs.toArray,_,hk,rfl,rfl,rfl,by rw[zJ,S];exact y,by simpa using T]) (λb u z=>by have i:(am:Option HO)=al u:=z;cases i) (λb z=>absurd rfl z) λz=>absurd rfl z
 | none=>
   refine core (λb=>if b=a then al (.frz { cls:=.type "list", data:=.seq vs.toArray } (.lst (ns.map V.int))) else am) (λb=>?_) (.inl (.inr #[{ cls:=.type "list", data:=.seq vs.toArray },if_pos rfl])) (λb u z=>?_) (λb z=>?_) λ_=>hk
   . by_cases hb:b=a;. exact .inr #[_,_,if_pos hb]
     . exact .inl (if_neg hb)
   . by_cases hb:b=a;. have i:=(if_pos hb).symm.trans z;cases i;subst hb;exact#[N,by rw[zX];exact y,vs,_,T,N]
     . have i:=(if_neg hb).symm.trans z;cases i
   . by_cases hb:b=a;. exact hb
     . exact absurd (if_neg hb) z
def EX (s:fv):Arguments:=match s with
 | .FunctionDef _ a _ _ _ _ _ _ _ _=>a
 | _=>{ posonlyargs:=[],args:=[],vararg:=am,kwonlyargs:=[],kw_defaults:=[],kwarg:=am,defaults:=[] }
def CU (s:fv):List Stmt:=match s with
 | .FunctionDef _ _ b _ _ _ _ _ _ _=>b
 | _=>[]
def AB (s:fv):Scope:=match s with
 | .FunctionDef _ _ _ _ _ _ j _ _ _=>j
 | _=>{ kind:=.function,names:=[],isGenerator:=bj,isCoroutine:=bj }
abbrev CX0:CXT:=λ_ _ _ _ _ _=>False
abbrev E0:XK:=λ_ _ _=>False
theorem A1c :aY CX0 X E0:=λ_ _ _ _ _ _ _ h=>h.elim
structure Fun (K:Frg) (x qual:Str) (st:fv) (f:Addr) (fd:gy):Prop where
 ex:∃(oc:ar) (od:Option Addr) (kV doc pm:ar) (an:Option Addr) (cdv ct:ar) (osl:Array (Option ar)),
   fd=a9X x qual (EX st) (CU st) (AB st) .none kV doc pm an cdv ct/\K.lookup f=al #[oc,od,.func fd,osl]/\b8Q K cdv qual=ap
 kp:b2X K (.ref f)=ap
section
variable {P:bq}{w:bo}{K:Frg}{mg:Str->Option ar}{base:db}
theorem Fun.ok {st:fv}(F:Fun K x qual st f O) (S:FnScope N e (AB st)) (len:∀vs H Q E,sp vs H Q E->vs.length=e.length) (U:∀(cdv:ar) (A:cx) (outer:List Env) (s:ba) (H:Hp) (vs:List V) (Q:VK) (E:XK),Room k (A.deeper (envOfC qual (AB st) s.heap.objs.size f cdv))->sp vs H Q E ->∃t,PSs (XT CX0 P w K mg base N qual (AB st) f cdv A outer s H E).nox (CU st) t/\t { nx:=λ_ H'=>Q .non H',rt:=Q } (start N vs) H):FnOk P w K mg base CX0 (k+1) f O e sp:=by obtain⟨v,i,kV,doc,M,T,cdv,o,osl,rfl,n,a⟩:=F.ex;refine A1V n a S len λA outer s H vs Q E hr z=>?_;obtain⟨t,h,q⟩:=U cdv A outer s H vs Q E hr z;exact#[t,h.nox,q]
theorem Fun.binds {st:fv}(F:Fun K x qual st f O) (h:∀(kV doc M:ar) (T:Option Addr) (cdv ct:ar) (t:List ar),t.length=e.length->bindArgs (a9X x qual (EX st) (CU st) (AB st) .none kV doc M T cdv ct) #[t,[]]=pure (e.zip t)):Binds K O e []:=by obtain⟨v,n,kV,doc,M,T,cdv,ct,osl,rfl,Q,S⟩:=F.ex;exact .all (h kV doc M T cdv ct)
theorem z0 {x qual:Str}{st:fv}{f:Addr}{v:ar}{O T:Option Addr}{osl:Array (Option ar)}{kV doc M cdv ct:ar}(l:K.lookup f=al #[v,O,.func (a9X x qual (EX st) (CU st) (AB st) .none kV doc M T cdv ct),osl]) (c:b8Q K cdv qual=ap) (k:b2X K (.ref f)=ap):Fun K x qual st f (a9X x qual (EX st) (CU st) (AB st) .none kV doc M T cdv ct):=#[#[v,O,kV,doc,M,T,cdv,ct,osl,rfl,l,c],k]
end
section
variable {X:Cx}
theorem pv (i:Nat) {x:Str}{pos:fb}(hN:X.N[i]?=al x:=by rfl) (e:Vis X.env.scope x:=by first | exact Or.inl rfl | exact Or.inr (Or.inl rfl) | exact Or.inr (Or.inr rfl)) (hd:(x==("__debug__":Str))=false:=by decide)
   (S:(x==("__classdict__":Str))=false:=by decide):PE X (.Name x pos) (pQ i):=k7 hN e hd S
end
theorem kW {A:Prop}(h:B):if bj=ap then A else B:=by rw[if_neg nft];exact h
theorem gU {A:Prop}(h:A):if ap=ap then A else B:=by rw[if_pos rfl];exact h
theorem kX {A:Prop}[Decidable c] (h1:c->A) (a:¬c->B):if c then A else B:=by
 by_cases h:c;. rw[if_pos h];exact h1 h
 . rw[if_neg h];exact a h
end L2
namespace L2
open PySem PySem.Spec PyProof.Rows
def NU (cells:List (Str×Addr)):List (Str×en)->List (Str×Addr)->List (Str×Addr)
 | [],B=>B
 | (n,k)::r,B=>NU cells r (if k==.free then (match cells.lookup n with | some c=>(n,c)::B | none=>B) else B)
theorem VJ (env:Env):∀(names:List (Str×en)) (cs:List (Str×Addr)),(∀y∈names,y.2 = .free->∃c,env.cells.lookup y.1=al c) ->(forIn (m:=Sem) names cs λx r=>do
     let (name,kind):=x
     if (kind==.free)=ap then do let c <- cellOf env name;pure (b3Q ((name,c)::r)) else pure (b3Q r))=pure (NU env.cells names cs)
 | [],cs,_=>rfl
 | (n,k)::r,cs,h=>by
   have hr:∀y∈r,y.2 = .free->∃c,env.cells.lookup y.1=al c:=λy hy=>h y (yV _ hy);rw[b4X];by_cases hk:(k==a7X)=ap;. obtain⟨c,hc⟩:=h (n,k) a1Q (by simpa using hk);have G:env.cells.lookup n=al c:=hc;simp only[hk,if_true,cellOf,G,NU];exact VJ env r _ hr
   . simp only[hk,if_false,NU];exact VJ env r _ hr
theorem qP (h:∀y∈scope.names,y.2 = .free->∃c,env.cells.lookup y.1=al c):closureFor scope env=pure (NU env.cells scope.names []):=by
 have e:=VJ env scope.names [] h;have f:closureFor scope env=((forIn (m:=Sem) scope.names ([]:List (Str×Addr)) λx r=>do
     let (name,kind):=x
     if (kind==.free)=ap then do let c <- cellOf env name;pure (b3Q ((name,c)::r)) else pure (b3Q r)) >>= λr=>pure r):=rfl;rw[f,e];rfl
theorem XZ :∀{names:List (Str×en)}{cs:List (Str×Addr)},(∀p∈cs,cells.lookup p.1=al p.2)->∀p∈NU cells names cs,cells.lookup p.1=al p.2
 | [],_,h=>h
 | (n,k)::r,cs,h=>by
   refine XZ (names:=r) ?_;split
   . cases e:cells.lookup n with
     | none=>exact h
     | some c=>
       intro p hp;rcases yX.mp hp with rfl | hp;. exact e
       . exact h p hp
   . exact h
theorem U0 :∀{names:List (Str×en)}{cs:List (Str×Addr)}{p:Str×Addr},p∈cs->p∈NU cells names cs
 | [],_,_,h=>h
 | (n,k)::r,cs,p,h=>by
   refine U0 (names:=r) ?_;split
   . cases e:cells.lookup n with
     | none=>exact h
     | some c=>exact yV _ h
   . exact h
theorem Y0 (hc:cells.lookup x=al c):∀{names:List (Str×en)}{cs:List (Str×Addr)},(x,a7X)∈names->(x,c)∈NU cells names cs
 | [],_,h=>absurd h (by simp)
 | (n,k)::r,cs,h=>by
   rcases yX.mp h with e | h;. cases e;refine U0 (names:=r) ?_;simp[hc]
   . exact Y0 hc (names:=r) h
theorem Q6 {t:Type}:∀{l:List (Str×t)}{x:Str}{c:t},(x,c)∈l->∃p,l.lookup x=al p
 | [],_,_,h=>absurd h (by simp)
 | (n,k)::r,x,c,h=>by
   rw[a3Q];cases e:x==n with
   | true=>exact#[k,rfl]
   | false=>
     rcases yX.mp h with e' | h;. cases e';simp at e
     . exact Q6 h
theorem C9 (h:(NU cells names []).lookup x=al c):cells.lookup x=al c:=
 XZ (names:=names) (cs:=[]) (by simp) (x,c) (a5X h)
structure CSc (X:Cx) (scope:gc) (NC:List Str) (fr:List (Option Nat)):Prop where
 kind:scope.kind = .function
 nocell:∀y∈scope.names,y.2≠.cell
 names:∀y∈scope.names,y.2 = .local->scope.names.lookup y.1=al .local
 free:∀y∈scope.names,y.2 = .free->X.env.kindOf y.1=al .cell\/X.env.kindOf y.1=al .free
 len:fr.length=NC.length
 slot:∀(i j:Nat) (x:Str),NC[i]?=al x->fr[i]?=al (al j)->X.N[j]?=al x/\scope.names.lookup x=al .free/\Vis X.env.scope x/\X.env.kindOf x≠al .local
def capt (b:List (Option Nat)) (e:St):St:=b.map λo=>o.bind λj=>(e[j]?).join
def AS (X:Cx) (scope:gc) (NC:List Str) (C:Addr) (s:ba) (H:Hp) (ex:List Addr) (pn:List (Addr×dc)):Cx where
 prog:=X.prog
 w:=X.w
 K:=X.K
 mg:=X.mg
 base:=X.base
 A:=X.A
 N:=NC
 s₀:=s
 H₀:=H
 env:=compEnvC scope (NU X.env.cells scope.names []) C X.env
 outer:=X.stack
 stack:=X.stack
 ex:=ex
 fn:=λ_=>bj
 calm:=X.calm
 pn:=pn
 xe:=λ_ _=>False
theorem L0 {scope:gc}{env:Env}{x:Str}:∀{names:List (Str×en)},((names.map λ(n,k)=>if (k==a7X&&env.scope.kind==.function&&env.kindOf n==al .cell) then (n,NameKind.cell) else (n,k)).lookup x=al .cell \/(names.map λ(n,k)=>if (k==a7X&&env.scope.kind==.function&&env.kindOf n==al .cell) then (n,NameKind.cell) else (n,k)).lookup x=al .free) ->(∀y∈names,y.2≠.cell)->(x,a7X)∈names
 | [],h,_=>by simp at h
 | (n,k)::r,h,hn=>by
   have U:=@L0 scope env x r;have t:∀y∈r,y.2≠.cell:=λy hy=>hn y (yV _ hy);have hk:=hn (n,k) a1Q;simp only[zI] at h;by_cases hc:(k==a7X&&env.scope.kind==.function&&env.kindOf n==al .cell)=ap
   . simp only[hc,if_true,a3Q] at h;cases hx:x==n with
     | true=>
       have e:x=n:=by simpa using hx
       have f:k = .free:=by simp at hc;exact hc.1.1
       subst e f;exact a1Q
     | false=> simp only[hx] at h;exact yV _ (U h t)
   . simp only[hc,a3Q] at h;cases hx:x==n with
     | true=>
       have e:x=n:=by simpa using hx
       subst e;simp[a3Q] at h;rcases h with h | h;. exact absurd h hk
       . subst h;exact a1Q
     | false=> simp[a3Q,hx] at h;exact yV _ (U (by simpa using h) t)
section
theorem CSc.has (S:CSc X scope NC fr) (ok:X.Ok):∀y∈scope.names,y.2 = .free->∃c,X.env.cells.lookup y.1=al c:=λy hy B=>ok.has y.1 (S.free y hy B)
theorem CSc.cells (S:CSc X scope NC fr) (ok:X.Ok) (h:(x,a7X)∈scope.names):∃c,(NU X.env.cells scope.names []).lookup x=al c/\X.env.cells.lookup x=al c:=by obtain⟨c,hc⟩:=S.has ok _ h rfl;have G:X.env.cells.lookup x=al c:=hc;obtain⟨p,h'⟩:=Q6 (Y0 G h (cs:=[]));have:=C9 h';rw[G] at this;cases this;exact#[_,h',G]
theorem VL (hn:∀y∈scope.names,y.2 = .local->scope.names.lookup y.1=al .local) (h:(x,a7X)∈scope.names) (m:scope.names.lookup x≠al .free->False):(relabel scope env).names.lookup x=al .cell\/(relabel scope env).names.lookup x=al .free:=by
 have B:scope.names.lookup x=al .free:=by
   cases e:scope.names.lookup x with
   | none=>exact(m (by rw[e];intro z;cases z)).elim
   | some k=>
     cases k <;> first
       | rfl
       | exact(m (by rw[e];intro z;cases z)).elim
 have G:∀(names:List (Str×en)),names.lookup x=al .free ->((names.map λ(n,k)=>if (k==a7X&&env.scope.kind==.function&&env.kindOf n==al .cell) then (n,NameKind.cell) else (n,k)).lookup x=al .cell \/(names.map λ(n,k)=>if (k==a7X&&env.scope.kind==.function&&env.kindOf n==al .cell) then (n,NameKind.cell) else (n,k)).lookup x=al .free):=by
   intro names;induction names with
   | nil=>intro h;simp at h
   | cons y r U=>
     obtain⟨n,k⟩:=y;intro h;rw[a3Q] at h;simp only[zI];cases hx:x==n with
     | true=>
       simp only[hx] at h;cases h;split;. left;simp[a3Q,hx]
       . right;simp[a3Q,hx]
     | false=>
       simp only[hx] at h;have:=U h;split;. simpa [a3Q,hx] using this
       . simpa [a3Q,hx] using this
 exact G scope.names B
end
end L2
namespace L2
open PySem PySem.Spec PyProof.Rows
theorem AL {t:Sem e}(h:wpAny M A t Q (λ_ _=>False) s):wpAny M A t Q E s:=
 ce h (λ_ _ q=>q) λ_ _ f=>f.elim
def LO (ifs:List ca) (env:Env):Sem Bool:=forIn ifs ap λc r=>if r=ap then do let ok <- isTrue c env (eval c env);pure (b3Q ok) else pure (b3Q r)
def VM (prog:bq) (w:bo) (A:cx) (c target:ca) (ifs:List ca) (tl:Env->Addr->(ba->Prop)->ba->Prop):Prop:=∀(t D:Addr) (env:Env) (R:Result->ba->Prop) (I:Nat->ba->Prop),(∀n s,I n s->wpAny (model prog w) A (pyNext (.ref t)) (λr J=>match r with
     | none=>R (.ok .next) J
     | some v=>wpAny (model prog w) A (letOwnedTupleGo target (.ref t) v) (λ_ k=>wpAny (model prog w) A (ij target env v) (λ_ e=>
         wpAny (model prog w) A (LO ifs env) (λok L=>if ok=ap then tl env D (λs'=>∃m,m < n/\I m s') L else ∃m,m < n/\I m L) (λ_ _=>False) e) (λ_ _=>False) k) (λ_ _=>False) J) (λ_ _=>False) s) ->
   ∀n s,I n s->codeAny (model prog w) A (.compLoop c 0 (.ref t) (.ref D) env) R s
def tlL (prog:bq) (w:bo) (A:cx) (elt:ca):Env->Addr->(ba->Prop)->ba->Prop:=λenv D P s=>wpAny (model prog w) A (eval elt env) (λx e=>wpAny (model prog w) A (call (.builtin "list.append") [.ref D,x]) (λ_ k=>P k) (λ_ _=>False) e) (λ_ _=>False) s
theorem qQ :VM prog w A (.ListComp elt [#[target,iter,ifs,0]] scope pos) target ifs (tlL prog w A elt):=by
 intro p D env R I turn n s h;refine codeAny_loop rfl I (λn s hI=>?_) n h;show wpAny _ A ((compTurn (.ListComp elt [#[target,iter,ifs,0]] scope pos) 0 (.ref p) (.ref D) env).onRaise (λx=>do noteFrame x env;theTreesLotGoes x)) _ _ s;refine wpAny_noted ?_;rw[compTurn_list];refine zZ (df (zZ (ce (AL (turn n s hI)) (λr J U=>?_) λ_ _ h'=>h')));cases r with
 | none=>exact zY U
 | some v=>
   refine zZ (ce (AL U) (λ_ k z=>?_) λ_ _ h'=>h');refine zZ (ce (AL z) (λ_ o e=>zZ (ce (AL e) (λok L a=>?_) λ_ _ h'=>h')) λ_ _ h'=>h');cases ok with
   | false=>exact zY #[rfl,a]
   | true=> exact zZ (zZ (ce (AL a) (λx i X=>zZ (ce (AL X) (λ_ m t=>zY (zY #[rfl,t])) λ_ _ h'=>h')) λ_ _ h'=>h'))
def PTs (X:Cx) (ifs:List ca) (t:TT):Prop:=∀(pins:List (Addr×dc)) (s:ba) (e:St) (H:Hp) (Q:Bool->Hp->Prop),Inv X pins e H s->t e H Q->wpAny (model X.prog X.w) X.A (LO ifs X.env) (TP X pins e Q) X.xe s
def qR:TT:=λ_ H Q=>Q ap H
theorem e8 {X:Cx}:PTs X [] qR:=λ_ _ _ H _ I h=>wpAny_tests_nil #[H,I,h]
theorem qS {X:Cx}{c:ca}{t:TT}(h:PT X c t):PTs X [c] t:=λpins s e H Q I q=>wpAny_tests_one (h pins s e H Q I q)
def L1 (b:List (Option Nat)) (k:TI) (g:TG) (f:TT) (r:TE):TE:=λt H Q=>k t H λJ a=>∀D,a D=am->∃W:Nat->Nat->List V->Hp->Prop,(∃m,W 0 m [] (upd a D (.lst []))) /\∀i m q e,W i m q e->e D=al (.lst q)/\((J.stop i e/\Q (.ref D) e)\/(J.go i e/\∀x Z,J.yld i e x Z->g x (capt b t) Z λn o=>
   (∀(i:Nat) v,(capt b t)[i]?=al (al v)->n[i]?=al (al v))/\f n o λc T=>if c=ap then r n T λy p=>∃O,p D=al (.lst O)/\O.length < bd/\∃j,j < m/\W (i+1) j (O++[y]) (upd p D (.lst (O++[y])))
     else ∃O j,j < m/\W (i+1) j O T))
section
variable {X:Cx}{scope:gc}{NC:List Str}{fr:List (Option Nat)}{pins:List (Addr×dc)}{σ:St}{H:Hp}{s:ba}
theorem bD {a:List Addr}(S:CSc X scope NC fr) (I:Inv X pins σ H s) (n:∀b∈a,LM X pins H b) (M:∀b∈a,b < s.heap.objs.size) (vz:h1.Ns s.heap.objs.size m) (hk:∀b o,s.heap.get? b=al o->h1.get? b=al o) :
   Inv (AS X scope NC s.heap.objs.size s H a (X.pn++pins)) [] (capt fr σ) H { s with heap:=h1,toks:=tk }:=by
 have t:Inv X pins σ H { s with heap:=h1,toks:=tk }:=I.kept hk;have N:∀b,b≠X.env.locals->b∉X.fs->b∉frs X.stack:=λb h1 T z=>(yX.mp (I.stkSub b z)).elim h1 T;refine#[#[I.ok.mod,S.kind,I.ok.glob,I.ok.blt,zR _,λx y c h1 T=>I.ok.inj x y c (C9 h1) (C9 T),λx hx=>?_,λx c h=>absurd h (by intro z;cases z),I.ok.hd,I.ok.frames,.inl rfl,λb hb=>?_,I.bs,zN I.ok.bsz I.sz,λb o e hb=>?_,λb hb=>?_,I.stack,I.stkFree],
   rfl,I.bare,Un.kept hk,#[m,vz,λi x v D f e3=>?_],λx c e=>t.cell x c (C9 e),I.hok.fresh (zR _),λx c e=>t.freeC x c (C9 e),λp hp=>?_,t.hok,?_]
 . have Z:=L0 (scope:=scope) (env:=X.env) (x:=x) (names:=scope.names) hx S.nocell;obtain⟨c,h,_⟩:=S.cells I.ok Z;exact#[c,h]
 . exact#[zC (M b hb),λx c e=>(n b hb).2.2.2.2.1 x c (C9 e)]
 . rcases (n b hb).2.2.2.1 with z | z;. exact I.ok.noex b o e z
   . exact absurd (zP (zM e) (zN I.ok.bsz z)) (yF _)
 . exact N b (n b hb).2.1 (n b hb).2.2.1
 . have R:∃j,fr[i]?=al (al j)/\σ[j]?=al (al v):=by
     unfold capt at f;rw[zF] at f;cases B:fr[i]? with
     | none=>rw[B] at f;cases f
     | some o=>
       rw[B] at f;cases o with
       | none=>cases f
       | some j=>
         refine#[j,rfl,?_];have f:((σ[j]?).join)=al v:=Option.some.inj f;cases hs:σ[j]? with
         | none=>rw[hs] at f;cases f
         | some q=>rw[hs] at f;cases q with
           | none=>cases f
           | some v'=>cases f;rfl
   obtain⟨j,G,J⟩:=R;obtain⟨L,g,Q,U⟩:=S.slot i j x D G;obtain⟨m',sk,Y⟩:=t.loc;obtain⟨u,r,l⟩:=Y j x v L J Q;rcases l with ⟨k,_⟩ | ⟨k,c,hc,ll⟩
   . exact absurd k U
   . obtain⟨c',q1,q2⟩:=S.cells I.ok (a5X g);rw[hc] at q2;cases q2;exact#[u,r,.inr #[VL S.names (a5X g) (λz=>z g),c,q1,ll]]
 . have O:p∈X.pn++pins:=by rw[a6Q] at hp;exact hp
   obtain⟨p1,p2,p3,p4,p5⟩:=t.pin p O;exact#[p1,p2,zC (zM (I.pin p O).1),N _ p3 p4,p5]
 . unfold capt;rw[zX];exact S.len
def vH (fr:List (Option Nat)) (r:TI) (g:TG) (o:TT) {Y:Type}(y0:Y) (at_:Y->HO) (el:Addr->Nat->(Nat->Y->Hp->Prop)->St->Hp->Prop):TE:=λσ H Q=>r σ H λJ t=>∀D,t D=am->∃W:Nat->Nat->Y->Hp->Prop,(∃m,W 0 m y0 (upd t D (at_ y0))) /\∀i m q e,W i m q e->e D=al (at_ q)/\((J.stop i e/\Q (.ref D) e)\/(J.go i e/\∀x Z,J.yld i e x Z->g x (capt fr σ) Z λn a=>
   (∀(i:Nat) v,(capt fr σ)[i]?=al (al v)->n[i]?=al (al v))/\o n a λc T=>if c=ap then el D m (W (i+1)) n T else ∃O j,j < m/\W (i+1) j O T))
def z6 (X:Cx) (pins:List (Addr×dc)) (σ:St) (use:Option (ar->Sem Unit)) (Q:VK) (QQ:ar->ba->Prop):Prop:=∀(D C:Addr) (H':Hp) (s':ba) (m:Str->Option ar) (O:dc),Inv X (pins++[(C,O)]) σ H' s'->s'.heap.Ns C m->Q (.ref D) H' ->(∀(o:List (Addr×dc)) (n:St) (g:Hp) (e:ba) (a:db),Inv X (pins++[(C,O)]) n g e->Heap.SameBut C e.heap a->Inv X pins n g { e with heap:=a }) ->
     s'.heap.get? C=al O ->
     match use with
     | none=>∀h',Heap.SameBut C s'.heap h'->QQ (.ref D) { s' with heap:=h' }
     | some u=>wpAny (model X.prog X.w) X.A (u (.ref D)) (λ_ t=>∃m,t.heap.Ns C m/\∀h',Heap.SameBut C t.heap h'->QQ .none { t with heap:=h' }) X.xe s'
theorem NV {B iter tg:ca}{ifs:List ca}{aj:fb}{wi:TI}{g:TG}{tt:TT}{Y:Type}{y0:Y}{at_:Y->HO}{Ty:String}{dt:Data}{mk:Sem ar}{tl:Env->Addr->(ba->Prop)->ba->Prop}{el:Addr->Nat->(Nat->Y->Hp->Prop)->St->Hp->Prop}{use:Option (ar->Sem Unit)}{Q:VK}{QQ:ar->ba->Prop} {gs:List Comprehension}(og:clausesOf B=#[tg,iter,ifs,0]::gs) (oh:mk=newObj (.type Ty) dt am) (hsz:sizeOk dt) (Iv:∀(H:Hp) (h:db),dz < h.objs.size->ObjOk X.prog X.w H (h.push { cls:=.type Ty,dict:=am,data:=dt }) h.objs.size (at_ y0)) (Iw:VM X.prog X.w X.A B tg ifs tl) (bi:∀{it acc:ar}{env:Env}{R:Result->ba->Prop}{s:ba},codeAny (model X.prog X.w) X.A (.compLoop B 0 it acc env) R s->wpAny (model X.prog X.w) X.A (pyIter it) (λwb s'=>codeAny (model X.prog X.w) X.A (.compLoop B 0 wb acc env) R s') (notedBy (model X.prog X.w) X.A env λx s'=>R (.error x) s') s->codeAny (model X.prog X.w) X.A (.compStart B 0 it acc env) R s) (hc:X.calm=ap) (S:CSc X scope NC fr) (hi:PI X tg iter wi) (hb:∀(C:Addr) (s:ba) (H:Hp) (ex:List Addr) (pn:List (Addr×dc)),PG (AS X scope NC C s H ex pn) tg g/\PTs (AS X scope NC C s H ex pn) ifs tt/\∀(p_:List (Addr×dc)) (s':ba) (σ:St) (H':Hp) (D:Addr) (n:Nat) (W:Nat->Y->Hp->Prop) (P:ba->Prop),Inv (AS X scope NC C s H ex pn) p_ σ H' s'->el D n W σ H'->(∀m y j t,m < n->W m y j->Inv (AS X scope NC C s H ex pn) p_ σ j t->P t)->tl (AS X scope NC C s H ex pn).env D P s') (I:Inv X pins σ H s) (h:vH fr wi g tt y0 at_ el σ H Q) (fin:z6 X pins σ use Q QQ) (hs:∀x,cv iter X.env x=pure x) :
   wpAny (model X.prog X.w) X.A (hY B scope X.env aj mk bj (eval iter X.env) use) QQ X.xe s:=by
 refine wpAny_comprehension_free (use:=use) og hs (qP (S.has I.ok)) S.kind S.names (thn (hi pins s σ H _ I h) λv s1 h1=>thn h1 λyw t h2=>?_);obtain⟨it,f,tn,J,j,e,I2,T,gw,f2,hq⟩:=h2;subst e;have Iy:j t.heap.objs.size=none:=I2.hok.fresh (zR _);obtain⟨W,⟨m0,w0⟩,turn⟩:=hq t.heap.objs.size Iy;rw[oh];refine xM (hd:=hsz) (wpAny_newFunctionEnv S.nocell (by intro y hy;simp at hy) (λU qk ql=>?_) S.kind);dsimp only at qk ql ⊢;generalize hs3:({ t with heap:=t.heap.push { cls:=.type Ty,dict:=am,data:=dt } }:ba)=N;have y_:t.heap.push { cls:=.type Ty,dict:=am,data:=dt }=N.heap:=by rw[<-hs3]
 have O:Inv X pins σ (upd j t.heap.objs.size (at_ y0)) N:=by rw[<-hs3];refine I2.laid (t':=t.toks) (λb u e=>zW _ e) (zR _) ?_;exact Iv _ _ I2.big
 rw[y_] at qk ql ⊢;have Iz:N.heap.objs.size=t.heap.objs.size+1:=by rw[<-y_,b2W]
 have tp:∀b∈f,b < t.heap.objs.size:=λb hb=>by obtain⟨o,e,_⟩:=T.obj _ _ gw b hb;exact zM e
 have Dj:∀b∈f,b < N.heap.objs.size:=λb hb=>by rw[Iz];exact c1W (tp b hb)
 have G:∀b∈f,LM X pins (upd j t.heap.objs.size (at_ y0)) b:=λb hb=>#[by rw[AH (zC (tp b hb))];exact(f2 b hb).1,(f2 b hb).2]
 have oi:∀b o,N.heap.get? b=al o->U.get? b=al o:=λb o e=>ql.extBut b o (zC (zM e)) (zW _ e);generalize hC:N.heap.objs.size=C at qk ql ⊢;have I0:Inv (AS X scope NC C N (upd j t.heap.objs.size (at_ y0)) f (X.pn++pins)) [] (capt fr σ) (upd j t.heap.objs.size (at_ y0)) { t with heap:=U,toks:=t.toks+([]:List (Str×ar)).length }:=by have:=bD (tk:=t.toks+([]:List (Str×ar)).length) (h1:=U) S O G Dj (hC▸qk) oi;rw[hC] at this;rw[<-hs3] at this;rw[<-hs3];exact this
 obtain⟨Dk,Dl,za⟩:=hb C N (upd j t.heap.objs.size (at_ y0)) f (X.pn++pins);generalize hX':AS X scope NC C N (upd j t.heap.objs.size (at_ y0)) f (X.pn++pins)=a at I0 Dk Dl za;have Z:a.prog=X.prog:=by rw[<-hX'];rfl
 have eW:a.w=X.w:=by rw[<-hX'];rfl
 have eK:a.K=X.K:=by rw[<-hX'];rfl
 have eA:a.A=X.A:=by rw[<-hX'];rfl
 have eE:a.env=compEnvC scope (NU X.env.cells scope.names []) C X.env:=by rw[<-hX'];rfl
 have eX:a.xe=λ_ _=>False:=by rw[<-hX'];rfl
 have ec:a.calm=true:=by rw[<-hX'];exact hc
 have stat:∀{H':Hp},(∀b∈f,H' b=am)->∀b∈f,LM a [] H' b:=λ{H'} hn b hb=>by obtain⟨q1,q2,q3,q4,q5,q6⟩:=G b hb;rw[<-hX'];exact#[hn b hb,by show b≠C;rw[<-hC];exact zC (Dj b hb),λz=>(yX.mp (O.stkSub b z)).elim q2 q3,.inl hb,λx c e=>q5 x c (C9 e),λp hp=>q6 p (by rw[a6Q] at hp;exact hp)]
 have ends:∀(i m:Nat) (M:Y) (H':Hp) (s':ba),Inv a [] (capt fr σ) H' s'->Q (.ref t.heap.objs.size) H' ->
     compPost (model X.prog X.w) X.A X.xe use QQ (.ref t.heap.objs.size) C (.ok .next) s':=by
   intro i m M H' s' k q';have eC:a.env.locals=C:=by rw[eE];rfl
   obtain⟨mC,zb,_⟩:=k.loc;rw[eC] at zb;have I_:H' C=none:=by have:=k.free;rw[eC] at this;exact this
   have un:Un (frs X.stack) f (upd j t.heap.objs.size (at_ y0)) H' N.heap s'.heap:=by have:=k.base;rw[<-hX'] at this;exact this
   have Ag:s'.os=N.os:=by have:=k.os;rw[<-hX'] at this;exact this
   have tm:HOk X.prog X.w H' s'.heap:=by have:=k.hok;rw[Z,eW] at this;exact this
   have wc:Inv X pins σ H' s':=O.call' (ch:=f) Ag un tm k.bare λb hb=>#[(G b hb).2.2.2.1,(G b hb).2.1,(G b hb).2.2.2.2.1,(G b hb).2.2.2.2.2]
   have C1:C≠X.env.locals:=by rw[<-hC];exact a8K O.lt
   have C2:C∉X.fs:=by rw[<-hC];exact O.nofs (zR _)
   have C3:X.s₀.heap.objs.size<=C:=by rw[<-hC];exact O.sz
   have C4:∀x c,X.env.cells.lookup x=al c->c≠C:=λx c e z=>by obtain⟨v,q⟩:=O.cell x c e;rw[z,<-hC] at q;exact absurd q.lt (yF _)
   have C5:∀p∈X.pn++pins,p.1≠C:=λp hp z=>by have:=zM (O.pin p hp).1;rw[z,<-hC] at this;exact absurd this (yF _)
   obtain⟨oC,Mk,Ml,uw,Ja,Mm⟩:=id zb;have Al:Inv X (pins++[(C,oC)]) σ H' s':=wc.pins_of λp hp=>(yW.mp hp).elim (λz=>wc.pin p (zB _ z)) λz=>by
     have e:p=(C,oC):=by simpa using z
     subst e;exact⟨uw,I_,C1,C2,λv z=>by rw[Ja] at z;cases z⟩
   have res:=fin t.heap.objs.size C H' s' mC oC Al zb q' (λ_ σ2 H3 s4 h4 I4 sb=>by have J4:Inv X pins σ2 H3 s4:=I4.unpinned;have Jb:H3 C=none:=(I4.pin (C,oC) (zB _ (zB _ (by simp)))).2.1;exact J4.turned (t':=s4.toks) (it:=C) (λb o hb e=>sb.extBut b o hb e) Jb C1 (.inr C3) C4 C5) uw;cases use with
   | none=>exact#[mC,zb,res]
   | some u=>exact res
 have loop:∀s':ba,s'={ t with heap:=U,toks:=t.toks+([]:List (Str×ar)).length } ->
     codeAny (model X.prog X.w) X.A (.compLoop B 0 (.ref it) (.ref t.heap.objs.size) (compEnvC scope (NU X.env.cells scope.names []) C X.env)) (compPost (model X.prog X.w) X.A X.xe use QQ (.ref t.heap.objs.size) C) s':=by
   rintro s' rfl;refine Iw _ _ _ _ (λn s'=>∃i M H',Inv a [] (capt fr σ) H' s'/\tn i s'.heap/\(∀b∈f,H' b=am)/\W i n M H') ?_ m0 _ #[0,y0,_,I0,T.keep _ _ _ gw (λb hb o e=>oi b o (by rw[<-y_];exact zW _ e)),λb hb=>(G b hb).1,w0];rintro n s5 ⟨i,M,H5,I5,eh,uu,w5⟩;obtain⟨hD5,we⟩:=turn i n M H5 w5;rcases we with ⟨stop,qn⟩ | ⟨go,step⟩
   . have:=T.done a Z eW eK ec i [] s5 (capt fr σ) H5 (λ_ _=>False) I5 (stat uu) eh stop;rw[eA] at this;refine thn this ?_;rintro r s6 ⟨hr,I6⟩;subst hr;exact ends i n M H5 s6 I6 qn
   . have:=T.item a Z eW eK ec i [] s5 (capt fr σ) H5 (λ_ _=>False) I5 (stat uu) eh go;rw[eA] at this;refine thn this ?_;rintro r s6 ⟨u,hr,h6⟩;subst hr;refine thn h6 ?_;rintro _ s7 ⟨x,H7,I7,r7,y7,qa,Jc⟩;have Jd:=I7.pinned (stat Jc) (T.obj _ _ qa);have wg:=Dk _ s7 (capt fr σ) H7 x u _ Jd r7 (step x H7 y7);rw[Z,eW,eA,eE,eX] at wg;refine thn wg ?_;rintro _ s8 ⟨L,H8,I8,Am,q8⟩;have zc:=Dl _ s8 L H8 _ I8 q8;rw[Z,eW,eA,eE,eX] at zc;refine thn zc ?_;rintro ok s9 ⟨H9,I9,q9⟩;have weak:∀{H':Hp}{s':ba},Inv a ([]++PY f s7.heap) L H' s'->Inv a [] (capt fr σ) H' s'/\tn (i+1) s'.heap/\∀b∈f,H' b=none:=λ{H' s'} k=>by refine#[k.unpinned.weak (by rw[k.len];rw[I0.len]) Am,T.keep _ _ _ qa λb hb o e=>(k.pin (b,o) (zB _ (zB _ (DU hb e)))).1,λb hb=>?_];obtain⟨o,e,d⟩:=T.obj _ _ qa b hb;exact(k.pin (b,o) (zB _ (zB _ (DU hb e)))).2.1
     cases ok with
     | false=> rw[if_neg nft] at q9;obtain⟨cg,m',tq,w'⟩:=q9;obtain⟨a1,a2,a3⟩:=weak I9;exact#[m',tq,i+1,cg,H9,a1,a2,a3,w']
     | true=>
       rw[if_pos rfl] at q9;have Dm:=za _ s9 L H9 _ n (W (i+1)) (λs'=>∃wj,wj < n/\∃i M H',Inv a [] (capt fr σ) H' s'/\tn i s'.heap/\(∀b∈f,H' b=am)/\W i wj M H') I9 q9 λm y j t hm w' k=>by obtain⟨a1,a2,a3⟩:=weak k;exact#[m,hm,i+1,y,j,a1,a2,a3,w']
       rw[eE] at Dm;exact Dm
 refine bi (loop _ rfl) (T.self _ 0 _ _ _ ?_ (loop _ rfl));exact T.keep _ _ _ gw (λb hb o e=>oi b o (by rw[<-y_];exact zW _ e))
theorem Y1 (hc:X.calm=ap) (S:CSc X scope NC fr) (hi:PI X G iter b) (hb:∀(C:Addr) (s:ba) (H:Hp) (e:List Addr) (t:List (Addr×dc)),PG (AS X scope NC C s H e t) G g/\PTs (AS X scope NC C s H e t) ifs r/\PE (AS X scope NC C s H e t) elt a) (I:Inv X pins σ H s) (h:L1 fr b g r a σ H Q) (fin:z6 X pins σ use Q QQ) (hs:∀x,cv iter X.env x=pure x) :
   wpAny (model X.prog X.w) X.A (hY (.ListComp elt [#[G,iter,ifs,0]] scope pos) scope X.env z (newList []) bj (eval iter X.env) use) QQ X.xe s:=by refine NV (y0:=[]) (at_:=.lst) (Ty:= "list") (dt:=.seq #[]) (tl:=tlL X.prog X.w X.A elt) (el:=λD m W i T=>a i T λy p=>∃O,p D=al (.lst O)/\O.length < bd/\∃j,j < m/\W j (O++[y]) (upd p D (.lst (O++[y])))) rfl rfl (by size_fits) (λH h _=>#[xT _,[],0,.nil,yZ _ rfl]) qQ codeAny_compStart_list hc S hi (λC s H e t=>#[(hb C s H e t).1,(hb C s H e t).2.1,λp_ s' σ H' D n W P I q k=>?_]) I h fin hs;refine thn ((hb C s H e t).2.2 _ s' σ H' _ I q) ?_;rintro y c ⟨o,f,u,Y,O,hD,hsz,j,N,M⟩;exact thn (NR _ c σ f (.ref D) [o] (.ref D) [y] (λ_ H'=>∃j,j < n/\W j (O++[o]) H') u rfl (.cons Y .nil) #[_,O,o,rfl,rfl,hD,hsz,j,N,M]) (by rintro _ B ⟨_,J,Z,_,L,R,v⟩;exact k _ _ _ _ R v Z)
end
end L2
namespace L2
open PySem PySem.Spec PyProof.Rows
section
variable {X:Cx}{scope:gc}{NC:List Str}{fr:List (Option Nat)}{elt iter tg:ca}{ifs:List ca}{pos:fb}{wi:TI}{g:TG}{tt:TT}{te:TE}
theorem qT (hc:X.calm=ap) (S:CSc X scope NC fr) (hi:PI X tg iter wi) (hb:∀(C:Addr) (s:ba) (H:Hp) (e:List Addr) (t:List (Addr×dc)),PG (AS X scope NC C s H e t) tg g/\PTs (AS X scope NC C s H e t) ifs tt/\PE (AS X scope NC C s H e t) elt te) (hs:∀x,cv iter X.env x=pure x:=by intro _;rfl):PE X (.ListComp elt [#[tg,iter,ifs,0]] scope pos) (L1 fr wi g tt te):=by intro pins s n H Q I h;rw[eval_ListComp];refine Y1 (use:=am) (Q:=Q) hc S hi hb I h (λD C H' s' m O U hn q back _ h' Y=>?_) hs;exact#[.ref D,H',back pins n H' s' h' U Y,rfl,q]
theorem qU {i:Nat}{x:Str}{z c:fb}(hc:X.calm=ap) (hN:X.N.Nodup) (j:X.N[i]?=al x) (hx:Loc X.env.scope x) (S:CSc X scope NC fr) (hi:PI X tg iter wi) (hb:∀(C:Addr) (s:ba) (H:Hp) (a:List Addr) (o:List (Addr×dc)),PG (AS X scope NC C s H a o) tg g/\PTs (AS X scope NC C s H a o) ifs tt/\PE (AS X scope NC C s H a o) elt te) (k:swapsWith (.ListComp elt [#[tg,iter,ifs,0]] scope pos) (al (.Name x z)) c.line X.env=pure ap) (B:X.fn x=ap\/X.env.scope.names.lookup x=al .local:=by first | exact .inl rfl | exact .inr rfl | assumption)
   (hs:∀x,cv iter X.env x=pure x:=by intro _;rfl) :
   PS X (.Assign [.Name x z] (.ListComp elt [#[tg,iter,ifs,0]] scope pos) c) (λD t H=>L1 fr wi g tt te t H λv H'=>D.nx (t.set i (al v)) H'):=by intro pins s t H D I h;rw[exec_Assign_Name_used _ _ _ _ k];refine zZ (df (zZ ?_));show wpAny _ X.A (do let _ <- hY (.ListComp elt [#[tg,iter,ifs,0]] scope pos) scope X.env _ (newList []) bj (eval iter X.env) (al (ij (.Name x z) X.env))) _ _ s;refine zZ (thn (Y1 (use:=al (ij (.Name x z) X.env)) (Q:=λv H'=>D.nx (t.set i (al v)) H') (QQ:=λ_ s'=>∃e H',Inv X pins e H' s'/\D.nx e H') hc S hi hb I h (λA C H' s' m O U hn q back G=>?_) hs) λ_ s' hq=>zY (zY hq));have T:=V7 (X:=X) (pos:=z) hN j hx B (pins++[(C,O)]) s' t H' (.ref A) (.ref A) (λe H'=>D.nx e H') U rfl q;refine thn T ?_;rintro _ f ⟨n,r,p,q2⟩;have u:f.heap.get? C=al O:=(p.pin (C,O) (zB _ (zB _ (by simp)))).1;obtain⟨J,R,M,b,Z,y⟩:=hn;rw[G] at b;cases b;exact#[m,#[_,R,M,u,Z,y],λh' Y=>#[n,r,back pins n r f h' p Y,q2]]
end
def Its (x:Str):It:=#[λi _=>i < x.cps.size,λi H v H'=>H'=H/\∃c,x.cps[i]?=al c/\v = .str #[(z3 [c])],λi _=>i=x.cps.size]
theorem Y2 {P:bq}{w:bo}{K:Frg}{tg:ca}(it:Addr) (ty:String) (x:Str) (t:Tok) (vw:["enumerate","zip","dict_itemiterator","dict_reverseitemiterator","odict_iterator","itertools.zip_longest","itertools.pairwise"].contains ty=bj) (W:∀A:cx,A.handled=am->Walks P w A it [it] [it] x.cps.size (SignAt x) (λi h=>h.IsStrIter it ty x t i)) (wl:∀(A:cx) (i:Nat) (s:ba) (Q:ar->ba->Prop) (E:ar->ba->Prop),s.heap.IsStrIter it ty x t i->Q (.ref it) s->wpAny (model P w) A (pyIter (.ref it)) Q E s) :
   Turn P w K tg (Its x) [it] it (λi h=>h.IsStrIter it ty x t i) where
 mem:=by simp
 obj:=λi h st b hb=>by
   have e:b=it:=by simpa using hb
   subst e;obtain⟨o,e,c,d⟩:=st;exact⟨o,e,λv z=>by rw[d] at z;cases z⟩
 keep:=λi h h' st k=>by obtain⟨o,e,r⟩:=st;exact#[o,k it (by simp) o e,r]
 item:=by intro X hP hw hK hc i pins s σ H E I hf st hg;subst hP hw hK;obtain⟨f0,f1,f2,f3,f4,f5⟩:=hf it (by simp);refine(W X.A (I.ok.hd hc)).item i s _ _ hg st λv h' tk hv bw kk=>?_;obtain⟨c,u,Ay,rfl⟩:=hv;have I1:Inv X pins σ H { s with heap:=h',toks:=tk }:=I.turned (λb o hb e=>kk b o (by simpa using hb) e) f0 f1 f3 f4 f5;obtain⟨o,e,c',d⟩:=id bw;exact#[_,rfl,XR (s:={ s with heap:=h',toks:=tk }) e c' d vw #[.str #[(z3 [c])],H,I1,#[u,rfl],#[rfl,c,Ay,rfl],bw,λb hb=>(hf b hb).1]]
 done:=by intro X hP hw hK hc i pins s σ H E I hf st hg;subst hP hw hK;obtain⟨f0,f1,f2,f3,f4,f5⟩:=hf it (by simp);have hi:i=x.cps.size:=hg;subst hi;refine(W X.A (I.ok.hd hc)).done s _ _ st λh' tk kk=>#[rfl,I.turned (λb o hb e=>kk b o (by simpa using hb) e) f0 f1 f3 f4 f5]
 self:=wl
theorem VN (bs:List Bool):(a1K bs.length).all (λi=>(bs[i]?).getD bj)=bs.all id:=by
 rw[a2Z,a6J,a6J];constructor;. intro h b hb;obtain⟨i,hi,rfl⟩:=List.mem_iff_getElem.mp hb;have:=h i (by simpa using hi);simpa [hi] using this
 . intro h i hi;have hi:i < bs.length:=by simpa using hi
   have:=h bs[i] (a7K hi);simpa [hi] using this
theorem VO (bs:List Bool):(a1K bs.length).any (λi=>(bs[i]?).getD bj)=bs.any id:=by
 rw[a2Z,b6W,b6W];constructor
 . rintro⟨i,hi,h⟩;have hi:i < bs.length:=by simpa using hi
   exact#[bs[i],a7K hi,by simpa [hi] using h]
 . rintro⟨b,hb,h⟩;obtain⟨i,hi,rfl⟩:=List.mem_iff_getElem.mp hb;exact#[i,by simpa using hi,by simpa [hi] using h]
section
variable {X:Cx}
theorem e9 {bs:List Bool}{t:List ar}(r:Vals (bs.map V.bl) t) {i:Nat}{v:ar}(h:t.toArray[i]?=al v):v = .bool ((bs[i]?).getD bj):=by
 have h':t[i]?=al v:=by simpa using h
 have m:i < t.length:=(yT.mp h').1;have e:=r.length;rw[zX] at e;have hb:(bs.map V.bl)[i]?=al (V.bl bs[i]):=by rw[zF];simp[show i < bs.length by omega]
 obtain⟨u,hu,p⟩:=r.get hb;rw[h'] at hu;cases hu;simp[show i < bs.length by omega];exact p
def A2Z (X:Cx):List V->Hp->VK->Prop:=λt H Q=>∃(p:Addr) (bs:List Bool),t=[.ref p]/\SqL X.K H p (bs.map V.bl)/\Q (.bl (bs.all id)) H
theorem kY (hc:X.calm=ap):BO X (.builtin "all") (A2Z X):=by
 intro pins s O H N z Q I r h;obtain⟨p,bs,rfl,hp,q⟩:=h;obtain⟨u,rfl,j⟩:=EW r;cases j;obtain⟨a,T,t,y⟩:=I.list hp;have m:p≠s.heap.objs.size:=by obtain⟨o,n,e,_⟩:=t;exact zC (zM e)
 have Y:=T.length;rw[zX] at Y;refine call_all_walk (fk t.isList ?_);refine#[s.heap.objs.size,_,_,_,_,_,λi=>(bs[i]?).getD bj,rfl,Walks.list (show X.A.in1.handled=am from I.ok.hd hc) s.heap.objs.size p m a.toArray,#[#[_,yZ _ rfl,rfl,rfl],?_],λi v s' x k f hq=>?_,λh' L hk=>?_];. obtain⟨o,n,e,c,d,g⟩:=t;exact#[o,zW _ e,c,n,g]
 . rw[e9 T f];exact cE hq
 . refine#[.bl (bs.all id),H,?_,?_,q];. exact I.kept (t':=L) λb o e=>hk b o (by simp;exact zC (zM e)) (zW _ e)
   . rw[zJ,<-Y,VN];rfl
def A2a (X:Cx):List V->Hp->VK->Prop:=λt H Q=>∃(p:Addr) (bs:List Bool),t=[.ref p]/\SqL X.K H p (bs.map V.bl)/\Q (.bl (bs.any id)) H
theorem kZ (hc:X.calm=ap):BO X (.builtin "any") (A2a X):=by
 intro pins s O H N z Q I r h;obtain⟨p,bs,rfl,hp,q⟩:=h;obtain⟨u,rfl,j⟩:=EW r;cases j;obtain⟨a,T,t,y⟩:=I.list hp;have m:p≠s.heap.objs.size:=by obtain⟨o,n,e,_⟩:=t;exact zC (zM e)
 have Y:=T.length;rw[zX] at Y;refine call_any_walk (fk t.isList ?_);refine#[s.heap.objs.size,_,_,_,_,_,λi=>(bs[i]?).getD bj,rfl,Walks.list (show X.A.in1.handled=am from I.ok.hd hc) s.heap.objs.size p m a.toArray,#[#[_,yZ _ rfl,rfl,rfl],?_],λi v s' x k f hq=>?_,λh' L hk=>?_];. obtain⟨o,n,e,c,d,g⟩:=t;exact#[o,zW _ e,c,n,g]
 . rw[e9 T f];exact cE hq
 . refine#[.bl (bs.any id),H,?_,?_,q];. exact I.kept (t':=L) λb o e=>hk b o (by simp;exact zC (zM e)) (zW _ e)
   . rw[zJ,<-Y,VO];rfl
def z7:V->Option Int->Option Int->Hp->VK->Prop:=λx e hi H Q=>∃y,x = .str y/\y.length<=bd/\Q (.str (a1X y e hi)) H
theorem z8:SlR X z7:=by
 intro pins s c H x v b R p hi sl Q I m hs r o h;obtain⟨y,rfl,e,q⟩:=h;obtain⟨t,rfl⟩:=m;refine#["str", _,F.slot_str_getitem.lookup,typeIs_str _ _ _,?_];cases r with
 | none=>
   cases o with
   | none=>exact eN (l:=am) (u:=am) (st:=am) hs rfl (ir #[zN (Txt.slice_le y _ _) e,λn k=>#[.str _,H,I.tok _,#[_,rfl],q]])
   | int j a=>exact eN (l:=am) (u:=al (j,a)) (st:=am) hs rfl (ir #[zN (Txt.slice_le y _ _) e,λn k=>#[.str _,H,I.tok _,#[_,rfl],q]])
 | int i J=>
   cases o with
   | none=>exact eN (l:=al (i,J)) (u:=am) (st:=am) hs rfl (ir #[zN (Txt.slice_le y _ _) e,λn k=>#[.str _,H,I.tok _,#[_,rfl],q]])
   | int j a=>exact eN (l:=al (i,J)) (u:=al (j,a)) (st:=am) hs rfl (ir #[zN (Txt.slice_le y _ _) e,λn k=>#[.str _,H,I.tok _,#[_,rfl],q]])
theorem eB:∀{ys:List Str}{e:List ar},Vals (ys.map V.str) e->StrsAre e ys
 | [],_,.nil=>.nil
 | y::r,_,.cons h t=>by obtain⟨L,rfl⟩:=h;exact .cons y L (eB t)
def vI (K:Frg):R2:=λx y H Q=>∃a b t q,x = .ref a/\y = .ref b/\SqL K H a t/\SqL K H b q/\t.length+q.length<=bd/\∀p,H p=am->Q (.ref p) (upd H p (.lst (t++q)))
theorem qV:OpR X (eg .Add) (vI X.K):=by
 intro pins s z H x y v u Q I p f h;obtain⟨l,b,J,L,rfl,rfl,hH,hB,M,q⟩:=h;cases p;cases f;obtain⟨e,r,m,S⟩:=I.list hH;obtain⟨t,a,i,D⟩:=I.list hB;have N:=r.length;have O:=a.length;obtain⟨⟨cls,g,data,sl⟩,n,T,hc,_,hd⟩:=m;obtain⟨⟨G,j,data2,k⟩,B,c,o,_,hd2⟩:=i;dsimp only at hc hd o hd2;subst hc hd o hd2;have R:e.toArray++t.toArray=(e++t).toArray:=by simp
 have fin:EP X pins z Q (.ref s.heap.objs.size) { s with heap:=s.heap.push { cls:=.type "list", data:=.seq (e.toArray++t.toArray) } }:=by rw[R];exact#[.ref _,_,I.lnew (t':=s.toks) (r.append a) (by rw[yY];omega),rfl,q _ I.fresh]
 exact concat_meets #[_,T,rfl] #[_,c,rfl] noFill_list_add seq_list_add PySem.F.slot_list_add PySem.F.entry_list_add (PySem.F.args_list_add_2 _ _) (list_addW l b e.toArray t.toArray n B g j sl k (by rw[zJ,zJ];omega)) #[T,c,fin]
def vJ (i j:Int):Prop:=0 < j/\j < 2 ^ 64
theorem l0:OpR X (eg .FloorDiv) (rI vJ λi j=>.int (i/j)):=opI λi j _ _ _ _ _ hc q=>by
 have h1:(0:Int) < j:=hc.1;have a:j.natAbs.log2 < 9000:=by
   have h0:j.natAbs≠0:=by omega
   have:j.natAbs < 2 ^ 64:=by have:=hc.2;omega
   exact zP ((Nat.log2_lt h0).mpr this) (by decide)
 exact floordiv_int (by omega) (by rw[b9W i (by omega)];exact q) (.inl (PyProof.noPylong_of_log2 a))
end
end L2
namespace L2
open PySem PySem.Spec PyProof.Rows
def gV:Key->PyData
 | .inl i=>.int i
 | .inr x=>.str x
def LW (K:Frg) (H:Hp) (W:Addr->Prop) (a:Addr) (xs:List V):Prop:=(¬W a/\Rd H a (.lst xs))\/∃(o:dc) (e:Array ar) (n:Nat),K.lookup a=al o/\o.cls = .type "list" /\ o.dict=am/\o.data = .seq e n/\e.size<=bd/\Vals xs e.toList
def TW (K:Frg) (H:Hp) (W:Addr->Prop) (a:Addr) (xs:List V):Prop:=(¬W a/\Rd H a (.tup xs))\/∃(o:dc) (e:Array ar) (n:Nat),K.lookup a=al o/\o.cls = .type "tuple" /\ o.data = .seq e n/\e.size<=bd/\Vals xs e.toList
theorem LW.sq {K:Frg}(h:LW K H W a xs):SqL K H a xs:=h.elim (λz=>.inl z.2) .inr
theorem TW.sq {K:Frg}(h:TW K H W a xs):SqT K H a xs:=h.elim (λz=>.inl z.2) .inr
mutual
def DV (K:Frg) (H:Hp) (W:Addr->Prop):PyData->V->Prop
 | .none,v=>v = .non
 | .bool b,v=>v = .bl b
 | .int i,v=>v = .int i
 | .str x,v=>v = .str x
 | .list ds,v=>∃a n,v = .ref a/\LW K H W a n/\DVs K H W ds n
 | .tuple ds,v=>∃a n,v = .ref a/\TW K H W a n/\DVs K H W ds n
 | .dict kvs,v=>∃a m,v = .ref a/\¬W a/\Rd H a (.dK m)/\DKV K H W kvs m
def DVs (K:Frg) (H:Hp) (W:Addr->Prop):List PyData->List V->Prop
 | [],n=>n=[]
 | d::ds,n=>∃v r,n=v::r/\DV K H W d v/\DVs K H W ds r
def DKV (K:Frg) (H:Hp) (W:Addr->Prop):List (PyData×PyData)->List (Key×V)->Prop
 | [],n=>n=[]
 | (k,d)::ds,n=>∃J v r,n=(J,v)::r/\k=gV J/\DV K H W d v/\DKV K H W ds r
end
structure Grow (K:Frg) (W W':Addr->Prop) (H H':Hp):Prop where
 keep:∀b o,H b=al o->¬W b->H' b=al o\/∃ks ob,o = .dK ks/\H' b=al (.frz ob o)
 new:∀b,W' b->W b\/H b=am
theorem Grow.refl {K:Frg}:Grow K W W H H:=#[λ_ _ h _=>.inl h,λ_ h=>.inl h]
section
variable {K:Frg}{W W' W2:Addr->Prop}{H H' H2:Hp}
theorem Rd.grow (g:Grow K W W' H H') (nw:¬W a) (h:Rd H a o):Rd H' a o:=by
 rcases h with h | ⟨r,h⟩
 . rcases g.keep _ _ h nw with e | ⟨v,N,_,e⟩
   . exact .inl e
   . exact .inr #[N,e]
 . rcases g.keep _ _ h nw with e | ⟨v,N,e,_⟩
   . exact .inr #[r,e]
   . cases e
theorem Grow.kept (g:Grow K W W' H H') (h:H a=al o) (nw:¬W a) (n:∀ks,o≠.dK ks):H' a=al o:=(g.keep a o h nw).elim id (by rintro⟨ks,_,e,_⟩;exact absurd e (n ks))
theorem Rd.ne_none (h:Rd H a o):H a≠none:=by rcases h with h | ⟨r,h⟩ <;> rw[h] <;> simp
theorem Rd.nw (g:Grow K W W' H H') (nw:¬W a) (h:Rd H a o):¬W' a:=λw=>by
 rcases g.new a w with z | z;. exact nw z
 . exact Rd.ne_none h z
theorem LW.grow (g:Grow K W W' H H') (h:LW K H W a xs):LW K H' W' a xs:=h.elim (λz=>.inl #[z.2.nw g z.1,z.2.grow g z.1]) .inr
theorem TW.grow (g:Grow K W W' H H') (h:TW K H W a xs):TW K H' W' a xs:=h.elim (λz=>.inl #[z.2.nw g z.1,z.2.grow g z.1]) .inr
mutual
theorem DV.grow (g:Grow K W W' H H'):∀{d:PyData}{v:V},DV K H W d v->DV K H' W' d v
 | .none,v,h=>by unfold DV at h ⊢;exact h
 | .bool b,v,h=>by unfold DV at h ⊢;exact h
 | .int i,v,h=>by unfold DV at h ⊢;exact h
 | .str x,v,h=>by unfold DV at h ⊢;exact h
 | .list ds,v,h=>by unfold DV at h ⊢;obtain⟨a,n,e,hs,hd⟩:=h;exact#[a,n,e,hs.grow g,DVs.grow g hd]
 | .tuple ds,v,h=>by unfold DV at h ⊢;obtain⟨a,n,e,hs,hd⟩:=h;exact#[a,n,e,hs.grow g,DVs.grow g hd]
 | .dict kvs,v,h=>by unfold DV at h ⊢;obtain⟨a,n,e,nw,hs,hd⟩:=h;exact#[a,n,e,hs.nw g nw,hs.grow g nw,DKV.grow g hd]
theorem DVs.grow (g:Grow K W W' H H'):∀{ds:List PyData}{vs:List V},DVs K H W ds vs->DVs K H' W' ds vs
 | [],vs,h=>by unfold DVs at h ⊢;exact h
 | d::ds,vs,h=>by unfold DVs at h ⊢;obtain⟨v,r,e,h1,a⟩:=h;exact#[v,r,e,DV.grow g h1,DVs.grow g a]
theorem DKV.grow (g:Grow K W W' H H'):∀{ds:List (PyData×PyData)}{vs:List (Key×V)},DKV K H W ds vs->DKV K H' W' ds vs
 | [],vs,h=>by unfold DKV at h ⊢;exact h
 | (k,d)::ds,vs,h=>by unfold DKV at h ⊢;obtain⟨J,v,r,e,f,h1,a⟩:=h;exact#[J,v,r,e,f,DV.grow g h1,DKV.grow g a]
end
theorem Grow.trans (a:Grow K W W' H H') (b:Grow K W' W2 H' H2):Grow K W W2 H H2:=by
 refine#[λx o h nw=>?_,λx w=>?_]
 . have m:¬W' x:=λw=>by
     rcases a.new x w with z | z;. exact nw z
     . rw[h] at z;cases z
   rcases a.keep x o h nw with e | ⟨v,N,c,f⟩
   . exact b.keep x o e m
   . exact .inr #[v,N,c,b.kept f m λ_ z=>nomatch z]
 . rcases b.new x w with z | z1;. exact a.new x z
   . by_cases hx:W x;. exact .inl hx
     . refine .inr ?_;cases e:H x with
       | none=>rfl
       | some o=> rcases a.keep x o e hx with q | ⟨_,_,_,q⟩ <;> (rw[q] at z1;cases z1)
theorem DVs.length:∀{ds:List PyData}{vs:List V},DVs K H W ds vs->vs.length=ds.length
 | [],vs,h=>by unfold DVs at h;subst h;rfl
 | d::ds,vs,h=>by unfold DVs at h;obtain⟨v,r,e,h1,a⟩:=h;subst e;simp[DVs.length a]
theorem DVs.get:∀{ds:List PyData}{vs:List V}{i:Nat}{v:V},DVs K H W ds vs->vs[i]?=al v->∃d,ds[i]?=al d/\DV K H W d v
 | [],vs,i,v,h,e=>by unfold DVs at h;subst h;simp at e
 | d::ds,vs,i,v,h,e=>by
   unfold DVs at h;obtain⟨u,r,e',h1,a⟩:=h;subst e';cases i with
   | zero=>simp at e;subst e;exact#[d,rfl,h1]
   | succ i=>simpa using DVs.get a (by simpa using e)
theorem DVs.get':∀{ds:List PyData}{vs:List V}{i:Nat}{d:PyData},DVs K H W ds vs->ds[i]?=al d->∃v,vs[i]?=al v/\DV K H W d v
 | [],vs,i,v,h,e=>by simp at e
 | d::ds,vs,i,v,h,e=>by
   unfold DVs at h;obtain⟨u,r,e',h1,a⟩:=h;subst e';cases i with
   | zero=>simp at e;subst e;exact#[u,rfl,h1]
   | succ i=>simpa using DVs.get' a (by simpa using e)
theorem DVs.nil:DVs K H W [] []:=by unfold DVs;rfl
theorem DVs.cons {d:PyData}{v:V}{ds:List PyData}{vs:List V}(h:DV K H W d v) (t:DVs K H W ds vs):DVs K H W (d::ds) (v::vs):=by unfold DVs;exact#[v,vs,rfl,h,t]
theorem DVs.append:∀{ds z:List PyData}{vs e:List V},DVs K H W ds vs->DVs K H W z e->DVs K H W (ds++z) (vs++e)
 | [],z,vs,e,h,t=>by unfold DVs at h;subst h;exact t
 | d::ds,z,vs,e,h,t=>by unfold DVs at h;obtain⟨u,r,e',h1,a⟩:=h;subst e';exact DVs.cons h1 (DVs.append a t)
theorem DVs.set:∀{ds:List PyData}{vs:List V}{d:PyData}{v:V}(i:Nat),DVs K H W ds vs->DV K H W d v->DVs K H W (ds.set i d) (vs.set i v)
 | [],vs,d,v,i,h,t=>by unfold DVs at h;subst h;exact DVs.nil
 | e::ds,vs,d,v,i,h,t=>by
   unfold DVs at h;obtain⟨u,r,e',h1,a⟩:=h;subst e';cases i with
   | zero=>exact DVs.cons t a
   | succ i=>exact DVs.cons h1 (DVs.set i a t)
theorem DVs.drop:∀{ds:List PyData}{vs:List V}(i:Nat),DVs K H W ds vs->DVs K H W (ds.drop i) (vs.drop i)
 | ds,vs,0,h=>h
 | [],vs,i+1,h=>by unfold DVs at h;subst h;exact DVs.nil
 | e::ds,vs,i+1,h=>by unfold DVs at h;obtain⟨u,r,e',h1,a⟩:=h;subst e';exact DVs.drop i a
theorem DVs.take:∀{ds:List PyData}{vs:List V}(i:Nat),DVs K H W ds vs->DVs K H W (ds.take i) (vs.take i)
 | ds,vs,0,h=>DVs.nil
 | [],vs,i+1,h=>by unfold DVs at h;subst h;exact DVs.nil
 | e::ds,vs,i+1,h=>by unfold DVs at h;obtain⟨u,r,e',h1,a⟩:=h;subst e';exact DVs.cons h1 (DVs.take i a)
theorem NW:∀{bs:List Bool}{vs:List V},DVs K H W (bs.map c0W) vs->vs=bs.map V.bl
 | [],vs,h=>by unfold DVs at h;exact h
 | b::bs,vs,h=>by simp only[zI] at h;unfold DVs at h;obtain⟨u,r,e',h1,a⟩:=h;unfold DV at h1;subst e' h1;rw[NW a];rfl
theorem MP:∀{bs:List Str}{vs:List V},DVs K H W (bs.map a0W) vs->vs=bs.map V.str
 | [],vs,h=>by unfold DVs at h;exact h
 | b::bs,vs,h=>by simp only[zI] at h;unfold DVs at h;obtain⟨u,r,e',h1,a⟩:=h;unfold DV at h1;subst e' h1;rw[MP a];rfl
end
section
variable {X:Cx}{pins:List (Addr×dc)}{σ:St}{H:Hp}{s:ba}{W:Addr->Prop}
mutual
theorem DV.reads (I:Inv X pins σ H s):∀{d:PyData}{v:V}{u:ar},d.canLay0=ap->DV X.K H W d v->RelV v u->∃as,PySem.Reads s.heap u d as
 | .none,v,u,c,h,r=>by unfold DV at h;subst h;cases r;exact#[_,.none]
 | .bool b,v,u,c,h,r=>by unfold DV at h;subst h;cases r;exact#[_,.bool b]
 | .int i,v,u,c,h,r=>by unfold DV at h;subst h;obtain⟨t,rfl⟩:=r;exact#[_,.int i t]
 | .str x,v,u,c,h,r=>by unfold DV at h;subst h;obtain⟨t,rfl⟩:=r;exact#[_,.str x t]
 | .list ds,v,u,c,h,r=>by unfold DV at h;obtain⟨a,p,rfl,hs,hd⟩:=h;cases r;obtain⟨m,T,⟨o,n,e,hc,_,g⟩,_⟩:=I.list hs.sq;obtain⟨as,q⟩:=DVs.reads I (by simpa [PyData.canLay0] using c) hd T;exact#[_,.list e hc g (by simpa using q)]
 | .tuple ds,v,u,c,h,r=>by unfold DV at h;obtain⟨a,p,rfl,hs,hd⟩:=h;cases r;obtain⟨m,T,⟨o,e,hc,n,g⟩,_⟩:=I.tuple hs.sq;obtain⟨as,q⟩:=DVs.reads I (by simpa [PyData.canLay0] using c) hd T;exact#[_,.tuple e hc g (by simpa using q)]
 | .dict kvs,v,u,c,h,r=>by simp[PyData.canLay0] at c
theorem DVs.reads (I:Inv X pins σ H s):∀{ds:List PyData}{vs:List V}{e:List ar},b9V ds=ap->DVs X.K H W ds vs->Vals vs e->∃as,PySem.ReadsAll s.heap e ds as
 | [],vs,e,c,h,r=>by unfold DVs at h;subst h;cases r;exact#[_,.nil]
 | d::ds,vs,e,c,h,r=>by
   unfold DVs at h;obtain⟨v,q,rfl,h1,a⟩:=h;cases r with
   | cons t n=> simp[b9V] at c;obtain⟨as,q1⟩:=DV.reads I c.1 h1 t;obtain⟨bs,q2⟩:=DVs.reads I c.2 a n;exact#[_,.cons q1 q2]
end
def gW (K:Frg) (neg:Bool):R2:=λx y H Q=>∃(W:Addr->Prop) (e t:PyData),DV K H W e x/\DV K H W t y/\zH e=ap/\zH t=ap/\Q (.bl (if neg then !a0Z e t else a0Z e t)) H
theorem z9 (hu:X.A.units+64 < ev):OpR X (bx .Eq) (gW X.K bj):=by intro pins s σ H x y v u Q I i r h;obtain⟨W,m,p,h1,a,e,t,q⟩:=h;obtain⟨as,n⟩:=h1.reads I (zG e) i;obtain⟨bs,o⟩:=a.reads I (zG t) r;exact PySem.SeqAt.compareEq_shaped n o e t hu #[.bl _,H,I,rfl,q]
theorem zE (hu:X.A.units+64 < ev):OpR X (bx .NotEq) (gW X.K ap):=by intro pins s σ H x y v u Q I i r h;obtain⟨W,m,p,h1,a,e,t,q⟩:=h;obtain⟨as,n⟩:=h1.reads I (zG e) i;obtain⟨bs,o⟩:=a.reads I (zG t) r;exact PySem.SeqAt.compareNe_shaped n o e t hu #[.bl _,H,I,rfl,q]
end
end L2
namespace DL
open PySem PySem.Spec L2
abbrev St:=L2.St
inductive MO where
 | l (ds:List PyData)
 | d (kvs:List (PyData×PyData))
 | t (kvs:List (List Key×PyData))
 | x (C:Addr) (fs:List (Str×PyData))
 | r (as:List Addr)
abbrev Own:=Addr->Option MO
def Own.W (M:Own):Addr->Prop:=λa=>M a≠am
def Own.put (M:Own) (a:Addr) (o:MO):Own:=λb=>if b=a then al o else M b
def Own.del (M:Own) (a:Addr):Own:=λb=>if b=a then am else M b
def Own.Sub (M N:Own):Prop:=∀a o,M a=al o->N a=al o
theorem zU {M:Own}:M.put a o a=al o:=by unfold Own.put;rw[if_pos rfl]
theorem yH {M:Own}(h:b≠a):M.put a o b=M b:=by unfold Own.put;rw[if_neg h]
theorem yI {M:Own}:(M.put a o).put a r=M.put a r:=by funext b;unfold Own.put;by_cases h:b=a <;> simp[h]
theorem Own.put_comm {M:Own}(h:a≠b):(M.put a o).put b r=(M.put b r).put a o:=by
 funext c;unfold Own.put;by_cases h1:c=b;. subst h1;simp[a8Q h]
 . simp[h1]
theorem yG {M:Own}(h:M a=am):(M.put a o).del a=M:=by
 funext b;unfold Own.put Own.del;by_cases e:b=a;. subst e;simp[h]
 . simp[e]
theorem Own.put_self {M:Own}(h:M a=al o):M.put a o=M:=by
 funext b;unfold Own.put;by_cases e:b=a;. subst e;simp[h]
 . simp[e]
theorem Own.del_put_ne {M:Own}(h:a≠b):(M.put a o).del b=(M.del b).put a o:=by
 funext c;unfold Own.put Own.del;by_cases h1:c=b;. subst h1;simp[a8Q h]
 . simp[h1]
theorem zT (M:Own):M.Sub M:=λ_ _ h=>h
theorem Own.Sub.put {M:Own}(h:M.Sub N) (n:M a=am):M.Sub (N.put a o):=λb x e=>by rw[yH (by rintro rfl;rw[n] at e;cases e)];exact h b x e
inductive DS where
 | d (x:PyData)
 | loc (a:Addr)
 | ty (n:String)
 | tl (ds:List PyData) (a:Addr)
def SI (K:Frg) (H:Hp) (M:Own):DS->V->Prop
 | .d x,v=>DV K H M.W x v
 | .loc a,v=>v = .ref a
 | .ty n,v=>v = .ty n
 | .tl ds a,v=>∃b e,v = .ref b/\TW K H M.W b (e++[.ref a])/\DVs K H M.W ds e
def SIs (K:Frg) (H:Hp) (M:Own):List DS->List V->Prop
 | [],n=>n=[]
 | d::ds,n=>∃v r,n=v::r/\SI K H M d v/\SIs K H M ds r
def XI (K:Frg) (H:Hp) (W:Addr->Prop):Option Addr->List (Str×PyData)->Prop
 | none,[]=>True
 | some d,[(n,x)]=>∃v,¬W d/\H d=al (.xd [(n,v)])/\DV K H W x v
 | _,_=>False
theorem XI.grow (g:Grow K W U H H') (h:XI K H W e fs):XI K H' U e fs:=by
 unfold XI at h ⊢;split at h;. trivial
 . obtain⟨v,nw,a,b⟩:=h;exact#[v,λz=>(g.new _ z).elim nw λq=>by(rw[a] at q;cases q),g.kept a nw (λ_ z=>nomatch z),b.grow g]
 . exact h.elim
def exK (a C:Addr) (g:Option Addr):HO:=.ext λh=>∃o n,h.get? a=al o/\o.cls = .ref C/\o.dict=g/\o.data = .fields n
def DTV (K:Frg) (H:Hp) (W:Addr->Prop) (kvs:List (List Key×PyData)) (ks:List (List Key×V)):Prop:=ks.map (·.1)=kvs.map (·.1)/\DVs K H W (kvs.map (·.2)) (ks.map (·.2))
theorem DTV.grow (g:Grow K W U H H') (h:DTV K H W kvs ks):DTV K H' U kvs ks:=#[h.1,h.2.grow g]
structure RefL (K:Frg) (H:Hp) (W:Addr->Prop) (as:List Addr) (vs:List V):Prop where
 eq:vs=as.map V.ref
theorem RefL.grow (h:RefL K H W as vs) (_:Grow K W U H H'):RefL K H' U as vs:=#[h.eq]
def OA1 (K:Frg) (H:Hp) (M:Own) (a:Addr):MO->Prop
 | .r as=>∃n,H a=al (.lst n)/\RefL K H M.W as n
 | .x C fs=>∃g,H a=al (exK a C g)/\XI K H M.W g fs
 | .l ds=>∃n,H a=al (.lst n)/\DVs K H M.W ds n
 | .d kvs=>∃v,H a=al (.dK v)/\DKV K H M.W kvs v
 | .t kvs=>∃v,H a=al (.dT v)/\DTV K H M.W kvs v
def OA (K:Frg) (H:Hp) (M:Own):Prop:=∀a o,M a=al o->OA1 K H M a o
structure Step (K:Frg) (M M':Own) (H H':Hp):Prop where
 grow:Grow K M.W M'.W H H'
structure Rel (K:Frg) (M:Own) (ρ:List (Option DS)) (σ:St) (H:Hp):Prop where
 own:OA K H M
 len:ρ.length=σ.length
 slot:∀(i:Nat) x,ρ[i]?=al (al x)->∃v,σ[i]?=al (al v)/\SI K H M x v
section
variable {K:Frg}{M M' M2:Own}{H H' H2:Hp}{ρ:List (Option DS)}{σ:St}
theorem Step.refl:Step K M M H H:=#[Grow.refl]
theorem Step.trans (a:Step K M M' H H') (b:Step K M' M2 H' H2):Step K M M2 H H2:=#[a.grow.trans b.grow]
theorem SI.step (st:Step K M M' H H'):∀{x:DS}{v:V},SI K H M x v->SI K H' M' x v
 | .d _,_,h=>DV.grow st.grow h
 | .loc _,_,h=>h
 | .ty _,_,h=>h
 | .tl _ _,_,#[b,n,e,h1,a]=>#[b,n,e,h1.grow st.grow,a.grow st.grow]
theorem Rel.step (R:Rel K M ρ σ H) (u:OA K H' M') (st:Step K M M' H H'):Rel K M' ρ σ H':=#[u,R.len,λi x e=>let #[v,h1,a]:=R.slot i x e;#[v,h1,a.step st]]
theorem Rel.set (R:Rel K M ρ σ H) (h:SI K H M x v) (i:Nat):Rel K M (ρ.set i (al x)) (σ.set i (al v)) H:=by
 refine#[R.own,by rw[List.length_set,List.length_set];exact R.len,λj y e=>?_];rw[List.getElem?_set] at e ⊢;by_cases z:i=j
 . rw[if_pos z] at e ⊢;subst z;by_cases m:i < ρ.length;. rw[if_pos m] at e;cases e;rw[if_pos (by rw[<-R.len];exact m)];exact#[v,rfl,h]
   . rw[if_neg m] at e;cases e
 . rw[if_neg z] at e ⊢;exact R.slot j y e
theorem OA.none (u:OA K H M) (h:H p=b7Q):M p=b7Q:=by
 cases e:M p with
 | none=>rfl
 | some o=> have:=u p o e;cases o <;> (obtain⟨n,q,_⟩:=this;rw[h] at q;cases q)
theorem AZ (W:Addr->Prop) (h:H p=b7Q):Grow K W W H (upd H p o):=#[λb u e _=>.inl (by rw[AH (B1 e h)];exact e),λ_ w=>.inl w]
theorem OA.grow (u:OA K H M) (g:Grow K M.W M.W H H') (hk:∀a o,M a=al o->H' a=H a):OA K H' M:=λa o e=>by have q:=u a o e;cases o <;> (obtain⟨n,q1,q2⟩:=q;exact#[n,by rw[hk a _ e];exact q1,q2.grow g])
theorem OA.new (u:OA K H M) (h:H p=b7Q):OA K (upd H p o) M:=u.grow (AZ _ h) λa x e=>by rw[AH (by rintro rfl;rw[u.none h] at e;cases e)]
theorem K6 (t:OA K H M) (h:H p=b7Q) (hd:DVs K H M.W ds vs) :
   OA K (upd H p (.lst vs)) (M.put p (.l ds))/\Step K M (M.put p (.l ds)) H (upd H p (.lst vs)):=by
 have L:=t.none h;have g:Grow K M.W (M.put p (.l ds)).W H (upd H p (.lst vs)):=#[λb u e _=>.inl (by rw[AH (B1 e h)];exact e),λb w=>by
   by_cases hb:b=p;. subst hb;exact .inr h
   . left;unfold Own.W at w ⊢;rw[yH hb] at w;exact w]
 refine#[λa o e=>?_,#[g]]
 . by_cases N:a=p;. subst N;rw[zU] at e;cases e;exact#[vs,AD,hd.grow g]
   . rw[yH N] at e;have q:=t a o e;cases o <;> (obtain⟨vs,q1,q2⟩:=q;exact#[vs,by rw[AH N];exact q1,q2.grow g])
theorem DY (t:OA K H M) (h:M p=al o) (hd:DVs K H M.W z O) :
   OA K (upd H p (.lst O)) (M.put p (.l z))/\Step K M (M.put p (.l z)) H (upd H p (.lst O)):=by
 have R:∀b,(M.put p (.l z)).W b->M.W b:=λb w=>by
   unfold Own.W at w ⊢;by_cases hb:b=p;. subst hb;rw[h];simp
   . rw[yH hb] at w;exact w
 have g:Grow K M.W (M.put p (.l z)).W H (upd H p (.lst O)):=#[λb u e nw=>.inl (by
   rw[AH (by rintro rfl;exact nw (by unfold Own.W;rw[h];simp))];exact e),λb w=>.inl (R b w)]
 refine#[λa o e=>?_,#[g]]
 . by_cases N:a=p;. subst N;rw[zU] at e;cases e;exact#[O,AD,hd.grow g]
   . rw[yH N] at e;have q:=t a o e;cases o <;> (obtain⟨n,q1,q2⟩:=q;exact#[n,by rw[AH N];exact q1,q2.grow g])
theorem B2 (hs:M'.Sub M):Grow K M.W M'.W H H:=#[λ_ _ e _=>.inl e,λb w=>.inl (by
 unfold Own.W at w ⊢;cases e:M' b with
 | none=>exact absurd e w
 | some o=>rw[hs b o e];simp)]
theorem OA.sub (u:OA K H M) (hs:M'.Sub M):OA K H M':=λa o e=>by have q:=u a o (hs a o e);cases o <;> (obtain⟨n,q1,q2⟩:=q;exact#[n,q1,q2.grow (B2 hs)])
theorem SI.sub (hs:M'.Sub M):∀{x:DS}{v:V},SI K H M x v->SI K H M' x v
 | .d _,_,h=>DV.grow (B2 hs) h
 | .loc _,_,h=>h
 | .ty _,_,h=>h
 | .tl _ _,_,#[b,n,e,h1,a]=>#[b,n,e,h1.grow (B2 hs),a.grow (B2 hs)]
end
def DE (K:Frg) (t:TE) (n:List (Option DS)) (M:Own) (Q:DS->Own->Prop):Prop:=∀(e:St) (H:Hp) (QQ:VK),Rel K M n e H->(∀v H' x i,OA K H' i->SI K H' i x v->Step K M i H H'->Q x i->QQ v H')->t e H QQ
def DT (K:Frg) (t:TT) (n:List (Option DS)) (M:Own) (Q:Bool->Own->Prop):Prop:=∀(e:St) (H:Hp) (QQ:Bool->Hp->Prop),Rel K M n e H->(∀b H' i,OA K H' i->Step K M i H H'->Q b i->QQ b H')->t e H QQ
def DA (K:Frg) (t:TA) (o:List (Option DS)) (M:Own) (Q:List DS->Own->Prop):Prop:=∀(a:St) (H:Hp) (QQ:List V->Hp->Prop),Rel K M o a H->(∀n H' e i,OA K H' i->SIs K H' i e n->Step K M i H H'->Q e i->QQ n H')->t a H QQ
def DP (K:Frg) (t:TO) (n:List (Option DS)) (M:Own) (Q:Option Int->Own->Prop):Prop:=∀(e:St) (H:Hp) (QQ:Option Int->Hp->Prop),Rel K M n e H->(∀b H' i,OA K H' i->Step K M i H H'->Q b i->QQ b H')->t e H QQ
structure EndsD where
 nx:List (Option DS)->Own->Prop
 rt:DS->Own->Prop
 bk:List (Option DS)->Own->Prop:=λ_ _=>False
 ct:List (Option DS)->Own->Prop:=λ_ _=>False
def DSt (K:Frg) (t:TS) (n:List (Option DS)) (M:Own) (D:EndsD):Prop:=∀(e:St) (H:Hp) (E:Ends),Rel K M n e H->(∀Y i S H',Rel K i Y S H'->Step K M i H H'->D.nx Y i->E.nx S H')->(∀v H' x i,OA K H' i->SI K H' i x v->Step K M i H H'->D.rt x i->E.rt v H') ->(∀Y i S H',Rel K i Y S H'->Step K M i H H'->D.bk Y i->E.bk S H')->(∀Y i S H',Rel K i Y S H'->Step K M i H H'->D.ct Y i->E.ct S H')->t E e H
def D1 (K:Frg) (r:V->Hp->VK->Prop) (x:DS) (M:Own) (Q:DS->Own->Prop):Prop:=∀(H:Hp) (v:V) (QQ:VK),OA K H M->SI K H M x v->(∀w H' z i,OA K H' i->SI K H' i z w->Step K M i H H'->Q z i->QQ w H')->r v H QQ
def D2 (K:Frg) (r:R2) (x y:DS) (M:Own) (Q:DS->Own->Prop):Prop:=∀(H:Hp) (v u:V) (QQ:VK),OA K H M->SI K H M x v->SI K H M y u->(∀w H' z i,OA K H' i->SI K H' i z w->Step K M i H H'->Q z i->QQ w H')->r v u H QQ
def DR (K:Frg) (r:List V->Hp->VK->Prop) (xs:List DS) (M:Own) (Q:DS->Own->Prop):Prop:=∀(H:Hp) (n:List V) (QQ:VK),OA K H M->SIs K H M xs n->(∀w H' z i,OA K H' i->SI K H' i z w->Step K M i H H'->Q z i->QQ w H')->r n H QQ
def DM (K:Frg) (r:V->List V->Hp->VK->Prop) (x:DS) (xs:List DS) (M:Own) (Q:DS->Own->Prop):Prop:=∀(H:Hp) (v:V) (n:List V) (QQ:VK),OA K H M->SI K H M x v->SIs K H M xs n->(∀w H' z i,OA K H' i->SI K H' i z w->Step K M i H H'->Q z i->QQ w H')->r v n H QQ
def DSl (K:Frg) (r:V->Option Int->Option Int->Hp->VK->Prop) (x:DS) (e hi:Option Int) (M:Own) (Q:DS->Own->Prop):Prop:=∀(H:Hp) (v:V) (QQ:VK),OA K H M->SI K H M x v->(∀w H' z i,OA K H' i->SI K H' i z w->Step K M i H H'->Q z i->QQ w H')->r v e hi H QQ
def DTy (K:Frg) (T:String) (x:DS) (M:Own):Prop:=∀(H:Hp) (v:V),OA K H M->SI K H M x v->tyV K T v H
section
variable {K:Frg}{ρ:List (Option DS)}{M:Own}{Q:DS->Own->Prop}{QB:Bool->Own->Prop}{ta tb tc:TE}{tA qh:TT}{r r':R2}
theorem MQ (h:DE K t ρ M Q) (hq:∀x i,Q x i->f x i):DE K t ρ M f:=λe H QQ R k=>h e H QQ R λv H' x i a b c q=>k v H' x i a b c (hq x i q)
theorem zK (e:ρ[i]?=al (al x)) (h:Q x M):DE K (pQ i) ρ M Q:=λt H QQ R k=>by obtain⟨v,h1,a⟩:=R.slot i x e;exact#[v,h1,k v H x M R.own a Step.refl h]
theorem zO (h:Q (.d (.int i)) M):DE K (tC (.int i)) ρ M Q:=λe H QQ R k=>k _ H (.d (.int i)) M R.own (by unfold SI DV;rfl) Step.refl h
theorem A1d (h:Q (.d (.bool i)) M):DE K (tC (.bl i)) ρ M Q:=λe H QQ R k=>k _ H (.d (.bool i)) M R.own (by unfold SI DV;rfl) Step.refl h
theorem zS (h:Q (.d (.str i)) M):DE K (tC (.str i)) ρ M Q:=λe H QQ R k=>k _ H (.d (.str i)) M R.own (by unfold SI DV;rfl) Step.refl h
theorem A0A (h:Q (.d .none) M):DE K (tC .non) ρ M Q:=λe H QQ R k=>k _ H (.d .none) M R.own (by unfold SI DV;rfl) Step.refl h
theorem A1e (h:Q (.ty n) M):DE K (tC (.ty n)) ρ M Q:=λe H QQ R k=>k _ H (.ty n) M R.own rfl Step.refl h
theorem A1f (h:DE K ta ρ M λx M1=>DE K tb ρ M1 λy M2=>D2 K r x y M2 Q):DE K (tOp r ta tb) ρ M Q:=λt H QQ R k=>
 h t H _ R λv n x M1 m c e h1=>h1 t n _ (R.step m e) λu g y M2 p f i o=>o g v u QQ p (c.step i) f λw Z z a b j T q=>k w Z z a b j ((e.trans i).trans T) q
theorem A1g {r:V->Hp->VK->Prop}(h:DE K ta ρ M λx M1=>D1 K r x M1 Q):DE K (tUn r ta) ρ M Q:=λi H QQ R k=>
 h i H _ R λv e x M1 t a y h1=>h1 e v QQ t a λw Z z u n p o q=>k w Z z u n p (y.trans o) q
theorem l3 (h:DE K ta ρ M λx M1=>DE K tb ρ M1 λy M2=>D2 K r x y M2 λz e=>∃c,z = .d (.bool c)/\if c=ap then DE K tc ρ e (λw o=>D2 K r' y w o Q) else Q (.d (.bool bj)) e) :
   DE K (aW r r' ta tb tc) ρ M Q:=λa H QQ R k=>
 h a H _ R λv f x M1 I L t h1=>h1 a f _ (R.step I t) λu g y M2 S p i N=>N g v u _ S (L.step i) p λw Z z e m b n q=>by
   obtain⟨c,rfl,q⟩:=q;unfold SI DV at b;refine#[c,b,?_];cases c with
   | false=> rw[if_neg nft] at q ⊢;exact k _ Z _ e m (by unfold SI DV;rfl) ((t.trans i).trans n) q
   | true=> rw[if_pos rfl] at q ⊢;exact q a Z _ (R.step m ((t.trans i).trans n)) λw4 j z4 o D U X O=>O j u w4 QQ D (p.step (n.trans X)) U λw5 T z5 B G Y t5 J=>k w5 T z5 B G Y ((((t.trans i).trans n).trans X).trans t5) J
theorem qW (h:DE K ta ρ M λx M1=>∃c,x = .d (.bool c)/\QB c M1):DT K (kE ta) ρ M QB:=λa H QQ R k=>
 h a H _ R λv t x M1 n e y h1=>by obtain⟨c,rfl,q⟩:=h1;unfold SI DV at e;exact#[c,e,k c t M1 n y q]
theorem A2b (h:DE K ta ρ M λx M1=>∃c,x = .d (.bool c)/\QB c M1):DT K (L2.tB ta) ρ M QB:=λa H QQ R k=>
 h a H _ R λv t x M1 n e y h1=>by obtain⟨c,rfl,q⟩:=h1;unfold SI DV at e;exact#[c,e,k c t M1 n y q]
theorem A0B (h:DT K tA ρ M λc M1=>if c=ap then DT K qh ρ M1 QB else QB bj M1):DT K (A1E tA qh) ρ M QB:=λn H QQ R k=>
 h n H _ R λc e M1 t y h1=>by
   cases c with
   | false=>rw[if_neg nft] at h1 ⊢;exact k _ e M1 t y h1
   | true=>rw[if_pos rfl] at h1 ⊢;exact h1 n e QQ (R.step t y) λb g M2 a i q=>k b g M2 a (y.trans i) q
theorem A1h (h:DT K tA ρ M λc M1=>if c=ap then QB ap M1 else DT K qh ρ M1 QB):DT K (tOr tA qh) ρ M QB:=λn H QQ R k=>
 h n H _ R λc e M1 t y h1=>by
   cases c with
   | true=>rw[if_pos rfl] at h1 ⊢;exact k _ e M1 t y h1
   | false=>rw[if_neg nft] at h1 ⊢;exact h1 n e QQ (R.step t y) λb g M2 a i q=>k b g M2 a (y.trans i) q
theorem A0C (h:DT K tA ρ M λc M1=>QB (!c) M1):DT K (A1F tA) ρ M QB:=λn H QQ R k=>h n H _ R λc e M1 t y h1=>k _ e M1 t y h1
theorem A0D (h:QB ap M):DT K qR ρ M QB:=λe H QQ R k=>k ap H M R.own Step.refl h
theorem A0E (h:DE K ta ρ M λx M1=>∃c,x = .d (.bool c)/\if c=ap then DE K tb ρ M1 Q else Q (.d (.bool bj)) M1):DE K (uY ta tb) ρ M Q:=λa H QQ R k=>
 h a H _ R λv e x M1 t n y h1=>by
   obtain⟨c,rfl,q⟩:=h1;unfold SI DV at n;refine#[c,n,?_];cases c with
   | false=>rw[if_neg nft] at q ⊢;exact k _ e _ M1 t (by unfold SI DV;rfl) y q
   | true=>rw[if_pos rfl] at q ⊢;exact q a e QQ (R.step t y) λw g z M2 o i m q=>k w g z M2 o i (y.trans m) q
theorem A1i (h:DE K ta ρ M λx M1=>∃c,x = .d (.bool c)/\if c=ap then Q (.d (.bool ap)) M1 else DE K tb ρ M1 Q):DE K (A1G ta tb) ρ M Q:=λa H QQ R k=>
 h a H _ R λv e x M1 t n y h1=>by
   obtain⟨c,rfl,q⟩:=h1;unfold SI DV at n;refine#[c,n,?_];cases c with
   | true=>rw[if_pos rfl] at q ⊢;exact k _ e _ M1 t (by unfold SI DV;rfl) y q
   | false=>rw[if_neg nft] at q ⊢;exact q a e QQ (R.step t y) λw g z M2 o i m q=>k w g z M2 o i (y.trans m) q
theorem A0F (h:DE K ta ρ M λx M1=>∃c,x = .d (.bool c)/\Q (.d (.bool (!c))) M1):DE K (uZ ta) ρ M Q:=λa H QQ R k=>
 h a H _ R λv t x M1 n e y h1=>by obtain⟨c,rfl,q⟩:=h1;unfold SI DV at e;exact#[c,e,k _ t _ M1 n (by unfold SI DV;rfl) y q]
theorem A1j (h:DT K tA ρ M λc M1=>if c=ap then DE K ta ρ M1 Q else DE K tb ρ M1 Q):DE K (tIf tA ta tb) ρ M Q:=λn H QQ R k=>
 h n H _ R λc a M1 o y h1=>by
   cases c with
   | true=>rw[if_pos rfl] at h1 ⊢;exact h1 n a QQ (R.step o y) λw g z M2 e t i q=>k w g z M2 e t (y.trans i) q
   | false=>rw[if_neg nft] at h1 ⊢;exact h1 n a QQ (R.step o y) λw g z M2 e t i q=>k w g z M2 e t (y.trans i) q
variable {QL:List DS->Own->Prop}{tl:TA}
theorem A0G (h:QL [] M):DA K A1T ρ M QL:=λe H QQ R k=>k [] H [] M R.own rfl Step.refl h
theorem qX (h:DE K ta ρ M λx M1=>DA K tl ρ M1 λxs M2=>QL (x::xs) M2):DA K (vB ta tl) ρ M QL:=λe H QQ R k=>
 h e H _ R λv t x M1 a m y h1=>h1 e t _ (R.step a y) λn g xs M2 o p i q=>k (v::n) g (x::xs) M2 o #[v,n,rfl,m.step i,p] (y.trans i) q
def SX:List DS->Option (List PyData)
 | []=>al []
 | .d x::r=>match SX r with
   | some l=>al (x::l)
   | none=>am
 | .loc _::_=>am
 | .ty _::_=>am
 | .tl _ _::_=>am
theorem SIs.data :∀{xs:List DS}{ds:List PyData}{vs:List V},SX xs=al ds->SIs K H M xs vs->DVs K H M.W ds vs
 | [],ds,vs,e,h=>by cases e;cases h;exact DVs.nil
 | .d x::r,ds,vs,e,#[v,q,f,h1,a]=>by
   cases t:SX r with
   | none=>rw[SX,t] at e;cases e
   | some z=> rw[SX,t] at e;cases e;subst f;exact DVs.cons h1 (SIs.data t a)
 | .loc _::_,ds,vs,e,_=>by cases e
 | .ty _::_,ds,vs,e,_=>by cases e
 | .tl _ _::_,ds,vs,e,_=>by cases e
theorem SIs.length :∀{xs:List DS}{vs:List V},SIs K H M xs vs->vs.length=xs.length
 | [],vs,h=>by cases h;rfl
 | _::r,vs,#[v,q,f,h1,a]=>by subst f;simp[SIs.length a]
theorem A0H (h:DA K tl ρ M λxs M1=>∃ds,SX xs=al ds/\ds.length<=bd/\Q (.d (.tuple ds)) M1):DE K (A1U tl) ρ M Q:=λm H QQ R k=>
 h m H _ R λa t xs M1 n i y h1=>by obtain⟨ds,e,o,q⟩:=h1;have hd:=i.data e;refine#[by rw[hd.length];exact o,λp hp=>?_];have g:Grow K M1.W M1.W t (upd t p (.tup a)):=AZ _ hp;refine k _ _ (.d (.tuple ds)) M1 (n.new hp) ?_ (y.trans #[g]) q;unfold SI DV;exact#[p,a,rfl,.inl #[λw=>w (n.none hp),.inl AD],hd.grow g]
theorem D7 (h:DA K tl ρ M λxs M1=>∃ds,SX xs=al ds/\ds.length<=bd/\Q (.d (.list ds)) M1):DE K (qD tl) ρ M Q:=λm H QQ R k=>
 h m H _ R λa t xs M1 n i y h1=>by obtain⟨ds,e,o,q⟩:=h1;have hd:=i.data e;refine#[by rw[hd.length];exact o,λp hp=>?_];have g:Grow K M1.W M1.W t (upd t p (.lst a)):=AZ _ hp;refine k _ _ (.d (.list ds)) M1 (n.new hp) ?_ (y.trans #[g]) q;unfold SI DV;exact#[p,a,rfl,.inl #[λw=>w (n.none hp),.inl AD],hd.grow g]
theorem EY (h:DA K tl ρ M λxs M1=>∃ds,SX xs=al ds/\ds.length<=bd/\∀p,M1 p=am->Q (.loc p) (M1.put p (.l ds))):DE K (qD tl) ρ M Q:=λi H QQ R k=>
 h i H _ R λc m xs M1 t o y h1=>by obtain⟨ds,e,n,q⟩:=h1;have hd:=o.data e;refine#[by rw[hd.length];exact n,λp hp=>?_];obtain⟨a,b⟩:=K6 t hp hd;exact k _ _ (.loc p) _ a rfl (y.trans b) (q p (t.none hp))
theorem A1k {r:List V->Hp->VK->Prop}(h:DA K tl ρ M λxs M1=>DR K r xs M1 Q):DE K (tCB r tl) ρ M Q:=λp H QQ R k=>
 h p H _ R λm e xs M1 t a y h1=>h1 e m QQ t a λw g z M2 n o i q=>k w g z M2 n o (y.trans i) q
structure FSp where
 pre:List DS->Own->Prop
 post:List DS->Own->DS->Own->Prop
def spD (K:Frg) (n:Nat) (S:FSp):Sp:=λe H Q _=>∃t M,t.length=n/\OA K H M/\SIs K H M t e/\S.pre t M/\∀x i v H',S.post t M x i->Step K M i H H'->OA K H' i->SI K H' i x v->Q v H'
theorem qY :∀vs H Q E,spD K n S vs H Q E->vs.length=n:=by rintro vs H Q E ⟨t,M,m,_,h,_⟩;rw[h.length,m]
theorem qZ (h:DA K tl ρ M λxs M1=>xs.length=n/\S.pre xs M1/\∀x i,S.post xs M1 x i->Q x i):DE K (dU (spD K n S) [] E tl) ρ M Q:=λf H QQ R k=>
 h f H _ R λc e xs M1 o m y t=>by obtain⟨h0,h1,a⟩:=t;show spD K n S (c++[]) e QQ E;rw[a6Q];exact#[xs,M1,h0,o,m,h1,λx i v H' p b u I=>k v H' x i u I (y.trans b) (a x i p)]
theorem G2 {r:V->List V->Hp->VK->Prop}(h:DE K ta ρ M λx M1=>DTy K T x M1/\DA K tl ρ M1 λxs M2=>DM K r x xs M2 Q):DE K (tBM K T r ta tl) ρ M Q:=λa H QQ R k=>
 h a H _ R (by rintro v e x M1 t n y ⟨h0,h1⟩;exact#[h0 e v t n,h1 a e _ (R.step t y) λj g xs M2 m b i o=>o g v j QQ m (n.step i) b λw Z z u p c f q=>k w Z z u p c ((y.trans i).trans f) q])
theorem r6 (h:QP am M):DP K dX ρ M QP:=λe H QQ R k=>k _ H M R.own Step.refl h
theorem r8 (h:DE K ta ρ M λx M1=>∃i,x = .d (.int i)/\QP (al i) M1):DP K (vC ta) ρ M QP:=λa H QQ R k=>
 h a H _ R λv t x M1 n e y h1=>by obtain⟨i,rfl,q⟩:=h1;unfold SI DV at e;exact#[i,e,k _ t M1 n y q]
theorem A1l {r:V->Option Int->Option Int->Hp->VK->Prop}{tl:TO}(h:DE K ta ρ M λx M1=>DP K tl ρ M1 λt M2=>DP K a ρ M2 λhi u=>DSl K r x t hi u Q):DE K (tSl r ta tl a) ρ M Q:=λe H QQ R k=>
 h e H _ R λv o x M1 c N y h1=>h1 e o _ (R.step c y) λt g M2 f i b=>b e g _ (R.step f (y.trans i)) λhi Z u j n G=>G Z v QQ j (N.step (i.trans n)) λw m z p T L X q=>k w m z p T L (((y.trans i).trans n).trans X) q
theorem VP (h:D.nx ρ M):DSt K v0 ρ M D:=λe H E R I _ _ _=>I ρ M e H R Step.refl h
theorem r9 (h:D.ct ρ M):DSt K v6 ρ M D:=λe H E R _ _ _ k=>k ρ M e H R Step.refl h
theorem l4 (h:DE K ta ρ M D.rt):DSt K (A1I ta) ρ M D:=λn H E R _ e _ _=>h n H E.rt R λv H' x i a b c q=>e v H' x i a b c q
theorem eF (h:DE K ta ρ M λ_ M1=>D.nx ρ M1):DSt K (v7 ta) ρ M D:=λe H E R I _ _ _=>h e H _ R λv H' x i a b c q=>I ρ i e H' (R.step a c) c q
theorem l5 (h:DE K ta ρ M λx M1=>D.nx (ρ.set i (al x)) M1):DSt K (pW ta (MJ i)) ρ M D:=λn H E R I _ _ _=>
 h n H _ R λv H' x e a b c q=>I _ e _ H' ((R.step a c).set b i) c q
theorem eG (h:DE K ta ρ M λx M1=>D.nx (ρ.set i (al x)) M1):DSt K (λD e H=>ta e H λv H'=>D.nx (e.set i (al v)) H') ρ M D:=λe H E R I _ _ _=>
 h e H _ R λv H' x n a b c q=>I _ n _ H' ((R.step a c).set b i) c q
theorem l6 (h:DSt K t ρ M { D with nx:=λn M1=>DSt K u n M1 D }):DSt K (pR t u) ρ M D:=λv H E R I o i m=>by refine h v H { E with nx:=λS H'=>u E S H' } R (λn M1 k p j y q=>?_) o i m;exact q k p E j (λa b c d e f g=>I a b c d e (y.trans f) g) (λa b c d e f g q=>o a b c d e f (y.trans g) q) (λa b c d e f g=>i a b c d e (y.trans f) g) (λa b c d e f g=>m a b c d e (y.trans f) g)
theorem A1m (h:DT K tA ρ M λc M1=>if c=ap then DSt K t ρ M1 D else DSt K u ρ M1 D):DSt K (A1J tA t u) ρ M D:=λn H E R I i m p=>
 h n H _ R λc o M1 k y h1=>by
   have G:∀{w:TS},DSt K w ρ M1 D->w E n o:=λq=>q n o E (R.step k y) (λa b c d e f g=>I a b c d e (y.trans f) g) (λa b c d e f g q=>i a b c d e f (y.trans g) q) (λa b c d e f g=>m a b c d e (y.trans f) g) (λa b c d e f g=>p a b c d e (y.trans f) g);cases c with
   | true=>rw[if_pos rfl] at h1 ⊢;exact G h1
   | false=>rw[if_neg nft] at h1 ⊢;exact G h1
theorem rA (h:DSt K t ρ M D) (h1:∀Y i,D.nx Y i->n.nx Y i) (o:∀x i,D.rt x i->n.rt x i) (G:∀Y i,D.bk Y i->n.bk Y i) (z:∀Y i,D.ct Y i->n.ct Y i):DSt K t ρ M n:=
 λk H E R I m p j=>h k H E R (λa b c d e f g=>I a b c d e f (h1 _ _ g)) (λa b c d e f g q=>m a b c d e f g (o _ _ q)) (λa b c d e f g=>p a b c d e f (G _ _ g)) (λa b c d e f g=>j a b c d e f (z _ _ g))
theorem K7 (e:ρ[i]?=al (al (.loc a))) (m:M a=al (.l ds)) (h:DSt K t (ρ.set i (al (.d (.list ds)))) (M.del a) D):DSt K t ρ M D:=λp H E R I O S B=>by
 have hs:(M.del a).Sub M:=λb o q=>by
   unfold Own.del at q;by_cases hb:b=a;. rw[if_pos hb] at q;cases q
   . rw[if_neg hb] at q;exact q
 have n:Step K M (M.del a) H H:=#[B2 hs]
 obtain⟨v,k,T⟩:=R.slot i _ e;obtain⟨G,q1,q2⟩:=R.own a _ m;have y:Rel K (M.del a) ρ p H:=R.step (R.own.sub hs) n;have R2:=y.set (x:=.d (.list ds)) (v:=v) (by
   unfold SI DV;refine#[a,G,T,.inl #[λw=>w (by unfold Own.del;rw[if_pos rfl]),.inl q1],q2.grow (B2 hs)]) i;have N:p.set i (al v)=p:=by
   apply b5Z;intro j;rw[List.getElem?_set];by_cases z:i=j
   . subst z;rw[if_pos rfl,k];split;. rfl
     . rename_i J;rw[a2X (by lia)] at k;cases k
   . rw[if_neg z]
 rw[N] at R2;exact h p H E R2 (λa b c d e f g=>I a b c d e (n.trans f) g) (λa b c d e f g q=>O a b c d e f (n.trans g) q) (λa b c d e f g=>S a b c d e (n.trans f) g) (λa b c d e f g=>B a b c d e (n.trans f) g)
end
end DL
namespace DL
open PySem PySem.Spec L2
section
theorem BC (h:SI K H M (.d (.int i)) v):v = .int i:=by unfold SI DV at h;exact h
theorem vK (h:SI K H M (.d (.bool i)) v):v = .bl i:=by unfold SI DV at h;exact h
theorem BA (h:SI K H M (.d (.str i)) v):v = .str i:=by unfold SI DV at h;exact h
theorem l7 (h:SI K H M (.d .none) v):v = .non:=by unfold SI DV at h;exact h
theorem D0 :SI K H M (.d (.int i)) (.int i):=by unfold SI DV;rfl
theorem AF :SI K H M (.d (.bool i)) (.bl i):=by unfold SI DV;rfl
theorem GS :SI K H M (.d (.str i)) (.str i):=by unfold SI DV;rfl
theorem A1n {g:Int->Int->Int}(q:Q (.d (.int (g i j))) M):D2 K (rI0 λi j=>.int (g i j)) (.d (.int i)) (.d (.int j)) M Q:=λH v u QQ e t n k=>by rw[BC t,BC n];exact#[i,j,rfl,rfl,k _ H _ M e D0 Step.refl q]
theorem A1o {g:Int->Int->Bool}(q:Q (.d (.bool (g i j))) M):D2 K (rI0 λi j=>.bl (g i j)) (.d (.int i)) (.d (.int j)) M Q:=λH v u QQ e t n k=>by rw[BC t,BC n];exact#[i,j,rfl,rfl,k _ H _ M e AF Step.refl q]
theorem vL {g:Int->Int->Int}(c:C i j) (q:Q (.d (.int (g i j))) M):D2 K (rI C λi j=>.int (g i j)) (.d (.int i)) (.d (.int j)) M Q:=λH v u QQ e t n k=>by rw[BC t,BC n];exact#[i,j,rfl,rfl,c,k _ H _ M e D0 Step.refl q]
theorem A2c {g:Int->Int}(q:Q (.d (.int (g i))) M):D1 K (rU λi=>.int (g i)) (.d (.int i)) M Q:=λH v QQ u e k=>by rw[BC e];exact#[i,rfl,k _ H _ M u D0 Step.refl q]
theorem rB (e:i.length+j.length<=bd) (q:Q (.d (.str (i++j))) M) :
   D2 K (λx y H Q=>∃i j,x = .str i/\y = .str j/\i.length+j.length<=bd/\Q (.str (i++j)) H) (.d (.str i)) (.d (.str j)) M Q:=λH v u QQ t n a k=>by rw[BA n,BA a];exact#[i,j,rfl,rfl,e,k _ H _ M t GS Step.refl q]
theorem A0I (q:Q (.d (.bool (!(a3Z j i 0 j.length 1).isEmpty))) M) :
   D2 K (λx y H Q=>∃i j,x = .str i/\y = .str j/\Q (.bl (!(a3Z j i 0 j.length 1).isEmpty)) H) (.d (.str i)) (.d (.str j)) M Q:=λH v u QQ e t n k=>by rw[BA t,BA n];exact#[i,j,rfl,rfl,k _ H _ M e AF Step.refl q]
theorem AX {neg:Bool}(N:zH a=ap) (hb:zH b=ap) (q:Q (.d (.bool (if neg then !a0Z a b else a0Z a b))) M):D2 K (gW K neg) (.d a) (.d b) M Q:=λH v u QQ e t n k=>
 #[M.W,a,b,t,n,N,hb,k _ H _ M e AF Step.refl q]
theorem Y3 (x:Str) (ys:List Str):inV (.str x) (ys.map V.str)=decide (x∈ys):=by
 unfold inV;rw[a2Z,b6W,decide_eq_true_iff];constructor
 . rintro⟨y,hy,e⟩;obtain⟨z,t,rfl⟩:=zL.mp hy;have:z=x:=by simpa [eqV] using e
   subst this;exact t
 . intro h;exact#[.str x,zL.mpr #[x,h,rfl],by simp[eqV]]
theorem A0J {neg:Bool}{ys:List Str}(q:Q (.d (.bool (if neg then !decide (x∈ys) else decide (x∈ys)))) M):D2 K (rIn K neg) (.d (.str x)) (.d (.list (ys.map .str))) M Q:=λH v u QQ n o t k=>by rw[BA o];unfold SI DV at t;obtain⟨a,i,rfl,m,hd⟩:=t;have e:=MP hd;subst e;exact#[a,_,rfl,.inl m.sq,rfl,by simp[KZ],k _ H (.d (.bool (if neg then !decide (x∈ys) else decide (x∈ys)))) M n (by rw[Y3];exact AF) Step.refl q]
theorem bE (h:DVs K H W ds vs) (e:atI ds i=al d):∃v,atI vs i=al v/\DV K H W d v:=by
 unfold atI at e ⊢;rw[h.length];cases hx:ixN ds.length i with
 | none=>rw[hx] at e;cases e
 | some j=>rw[hx] at e;simpa using h.get' (by simpa using e)
theorem A0K (e:atI ds i=al d) (q:Q (.d d) M):D2 K (qI K) (.d (.list ds)) (.d (.int i)) M Q:=λH v u QQ o t r k=>by rw[BC r];unfold SI DV at t;obtain⟨a,p,rfl,m,hd⟩:=t;obtain⟨w,h1,n⟩:=bE hd e;exact#[a,p,i,w,rfl,rfl,m.sq,h1,k _ H (.d d) M o n Step.refl q]
theorem A0L (e:atI ds i=al d) (q:Q (.d d) M):D2 K (xW K) (.d (.tuple ds)) (.d (.int i)) M Q:=λH v u QQ o t r k=>by rw[BC r];unfold SI DV at t;obtain⟨a,p,rfl,m,hd⟩:=t;obtain⟨w,h1,n⟩:=bE hd e;exact#[a,p,i,w,rfl,rfl,m.sq,h1,k _ H (.d d) M o n Step.refl q]
theorem A0M (m:M a=al (.l ds)) (e:atI ds i=al d) (q:Q (.d d) M):D2 K (qI K) (.loc a) (.d (.int i)) M Q:=λH v u QQ t n r k=>by rw[BC r];unfold SI at n;subst n;obtain⟨p,h0,hd⟩:=t a _ m;obtain⟨w,h1,o⟩:=bE hd e;exact#[a,p,i,w,rfl,rfl,SqL.of h0,h1,k _ H (.d d) M t o Step.refl q]
theorem A0N (t:z.length<=bd) (e:atI z.cps.toList i=al c) (q:Q (.d (.str #[(z3 [c])])) M):D2 K y3 (.d (.str z)) (.d (.int i)) M Q:=λH v u QQ n a o k=>by rw[BC o,BA a];exact#[z,i,c,rfl,rfl,t,e,k _ H _ M n GS Step.refl q]
theorem DZ {t:R2}(h:D2 K r x y M Q):D2 K (λx y H Q=>r x y H Q\/t x y H Q) x y M Q:=λH v u QQ e n a k=>.inl (h H v u QQ e n a k)
theorem GK {r:R2}(h:D2 K e x y M Q):D2 K (λx y H Q=>r x y H Q\/e x y H Q) x y M Q:=λH v u QQ t n a k=>.inr (h H v u QQ t n a k)
theorem A0O (r:as.length+bs.length<=bd) (q:Q (.d (.list (as++bs))) M):D2 K (λx y H Q=>∃a b xs ys,x = .ref a/\y = .ref b/\SqL K H a xs/\SqL K H b ys/\xs.length+ys.length<=bd/\∀p,H p=am->Q (.ref p) (upd H p (.lst (xs++ys)))) (.d (.list as)) (.d (.list bs)) M Q:=λH v u QQ e t n k=>by unfold SI DV at t n;obtain⟨a,i,rfl,m,hd⟩:=t;obtain⟨b,o,rfl,c,hd2⟩:=n;refine#[a,b,i,o,rfl,rfl,m.sq,c.sq,by rw[hd.length,hd2.length];exact r,λp hp=>?_];have g:Grow K M.W M.W H (upd H p (.lst (i++o))):=AZ _ hp;refine k _ _ (.d (.list (as++bs))) M (e.new hp) ?_ #[g] q;unfold SI DV;exact#[p,_,rfl,.inl #[λw=>w (e.none hp),.inl AD],(hd.append hd2).grow g]
theorem rC (e:z.length<=bd) (q:Q (.d (.int z.length)) M):DR K (λxs H Q=>∃x n,xs=[x]/\kH K x H n/\Q (.int (n:Nat)) H) [.d (.str z)] M Q:=λH t QQ u s k=>by obtain⟨v,r,rfl,h1,a⟩:=s;cases a;rw[BA h1];exact#[_,_,rfl,#[e,rfl],k _ H _ M u D0 Step.refl q]
theorem rD (q:Q (.d (.int ds.length)) M):DR K (λxs H Q=>∃x n,xs=[x]/\kH K x H n/\Q (.int (n:Nat)) H) [.d (.list ds)] M Q:=λH e QQ u s k=>by obtain⟨v,r,rfl,h1,t⟩:=s;cases t;unfold SI DV at h1;obtain⟨a,e,rfl,m,hd⟩:=h1;exact#[_,_,rfl,.inl #[e,m.sq,rfl],k _ H (.d (.int ds.length)) M u (by rw[hd.length];exact D0) Step.refl q]
theorem rE (q:Q (.d (.int ds.length)) M):DR K (λxs H Q=>∃x n,xs=[x]/\kH K x H n/\Q (.int (n:Nat)) H) [.d (.tuple ds)] M Q:=λH e QQ u s k=>by obtain⟨v,r,rfl,h1,t⟩:=s;cases t;unfold SI DV at h1;obtain⟨a,e,rfl,m,hd⟩:=h1;exact#[_,_,rfl,.inr #[e,m.sq,rfl],k _ H (.d (.int ds.length)) M u (by rw[hd.length];exact D0) Step.refl q]
theorem A0P {bs:List Bool}(q:Q (.d (.bool (bs.all id))) M):DR K (λxs H Q=>∃(p:Addr) (bs:List Bool),xs=[.ref p]/\SqL K H p (bs.map V.bl)/\Q (.bl (bs.all id)) H) [.d (.list (bs.map .bool))] M Q:=λH n QQ u s k=>by obtain⟨v,r,rfl,h1,e⟩:=s;cases e;unfold SI DV at h1;obtain⟨a,n,rfl,m,hd⟩:=h1;rw[NW hd] at m;exact#[a,bs,rfl,m.sq,k _ H _ M u AF Step.refl q]
theorem A0Q {bs:List Bool}(q:Q (.d (.bool (bs.any id))) M):DR K (λxs H Q=>∃(p:Addr) (bs:List Bool),xs=[.ref p]/\SqL K H p (bs.map V.bl)/\Q (.bl (bs.any id)) H) [.d (.list (bs.map .bool))] M Q:=λH n QQ u s k=>by obtain⟨v,r,rfl,h1,e⟩:=s;cases e;unfold SI DV at h1;obtain⟨a,n,rfl,m,hd⟩:=h1;rw[NW hd] at m;exact#[a,bs,rfl,m.sq,k _ H _ M u AF Step.refl q]
theorem rF :DTy K "str" (.d (.str z)) M:=λH v _ s=>by rw[BA s];exact rfl
theorem CG (m:M a=al (.l ds)):DTy K "list" (.loc a) M:=λH v u s=>by unfold SI at s;subst s;obtain⟨n,h0,hd⟩:=u a _ m;exact .inl #[rfl,n,SqL.of h0]
theorem BP (m:M a=al (.l ds)) (o:ds.length < bd) (q:Q (.d .none) (M.put a (.l (ds++[d])))):DM K VE (.loc a) [.d d] M Q:=λH v b QQ e t i k=>by obtain⟨u,r,rfl,h1,n⟩:=i;cases n;unfold SI at t;subst t;obtain⟨p,h0,hd⟩:=e a _ m;obtain⟨x,y⟩:=DY e m (hd.append (DVs.cons h1 DVs.nil));exact#[a,p,u,rfl,rfl,h0,by rw[hd.length];exact o,k _ _ (.d .none) _ x (by unfold SI DV;rfl) y q]
theorem rG (t:z.length<=bd) (q:Q (.d (.str (a1X z e hi))) M):DSl K z7 (.d (.str z)) e hi M Q:=λH v QQ u n k=>by rw[BA n];exact#[z,rfl,t,k _ H _ M u GS Step.refl q]
def ED (xs:List PyData) (e hi:Option Int):List PyData:=(xs.drop (HT.sIx xs.length 0 e)).take (HT.sIx xs.length xs.length hi - HT.sIx xs.length 0 e)
theorem l8 (q:Q (.d (.list (ED ds e hi))) M):DSl K (yC K) (.d (.list ds)) e hi M Q:=λH v QQ u t k=>by
 unfold SI DV at t;obtain⟨a,n,rfl,m,hd⟩:=t;refine#[a,n,rfl,m.sq,λp hp=>?_];have g:Grow K M.W M.W H (upd H p (.lst (LN n e hi))):=AZ _ hp;have key:DVs K H M.W (ED ds e hi) (LN n e hi):=by unfold ED LN;rw[hd.length];exact(hd.drop _).take _
 refine k _ _ (.d (.list (ED ds e hi))) M (u.new hp) ?_ #[g] q;unfold SI DV;exact#[p,_,rfl,.inl #[λw=>w (u.none hp),.inl AD],key.grow g]
end
end DL
namespace DL
open PySem PySem.Spec L2
structure WD (K:Frg) (J:It) (ds:List PyData) (H1:Hp) (M1:Own):Prop where
 go:∀(i:Nat) H' M',i < ds.length->OA K H' M'->Step K M1 M' H1 H'->J.go i H'
 stop:∀H' M',OA K H' M'->Step K M1 M' H1 H'->J.stop ds.length H'
 yld:∀(i:Nat) H' M' x H2,OA K H' M'->Step K M1 M' H1 H'->i < ds.length->J.yld i H' x H2->OA K H2 M'/\Step K M' M' H' H2/\∃d,ds[i]?=al d/\DV K H2 M'.W d x
def DI (K:Frg) (o:TI) (n:List (Option DS)) (M:Own) (Q:List PyData->Own->Prop):Prop:=∀(t:St) (H:Hp) (R:It->Hp->Prop),Rel K M n t H->(∀J ds e M1,OA K e M1->Step K M M1 H e->WD K J ds e M1->Q ds M1->R J e)->o t H R
def DG (K:Frg) (g:TG) (d:PyData) (n:List (Option DS)) (M:Own) (P:List (Option DS)->Own->Prop):Prop:=∀(e:St) (H:Hp) (v:V) (QQ:St->Hp->Prop),Rel K M n e H->DV K H M.W d v->(∀Y i S H',Rel K i Y S H'->Step K M i H H'->P Y i->QQ S H')->g v e H QQ
def HW (g:TG) (T:List Nat):Prop:=∀(v:V) (e:St) (H:Hp) (QQ:St->Hp->Prop),g v e H (λn t=>(∀i,i∉T->n[i]?=e[i]?)->QQ n t)->g v e H QQ
section
variable {K:Frg}{ρ:List (Option DS)}{M:Own}{D:EndsD}{tl:TE}{tb:TS}{i:Nat}{QI:List PyData->Own->Prop}{g:TG}{wi:TI}
def CL (z:Str):List PyData:=z.cps.toList.map λc=>.str #[(z3 [c])]
def C7 (e:Int) (n:Nat):List PyData:=(a1K n).map λ(i:Nat)=>.int (e+i)
theorem G3 (h:DA K a ρ M λxs M1=>∃j:Int,xs=[.d (.int j)]/\-(2 ^ 62)<=j/\j < 2 ^ 62/\QI (C7 0 j.toNat) M1):DI K (v8 a) ρ M QI:=λN H R S k=>
 h N H _ S λI o xs M1 c f T p=>by
   obtain⟨j,e,h1,b,q⟩:=p;subst e;obtain⟨v,r,rfl,G,z⟩:=f;cases z;rw[show v = .int j by unfold SI DV at G;exact G];have m:(C7 0 j.toNat).length=j.toNat:=by simp[C7]
   refine#[j,rfl,h1,b,k _ (C7 0 j.toNat) o M1 c T #[λi H' t hi u n=>?_,λH' t u n=>?_,λi H' t x O u n hi y=>?_] q];. show i < j.toNat;rw[<-m];exact hi
   . show j.toNat<=(C7 0 j.toNat).length;rw[m];exact zR _
   . obtain⟨rfl,rfl⟩:=y;refine#[u,Step.refl,.int (0+i),?_,by unfold DV;rfl];unfold C7;rw[zF];rw[m] at hi;simp[hi]
theorem rH (h:P (ρ.set i (al (.d d))) M):DG K (MJ i) d ρ M P:=λe H v QQ R m k=>k _ M _ H (R.set (x:=.d d) m i) Step.refl h
theorem AV (i:Nat):HW (MJ i) [i]:=λv t H QQ h=>h λj e=>by rw[b2J (by rintro rfl;exact e (by simp))]
abbrev EndsD.turn (D:EndsD) (P:List (Option DS)->Own->Prop):EndsD:={ nx:=P,ct:=P,bk:=D.nx,rt:=D.rt }
theorem ES (h:DI K wi ρ M λds M1=>∃P:Nat->List (Option DS)->Own->Prop,P 0 ρ M1/\(∀k d Y t,ds[k]?=al d->P k Y t->DG K g d Y t λv M2=>DSt K tb v M2 (D.turn (P (k+1))))/\∀Y t,P ds.length Y t->D.nx Y t) :
   DSt K (A1O wi g tb) ρ M D:=λσ H E R U k2 k3 k4=>
 h σ H _ R λJ ds L M1 o1 O B X=>by
   obtain⟨P,p0,pt,pe⟩:=X;refine#[λi m S H'=>m=ds.length - i/\i<=ds.length/\∃Y t,Rel K t Y S H'/\Step K M1 t L H'/\P i Y t,#[_,rfl,xT _,ρ,M1,R.step o1 O,Step.refl,p0],?_];rintro i m S H' ⟨rfl,hi,Y,t,o,u,p⟩;by_cases I:i < ds.length;. refine .inr #[B.go i H' t I o.own u,λz n=>∃v M2,Rel K M2 v z n/\Step K M1 M2 L n/\P (i+1) v M2,(by rintro z n ⟨v,M2,a,b,c⟩;exact#[ds.length - (i+1),by omega,rfl,I,v,M2,a,b,c]),λx n y=>?_];obtain⟨Ji,Q,d,e1,e2⟩:=B.yld i H' t x n o.own u I y;refine pt i d Y t e1 p S n x _ (o.step Ji Q) e2 λρ3 M3 G Z R3 ee b3=>?_;have N:=(u.trans Q).trans ee;exact b3 G Z _ R3 (λr m s j f T q=>#[r,m,f,N.trans T,q]) (λw j x m a b c q=>k2 w j x m a b (O.trans (N.trans c)) q) (λr m s j f T q=>U r m s j f (O.trans (N.trans T)) q) (λr m s j f T q=>#[r,m,f,N.trans T,q])
   . have e:i=ds.length:=by omega
     subst e;exact .inl #[B.stop H' t o.own u,U Y t S H' o (O.trans u) (pe Y t p)]
def CA (b:List (Option Nat)) (ρ:List (Option DS)):List (Option DS):=b.map λo=>o.bind λj=>(ρ[j]?).join
theorem D3 {b:List (Option Nat)}{e:Type}{ρ:List (Option e)}{i:Nat}{x:e}(h:(b.map λo=>o.bind λj=>(ρ[j]?).join)[i]?=al (al x)):∃j,b[i]?=al (al j)/\ρ[j]?=al (al x):=by
 rw[zF] at h;cases B:b[i]? with
 | none=>rw[B] at h;cases h
 | some o=>
   rw[B] at h;cases o with
   | none=>cases h
   | some j=>
     refine#[j,rfl,?_];have f:((ρ[j]?).join)=al x:=Option.some.inj h;cases hs:ρ[j]? with
     | none=>rw[hs] at f;cases f
     | some q=>rw[hs] at f;cases q with
       | none=>cases f
       | some u=>cases f;rfl
theorem Rel.capt (R:Rel K M ρ t H):Rel K M (CA b ρ) (L2.capt b t) H:=by refine#[R.own,by unfold CA L2.capt;rw[zX,zX],λi x e=>?_];obtain⟨j,c,f⟩:=D3 e;obtain⟨v,h1,a⟩:=R.slot j x f;refine#[v,?_,a];unfold L2.capt;rw[zF,c];simp[h1]
theorem VQ (ho:HW g T) (hT:∀i∈T,∀j,f[i]?≠al (al j)) (h:DI K wi ρ M λds M1=>ds.length < bd/\∀D,M1 D=am->∃P:Nat->List PyData->Own->Prop,P 0 [] (M1.put D (.l []))/\(∀k acc t,P k acc t->t D=al (.l acc)/\acc.length<=k) /\(∀k d acc t,ds[k]?=al d->P k acc t->DG K g d (CA f ρ) t λS M2=>DT K tt S M2 λc L=>if c=ap then DE K te S L λy M4=>∃r,y = .d r/\M4 D=al (.l acc)/\P (k+1) (acc++[r]) (M4.put D (.l (acc++[r]))) else P (k+1) acc L) /\∀acc t,P ds.length acc t->Q (.d (.list acc)) (t.del D)) :
   DE K (L1 f wi g tt te) ρ M Q:=λσ H QQ R k=>
 h σ H _ R λJ ds H1 M1 X t1 wd Jj=>by
   obtain⟨hsz,hq⟩:=Jj;intro A hA;obtain⟨P,p0,pa,pt,pe⟩:=hq A (X.none hA);obtain⟨oA,sA⟩:=K6 X hA (DVs.nil (K:=K) (H:=H1) (W:=M1.W));refine#[λi m ys n=>m=ds.length - i/\i<=ds.length/\n A=al (.lst ys)/\∃acc t,OA K n t/\Step K M1 t H1 n/\P i acc t,#[_,rfl,xT _,AD,[],_,oA,sA,p0],?_];rintro i m ys n ⟨rfl,hi,om,acc,t,O,u,p⟩;refine#[om,?_];have U:∀{N:Own},(N.del A).Sub N:=λ{N} b o q=>by
     unfold Own.del at q;by_cases hb:b=A;. rw[if_pos hb] at q;cases q
     . rw[if_neg hb] at q;exact q
   by_cases G:i < ds.length
   . refine .inr #[wd.go i n t G O u,λx Z y=>?_];obtain⟨qo,ee,d,e1,e2⟩:=wd.yld i n t x Z O u G y;have Rc:Rel K t (CA f ρ) (L2.capt f σ) Z:=((R.step X t1).step qo (u.trans ee)).capt;refine ho _ _ _ _ (pt i d acc t e1 p (L2.capt f σ) Z x _ Rc e2 λρ3 L B H4 R3 j_ b3 hext=>#[λi' v' gn=>?_,?_]);. obtain⟨j,f1,f2⟩:=D3 gn;rw[hext i' λa=>hT i' a j f1];exact gn
     . refine b3 B H4 _ R3 λc H5 M5 Y eh v=>?_;have sx:=((u.trans ee).trans j_).trans eh;cases c with
       | false=> rw[if_neg nft] at v ⊢;obtain⟨a,_⟩:=pa _ _ _ v;obtain⟨I,q1,q2⟩:=Y A _ a;exact#[I,ds.length - (i+1),by omega,rfl,G,q1,acc,M5,Y,sx,v]
       | true=> rw[if_pos rfl] at v ⊢;refine v B H5 _ (R3.step Y eh) λy H6 z M6 o6 s6 il h6=>?_;obtain⟨r,rfl,a,p'⟩:=h6;obtain⟨I,q1,q2⟩:=o6 A _ a;obtain⟨w1,w2⟩:=DY o6 a (q2.append (DVs.cons s6 DVs.nil));have ac:acc.length<=i:=(pa _ _ _ p).2;exact#[I,q1,by rw[q2.length];omega,ds.length - (i+1),by omega,rfl,G,AD,_,_,w1,(sx.trans il).trans w2,p']
   . have e:i=ds.length:=by omega
     subst e;refine .inl #[wd.stop n t O u,?_];obtain⟨a,_⟩:=pa _ _ _ p;obtain⟨I,q1,q2⟩:=O A _ a;have bi:Step K t (t.del A) n n:=#[B2 U]
     refine k _ n (.d (.list acc)) (t.del A) (O.sub U) ?_ ((t1.trans u).trans bi) (pe acc t p);unfold SI DV;exact#[A,I,rfl,.inl #[λw=>w (by unfold Own.del;rw[if_pos rfl]),.inl q1],q2.grow (B2 U)]
theorem AI (ho:HW g T) (hT:∀i∈T,∀j,r[i]?≠al (al j)) (h:DI K wi ρ M λds M1=>ds.length < bd/\∃(c:PyData->Bool) (f:PyData->PyData),(∀d∈ds,∀e,DG K g d (CA r ρ) e λa M2=>M2=e/\DT K O a M2 λb u=>u=e/\b=c d/\(c d=ap->DE K z a u λy x=>y = .d (f d)/\x=e))/\Q (.d (.list ((ds.filter c).map f))) M1) :
   DE K (L1 r wi g O z) ρ M Q:=by
 refine VQ ho hT λm H R L k=>h m H R L λJ ds I M1 o1 t1 wd q=>k J ds I M1 o1 t1 wd ?_;obtain⟨hsz,c,f,he,q⟩:=q;refine#[hsz,λA hA=>#[λk acc e=>acc=((ds.take k).filter c).map f/\e=M1.put A (.l acc),#[by simp,rfl],λk acc e #[n,t]=>#[by rw[t];exact zU,?_],λk d acc e hd #[n,t]=>?_,λacc e #[n,t]=>?_]];. rw[n,zX];exact zN (yJ _ _) (by rw[a2Q];omega)
 . have hm:d∈ds:=yN hd;intro m H v QQ R dv kk;refine he d hm e m H v QQ R dv λY M2 S H' G st ww7=>kk Y M2 S H' G st λp B QQ2 R2 k2=>?_;obtain⟨eM,q2⟩:=ww7;refine q2 p B QQ2 R2 λb Z u o3 ee U=>k2 b Z u o3 ee ?_;obtain⟨wt,o,q3⟩:=U;have N:(ds.take (k+1)).filter c=(ds.take k).filter c++(if c d then [d] else []):=fx c ds k d hd;cases hb:c d with
   | false=> rw[hb] at o;subst o;refine L2.kW #[?_,by rw[wt,t]];rw[N,hb,n];simp
   | true=>
     rw[hb] at o;subst o;refine L2.gU ?_;refine MQ (q3 hb) λy x #[ey,X]=>#[f d,ey,by rw[X,t];exact zU,?_,by rw[X,t,yI]]
     rw[N,hb,n];simp
 . rw[t,yG hA,n,a1V];exact q
end
def Q7 (N:List Str) (xs:List DS):List (Option DS):=xs.map al++a3J (N.length - xs.length) am
section
theorem SIs.get :∀{xs:List DS}{vs:List V}{i:Nat}{x:DS},SIs K H M xs vs->xs[i]?=al x->∃v,vs[i]?=al v/\SI K H M x v
 | [],_,_,_,_,e=>by simp at e
 | d::ds,vs,i,x,#[v,r,e',h1,a],e=>by
   subst e';cases i with
   | zero=>simp at e;subst e;exact#[v,rfl,h1]
   | succ i=>simpa using SIs.get a (by simpa using e)
theorem gX (u:OA K H M) (h:SIs K H M xs vs):Rel K M (Q7 N xs) (L2.start N vs) H:=by
 have m:=h.length;refine#[u,by unfold Q7 L2.start;simp[m],λi x e=>?_];unfold Q7 at e;by_cases hi:i < xs.length
 . rw[yQ (by simpa using hi),zF] at e;cases q:xs[i]? with
   | none=>rw[q] at e;cases e
   | some y=> rw[q] at e;cases e;obtain⟨v,h1,a⟩:=h.get q;refine#[v,?_,a];unfold L2.start;rw[yQ (by rw[zX,m];exact hi),zF,h1];rfl
 . rw[yP (by simpa using hi),List.getElem?_replicate] at e;split at e <;> cases e
theorem fnD (F:Fun K x qual st f O) (n:FnScope N e (AB st)) (U:∀(cdv:ar) (A:cx) (outer:List Env) (s:ba) (H:Hp) (E:XK),Room k (A.deeper (xL qual (AB st) s.heap.objs.size f cdv)) ->∃t,PSs (XT CX0 P w K mg base N qual (AB st) f cdv A outer s H E).nox (CU st) t/\∀xs M,xs.length=e.length->S.pre xs M->DSt K t (Q7 N xs) M { nx:=λ_ M1=>∃M2:Own,M2.Sub M1/\S.post xs M (.d .none) M2,rt:=λy M1=>∃M2:Own,M2.Sub M1/\S.post xs M y M2 }) :
   FnOk P w K mg base CX0 (k+1) f O e (spD K e.length S):=by
 refine F.ok n qY λcdv A outer s H r Q E hr h=>?_;obtain⟨t,a,hq⟩:=U cdv A outer s H E hr;obtain⟨xs,M,m,u,I,pre,post⟩:=h;refine#[t,a,hq xs M m pre (L2.start N r) H _ (gX u I) ?_ ?_ (λ_ _ _ _ _ _ z=>z.elim) (λ_ _ _ _ _ _ z=>z.elim)];. rintro Y M1 b H' R st ⟨M2,hs,p⟩;exact post (.d .none) M2 .non H' p (st.trans #[B2 hs]) (R.own.sub hs) (by unfold SI DV;rfl)
 . rintro v H' y M1 o i st ⟨M2,hs,p⟩;exact post y M2 v H' p (st.trans #[B2 hs]) (o.sub hs) (i.sub hs)
end
end DL
namespace L2
open PySem PySem.Spec PyProof.Rows
section
variable {X:Cx}{tg:ca}
def Y4 (K:Frg):R2:=λx y H Q=>(rI0 λi j=>.int (i+j)) x y H Q\/((∃i j,x = .str i/\y = .str j/\i.length+j.length<=bd/\Q (.str (i++j)) H)\/vI K x y H Q)
theorem rJ:OpR X (eg .Add) (Y4 X.K):=wZ.or (aX.or qV)
def NX (K:Frg):R2:=λx y H Q=>qI K x y H Q\/(xW K x y H Q\/y3 x y H Q)
theorem A0R:IxR X (NX X.K):=qJ.or (y9.or yB)
def rK (K:Frg):V->Option Int->Option Int->Hp->VK->Prop:=λx e hi H Q=>yC K x e hi H Q\/z7 x e hi H Q
theorem A0S:SlR X (rK X.K):=qK.or z8
def A1p:R2:=λx y H Q=>(rI0 λi j=>.bl (decide (i < j))) x y H Q\/∃i j,x = .str i/\y = .str j/\Q (.bl (decide (i.cps.toList < j.cps.toList))) H
theorem l9:OpR X (bx .Lt) A1p:=A1S.or gI
def lA (K:Frg):R2:=λx y H Q=>(∃i j,x = .str i/\y = .str j/\Q (.bl (!(a3Z j i 0 j.length 1).isEmpty)) H)\/rIn K bj x y H Q
theorem A0T:OpR X (bx .In) (lA X.K):=gJ.or gN
def VR (K:Frg):R2:=λx y H Q=>(∃i j,x = .str i/\y = .str j/\Q (.bl (!(!(a3Z j i 0 j.length 1).isEmpty))) H)\/rIn K ap x y H Q
theorem gY:OpR X (bx .NotIn) (VR X.K):=V9.or VC
def bF (K:Frg) (tl:TE):TI:=λn H R=>tl n H λx e=>(∃a,x = .ref a/\(∃t,SqL K e a t)/\R (Itl K a) e)\/(∃a,x = .ref a/\(∃t,SqT K e a t)/\R (Itt K a) e)\/∃y,x = .str y/\R (Its y) e
theorem A0U (g:PE X l tl):PI X tg l (bF X.K tl):=by
 intro pins s u H R I h;refine thn (g pins s u H _ I h) ?_;rintro v n ⟨x,i,D,m,q1⟩;have r:∀b∈[n.heap.objs.size],LM X pins i b:=λb hb=>by
   have e:b=n.heap.objs.size:=by simpa using hb
   subst e;exact D.fpOk (zR _) (D.hok.fresh (zR _))
 rcases q1 with ⟨a,e,⟨k,hq⟩,q⟩ | ⟨a,e,⟨k,hq⟩,q⟩ | ⟨y,e,q⟩
 . subst e;cases m;obtain⟨f,T,p,j⟩:=D.list hq;refine fk p.isList ?_;exact#[n.heap.objs.size,[n.heap.objs.size],_,_,i,rfl,D.kept (t':=n.toks) λb o e=>zW _ e,gF a _,#[_,yZ _ rfl,rfl,rfl],r,q]
 . subst e;cases m;obtain⟨f,T,p,j⟩:=D.tuple hq;refine gu (show n.heap.IsTuple a f.toArray from p) ?_;exact#[n.heap.objs.size,[n.heap.objs.size],_,_,i,rfl,D.kept (t':=n.toks) λb o e=>zW _ e,aT a _,#[_,yZ _ rfl,rfl,rfl],r,q]
 . subst e;obtain⟨t,rfl⟩:=m;cases N:y.cps.all (· < 128)
   . exact wpAny_pyIter_wide N #[n.heap.objs.size,[n.heap.objs.size],_,_,i,rfl,D.kept (t':=n.toks) λb o e=>zW _ e,
       Y2 n.heap.objs.size "str_iterator" y t (by decide) (λA hA=>Walks.strWide hA _ y t) (λ_ _ _ _ _ c h=>wpAny_pyIter_striter_wide c h),#[_,yZ _ rfl,rfl,rfl],r,q]
   . exact wpAny_pyIter_ascii N #[n.heap.objs.size,[n.heap.objs.size],_,_,i,rfl,D.kept (t':=n.toks) λb o e=>zW _ e,
       Y2 n.heap.objs.size "str_ascii_iterator" y t (by decide) (λA hA=>Walks.strAscii hA _ y t) (λ_ _ _ _ _ c h=>wpAny_pyIter_striter_ascii c h),#[_,yZ _ rfl,rfl,rfl],r,q]
end
def lB:en->Bool | .free=>ap | _=>bj
def lC:en->Bool | .cell=>ap | _=>bj
def eI:en->Bool | .local=>ap | _=>bj
def lD (e:gc) (ON:List Str) (scope:gc) (NC:List Str) (b:List (Option Nat)):Bool:=(match scope.kind with | .function=>ap | _=>bj)&&scope.names.all (λy=>!lC y.2) &&
 scope.names.all (λy=>!eI y.2||(match scope.names.lookup y.1 with | some .local=>ap | _=>bj)) &&
 scope.names.all (λy=>!lB y.2||(match e.names.lookup y.1 with | some .cell=>ap | some .free=>ap | _=>bj)) &&
 b.length==NC.length &&
 (a1K NC.length).all λi=>match b[i]?,NC[i]? with
   | some (al j),al x=>ON[j]?==al x&&(match scope.names.lookup x with | some .free=>ap | _=>bj)&&(match e.names.lookup x with | some .cell=>ap | some .free=>ap | _=>bj)
   | _,_=>ap
theorem CSc.of (h:lD n ON scope NC t=ap) (e:X.env.scope=n) (a:X.N=ON):CSc X scope NC t:=by
 subst e a;unfold lD at h;simp only[a1J,a6J,List.mem_range,beq_iff_eq] at h;obtain⟨⟨⟨⟨⟨h1,o⟩,G⟩,r⟩,p⟩,Z⟩:=h;refine#[?_,λy hy e=>?_,λy hy e=>?_,λy hy e=>?_,p,λi j x c f=>?_];. cases hk:scope.kind <;> rw[hk] at h1 <;> simp at h1 ⊢
 . have:=o y hy;rw[e] at this;simp[lC] at this
 . have:=G y hy;rw[e] at this;simp only[eI,Bool.not_true,c2X] at this;cases m:scope.names.lookup y.1 with
   | none=>rw[m] at this;cases this
   | some k=>rw[m] at this;cases k <;> first | rfl | cases this
 . have:=r y hy;rw[e] at this;simp only[lB,Bool.not_true,c2X] at this;cases m:X.env.scope.names.lookup y.1 with
   | none=>rw[m] at this;cases this
   | some k=>
     rw[m] at this;cases k <;> first
       | exact .inl m
       | exact .inr m
       | cases this
 . have hi:i < NC.length:=(yT.mp c).1;have:=Z i hi;rw[c,f] at this;simp only[a1J,beq_iff_eq] at this;obtain⟨⟨q1,q2⟩,Q⟩:=this;refine#[q1,?_,?_]
   . cases m:scope.names.lookup x with
     | none=>rw[m] at q2;cases q2
     | some k=>rw[m] at q2;cases k <;> first | rfl | cases q2
   . cases m:X.env.scope.names.lookup x with
     | none=>rw[m] at Q;cases Q
     | some k=>
       rw[m] at Q;cases k <;> first
         | exact⟨.inr (.inl m),λz=>by have b:X.env.scope.names.lookup x=al .local:=z;rw[m] at b;cases b⟩
         | exact⟨.inr (.inr m),λz=>by have b:X.env.scope.names.lookup x=al .local:=z;rw[m] at b;cases b⟩
         | cases Q
end L2
namespace DL
open PySem PySem.Spec L2
section
theorem lE (q:Q (.d (.int (i+j))) M):D2 K (Y4 K) (.d (.int i)) (.d (.int j)) M Q:=DZ (A1n q)
theorem lG (e:i.length+j.length<=bd) (q:Q (.d (.str (i++j))) M):D2 K (Y4 K) (.d (.str i)) (.d (.str j)) M Q:=GK (DZ (rB e q))
theorem lH (e:a.length+b.length<=bd) (q:Q (.d (.list (a++b))) M):D2 K (Y4 K) (.d (.list a)) (.d (.list b)) M Q:=GK (GK (A0O e q))
theorem BF (e:atI ds i=al d) (q:Q (.d d) M):D2 K (NX K) (.d (.list ds)) (.d (.int i)) M Q:=DZ (A0K e q)
theorem rL (m:M a=al (.l ds)) (e:atI ds i=al d) (q:Q (.d d) M):D2 K (NX K) (.loc a) (.d (.int i)) M Q:=DZ (A0M m e q)
theorem AE (e:atI ds i=al d) (q:Q (.d d) M):D2 K (NX K) (.d (.tuple ds)) (.d (.int i)) M Q:=GK (DZ (A0L e q))
theorem VS (t:z.length<=bd) (e:atI z.cps.toList i=al c) (q:Q (.d (.str #[(z3 [c])])) M):D2 K (NX K) (.d (.str z)) (.d (.int i)) M Q:=GK (GK (A0N t e q))
theorem lI (t:z.length<=bd) (q:Q (.d (.str (a1X z e hi))) M):DSl K (rK K) (.d (.str z)) e hi M Q:=λH v QQ u n k=>.inr (rG t q H v QQ u n k)
theorem gZ (q:Q (.d (.list (ED ds e hi))) M):DSl K (rK K) (.d (.list ds)) e hi M Q:=λH v QQ u t k=>.inl (l8 q H v QQ u t k)
theorem rM (q:Q (.d (.bool (decide (i < j)))) M):D2 K A1p (.d (.int i)) (.d (.int j)) M Q:=DZ (A1o q)
theorem rN (q:Q (.d (.bool (!(a3Z j i 0 j.length 1).isEmpty))) M):D2 K (lA K) (.d (.str i)) (.d (.str j)) M Q:=DZ (A0I q)
theorem MR {ys:List Str}(q:Q (.d (.bool (decide (x∈ys)))) M):D2 K (lA K) (.d (.str x)) (.d (.list (ys.map .str))) M Q:=GK (A0J (neg:=bj) q)
theorem CC (h:DE K tl ρ M λx M1=>∃ds,x = .d (.list ds)/\QI ds M1):DI K (bF K tl) ρ M QI:=λz H R S k=>
 h z H _ S λv p x M1 g o j b=>by
   obtain⟨ds,e,q⟩:=b;subst e;unfold SI DV at o;obtain⟨a,n,rfl,m,hd⟩:=o;refine .inl #[a,rfl,#[n,m.sq],k _ ds p M1 g j #[λi H' t hi u r=>?_,λH' t u r=>?_,λi H' t x T u r hi y=>?_] q];. exact#[n,n[i]'(by rw[hd.length];exact hi),(m.grow r.grow).sq,by simp[hd.length,hi]]
   . exact#[n,(m.grow r.grow).sq,by rw[hd.length];exact zR _]
   . obtain⟨rfl,y⟩:=y;obtain⟨d,c,f⟩:=hd.get (y n (m.grow r.grow).sq);exact#[u,Step.refl,d,c,f.grow r.grow]
theorem BG (h:DE K tl ρ M λx M1=>∃ds,x = .d (.tuple ds)/\QI ds M1):DI K (bF K tl) ρ M QI:=λj H R S k=>
 h j H _ S λv p x M1 b o g N=>by
   obtain⟨ds,e,q⟩:=N;subst e;unfold SI DV at o;obtain⟨a,n,rfl,m,hd⟩:=o;refine .inr (.inl #[a,rfl,#[n,m.sq],k _ ds p M1 b g #[λi H' t hi u r=>?_,λH' t u r=>?_,λi H' t x z u r hi y=>?_] q]);. exact#[n,n[i]'(by rw[hd.length];exact hi),(m.grow r.grow).sq,by simp[hd.length,hi]]
   . exact#[n,(m.grow r.grow).sq,by rw[hd.length];exact zR _]
   . obtain⟨rfl,y⟩:=y;obtain⟨d,c,f⟩:=hd.get (y n (m.grow r.grow).sq);exact#[u,Step.refl,d,c,f.grow r.grow]
theorem rO (h:DE K tl ρ M λx M1=>∃z,x = .d (.str z)/\QI (CL z) M1):DI K (bF K tl) ρ M QI:=λg H R S k=>
 h g H _ S λv o x M1 b n f a=>by
   obtain⟨z,e,q⟩:=a;subst e;have m:(CL z).length=z.cps.size:=by simp[CL]
   rw[show v = .str z by unfold SI DV at n;exact n];refine .inr (.inr #[z,rfl,k _ (CL z) o M1 b f #[λi H' t hi u r=>?_,λH' t u r=>?_,λi H' t x j u r hi y=>?_] q]);. show i < z.cps.size;rw[<-m];exact hi
   . exact m
   . obtain⟨rfl,c,p,rfl⟩:=y;exact#[u,Step.refl,.str #[(z3 [c])],by unfold CL;rw[zF];simp[p],by unfold DV;rfl]
def tyD:PyData->String
 | .none => "NoneType"
 | .bool _ => "bool"
 | .int _ => "int"
 | .str _ => "str"
 | .list _ => "list"
 | .tuple _ => "tuple"
 | .dict _ => "dict"
end
end DL
namespace L2
open PySem PySem.Spec PyProof.Rows
section
def lJ (K:Frg):List V->Hp->VK->Prop:=λt H Q=>∃(x:V) (T:String) (d:PyData) (W:Addr->Prop) (b:Bool),t=[x,.ty T]/\DV K H W d x/\PySem.W.kitOne K (.type (DL.tyD d)) (.type T)=al b/\Q (.bl b) H
theorem h7:BO X (.builtin "isinstance") (lJ X.K):=by
 intro pins s O H D M Q I r h;obtain⟨x,T,d,W,b,rfl,m,e,q⟩:=h;obtain⟨u,S,rfl,p,g⟩:=vA r;cases g;have fin:∀L,EP X pins O Q (.bool b) { s with toks:=L }:=λL=>#[.bl b,H,I.tok _,rfl,q]
 cases d with
 | none=>unfold DV at m;subst m;exact GQ I p (TyOf.non) e fin
 | bool y=>unfold DV at m;subst m;exact GQ I p (TyOf.bl _) e fin
 | int i=>unfold DV at m;subst m;exact GQ I p (TyOf.int _) e fin
 | str y=>unfold DV at m;subst m;exact GQ I p (TyOf.str _) e fin
 | list ds=> unfold DV at m;obtain⟨a,f,rfl,t,_⟩:=m;cases p;obtain⟨j,N,⟨o,n,h1,c,_,_⟩,_⟩:=I.list t.sq;exact a2V PySem.W.kitx_list I.kIn #[o,h1,c] e (λz=>nomatch z) fin
 | tuple ds=> unfold DV at m;obtain⟨a,f,rfl,t,_⟩:=m;cases p;obtain⟨j,N,⟨o,h1,c,_⟩,_⟩:=I.tuple t.sq;exact a2V PySem.W.kitx_tuple I.kIn #[o,h1,c] e (λz=>nomatch z) fin
 | dict kvs=>
   unfold DV at m;obtain⟨a,f,rfl,_,t,_⟩:=m;rcases t with t | ⟨v,t⟩
   . exact GQ I p (TyOf.dK t) e fin
   . cases p;obtain⟨_,_,R,_,k⟩:=IW I.hok (.inr #[v,t]);exact a2V PySem.W.kitx_dict I.kIn k.typeIs e (λz=>nomatch z) fin
end
end L2
namespace DL
open PySem PySem.Spec L2
section
theorem lK{K:Frg}{M:Own}{Q:DS->Own->Prop} (e:PySem.W.kitOne K (.type (tyD d)) (.type T)=al b) (q:Q (.d (.bool b)) M):DR K (lJ K) [.d d,.ty T] M Q:=λH n QQ u s k=>by obtain⟨v,r,rfl,h1,o,t,rfl,a,G⟩:=s;cases G;rw[show o = .ty T from a];exact#[v,T,d,M.W,b,rfl,h1,e,k _ H _ M u AF Step.refl q]
theorem IY (t:OA K H M) (h:H p=b7Q) (hd:DKV K H M.W kvs ks) :
   OA K (upd H p (.dK ks)) (M.put p (.d kvs))/\Step K M (M.put p (.d kvs)) H (upd H p (.dK ks)):=by
 have L:=t.none h;have g:Grow K M.W (M.put p (.d kvs)).W H (upd H p (.dK ks)):=#[λb u e _=>.inl (by rw[AH (B1 e h)];exact e),λb w=>by
   by_cases hb:b=p;. subst hb;exact .inr h
   . left;unfold Own.W at w ⊢;rw[yH hb] at w;exact w]
 refine#[λa o e=>?_,#[g]];by_cases N:a=p;. subst N;rw[zU] at e;cases e;exact#[ks,AD,hd.grow g]
 . rw[yH N] at e;have q:=t a o e;cases o <;> (obtain⟨n,q1,q2⟩:=q;exact#[n,by rw[AH N];exact q1,q2.grow g])
theorem CY (t:OA K H M) (h:M p=al o) (hd:DKV K H M.W kvs ks) :
   OA K (upd H p (.dK ks)) (M.put p (.d kvs))/\Step K M (M.put p (.d kvs)) H (upd H p (.dK ks)):=by
 have R:∀b,(M.put p (.d kvs)).W b->M.W b:=λb w=>by
   unfold Own.W at w ⊢;by_cases hb:b=p;. subst hb;rw[h];simp
   . rw[yH hb] at w;exact w
 have g:Grow K M.W (M.put p (.d kvs)).W H (upd H p (.dK ks)):=#[λb u e nw=>.inl (by
   rw[AH (by rintro rfl;exact nw (by unfold Own.W;rw[h];simp))];exact e),λb w=>.inl (R b w)]
 refine#[λa o e=>?_,#[g]];by_cases N:a=p;. subst N;rw[zU] at e;cases e;exact#[ks,AD,hd.grow g]
 . rw[yH N] at e;have q:=t a o e;cases o <;> (obtain⟨n,q1,q2⟩:=q;exact#[n,by rw[AH N];exact q1,q2.grow g])
end
structure Has (P:bq) (w:bo) (K:Frg) (mg:Str->Option ar) (base:db) (x:Str) (k:Nat) (ps:List Str) (S:FSp):Prop where
 ex:∃f fd,FnOk P w K mg base CX0 k f fd ps (spD K ps.length S)/\mg x=al (.ref f)/\b2X K (.ref f)=ap/\Binds K fd ps []
theorem lL {X:Cx}{x:Str}{k:Nat}{n:List Str}{S:FSp}{e:ca}{z:List ca}{t:TA}{p pos:fb}(h:Has X.prog X.w X.K X.mg X.base x k n S) (hr:Room k X.A) (hg:Gl X x) (N:PA X (e::z) t) (u:(x==("__debug__":Str))=false:=by decide) (he:starEach (e::z) X.env=(bj,eval e X.env)::starEach z X.env:=by rfl) (Q:(backTo pos (starEach z X.env)).any (·.1)=false:=by rfl) :
   PE X (.Call (.Name x p) (e::z) [] pos) (dU (spD X.K n.length S) [] E0 t):=by obtain⟨f,O,F,j,hk,hb⟩:=h.ex;exact qE F hr hg j hk hb .nil A1c N u he Q
theorem rP {X:Cx}{x z:Str}{pos:fb}(hg:Gl X x) (h:∃t,X.mg x=al (.str z t)) (hd:(x==("__debug__":Str))=false:=by decide):PE X (.Name x pos) (tC (.str z)):=by obtain⟨t,h⟩:=h;exact V4 hg h #[t,rfl] hd
theorem rQ {X:Cx}{x:Str}{z:Int}{pos:fb}(hg:Gl X x) (h:∃t,X.mg x=al (.int z t)) (hd:(x==("__debug__":Str))=false:=by decide):PE X (.Name x pos) (tC (.int z)):=by obtain⟨t,h⟩:=h;exact V4 hg h #[t,rfl] hd
section
variable {X:Cx}{K:Frg}
theorem kIx (h:X.K=K):IxR X (NX K):=h▸A0R
theorem kIn (h:X.K=K):OpR X (bx .In) (lA K):=h▸A0T
theorem A0V (h:X.K=K):OpR X (bx .NotIn) (VR K):=h▸gY
theorem kEq (h:X.K=K) (hu:X.A.units+64 < ev):OpR X (bx .Eq) (gW K bj):=h▸z9 hu
theorem kNe (h:X.K=K) (hu:X.A.units+64 < ev):OpR X (bx .NotEq) (gW K ap):=h▸zE hu
def rR (K:Frg):List V->Hp->VK->Prop:=λt H Q=>∃x n,t=[x]/\kH K x H n/\Q (.int (n:Nat)) H
def vM (K:Frg):List V->Hp->VK->Prop:=λt H Q=>∃(p:Addr) (bs:List Bool),t=[.ref p]/\SqL K H p (bs.map V.bl)/\Q (.bl (bs.all id)) H
def vN (K:Frg):List V->Hp->VK->Prop:=λt H Q=>∃(p:Addr) (bs:List Bool),t=[.ref p]/\SqL K H p (bs.map V.bl)/\Q (.bl (bs.any id)) H
theorem A2d (h:X.K=K):BO X (.builtin "len") (rR K):=h▸kI
theorem A2e (h:X.K=K) (hc:X.calm=ap):BO X (.builtin "all") (vM K):=h▸kY hc
theorem A2f (h:X.K=K) (hc:X.calm=ap):BO X (.builtin "any") (vN K):=h▸kZ hc
theorem A2g (h:X.K=K):BO X (.builtin "isinstance") (lJ K):=h▸h7
theorem A1q {G l:ca}{tl:TE}(h:X.K=K) (m:PE X l tl):PI X G l (bF K tl):=h▸A0U m
theorem A1r {P:bq}{w:bo}{mg:Str->Option ar}{base:db}{x:Str}{k:Nat}{f:List Str}{S:FSp}{e:ca}{z:List ca}{t:TA}{p pos:fb}(hK:X.K=K) (v:X.prog=P) (R:X.w=w) (j:X.mg=mg) (n:X.base=base) (h:Has P w K mg base x k f S) (hr:Room k X.A) (hg:Gl X x) (N:PA X (e::z) t) (u:(x==("__debug__":Str))=false:=by decide) (he:starEach (e::z) X.env=(bj,eval e X.env)::starEach z X.env:=by rfl) (Q:(backTo pos (starEach z X.env)).any (·.1)=false:=by rfl) :
   PE X (.Call (.Name x p) (e::z) [] pos) (dU (spD K f.length S) [] E0 t):=by subst hK v R j n;exact lL h hr hg N u he Q
variable {o e:ca}{es:List ca}{to:TE}{t:TA}{name:Str}{apos aj:fb}{T id:String}{r:V->List V->Hp->VK->Prop}
theorem kBm (h:X.K=K) (p:PlainAttrs T) (slot:Slot T name id) (b:typeOf (.builtin id)=pure (.type "method_descriptor")) (j:MtR X id r) (a:PE X o to) (N:PA X (e::es) t) (i:ie o name X.env (eval o X.env)=eval o X.env:=by rfl)
   (n:((backTo aj (starEach (e::es) X.env)).all (λx=>!x.1)&&(backToKw aj (keywordEach [] X.env)).all (λx=>x.1.isSome)
     && decide ((e::es).length+([]:List ji).length+(if ([]:List ji).isEmpty then 0 else 1) < 30))=true:=by rfl)
   (Y:(apos.endLine==aj.line)=true:=by rfl) (hs:starEach (e::es) X.env=(bj,eval e X.env)::starEach es X.env:=by rfl) (m:(backTo aj (starEach es X.env)).any (·.1)=false:=by rfl) :
   PE X (.Call (.Attribute o name apos) (e::es) [] aj) (tBM K T r to t):=h▸A1X p slot b j a N i n Y hs m
end
section
theorem eJ (e:z.length<=bd) (q:Q (.d (.int z.length)) M):DR K (rR K) [.d (.str z)] M Q:=rC e q
theorem MS (q:Q (.d (.int ds.length)) M):DR K (rR K) [.d (.list ds)] M Q:=rD q
theorem G4 (q:Q (.d (.int ds.length)) M):DR K (rR K) [.d (.tuple ds)] M Q:=rE q
theorem HE {bs:List Bool}(q:Q (.d (.bool (bs.all id))) M):DR K (vM K) [.d (.list (bs.map .bool))] M Q:=A0P q
theorem lM {bs:List Bool}(q:Q (.d (.bool (bs.any id))) M):DR K (vN K) [.d (.list (bs.map .bool))] M Q:=A0Q q
end
end DL
namespace L2
open PySem PySem.Spec PyProof.Rows
section
theorem eL:∀{e:List ar}{ss:List Str},StrsAre e ss->Vals (ss.map V.str) e
 | _,_,.nil=>.nil
 | _,_,.cons y t r=>.cons #[t,rfl] (eL r)
def VT (K:Frg):List V->Hp->VK->Prop:=λt H Q=>∃(p:Addr) (e:List Str),t=[.ref p]/\SqL K H p (e.map V.str)/\e.length < 64/\∀(S:List Str) (q:Addr),S.Perm e->sortedS S=ap->H q=am->Q (.ref q) (upd H q (.lst (S.map V.str)))
theorem bG:BO X (.builtin "sorted") (VT X.K):=by intro pins s x H v k Q I r h;obtain⟨p,j,rfl,hp,f,q⟩:=h;obtain⟨u,rfl,c⟩:=EW r;cases c;obtain⟨t,T,n,g⟩:=I.list hp;have hS:=eB T;have Y:=T.length;rw[zX] at Y;refine sorted_strs n.isList hS (by lia) λout S h1 a G=>?_;obtain⟨e,he⟩:=sortedAll_at s.heap t out;have hn:H (s.heap.objs.size+1)=none:=I.hok.fresh (b5W _);have m:=a.length_eq;refine#[.ref (s.heap.objs.size+1),_,I.laid (t':=s.toks) (o:=.lst (S.map V.str)) (λb o y=>sortedAll_old y) (b5W _) ?_,rfl,q S _ a G hn];refine#[by rw[zX,m];exact zN (xR f) (by decide),out.toList,e,eL h1,?_];have i:=he;simpa [da] using i
end
end L2
namespace DL
open PySem PySem.Spec L2
section
variable {X:Cx}{K:Frg}
def Q8 (K:Frg):List V->Hp->VK->Prop:=λt H Q=>∃p q,t=[.ref p]/\((SqL K H p q/\∀l,H l=am->Q (.ref l) (upd H l (.tup q)))\/(SqT K H p q/\Q (.ref p) H))
theorem A0W (h:X.K=K):BO X (.type "tuple") (Q8 K):=h▸SW
def VU (K:Frg):List V->Hp->VK->Prop:=λt H Q=>∃p q,t=[.ref p]/\(SqL K H p q\/SqT K H p q)/\∀l,H l=am->Q (.ref l) (upd H l (.lst q))
theorem A1s (h:X.K=K):BO X (.type "list") (VU K):=h▸VD
end
section
theorem G5 (q:Q (.d (.tuple ds)) M):DR K (Q8 K) [.d (.list ds)] M Q:=λH n QQ u s k=>by obtain⟨v,r,rfl,h1,e⟩:=s;cases e;unfold SI DV at h1;obtain⟨a,n,rfl,m,hd⟩:=h1;refine#[a,n,rfl,.inl #[m.sq,λp hp=>?_]];have g:Grow K M.W M.W H (upd H p (.tup n)):=AZ _ hp;refine k _ _ (.d (.tuple ds)) M (u.new hp) ?_ #[g] q;unfold SI DV;exact#[p,n,rfl,.inl #[λw=>w (u.none hp),.inl AD],hd.grow g]
theorem G6 :∀{bs:List Str},DVs K H W (bs.map a0W) (bs.map V.str)
 | []=>DVs.nil
 | b::bs=>DVs.cons (by unfold DV;rfl) G6
theorem rS (f:ss.length < 64) (q:∀S:List Str,S.Perm ss->xG S=ap->Q (.d (.list (S.map .str))) M):DR K (VT K) [.d (.list (ss.map .str))] M Q:=λH n QQ u s k=>by obtain⟨v,r,rfl,h1,e⟩:=s;cases e;unfold SI DV at h1;obtain⟨a,n,rfl,m,hd⟩:=h1;rw[MP hd] at m;refine#[a,ss,rfl,m.sq,f,λS p G z hp=>?_];have g:Grow K M.W M.W H (upd H p (.lst (S.map V.str))):=AZ _ hp;refine k _ _ (.d (.list (S.map .str))) M (u.new hp) ?_ #[g] (q S G z);unfold SI DV;exact#[p,_,rfl,.inl #[λw=>w (u.none hp),.inl AD],G6]
def E9:PyData->Bool | .none=>ap | _=>bj
theorem A0X (q:Q (.d (.bool (E9 d))) M):D2 K (λx y H Q=>y = .non/\Q (.bl (decide (x = .non))) H) (.d d) (.d .none) M Q:=λH v u QQ t e n k=>by
 refine#[l7 n,k _ H (.d (.bool (E9 d))) M t ?_ Step.refl q];cases d <;> unfold SI DV at e;. rw[e];exact AF
 . rw[e];exact AF
 . rw[e];exact AF
 . rw[e];exact AF
 . obtain⟨a,_,rfl,_⟩:=e;exact AF
 . obtain⟨a,_,rfl,_⟩:=e;exact AF
 . obtain⟨a,_,rfl,_⟩:=e;exact AF
theorem rT (q:Q (.d (.bool (!E9 d))) M):D2 K (λx y H Q=>y = .non/\Q (.bl (!decide (x = .non))) H) (.d d) (.d .none) M Q:=λH v u QQ t e n k=>by
 refine#[l7 n,k _ H (.d (.bool (!E9 d))) M t ?_ Step.refl q];cases d <;> unfold SI DV at e;. rw[e];exact AF
 . rw[e];exact AF
 . rw[e];exact AF
 . rw[e];exact AF
 . obtain⟨a,_,rfl,_⟩:=e;exact AF
 . obtain⟨a,_,rfl,_⟩:=e;exact AF
 . obtain⟨a,_,rfl,_⟩:=e;exact AF
end
def DGs (K:Frg) (g:TGs) (ds:List PyData) (t:List (Option DS)) (M:Own) (P:List (Option DS)->Own->Prop):Prop:=∀(e:St) (H:Hp) (n:List V) (QQ:St->Hp->Prop),Rel K M t e H->DVs K H M.W ds n->(∀Y i S H',Rel K i Y S H'->Step K M i H H'->P Y i->QQ S H')->g n e H QQ
section
theorem rV (h:P ρ M):DGs K wR [] ρ M P:=λe H n QQ R hd k=>by unfold DVs at hd;subst hd;exact#[rfl,k ρ M e H R Step.refl h]
theorem lN (h:DGs K g ds (ρ.set i (al (.d d))) M P):DGs K (dR (MJ i) g) (d::ds) ρ M P:=λe H n QQ R hd k=>by unfold DVs at hd;obtain⟨v,r,rfl,h1,a⟩:=hd;exact#[v,r,rfl,h (e.set i (al v)) H r QQ (R.set (x:=.d d) h1 i) a k]
theorem A0Y (hn:ds.length=n) (h:DGs K g ds ρ M P):DG K (pV K n g) (.tuple ds) ρ M P:=λo H v QQ R m k=>by unfold DV at m;obtain⟨a,e,rfl,t,hd⟩:=m;exact#[a,e,rfl,t.sq,by rw[hd.length];exact hn,h o H e QQ R hd k]
def rW (g:TGs) (T:List Nat):Prop:=(∀(n:List V) (e:St) (H:Hp) (Q f:St->Hp->Prop),(∀a b,Q a b->f a b)->g n e H Q->g n e H f) /\(∀(n:List V) (e:St) (H:Hp) (QQ:St->Hp->Prop),g n e H QQ->g n e H λt o=>(∀i,i∉T->t[i]?=e[i]?)/\QQ t o)
theorem Q9:rW wR []:=#[(by rintro n t H Q f m ⟨e,h⟩;exact#[e,m _ _ h]),by rintro n t H QQ ⟨e,h⟩;exact#[e,λ_ _=>rfl,h]]
theorem D8 (hg:rW g T):rW (dR (MJ i) g) (i::T):=by refine#[(by rintro o n H Q f m ⟨v,r,e,h⟩;exact#[v,r,e,hg.1 r _ H Q f m h]),λo n H QQ #[v,r,e,h]=>#[v,r,e,?_]];refine hg.1 r _ H _ _ (λp b #[h1,a]=>#[λj t=>?_,a]) (hg.2 r (n.set i (al v)) H QQ h);rw[h1 j λz=>t (yV _ z),b2J (by rintro rfl;exact t a1Q)]
theorem QA (hg:rW g T):HW (pV K n g) T:=λv o H QQ #[a,t,e,hs,m,h]=>
 #[a,t,e,hs,m,hg.1 t o H _ _ (by rintro r p ⟨h1,i⟩;exact i h1) (hg.2 t o H _ h)]
end
end DL
namespace L2
open PySem PySem.Spec PyProof.Rows
section
variable {X:Cx}{pins:List (Addr×dc)}{σ:St}{H:Hp}{s:ba}{h':db}
theorem Inv.turnedT {ch:List Addr}{T:Addr}{ys:List V}{t':Nat}(I:Inv X pins σ H s) (k:∀b o,b∉ch->s.heap.get? b=al o->h'.get? b=al o) (hn:∀b∈ch,H b=am) (i:∀b∈ch,(b∈X.ex\/X.s₀.heap.objs.size<=b)/\b≠X.env.locals/\(∀x c,X.env.cells.lookup x=al c->c≠b)/\∀p∈X.pn++pins,p.1≠b) (a:s.heap.objs.size<=T) (new:ObjOk X.prog X.w (upd H T (.tup ys)) h' T (.tup ys)):Inv X pins σ (upd H T (.tup ys)) { s with heap:=h',toks:=t' }:=by
 have t:H T=none:=I.hok.fresh a;have R:∀b u,H b=al u->b∉ch:=λb u e z=>by rw[hn b z] at e;cases e
 refine I.step (g':=s.gens) (d':=s.drawn) (ch:=ch) i (λb o _ _ hc e _=>k b o hc e) (λb o _ _ hc e _=>#[o.slots,k b o hc e]) (λb o hc e n=>?_) (λb o hc e=>#[o,k b o hc e]) (λb y e=>?_) (λb o u e=>?_) (λb N e=>#[#[],?_]) (λm j=>?_) (λb u e=>?_) I.bare;. rw[AH (zC (zP (zM e) a))];exact n
 . rw[AH (B1 e t)];exact e
 . rw[AH (B1 e t)];exact e
 . rw[AH (B1 e t),e];simp
 . obtain⟨o,f,M,g,r⟩:=j;exact#[o,f,M,k _ o (λz=>(i _ z).2.1 rfl) g,r]
 . by_cases hb:b=T;. subst hb;rw[AD] at e;cases e;exact new
   . rw[AH hb] at e;refine(I.hok b u e).stay (λc v hc q=>k c v ?_ q) (λc q=>by rw[AH (B1 q t)];exact q) λc y q=>by rw[AH (B1 q t)];exact q
     rcases hc with z | z;. rw[z];exact R b u e
     . exact R c _ z
theorem Inv.turnedL {ch:List Addr}(I:Inv X pins σ H s) (k:∀b o,b∉ch->s.heap.get? b=al o->h'.get? b=al o) (hn:∀b∈ch,H b=am) (t:∀b∈ch,(b∈X.ex\/X.s₀.heap.objs.size<=b)/\b≠X.env.locals/\(∀x c,X.env.cells.lookup x=al c->c≠b)/\∀p∈X.pn++pins,p.1≠b):Inv X pins σ H { s with heap:=h',toks:=t' }:=by
 have R:∀b u,H b=al u->b∉ch:=λb u e z=>by rw[hn b z] at e;cases e
 refine I.step (g':=s.gens) (d':=s.drawn) (ch:=ch) t (λb o _ _ hc e _=>k b o hc e) (λb o _ _ hc e _=>#[o.slots,k b o hc e]) (λb o hc e n=>n) (λb o hc e=>#[o,k b o hc e]) (λb i e=>e) (λb o u e=>e) (λb f e=>#[#[],by rw[e];simp]) (λm j=>?_) (λb u e=>?_) I.bare;. obtain⟨o,a,M,T,r⟩:=j;exact#[o,a,M,k _ o (λz=>(t _ z).2.1 rfl) T,r]
 . refine(I.hok b u e).stay (λc v hc q=>k c v ?_ q) (λc q=>q) λc i q=>q;rcases hc with z | z;. rw[z];exact R b u e
   . exact R c _ z
theorem vO (I:Inv X pins σ H s) (B:LM X pins H z) (h:SqL X.K H a xs):a≠z:=by
 rintro rfl;rcases h with h | ⟨o,t,n,hk,_⟩
 . rcases h with h | ⟨r,h⟩ <;> rw[B.1] at h <;> cases h
 . have e:=I.ok.mod.kin a o hk;rcases B.2.2.2.1 with z | z;. exact I.ok.noex a o e z
   . exact absurd (zP (zM e) (zN I.ok.bsz z)) (yF _)
end
end L2
namespace DL
open PySem PySem.Spec L2
section
def QC (as bs:List PyData):List PyData:=(as.zip bs).map λp=>.tuple [p.1,p.2]
end
end DL
namespace HT
open PySem PySem.Spec PyProof.Rows
section
theorem getItem_tuple_whole (a:IsTup s.heap t items) (hs:s.heap.IsSliceOf sl I n .none) (r:jd I e) (j:jd n hi) (R:sIx items.size 0 e=0/\sIx items.size items.size hi=items.size) (h:Q (.ref t) s):wpAny (model prog w) A (g0 (.ref t) (.ref sl)) Q E s:=by
 obtain⟨o,v,p,b⟩:=id hs;have B:s.TypeIs (.ref sl) "slice" := #[o,v,p]
 unfold g0;try with_reducible refine bv ?_
 first | refine zZ (zY ?_) | skip
 refine zZ (wpAny_sequenceKey a.typeIs (by decide) ?_);refine zZ (wpAny_callSpecial?_slot (name:=a0Q "__getitem__") a.typeIs a7Z (cr a7Z a.typeIs entry_tuple_getitem ?_ (args_tuple_getitem _ _)));show wpAny _ _ (Builtin.Tuple.tupleItemsOf (.ref t) >>= _) _ _ s;refine zZ (tupleItemsOf_ a ?_);refine zZ (gl B ?_);rw[if_pos (by decide)];refine zZ (GR hs r j ?_);have i:((((sIx items.size 0 e:Nat):Int)==0&&(1:Int)==1&&(sIx items.size items.size hi - sIx items.size 0 e)==items.size)=ap):=by rw[R.1,R.2];simp
 show wpAny _ _ (if (((sIx items.size 0 e:Nat):Int)==0&&(1:Int)==1&&(sIx items.size items.size hi - sIx items.size 0 e)==items.size)=ap then _ else _) _ _ s;rw[if_pos i];refine zZ (m:=Builtin.Tuple.tupleIsExact _) (zZ (gl a.typeIs (zY ?_)));show wpAny _ _ (if ap=ap then _ else _) _ _ s;rw[if_pos rfl];first
   | exact zZ (dV (zZ (zY #[_,rfl,zY h])))
   | exact zZ (dV (zY #[_,rfl,zY h]))
   | exact zZ (dV (zZ (zY (zY #[_,rfl,zY h]))))
end
end HT
namespace L2
open PySem PySem.Spec PyProof.Rows
section
def vP (K:Frg):V->Option Int->Option Int->Hp->VK->Prop:=λx e hi H Q=>∃a t,x = .ref a/\SqT K H a t/\(LN t e hi=t->Q (.ref a) H)/\∀p,H p=am->Q (.ref p) (upd H p (.tup (LN t e hi)))
theorem rX:SlR X (vP X.K):=by
 intro pins s f H x v b c n hi sl Q I p hs o j h;obtain⟨a,t,rfl,hx,q1,q2⟩:=h;cases p;obtain⟨i,r,e,g⟩:=I.tuple hx;have m:i.toArray.size=t.length:=by rw[zJ];exact r.length.symm
 by_cases R:HT.sIx t.length 0 n=0/\HT.sIx t.length t.length hi=t.length;. refine#["tuple", _,PyProof.Rows.slot_tuple_getitem.lookup,e.typeIs,?_];refine HT.getItem_tuple_whole e hs o j (by rw[m];exact R) #[.ref a,H,I,rfl,q1 ?_];unfold LN;rw[R.1,R.2];simp
 . exact xS pins s f H (.ref a) (.ref a) b c n hi sl Q I rfl hs o j #[a,t,rfl,hx,R,q2]
def lO (K:Frg):R2:=λx y H Q=>∃a b t q,x = .ref a/\y = .ref b/\SqT K H a t/\SqT K H b q/\t.length+q.length<=bd /\(t=[]->Q (.ref b) H)/\(q=[]->Q (.ref a) H)/\(∀p,H p=am->Q (.ref p) (upd H p (.tup (t++q))))
theorem lP:OpR X (eg .Add) (lO X.K):=by
 intro pins s σ H x y v u Q I G J h;obtain⟨t,b,z,N,rfl,rfl,hx,hy,M,D,q1,q2⟩:=h;cases G;cases J;obtain⟨a,r,S,_⟩:=I.tuple hx;obtain⟨i,p,hb,_⟩:=I.tuple hy;have U:=r.length;have Z:=p.length;obtain⟨⟨cls,g,data,sl⟩,T,hc,n,hd⟩:=id S;obtain⟨⟨L,f,data2,j⟩,c,k,B,hd2⟩:=id hb;dsimp only at hc hd k hd2;subst hc hd k hd2;have e:a.toArray++i.toArray=(a++i).toArray:=by simp
 by_cases m:a=[]
 . have O:z=[]:=by cases r with | nil=>rfl | cons _ _=>cases m
   exact concat_meets #[_,T,rfl] #[_,c,rfl] noFill_tuple_add seq_tuple_add c1J c0J (b9Z _ _) (tuple_addW0 t b a.toArray i.toArray n B g f sl j (by simp[m])) #[T,c,#[.ref b,H,I,rfl,D O]]
 . by_cases R:i=[]
   . have Y:N=[]:=by cases p with | nil=>rfl | cons _ _=>cases R
     exact concat_meets #[_,T,rfl] #[_,c,rfl] noFill_tuple_add seq_tuple_add c1J c0J (b9Z _ _) (tuple_addW1 t b a.toArray i.toArray n B g f sl j (by simpa using m) (by simp[R])) #[T,c,#[.ref t,H,I,rfl,q1 Y]]
   . refine concat_meets #[_,T,rfl] #[_,c,rfl] noFill_tuple_add seq_tuple_add c1J c0J (b9Z _ _) (tuple_addW2 t b a.toArray i.toArray n B g f sl j (by simpa using m) (by simpa using R) (by rw[zJ,zJ];lia)) #[T,c,?_];rw[e];refine#[.ref s.heap.objs.size,_,I.laid (t':=s.toks) (o:=.tup (z++N)) (λb ob q=>zW _ q) (zR _) ?_,rfl,q2 _ I.fresh];exact#[by rw[yY];exact M,a++i,r.append p,IsTup.new _ _]
end
end L2
namespace DL
open PySem PySem.Spec L2
section
variable {X:Cx}{K:Frg}
def Y5 (K:Frg):R2:=λx y H Q=>Y4 K x y H Q\/lO K x y H Q
theorem A1t (h:X.K=K):OpR X (eg .Add) (Y5 K):=h▸rJ.or lP
def rY (K:Frg):V->Option Int->Option Int->Hp->VK->Prop:=λx e hi H Q=>rK K x e hi H Q\/vP K x e hi H Q
theorem A2h (h:X.K=K):SlR X (rY K):=h▸A0S.or rX
end
section
theorem lQ (q:Q (.d (.int (i+j))) M):D2 K (Y5 K) (.d (.int i)) (.d (.int j)) M Q:=DZ (lE q)
theorem QD (e:i.length+j.length<=bd) (q:Q (.d (.str (i++j))) M):D2 K (Y5 K) (.d (.str i)) (.d (.str j)) M Q:=DZ (lG e q)
theorem MT (e:a.length+b.length<=bd) (q:Q (.d (.list (a++b))) M):D2 K (Y5 K) (.d (.list a)) (.d (.list b)) M Q:=DZ (lH e q)
theorem MU (c:as.length+bs.length<=bd) (q:Q (.d (.tuple (as++bs))) M):D2 K (Y5 K) (.d (.tuple as)) (.d (.tuple bs)) M Q:=GK λH v u QQ t n o k=>by
 have X:=n;have Z:=o;unfold SI DV at n o;obtain⟨a,r,rfl,m,hd⟩:=n;obtain⟨b,i,rfl,f,hd2⟩:=o;refine#[a,b,r,i,rfl,rfl,m.sq,f.sq,by rw[hd.length,hd2.length];exact c,λe=>?_,λe=>?_,λp hp=>?_]
 . have:as=[]:=by have:=hd.length;rw[e] at this;exact List.length_eq_zero_iff.mp this.symm
   subst this;exact k _ H (.d (.tuple ([]++bs))) M t Z Step.refl q
 . have:bs=[]:=by have:=hd2.length;rw[e] at this;exact List.length_eq_zero_iff.mp this.symm
   subst this;rw[a6Q] at q;exact k _ H (.d (.tuple as)) M t X Step.refl q
 . have g:Grow K M.W M.W H (upd H p (.tup (r++i))):=AZ _ hp;refine k _ _ (.d (.tuple (as++bs))) M (t.new hp) ?_ #[g] q;unfold SI DV;exact#[p,_,rfl,.inl #[λw=>w (t.none hp),.inl AD],(hd.append hd2).grow g]
theorem MV (t:z.length<=bd) (q:Q (.d (.str (a1X z e hi))) M):DSl K (rY K) (.d (.str z)) e hi M Q:=λH v QQ u n k=>.inl (lI t q H v QQ u n k)
theorem GU (q:Q (.d (.list (ED ds e hi))) M):DSl K (rY K) (.d (.list ds)) e hi M Q:=λH v QQ u t k=>.inl (gZ q H v QQ u t k)
theorem IZ (q:Q (.d (.tuple (ED ds t hi))) M):DSl K (rY K) (.d (.tuple ds)) t hi M Q:=λH v QQ u o k=>.inr (by
 have X:=o;unfold SI DV at o;obtain⟨a,n,rfl,m,hd⟩:=o;have key:DVs K H M.W (ED ds t hi) (LN n t hi):=by unfold ED LN;rw[hd.length];exact(hd.drop _).take _
 refine#[a,n,rfl,m.sq,λe=>?_,λp hp=>?_];. refine k _ H (.d (.tuple (ED ds t hi))) M u ?_ Step.refl q;unfold SI DV;exact#[a,n,rfl,m,by rw[<-e];rw[e] at key;rw[e];exact key]
 . have g:Grow K M.W M.W H (upd H p (.tup (LN n t hi))):=AZ _ hp;refine k _ _ (.d (.tuple (ED ds t hi))) M (u.new hp) ?_ #[g] q;unfold SI DV;exact#[p,_,rfl,.inl #[λw=>w (u.none hp),.inl AD],key.grow g])
end
theorem h8 {X:Cx}{K:Frg}{pos:fb}{z:List ca}{k:Nat}{t:TGs}{n:Nat}(hK:X.K=K) (hc:X.calm=ap) (h:PGs X z t) (hn:(ed z X.env).length=n:=by rfl) (i:(ed z X.env).findIdx? (·.1)=none:=by rfl):PG X (.Tuple z k pos) (pV K n t):=hK▸kC hc h hn i
end DL
namespace DL
open PySem PySem.Spec L2
def fn1 (pre:PyData->Prop) (f:PyData->PyData):FSp:=#[λt _=>∃d,t=[.d d]/\pre d,λt M y i=>∀d,t=[.d d]->y = .d (f d)/\i=M]
theorem B8 {Q:DS->Own->Prop}(p:pre d) (q:Q (.d (f d)) M):[DS.d d].length=1/\(fn1 pre f).pre [.d d] M/\∀x i,(fn1 pre f).post [.d d] M x i->Q x i:=#[rfl,#[d,rfl,p],λx i h=>by obtain⟨rfl,rfl⟩:=h d rfl;exact q]
def G7 (c:Nat):Bool:=decide (97<=c)&&decide (c<=122)
def NY:PyData->Bool | .int _=>ap | _=>bj
def CI:PyData->Bool | .str z=>decide (1<=z.cps.size)&&decide (z.cps.size<=8)&&z.cps.toList.all G7 | _=>bj
def LP:PyData->Bool | .int i=>decide (0<=i)&&decide (i<=999) | _=>bj
def okS (z:Str):Prop:=z.cps.size<=5000/\∀c∈z.cps.toList,c < 128
def okD:PyData->Prop | .str z=>okS z | _=>True
def LQ:FSp:=fn1 (λ_=>True) λd=>.bool (NY d)
def U1:FSp:=fn1 okD λd=>.bool (CI d)
def QE:FSp:=fn1 (λ_=>True) λd=>.bool (LP d)
def K8 (d:PyData) (e hi:Int):Bool:=match d with | .int i=>decide (e<=i)&&decide (i<=hi) | _=>bj
def EE:FSp:=#[λt _=>∃(d:PyData) (e hi:Int),t=[.d d,.d (.int e),.d (.int hi)],λt M y i=>∀(d:PyData) (e hi:Int),t=[.d d,.d (.int e),.d (.int hi)]->y = .d (.bool (K8 d e hi))/\i=M]
theorem OR {Q:DS->Own->Prop}(q:Q (.d (.bool (K8 d e hi))) M):[DS.d d,.d (.int e),.d (.int hi)].length=3/\EE.pre [.d d,.d (.int e),.d (.int hi)] M/\∀x i,EE.post [.d d,.d (.int e),.d (.int hi)] M x i->Q x i:=#[rfl,#[d,e,hi,rfl],λx i h=>by obtain⟨rfl,rfl⟩:=h d e hi rfl;exact q]
theorem VW (d:PyData):K8 d 0 999=LP d:=by cases d <;> rfl
theorem bH:∀c:Nat,c < 128->(!(a3Z (a0Q "abcdefghijklmnopqrstuvwxyz") #[(z3 [c])] 0 (a0Q "abcdefghijklmnopqrstuvwxyz").length 1).isEmpty)=G7 c:=by decide +kernel
def rZ:PyData->Bool | .str z=>z.cps.toList.all G7 | _=>bj
theorem h9 (z:Str):((CL z).filter λ_=>ap).map (λd=>c0W (rZ d))=(z.cps.toList.map G7).map .bool:=by rw[List.filter_eq_self.mpr (by simp)];unfold CL;rw[zD,zD];apply yM;intro c hc;simp[rZ]
theorem bI (l:List Nat) (f:Nat->Bool):(l.map f).all id=l.all f:=by simp
section
theorem ET (P:List (Option DS)->Own->Prop) (h:DSt K t ρ M { D with nx:=P }) (a:∀e M1,P e M1->DSt K u e M1 D):DSt K (pR t u) ρ M D:=
 l6 (rA h (λY i p=>a Y i p) (λ_ _ q=>q) (λ_ _ q=>q) (λ_ _ q=>q))
end
def B9 (z:Str):Prop:=1<=z.cps.size/\z.cps.size<=8/\∀c∈z.cps.toList,G7 c=ap
theorem A2i {M:Own}{a:Addr}{ds:List PyData}{k:Int}{j:Nat}{F:Addr->List PyData->Nat->Prop}(m:M a=al (.l ds)) (e:ixN ds.length k=al j) (q:F a ds j) : ∃J z t Z,DS.loc a = .loc J/\DS.d (.int k) = .d (.int t)/\M J=al (.l z)/\ixN z.length t=al Z/\F J z Z:=#[a,ds,k,j,rfl,rfl,m,e,q]
theorem A2j {Q:List PyData->Prop}(e:SX xs=al ds) (h:ds.length<=bd) (q:Q ds):∃ds,SX xs=al ds/\ds.length<=bd/\Q ds:=#[ds,e,h,q]
theorem sB {x:Str}(h:x.cps.toList=y.cps.toList):x=y:=by obtain⟨⟨a⟩⟩:=x;obtain⟨⟨b⟩⟩:=y;simp at h;subst h;rfl
theorem lR (n len:Nat):a4Q am (al (n:Int)) 1 len=a1K (min n len):=by
 unfold a4Q sliceRange;have h1:¬((n:Int) < 0):=by lia
 have a:max 0 (min (n:Int) (len:Int))=((min n len:Nat):Int):=by lia
 simp only[show(1:Int) > 0 by decide,if_true,h1,if_false,a];have G:(if (0:Int) < ((min n len:Nat):Int) then (((min n len:Nat):Int) - 0+1 - 1)/1 else 0).toNat=min n len:=by
   split;. rw[Int.ediv_one];lia
   . lia
 rw[G];apply b5Z;intro i;rw[zF];by_cases h:i < min n len;. simp[yA h]
 . simp[a2X (show(a1K (min n len)).length<=i by simp;lia)]
theorem hU (l:List Nat) (a:Array Nat) (m:Nat) (h:a.toList=l):(a1K m).filterMap (λi=>a[i]?)=l.take m:=by
 induction m with
 | zero=>simp
 | succ m U=>
   rw[List.range_succ,List.filterMap_append,U,a0V];have e:a[m]?=l[m]?:=by rw[<-h];simp
   simp only[a5W,List.filterMap_nil,e];cases l[m]? <;> simp
theorem HF (z:Str) (n:Nat):(a1X z am (al (n:Int))).cps.toList=z.cps.toList.take n:=by
 unfold a1X;rw[lR];have m:z.length=z.cps.toList.length:=by simp[Str.length]
 split;. rename_i h;simp only[xZ,beq_self_eq_true,Bool.true_and,beq_iff_eq] at h;rw[a5Q (by rw[<-m];lia)]
 . show(List.filterMap _ _).toArray.toList=_;rw[hU z.cps.toList z.cps _ rfl,List.toList_toArray,m,b6Q];lia
theorem hW {n:Nat}(h:c∈(a1X z am (al (n:Int))).cps.toList):c∈z.cps.toList:=by rw[HF] at h;exact a9Q h
theorem AU (x y:Str):(x++y).cps.toList=x.cps.toList++y.cps.toList:=by show(x.cps++y.cps).toList=_;simp
theorem J0:(a0Q "abcdefghijklmnopqrstuvwxyz").length=26:=by decide +kernel
theorem lS {M:Own}(h:p≠A):(((M.put p o).put A x).put p r).put A y=(M.put p r).put A y:=by
 funext b;unfold Own.put;by_cases h1:b=A;. simp[h1]
 . by_cases a:b=p;. simp[a,h1,h]
   . simp[h1,a]
theorem flt (l:List PyData):l.filter (λ_=>ap)=l:=List.filter_eq_self.mpr (by simp)
theorem lT:(a0Q "abcdefghijklmnopqrstuvwxyz").cps.size=26:=by decide +kernel
theorem U2 (z:Str) (l u:Option Int) (h:z.length<=n):(a1X z l u).length<=n:=zN (Txt.slice_le z l u) h
theorem lU (h:G7 c=ap):c < 128:=by unfold G7 at h;simp at h;lia
theorem U3 (s:Str):CI (.str s)=(decide (1<=s.cps.size)&&decide (s.cps.size<=8)&&s.cps.toList.all G7):=rfl
theorem NZ (s:Str):s.cps.size=s.cps.toList.length:=by simp
theorem lV (h:B9 z):okD (.str z):=#[by have:=h.2.1;lia,λc hc=>lU (h.2.2 c hc)]
end DL
namespace DL
open PySem PySem.Spec L2
def sl (a b:Str):Bool:=b3W a.cps.toList b.cps.toList
theorem U4:∀a:List Nat,b3W a a=bj
 | []=>rfl
 | a::r=>by simp[b3W,U4 r]
theorem Y6:∀a b c:List Nat,b3W a b=ap->b3W b c=ap->b3W a c=ap
 | [],[],_,h,_=>by cases h
 | [],_::_,[],_,h=>by cases h
 | [],_::_,_::_,_,_=>rfl
 | _::_,[],_,h,_=>by cases h
 | _::_,_::_,[],_,h=>by cases h
 | a::r,b::t,c::u,h1,e=>by
   simp only[b3W,Bool.or_eq_true,decide_eq_true_eq,a1J,beq_iff_eq] at h1 e ⊢;rcases h1 with h1 | ⟨rfl,h1⟩
   . rcases e with e | ⟨rfl,e⟩
     . exact .inl (Nat.lt_trans h1 e)
     . exact .inl h1
   . rcases e with e | ⟨rfl,e⟩
     . exact .inl e
     . exact .inr #[rfl,Y6 r t u h1 e]
theorem Y7:∀a b:List Nat,b3W a b=bj->b3W b a=bj->a=b
 | [],[],_,_=>rfl
 | [],_::_,h,_=>by cases h
 | _::_,[],_,h=>by cases h
 | a::r,b::t,h1,n=>by
   simp only[b3W,Bool.or_eq_false_iff,decide_eq_false_iff_not,Bool.and_eq_false_iff] at h1 n;have e:a=b:=by lia
   subst e;simp at h1 n;rw[Y7 r t h1 n]
theorem U5 (a:Str):sl a a=false:=U4 _
theorem QF (h1:sl a b=ap) (e:sl b c=ap):sl a c=true:=Y6 _ _ _ h1 e
theorem QG (h1:sl a b=bj) (e:sl b a=bj):a=b:=sB (Y7 _ _ h1 e)
theorem Y8 (h:sl a b=ap):sl b a=false:=by
 cases e:sl b a with
 | false=>rfl
 | true=>have:=QF h e;rw[U5] at this;cases this
theorem A1u (a b:Str):decide (a.cps.toList < b.cps.toList)=sl a b:=PyProof.Rows.lt_meets a b
def Ris (ss:List Str):Prop:=ss.Pairwise λa b=>sl a b=ap
theorem hX:∀ss:List Str,xG ss=ap->ss.Pairwise λa b=>sl b a=bj
 | [],_=>.nil
 | a::r,h=>by
   have key:∀(r:List Str) (p:Str),PyProof.Rows.risingS p r=ap->(p::r).Pairwise λa b=>sl b a=false:=by
     intro r;induction r with
     | nil=>intro p _;simp
     | cons x r U=>
       intro p h;unfold PyProof.Rows.risingS at h;simp only[a1J,c1Z] at h;have t:=U x h.2;refine List.pairwise_cons.mpr #[λc hc=>?_,t];have hx:sl x p=false:=h.1;rcases yX.mp hc with rfl | hc;. exact hx
       . have n:sl c x=false:=(List.pairwise_cons.mp t).1 c hc;cases e:sl c p with
         | false=>rfl
         | true=>
           cases f:sl x c with
           | true=>have:=QF f e;rw[hx] at this;cases this
           | false=>have:=QG n f;subst this;rw[hx] at e;cases e
   exact key r a h
theorem bJ (h:xG ss=ap) (nd:ss.Nodup):Ris ss:=by
 unfold Ris;have h1:=hX ss h;refine(List.Pairwise.and h1 nd).imp λ{a b} t=>?_;obtain⟨x,y⟩:=t;cases e:sl a b with
 | true=>rfl
 | false=>exact absurd (QG e x) y
theorem Ris.nodup (h:Ris ss):ss.Nodup:=h.imp λ{a b} q=>by rintro rfl;rw[U5] at q;cases q
theorem FD (h1:d.canLay0=ap) (a:d.depth<=64):zH d=true:=by unfold zH;rw[h1,decide_eq_true a];rfl
theorem bK (h:∀d∈ds,d.canLay0=ap):b9V ds=true:=by
 induction ds with
 | nil=>rfl
 | cons d r U=>rw[b9V,h d a1Q,U λx hx=>h x (yV _ hx)];rfl
theorem bL (h:∀d∈ds,d.depth<=n):a6V ds<=n:=by
 induction ds with
 | nil=>simp[a6V]
 | cons d r U=> have h1:=h d a1Q;have a:=U λx hx=>h x (yV _ hx);simp only[a6V];lia
theorem QH (h:B9 z):b5Q z=true:=by unfold b5Q;rw[Array.all_eq_true'];intro c hc;have:=lU (h.2.2 c (by simpa using hc));simp;lia
theorem P9 (ys:List Str):a0Z (.list (ys.map .str)) (.list [])=ys.isEmpty:=by
 cases ys with
 | nil=>rfl
 | cons y r=>simp[a0Z,PyData.eqvAll]
theorem QJ:∀c∈(a0Q "abcdefghijklmnopqrstuvwxyz").cps.toList,G7 c=true:=by decide +kernel
theorem bM:(a0Q "abcdefghijklmnopqrstuvwxyz").cps.toList.Nodup:=by decide +kernel
end DL
namespace DL
open PySem PySem.Spec L2
theorem sIx_nat (n d k:Nat):HT.sIx n d (al (k:Int))=min k n:=HT.sIx_nat n d k
theorem MW (xs:List PyData) (k:Nat):ED xs (al (k:Int)) am=xs.drop k:=by
 unfold ED;rw[sIx_nat];show(xs.drop (min k xs.length)).take (xs.length - min k xs.length)=_;rw[a5Q (by rw[a4K];lia)];by_cases h:k<=xs.length;. rw[b1W h]
 . rw[b6V (by lia),a3W (zR _),a3W (by lia)]
theorem A0Z (xs:List PyData) (k:Nat):ED xs am (al (k:Int))=xs.take k:=by unfold ED;rw[sIx_nat];show(xs.drop 0).take (min k xs.length - 0)=_;rw[List.drop_zero,Nat.sub_zero,b6Q];lia
theorem VX (xs:List PyData) (a b:Nat):ED xs (al (a:Int)) (al (b:Int))=(xs.take b).drop a:=by
 unfold ED;rw[sIx_nat,sIx_nat,List.drop_take];by_cases h:a<=xs.length;. rw[b1W h,b6Q,a4K];lia
 . rw[a3W (show xs.length<=min a xs.length by lia),a3W (show xs.length<=a by lia)];simp
def fn2 (pre:PyData->PyData->Prop) (f:PyData->PyData->PyData):FSp:=#[λt _=>∃a b,t=[.d a,.d b]/\pre a b,λt M y i=>∀a b,t=[.d a,.d b]->y = .d (f a b)/\i=M]
theorem MX {Q:DS->Own->Prop}(p:pre a b) (q:Q (.d (f a b)) M):[DS.d a,.d b].length=2/\(fn2 pre f).pre [.d a,.d b] M/\∀x i,(fn2 pre f).post [.d a,.d b] M x i->Q x i:=#[rfl,#[a,b,rfl,p],λx i h=>by obtain⟨rfl,rfl⟩:=h a b rfl;exact q]
def A2k:PyData->PyData | .tuple (a::_)=>a | d=>d
def CJ:PyData->Str | .str z=>z | _=>#[#[]]
def nm0 (d:PyData):Str:=CJ (A2k d)
abbrev Th:=Str×Int×Int
def thD (t:Th):PyData:=.tuple [.str t.1,.int t.2.1,.int t.2.2]
def wD (w:List Th):PyData:=.tuple (w.map thD)
theorem U6 (h:CI d=ap):∃z,d = .str z/\B9 z:=by
 cases d with
 | str z=> rw[U3] at h;simp only[a1J,decide_eq_true_eq,a6J] at h;exact#[z,rfl,h.1.1,h.1.2,h.2]
 | _=>cases h
theorem lW (h:B9 z):CI (.str z)=true:=by rw[U3,decide_eq_true h.1,decide_eq_true h.2.1,List.all_eq_true.mpr h.2.2];rfl
theorem sC (w:List Th):(w.map thD).map nm0=w.map (·.1):=by rw[zD];rfl
end DL
namespace DL
open PySem PySem.Spec L2
section
theorem BS (ho:HW g T) (hT:∀i∈T,∀j,r[i]?≠al (al j)) (h:DI K wi ρ M λds M1=>ds.length < bd/\∃(c:PyData->Bool) (f:PyData->PyData),(∀d∈ds,∀A acc e,M1 A=am->e=M1.put A (.l acc)->DG K g d (CA r ρ) e λa M2=>M2=e/\DT K O a M2 λb u=>u=e/\b=c d/\(c d=ap->DE K z a u λy x=>y = .d (f d)/\x=e))/\Q (.d (.list ((ds.filter c).map f))) M1) :
   DE K (L1 r wi g O z) ρ M Q:=by
 refine VQ ho hT λm H R G k=>h m H R G λJ ds I M1 o1 t1 wd q=>k J ds I M1 o1 t1 wd ?_;obtain⟨hsz,c,f,he,q⟩:=q;refine#[hsz,λA hA=>#[λk acc e=>acc=((ds.take k).filter c).map f/\e=M1.put A (.l acc),#[by simp,rfl],λk acc e #[n,t]=>#[by rw[t];exact zU,?_],λk d acc e hd #[n,t]=>?_,λacc e #[n,t]=>?_]];. rw[n,zX];exact zN (yJ _ _) (by rw[a2Q];lia)
 . have hm:d∈ds:=yN hd;intro m H v QQ R U kk;refine he d hm A acc e hA t m H v QQ R U λY M2 S H' B st L=>kk Y M2 S H' B st λp D QQ2 R2 k2=>?_;obtain⟨eM,q2⟩:=L;refine q2 p D QQ2 R2 λb Z u o3 ee ka=>k2 b Z u o3 ee ?_;obtain⟨wt,o,q3⟩:=ka;have N:(ds.take (k+1)).filter c=(ds.take k).filter c++(if c d then [d] else []):=fx c ds k d hd;cases hb:c d with
   | false=> rw[hb] at o;subst o;refine L2.kW #[?_,by rw[wt,t]];rw[N,hb,n];simp
   | true=>
     rw[hb] at o;subst o;refine L2.gU ?_;refine MQ (q3 hb) λy x #[ey,X]=>#[f d,ey,by rw[X,t];exact zU,?_,by rw[X,t,yI]]
     rw[N,hb,n];simp
 . rw[t,yG hA,n,a1V];exact q
end
theorem Y9 {as:List Str}(h:as.map a0W=bs.map a0W):as=bs:=by have:=congrArg (List.map CJ) h;rw[zD,zD] at this;simpa [show(CJ∘a0W)=id from rfl] using this
theorem QK (h:DE K o n M λx M1=>∃d,x = .d d/\DG K g d n M1 D.nx):DSt K (pW o g) n M D:=λi H E R I _ _ _=>
 h i H _ R λv H' x f a b c q=>by obtain⟨d,rfl,q⟩:=q;exact q i H' v _ (R.step a c) b λe M2 t r R2 m p=>I e M2 t r R2 (c.trans m) p
theorem lX {X:Cx}:MtR X "list.append" VE:=NR
end DL
namespace L2
open PySem PySem.Spec PyProof.Rows
def EntS (w:bo):List DictEntry->List (Str×Str)->Prop
 | [],[]=>True
 | e::z,kv::r=>e.hash=hashStr w kv.1/\(∃t,e.key = .str kv.1 t)/\(∃t,e.val = .str kv.2 t)/\EntS w z r
 | _,_=>False
def GDict (w:bo) (K:Frg) (a:Addr) (kvs:List (Str×Str)):Prop:=(a==dz)=bj/\(kvs.map (·.1)).Nodup/\∃z M,K.lookup a=al { cls:=.type "dict", data:=.dict z M }/\EntS w z.toList kvs
theorem EntS.pairs :∀{z:List DictEntry}{kvs:List (Str×Str)},EntS w z kvs->∃vs:List (Key×ar),Pairs (AG P w) z vs/\KV (kvs.map λkv=>((a1Z kv.1:Key),V.str kv.2)) vs/\vs.map (·.1)=kvs.map (λkv=>(a1Z kv.1:Key))/\∀e∈z,∃k,(AG P w).is k e.key=ap/\e.hash=(AG P w).hash k
 | [],[],_=>#[[],.nil,.nil,rfl,by simp]
 | e::z,kv::r,#[h1,#[t,n],#[i,G],o]=>by
   obtain⟨vs,a,b,c,d⟩:=EntS.pairs (P:=P) o;have hk:(AG P w).is (a1Z kv.1) e.key=true:=by rw[n];exact OP P w kv.1 t
   refine#[(a1Z kv.1,e.val)::vs,.cons hk rfl a,.cons #[rfl,#[i,G]] b,by rw[zI,zI,c],λx hx=>?_];rcases yX.mp hx with rfl | hx;. exact#[_,hk,h1]
   . exact d x hx
section
variable {X:Cx}{pins:List (Addr×dc)}{σ:St}{H:Hp}{s:ba}
theorem GDict.at (g:GDict X.w X.K a kvs) (I:Inv X pins σ H s):∃vs,KV (kvs.map λkv=>((a1Z kv.1:Key),V.str kv.2)) vs/\s.heap.DictOf (AG X.prog X.w) a vs:=by
 obtain⟨_,nd,z,M,hk,he⟩:=g;obtain⟨vs,t,n,o,i⟩:=he.pairs (P:=X.prog);refine#[vs,n,_,z,M,I.kIn a _ hk,#[rfl,rfl,rfl],rfl,λe he=>i e (by simpa using he),t,?_];rw[o];have:kvs.map (λkv=>(a1Z kv.1:Key))=(kvs.map (·.1)).map a1Z:=by rw[zD];rfl
 rw[this];unfold List.Nodup;rw[a5J];exact nd.imp λ{a b} q e=>q (by injection e)
def vQ (kvs:List (Str×Str)) (ty:TE):TE:=λσ H Q=>ty σ H λy e=>∃k:Str,y = .str k/\Q (((kvs.lookup k).map V.str).getD .non) e
theorem YA (kvs:List (Str×Str)) (k:Str):DW (kvs.map λkv=>((a1Z kv.1:Key),V.str kv.2)) (a1Z k)=(kvs.lookup k).map V.str:=by
 induction kvs with
 | nil=>rfl
 | cons kv r U=>
   obtain⟨a,b⟩:=kv;unfold DW at U ⊢;rw[zI,a9Z,a3Q];by_cases h:a=k;. subst h;simp
   . have h1:decide ((a1Z a:Key)=a1Z k)=false:=decide_eq_false λe=>h (by injection e);have t:(k==a)=false:=by simpa using λe=>h e.symm
     simp only[h1,t];exact U
theorem sD {x:Str}{p apos n:fb}{e:ca}{ty:TE}{kvs:List (Str×Str)}(hg:Gl X x) (j:∃a,X.mg x=al (.ref a)/\GDict X.w X.K a kvs) (he:PE X e ty) (m:M1 X (.Name x p) "get" apos e n) (hd:(x==("__debug__":Str))=false:=by decide) :
   PE X (.Call (.Attribute (.Name x p) "get" apos) [e] [] n) (vQ kvs ty):=by
 obtain⟨a,j,g⟩:=j;intro pins s σ H Q I h;refine wpAny_Call_method m.base m.few m.line b3V b0Z PySem.F.type_dict_get (V3 I hg j ?_ hd);obtain⟨S,rel,o⟩:=g.at I;refine#[o.typeIs,λb q=>?_,?_];. cases q;obtain⟨v,_,_,h1,u,_⟩:=o;exact#[v,h1,u.2.1]
 rw[m.trees];refine b0X rfl (b6K (xP (thn (he pins s σ H _ I h) λT O c=>c0K ?_)));obtain⟨y,r,t,z,k,f,q2⟩:=c;subst f;obtain⟨R,i,N⟩:=g.at t;refine gp b0Z N.typeIs c1K (PySem.F.args_dict_get_2 _ _) (meets_dict_get (AG X.prog X.w) a (HV (k:=a1Z k) z) g.1) #[_,N.mapOf,?_];refine#[_,r,t.tok _,?_,q2];have:=(i.val (a1Z k)).getD (show RelV .non .none from rfl);rw[YA] at this;exact this
def A0a (K:Frg) (a:Addr) (ss:List Str):Prop:=∃(e:Array ar) (n:Nat),K.lookup a=al { cls:=.type "tuple", data:=.seq e n }/\e.size<=bd/\StrsAre e.toList ss
end
end L2
namespace DL
open PySem PySem.Spec L2
section
def VY:Option Str->PyData | some z=>.str z | none=>.none
theorem sE (h:DE K ty ρ M λy M1=>∃k,y = .d (.str k)/\Q (.d (VY (kvs.lookup k))) M1):DE K (vQ kvs ty) ρ M Q:=λi H QQ R k=>
 h i H _ R λv t x M1 n o a h1=>by
   obtain⟨z,rfl,q⟩:=h1;refine#[z,BA o,?_];cases e:kvs.lookup z with
   | none=>rw[e] at q;exact k _ t (.d .none) M1 n (by unfold SI DV;rfl) a q
   | some y=>rw[e] at q;exact k _ t (.d (.str y)) M1 n GS a q
theorem sF {X:Cx}{x:Str}{a:Addr}{pos:fb}(hg:Gl X x) (j:X.mg x=al (.ref a)) (hd:(x==("__debug__":Str))=false:=by decide):PE X (.Name x pos) (tC (.ref a)):=V4 hg j rfl hd
theorem sG (g:A0a K a ss) (q:Q (.d (.tuple (ss.map .str))) M):DE K (tC (.ref a)) ρ M Q:=λo H QQ R k=>by obtain⟨e,n,hk,t,hs⟩:=g;refine k _ H (.d (.tuple (ss.map .str))) M R.own ?_ Step.refl q;unfold SI DV;exact#[a,ss.map V.str,rfl,.inr #[_,e,n,hk,rfl,rfl,t,eL hs],G6]
theorem lY {neg:Bool}{ys:List Str}(q:Q (.d (.bool (if neg then !decide (x∈ys) else decide (x∈ys)))) M):D2 K (rIn K neg) (.d (.str x)) (.d (.tuple (ys.map .str))) M Q:=λH v u QQ n o t k=>by rw[BA o];unfold SI DV at t;obtain⟨a,i,rfl,m,hd⟩:=t;have e:=MP hd;subst e;exact#[a,_,rfl,.inr m.sq,rfl,by simp[KZ],k _ H (.d (.bool (if neg then !decide (x∈ys) else decide (x∈ys)))) M n (by rw[Y3];exact AF) Step.refl q]
theorem PF {ys:List Str}(q:Q (.d (.bool (decide (x∈ys)))) M):D2 K (lA K) (.d (.str x)) (.d (.tuple (ys.map .str))) M Q:=GK (lY (neg:=bj) q)
theorem lZ {ys:List Str}(q:Q (.d (.bool (!decide (x∈ys)))) M):D2 K (VR K) (.d (.str x)) (.d (.tuple (ys.map .str))) M Q:=GK (lY (neg:=ap) q)
end
end DL
namespace L2
open PySem PySem.Spec PyProof.Rows
section
def VZ:V->List V->Hp->VK->Prop:=λv n H Q=>∃x y,v = .str x/\n=[.str y]/\Q (.bl (Txt.startswith x y)) H
theorem i0:MtR X "str.startswith" VZ:=by intro pins s i H x o v a Q I e T h;obtain⟨y,z,rfl,rfl,q⟩:=h;obtain⟨t,rfl⟩:=e;obtain⟨u,rfl,n,rfl⟩:=EW T;exact SC.startswith #[.bl _,H,I,rfl,q]
def PB (z:Str) (n:Int):Str:=if (n==1||z.length==0)=ap then z else #[(a3J n.toNat z.cps).foldl (·++·) #[]]
def eO:R2:=λx y H Q=>(rI (λi j=>IntMulOk i j) λi j=>.int (i*j)) x y H Q\/∃z n,x = .str z/\y = .int n/\1<=n/\n<=8/\z.length<=1000/\Q (.str (PB z n)) H
theorem YB (a:Array Nat):∀(n:Nat) (b:Array Nat),(List.foldl (λS x=>S++x) b (a3J n a)).size=b.size+n*a.size
 | 0,b=>by simp
 | n+1,b=>by rw[b3X,b7V,YB a n,Array.size_append,Nat.succ_mul];lia
theorem QM (a:Array Nat):∀(n:Nat) (b:Array Nat),(List.foldl (λS x=>S++x) b (a3J n a)).toList=b.toList++(a3J n a.toList).flatten
 | 0,b=>by simp
 | n+1,b=>by rw[b3X,b7V,QM a n,b3X];simp
theorem sH:OpR X (eg .Mult) eO:=by
 intro pins s f H x y v u Q I r p h;rcases h with h | ⟨z,n,rfl,rfl,h1,o,G,q⟩
 . exact(opI (C:=λi j=>IntMulOk i j) λ_ _ _ _ _ _ _ hc q=>mul_int q hc) pins s f H x y v u Q I r p h
 . obtain⟨t,rfl⟩:=r;obtain⟨g,rfl⟩:=p;have hp:(2:Int) ^ 63=9223372036854775808:=by decide
   refine P.mul_str ?_ (λ_ _=>?_) (λ_ _=>?_) ?_;. rw[decide_eq_false (Int.not_lt.mpr (Int.le_trans (by decide) h1)),decide_eq_false (Int.not_le.mpr (Int.lt_of_le_of_lt o (by decide)))];rfl
   . rw[hp];have b:(1000:Int)<=(9223372036854775808 - 1)/n:=Int.le_ediv_of_mul_le (Int.lt_of_lt_of_le (by decide) h1) (Int.le_trans (Int.mul_le_mul_of_nonneg_left o (by decide)) (by decide));exact λhc=>absurd (Int.lt_of_le_of_lt b hc) (Int.not_lt.mpr (Int.ofNat_le.mpr G))
   . have a:z.length*n.toNat<=1000*1000:=Nat.mul_le_mul G (by lia);unfold Builtin.Str.tooLong;rw[decide_eq_false];exact λhc=>absurd (zP hc a) (by decide)
   . rw[if_neg (by lia)];have m:=q;unfold PB at m;split;. rename_i e;rw[if_pos e] at m;exact#[.str z,H,I,#[_,rfl],m]
     . rename_i e;rw[if_neg e] at m;refine#[?_,#[.str _,H,I.tok _,#[_,rfl],m]];show(List.foldl (λS c=>S++c) #[] (a3J n.toNat z.cps)).size<=bd;rw[YB];have a:(#[]:Array Nat).size+n.toNat*z.cps.size<=8*1000:=by rw[show(#[]:Array Nat).size=0 from rfl,Nat.zero_add];exact Nat.mul_le_mul (by lia) G
       exact zN a (by decide)
end
end L2
namespace DL
open PySem PySem.Spec L2
section
variable {X:Cx}{K:Frg}
theorem YC (_:X.K=K):MtR X "str.startswith" VZ:=i0
theorem A1v (_:X.K=K):OpR X (eg .Mult) eO:=sH
def vR:List V->Hp->VK->Prop:=λt H Q=>(∃i,t=[.int i]/\Q (.int i) H)\/∃k,t=[.bl k]/\Q (.int (if k then 1 else 0)) H
def eR:List V->Hp->VK->Prop:=λt H Q=>∃i j,t=[.int i,.int j]/\A1R i j/\∀p,H p=am->Q (.ref p) (upd H p (.tup [.int (i/j),.int (i % j)]))
theorem A2l (_:X.K=K):BO X (.type "int") vR:=gK
theorem sI (_:X.K=K):BO X (.builtin "divmod") eR:=XS
end
section
theorem i3 (q:Q (.d (.bool (Txt.startswith x y))) M):DM K VZ (.d (.str x)) [.d (.str y)] M Q:=λH v o QQ e t n k=>by obtain⟨u,r,rfl,h1,a⟩:=n;cases a;rw[BA t,BA h1];exact#[x,y,rfl,rfl,k _ H _ M e AF Step.refl q]
theorem m3 (c:IntMulOk i j) (q:Q (.d (.int (i*j))) M):D2 K eO (.d (.int i)) (.d (.int j)) M Q:=λH v u QQ e t n k=>by rw[BC t,BC n];exact .inl #[i,j,rfl,rfl,c,k _ H _ M e D0 Step.refl q]
theorem A0b (h1:1<=n) (a:n<=8) (G:z.length<=1000) (q:Q (.d (.str (PB z n))) M):D2 K eO (.d (.str z)) (.d (.int n)) M Q:=λH v u QQ e t o k=>by rw[BA t,BC o];exact .inr #[z,n,rfl,rfl,h1,a,G,k _ H _ M e GS Step.refl q]
theorem sJ {b:Bool}(q:Q (.d (.int (if b then 1 else 0))) M):DR K vR [.d (.bool b)] M Q:=λH n QQ u s k=>by obtain⟨v,r,rfl,h1,a⟩:=s;cases a;rw[vK h1];exact .inr #[b,rfl,k _ H _ M u D0 Step.refl q]
theorem i4 (h0:0 < j) (e:j < 1073741824) (q:Q (.d (.tuple [.int (i/j),.int (i % j)])) M):DR K eR [.d (.int i),.d (.int j)] M Q:=λH n QQ u s k=>by obtain⟨v,r,rfl,h1,o,t,rfl,a,G⟩:=s;cases G;rw[BC h1,BC a];refine#[i,j,rfl,#[h0,e],λp hp=>?_];have g:Grow K M.W M.W H (upd H p (.tup [.int (i/j),.int (i % j)])):=AZ _ hp;refine k _ _ (.d (.tuple [.int (i/j),.int (i % j)])) M (u.new hp) ?_ #[g] q;unfold SI DV;exact#[p,_,rfl,.inl #[λw=>w (u.none hp),.inl AD],DVs.cons (by unfold DV;rfl) (DVs.cons (by unfold DV;rfl) DVs.nil)]
theorem m4  (h:DE K to ρ M λo M1=>DE K J ρ M1 λi M2=>∃a xs k j,o = .loc a/\i = .d (.int k)/\M2 a=al (.l xs)/\ixN xs.length k=al j/\DGs K g ds ρ (M2.put a (.l (xs.set j d))) P) :
   DGs K (dR (A1M to J vD) g) (d::ds) ρ M P:=λn H T QQ R hd X=>by unfold DVs at hd;obtain⟨v,r,rfl,h1,B⟩:=hd;refine#[v,r,rfl,h n H _ R λw N y M2 o2 s2 f G=>G n N _ (R.step o2 f) λu H3 z M3 c s3 x L=>?_];obtain⟨a,xs,k,j,rfl,rfl,m,U,q⟩:=L;rw[BC s3];have e:=s2.step x;unfold SI at e;subst e;obtain⟨T,h0,Z⟩:=c a _ m;have b:=f.trans x;obtain⟨p1,p2⟩:=DY c m (Z.set j (DV.grow b.grow h1));have t:=b.trans p2;exact#[a,T,k,j,rfl,rfl,h0,by rw[Z.length];exact U,q n _ r _ (R.step p1 t) (DVs.grow t.grow B) λY O S H' I D p=>X Y O S H' I (t.trans D) p]
end
end DL
namespace L2
open PySem PySem.Spec PyProof.Rows PySem.W
theorem W0 {ns:List Int}(h:WData.layableAll [WData.list (ns.map WData.int)]=ap):∀i∈ns,xJ i<=2 ^ 20:=by
 have h1:WData.weightAll (ns.map WData.int)<=2 ^ 20:=by
   have h0:WData.layable (WData.list (ns.map WData.int))=true:=by unfold WData.layableAll at h;simpa using h
   unfold WData.layable at h0;rw[a1J] at h0;exact of_decide_eq_true h0.2
 intro i hi;refine zN ?_ h1;clear h h1;induction ns with
 | nil=>cases hi
 | cons n r U=>
   rw[zI];show _<=WData.weight (.int n)+1+WData.weightAll (r.map WData.int);rcases yX.mp hi with rfl | hi;. have:WData.weight (.int i)=xJ i:=rfl;lia
   . have:=U hi;lia
theorem m5 {l:PySem.W.OpenLaw}{n k:Nat}{q:bq}{loose:List Str}{XP:(Str->Option ar)->db->Prop}{YP:bo->db->Prop}{d:DefRec}{K:ew->Frg}{CX:bo->CXT}{sp:bo->Sp}{x:Str} (hn:l.most=al n) (N:n<=bd) (j:d.params.defaults=[]) (hr:Room k callerA) (D:∀(w:bo) (h:db),YP w h->(K w.params).In h) (F:∀(w:bo) (mg:Str->Option ar) (t:Addr) (h:db),(K w.params).In h->h.Ns bm mg->mg d.name=al (.ref t) ->∃O:gy,(∀(s:ba) (u:ar),BindsTo s O #[[u],[]] [(x,u)]) /\∀base:db,(K w.params).In base->base.Ns bm mg->FnOk l.prog w (K w.params) mg base (CX w) k t O [x] (sp w)) (L:∀(w:bo) (H:Hp) (a:Addr) (ns:List Int),ns.length<=n->(∀i∈ns,xJ i<=2 ^ 20)->yS H->SqL (K w.params) H a (ns.map V.int)->sp w [.ref a] H (λv _=>v = .bl ap) λ_ _ _=>False) (c:∀(w:bo) (H:Hp) (s:ba) (e:ar) (s':ba),CX w [] H s (λ_ _ _=>False) e s'->False) :
   PySem.W.WalkO q loose XP YP l.row.toRowW d [] (λf vs=>PySem.call f vs):=by
 intro w p J mg mb G Y t o pm cd doc I kV ho hd n_ hD Z hg args vals as U y Mn X Mo;have S:I = .none:=Dflts.none hD j;subst S;have M:kV = .none:=Dflts.noKw hD;subst M;obtain⟨a,vs,ns,rfl,rfl,z,wx,m⟩:=Att.script_of hn U X;have Q:=W0 y;refine enter_call (codeAny_mono (R:=λr s'=>r = .ok (.ret (.bool ap))/\OldK J.heap s'.heap/\s'.os=J.os/\io s'.gens) ?_ λr s' hq=>?_);. have KX:=D w _ Y;obtain⟨O,hb,hF⟩:=F w mg t _ KX G.T.g Z;exact kU KX G.T.g G.T.b G.T.builtins G.T.nolimit hg z wx (zN m N) hr hF hb (λH hO hS=>L w H a ns m Q hO hS) λH e s'=>c w H J e s'
 . have h1:=hq.1;subst h1;exact#[.inl #[.bool ap,.bool ap,[],rfl,λ_=>rfl,.bool ap,Att.post_true l _,λ_=>#[List.Pairwise.nil,λ_ B=>(nomatch B)]],hq.2.1,hq.2.2.1,hq.2.2.2]
end L2
namespace DL
open PySem PySem.Spec L2
theorem QN (i m:Nat) (a:Array Nat):((a1K m).map (i+·)).filterMap (λj=>a[j]?)=(a.toList.drop i).take m:=by
 induction m with
 | zero=>simp
 | succ m U=>
   rw[List.range_succ,xI,List.filterMap_append,U,a0V];have e:a[i+m]?=(a.toList.drop i)[m]?:=by rw[List.getElem?_drop];simp
   simp only[zI,a9W,a5W,List.filterMap_nil,e];cases (a.toList.drop i)[m]? <;> simp
theorem bN (n len:Nat):max 0 (min (n:Int) (len:Int))=((min n len:Nat):Int):=by
 rcases Nat.le_total n len with h | h;. rw[b1W h,Int.min_eq_left (Int.ofNat_le.mpr h),Int.max_eq_right (b0W _)]
 . rw[b6V h,Int.min_eq_right (Int.ofNat_le.mpr h),Int.max_eq_right (b0W _)]
theorem m6 (a b:Nat):(if (a:Int) < (b:Int) then ((b:Int) - (a:Int)+1 - 1)/1 else 0).toNat=b - a:=by
 split;. rw[Int.ediv_one];lia
 . lia
theorem m7 (n len:Nat):a4Q (al (n:Int)) am 1 len=(a1K (len - min n len)).map (min n len+·):=by unfold a4Q sliceRange;have h1:¬((n:Int) < 0):=Int.not_lt.mpr (b0W n);have a:=bN n len;simp only[show(1:Int) > 0 by decide,if_true,h1,if_false,a];have G:(if ((min n len:Nat):Int) < (len:Int) then ((len:Int) - ((min n len:Nat):Int)+1 - 1)/1 else 0).toNat=len - min n len:=m6 _ _;rw[G];apply yM;intro i hi;lia
theorem sK (n k len:Nat):a4Q (al (n:Int)) (al (k:Int)) 1 len=(a1K (min k len - min n len)).map (min n len+·):=by unfold a4Q sliceRange;have h1:¬((n:Int) < 0):=Int.not_lt.mpr (b0W n);have Y:¬((k:Int) < 0):=Int.not_lt.mpr (b0W k);have a:=bN n len;have M:=bN k len;simp only[show(1:Int) > 0 by decide,if_true,h1,Y,if_false,a,M];have G:(if ((min n len:Nat):Int) < ((min k len:Nat):Int) then (((min k len:Nat):Int) - ((min n len:Nat):Int)+1 - 1)/1 else 0).toNat=min k len - min n len:=m6 _ _;rw[G];apply yM;intro i hi;lia
theorem HG (z:Str) (n:Nat):(a1X z (al (n:Int)) am).cps.toList=z.cps.toList.drop n:=by
 unfold a1X;rw[m7];have m:z.length=z.cps.toList.length:=by simp[Str.length]
 split
 . rename_i h;rw[a1J] at h;have h:=eq_of_beq h.2;rw[zX,xZ] at h;have h0:n=0\/z.cps.toList.length=0:=by rw[m] at h;lia
   rcases h0 with rfl | h0;. simp
   . rw[List.length_eq_zero_iff.mp h0];simp
 . show(List.filterMap _ _).toArray.toList=_;rw[QN,List.toList_toArray,m];by_cases h:n<=z.cps.toList.length;. rw[b1W h,a5Q (by rw[a4K];exact zR _)]
   . rw[b6V (by lia),a3W (zR _),a3W (by lia)];simp
theorem i5 (z:Str) (n k:Nat):(a1X z (al (n:Int)) (al (k:Int))).cps.toList=(z.cps.toList.take k).drop n:=by
 unfold a1X;rw[sK];have m:z.length=z.cps.toList.length:=by simp[Str.length]
 have key:(z.cps.toList.drop (min n z.length)).take (min k z.length - min n z.length)=(z.cps.toList.take k).drop n:=by
   rw[m,List.drop_take];by_cases h:n<=z.cps.toList.length
   . rw[b1W h,b6Q,a4K];rcases Nat.le_total k z.cps.toList.length with h' | h';. rw[b1W h']
     . rw[b6V h',Nat.min_self,b6V (Nat.sub_le_sub_right h' n)]
   . rw[a3W (show z.cps.toList.length<=min n z.cps.toList.length by lia),a3W (show z.cps.toList.length<=n by lia)];simp
 split
 . rename_i h;rw[a1J] at h;have h:=eq_of_beq h.2;rw[zX,xZ] at h;rw[<-key];have e:=Nat.min_le_right k z.length;have h0:min n z.length=0\/z.cps.toList.length=0:=by rw[<-m];revert h e;generalize min k z.length=a;generalize min n z.length=b;lia
   rcases h0 with h0 | h0
   . have Z:z.cps.toList.length<=min k z.length - 0:=by rw[<-m];rw[h0] at h;exact Nat.le_of_eq h.symm
     rw[h0,List.drop_zero,a5Q Z]
   . rw[List.length_eq_zero_iff.mp h0];simp
 . show(List.filterMap _ _).toArray.toList=_;rw[QN,List.toList_toArray,key]
theorem bO (h:i < N) (hN:N<=26):i/8 < 26:=zQ (Nat.div_le_self i 8) (zP h hN)
theorem LR (k:Nat):(1:Int)<=1+(k:Int) % 8/\1+(k:Int) % 8<=8/\1<=(1+(k:Int) % 8).toNat/\(1+(k:Int) % 8).toNat<=8:=by have e:(k:Int) % 8=((k % 8:Nat):Int):=rfl;rw[e];have:=Nat.mod_lt k (show 8 > 0 by decide);clear e;generalize k % 8=r at *;lia
theorem A1w {i j:Nat}(h1:(1:Int)+(i:Int) % 8=1+(j:Int) % 8) (e:i/8=j/8):i=j:=by
 have a:=Nat.div_add_mod i 8;have b:=Nat.div_add_mod j 8;have c:i % 8=j % 8:=by have:=Int.add_left_cancel h1;exact Int.ofNat.inj this
 rw[<-a,<-b,e,c]
theorem A0c (h:t<=26):26 - t+min t 26=26:=by rw[b1W h,Nat.sub_add_cancel h]
theorem A0d (h:s<=7):min (3+s) L - 3<=7:=zN (Nat.sub_le_sub_right (Nat.min_le_left _ _) 3) (by rw[c2J];exact h)
def bP (z:Str):Prop:=∀c∈z.cps.toList,G7 c=ap
theorem QO (h:bP z) (h1:1<=z.cps.toList.length) (a:z.cps.toList.length<=8):B9 z:=#[by rw[NZ];exact h1,by rw[NZ];exact a,h]
theorem QR (h1:bP a) (e:bP b):bP (a++b):=λc hc=>by rw[AU] at hc;exact(yW.mp hc).elim (h1 c) (e c)
theorem YD (h:G7 c=ap):bP #[(z3 [c])]:=λd hd=>by
 have:d=c:=by simpa using hd
 subst this;exact h
theorem W1 (h1:1<=n):(PB #[(z3 [c])] n).cps.toList=a3J n.toNat c:=by
 unfold PB;split
 . rename_i h;have:n=1:=by
     rw[Bool.or_eq_true,beq_iff_eq,beq_iff_eq] at h;rcases h with h | h;. exact h
     . exact absurd h (show ¬(1=0) by decide)
   subst this;rfl
 . show(List.foldl _ _ _:Array Nat).toList=_;rw[QM];show []++(a3J n.toNat [c]).flatten=_;rw[List.nil_append];induction n.toNat with
   | zero=>rfl
   | succ m U=>rw[b3X,List.flatten_cons,U,b3X];rfl
end DL
namespace L2
open PySem PySem.Spec PyProof.Rows
abbrev BQ (F:List Addr) (S:db->Prop):Prop:=∀h h':db,S h->(∀c∈F,∀o,h.get? c=al o->h'.get? c=al o)->S h'
abbrev NxI (P:bq) (w:bo) (A:cx) (i:Addr) (S T:db->Prop) (R:ar->Prop):Prop:=∀(s:ba) (Q:ar->ba->Prop) (E:ar->ba->Prop),S s.heap->(∀h' L x,R x->T h'->Heap.SameBut i s.heap h'->Q x { s with heap:=h',toks:=L })->wpAny (model P w) A (a0K (.ref i)) Q E s
abbrev NxE (P:bq) (w:bo) (A:cx) (i:Addr) (S:db->Prop):Prop:=∀(s:ba) (Q:ar->ba->Prop) (E:ar->ba->Prop),S s.heap->(∀h' e,Heap.ExtBut i s.heap h'->(∃o,h'.get? e=al o/\o.cls = .type "StopIteration")->E (.ref e) { s with heap:=h' })->wpAny (model P w) A (a0K (.ref i)) Q E s
structure ZAp (z TI TO i1 i2:Addr) (F1 F2:List Addr):Prop where
 tz:TO≠z
 az:i1≠z
 bz:i2≠z
 ta:TO≠i1
 tb:TO≠i2
 ab:i1≠i2
 f1:∀c∈F1,c≠z/\c≠TO/\c≠i2
 f2:∀c∈F2,c≠z/\c≠TO/\c≠i1
section
variable {prog:bq}{w:bo}{A:cx}{E:ar->ba->Prop}{s:ba}{z TI TO i1 i2:Addr}{F1 F2:List Addr}{S1 gx S2 jg:db->Prop}{R1 R2:ar->Prop}{a b:ar}
theorem i6 {Q:ar->ba->Prop}(D:ZAp z TI TO i1 i2 F1 F2) (t1:BQ F1 S1) (S:BQ F1 gx) (t2:BQ F2 S2) (L:BQ F2 jg) (n1:NxI prog w A i1 S1 gx R1) (n2:NxI prog w A i2 S2 jg R2) (r:ft s.heap z TI TO .none) (fq:dd s.heap TI (.ref i1) (.ref i2)) (ml:dd s.heap TO a b) (h1:S1 s.heap) (h2:S2 s.heap) (l1:∀h,gx h->i1 < h.objs.size) (l2:∀h,jg h->i2 < h.objs.size) (hQ:∀h' tk x y,R1 x->R2 y->ft h' z TI TO (et s.heap.objs.size)->dd h' TO x y->gx h'->jg h'->dd h' s.heap.objs.size x y->h'.objs.size=s.heap.objs.size+1 ->(∀c o,c≠z->c≠TO->c≠i1->c≠i2->s.heap.get? c=al o->h'.get? c=al o)->Q (.ref s.heap.objs.size) { s with heap:=h',toks:=tk }) :
   wpAny (model prog w) A (Builtin.«zip.__next__» #[[.ref z],[]]) (λfin s'=>∃v,fin = .done (.ret v)/\Q v s') E s:=by
 show wpAny _ _ (gv (.ref z) 2 >>= _) _ _ _;refine zZ (bn r rfl (x:=.bool bj) rfl ?_);show wpAny _ _ (gv (.ref z) 3 >>= _) _ _ _;refine zZ (bn r rfl (x:=.ref TI) rfl ?_);refine zZ (c4 fq rfl ?_);show wpAny _ _ (a0J (.ref z) >>= _) _ _ _;refine zZ ?_;unfold a0J;refine zZ (bn r rfl (x:=.none) rfl (zY ?_));simp only[if_true];refine zZ (dV ?_);refine zZ (bn r rfl (x:=.ref TO) rfl ?_);refine zZ (dl r (by simp) λg1 O q1=>?_);replace O:ft g1 z TI TO .ellipsis:=O;refine zZ ?_;simp only[b4X,c0Q,c2K,List.zipIdx_nil];refine zZ (zZ (g5 ?_));show wpAny _ _ (a0K (.ref i1) >>= _) _ _ _;refine zZ (n1 _ _ _ (t1 _ _ h1 λc hc o e=>q1.extBut _ _ (D.f1 c hc).1 e) λg2 k2 x rx x2 q2=>zY ?_);have B:dd g2 TO a b:=q2.extBut _ _ D.ta (q1.extBut _ _ D.tz ml);refine zZ (c4 B rfl ?_);refine zZ (iE B λg3 u m=>?_);replace u:dd g3 TO x b:=u;refine zZ (wpAny_letGo (zY ?_));refine zZ (zZ (g5 ?_));show wpAny _ _ (a0K (.ref i2) >>= _) _ _ _;refine zZ (n2 _ _ _ (t2 _ _ h2 λc hc o e=>m.extBut _ _ (D.f2 c hc).2.1 (q2.extBut _ _ (D.f2 c hc).2.2 (q1.extBut _ _ (D.f2 c hc).1 e))) λg4 k4 y ry x4 M=>zY ?_);have G:dd g4 TO x b:=M.extBut _ _ D.tb u;refine zZ (c4 G rfl ?_);refine zZ (iE G λt g p=>?_);replace g:dd t TO x y:=g;refine zZ (wpAny_letGo (zY (zY ?_)));refine zZ (c4 g rfl ?_);refine zZ (wpAny_newTuple ?_);have hsz:t.objs.size=s.heap.objs.size:=by rw[p.1,M.1,m.1,q2.1,q1.1]
 have X:ft t z TI TO .ellipsis:=p.extBut _ _ D.tz.symm (M.extBut _ _ D.bz.symm (m.extBut _ _ D.tz.symm (q2.extBut _ _ D.az.symm O)));have k5:∀c o,c≠z->c≠TO->c≠i1->c≠i2->s.heap.get? c=al o->t.get? c=al o:=λc o n f k q e=>p.extBut _ _ f (M.extBut _ _ q (m.extBut _ _ f (q2.extBut _ _ k (q1.extBut _ _ n e))));have Y:gx t:=S _ _ x2 λc hc o e=>p.extBut _ _ (D.f1 c hc).2.1 (M.extBut _ _ (D.f1 c hc).2.2 (m.extBut _ _ (D.f1 c hc).2.1 e));have Z:jg t:=L _ _ x4 λc hc o e=>p.extBut _ _ (D.f2 c hc).2.1 e;have R:z < t.objs.size:=zM X;show wpAny _ _ (b8K (.ref z) (.ref t.objs.size) >>= _) _ _ _;refine zZ ?_;unfold b8K;have y6:ft (t.push { cls:=.type "tuple", data:=.seq (z3 [x,y]) }) z TI TO .ellipsis:=zW _ X;refine zZ (dl y6 (by simp) λg7 I T=>?_);replace I:ft g7 z TI TO (et t.objs.size):=I;refine dl I (by simp) λi j N=>?_;replace j:ft i z TI TO (et t.objs.size):=j;have up:∀c o,c≠z->t.get? c=al o->i.get? c=al o:=λc o n e=>N.extBut _ _ n (T.extBut _ _ n (zW _ e));have J:dd i t.objs.size x y:=N.extBut _ _ (a8K R) (T.extBut _ _ (a8K R) (yZ _ rfl));have U:i.objs.size=t.objs.size+1:=by rw[N.1,T.1,b2W]
 rw[hsz] at j J U;refine zY #[_,rfl,?_];show Q (.ref t.objs.size) _;rw[hsz];exact hQ i _ x y rx ry j (up _ _ D.tz g) (S _ _ Y λc hc o e=>up c o (D.f1 c hc).1 e) (L _ _ Z λc hc o e=>up c o (D.f2 c hc).1 e) J U λc o n f k q e=>up c o n (k5 c o n f k q e)
theorem U7 (D:ZAp z TI TO i1 i2 F1 F2) (y:BQ F1 S1) (Z:NxE prog w A i1 S1) (t:ft s.heap z TI TO .none) (M:dd s.heap TI (.ref i1) (.ref i2)) (v:dd s.heap TO a b) (h1:S1 s.heap) (hE:∀h' e tk,(∀c o,c≠z->c≠TO->c≠i1->c≠i2->s.heap.get? c=al o->h'.get? c=al o)->(∃o,h'.get? e=al o/\o.cls = .type "StopIteration")->E (.ref e) { s with heap:=h',toks:=tk }) :
   wpAny (model prog w) A (Builtin.«zip.__next__» #[[.ref z],[]]) Q E s:=by
 show wpAny _ _ (gv (.ref z) 2 >>= _) _ _ _;refine zZ (bn t rfl (x:=.bool bj) rfl ?_);show wpAny _ _ (gv (.ref z) 3 >>= _) _ _ _;refine zZ (bn t rfl (x:=.ref TI) rfl ?_);refine zZ (c4 M rfl ?_);show wpAny _ _ (a0J (.ref z) >>= _) _ _ _;refine zZ ?_;unfold a0J;refine zZ (bn t rfl (x:=.none) rfl (zY ?_));simp only[if_true];refine zZ (dV ?_);refine zZ (bn t rfl (x:=.ref TO) rfl ?_);refine zZ (dl t (by simp) λg i q1=>?_);replace i:ft g z TI TO .ellipsis:=i;refine zZ ?_;simp only[b4X,c0Q,c2K,List.zipIdx_nil];refine zZ (zZ (g5 ?_));show wpAny _ _ (a0K (.ref i1) >>= _) _ _ _;refine zZ (Z _ _ _ (y _ _ h1 λc hc o e=>q1.extBut _ _ (D.f1 c hc).1 e) λj e q2 he=>?_);obtain⟨u,n,q⟩:=he;have p:ft j z TI TO .ellipsis:=q2 _ _ D.az.symm i;have L:e≠z:=λx=>by subst x;rw[p] at n;cases n;simp at q
 exact dl p (by simp) λk _ m=>hE k e _ (λc o r _ f _ x=>m.extBut _ _ r (q2 _ _ f (q1.extBut _ _ r x))) #[u,m.extBut _ _ L n,q]
theorem i7 (D:ZAp z TI TO i1 i2 F1 F2) (G:BQ F1 S1) (J:BQ F2 S2) (Z:NxI prog w A i1 S1 gx R1) (B:NxE prog w A i2 S2) (t:ft s.heap z TI TO .none) (u:dd s.heap TI (.ref i1) (.ref i2)) (R:dd s.heap TO a b) (h1:S1 s.heap) (I:S2 s.heap) (hE:∀h' e tk,(∀c o,c≠z->c≠TO->c≠i1->c≠i2->s.heap.get? c=al o->h'.get? c=al o)->(∃o,h'.get? e=al o/\o.cls = .type "StopIteration")->E (.ref e) { s with heap:=h',toks:=tk }) :
   wpAny (model prog w) A (Builtin.«zip.__next__» #[[.ref z],[]]) Q E s:=by
 show wpAny _ _ (gv (.ref z) 2 >>= _) _ _ _;refine zZ (bn t rfl (x:=.bool bj) rfl ?_);show wpAny _ _ (gv (.ref z) 3 >>= _) _ _ _;refine zZ (bn t rfl (x:=.ref TI) rfl ?_);refine zZ (c4 u rfl ?_);show wpAny _ _ (a0J (.ref z) >>= _) _ _ _;refine zZ ?_;unfold a0J;refine zZ (bn t rfl (x:=.none) rfl (zY ?_));simp only[if_true];refine zZ (dV ?_);refine zZ (bn t rfl (x:=.ref TO) rfl ?_);refine zZ (dl t (by simp) λv r q1=>?_);replace r:ft v z TI TO .ellipsis:=r;refine zZ ?_;simp only[b4X,c0Q,c2K,List.zipIdx_nil];refine zZ (zZ (g5 ?_));show wpAny _ _ (a0K (.ref i1) >>= _) _ _ _;refine zZ (Z _ _ _ (G _ _ h1 λc hc o e=>q1.extBut _ _ (D.f1 c hc).1 e) λy X x rx x2 q2=>zY ?_);have p:dd y TO a b:=q2.extBut _ _ D.ta (q1.extBut _ _ D.tz R);refine zZ (c4 p rfl ?_);refine zZ (iE p λU Y n=>?_);refine zZ (wpAny_letGo (zY ?_));refine zZ (zZ (g5 ?_));show wpAny _ _ (a0K (.ref i2) >>= _) _ _ _;refine zZ (B _ _ _ (J _ _ I λc hc o e=>n.extBut _ _ (D.f2 c hc).2.1 (q2.extBut _ _ (D.f2 c hc).2.2 (q1.extBut _ _ (D.f2 c hc).1 e))) λT e M he=>?_);obtain⟨S,i,q⟩:=he;have O:ft T z TI TO .ellipsis:=M _ _ D.bz.symm (n.extBut _ _ D.tz.symm (q2.extBut _ _ D.az.symm r));have L:e≠z:=λx=>by subst x;rw[O] at i;cases i;simp at q
 exact dl O (by simp) λN _ f=>hE N e _ (λc o m g j k x=>f.extBut _ _ m (M _ _ k (n.extBut _ _ g (q2.extBut _ _ j (q1.extBut _ _ m x))))) #[S,f.extBut _ _ L i,q]
theorem U8 (D:ZAp z TI TO i1 i2 F1 F2) (v:BQ F1 S1) (q:BQ F1 gx) (T:BQ F2 S2) (N:BQ F2 jg) (Z:∀A:cx,NxI prog w A i1 S1 gx R1) (B:∀A:cx,NxI prog w A i2 S2 jg R2) (t:ft s.heap z TI TO .none) (M:dd s.heap TI (.ref i1) (.ref i2)) (u:dd s.heap TO a b) (h1:S1 s.heap) (j:S2 s.heap) (l1:∀h,gx h->i1 < h.objs.size) (l2:∀h,jg h->i2 < h.objs.size) (k:∀h' tk x y,R1 x->R2 y->ft h' z TI TO (et s.heap.objs.size)->dd h' TO x y->gx h'->jg h'->dd h' s.heap.objs.size x y->h'.objs.size=s.heap.objs.size+1 ->(∀c o,c≠z->c≠TO->c≠i1->c≠i2->s.heap.get? c=al o->h'.get? c=al o)->Q (al (.ref s.heap.objs.size)) { s with heap:=h',toks:=tk }) :
   wpAny (model prog w) A (pyNext (.ref z)) Q E s:=by
 have e:s.TypeIs (.ref z) "zip" := #[_,t,rfl]
 unfold pyNext;exact zZ (er (wpAny_callSpecial?_slot (name:=a0Q "__next__") e a9K (cr a9K e F.entry_zip_next (i6 D v q T N (Z _) (B _) t M u h1 j l1 l2 λh' tk x y b1 n g i r O m p f=>zY (k h' tk x y b1 n g i r O m p f)) (c2Z _))))
theorem U9 (m:A.handled=am) (g:ft s.heap z TI TO .none) (h:∀(f:Fin->ba->Prop) (n:ar->ba->Prop),(∀h' e tk,(∀c o,c≠z->c≠TO->c≠i1->c≠i2->s.heap.get? c=al o->h'.get? c=al o)->(∃o,h'.get? e=al o/\o.cls = .type "StopIteration")->n (.ref e) { s with heap:=h',toks:=tk }) ->∀t:cx,t.handled=am->wpAny (model prog w) t (Builtin.«zip.__next__» #[[.ref z],[]]) f n s) (r:∀h' tk,(∀c o,c≠z->c≠TO->c≠i1->c≠i2->s.heap.get? c=al o->h'.get? c=al o)->Q am { s with heap:=h',toks:=tk }):wpAny (model prog w) A (pyNext (.ref z)) Q E s:=by
 have i:s.TypeIs (.ref z) "zip" := #[_,g,rfl]
 unfold pyNext;refine zZ (er (wpAny_callSpecial?_slot (name:=a0Q "__next__") i a9K (cr a9K i F.entry_zip_next (h _ _ (λh' e tk hk he=>?_) _ ?_) (c2Z _))));. obtain⟨o,p,hc⟩:=he;refine zZ (fw (T:= "StopIteration") (b:=ap) #[o,p,hc] jc ?_);exact zY (r _ _ hk)
 . exact m
end
end L2
namespace L2
open PySem PySem.Spec PyProof.Rows
section
variable {prog:bq}{w:bo}{A:cx}{E:ar->ba->Prop}{s:ba}
theorem m8 (hx:x.cps[k]?=al c):NxI prog w A i (λh=>h.IsStrIter i "str_ascii_iterator" x t k) (λh=>h.IsStrIter i "str_ascii_iterator" x t (k+1)) (λv=>RelV (.str #[(z3 [c])]) v):=
 λs Q E hit e=>wpAny_nextOf_ascii_item hit hx λh' a b=>e h' _ _ #[_,rfl] a b
theorem i8 (e:A.handled=am) (hx:x.cps[k]?=am):NxE prog w A i (λh=>h.IsStrIter i "str_ascii_iterator" x t k):=
 λs Q E hit hE=>wpAny_nextOf_ascii_end e hit hx hE
theorem bQ (e:t≠i) (hx:items[k]?=al y):NxI prog w A i (λh=>h.IsTupleIter i t k/\h.IsTuple t items) (λh=>h.IsTupleIter i t (k+1)/\h.IsTuple t items) (λv=>v=y):=λs Q E hS c=>by obtain⟨hit,a⟩:=hS;obtain⟨o,T,hc,hd⟩:=id hit;obtain⟨f,r,m,g,n⟩:=id a;unfold a0K;refine zZ (wpAny_callSpecial?_slot (name:=a0Q "__next__") hit.typeIs a5Z (cr a5Z hit.typeIs b9X ?_ (b8J _)));show wpAny _ _ (gv (.ref i) 0 >>= _) _ _ s;refine zZ (bn T hd (x:=.ref t) rfl ?_);show wpAny _ _ (if (a0X t==a3X)=ap then _ else _) _ _ s;rw[if_neg (show ¬((a0X t==a3X)=ap) from nft)];show wpAny _ _ (gv (.ref i) 1 >>= _) _ _ s;refine zZ (bn T hd (x:=.int k 0) rfl ?_);show wpAny _ _ (seqItems? (.ref t) >>= _) _ _ s;refine zZ (c4 r n ?_);simp only[a3K,hx];refine zZ (fc T hd (by simp) (zY #[y,rfl,zY (c _ s.toks y rfl #[?_,a.extBut (a6Z ..).extBut e] (a6Z ..))]));exact#[_,b5V _ T (Obj.isFreed_of_fields (b0K hd _)),(Obj.cls_mapFields ..).trans hc,by rw[b0K hd];simp[et]]
abbrev OS (v:ar) (o:dc) (Pre:db->Prop):Prop:=∀(prog:bq) (w:bo) (A:cx) (E:ar->ba->Prop) (s:ba) (Q:ar->ba->Prop),Pre s.heap->Q (.ref s.heap.objs.size) { s with heap:=s.heap.push o }->wpAny (model prog w) A (pyIter v) Q E s
theorem i9 (N:x.cps.all (· < 128)=ap):OS (.str x t) { cls:=.type "str_ascii_iterator", data:=.fields (z3 [.str x t,.int 0 0]) } (λ_=>True):=λprog w A E s Q _ c=>wpAny_pyIter_ascii N c
theorem eT :OS (.ref t) { cls:=.type "tuple_iterator", data:=.fields (z3 [.ref t,.int 0 0]) } (λh=>h.IsTuple t items):=λprog w A E s Q a c=>gu a c
abbrev zH1 (h:db) (k:dc):Heap:=h.push k
abbrev zH2 (h:db) (k e:dc):Heap:=(zH1 h k).push e
abbrev zH3 (h:db) (k e:dc):Heap:=(zH2 h k e).push { cls:=.type "tuple", data:=.seq (z3 [.ref h.objs.size,.ref (zH1 h k).objs.size]) }
abbrev zH4 (h:db) (k e:dc):Heap:=(zH3 h k e).push { cls:=.type "tuple", data:=.seq (z3 [.none,.none]) }
abbrev zH5 (h:db) (k e:dc):Heap:=(zH4 h k e).push { cls:=.type "zip", data:=.fields (z3 [.none,.bool bj,.bool bj,.ref (zH2 h k e).objs.size,.ref (zH3 h k e).objs.size]) }
theorem bR (Z:OS B k u) (a:OS t e i) (n:∀h o,i h->i (h.push o)) :
   Meets (Builtin.«zip.__new__» #[[.type "zip", B,t],[]]) (λ_ R s=>u s.heap/\i s.heap/\R (.ok (.ret (.ref (zH4 s.heap k e).objs.size))) { s with heap:=zH5 s.heap k e }):=
 .of_wp λprog w A R s h=>by
   obtain⟨hp,g,d,L,Q⟩:=s;obtain⟨X,r,h⟩:=h;have m:=sub_zip;have p:i (hp.push k):=n _ _ r
   wp_walk using Z _ _ _ _ _ _ X,a _ _ _ _ _ _ p
   exact#[_,rfl,h]
theorem UA (Z:OS B k u) (v:OS a e i) (g:∀h o,i h->i (h.push o)) (p:k.isFreed=bj) (b:e.isFreed=bj) (h1:u s.heap) (q:i s.heap) (h:∀h',ft h' (s.heap.objs.size+4) (s.heap.objs.size+2) (s.heap.objs.size+3) .none->dd h' (s.heap.objs.size+2) (.ref s.heap.objs.size) (.ref (s.heap.objs.size+1)) ->
     dd h' (s.heap.objs.size+3) .none .none->h'.get? s.heap.objs.size=al k->h'.get? (s.heap.objs.size+1)=al e->(∀c o,s.heap.get? c=al o->h'.get? c=al o)->Q (.ref (s.heap.objs.size+4)) { s with heap:=h' }) :
   wpAny (model prog w) A (call (.type "zip") [B,a]) Q E s:=by
 refine callType_new F.called_zip (by decide) (F.typeCall_zip_2 _ _) (F.newCall_zip_2 _ _) (λobj=>F.args_object_init_3 obj _ _) F.entry_zip_new (bR Z v g) #[h1,q,?_];have z1:(zH1 s.heap k).objs.size=s.heap.objs.size+1:=b2W ..;have t:(zH2 s.heap k e).objs.size=s.heap.objs.size+2:=by rw[b2W,z1]
 have j:(zH3 s.heap k e).objs.size=s.heap.objs.size+3:=by rw[b2W,t]
 have r:(zH4 s.heap k e).objs.size=s.heap.objs.size+4:=by rw[b2W,j]
 have I:(zH5 s.heap k e).get? (zH4 s.heap k e).objs.size=al _:=yZ _ rfl;have X:(zH5 s.heap k e).get? (zH3 s.heap k e).objs.size=al _:=zW _ (yZ _ rfl);have n:(zH5 s.heap k e).get? (zH2 s.heap k e).objs.size=al _:=zW _ (zW _ (yZ _ rfl));have f:(zH5 s.heap k e).get? (zH1 s.heap k).objs.size=al e:=zW _ (zW _ (zW _ (yZ _ b)));have m:(zH5 s.heap k e).get? s.heap.objs.size=al k:=zW _ (zW _ (zW _ (zW _ (yZ _ p))));show _/\_;rw[t,j,r] at I;rw[z1,t] at n;rw[j] at X;rw[z1] at f;rw[r];exact#[#[_,I,rfl],h _ I n X m f λc o x=>zW _ (zW _ (zW _ (zW _ (zW _ x))))]
end
section
theorem QS{X:Cx}{pins:List (Addr×dc)}{σ:St}{H:Hp}{s:ba} (I:Inv X pins σ H s) (B:LM X pins H z) (h:SqT X.K H a xs):a≠z:=by
 rintro rfl;rcases h with h | ⟨o,t,n,hk,_⟩
 . rcases h with h | ⟨r,h⟩ <;> rw[B.1] at h <;> cases h
 . have e:=I.ok.mod.kin a o hk;rcases B.2.2.2.1 with z | z;. exact I.ok.noex a o e z
   . exact absurd (zP (zM e) (zN I.ok.bsz z)) (yF _)
end
end L2
namespace L2
open PySem PySem.Spec PyProof.Rows
section
variable {X:Cx}
def A1x:R2:=λx y H Q=>(y = .non/\Q (.bl (decide (x = .non))) H)\/∃a b:Bool,x = .bl a/\y = .bl b/\Q (.bl (a==b)) H
theorem m9:OpR X (bx .Is) A1x:=by
 intro pins s n H x y v u Q I e t h;rcases h with h | ⟨a,b,rfl,rfl,q⟩
 . exact xE pins s n H x y v u Q I e t h
 . cases e;cases t;refine wpAny_is_plain rfl #[.bl (a==b),H,I,?_,q];cases a <;> cases b <;> rfl
def vT:R2:=λx y H Q=>(y = .non/\Q (.bl (!decide (x = .non))) H)\/∃a b:Bool,x = .bl a/\y = .bl b/\Q (.bl (!(a==b))) H
theorem eU:OpR X (bx .IsNot) vT:=by
 intro pins s n H x y v u Q I e t h;rcases h with h | ⟨a,b,rfl,rfl,q⟩
 . exact pX pins s n H x y v u Q I e t h
 . cases e;cases t;refine wpAny_isNot_plain rfl #[.bl (!(a==b)),H,I,?_,q];cases a <;> cases b <;> rfl
end
end L2
namespace DL
open PySem PySem.Spec L2
section
variable {K:Frg}{ρ:List (Option DS)}{M:Own}{Q:DS->Own->Prop}{QI:List PyData->Own->Prop}
theorem eV (q:Q (.d (.bool (E9 d))) M):D2 K A1x (.d d) (.d .none) M Q:=DZ (A0X q)
theorem QT (q:Q (.d (.bool (!E9 d))) M):D2 K vT (.d d) (.d .none) M Q:=DZ (rT q)
def DPs (K:Frg) (t:List (TE×TE)) (ρ:List (Option DS)) (M:Own) (Q:List (Str×PyData)->Own->Prop):Prop:=∀(e:St) (H:Hp) (QQ:List (V×V)->Hp->Prop),Rel K M ρ e H->(∀f H' g i,OA K H' i->(∃n,DVs K H' i.W (g.map (·.2)) n/\f=(g.map λk=>V.str k.1).zip n)->Step K M i H H'->Q g i->QQ f H')->VG t e H QQ
theorem W3 {Q:List (Str×PyData)->Own->Prop}(h:Q [] M):DPs K [] ρ M Q:=λe H QQ R k=>k [] H [] M R.own #[[],DVs.nil,rfl] Step.refl h
theorem J2 {Q:List (Str×PyData)->Own->Prop}(h:DE K tk ρ M λx M1=>∃k,x = .d (.str k)/\DE K b ρ M1 λy M2=>∃d,y = .d d/\DPs K o ρ M2 λg e=>Q ((k,d)::g) e):DPs K ((tk,b)::o) ρ M Q:=λn H QQ R Y=>
 h n H _ R λv m x M1 f T t h1=>by obtain⟨k,rfl,h1⟩:=h1;refine h1 n m _ (R.step f t) λu p y M2 j N i a=>?_;obtain⟨d,rfl,a⟩:=a;refine a n p _ (R.step j (t.trans i)) ?_;rintro S Z g e z ⟨I,O,c⟩ r q;refine Y _ Z ((k,d)::g) e z #[u::I,DVs.cons (DV.grow r.grow N) O,?_] ((t.trans i).trans r) q;rw[BA T,c];rfl
theorem J3:∀(kvs acc:List (Key×V)),((acc++kvs).map (·.1)).Nodup->FK acc kvs=acc++kvs
 | [],acc,_=>by simp[FK]
 | kv::r,acc,h=>by
   have h1:(acc.any λx=>decide (x.1=kv.1))=false:=by rw[b5J];intro x hx;rw[xI,List.nodup_append] at h;have:=h.2.2 x.1 (zL.mpr #[x,hx,rfl]) kv.1 (by simp);simpa using this
   show FK (DX acc kv.1 kv.2) r=_;have e:DX acc kv.1 kv.2=acc++[kv]:=by unfold DX;rw[h1];rfl
   rw[e,J3 r (acc++[kv]) (by rw[a7Q];exact h)];simp
theorem mB :∀{g:List (Str×PyData)}{vs:List V},DVs K H W (g.map (·.2)) vs->DKV K H W (g.map λk=>(.str k.1,k.2)) ((g.map λk=>(a1Z k.1:Key)).zip vs)
 | [],vs,h=>by unfold DKV;rfl
 | (k,d)::r,vs,h=>by rw[zI] at h;unfold DVs at h;obtain⟨v,e,rfl,h1,a⟩:=h;rw[zI];unfold DKV;exact#[a1Z k,v,_,rfl,rfl,h1,mB a]
theorem YE:∀(g:List (Str×PyData)) (vs:List V),vs.length=g.length->(g.map λk=>V.str k.1).zip vs=((g.map λk=>(a1Z k.1:Key)).zip vs).map λkv=>(kV kv.1,kv.2)
 | [],vs,_=>by simp
 | a::r,[],h=>by cases h
 | a::r,v::vs,h=>by rw[zI,zI,a8Z,a8Z,zI,YE r vs (by simpa using h)];rfl
theorem QU (h:∀p,M p=am->DPs K t ρ (M.put p (.d [])) λg M1=>M1 p=al (.d [])/\g.length<=15/\(g.map (·.1)).Nodup/\Q (.d (.dict (g.map λk=>(.str k.1,k.2)))) (M1.del p)):DE K (vG t) ρ M Q:=λN H QQ R k p hp=>by
 have u:=R.own.none hp;obtain⟨c,I⟩:=IY (kvs:=[]) (ks:=[]) R.own hp (by unfold DKV;rfl);refine h p u N _ _ (R.step c I) ?_;rintro D O g M2 i ⟨n,hd,e⟩ y x;obtain⟨j,S,nd,q⟩:=x;obtain⟨ks,q1,q2⟩:=i p _ j;unfold DKV at q2;subst q2;have m:n.length=g.length:=by rw[hd.length,zX]
 refine#[q1,(g.map λk=>(a1Z k.1:Key)).zip n,?_,by rw[b7W,zX];lia,?_];. rw[e];exact YE g n m
 . have hk:(((g.map λk=>(a1Z k.1:Key)).zip n).map (·.1)).Nodup:=by
     rw[List.map_fst_zip (by rw[zX,m];exact zR _)];have:g.map (λk=>(a1Z k.1:Key))=(g.map (·.1)).map a1Z:=by rw[zD];rfl
     rw[this];unfold List.Nodup;rw[a5J];exact nd.imp λ{a b} q e=>q (by injection e)
   rw[J3 _ [] (by simpa using hk),List.nil_append];obtain⟨r,z⟩:=CY (kvs:=g.map λk=>(.str k.1,k.2)) (ks:=(g.map λk=>(a1Z k.1:Key)).zip n) i j (mB hd);have hs:(M2.del p).Sub (M2.put p (.d (g.map λk=>(.str k.1,k.2)))):=λb o e=>by
     unfold Own.del at e;by_cases hb:b=p;. rw[if_pos hb] at e;cases e
     . rw[if_neg hb] at e;rw[yH hb];exact e
   refine k _ _ (.d (.dict (g.map λk=>(.str k.1,k.2)))) (M2.del p) (r.sub hs) ?_ (((I.trans y).trans z).trans #[B2 hs]) q;obtain⟨T,f,v⟩:=r p _ zU;unfold SI DV;exact#[p,T,rfl,λw=>w (by unfold Own.del;rw[if_pos rfl]),.inl f,v.grow (B2 hs)]
def OT (k:Str):List (PyData×PyData)->Option PyData
 | (.str a,d)::r=>if a=k then al d else OT k r
 | _::r=>OT k r
 | []=>am
theorem eY :∀{kvs:List (PyData×PyData)}{ks:List (Key×V)},DKV K H W kvs ks->(∃d v,OT k kvs=al d/\DW ks (a1Z k)=al v/\DV K H W d v)\/(OT k kvs=am/\DW ks (a1Z k)=am)
 | [],ks,h=>by unfold DKV at h;subst h;exact .inr #[rfl,rfl]
 | (p,d)::r,ks,h=>by
   unfold DKV at h;obtain⟨m,v,b,rfl,rfl,h1,o⟩:=h;have U:=eY (k:=k) o;unfold DW at U ⊢;rw[a9Z];cases m with
   | inl i=> have n:decide ((a4X i:Key)=a1Z k)=false:=rfl;rw[n];exact U
   | inr a=>
     by_cases e:a=k;. subst e;left;exact#[d,v,by simp[gV,OT],by simp,h1]
     . have n:decide ((a1Z a:Key)=a1Z k)=false:=decide_eq_false λq=>e (by injection q);rw[n];rcases U with ⟨J,u,t,c,D⟩ | ⟨t,c⟩
       . exact .inl #[J,u,by simp only[gV,OT,if_neg e];exact t,c,D]
       . exact .inr #[by simp only[gV,OT,if_neg e];exact t,c]
theorem mD (h:DE K g ρ M λx M1=>∃kvs,x = .d (.dict kvs)/\DE K ty ρ M1 λy M2=>∃k,y = .d (.str k)/\DE K T ρ M2 λz t=>∃S,z = .d S/\Q (.d ((OT k kvs).getD S)) t):DE K (kQ g ty T) ρ M Q:=λm H QQ R Y=>
 h m H _ R λv I x M1 o1 b n h1=>by
   obtain⟨kvs,rfl,h1⟩:=h1;have X:=b;unfold SI DV at X;obtain⟨a,L,rfl,nw,J,hk⟩:=X;refine#[a,rfl,.inl #[L,J],h1 m I _ (R.step o1 n) λu D y M2 o2 s2 i o=>?_];obtain⟨k,rfl,o⟩:=o;refine o m D _ (R.step o2 (n.trans i)) λz Z zz t p s3 r G=>?_;obtain⟨S,rfl,q⟩:=G;have N:=b.step (i.trans r);unfold SI DV at N;obtain⟨a',O,e,A_,j,U⟩:=N;cases e;rw[BA s2];rcases eY (k:=k) U with ⟨d,v,c,f,B⟩ | ⟨c,f⟩
   . rw[c] at q;exact#[al v,.inl #[O,a1Z k,j,rfl,f.symm],Y _ Z (.d d) t p B ((n.trans i).trans r) q]
   . rw[c] at q;exact#[am,.inl #[O,a1Z k,j,rfl,f.symm],Y _ Z (.d S) t p s3 ((n.trans i).trans r) q]
end
end DL
namespace L2
open PySem PySem.Spec PyProof.Rows
section
theorem YF (a:l≠it):∀(n i:Nat) (s:ba) (Q:List ar->ba->Prop),s.heap.IsListIter it l i->s.heap.IsList l e->i+n<=e.size ->(∀h',h'.IsListIter it l (i+n)->Heap.SameBut it s.heap h'->Q ((e.toList.drop i).take n) { s with heap:=h' })->wpAny (model prog w) A (draw (.ref it) n) Q E s
 | 0,i,s,Q,hit,_,_,c=>by show wpAny _ _ (pure []) Q E s;exact zY (by simpa using c s.heap hit (Heap.SameBut.refl ..))
 | n+1,i,s,Q,hit,m,hle,c=>by
   have t:i < e.size:=by lia
   show wpAny _ _ (pyNext (.ref it) >>= _) Q E s;refine zZ (wpAny_pyNext_list_item hit m (x:=e[i]) (by simp[t]) λq y q1=>?_);refine zZ (bv (YF a n (i+1) _ _ y (m.extBut q1.extBut a) (by lia) λo r q2=>zY ?_));have hd:e.toList.drop i=e[i]::e.toList.drop (i+1):=by simp[c0X,t]
   have G:=c o (by rw[show i+(n+1)=i+1+n by lia];exact r) (q1.trans q2);rw[hd,List.take_succ_cons] at G;exact G
theorem bS (i:A.handled=am) (m:s.heap.IsList l t) (c:∀h',Heap.ExtBut s.heap.objs.size s.heap h'->Q t.toList { s with heap:=h' }):wpAny (model prog w) A (unpackItems (.ref l) t.size am) Q E s:=by
 have n:l≠s.heap.objs.size:=by obtain⟨o,T,_⟩:=m;exact zC (zM T)
 unfold unpackItems;refine zZ ?_;unfold notIterableAtAll;refine zZ (ge m.typeIs F.slot_list_iter.lookup ?_);refine zY ?_;simp only[a6X,if_false];refine zZ (bv (fk m ?_));refine zZ (bv (YF n t.size 0 _ _ #[_,yZ _ rfl,rfl,rfl] (m.push _) (by lia) λq y q1=>?_));rw[show List.take t.size (List.drop 0 t.toList)=t.toList by rw[List.drop_zero];exact a5Q (by simp),if_neg (by simp)];refine zZ (bv (wpAny_pyNext_list_end i y ((m.push _).extBut q1.extBut n) (by simp) λa f=>?_));simp only[Option.isSome_none,a6X,if_false];exact zY (c a λb o hb e=>f b o hb (q1.extBut b o hb (zW _ e)))
end
section
def eZ (K:Frg) (n:Nat) (t:TGs):TG:=λv o H Q=>∃a e,v = .ref a/\(SqT K H a e\/SqL K H a e)/\e.length=n/\t e o H Q
theorem sL{X:Cx}{pos:fb} {z:List ca}{k:Nat}{t:TGs}{n:Nat}(hc:X.calm=ap) (h:PGs X z t) (hn:(ed z X.env).length=n:=by rfl) (m:(ed z X.env).findIdx? (·.1)=none:=by rfl):PG X (.Tuple z k pos) (eZ X.K n t):=by
 intro pins s i H v u Q I r R;obtain⟨a,f,c,hq,p,R⟩:=R;rcases hq with hq | hq;. exact kC hc h hn m pins s i H v u Q I r #[a,f,c,hq,p,R]
 . subst c;cases r;obtain⟨g,T,j,q⟩:=I.list hq;rw[arm_assign_Tuple];refine zZ (df ?_);unfold unpack;rw[show(ed z X.env).length=g.toArray.size by simp[hn,<-p,T.length],m];refine zZ (bv (bS (I.ok.hd hc) j.isList λh' hx=>?_));have D:Inv X pins i H { s with heap:=h' }:=I.kept (t':=s.toks) λb o e=>hx b o (zC (zM e)) e;exact h pins _ i H f _ Q D (by simpa using T) R
end
end L2
namespace DL
open PySem PySem.Spec L2
theorem f6 {X:Cx}{K:Frg}{pos:fb}{z:List ca}{k:Nat}{t:TGs}{n:Nat}(hK:X.K=K) (hc:X.calm=ap) (h:PGs X z t) (hn:(ed z X.env).length=n:=by rfl) (i:(ed z X.env).findIdx? (·.1)=none:=by rfl):PG X (.Tuple z k pos) (eZ K n t):=hK▸sL hc h hn i
section
theorem sM (hn:ds.length=n) (h:DGs K g ds ρ M P):DG K (eZ K n g) (.tuple ds) ρ M P:=λo H v QQ R m k=>by unfold DV at m;obtain⟨a,e,rfl,t,hd⟩:=m;exact#[a,e,rfl,.inl t.sq,by rw[hd.length];exact hn,h o H e QQ R hd k]
theorem sN (hn:ds.length=n) (h:DGs K g ds ρ M P):DG K (eZ K n g) (.list ds) ρ M P:=λo H v QQ R m k=>by unfold DV at m;obtain⟨a,e,rfl,t,hd⟩:=m;exact#[a,e,rfl,.inr t.sq,by rw[hd.length];exact hn,h o H e QQ R hd k]
end
end DL
namespace L2
open PySem PySem.Spec PyProof.Rows PySem.W
section
variable {n:Nat}{lt:Nat->Nat->Bool}
def Good (n:Nat) (lt:Nat->Nat->Bool) {e:Type}(P:e->Prop):KasT e->Prop
 | .ret a=>P a
 | .ask i j k=>i < n/\j < n/\i≠j/\Good n lt P (k (lt i j))
theorem Good.mono {P:e->Prop}(h:∀a,P a->Q a):∀{t:KasT e},Good n lt P t->Good n lt Q t
 | .ret _,g=>h _ g
 | .ask _ _ _,#[a,b,c,g]=>#[a,b,c,Good.mono h g]
theorem Good.bind {P:S->Prop}:∀{t:KasT e},Good n lt (λa=>Good n lt P (f a)) t->Good n lt P (t.bind f)
 | .ret _,g=>g
 | .ask _ _ _,#[a,b,c,g]=>#[a,b,c,Good.bind g]
theorem Good.wp {P:e->Prop} (hc:∀i j (C:Bool->ba->Prop),i < n->j < n->i≠j->C (lt i j) s->cmp i j C s) (hq:∀a,P a->Q a s):∀{t:KasT e},Good n lt P t->t.kasWp cmp Q s
 | .ret a,g=>hq a g
 | .ask i j k,#[a,b,c,g]=>hc i j _ a b c (Good.wp hc hq g)
structure Strict (n:Nat) (lt:Nat->Nat->Bool):Prop where
 irr:∀i,lt i i=bj
 tr:∀i j k,lt i j=ap->lt j k=ap->lt i k=ap
 tot:∀i j,i < n->j < n->i≠j->lt i j=ap\/lt j i=ap
def Pm (n:Nat) (p:Array Nat):Prop:=p.toList.Perm (a1K n)
theorem Pm.size (h:Pm n p):p.size=n:=by have:=h.length_eq;simpa using this
theorem Pm.bel (h:Pm n p) (hi:i < n):p.getD i 0 < n:=by
 have hs:i < p.size:=by rw[h.size];exact hi
 have:p[i]∈a1K n:=h.mem_iff.mp (by simp);simp only[Array.getD,hs,dite_true];exact List.mem_range.mp this
theorem A0e {l:List Nat}(nd:l.Nodup) {i j:Nat}{hi:i < l.length}{M:j < l.length}(e:l[i]=l[j]):i=j:=by
 rcases b5K i j with h | h | h;. exact absurd e (List.pairwise_iff_getElem.mp nd i j hi M h)
 . exact h
 . exact absurd e.symm (List.pairwise_iff_getElem.mp nd j i M hi h)
theorem Pm.inj (h:Pm n p) (hi:i < n) (M:j < n) (z:i≠j):p.getD i 0≠p.getD j 0:=by
 have k:i < p.size:=by rw[h.size];exact hi
 have t:j < p.size:=by rw[h.size];exact M
 simp only[Array.getD,k,t,dite_true];have nd:p.toList.Nodup:=h.nodup_iff.mpr List.nodup_range;intro e;have e':p.toList[i]'(by simpa using k)=p.toList[j]'(by simpa using t):=by simpa using e
 exact z (A0e nd e')
def Up (lt:Nat->Nat->Bool) (p:Array Nat) (k:Nat):Prop:=∀i j,i < j->j < k->lt (p.getD i 0) (p.getD j 0)=ap
def Dn (lt:Nat->Nat->Bool) (p:Array Nat) (k:Nat):Prop:=∀i j,i < j->j < k->lt (p.getD j 0) (p.getD i 0)=ap
theorem QV (S:Strict n lt) (hp:Pm n p):∀(f m:Nat),1<=m->m+f<=n->Up lt p m ->
   Good n lt (λr=>m<=r/\r<=m+f/\Up lt p r/\(r=m+f\/lt (p.getD r 0) (p.getD (r - 1) 0)=ap)) (kas_asc p f m)
 | 0,m,h1,o,G=>#[zR _,zR _,G,.inl rfl]
 | f+1,m,h1,o,G=>by
   unfold kas_asc;refine#[hp.bel (by lia),hp.bel (by lia),hp.inj (by lia) (by lia) (by lia),?_];cases hc:lt (p.getD m 0) (p.getD (m - 1) 0) with
   | true=>exact#[zR _,by lia,G,.inr hc]
   | false=>
     have B:lt (p.getD (m - 1) 0) (p.getD m 0)=true:=(S.tot _ _ (hp.bel (by lia)) (hp.bel (by lia)) (hp.inj (i:=m - 1) (j:=m) (by lia) (by lia) (by lia))).elim id λz=>by rw[hc] at z;cases z
     dsimp only;rw[if_neg nft];refine(QV S hp f (m+1) (by lia) (by lia) λi j t M=>?_).mono (by rintro r ⟨a,b,c,d⟩;exact#[by lia,by lia,c,d.elim (λz=>.inl (by lia)) .inr]);by_cases hjm:j < m;. exact G i j t hjm
     . have e:j=m:=by lia
       subst e;by_cases hi:i=j - 1;. subst hi;exact B
       . exact S.tr _ _ _ (G i (j - 1) (by lia) (by lia)) B
theorem UB (S:Strict n lt) (hp:Pm n p):∀(f m:Nat),1<=m->m+f<=n->Dn lt p m ->
   Good n lt (λr=>r.1=p/\r.2.2=0/\m<=r.2.1/\r.2.1<=m+f/\Dn lt p r.2.1) (kas_desc f p m 0)
 | 0,m,h1,o,G=>#[rfl,rfl,zR _,zR _,G]
 | f+1,m,h1,o,G=>by
   unfold kas_desc;refine#[hp.bel (by lia),hp.bel (by lia),hp.inj (by lia) (by lia) (by lia),?_];cases hc:lt (p.getD m 0) (p.getD (m - 1) 0) with
   | true=>
     dsimp only;rw[if_pos rfl,if_neg (yF 0)];refine(UB S hp f (m+1) (by lia) (by lia) λi j t M=>?_).mono (by rintro r ⟨a,b,c,d,e⟩;exact#[a,b,by lia,by lia,e]);by_cases hjm:j < m;. exact G i j t hjm
     . have e:j=m:=by lia
       subst e;by_cases hi:i=j - 1;. subst hi;exact hc
       . exact S.tr _ _ _ hc (G i (j - 1) (by lia) (by lia))
   | false=>
     have B:lt (p.getD (m - 1) 0) (p.getD m 0)=true:=(S.tot _ _ (hp.bel (by lia)) (hp.bel (by lia)) (hp.inj (i:=m - 1) (j:=m) (by lia) (by lia) (by lia))).elim id λz=>by rw[hc] at z;cases z
     dsimp only;rw[if_neg nft];refine#[hp.bel (by lia),hp.bel (by lia),hp.inj (by lia) (by lia) (by lia),?_];dsimp only;rw[B,if_pos rfl];exact#[rfl,rfl,zR _,(show m<=_ by lia),G]
theorem PH {e:Type}{xs ys:Array e}{i j:Nat}{d:e}(h:xs[i]?=ys[j]?):xs.getD i d=ys.getD j d:=by rw[b7Z,b7Z,h]
theorem mE (hp:Pm n p) (i j:Nat):Pm n (kas_rev p i j):=(Array.perm_iff_toList_perm.mp (mirror_perm _ _ _ _)).trans hp
theorem bT (S:Strict n lt) (hp:Pm n p) (h1:1<=m) (t:m<=n) (G:Dn lt p m) :
   Good n lt (λr=>1<=r.1/\r.1<=n/\Pm n r.2/\Up lt r.2 r.1) (kas_tail3 m n p):=by
 unfold kas_tail3;refine Good.bind ((QV S (mE hp 0 m) (n - m) m h1 (by lia) λi j z M=>?_).mono (by rintro r ⟨a,b,c,_⟩;exact#[by lia,by lia,mE hp 0 m,c]));have o:m<=p.size:=by rw[hp.size];exact t
 have e:∀k,k < m->(kas_rev p 0 m).getD k 0=p.getD (m - 1 - k) 0:=λk hk=>by refine PH ?_;unfold kas_rev;rw[getElem?_mirror_all (i:=0) o k,if_pos #[xT _,hk],Nat.zero_add]
 rw[e i (by lia),e j (by lia)];exact G _ _ (by lia) (by lia)
theorem SY (S:Strict n lt) (hp:Pm n p) (o:m+1<=n) (G:Dn lt p (m+1)) :
   Good n lt (λr=>1<=r.1/\r.1<=n/\Pm n r.2/\Up lt r.2 r.1) (kas_descPart m n p):=by unfold kas_descPart;refine Good.bind ((UB S hp (n - (m+1)) (m+1) (by lia) (by lia) G).mono λr t=>?_);obtain⟨a,b,c,d,e⟩:=t;rw[b,if_neg (yF 0),a];exact bT S hp (by lia) (by lia) e
theorem bU (S:Strict n lt) (hp:Pm n p) (m:1<=n) :
   Good n lt (λr=>1<=r.1/\r.1<=n/\Pm n r.2/\Up lt r.2 r.1) (kas_count n p):=by
 unfold kas_count;refine Good.bind ((QV S hp (n - 1) 1 (zR _) (by lia) λi j z M=>by lia).mono λr N=>?_);obtain⟨a,b,c,d⟩:=N;by_cases hr:r=n;. subst hr;rw[if_pos (by simp)];exact#[a,zR _,hp,c]
 . rw[if_neg (by simpa using hr)];have t:lt (p.getD r 0) (p.getD (r - 1) 0)=true:=d.resolve_left (by lia);by_cases h1:r > 1;. rw[if_pos h1];refine#[hp.bel (by lia),hp.bel (by lia),hp.inj (by lia) (by lia) (by lia),?_];dsimp only;rw[c 0 (r - 1) (by lia) (by lia),if_pos rfl];exact#[a,by lia,hp,c]
   . rw[if_neg h1];have e:r=1:=by lia
     subst e;refine SY S hp (by lia) λi j z M=>?_;have o:i=0:=by lia
     have f:j=1:=by lia
     subst o f;exact t
theorem LS (S:Strict n lt) (hp:Pm n p) (hk:k < n) (hu:Up lt p k):∀(f l r:Nat),l<=r->r<=k->r - l<=f ->(∀i,i < l->lt (p.getD i 0) (p.getD k 0)=ap)->(∀i,r<=i->i < k->lt (p.getD k 0) (p.getD i 0)=ap) ->
   Good n lt (λx=>x<=k/\(∀i,i < x->lt (p.getD i 0) (p.getD k 0)=ap)/\∀i,x<=i->i < k->lt (p.getD k 0) (p.getD i 0)=ap) (kas_place p k f l r)
 | 0,l,r,h1,o,q,t,a=>by unfold kas_place;exact#[by lia,t,λi hi v=>a i (by lia) v]
 | f+1,l,r,h1,o,q,t,a=>by
   unfold kas_place;by_cases hge:l≥r;. rw[if_pos hge];exact#[by lia,t,λi hi v=>a i (by lia) v]
   . rw[if_neg hge];have b:l<=(l+r)/2/\(l+r)/2 < r:=by lia
     generalize (l+r)/2=m at b ⊢;obtain⟨g,c⟩:=b;have G:m < k:=zP c o;have R:m < n:=Nat.lt_trans G hk;refine#[hp.bel hk,hp.bel R,hp.inj hk R (a8K G),?_];cases hc:lt (p.getD k 0) (p.getD m 0) with
     | true=>
       dsimp only;rw[if_pos rfl];refine LS S hp hk hu f l m g (xR G) (by lia) t λi hi v=>?_;by_cases e:i=m;. subst e;exact hc
       . exact S.tr _ _ _ hc (hu _ _ (Nat.lt_of_le_of_ne hi (a8Q e)) v)
     | false=>
       dsimp only;rw[if_neg nft];have B:lt (p.getD m 0) (p.getD k 0)=true:=(S.tot _ _ (hp.bel R) (hp.bel hk) (hp.inj (i:=m) (j:=k) R hk (zC G))).elim id λz=>by rw[hc] at z;cases z
       refine LS S hp hk hu f (m+1) r c o (by lia) (λi hi=>?_) a;by_cases e:i=m;. subst e;exact B
       . exact S.tr _ _ _ (hu _ _ (by lia) (by lia)) B
theorem YG (S:Strict n lt):∀(f:Nat) {p:Array Nat}{k:Nat},Pm n p->k+f=n->Up lt p k->Good n lt (λq=>Pm n q/\Up lt q n) (kas_bin f p k)
 | 0,p,k,hp,h1,m=>by
   have e:k=n:=by lia
   subst e;exact#[hp,m]
 | f+1,p,k,hp,h1,m=>by
   unfold kas_bin;refine Good.bind ((LS S hp (by lia) m k 0 k (xT _) (zR _) (by lia) (λi hi=>by lia) λi hi hk=>by lia).mono λx O=>?_);obtain⟨hx,a,b⟩:=O;have I:k < p.size:=by rw[hp.size];lia
   refine YG S f ((Array.perm_iff_toList_perm.mp (bubble_perm _ _ _)).trans hp) (by lia) λi j t R=>?_;have e:∀q,(bubble p k (k - x)).getD q 0=if q=x then p.getD k 0 else if x < q/\q<=k then p.getD (q - 1) 0 else p.getD q 0:=λq=>by
     have:=getElem?_bubble I (k - x) (by lia) q;rw[show k - (k - x)=x by lia] at this;by_cases v:q=x;. rw[if_pos v] at this ⊢;exact PH this
     . rw[if_neg v] at this ⊢;by_cases T:x < q/\q<=k;. rw[if_pos T] at this ⊢;exact PH this
       . rw[if_neg T] at this ⊢;exact PH this
   obtain⟨g,hg⟩:∃g:Nat->Nat,∀i,p.getD i 0=g i:=#[_,λ_=>rfl]
   have M:∀i j,i < j->j < k->lt (g i) (g j)=true:=λi j x y=>by rw[<-hg,<-hg];exact m i j x y
   rw[e,e];simp only[hg] at a b ⊢;clear e;rcases b5K j x with hj' | hj' | hj';. have hi':i < x:=Nat.lt_trans t hj';rw[if_neg (zC hi'),if_neg (λz=>Nat.lt_asymm z.1 hi'),if_neg (zC hj'),if_neg (λz=>Nat.lt_asymm z.1 hj')];exact M _ _ t (zP hj' hx)
   . subst hj';rw[if_neg (zC t),if_neg (λz=>Nat.lt_asymm z.1 t),if_pos rfl];exact a _ t
   . obtain⟨Z,rfl⟩:∃Z,j=Z+1:=#[j - 1,by lia]
     have r:Z < k:=Nat.lt_of_succ_le (Nat.le_of_lt_succ R);have u:x<=Z:=Nat.le_of_lt_succ hj';rw[if_neg (a8K hj') (c:=Z+1=x),if_pos (c:=x < Z+1/\Z+1<=k) #[hj',r],Nat.add_sub_cancel];rcases b5K i x with hi' | hi' | hi';. rw[if_neg (zC hi'),if_neg (λz=>Nat.lt_asymm z.1 hi')];exact M _ _ (zP hi' u) r
     . rw[if_pos hi'];exact b _ u r
     . obtain⟨o,rfl⟩:∃o,i=o+1:=#[i - 1,by lia]
       have N:o < Z:=Nat.lt_of_succ_lt_succ t;rw[if_neg (a8K hi'),if_pos (c:=x < o+1/\o+1<=k) #[hi',Nat.lt_trans N r],Nat.add_sub_cancel];exact M _ _ N r
theorem iF (S:Strict n lt) (h1:1<=n):Good n lt (λq=>Pm n q/\Up lt q n) (kas_sort n):=by
 unfold kas_sort;refine Good.bind ((bU S (show Pm n _ from .refl _) h1).mono λr p=>?_);obtain⟨a,b,c,d⟩:=p;have e:max r.1 1=r.1:=by lia
 rw[e];by_cases hr:r.1 < n;. rw[if_pos hr];exact YG S _ c (by lia) d
 . rw[if_neg hr];have e:r.1=n:=by lia
   rw[e] at d;exact#[c,d]
end
end L2
namespace L2
open PySem PySem.Spec PyProof.Rows PySem.W
def TupsN (h:db) (vs:List ar) (ns:List Str):Prop:=
 vs.length=ns.length/\∀(i:Nat) (v:ar) (e:Str),vs[i]?=al v->ns[i]?=al e->∃(a:Addr) (o:dc) (n:Array ar) (k:Nat) (t:Tok),v=a0X a/\h.get? a=al o/\o.cls = .type "tuple" /\ o.data = .seq n k/\n[0]?=al (.str e t)
theorem TupsN.keep (t:TupsN h vs ns) (hk:∀b o,o.cls = .type "tuple" -> h.get? b=al o->h'.get? b=al o):TupsN h' vs ns:=#[t.1,λi v r c f=>let #[a,o,p,k,m,h1,e,G,z,n]:=t.2 i v r c f;#[a,o,p,k,m,h1,hk a o G e,G,z,n]]
theorem TupsN.kat :∀{vs:List ar}{ns:List Str},TupsN h vs ns->∃fs,KatTups h vs fs/\fs.length=ns.length/\∀v∈fs,∃x t,v=c2V x t
 | [],[],_=>#[[],trivial,rfl,λv n=>nomatch n]
 | [],_::_,t=>by have:=t.1;simp at this
 | _::_,[],t=>by have:=t.1;simp at this
 | v::vs,r::ns,t=>by obtain⟨a,o,g,k,b,rfl,m,G,z,p⟩:=t.2 0 v r rfl rfl;obtain⟨fs,q1,q2,Q⟩:=TupsN.kat (vs:=vs) (ns:=ns) #[by have:=t.1;simpa using this,λi v r c f=>t.2 (i+1) v r (by simpa using c) (by simpa using f)];exact#[_,KatTups.cons m G z p q1,by simp[q2],λv n=>(yX.mp n).elim (λe=>#[_,_,e]) (Q v)]
section
theorem mF (t:TupsN s.heap vs ns) (nd:ns.Nodup) (hi:i < ns.length) (M:j < ns.length) (D:i≠j) (h:C (decide ((ns.getD i "").cps.toList < (ns.getD j "").cps.toList)) s) :
   kas_ask prog w A (tuples' ap) vs i j C s:=by
 unfold kas_ask;have U:=t.1;have f:vs[i]?=al (vs.getD i a3X):=by rw[yU,zV (by lia)];rfl
 have g:vs[j]?=al (vs.getD j a3X):=by rw[yU,zV (by lia)];rfl
 have G:ns[i]?=al (ns.getD i ""):=by rw[yU,zV hi];rfl
 have J:ns[j]?=al (ns.getD j ""):=by rw[yU,zV M];rfl
 have B:ns.getD i "" ≠ ns.getD j "" := λe=>by
   rw[yU,yU,zV hi,zV M] at e;rcases Nat.lt_or_gt_of_ne D with q | q;. exact List.pairwise_iff_getElem.mp nd i j hi M q e
   . exact List.pairwise_iff_getElem.mp nd j i M hi q e.symm
 generalize vs.getD i a3X=v at f ⊢;generalize vs.getD j a3X=u at g ⊢;obtain⟨a,o,p,k,y,rfl,z,L,O,T⟩:=t.2 i v _ f G;obtain⟨b,Y,c,X,x,rfl,N,Q,I,R⟩:=t.2 j u _ g J;refine kat_lt z O N I ?_;have S:p.toList[0]?=al (.str (ns.getD i "") y):=by rw[a7W];exact T
 have m:c.toList[0]?=al (.str (ns.getD j "") x):=by rw[a7W];exact R
 obtain⟨Z,hx⟩:∃r,p.toList = .str (ns.getD i "") y::r:=by
   cases n:p.toList with
   | nil=>rw[n] at S;cases S
   | cons q r=>rw[n] at S;cases S;exact#[r,rfl]
 obtain⟨yr,hy⟩:∃r,c.toList = .str (ns.getD j "") x::r:=by
   cases n:c.toList with
   | nil=>rw[n] at m;cases m
   | cons q r=>rw[n] at m;cases m;exact#[r,rfl]
 rw[hx,hy,a8Z];refine kat_cons (wpAny_eqBool_str ?_);rw[decide_eq_false B];refine kat_no ?_;show wpAny (model prog w) A (oneLt' ap _ _) C (λ_ _=>False) s;exact oneLt_str h
theorem QW (m:s.heap.get? a=al (da "list" vs.toArray n)) (t:TupsN s.heap vs ns) (nd:ns.Nodup) (L:vs.length < 64) (h:∀p:List Nat,p.Perm (a1K vs.length)->(∀i j,i < j->j < vs.length->(ns.getD (p.getD i 0) "").cps.toList < (ns.getD (p.getD j 0) "").cps.toList) ->
     P (.done (.ret .none)) { s with heap:=sortedHeap s.heap a vs (p.map λi=>vs.getD i a3X).toArray }) :
   wpAny (model prog w) A (Builtin.«list.sort» #[[.ref a],[]]) P E s:=by
 have ha:a < s.heap.objs.size:=zM m;rw[list_sort_plain];refine zZ (listItems_at m rfl ?_);refine zZ (listUpdate_at m rfl ?_ (by rw[zJ,dh];lia) (xT _));obtain⟨N,I⟩:∃N,(s.heap.update a (a7V λ_=>(#[]:Array ar))).get? a=al (da "list" #[] N):=#[_,get?_update_seq m (λ_=>#[])]
 refine zZ (seqEpoch_at I rfl (zZ (wpAny_newTuple ?_ (by show vs.length<=_;rw[dh];lia))));refine zZ (g8 (bv ?_) (xT _));have hsz:vs.toArray.size=vs.length:=zJ ..;have xf:∀b o,o.cls = .type "tuple" -> s.heap.get? b=al o->(((s.heap.update a (a7V λ_=>(#[]:Array ar))).push (da "tuple" vs.toArray 0)).push (da "list" #[] 0)).get? b=al o:=λb o hc q=>by
   have hb:b≠a:=λe=>by subst e;rw[m] at q;cases q;exact absurd hc (show ¬(c0Z "list"=c0Z "tuple") by decide)
   refine zW _ (zW _ ?_);rw[Heap.get?_update_ne _ _ _ _ hb];exact q
 have u:(((s.heap.update a (a7V λ_=>(#[]:Array ar))).push (da "tuple" vs.toArray 0)).push (da "list" #[] 0)).get? a=al (da "list" #[] N):=zW _ (zW _ I);show wpAny (model prog w) A _ P E { s with heap:=((s.heap.update a (a7V λ_=>(#[]:Array ar))).push (da "tuple" vs.toArray 0)).push (da "list" #[] 0) };dsimp only;by_cases g:vs.toArray.size < 2
 . rw[if_pos g,if_pos g];refine zZ (zY ?_);rw[StateT.run_pure];refine zZ (zY (zZ (seqEpoch_at u rfl ?_)));have X:(arrOf (SortSt.mk' general' (vs.toArray.zip vs.toArray) #[] 7 am)).map (·.2)=vs.toArray:=by show(vs.toArray.zip vs.toArray).map (·.2)=vs.toArray;apply Array.toList_inj.mp;rw[Array.toList_map,Array.toList_zip];exact List.map_snd_zip (zR _)
   rw[X];refine zZ (listUpdate_at u rfl ?_ (xT _) (by rw[zJ,dh];lia));simp only[bne_self_eq_false,a6X,if_false];have:=h (a1K vs.length) (.refl _) (λi j r M=>by lia);have Y:(a1K vs.length).map (λi=>vs.getD i a3X)=vs:=by
     apply b5Z;intro i;rw[zF];by_cases hi:i < vs.length;. rw[yA hi];simp[hi]
     . rw[a2X (by simp;lia),a2X (by lia)];rfl
   rw[Y] at this;exact zY this
 . rw[if_neg g,if_neg g];have ua:2<=vs.length:=by lia
   have R:=t.keep xf;obtain⟨fs,q1,q2,q3⟩:=R.kat;refine zZ (kat_kind (T:=.type "str") q1 (by have:=t.1;lia) (λv hv=>?_) rfl ?_);. obtain⟨x,tt,rfl⟩:=q3 v hv;exact Looks.of_pure rfl
   have hn:vs.length=ns.length:=t.1;have S:Strict vs.length (λi j=>decide (i < vs.length)&&(decide (j < vs.length)&&decide ((ns.getD i "").cps.toList < (ns.getD j "").cps.toList))):=by
     refine#[λi=>?_,λi j k a b=>?_,λi j hi M r=>?_];. simp[List.lt_irrefl]
     . simp only[a1J,decide_eq_true_eq] at a b ⊢;exact#[a.1,b.2.1,List.lt_trans a.2.2 b.2.2]
     . simp only[a1J,decide_eq_true_eq,hi,M,true_and];have U:(ns.getD i "").cps.toList≠(ns.getD j "").cps.toList:=λe=>by
         have e':ns.getD i ""=ns.getD j "" := by generalize ns.getD i ""=x at e;generalize ns.getD j ""=y at e;obtain⟨⟨x⟩⟩:=x;obtain⟨⟨y⟩⟩:=y;simp at e;rw[e]
         rw[yU,yU,zV (by lia),zV (by lia)] at e';rcases Nat.lt_or_gt_of_ne r with q | q;. exact List.pairwise_iff_getElem.mp nd i j (by lia) (by lia) q e'
         . exact List.pairwise_iff_getElem.mp nd j i (by lia) (by lia) q e'.symm
       by_cases c:(ns.getD i "").cps.toList < (ns.getD j "").cps.toList;. exact .inl c
       . refine .inr ?_;rcases List.le_iff_lt_or_eq.mp (List.not_lt.mp c) with z | z;. exact z
         . exact absurd z.symm U
   refine zZ (ce (kat_run (ks:=vs) (G:=λp s'=>s'={ s with heap:=((s.heap.update a (a7V λ_=>(#[]:Array ar))).push (da "tuple" vs.toArray 0)).push (da "list" #[] 0) }/\Pm vs.length p/\Up _ p vs.length) (Q:=λf s'=>s'={ s with heap:=((s.heap.update a (a7V λ_=>(#[]:Array ar))).push (da "tuple" vs.toArray 0)).push (da "list" #[] 0) }/\failedOf f=am/\∃p:Array Nat,Pm vs.length p/\Up _ p vs.length/\(arrOf f).map (·.2)=List.toArray (p.toList.map λi=>vs.getD i a3X))
     rfl ua L (λp f s' a1 B J O=>#[O.1,J,p,O.2.1,O.2.2,kat_snds rfl B]) ((iF S (by lia)).wp (λi j C hi M r hC=>?_) λp hp=>#[rfl,hp.1,hp.2])) ?_ λ_ _ e=>e)
   . refine mF R nd (by lia) (by lia) r ?_;simp only[hi,M,decide_true,Bool.true_and] at hC;exact hC
   . rintro⟨⟨⟩,f⟩ s' ⟨rfl,Z,p,hp,hu,hm⟩;dsimp only;refine zZ (seqEpoch_at u rfl ?_);rw[hm];refine zZ (listUpdate_at u rfl ?_ (xT _) (by
       have z:=hp.length_eq;simp only[xZ,a3V] at z;simp only[zJ,zX,a3V];rw[dh];lia));rw[Z];simp only[bne_self_eq_false,a6X,if_false];refine zY (h p.toList hp λi j r M=>?_);have:=hu i j r M;simp only[a1J,decide_eq_true_eq] at this;have D:∀k,p.toList.getD k 0=p.getD k 0:=λk=>by rw[yU,b7Z,a7W]
     rw[D,D];exact this.2.2
theorem YH (m:s.heap.IsList l vs.toArray\/s.heap.IsTuple l vs.toArray) (h:Q vs { s with heap:=(s.heap.push (da "list" #[] 0)).update s.heap.objs.size (a7V (·++vs.toArray)) }) (hsz:vs.length<=bd) :
   wpAny (model prog w) A (collect (.ref l)) Q E s:=by
 rcases m with m | ⟨o,t,hc,n,hd⟩
 . exact collect_list m h hsz
 unfold collect;refine zZ (wpAny_runValue (iv entry_proto_collect' ?_));show wpAny _ _ (do again (.builtin "list.__iadd__" #[[<-newList [],.ref l],[]])) _ _ s;refine zZ (g8 (zY #[Code.quiet_builtin _ (by decide +kernel),iv entry_list_iadd' ?_]));show wpAny _ _ (Builtin.List.listExtendWith (.ref s.heap.objs.size) (.ref l) (.ref s.heap.objs.size)) _ _ { s with heap:=s.heap.push (da "list" #[] 0) };unfold Builtin.List.listExtendWith;have e:(s.heap.push (da "list" #[] 0)).get? l=al o:=zW _ t;refine zZ (gl (T:= "tuple") #[o,e,hc] ?_);have a:(c0Z "tuple" == c0Z "tuple")=true:=by rfl
 rw[if_pos (by rw[a];simp)];refine zZ (listItems_at e hd ?_);refine zZ (listItems_at (xs:=#[]) (n:=0) (yZ _ rfl) rfl ?_);rw[if_neg (by simp)];refine zZ (listUpdate_at (xs:=#[]) (n:=0) (yZ _ rfl) rfl ?_ (xT _) (by show(#[]++vs.toArray).size<=bd+1;simp only[Array.size_append,zJ,b1J];lia));refine zY ?_;show wpAny (model prog w) A (do
     let o <- load s.heap.objs.size
     match o.data with
     | .seq xs _=>pure xs.toList
     | _=>unsupported "internal:collect") Q E { s with heap:=(s.heap.push (da "list" #[] 0)).update s.heap.objs.size (a7V (·++vs.toArray)) };refine zZ (wpAny_load (get?_update_seq (yZ _ rfl) _) ?_);show wpAny _ _ (pure ((#[]:Array ar)++vs.toArray).toList) Q E _;rw[show((#[]:Array ar)++vs.toArray).toList=vs by simp];exact zY h
theorem YI (a:s.heap.IsList l vs.toArray\/s.heap.IsTuple l vs.toArray) (t:TupsN s.heap vs ns) (nd:ns.Nodup) (f:vs.length < 64) (h:∀p:List Nat,p.Perm (a1K vs.length)->(∀i j,i < j->j < vs.length->(ns.getD (p.getD i 0) "").cps.toList < (ns.getD (p.getD j 0) "").cps.toList) ->
     Q (.ref (s.heap.objs.size+1)) { s with heap:=sortedAll s.heap vs (p.map λi=>vs.getD i a3X).toArray }) :
   wpAny (model prog w) A (call (.builtin "sorted") [.ref l]) Q E s:=by
 refine b9J kind_sorted plain_sorted entry_sorted (args_sorted1 _) ?_;unfold Builtin.«sorted»;refine zZ (m:=checkCount "sorted" 1 1 _) (zY (zZ (YH a (zZ (g8 ?_ (by rw[dh];lia))) (by rw[dh];lia))));generalize hH:(s.heap.push (da "list" #[] 0)).update s.heap.objs.size (a7V (·++vs.toArray))=e;have hsz:e.objs.size=s.heap.objs.size+1:=by rw[<-hH,Heap.size_update,size_push']
 have old:∀b o,s.heap.get? b=al o->(e.push (da "list" vs.toArray 0)).get? b=al o:=λb o q=>by refine zW _ ?_;rw[<-hH,Heap.get?_update_ne _ _ _ _ (zC (zM q))];exact zW _ q
 have k:(e.push (da "list" vs.toArray 0)).get? (s.heap.objs.size+1)=al (da "list" vs.toArray 0):=by rw[<-hsz];exact yZ _ rfl
 show wpAny _ _ _ _ _ { s with heap:=e.push (da "list" vs.toArray 0) };rw[hsz];refine zZ (bv (cr slot_list_sort #[_,k,rfl] entry_list_sort (QW k (t.keep λb o _ q=>old b o q) nd f λp n c=>#[_,rfl,?_]) (args_list_sort _)));have:=h p n c;unfold sortedAll at this;rw[hH] at this;exact zY #[_,rfl,this]
theorem YJ{prog:bq}{w:bo}{A:cx}{E:ar->ba->Prop}{s:ba} {ss:List Str}(X:A.handled=am) (hd:(d==dz)=bj) (D:s.heap.DictOf (AG prog w) d kvs) (hk:kvs.map (·.1)=ss.map a1Z) (M:ss.length < 64) (h:∀(h1 h':db) (tk:Nat) (out:List ar) (e:Nat) (S:List Str),(∀b o,s.heap.get? b=al o->h1.get? b=al o)->(∀b o,h1.get? b=al o->h'.get? b=al o)->h'.get? h1.objs.size=al (da "list" out.toArray e)->StrsAre out S->S.Perm ss->sortedS S=ap->Q (.ref h1.objs.size) { s with heap:=h',toks:=tk }) :
   wpAny (model prog w) A (call (.builtin "sorted") [.ref d]) Q E s:=by
 refine b9J kind_sorted plain_sorted entry_sorted (args_sorted1 _) ?_;obtain⟨ep,Z⟩:=D.dictAt;have j:kvs.length=ss.length:=by have:=congrArg a9V hk;simpa using this
 unfold Builtin.«sorted»;refine zZ (m:=checkCount "sorted" 1 1 _) (zY (zZ (kdu_collect (A:=A.in1) (kdl_dict (kvs:=kvs) (ep:=ep) hd) X Z (by rw[j,dh];lia) λh' tk acc hold O=>?_)));have p:acc.toList.length=ss.length:=by rw[a3V,O.1,j]
 have hS:StrsAre acc.toList ss:=by
   have J:∀(a:List ar) (n:List Str),a.length=n.length->(∀(i:Nat) v x,a[i]?=al v->n[i]?=al x->∃t,v=c2V x t)->StrsAre a n:=by
     intro a;induction a with
     | nil=>intro n r _;cases n with
       | nil=>exact .nil
       | cons _ _=>simp at r
     | cons v a Y=>intro n r N;cases n with
       | nil=>simp at r
       | cons x n=> obtain⟨t,rfl⟩:=N 0 v x rfl rfl;exact .cons x t (Y n (by simpa using r) λi v x c f=>N (i+1) v x (by simpa using c) (by simpa using f))
   refine J _ _ p λi v x c f=>?_;obtain⟨k,y,B,G⟩:=O.2 i v (by rw[<-a7W];exact c);have T:(kvs.map (·.1))[i]?=al k:=by rw[zF,B];rfl
   rw[hk,zF,f] at T;cases T;have xg:KY (.inr x) v=true:=G;rcases B4 xg with ⟨i,t,e,_⟩ | ⟨z,t,e,e'⟩
   . cases e
   . cases e;exact#[t,e']
 refine zZ (g8 ?_ (by rw[p,dh];lia));have g:(h'.push (da "list" acc.toList.toArray 0)).get? h'.objs.size=al (da "list" acc.toList.toArray 0):=yZ _ rfl;show wpAny _ _ _ _ _ { s with heap:=h'.push (da "list" acc.toList.toArray 0),toks:=tk };refine zZ (bv (cr (s:={ s with heap:=h'.push (da "list" acc.toList.toArray 0),toks:=tk }) slot_list_sort #[_,g,rfl] entry_list_sort (list_sort_treeK strKind_oneLt g hS.keysOf (λI R rest e=>keyKind_strs (by rw[<-e];exact hS)) (by rw[p];exact M) λu hp hs=>#[_,rfl,?_]) (args_list_sort _)));obtain⟨S,h1,L,U⟩:=sorted_out_str hS hp hs;obtain⟨e,he⟩:=sortedHeap_at (out:=(arrOf u).map (·.2)) g;refine zY #[_,rfl,h h' _ tk ((arrOf u).map (·.2)).toList e S hold (λb o q=>?_) (by rw[Array.toArray_toList];exact he) h1 L U];have lt:b < h'.objs.size:=zM q;rw[sortedHeap_old (zC lt) (by rw[size_push'];exact c1W lt)];exact zW _ q
end
end L2
namespace L2
open PySem PySem.Spec PyProof.Rows
def tlD (prog:bq) (w:bo) (A:cx) (a o:ca):Env->Addr->(ba->Prop)->ba->Prop:=λenv D P s=>wpAny (model prog w) A (eval a env) (λkv e=>wpAny (model prog w) A (eval o env) (λn k=>wpAny (model prog w) A (dictSet D kv n) (λ_ t=>P t) (λ_ _=>False) k) (λ_ _=>False) e) (λ_ _=>False) s
theorem sO :VM prog w A (.DictComp i m [#[target,iter,ifs,0]] scope pos) target ifs (tlD prog w A i m):=by
 intro g D env R I turn n s h;refine codeAny_loop rfl I (λn s hI=>?_) n h;show wpAny _ A ((compTurn (.DictComp i m [#[target,iter,ifs,0]] scope pos) 0 (.ref g) (.ref D) env).onRaise (λx=>do noteFrame x env;theTreesLotGoes x)) _ _ s;refine wpAny_noted ?_;rw[compTurn_dict];refine zZ (df (zZ (ce (AL (turn n s hI)) (λr J U=>?_) λ_ _ h'=>h')));cases r with
 | none=>exact zY U
 | some v=>
   refine zZ (ce (AL U) (λ_ k z=>?_) λ_ _ h'=>h');refine zZ (ce (AL z) (λ_ p e=>zZ (ce (AL e) (λok L a=>?_) λ_ _ h'=>h')) λ_ _ h'=>h');cases ok with
   | false=>exact zY #[rfl,a]
   | true=> exact zZ (zZ (ce (AL a) (λkv b X=>zZ (bv (ce (AL X) (λj c t=>zZ (df (bv (ce (AL t) (λ_ f o=>zY #[rfl,o]) λ_ _ h'=>h')))) λ_ _ h'=>h'))) λ_ _ h'=>h'))
theorem A0f {t:St} (I:Inv X pins t H s) (e:H a=al (.dK kvs)) (l:kvs.length < bd) (o:RelV (kV k) u) (T:RelV v r) (h:∀s',Inv X pins t (upd H a (.dK (DX kvs k v))) s'->Q () s'):wpAny (model X.prog X.w) A (dictSet a u r) Q E s:=by
 obtain⟨z,hd,i,rel,g⟩:=XX I.hok e;have n:i.length<=sizeLine:=by rw[<-rel.length];exact z
 have m:(DX kvs k v).length<=sizeLine:=by have:=G1 kvs k v;lia
 refine wpAny_dictSet_pairs (hsz:=n) (HV o) g λh' N hs=>h _ ?_;have he:∃q,h'.get? a=al q:=let #[q,_,_,hq,_]:=N;#[q,hq];exact K4 I (by rw[e];exact a7J) hs he (NT m hd (rel.put k T) N)
def O0 (b:List (Option Nat)) (z:TI) (g:TG) (r:TT) (tk f:TE):TE:=λt H Q=>z t H λJ a=>∀D,a D=am->∃W:Nat->Nat->List (Key×V)->Hp->Prop,(∃m,W 0 m [] (upd a D (.dK []))) /\∀i m q e,W i m q e->e D=al (.dK q)/\((J.stop i e/\Q (.ref D) e)\/(J.go i e/\∀x Z,J.yld i e x Z->g x (capt b t) Z λn o=>
   (∀(i:Nat) v,(capt b t)[i]?=al (al v)->n[i]?=al (al v))/\r n o λc T=>if c=ap then tk n T λx p=>f n p λy u=>∃O k,x=kV k/\u D=al (.dK O)/\O.length < bd/\∃j,j < m/\W (i+1) j (DX O k y) (upd u D (.dK (DX O k y)))
     else ∃O j,j < m/\W (i+1) j O T))
section
variable {X:Cx}{scope:gc}{NC:List Str}{fr:List (Option Nat)}{pins:List (Addr×dc)}{σ:St}{H:Hp}{s:ba}
theorem UC  (hc:X.calm=ap) (S:CSc X scope NC fr) (hi:PI X G iter c) (hb:∀(C:Addr) (s:ba) (H:Hp) (e:List Addr) (t:List (Addr×dc)),PG (AS X scope NC C s H e t) G g/\PTs (AS X scope NC C s H e t) ifs p/\PE (AS X scope NC C s H e t) o tk/\PE (AS X scope NC C s H e t) r i) (I:Inv X pins σ H s) (hu:X.A.units+1 < ev) (h:O0 fr c g p tk i σ H Q) (fin:z6 X pins σ use Q QQ) (hs:∀x,cv iter X.env x=pure x) :
   wpAny (model X.prog X.w) X.A (hY (.DictComp o r [#[G,iter,ifs,0]] scope pos) scope X.env B newDict bj (eval iter X.env) use) QQ X.xe s:=by refine NV (y0:=[]) (at_:=.dK) (Ty:= "dict") (dt:=.dict #[]) (tl:=tlD X.prog X.w X.A o r) (el:=λD m W a T=>tk a T λx N=>i a N λy u=>∃O k,x=kV k/\u D=al (.dK O)/\O.length < bd/\∃j,j < m/\W j (DX O k y) (upd u D (.dK (DX O k y)))) rfl rfl (by size_fits) (λH h b=>Q4 h b) sO codeAny_compStart_dict hc S hi (λC s H e t=>#[(hb C s H e t).1,(hb C s H e t).2.1,λp_ s' σ H' D n W P I q k=>?_]) I h fin hs;refine thn ((hb C s H e t).2.2.1 _ s' σ H' _ I q) λyk f #[kv,v,z,Y,R]=>thn ((hb C s H e t).2.2.2 _ f σ v _ z R) ?_;rintro yv Je ⟨vv,Jf,Z,M,O,kk,J,hD,hsz,j,L,w'⟩;subst J;exact A0f (X:=AS X scope NC C s H e t) Z hD hsz Y M λs' U=>k j _ _ _ L w' U
theorem mG {a o iter G:ca}{ifs:List ca}{pos:fb}{i:TI}{g:TG}{n:TT}{tk b:TE}(hc:X.calm=ap) (hu:X.A.units+1 < ev) (S:CSc X scope NC fr) (hi:PI X G iter i) (hb:∀(C:Addr) (s:ba) (H:Hp) (e:List Addr) (t:List (Addr×dc)),PG (AS X scope NC C s H e t) G g/\PTs (AS X scope NC C s H e t) ifs n/\PE (AS X scope NC C s H e t) a tk/\PE (AS X scope NC C s H e t) o b) (hs:∀x,cv iter X.env x=pure x:=by intro _;rfl):PE X (.DictComp a o [#[G,iter,ifs,0]] scope pos) (O0 fr i g n tk b):=by intro pins s σ H Q I h;rw[arm_eval_DictComp];refine UC (use:=am) (Q:=Q) hc S hi hb I hu h (λD C H' s' m O U hn q back _ h' Y=>?_) hs;exact#[.ref D,H',back pins σ H' s' h' U Y,rfl,q]
end
end L2
namespace L2
open PySem PySem.Spec PyProof.Rows PySem.W
def mH (K:Frg):List V->Hp->VK->Prop:=λn H Q=>∃(p:Addr) (z:List (Addr×Str×List V)),n=[.ref p]/\(SqL K H p (z.map λe=>V.ref e.1)\/SqT K H p (z.map λe=>V.ref e.1))/\(∀e∈z,SqT K H e.1 (.str e.2.1::e.2.2))/\(z.map λe=>e.2.1).Nodup/\z.length < 64 /\∀(t:List (Addr×Str×List V)) (q:Addr),t.Perm z->t.Pairwise (λx y=>x.2.1.cps.toList < y.2.1.cps.toList)->H q=am->Q (.ref q) (upd H q (.lst (t.map λe=>V.ref e.1)))
def mI:List V->Hp->VK->Prop:=λt H Q=>∃(p:Addr) (kvs:List (Key×V)) (e:List Str),t=[.ref p]/\Rd H p (.dK kvs)/\kvs.map (·.1)=e.map a1Z/\e.length < 64 /\∀(S:List Str) (q:Addr),S.Perm e->sortedS S=ap->H q=am->Q (.ref q) (upd H q (.lst (S.map V.str)))
def LU (K:Frg):List V->Hp->VK->Prop:=λt H Q=>VT K t H Q\/mH K t H Q\/mI t H Q
section
theorem UD:∀{z:List (Addr×Str×List V)}{n:List ar},Vals (z.map λe=>V.ref e.1) n->n=z.map λe=>a0X e.1
 | [],_,.nil=>rfl
 | _::_,_,.cons r t=>by rw[UD t];cases r;rfl
theorem UE:∀{z:List (Addr×Str×List V)},Vals (z.map λe=>V.ref e.1) (z.map λe=>a0X e.1)
 | []=>.nil
 | _::_=>.cons rfl UE
theorem bV:BO X (.builtin "sorted") (mH X.K):=by
 intro pins s σ H xs us Q I r h;obtain⟨p,z,rfl,hp,ht,nd,S,q⟩:=h;obtain⟨u,rfl,ru⟩:=EW r;cases ru;obtain⟨c,N,T⟩:∃c:List ar,Vals (z.map λe=>V.ref e.1) c/\(s.heap.IsList p c.toArray\/s.heap.IsTuple p c.toArray):=by
   rcases hp with hp | hp;. obtain⟨c,N,T,_⟩:=I.list hp;exact#[c,N,.inl T.isList]
   . obtain⟨c,N,T,_⟩:=I.tuple hp;exact#[c,N,.inr T]
 have ei:=UD N;subst ei;have tn:TupsN s.heap (z.map λe=>a0X e.1) (z.map λe=>e.2.1):=by
   refine#[by simp,λi v nm f R=>?_];rw[zF] at f R;cases he:z[i]? with
   | none=>rw[he] at f;cases f
   | some e=>
     rw[he] at f R;cases f;cases R;obtain⟨js,rj,⟨o,ho,hc,n,hd⟩,_⟩:=I.tuple (ht e (yN he));cases rj with
     | cons r0 _=> obtain⟨t,rfl⟩:=r0;exact#[e.1,o,_,n,t,rfl,ho,hc,hd,by simp]
 refine YI T tn nd (by simpa using S) λM h1 D=>?_;simp only[zX] at h1 D;obtain⟨e,he⟩:=sortedAll_at s.heap (z.map λe=>a0X e.1) (M.map λi=>(z.map λe=>a0X e.1).getD i a3X).toArray;have hn:H (s.heap.objs.size+1)=none:=I.hok.fresh (b5W _);obtain⟨m,O⟩:∃m:List (Addr×Str×List V),m=M.filterMap λi=>z[i]?:=#[_,rfl]
 have U:∀i∈M,i < z.length:=λi hi=>List.mem_range.mp (h1.mem_iff.mp hi);have L:∀(l:List Nat),(∀i∈l,i < z.length)->(l.filterMap λi=>z[i]?)=l.attach.map λi=>z.getD i.1 (0, "", []):=λl=>by
   intro G;induction l with
   | nil=>rfl
   | cons a l ih=> have B:=G a (by simp);rw[a5W,zV B];simp only[List.attach_cons,zI,zD];rw[ih λi hi=>G i (yV _ hi)];simp[yU,zV B]
 have J:m=M.map λi=>z.getD i (0, "", []):=by rw[O,L M U];simp
 have perm:m.Perm z:=by
   rw[O];refine(h1.filterMap _).trans ?_;rw[show((a1K z.length).filterMap λi=>z[i]?)=z from ?_];apply b5Z;intro i;have:((a1K z.length).filterMap λi=>z[i]?)=(a1K z.length).map λi=>z.getD i (0, "", []):=by rw[L _ λi hi=>List.mem_range.mp hi];simp
   rw[this,zF];by_cases hi:i < z.length;. rw[yA hi];simp[hi]
   . rw[a2X (by simp;lia),a2X (by lia)];rfl
 have outs:(M.map λi=>(z.map λe=>a0X e.1).getD i a3X)=m.map λe=>a0X e.1:=by rw[J,zD];apply yM;intro i hi;have hi:=U i hi;simp[yU,zF,zV hi]
 have Jz:M.length=z.length:=by have:=h1.length_eq;simpa using this
 have Y:m.Pairwise (λx y=>x.2.1.cps.toList < y.2.1.cps.toList):=by
   rw[J,a5J,List.pairwise_iff_getElem];intro i j hi hj Z;have:=D i j Z (by lia);have g:∀k (hk:k < M.length),(z.map λe=>e.2.1).getD (M.getD k 0) (a0Q "")=(z.getD M[k] (0, "", [])).2.1:=λk hk=>by have lr:=U M[k] (a7K hk);rw[yU (l:=M),zV hk];simp[yU,zF,zV lr]
   rw[g i hi,g j hj] at this;exact this
 rw[outs] at he ⊢;refine#[.ref (s.heap.objs.size+1),_,I.laid (t':=s.toks) (o:=.lst (m.map λe=>V.ref e.1)) (λb o eb=>sortedAll_old eb) (b5W _) ?_,rfl,q m _ perm Y hn];refine#[by rw[zX,perm.length_eq];exact zN (xR S) (by decide),m.map λe=>a0X e.1,e,UE,?_];have O:=he;simpa [da] using O
theorem bW (hc:X.calm=ap):BO X (.builtin "sorted") mI:=by
 intro pins s k H x v Q I r h;obtain⟨p,kvs,c,rfl,hp,hk,f,q⟩:=h;obtain⟨u,rfl,b⟩:=EW r;cases b;obtain⟨z,hd,j,rel,g⟩:=IW I.hok hp;have i:j.map (·.1)=c.map a1Z:=by
   rw[<-hk];clear hk g z hp q;unfold KV at rel;induction rel with
   | nil=>rfl
   | cons h t U=>simp[h.1,U]
 refine YJ (I.ok.hd hc) hd g i f λh1 h' L out e S n a T hS y m=>?_;have D:Inv X pins k H { s with heap:=h1,toks:=L }:=I.kept n;have hn:H h1.objs.size=none:=D.hok.fresh (zR _);refine#[.ref h1.objs.size,_,D.laid (t':=L) (o:=.lst (S.map V.str)) (h':=h') a (zR _) ?_,rfl,q S _ y m hn];refine#[by rw[zX,y.length_eq];exact zN (xR f) (by decide),out,e,eL hS,?_];simpa [da] using T
theorem QX (hc:X.calm=ap):BO X (.builtin "sorted") (LU X.K):=by
 intro pins s n H t e Q I r h;rcases h with h | h | h;. exact bG pins s n H t e Q I r h
 . exact bV pins s n H t e Q I r h
 . exact bW hc pins s n H t e Q I r h
end
end L2
namespace L2
open PySem PySem.Spec PyProof.Rows
theorem HX:entryFor table "dict.update.loop"=al Builtin.«dict.update.loop»:=entryFor_of_tree (by kernel_rfl)
theorem CV:plainId "dict.update.loop"=true:=by decide +kernel
end L2
namespace DL
open PySem PySem.Spec L2
def AN (ts:List (Str×PyData)):List (PyData×PyData):=ts.map λt=>(a0W t.1,t.2)
def J5 (ts:List (Str×PyData)) (k:Str) (d:PyData):List (Str×PyData):=
 if (ts.any λt=>decide (t.1=k))=ap then ts.map (λt=>if t.1=k then (t.1,d) else t) else ts++[(k,d)]
def UF (ts:List (Str×PyData)) (k:Str):List (Str×PyData):=ts.filter λt=>decide (t.1≠k)
def AO:List (Str×PyData)->Str->Option PyData
 | [],_=>am
 | t::r,k=>if t.1=k then al t.2 else AO r k
section
theorem BV :DKV K H W (AN (t::ts)) ks↔∃v r,ks=(a1Z t.1,v)::r/\DV K H W t.2 v/\DKV K H W (AN ts) r:=by
 unfold AN;rw[zI];constructor
 . intro h;unfold DKV at h;obtain⟨J,v,r,e,f,h1,a⟩:=h;cases J with
   | inl i=>cases f
   | inr x=>
     have n:t.1=x:=by simpa [gV] using f
     subst n;exact#[v,r,e,h1,a]
 . rintro⟨v,r,e,h1,a⟩;unfold DKV;exact#[a1Z t.1,v,r,e,rfl,h1,a]
theorem EA :DKV K H W (AN []) ks↔ks=[]:=by unfold AN;simp only[a9W];unfold DKV;exact Iff.rfl
theorem YK:∀{ts:List (Str×PyData)}{ks:List (Key×V)},DKV K H W (AN ts) ks->ks.map (·.1)=(ts.map (·.1)).map a1Z
 | [],ks,h=>by rw[EA.mp h];rfl
 | t::ts,ks,h=>by obtain⟨v,r,rfl,_,a⟩:=BV.mp h;simp[YK a]
theorem f7 :∀{ts:List (Str×PyData)}{ks:List (Key×V)},DKV K H W (AN ts) ks->(ks.any λkv=>decide (kv.1=a1Z k))=ts.any λt=>decide (t.1=k)
 | [],ks,h=>by rw[EA.mp h];rfl
 | t::ts,ks,h=>by
   obtain⟨v,r,rfl,_,a⟩:=BV.mp h;rw[a5V,a5V,f7 a];congr 1;by_cases e:t.1=k;. rw[decide_eq_true e,decide_eq_true (by rw[e])]
   . rw[decide_eq_false e,decide_eq_false λq=>e (by injection q)]
theorem QY (hd:DV K H W d v):∀{ts:List (Str×PyData)}{ks:List (Key×V)},DKV K H W (AN ts) ks ->
   DKV K H W (AN (ts.map λt=>if t.1=k then (t.1,d) else t)) (ks.map λkv=>if kv.1=a1Z k then (kv.1,v) else kv)
 | [],ks,h=>by rw[EA.mp h];exact EA.mpr rfl
 | t::ts,ks,h=>by
   obtain⟨u,r,rfl,h1,a⟩:=BV.mp h;rw[zI,zI];by_cases e:t.1=k;. rw[if_pos e,if_pos (by rw[e])];exact BV.mpr #[v,_,rfl,hd,QY hd a]
   . rw[if_neg e,if_neg λq=>e (by injection q)];exact BV.mpr #[u,_,rfl,h1,QY hd a]
theorem YL (hd:DV K H W d v):∀{ts:List (Str×PyData)}{ks:List (Key×V)},DKV K H W (AN ts) ks->DKV K H W (AN (ts++[(k,d)])) (ks++[(a1Z k,v)])
 | [],ks,h=>by rw[EA.mp h];exact BV.mpr #[v,[],rfl,hd,EA.mpr rfl]
 | t::ts,ks,h=>by obtain⟨u,r,rfl,h1,a⟩:=BV.mp h;exact BV.mpr #[u,_,rfl,h1,YL hd a]
theorem f8 (h:DKV K H W (AN ts) ks) (hd:DV K H W d v):DKV K H W (AN (J5 ts k d)) (DX ks (a1Z k) v):=by
 unfold J5 DX;rw[f7 h];by_cases c:(ts.any λt=>decide (t.1=k))=ap;. rw[if_pos c,if_pos c];exact QY hd h
 . rw[if_neg c,if_neg c];exact YL hd h
theorem QZ :∀{ts:List (Str×PyData)}{ks:List (Key×V)},DKV K H W (AN ts) ks->DKV K H W (AN (UF ts k)) (MM ks (a1Z k))
 | [],ks,h=>by rw[EA.mp h];exact EA.mpr rfl
 | t::ts,ks,h=>by
   obtain⟨u,r,rfl,h1,a⟩:=BV.mp h;have U:=QZ (k:=k) a;unfold UF MM at U ⊢;by_cases e:t.1=k;. rw[a2K,a2K,if_neg (by simp[e]),if_neg (by simp[e])];exact U
   . rw[a2K,a2K,if_pos (by simpa using e),if_pos (by simp;exact e)];exact BV.mpr #[u,_,rfl,h1,U]
theorem FL :∀{ts:List (Str×PyData)}{ks:List (Key×V)},DKV K H W (AN ts) ks->(∃d v,AO ts k=al d/\DW ks (a1Z k)=al v/\DV K H W d v)\/(AO ts k=am/\DW ks (a1Z k)=am)
 | [],ks,h=>by rw[EA.mp h];exact .inr #[rfl,rfl]
 | t::ts,ks,h=>by
   obtain⟨u,r,rfl,h1,a⟩:=BV.mp h;by_cases e:t.1=k;. exact .inl #[t.2,u,by simp[AO,e],IV (by rw[e]),h1]
   . have e':¬(a1Z t.1:Key)=a1Z k:=λq=>e (by injection q);rcases FL (k:=k) a with ⟨d,v,n,c,D⟩ | ⟨n,c⟩
     . exact .inl #[d,v,by simp[AO,e,n],by rw[FJ (p:=(a1Z t.1,u)) e'];exact c,D]
     . exact .inr #[by simp[AO,e,n],by rw[FJ (p:=(a1Z t.1,u)) e'];exact c]
theorem K9:∀{kvs:List (PyData×PyData)}{ks:List (Key×V)},DKV K H W kvs ks->ks.length=kvs.length
 | [],ks,h=>by unfold DKV at h;subst h;rfl
 | (k,d)::r,ks,h=>by unfold DKV at h;obtain⟨_,_,_,rfl,_,_,a⟩:=h;simp[K9 a]
end
section
theorem D9 (h:DE K td ρ M λx M1=>DE K ty ρ M1 λy M2=>∃(a:Addr) (ts:List (Str×PyData)) (k:Str) (d:PyData),x = .loc a/\y = .d (.str k)/\M2 a=al (.d (AN ts))/\AO ts k=al d/\Q (.d d) M2):DE K (dZ td ty) ρ M Q:=λi H QQ R Y=>
 h i H _ R λv r x M1 T n o h1=>h1 i r _ (R.step T o) λu g y M2 e N O j=>by
   obtain⟨a,ts,k,d,rfl,rfl,m,l,q⟩:=j;unfold SI at n;subst n;rw[BA N];obtain⟨z,b,f⟩:=e a _ m;rcases FL (k:=k) f with ⟨J,I,t,c,p⟩ | ⟨t,c⟩
   . rw[l] at t;cases t;exact#[a,I,rfl,.inl #[z,a1Z k,.inl b,rfl,c.symm],Y _ g (.d d) M2 e p (o.trans O) q]
   . rw[l] at t;cases t
theorem YM (h:DE K td ρ M λx M1=>DE K ty ρ M1 λy M2=>∃(ts:List (Str×PyData)) (k:Str) (d:PyData),x = .d (.dict (AN ts))/\y = .d (.str k)/\AO ts k=al d/\Q (.d d) M2):DE K (dZ td ty) ρ M Q:=λn H QQ R Y=>
 h n H _ R λv o x M1 j T e h1=>h1 n o _ (R.step j e) λu g y M2 z N i p=>by
   obtain⟨ts,k,d,rfl,rfl,l,q⟩:=p;have X:=T.step i;unfold SI DV at X;obtain⟨a,b,rfl,nw,m,f⟩:=X;rw[BA N];rcases FL (k:=k) f with ⟨J,O,t,c,r⟩ | ⟨t,c⟩
   . rw[l] at t;cases t;exact#[a,O,rfl,.inl #[b,a1Z k,m,rfl,c.symm],Y _ g (.d d) M2 z r (e.trans i) q]
   . rw[l] at t;cases t
theorem W4 (h:DE K ty ρ M λy M1=>DE K td ρ M1 λx M2=>∃(a:Addr) (ts:List (Str×PyData)) (k:Str),x = .loc a/\y = .d (.str k)/\M2 a=al (.d (AN ts))/\Q (.d (.bool (AO ts k).isSome)) M2):DE K (qN ty td) ρ M Q:=λr H QQ R Y=>
 h r H _ R λv p x M1 z T i h1=>h1 r p _ (R.step z i) λu g y M2 n o N j=>by
   obtain⟨a,ts,k,rfl,rfl,m,q⟩:=j;unfold SI at o;subst o;rw[BA T];obtain⟨e,b,f⟩:=n a _ m;refine#[a,DW e (a1Z k),rfl,.inl #[e,a1Z k,.inl b,rfl,rfl],Y _ g _ M2 n ?_ (i.trans N) q];rcases FL (k:=k) f with ⟨J,I,t,c,O⟩ | ⟨t,c⟩
   . rw[t,c];exact AF
   . rw[t,c];exact AF
theorem HH (h:DE K tv ρ M λz M1=>DE K td ρ M1 λx M2=>DE K ty ρ M2 λy e=>∃(a:Addr) (ts:List (Str×PyData)) (k:Str) (d:PyData),z = .d d/\x = .loc a/\y = .d (.str k)/\e a=al (.d (AN ts))/\ts.length < bd/\D.nx ρ (e.put a (.d (AN (J5 ts k d))))):DSt K (kN td ty tv) ρ M D:=λt H E R S k2 k3 k4=>
 h t H _ R λv g z M1 B U n h1=>h1 t g _ (R.step B n) λu j x M2 J p i O=>O t j _ (R.step J (n.trans i)) λyv Z y e r X b G=>by
   obtain⟨a,ts,k,d,rfl,rfl,rfl,m,I,q⟩:=G;unfold SI at p;subst p;rw[BA X];obtain⟨o,N,f⟩:=r a _ m;have hd:DV K Z e.W d v:=DV.grow (i.trans b).grow U;obtain⟨L,Y⟩:=CY r m (f8 (k:=k) f hd);have T:o.length < sizeLine:=by rw[K9 f];unfold AN;rw[zX];exact I
   have c:=((n.trans i).trans b).trans Y;exact#[a,_,rfl,.inl #[o,a1Z k,N,rfl,T,rfl],S ρ _ t _ (R.step L c) c q]
theorem f9 (h:DE K td ρ M λx M1=>DE K ty ρ M1 λy M2=>∃(a:Addr) (ts:List (Str×PyData)) (k:Str),x = .loc a/\y = .d (.str k)/\M2 a=al (.d (AN ts))/\(AO ts k).isSome=ap/\D.nx ρ (M2.put a (.d (AN (UF ts k))))):DSt K (vF td ty) ρ M D:=λe H E R I B G L=>
 h e H _ R λv p x M1 z o i h1=>h1 e p _ (R.step z i) λu O y M2 n T N g=>by
   obtain⟨a,ts,k,rfl,rfl,m,l,q⟩:=g;unfold SI at o;subst o;rw[BA T];obtain⟨j,b,f⟩:=n a _ m;obtain⟨Z,X⟩:=CY n m (QZ (k:=k) f);have r:=(i.trans N).trans X;refine#[a,j,a1Z k,rfl,b,rfl,?_,I ρ _ e _ (R.step Z r) r q];rcases FL (k:=k) f with ⟨J,U,t,c,S⟩ | ⟨t,c⟩
   . rw[c];rfl
   . rw[t] at l;cases l
theorem sP (h:DE K td ρ M λx M1=>∃(a:Addr) (e:List (Str×PyData)),x = .loc a/\M1 a=al (.d (AN e))/\DE K ty ρ M1 λy M2=>∃(ts:List (Str×PyData)) (k:Str) (d:PyData),y = .d (.str k)/\M2 a=al (.d (AN ts))/\AO ts k=al d/\Q (.d d) (M2.put a (.d (AN (UF ts k))))):DE K (kR td ty) ρ M Q:=λp H QQ R Y=>
 h p H _ R λv b x M1 n i r h1=>by
   obtain⟨a,e,rfl,O,h1⟩:=h1;unfold SI at i;subst i;obtain⟨g,J,_⟩:=n a _ O;refine#[a,rfl,.inl #[g,.inl J],h1 p b _ (R.step n r) λu G y M2 o I S T=>?_];obtain⟨ts,k,d,rfl,m,l,q⟩:=T;rw[BA I];obtain⟨N,z,f⟩:=o a _ m;rcases FL (k:=k) f with ⟨L,B,t,c,j⟩ | ⟨t,c⟩
   . rw[l] at t;cases t;obtain⟨Z,X⟩:=CY o m (QZ (k:=k) f);exact#[N,a1Z k,B,z,rfl,c,Y _ _ (.d d) _ Z (DV.grow X.grow j) ((r.trans S).trans X) q]
   . rw[l] at t;cases t
theorem mJ (m:M a=al (.d (AN ts))) (f:ts.length < 64) (q:∀ss:List Str,ss.Perm (ts.map (·.1))->xG ss=ap->Q (.d (.list (ss.map .str))) M):DR K (LU K) [.loc a] M Q:=λH o QQ u s k=>by obtain⟨v,r,rfl,h1,t⟩:=s;cases t;unfold SI at h1;subst h1;obtain⟨n,c,e⟩:=u a _ m;refine .inr (.inr #[a,n,ts.map (·.1),rfl,.inl c,YK e,by rw[zX];exact f,λS p G z hp=>?_]);have g:Grow K M.W M.W H (upd H p (.lst (S.map V.str))):=AZ _ hp;refine k _ _ (.d (.list (S.map .str))) M (u.new hp) ?_ #[g] (q S G z);unfold SI DV;exact#[p,_,rfl,.inl #[λw=>w (u.none hp),.inl AD],G6]
def O1 (t:Str×List PyData):PyData:=.tuple (.str t.1::t.2)
theorem YN :∀{ts:List (Str×List PyData)}{vs:List V},DVs K H W (ts.map O1) vs->∃z:List (Addr×Str×List V),vs=z.map (λe=>V.ref e.1)/\z.map (λe=>e.2.1)=ts.map (·.1)/\(∀e∈z,SqT K H e.1 (.str e.2.1::e.2.2)) /\
   z.length=ts.length/\∀(i:Nat) e t,z[i]?=al e->ts[i]?=al t->DV K H W (O1 t) (.ref e.1)/\e.2.1=t.1
 | [],vs,h=>by unfold DVs at h;subst h;exact#[[],rfl,rfl,(λe he=>by simp at he),rfl,λi e t h1 o=>by simp at h1]
 | t::ts,vs,h=>by
   rw[zI] at h;unfold DVs at h;obtain⟨v,r,rfl,h1,o⟩:=h;obtain⟨z,rfl,f,p,X,I⟩:=YN o;have Y:=h1;unfold O1 DV at Y;obtain⟨a,c,rfl,R,hd⟩:=Y;unfold DVs at hd;obtain⟨u,m,rfl,hu,g⟩:=hd;unfold DV at hu;subst hu;refine#[(a,t.1,m)::z,rfl,by simp[f],λe he=>?_,by simp[X],λi e b G n=>?_]
   . rcases yX.mp he with rfl | he;. exact R.sq
     . exact p e he
   . cases i with
     | zero=>simp at G n;subst G n;exact#[h1,rfl]
     | succ i=>exact I i e b (by simpa using G) (by simpa using n)
theorem YO :∀{z:List (Addr×Str×List V)}{ts:List (Str×List PyData)},z.length=ts.length->(∀(i:Nat) e t,z[i]?=al e->ts[i]?=al t->DV K H W (O1 t) (.ref e.1))->DVs K H W (ts.map O1) (z.map λe=>V.ref e.1)
 | [],[],_,_=>by simp only[a9W];exact DVs.nil
 | [],_::_,h,_=>by simp at h
 | _::_,[],h,_=>by simp at h
 | e::z,t::ts,h,k=>by rw[zI,zI];exact DVs.cons (k 0 e t rfl rfl) (YO (by simpa using h) λi e t h1 a=>k (i+1) e t (by simpa using h1) (by simpa using a))
theorem bX {o S:Type}:∀{as e:List o},e.Perm as->∀{bs:List S},as.length=bs.length->∃z:List S,z.Perm bs/\(e.zip z).Perm (as.zip bs)/\e.length=z.length:=by
 intro as e h;induction h with
 | nil=>intro bs m;exact#[bs,.refl _,.refl _,m]
 | cons x _ U=>
   intro bs m;cases bs with
   | nil=>simp at m
   | cons b bs=> obtain⟨z,h1,a,G⟩:=U (bs:=bs) (by simpa using m);exact#[b::z,h1.cons b,by rw[a8Z,a8Z];exact a.cons _,by simp[G]]
 | swap x y l=>
   intro bs m
   match bs,m with
   | b1::t::bs,m=>exact#[t::b1::bs,.swap _ _ _,by simp only[a8Z];exact .swap _ _ _,by simpa using m]
 | trans X i ih1 ih2=> intro bs m;obtain⟨t,h1,a,G⟩:=ih2 m;obtain⟨g,q,n,f⟩:=ih1 G;exact#[g,q.trans h1,n.trans a,f]
theorem R0 (u:OA K H M) (N:SqL K H a vs\/SqT K H a vs) (hd:DVs K H M.W (ts.map O1) vs) (nd:(ts.map (·.1)).Nodup) (f:ts.length < 64) (k:∀(w:V) (H':Hp) (z:DS) (m:Own),OA K H' m->SI K H' m z w->Step K M m H H'->(∃n:List (Str×List PyData),n.Perm ts/\n.Pairwise (λx y=>x.1.cps.toList < y.1.cps.toList)/\z = .d (.list (n.map O1))/\m=M)->QQ w H'):LU K [.ref a] H QQ:=by
 obtain⟨c,rfl,v,T,X,I⟩:=YN hd;refine .inr (.inl #[a,c,rfl,N,T,by rw[v];exact nd,by rw[X];exact f,λo p hp hs hn=>?_]);obtain⟨n,R,S,B⟩:=bX hp X;have each:∀(i:Nat) e t,o[i]?=al e->n[i]?=al t->DV K H M.W (O1 t) (.ref e.1)/\e.2.1=t.1:=λi e t h1 b=>by have O:(e,t)∈c.zip ts:=S.mem_iff.mp (yN (i:=i) (by rw[a8W];exact#[h1,b]));obtain⟨j,r⟩:=List.getElem?_of_mem O;rw[a8W] at r;exact I j e t r.1 r.2
 have g:Grow K M.W M.W H (upd H p (.lst (o.map λe=>V.ref e.1))):=AZ _ hn;refine k _ _ (.d (.list (n.map O1))) M (u.new hn) ?_ #[g] #[n,R,?_,rfl,rfl];. unfold SI DV;exact#[p,_,rfl,.inl #[λw=>w (u.none hn),.inl AD],(YO B λi e t h1 b=>(each i e t h1 b).1).grow g]
 . rw[List.pairwise_iff_getElem] at hs ⊢;intro i j hi r q;have hi':i < o.length:=by lia
   have hj':j < o.length:=by lia
   have:=hs i j hi' hj' q;rw[(each i o[i] n[i] (zV hi') (zV hi)).2,(each j o[j] n[j] (zV hj') (zV r)).2] at this;exact this
theorem mK (nd:(ts.map (·.1)).Nodup) (f:ts.length < 64) (q:∀e:List (Str×List PyData),e.Perm ts->e.Pairwise (λx y=>x.1.cps.toList < y.1.cps.toList)->Q (.d (.list (e.map O1))) M):DR K (LU K) [.d (.list (ts.map O1))] M Q:=λH b QQ u s k=>by obtain⟨v,r,rfl,h1,n⟩:=s;cases n;unfold SI DV at h1;obtain⟨a,b,rfl,m,hd⟩:=h1;exact R0 u (.inl m.sq) hd nd f (by rintro w H' z g o I p ⟨e,X,i,c,t⟩;subst c t;exact k w H' _ _ o I p (q e X i))
theorem mL (h:DR K (VT K) xs M Q):DR K (LU K) xs M Q:=λH n QQ u s k=>.inl (h H n QQ u s k)
end
end DL
namespace DL
open PySem PySem.Spec L2
section
variable {X:Cx}{K:Frg}
theorem A0g (h:X.K=K) (hc:X.calm=ap):BO X (.builtin "sorted") (LU K):=h▸QX hc
end
section
theorem R5 (h:k∉ts.map (·.1)):J5 ts k d=ts++[(k,d)]:=by unfold J5;rw[if_neg];intro e;obtain⟨t,a,e⟩:=List.any_eq_true.mp e;exact h (zL.mpr #[t,a,by simpa using e])
def L3 (f:PyData->Str) (w:PyData->PyData) (ds:List PyData):List (Str×PyData):=ds.foldl (λo d=>J5 o (f d) (w d)) []
theorem bY :L3 f w (ds++[d])=J5 (L3 f w ds) (f d) (w d):=c1X ..
theorem iG :(L3 f w ds).length<=ds.length:=by
 have G:∀(ds:List PyData) (o:List (Str×PyData)),(ds.foldl (λo d=>J5 o (f d) (w d)) o).length<=o.length+ds.length:=λds=>by
   induction ds with
   | nil=>exact λo=>zR _
   | cons d r U=>
     intro o;refine zN (U _) ?_;have:(J5 o (f d) (w d)).length<=o.length+1:=by unfold J5;split <;> simp
     show(J5 o (f d) (w d)).length+_<=_;rw[yR];lia
 exact zN (G ds []) (by simp)
theorem mM (nd:(ds.map f).Nodup):L3 f w ds=ds.map λd=>(f d,w d):=by
 have G:∀(ds:List PyData) (o:List (Str×PyData)),(o.map (·.1)++ds.map f).Nodup->ds.foldl (λo d=>J5 o (f d) (w d)) o=o++ds.map λd=>(f d,w d):=λds=>by
   induction ds with
   | nil=>intro o _;simp
   | cons d r U=> intro o h;rw[b7V,R5 (λq=>(List.nodup_append.mp h).2.2 _ q _ a1Q rfl),U _ (by simpa using h)];simp
 exact G ds [] nd
theorem iH (ho:HW g T) (hT:∀i∈T,∀j,o[i]?≠al (al j)) (h:DI K wi ρ M λds M1=>ds.length < bd/\∃(c:PyData->Bool) (f:PyData->Str) (w:PyData->PyData),(∀d∈ds,∀q,DG K g d (CA o ρ) q λv M2=>M2=q/\DT K tt v M2 λb S=>S=q/\b=c d/\(c d=ap->DE K tk v S λy X=>y = .d (.str (f d))/\X=q/\DE K tv v X λz Y=>z = .d (w d)/\Y=q)) /\∀p,M1 p=am->Q (.loc p) (M1.put p (.d (AN (L3 f w (ds.filter c)))))) :
   DE K (O0 o wi g tt tk tv) ρ M Q:=λU H QQ R k=>
 h U H _ R λJ ds H1 M1 G t1 L cu=>by
   obtain⟨hsz,c,f,w,he,hq⟩:=cu;intro A hA;obtain⟨oA,sA⟩:=IY (kvs:=[]) (ks:=[]) G hA (by unfold DKV;rfl);have hM:=G.none hA;let acc:Nat->List (Str×PyData):=λi=>L3 f w ((ds.take i).filter c);refine#[λi m ys t=>m=ds.length - i/\i<=ds.length/\t A=al (.dK ys)/\OA K t (M1.put A (.d (AN (acc i))))/\Step K M1 (M1.put A (.d (AN (acc i)))) H1 t,#[_,rfl,xT _,AD,oA,sA],?_];rintro i m ys t ⟨rfl,hi,om,I,r⟩;refine#[om,?_];by_cases u:i < ds.length
   . refine .inr #[L.go i t _ u I r,λx Z y=>?_];obtain⟨qo,ee,d,e1,e2⟩:=L.yld i t _ x Z I r u y;have Rc:Rel K (M1.put A (.d (AN (acc i)))) (CA o ρ) (L2.capt o U) Z:=((R.step G t1).step qo (r.trans ee)).capt;have ts:(ds.take (i+1)).filter c=(ds.take i).filter c++(if c d then [d] else []):=fx c ds i d e1;refine ho _ _ _ _ (he d (yN e1) _ (L2.capt o U) Z x _ Rc e2 λρ3 S a H4 D j_ #[eM,b3] hext=>#[λi' v' gn=>?_,?_]);. obtain⟨j,f1,f2⟩:=D3 gn;rw[hext i' λhm=>hT i' hm j f1];exact gn
     . subst eM;refine b3 a H4 _ D ?_;rintro b H5 Y O B ⟨xj,N,h5⟩;subst xj;have sx:=((r.trans ee).trans j_).trans B;cases hb:c d with
       | false=>
         rw[hb] at N;subst N;rw[if_neg nft];obtain⟨ks,q1,q2⟩:=O A _ zU;have n:acc (i+1)=acc i:=by show L3 f w ((ds.take (i+1)).filter c)=_;rw[ts,hb];simp[acc]
         refine#[ks,ds.length - (i+1),by lia,rfl,u,q1,?_,?_];. rw[n];exact O
         . rw[n];exact sx
       | true=>
         rw[hb] at N;subst N;rw[if_pos rfl];refine h5 hb a H5 _ (D.step O B) ?_;rintro y H6 z M6 o6 s6 il ⟨ez,Bj,h6⟩;subst ez Bj;refine h6 a H6 _ ((D.step O B).step o6 il) ?_;rintro y2 H7 z2 M7 o7 s7 qa ⟨Bk,Bl⟩;subst Bk Bl;obtain⟨ks,q1,q2⟩:=o7 A _ zU;obtain⟨w1,w2⟩:=CY o7 zU (f8 (k:=f d) q2 s7);have n:acc (i+1)=J5 (acc i) (f d) (w d):=by show L3 f w ((ds.take (i+1)).filter c)=_;rw[ts,hb,if_pos rfl,bY]
         have ac:ks.length < sizeLine:=by rw[K9 q2];unfold AN;rw[zX];refine zQ (zN iG (zN (yJ _ _) ?_)) hsz;rw[a2Q];lia
         rw[yI] at w1 w2;refine#[ks,a1Z (f d),BA s6,q1,ac,ds.length - (i+1),by lia,rfl,u,AD,?_,?_];. rw[n];exact w1
         . rw[n];exact((sx.trans il).trans qa).trans w2
   . have e:i=ds.length:=by lia
     subst e;refine .inl #[L.stop t _ I r,k _ t (.loc A) _ I rfl (t1.trans r) ?_];have:=hq A hM;have n:acc ds.length=L3 f w (ds.filter c):=by show L3 f w ((ds.take ds.length).filter c)=_;rw[a1V]
     rw[n];exact this
theorem YQ (N:HW g T) (x:∀i∈T,∀j,t[i]?≠al (al j)) (h:DI K wi ρ M λds M1=>ds.length < bd/\∃(c:PyData->Bool) (f:PyData->Str) (w:PyData->PyData),((ds.filter c).map f).Nodup /\(∀d∈ds,∀e,DG K g d (CA t ρ) e λv M2=>M2=e/\DT K o v M2 λb u=>u=e/\b=c d/\(c d=ap->DE K tk v u λy n=>y = .d (.str (f d))/\n=e/\DE K r v n λz B=>z = .d (w d)/\B=e)) /\∀p,M1 p=am->Q (.loc p) (M1.put p (.d (AN ((ds.filter c).map λd=>(f d,w d)))))) :
   DE K (O0 t wi g o tk r) ρ M Q:=iH N x λD H QQ R k=>h D H QQ R (by rintro J ds m M1 O I S ⟨a,c,f,w,nd,b,q⟩;exact k J ds m M1 O I S #[a,c,f,w,b,λp hp=>by rw[mM nd];exact q p hp])
theorem mN (h:DA K k ρ M λxs M1=>∃x y,xs=[x,y]/\D.nx ((ρ.set i (al x)).set j (al y)) M1):DSt K (A1N i j k) ρ M D:=λc H E R I _ _ _=>
 h c H _ R λu t xs M1 n a e h1=>by obtain⟨x,y,rfl,q⟩:=h1;obtain⟨v,r,rfl,m,o⟩:=a;obtain⟨w,f,rfl,b,p⟩:=o;cases p;exact#[v,w,rfl,I _ M1 _ t (((R.step n e).set m i).set b j) e q]
end
end DL
namespace DL
open PySem PySem.Spec L2
inductive Deed where
 | put (x:Str) (p k:Int) | take (x:Str) | move (x:Str) (p:Int) | count (x:Str) (k:Int) | name (x y:Str) | split (x y:Str) (p k:Int) | join (x y:Str)
def Deed.d:Deed->PyData
 | .put x p k=>.tuple [.str (a0Q "put"),.str x,.int p,.int k]
 | .take x=>.tuple [.str (a0Q "take"),.str x]
 | .move x p=>.tuple [.str (a0Q "move"),.str x,.int p]
 | .count x k=>.tuple [.str (a0Q "count"),.str x,.int k]
 | .name x y=>.tuple [.str (a0Q "name"),.str x,.str y]
 | .split x y p k=>.tuple [.str (a0Q "split"),.str x,.str y,.int p,.int k]
 | .join x y=>.tuple [.str (a0Q "join"),.str x,.str y]
def Deed.names:Deed->List Str
 | .put x _ _=>[x] | .take x=>[x] | .move x _=>[x] | .count x _=>[x] | .name x y=>[x,y] | .split x y _ _=>[x,y] | .join x y=>[x,y]
def Deed.ok (D:Deed):Prop:=∀x∈D.names,B9 x
def GV:List (Str×Str):=[("put","npk"),("take","n"),("move","np"),("count","nk"),("name","nn"),("split","nnpk"),("join","nn")]
def R6:PyData->PyData | .str z=>VY (GV.lookup z) | _=>.none
def YR (z:Str):Bool:=z == "name" || z == "split" || z == "join"
def O2:PyData->PyData | .tuple (.str w::r)=>.tuple (r.take (if YR w then 2 else 1)) | d=>d
theorem mO (h:GV.lookup w=al f):(w = "put" /\ f = "npk")\/(w = "take" /\ f = "n")\/(w = "move" /\ f = "np")\/(w = "count" /\ f = "nk")\/(w = "name" /\ f = "nn")\/(w = "split" /\ f = "nnpk")\/(w = "join" /\ f = "nn"):=by
 unfold GV at h;simp only[a3Q,List.lookup_nil] at h;split at h;. rename_i e;exact .inl #[eq_of_beq e,by injection h with h;exact h.symm]
 split at h;. rename_i e;exact .inr (.inl #[eq_of_beq e,by injection h with h;exact h.symm])
 split at h;. rename_i e;exact .inr (.inr (.inl #[eq_of_beq e,by injection h with h;exact h.symm]))
 split at h;. rename_i e;exact .inr (.inr (.inr (.inl #[eq_of_beq e,by injection h with h;exact h.symm])))
 split at h;. rename_i e;exact .inr (.inr (.inr (.inr (.inl #[eq_of_beq e,by injection h with h;exact h.symm]))))
 split at h;. rename_i e;exact .inr (.inr (.inr (.inr (.inr (.inl #[eq_of_beq e,by injection h with h;exact h.symm])))))
 split at h;. rename_i e;exact .inr (.inr (.inr (.inr (.inr (.inr #[eq_of_beq e,by injection h with h;exact h.symm])))))
 cases h
theorem R9 (h:GV.lookup w=al f):f.cps.all (· < 128)=ap/\f.cps.size<=4/\Txt.startswith f (a0Q "nn")=YR w/\(YR w=ap->2<=f.cps.size/\f.cps[0]?=al 110/\f.cps[1]?=al 110)/\1<=f.cps.size:=by rcases mO h with ⟨rfl,rfl⟩ | ⟨rfl,rfl⟩ | ⟨rfl,rfl⟩ | ⟨rfl,rfl⟩ | ⟨rfl,rfl⟩ | ⟨rfl,rfl⟩ | ⟨rfl,rfl⟩ <;> decide +kernel
def mP (d:PyData):Prop:=∃w f r,d = .tuple (.str w::r)/\GV.lookup w=al f
theorem MY (D:Deed):mP D.d:=by cases D <;> exact#[_,_,_,rfl,rfl]
theorem J6 (D:Deed):O2 D.d = .tuple (D.names.map .str):=by cases D <;> rfl
def BN:PyData->Str->Nat
 | .tuple (.str w::.str x::_),n=>if w == "move" then 0 else if (w == "count" || w == "split" || w == "join")&&x==n then 1 else 2
 | _,_=>2
def RA:Nat->Str | 0 => "move" | 1 => "add" | _ => "more"
def HY (u v:Nat):Bool:=(u==1||v==1)&&u != 2&&v != 2
def nmS:PyData->List Str | .tuple ds=>ds.map CJ | _=>[]
def RB (d:PyData):List Str:=nmS (O2 d)
theorem GW (D:Deed):RB D.d=D.names:=by unfold RB;rw[J6];show(D.names.map a0W).map CJ=_;rw[zD];exact b3Z _
def E1 (a b:PyData):Bool:=(RB a).any λn=>decide (n∈RB b)&&!HY (BN a n) (BN b n)
theorem FE (a:PyData) (n:Str):BN a n=0\/BN a n=1\/BN a n=2:=by
 unfold BN;split
 . split;. exact .inl rfl
   . split;. exact .inr (.inl rfl)
     . exact .inr (.inr rfl)
 . exact .inr (.inr rfl)
def FM (d:PyData):Prop:=∃D:Deed,d=D.d/\D.ok
def O3:FSp:=fn1 (λ_=>True) R6
def FN:FSp:=fn1 mP O2
def YS:FSp:=fn2 (λa b=>FM a/\∃n,b = .str n/\B9 n) λa b=>.str (RA (BN a (CJ b)))
def fn3 (pre:PyData->PyData->PyData->Prop) (f:PyData->PyData->PyData->PyData):FSp:=#[λt _=>∃a b c,t=[.d a,.d b,.d c]/\pre a b c,λt M y i=>∀a b c,t=[.d a,.d b,.d c]->y = .d (f a b c)/\i=M]
theorem mQ {Q:DS->Own->Prop}(p:pre a b c) (q:Q (.d (f a b c)) M):[DS.d a,.d b,.d c].length=3/\(fn3 pre f).pre [.d a,.d b,.d c] M/\∀x i,(fn3 pre f).post [.d a,.d b,.d c] M x i->Q x i:=#[rfl,#[a,b,c,rfl,p],λx i h=>by obtain⟨rfl,rfl⟩:=h a b c rfl;exact q]
def OU:FSp:=fn3 (λa b c=>FM a/\FM b/\∃n,c = .str n/\B9 n) λa b c=>.bool (HY (BN a (CJ c)) (BN b (CJ c)))
def fA:FSp:=fn2 (λa b=>FM a/\FM b) λa b=>.bool (E1 a b)
def B5 (o:MO):Prop:=∃v:Int,o = .l [.int v]
def DC:FSp:=#[λt M=>∃c:Int,t=[.d (.int c)]/\xJ c<=2 ^ 21,λt M y i=>i=M/\∃v:Int,y = .d (.int v)]
def BR:FSp:=#[λt M=>∃p size o,t=[.loc p,.d (.int size)]/\M p=al o/\B5 o/\0 < size/\size < 1073741824,
 λt M y i=>∀p size,t=[.loc p,.d (.int size)]->∃v o,y = .d (.int v)/\0<=v/\v < size/\B5 o/\i=M.put p o]
theorem B0 {Q:DS->Own->Prop}(m:M p=al o) (T:B5 o) (h0:0 < size) (h1:size < 1073741824) (q:∀v r,0<=v->v < size->B5 r->Q (.d (.int v)) (M.put p r)) :
   [DS.loc p,.d (.int size)].length=2/\BR.pre [.loc p,.d (.int size)] M/\∀x i,BR.post [.loc p,.d (.int size)] M x i->Q x i:=
 #[rfl,#[p,size,o,rfl,m,T,h0,h1],λx i h=>by obtain⟨v,r,rfl,a,G,z,rfl⟩:=h p size rfl;exact q v r a G z]
def PD:List Str:=["take","name","join"]
theorem O4 (h:z∈PD):z.cps.toList=[116,97,107,101]\/z.cps.toList=[110,97,109,101]\/z.cps.toList=[106,111,105,110]:=by
 simp only[PD,yX,xX,or_false] at h;rcases h with rfl | rfl | rfl;. exact .inl (by decide +kernel)
 . exact .inr (.inl (by decide +kernel))
 . exact .inr (.inr (by decide +kernel))
def nxL (a:Nat):Nat:=if a=122 then 97 else a+1
def Run (l:List Nat):Prop:=∀i a b,l[i]?=al a->l[i+1]?=al b->b=nxL a
theorem Run.drop (h:Run l) (n:Nat):Run (l.drop n):=λi a b h1 e=>by rw[List.getElem?_drop] at h1 e;exact h (n+i) a b h1 (by rw[<-Nat.add_assoc] at e;exact e)
theorem Run.take (h:Run l) (n:Nat):Run (l.take n):=λi a b h1 e=>by
 rw[List.getElem?_take] at h1 e;split at h1
 . split at e;. exact h i a b h1 e
   . cases e
 . cases h1
theorem sQ (h:z.cps.toList=a3J n c):z∉PD:=λhb=>by
 have key:∀a∈z.cps.toList,a=c:=λa N=>by rw[h] at N;exact b4Q N
 rcases O4 hb with e | e | e;. rw[e] at key;have h1:=key 116 (by simp);have t:=key 97 (by simp);lia
 . rw[e] at key;have h1:=key 110 (by simp);have t:=key 97 (by simp);lia
 . rw[e] at key;have h1:=key 106 (by simp);have t:=key 111 (by simp);lia
theorem sR (h:z.cps.toList=c::m) (hr:Run m):z∉PD:=λhb=>by
 rcases O4 hb with e | e | e;. rw[e] at h;injection h with _ h;subst h;exact absurd (hr 0 97 107 rfl rfl) (by decide)
 . rw[e] at h;injection h with _ h;subst h;exact absurd (hr 0 97 109 rfl rfl) (by decide)
 . rw[e] at h;injection h with _ h;subst h;exact absurd (hr 0 111 105 rfl rfl) (by decide)
theorem sS (h:z.cps.toList=m++[c]) (hr:Run m):z∉PD:=λhb=>by
 have j:m=z.cps.toList.dropLast:=by rw[h];simp
 rcases O4 hb with e | e | e;. rw[e] at j;subst j;exact absurd (hr 0 116 97 rfl rfl) (by decide)
 . rw[e] at j;subst j;exact absurd (hr 0 110 97 rfl rfl) (by decide)
 . rw[e] at j;subst j;exact absurd (hr 0 106 111 rfl rfl) (by decide)
def A1y (l:List Nat):Bool:=(a1K l.length).all λi=>match l[i]?,l[i+1]? with | some a,al b=>b==nxL a | _,_=>ap
theorem A0h (h:A1y l=ap):Run l:=λi a b h1 e=>by have hi:i < l.length:=(yT.mp h1).1;have:=List.all_eq_true.mp h i (List.mem_range.mpr hi);rw[h1,e] at this;exact eq_of_beq this
theorem mR:∀t,t < 26->A1y ((a0Q "abcdefghijklmnopqrstuvwxyz").cps.toList.drop t++(a0Q "abcdefghijklmnopqrstuvwxyz").cps.toList.take t)=true:=by decide +kernel
def EZ:FSp:=#[λt M=>∃p n o,t=[.loc p,.d (.int n)]/\M p=al o/\B5 o/\0<=n/\n<=26,
 λt M y i=>∀p n,t=[.loc p,.d (.int n)]->∃(q:List Str) (o:MO),y = .d (.list (q.map .str))/\(q.length:Int)=n/\(∀z∈q,B9 z)/\(∀z∈q,z∉PD)/\q.Nodup/\B5 o/\i=M.put p o]
theorem bZ {Q:DS->Own->Prop}(m:M p=al o) (T:B5 o) (h0:0<=n) (h1:n<=26) (q:∀(ys:List Str) r,(ys.length:Int)=n->(∀z∈ys,B9 z)->(∀z∈ys,z∉PD)->ys.Nodup->B5 r->Q (.d (.list (ys.map .str))) (M.put p r)) :
   [DS.loc p,.d (.int n)].length=2/\EZ.pre [.loc p,.d (.int n)] M/\∀x i,EZ.post [.loc p,.d (.int n)] M x i->Q x i:=
 #[rfl,#[p,n,o,rfl,m,T,h0,h1],λx i h=>by obtain⟨v,r,rfl,a,G,e,t,Z,rfl⟩:=h p n rfl;exact q v r a G e t Z]
theorem HI {Q:DS->Own->Prop}(h:xJ c<=2 ^ 21) (q:∀v:Int,Q (.d (.int v)) M):[DS.d (.int c)].length=1/\DC.pre [.d (.int c)] M/\∀x i,DC.post [.d (.int c)] M x i->Q x i:=#[rfl,#[c,rfl,h],λx i h=>by obtain⟨rfl,v,rfl⟩:=h;exact q v]
theorem AY (h:B9 z):zH (.str z)=true:=FD (QH h) (by simp[b2V])
def Deed.word:Deed->Str
 | .put .. => "put" | .take .. => "take" | .move .. => "move" | .count .. => "count" | .name .. => "name" | .split .. => "split" | .join .. => "join"
def Deed.fst:Deed->Str
 | .put x _ _=>x | .take x=>x | .move x _=>x | .count x _=>x | .name x _=>x | .split x _ _ _=>x | .join x _=>x
def Deed.rest:Deed->List PyData
 | .put _ p k=>[.int p,.int k] | .take _=>[] | .move _ p=>[.int p] | .count _ k=>[.int k] | .name _ y=>[.str y] | .split _ y p k=>[.str y,.int p,.int k] | .join _ y=>[.str y]
theorem Deed.d_eq (D:Deed):D.d = .tuple (.str D.word::.str D.fst::D.rest):=by cases D <;> rfl
theorem Deed.word_ok (D:Deed):zH (.str D.word)=true:=by cases D <;> (simp only[Deed.word];decide +kernel)
theorem Deed.fst_ok {D:Deed}(h:D.ok):B9 D.fst:=by cases D <;> exact h _ a1Q
theorem B7 (a b:Str):a0Z (.str a) (.str b)=(a==b):=by simp[a0Z]
theorem A2m (w a b c:Str):decide (w∈[a,b,c])=(w==a||w==b||w==c):=by rw[a2Z];simp[or_assoc]
theorem A0i (u v:Nat) (hu:u=0\/u=1\/u=2) (e:v=0\/v=1\/v=2):(decide (a0Q "add" ∈ [RA u,RA v])&&!decide (a0Q "more" ∈ [RA u,RA v]))=HY u v:=by rcases hu with rfl | rfl | rfl <;> rcases e with rfl | rfl | rfl <;> decide +kernel
theorem A1z {a:Str}(h:ss.Perm [a,b]):ss=[a,b]\/ss=[b,a]:=by
 have m:=h.length_eq
 match ss,m with
 | [x,y],_=>
   have hx:x∈[a,b]:=h.mem_iff.mp (by simp);rcases yX.mp hx with rfl | hx;. have:=(List.perm_cons x).mp h;rw[List.perm_singleton] at this;left;rw[this]
   . have e:x=b:=by simpa using hx
     subst e;have t:[x,y].Perm [x,a]:=h.trans (List.Perm.swap _ _ _);have:=(List.perm_cons x).mp t;rw[List.perm_singleton] at this;right;rw[this]
theorem OV {ss:List Str}(h:∀s∈ss,b5Q s=ap):zH (.list (ss.map .str))=true:=by
 refine FD (bK λd hd=>?_) ?_;. obtain⟨y,h1,rfl⟩:=zL.mp hd;exact h y h1
 . have:a6V (ss.map a0W)<=0:=bL λd hd=>by obtain⟨y,h1,rfl⟩:=zL.mp hd;exact zR 0
   simp only[b2V];lia
theorem PJ {ys:List Str}{v:Int}(h0:0<=v) (h1:v < ys.length):∃y,atI (ys.map a0W) v=al (.str y)/\y∈ys:=by
 obtain⟨n,rfl⟩:∃n:Nat,v=(n:Int):=#[v.toNat,by lia]
 have hn:n < ys.length:=by lia
 exact#[ys[n],AK (by rw[zF,zV hn];rfl),a7K hn]
def nmA (R:Str):PyData->PyData
 | .int i=>match atI R.cps.toList (i/8) with | some c=>.str (PB #[(z3 [c])] (1+i % 8)) | none=>.none
 | d=>d
def nmB (R t:Str):PyData->PyData
 | .int i=>match atI R.cps.toList i with | some c=>.str (#[(z3 [c])]++t) | none=>.none
 | d=>d
def nmC (R t:Str):PyData->PyData
 | .int i=>match atI R.cps.toList i with | some c=>.str (t++#[(z3 [c])]) | none=>.none
 | d=>d
theorem W5 (h:atI R.cps.toList (i/8)=al c):nmA R (.int i) = .str (PB #[(z3 [c])] (1+i % 8)):=by simp only[nmA,h]
theorem W6 (h:atI R.cps.toList i=al c):nmB R t (.int i) = .str (#[(z3 [c])]++t):=by simp only[nmB,h]
theorem W7 (h:atI R.cps.toList i=al c):nmC R t (.int i) = .str (t++#[(z3 [c])]):=by simp only[nmC,h]
def GL (D E:Deed) (n:Str):Bool:=decide (n∈E.names)&&!HY (BN D.d n) (BN E.d n)
theorem RC (D E:Deed):E1 D.d E.d=D.names.any (GL D E):=by unfold E1;rw[GW,GW];rfl
def YT:FSp:=#[λt M=>∃x:List Int,t=[.d (.list (x.map .int))]/\x.length<=63/\∀i∈x,xJ i<=2 ^ 20,λt M y e=>y = .d (.bool ap)]
theorem RD {R:List Nat}(h:R.Nodup) {i j:Nat}{c:Nat}(h1:atI R (i:Int)=al c) (a:atI R (j:Int)=al c) (hi:i < R.length) (M:j < R.length):i=j:=by
 have e:atI R (i:Int)=al R[i]:=AK (zV hi);have f:atI R (j:Int)=al R[j]:=AK (zV M);rw[e] at h1;rw[f] at a;have:R[i]=R[j]:=by rw[Option.some.inj h1,Option.some.inj a]
 exact(List.getElem_inj h).mp this
theorem nodup_range {f:Nat->Str}(h:∀i j,i < N->j < N->f i=f j->i=j):((a1K N).map f).Nodup:=by unfold List.Nodup;rw[a5J];exact(List.nodup_range (n:=N)).imp_of_mem λ{a b} t hb y e=>y (h a b (List.mem_range.mp t) (List.mem_range.mp hb) e)
theorem iI (t:Nat):((a0Q "abcdefghijklmnopqrstuvwxyz").cps.toList.drop t++(a0Q "abcdefghijklmnopqrstuvwxyz").cps.toList.take t).Nodup:=by
 have h:((a0Q "abcdefghijklmnopqrstuvwxyz").cps.toList.drop t++(a0Q "abcdefghijklmnopqrstuvwxyz").cps.toList.take t).Perm (a0Q "abcdefghijklmnopqrstuvwxyz").cps.toList:=by refine List.perm_append_comm.trans ?_;rw[b1X]
 exact h.nodup_iff.mpr bM
theorem mS (h:(#[(z3 [c])]:Str)++t=#[(z3 [d])]++t):c=d:=by have:=congrArg (λs:Str=>s.cps.toList) h;simp only[AU] at this;have:=List.append_cancel_right this;simpa using this
theorem mT (h:t++(#[(z3 [c])]:Str)=t++#[(z3 [d])]):c=d:=by have:=congrArg (λs:Str=>s.cps.toList) h;simp only[AU] at this;have:=List.append_cancel_left this;simpa using this
theorem sU (j:1<=m) (hn:1<=n) (h:PB #[(z3 [c])] m=PB #[(z3 [d])] n):c=d/\m=n:=by
 have:=congrArg (λs:Str=>s.cps.toList) h;simp only[W1 j,W1 hn] at this;have e:=congrArg a9V this;rw[b1Z,b1Z] at e;have R:m=n:=by lia
 refine#[?_,R];subst R;have hc:c∈a3J m.toNat d:=by rw[<-this];exact List.mem_replicate.mpr #[by lia,rfl]
 exact b4Q hc
end DL
namespace DL
open PySem PySem.Spec L2
def MZ:PyData->PyData->Bool
 | .str s,p=>if s == "n" then CI p else if s == "p" then LP p else NY p
 | _,p=>NY p
def mU:FSp:=fn2 (λa b=>∃c:Nat,a = .str #[(z3 [c])]/\c < 128/\okD b) λa b=>.bool (MZ a b)
def HJ (f:Str) (r:List PyData):Bool:=((CL f).zip r).all λp=>MZ p.1 p.2
def B6:List PyData->Bool
 | .str w::r=>match GV.lookup w with
   | some f=>(r.length==f.cps.size)&&HJ f r&&(!YR w||!a0Z (r.getD 0 .none) (r.getD 1 .none))
   | none=>bj
 | _=>bj
def fB:PyData->Bool | .tuple ds=>B6 ds | _=>bj
def okP:PyData->Prop | .tuple ds=>ds.length<=5000/\∀d∈ds,okD d | _=>True
def O5:FSp:=fn1 okP λd=>.bool (fB d)
def A2A:PyData->PyData | .tuple [a,b]=>.bool (MZ a b) | d=>d
theorem mV (f:Str) (r:List PyData):((QC (CL f) r).filter λ_=>ap).map A2A=(((CL f).zip r).map λp=>MZ p.1 p.2).map .bool:=by rw[flt];unfold QC;rw[zD,zD];rfl
theorem mW (h0:f.cps[0]?=al 110) (h1:f.cps[1]?=al 110) (h:HJ f (a::b::r)=ap):CI a=ap/\CI b=true:=by
 unfold HJ at h;rw[a6J] at h;have J:((CL f).zip (a::b::r))[0]?=al (.str #[(z3 [110])],a):=by rw[a8W];exact#[by unfold CL;rw[zF];simp[h0],rfl]
 have c:((CL f).zip (a::b::r))[1]?=al (.str #[(z3 [110])],b):=by rw[a8W];exact#[by unfold CL;rw[zF];simp[h1],rfl]
 have q:∀d,MZ (.str #[(z3 [110])]) d=CI d:=λd=>rfl;exact#[by rw[<-q];exact h _ (yN J),by rw[<-q];exact h _ (yN c)]
def GX:PyData->PyData
 | .tuple (.str w::r)=>if w == "put" then r.getD 0 .none else if w == "name" || w == "split" then r.getD 1 .none else .none
 | _=>.none
def KA:FSp:=fn1 FM GX
def YU (d:PyData):List Str:=(RB d).filter λn=>!a0Z (.str n) (GX d)
def N0:FSp:=fn1 FM λd=>.tuple ((YU d).map .str)
def Deed.isPut:Deed->Bool | .put ..=>ap | _=>bj
def Deed.isNS:Deed->Bool | .name ..=>ap | .split ..=>ap | _=>bj
theorem mX (D:Deed):(D.word==a0Q "put")=D.isPut:=by cases D <;> (simp only[Deed.word,Deed.isPut];decide +kernel)
theorem A2n (w a b:Str):decide (w∈[a,b])=(w==a||w==b):=by rw[a2Z];simp
theorem sV (D:Deed):(D.word==a0Q "name" || D.word==a0Q "split")=D.isNS:=by cases D <;> (simp only[Deed.word,Deed.isNS];decide +kernel)
theorem fC {D:Deed}(h:D.ok):zH (GX D.d)=true:=by
 cases D with
 | put x p k=>exact AY (h x (by simp[Deed.names]))
 | name x y=>exact AY (h y (by simp[Deed.names]))
 | split x y p k=>exact AY (h y (by simp[Deed.names]))
 | _=>rfl
end DL
namespace DL
open PySem PySem.Spec L2
def pcD (p c:Int):PyData:=.tuple [.int p,.int c]
def tsD (ts:List Th):List (Str×PyData):=ts.map λt=>(t.1,pcD t.2.1 t.2.2)
def KU (ts:List Th) (k:Str) (p c:Int):List Th:=if (ts.any λt=>decide (t.1=k))=ap then ts.map (λt=>if t.1=k then (t.1,p,c) else t) else ts++[(k,p,c)]
def J7 (ts:List Th) (k:Str):List Th:=ts.filter λt=>decide (t.1≠k)
def AC:List Th->Str->Option (Int×Int)
 | [],_=>am
 | t::r,k=>if t.1=k then al t.2 else AC r k
theorem N1 (ts:List Th) (k:Str) (p c:Int):J5 (tsD ts) k (pcD p c)=tsD (KU ts k p c):=by
 unfold J5 KU tsD;have e:((ts.map λt=>(t.1,pcD t.2.1 t.2.2)).any λt=>decide (t.1=k))=ts.any λt=>decide (t.1=k):=by rw[List.any_map];rfl
 rw[e];split;. rw[zD,zD];apply yM;intro t _;show(if t.1=k then (t.1,pcD p c) else _)=_;simp only[b6X];split <;> rfl
 . simp
theorem RE (ts:List Th) (k:Str):UF (tsD ts) k=tsD (J7 ts k):=by unfold UF J7 tsD;rw[xU];rfl
theorem BW (k:Str):∀ts:List Th,AO (tsD ts) k=(AC ts k).map λv=>pcD v.1 v.2
 | []=>rfl
 | t::r=>by
   have U:=BW k r;unfold tsD at U ⊢;simp only[zI,AO,AC];split;. rfl
   . exact U
theorem E3 :∀{ts:List Th}{v:Int×Int},AC ts k=al v->(k,v)∈ts
 | t::r,v,h=>by
   unfold AC at h;split at h;. rename_i e;cases h;subst e;exact a1Q
   . exact yV _ (E3 h)
theorem FO :∀{ts:List Th},AC ts k=am↔k∉ts.map (·.1)
 | []=>by simp[AC]
 | t::r=>by
   unfold AC;rw[zI,yX];split;. rename_i e;simp[e]
   . rename_i e;rw[FO];constructor;. intro h q;rcases q with q | q;exact e q.symm;exact h q
     . intro h q;exact h (.inr q)
theorem HK :(AC ts k).isSome=decide (k∈ts.map (·.1)):=by
 cases h:AC ts k with
 | none=>rw[decide_eq_false (FO.mp h)];rfl
 | some v=>rw[decide_eq_true (zL.mpr #[_,E3 h,rfl])];rfl
theorem F0 :∀{ts:List Th},(ts.map (·.1)).Nodup->t∈ts->AC ts t.1=al t.2
 | u::r,nd,h=>by
   unfold AC;rcases yX.mp h with rfl | h;. rw[if_pos rfl]
   . rw[zI,xV] at nd;rw[if_neg λe=>nd.1 (by rw[e];exact zL.mpr #[t,h,rfl])];exact F0 nd.2 h
def c5 (t:Th):List Th->List Th
 | []=>[t]
 | u::r=>if sl t.1 u.1=ap then t::u::r else u::c5 t r
def BB:List Th->List Th
 | []=>[]
 | t::r=>c5 t (BB r)
theorem O6 (t:Th):∀ts:List Th,(c5 t ts).Perm (t::ts)
 | []=>.refl _
 | u::r=>by
   unfold c5;split;. exact .refl _
   . exact((O6 t r).cons u).trans (.swap _ _ _)
theorem BZ:∀ts:List Th,(BB ts).Perm ts
 | []=>.refl _
 | t::r=>(O6 t _).trans ((BZ r).cons t)
theorem YV (t:Th):∀{ts:List Th},Ris (ts.map (·.1))->t.1∉ts.map (·.1)->Ris ((c5 t ts).map (·.1))
 | [],_,_=>by simp[c5,Ris]
 | u::r,h,hn=>by
   unfold c5;unfold Ris at h;rw[zI,a4Z] at h;rw[zI,yX] at hn;split
   . rename_i e;unfold Ris;rw[zI,zI,a4Z,a4Z];refine#[λx hx=>?_,h];rcases yX.mp hx with rfl | hx;. exact e
     . exact QF e (h.1 x hx)
   . rename_i e;have e':sl t.1 u.1=false:=by simpa using e
     have n:sl u.1 t.1=true:=by
       cases hq:sl u.1 t.1 with
       | true=>rfl
       | false=>exact absurd (QG e' hq) λq=>hn (.inl q)
     unfold Ris;rw[zI,a4Z];refine#[λx hx=>?_,YV t h.2 λq=>hn (.inr q)];have:=((O6 t r).map (·.1)).mem_iff.mp hx;rcases yX.mp this with rfl | hx;. exact n
     . exact h.1 x hx
theorem N2:∀{ts:List Th},(ts.map (·.1)).Nodup->Ris ((BB ts).map (·.1))
 | [],_=>List.Pairwise.nil
 | t::r,nd=>by rw[zI,xV] at nd;exact YV t (N2 nd.2) λq=>nd.1 (((BZ r).map (·.1)).mem_iff.mp q)
theorem YW:∀{as bs:List Th},as.Perm bs->Ris (as.map (·.1))->Ris (bs.map (·.1))->as=bs
 | [],bs,p,_,_=>(List.nil_perm.mp p).symm
 | a::as,[],p,_,_=>by have:=p.length_eq;simp at this
 | a::as,b::bs,p,h1,t=>by
   unfold Ris at h1 t;rw[zI,a4Z] at h1 t;have e:a=b:=by
     rcases yX.mp (p.mem_iff.mp (a1Q (a:=a) (l:=as))) with e | e;. exact e
     . rcases yX.mp (p.mem_iff.mpr (a1Q (a:=b) (l:=bs))) with e' | e';. exact e'.symm
       . have S:=h1.1 b.1 (zL.mpr #[b,e',rfl]);have x:=t.1 a.1 (zL.mpr #[a,e,rfl]);rw[Y8 S] at x;cases x
   subst e;rw[YW (List.Perm.cons_inv p) h1.2 t.2]
theorem UG (p:as.Perm bs) (h:Ris (as.map (·.1))):as=BB bs:=
 YW (p.trans (BZ bs).symm) h (N2 ((p.map (·.1)).nodup_iff.mp h.nodup))
theorem iJ (h:Ris (w.map (·.1))):BB w=w:=(UG (.refl w) h).symm
def KW (ts:List Th) (x:Str) (k:Int):List Th:=match AC ts x with | some v=>KU ts x v.1 (v.2+k) | none=>ts
def doT (ts:List Th):Deed->List Th
 | .put x p k=>KU ts x p k
 | .take x=>J7 ts x
 | .move x p=>match AC ts x with | some v=>KU ts x p v.2 | none=>ts
 | .count x k=>KW ts x k
 | .name x y=>match AC ts x with | some v=>KU (J7 ts x) y v.1 v.2 | none=>ts
 | .split x y p k=>KU (KW ts x (-k)) y p k
 | .join x y=>match AC ts y with | some v=>J7 (KW ts x v.2) y | none=>ts
def Deed.made:Deed->Option Str | .put x _ _=>al x | .name _ y=>al y | .split _ y _ _=>al y | _=>am
def Deed.apart:Deed->Prop | .name x y=>x≠y | .split x y _ _=>x≠y | .join x y=>x≠y | _=>True
def Deed.placed:Deed->Prop | .put _ p _=>0<=p/\p<=999 | .move _ p=>0<=p/\p<=999 | .split _ _ p _=>0<=p/\p<=999 | _=>True
def Deed.real (D:Deed):Prop:=D.ok/\D.apart/\D.placed
theorem EF {D:Deed}(h:D.real):FM D.d:=#[D,rfl,h.1]
def BD (ns:List Str) (D:Deed):Option Str:=D.names.find? λn=>decide (n∈ns)==decide (D.made=al n)
theorem EG (h:BD ns D=am):∀n∈D.names,(n∈ns)↔¬D.made=al n:=λn hn=>by have:=List.find?_eq_none.mp h n hn;by_cases h1:n∈ns <;> by_cases a:D.made=al n <;> simp_all
theorem PK (D:Deed):GX D.d=match D.made with | some x=>.str x | none=>.none:=by cases D <;> rfl
def BK (ts:List Th):Deed->Deed
 | .put x _ _=>.take x
 | .take x=>match AC ts x with | some v=>.put x v.1 v.2 | none=>.take x
 | .move x p=>match AC ts x with | some v=>.move x v.1 | none=>.move x p
 | .count x k=>.count x (-k)
 | .name x y=>.name y x
 | .split x y _ _=>.join x y
 | .join x y=>match AC ts y with | some v=>.split x y v.1 v.2 | none=>.join x y
abbrev tsO (ts:List Th):MO:=.d (AN (tsD ts))
def UH (ts:List Th):Prop:=(ts.map (·.1)).Nodup/\ts.length < 63
def E4:FSp:=#[λt M=>∃w:List Th,t=[.d (wD w)]/\UH w,λt M y i=>∀w:List Th,t=[.d (wD w)]->∃p,M p=am/\y = .loc p/\i=M.put p (tsO w)]
def BL:FSp:=#[λt M=>∃(p:Addr) (o:List Th),t=[.loc p]/\M p=al (tsO o)/\(o.map (·.1)).Nodup/\o.length < 64,λt M y i=>∀(p:Addr) (o:List Th),t=[.loc p]->M p=al (tsO o)->(o.map (·.1)).Nodup->y = .d (wD (BB o))/\i=M]
def BM:FSp:=#[λt M=>∃(p:Addr) (o:List Th) (D:Deed),t=[.loc p,.d D.d]/\M p=al (tsO o)/\D.real/\BD (o.map (·.1)) D=am,λt M y i=>y = .d .none/\i=M]
def G8:FSp:=#[λt M=>∃(p:Addr) (o:List Th) (x:Str) (k:Int) (v:Int×Int),t=[.loc p,.d (.str x),.d (.int k)]/\M p=al (tsO o)/\AC o x=al v/\o.length < 64,
 λt M y i=>∀(p:Addr) (o:List Th) (x:Str) (k:Int),t=[.loc p,.d (.str x),.d (.int k)]->M p=al (tsO o)->y = .d .none/\i=M.put p (tsO (KW o x k))]
def N3:FSp:=#[λt M=>∃(p:Addr) (o:List Th) (D:Deed),t=[.loc p,.d D.d]/\M p=al (tsO o)/\UH o/\D.real/\BD (o.map (·.1)) D=am,
 λt M y i=>∀(p:Addr) (o:List Th) (D:Deed),t=[.loc p,.d D.d]->M p=al (tsO o)->y = .d .none/\i=M.put p (tsO (doT o D))]
def goD (w:List Th) (D:Deed):Prop:=UH w/\D.real/\BD (w.map (·.1)) D=am
def W8:FSp:=#[λt M=>∃(w:List Th) (D:Deed),t=[.d (wD w),.d D.d]/\goD w D,λt M y i=>∀(w:List Th) (D:Deed),t=[.d (wD w),.d D.d]->y = .d (wD (BB (doT w D)))/\i=M]
def G9:FSp:=#[λt M=>∃(w:List Th) (D:Deed),t=[.d (wD w),.d D.d]/\goD w D,λt M y i=>∀(w:List Th) (D:Deed),t=[.d (wD w),.d D.d]->y = .d (BK w D).d/\i=M]
theorem sW (h:thD t=thD u):t=u:=by obtain⟨a,b,c⟩:=t;obtain⟨J,x,p⟩:=u;simp only[thD,PyData.tuple.injEq,List.cons.injEq,PyData.str.injEq,PyData.int.injEq,and_true] at h;obtain⟨rfl,rfl,rfl⟩:=h;rfl
theorem OW:∀{v w:List Th},v.map thD=w.map thD->v=w
 | [],[],_=>rfl
 | [],_::_,h=>by simp at h
 | _::_,[],h=>by simp at h
 | a::v,b::w,h=>by rw[zI,zI,List.cons.injEq] at h;rw[sW h.1,OW h.2]
theorem W9 (h:wD v=wD w):v=w:=OW (by unfold wD at h;exact PyData.tuple.inj h)
theorem CM {D:Deed}(h:D.d=E.d):D=E:=by
 cases D <;> cases E <;> simp only[Deed.d,PyData.tuple.injEq,List.cons.injEq,PyData.str.injEq,PyData.int.injEq,and_true,true_and,reduceCtorEq,and_false,false_and,List.nil_eq] at h <;>
   first
   | (obtain⟨_,h⟩:=h;first | (obtain⟨rfl,rfl,rfl,rfl⟩:=h;rfl) | (obtain⟨rfl,rfl,rfl⟩:=h;rfl) | (obtain⟨rfl,rfl⟩:=h;rfl) | (subst h;rfl))
   | (obtain⟨rfl,rfl,rfl,rfl⟩:=h;rfl) | (obtain⟨rfl,rfl,rfl⟩:=h;rfl) | (obtain⟨rfl,rfl⟩:=h;rfl) | (subst h;rfl)
   | exact absurd h.1 (by decide +kernel)
theorem A0j (h:pcD a b=pcD c d):a=c/\b=d:=by simp only[pcD,PyData.tuple.injEq,List.cons.injEq,PyData.int.injEq,and_true] at h;exact h
theorem WA:∀{ts e:List Th},tsO ts=tsO e->ts=e:=by
 intro ts e h;have h:AN (tsD ts)=AN (tsD e):=by injection h
 unfold AN tsD at h;rw[zD,zD] at h;have G:∀(ts e:List Th),ts.map ((λt:Str×PyData=>(a0W t.1,t.2))∘λt:Th=>(t.1,pcD t.2.1 t.2.2))=e.map ((λt:Str×PyData=>(a0W t.1,t.2))∘λt:Th=>(t.1,pcD t.2.1 t.2.2))->ts=e:=by
   intro ts;induction ts with
   | nil=>intro e h;cases e with | nil=>rfl | cons _ _=>simp at h
   | cons t ts U=>
     intro e h;cases e with
     | nil=>simp at h
     | cons u e=> rw[zI,zI,List.cons.injEq] at h;obtain⟨h1,i⟩:=h;simp only[b6X,Prod.mk.injEq,PyData.str.injEq] at h1;obtain⟨n,f⟩:=h1;obtain⟨o,X⟩:=A0j f;rw[U e i];obtain⟨a,b,c⟩:=t;obtain⟨J,x,p⟩:=u;simp only at n o X;rw[n,o,X]
 exact G ts e h
section
variable {M:Own}{Q:DS->Own->Prop}
theorem GM (h:UH w) (q:∀p,M p=am->Q (.loc p) (M.put p (tsO w))):[DS.d (wD w)].length=1/\E4.pre [.d (wD w)] M/\∀x i,E4.post [.d (wD w)] M x i->Q x i:=#[rfl,#[w,rfl,h],λx i h=>by obtain⟨p,h1,rfl,rfl⟩:=h w rfl;exact q p h1]
theorem OX (m:M p=al (tsO ts)) (nd:(ts.map (·.1)).Nodup) (e:ts.length < 64) (q:Q (.d (wD (BB ts))) M):[DS.loc p].length=1/\BL.pre [.loc p] M/\∀x i,BL.post [.loc p] M x i->Q x i:=#[rfl,#[p,ts,rfl,m,nd,e],λx i h=>by obtain⟨rfl,rfl⟩:=h p ts rfl m nd;exact q]
theorem OY (m:M p=al (tsO ts)) (hr:D.real) (N:BD (ts.map (·.1)) D=am) (q:Q (.d .none) M):[DS.loc p,.d D.d].length=2/\BM.pre [.loc p,.d D.d] M/\∀x i,BM.post [.loc p,.d D.d] M x i->Q x i:=#[rfl,#[p,ts,D,rfl,m,hr,N],λx i h=>by obtain⟨rfl,rfl⟩:=h;exact q]
theorem RF (m:M p=al (tsO ts)) (t:AC ts x=al v) (n:ts.length < 64) (q:Q (.d .none) (M.put p (tsO (KW ts x k)))):[DS.loc p,.d (.str x),.d (.int k)].length=3/\G8.pre [.loc p,.d (.str x),.d (.int k)] M/\∀e i,G8.post [.loc p,.d (.str x),.d (.int k)] M e i->Q e i:=#[rfl,#[p,ts,x,k,v,rfl,m,t,n],λe i h=>by obtain⟨rfl,rfl⟩:=h p ts x k rfl m;exact q]
theorem YX (m:M p=al (tsO ts)) (hc:UH ts) (hr:D.real) (N:BD (ts.map (·.1)) D=am) (q:Q (.d .none) (M.put p (tsO (doT ts D)))):[DS.loc p,.d D.d].length=2/\N3.pre [.loc p,.d D.d] M/\∀x i,N3.post [.loc p,.d D.d] M x i->Q x i:=#[rfl,#[p,ts,D,rfl,m,hc,hr,N],λx i h=>by obtain⟨rfl,rfl⟩:=h p ts D rfl m;exact q]
theorem iK (h:goD w D) (q:Q (.d (wD (BB (doT w D)))) M):[DS.d (wD w),.d D.d].length=2/\W8.pre [.d (wD w),.d D.d] M/\∀x i,W8.post [.d (wD w),.d D.d] M x i->Q x i:=#[rfl,#[w,D,rfl,h],λx i h=>by obtain⟨rfl,rfl⟩:=h w D rfl;exact q]
theorem iL (h:goD w D) (q:Q (.d (BK w D).d) M):[DS.d (wD w),.d D.d].length=2/\G9.pre [.d (wD w),.d D.d] M/\∀x i,G9.post [.d (wD w),.d D.d] M x i->Q x i:=#[rfl,#[w,D,rfl,h],λx i h=>by obtain⟨rfl,rfl⟩:=h w D rfl;exact q]
end
end DL
namespace DL
open PySem PySem.Spec L2
theorem SZ (ds:List PyData):(ds.filter λ_=>ap)=ds:=List.filter_eq_self.mpr (by simp)
def A2o:PyData->PyData | .tuple [_,p,c]=>.tuple [p,c] | d=>d
theorem UI:∀{as bs:List Str},as.Perm bs->Ris as->Ris bs->as=bs
 | [],bs,p,_,_=>(List.nil_perm.mp p).symm
 | a::as,[],p,_,_=>by have:=p.length_eq;simp at this
 | a::as,b::bs,p,h1,t=>by
   unfold Ris at h1 t;rw[a4Z] at h1 t;have e:a=b:=by
     rcases yX.mp (p.mem_iff.mp (a1Q (a:=a) (l:=as))) with e | e;. exact e
     . rcases yX.mp (p.mem_iff.mpr (a1Q (a:=b) (l:=bs))) with e' | e';. exact e'.symm
       . have S:=h1.1 b e';have x:=t.1 a e;rw[Y8 S] at x;cases x
   subst e;rw[UI (List.Perm.cons_inv p) h1.2 t.2]
def fD (ts:List Th):PyData->PyData
 | .str s=>match AC ts s with | some v=>.tuple [.str s,.int v.1,.int v.2] | none=>.none
 | d=>d
theorem iM (nd:(ts.map (·.1)).Nodup) (p:ss.Perm (ts.map (·.1))) (h:xG ss=ap):(ss.map a0W).map (fD ts)=(BB ts).map thD:=by have n:ss.Nodup:=p.nodup_iff.mpr nd;have e:ss=(BB ts).map (·.1):=UI (p.trans ((BZ ts).map (·.1)).symm) (bJ h n) (N2 nd);rw[e,zD,zD];apply yM;intro t a;have:=F0 nd ((BZ ts).mem_iff.mp a);simp only[b6X,fD,this];rfl
def wT (s:String):PyData:=.str (a0Q s)
theorem A0k (a b c:PyData):B6 [wT "put", a,b,c]=(CI a&&(LP b&&(NY c&&ap))&&ap):=rfl
theorem sX (a:PyData):B6 [wT "take", a]=(CI a&&ap&&ap):=rfl
theorem sY (a b:PyData):B6 [wT "move", a,b]=(CI a&&(LP b&&ap)&&ap):=rfl
theorem mY (a b:PyData):B6 [wT "count", a,b]=(CI a&&(NY b&&ap)&&ap):=rfl
theorem sZ (a b:PyData):B6 [wT "name", a,b]=(CI a&&(CI b&&ap)&&(!a0Z a b)):=rfl
theorem t0 (a b:PyData):B6 [wT "join", a,b]=(CI a&&(CI b&&ap)&&(!a0Z a b)):=rfl
theorem mZ (a b c d:PyData):B6 [wT "split", a,b,c,d]=(CI a&&(CI b&&(LP c&&(NY d&&ap)))&&(!a0Z a b)):=rfl
theorem t7 {D:Deed}(h:D.real):fB D.d=true:=by
 obtain⟨h1,nd,t⟩:=h;have e:∀x∈D.names,CI (.str x)=true:=λx hx=>lW (h1 x hx);have O:∀x y:Str,x≠y->a0Z (.str x) (.str y)=false:=λx y hn=>by simp[a0Z,hn]
 have M:∀p:Int,0<=p/\p<=999->LP (.int p)=true:=λp hp=>by show(decide (0<=p)&&decide (p<=999))=ap;rw[decide_eq_true hp.1,decide_eq_true hp.2];rfl
 cases D with
 | put x p k=>show B6 [wT "put", .str x,.int p,.int k]=ap;rw[A0k,e x (by simp[Deed.names]),M p t];rfl
 | take x=>show B6 [wT "take", .str x]=ap;rw[sX,e x (by simp[Deed.names])];rfl
 | move x p=>show B6 [wT "move", .str x,.int p]=ap;rw[sY,e x (by simp[Deed.names]),M p t];rfl
 | count x k=>show B6 [wT "count", .str x,.int k]=ap;rw[mY,e x (by simp[Deed.names])];rfl
 | name x y=>show B6 [wT "name", .str x,.str y]=ap;rw[sZ,e x (by simp[Deed.names]),e y (by simp[Deed.names]),O x y nd];rfl
 | split x y p k=>show B6 [wT "split", .str x,.str y,.int p,.int k]=ap;rw[mZ,e x (by simp[Deed.names]),e y (by simp[Deed.names]),O x y nd,M p t];rfl
 | join x y=>show B6 [wT "join", .str x,.str y]=ap;rw[t0,e x (by simp[Deed.names]),e y (by simp[Deed.names]),O x y nd];rfl
theorem t8 {D:Deed}(h:D.ok):okP D.d:=by
 have t:∀s:Str,(decide (s.cps.size<=5000)&&s.cps.toList.all (λc=>decide (c < 128)))=ap->okD (.str s):=λs h=>by simp only[a1J,decide_eq_true_eq,a6J] at h;exact h
 have e:∀x∈D.names,okD (.str x):=λx hx=>lV (h x hx);cases D <;> (refine#[by simp,?_];simp only[List.forall_mem_cons])
 . exact#[t _ (by decide +kernel),e _ (by simp[Deed.names]),trivial,trivial,by simp]
 . exact#[t _ (by decide +kernel),e _ (by simp[Deed.names]),by simp]
 . exact#[t _ (by decide +kernel),e _ (by simp[Deed.names]),trivial,by simp]
 . exact#[t _ (by decide +kernel),e _ (by simp[Deed.names]),trivial,by simp]
 . exact#[t _ (by decide +kernel),e _ (by simp[Deed.names]),e _ (by simp[Deed.names]),by simp]
 . exact#[t _ (by decide +kernel),e _ (by simp[Deed.names]),e _ (by simp[Deed.names]),trivial,trivial,by simp]
 . exact#[t _ (by decide +kernel),e _ (by simp[Deed.names]),e _ (by simp[Deed.names]),by simp]
theorem t9 (D:Deed) (n:Str):a0Z (.str n) (GX D.d)=decide (D.made=al n):=by
 rw[PK];cases h:D.made with
 | none=>simp[a0Z]
 | some x=>simp only[a0Z,Option.some.injEq];rw[a2Z];simp;exact eq_comm
theorem iN (a b:Bool):a0Z (.bool a) (.bool b)=(a==b):=by cases a <;> cases b <;> rfl
theorem YY (h:x∈ts.map (·.1)):KU ts x p c=ts.map λt=>if t.1=x then (t.1,p,c) else t:=by unfold KU;obtain⟨t,a,e⟩:=zL.mp h;rw[if_pos (List.any_eq_true.mpr #[t,a,by simpa using e])]
theorem N4 (h:x∉ts.map (·.1)):KU ts x p c=ts++[(x,p,c)]:=by unfold KU;rw[if_neg];intro e;obtain⟨t,a,e⟩:=List.any_eq_true.mp e;exact h (zL.mpr #[t,a,by simpa using e])
theorem RG (h:x∈ts.map (·.1)):(KU ts x p c).map (·.1)=ts.map (·.1):=by rw[YY h,zD];apply yM;intro t _;simp only[b6X];split <;> rfl
theorem BH (h:x∈ts.map (·.1)):∃v,AC ts x=al v:=by
 cases e:AC ts x with
 | none=>exact absurd h (FO.mp e)
 | some v=>exact#[v,rfl]
theorem fE (h:AC ts x=al v):x∈ts.map (·.1):=zL.mpr #[_,E3 h,rfl]
theorem E5 :(KW ts x k).map (·.1)=ts.map (·.1):=by
 unfold KW;cases e:AC ts x with
 | none=>rfl
 | some v=>exact RG (fE e)
theorem n5 :(KW ts x k).length=ts.length:=by have:=congrArg a9V (E5 (ts:=ts) (x:=x) (k:=k));simpa using this
theorem HL {M:Own}{p p':Addr}{ts n:List Th}{D t:Deed}(m:M p=al (tsO ts)) (e:[DS.loc p,.d D.d]=[.loc p',.d t.d]) (j:M p'=al (tsO n)):p=p'/\ts=n/\D=t:=by simp only[List.cons.injEq,DS.loc.injEq,DS.d.injEq,and_true] at e;obtain⟨rfl,e⟩:=e;exact#[rfl,WA (Option.some.inj (m.symm.trans j)),CM e]
theorem J8 {D:Deed}(e:[DS.d (wD w),.d D.d]=[.d (wD n),.d t.d]):w=n/\D=t:=by simp only[List.cons.injEq,DS.d.injEq,and_true] at e;exact#[W9 e.1,CM e.2]
theorem PL (h:ts.length < 64):(tsD ts).length < sizeLine:=by unfold tsD;rw[zX];exact zP h (by decide)
theorem GA (ts:List Th) (x:Str):(J7 ts x).map (·.1)=(ts.map (·.1)).filter λn=>decide (n≠x):=by unfold J7;rw[xU];rfl
def BE (ns:List Str):Deed->List Str
 | .put x _ _=>ns++[x]
 | .take x=>ns.filter λn=>decide (n≠x)
 | .move _ _=>ns
 | .count _ _=>ns
 | .name x y=>(ns.filter λn=>decide (n≠x))++[y]
 | .split _ y _ _=>ns++[y]
 | .join _ y=>ns.filter λn=>decide (n≠y)
theorem J9 (N:BD ns D=am) (hn:n∈D.names) (j:D.made≠al n):n∈ns:=(EG N n hn).mpr j
theorem LV (N:BD ns D=am) (hn:n∈D.names) (j:D.made=al n):n∉ns:=λq=>(EG N n hn).mp q j
theorem O7 (hr:D.real) (N:BD (ts.map (·.1)) D=am):(doT ts D).map (·.1)=BE (ts.map (·.1)) D:=by
 cases D with
 | put x p k=> show(KU ts x p k).map (·.1)=_;rw[N4 (LV N (by simp[Deed.names]) rfl),xI];rfl
 | take x=>exact GA ts x
 | move x p=> obtain⟨v,t⟩:=BH (J9 N (n:=x) (by simp[Deed.names]) (by simp[Deed.made]));simp only[doT,t];exact RG (fE t)
 | count x k=>exact E5
 | name x y=>
   obtain⟨v,t⟩:=BH (J9 N (n:=x) (by simp[Deed.names]) (by simp[Deed.made];exact λe=>hr.2.1 e.symm));simp only[doT,t];have hy:y∉(J7 ts x).map (·.1):=by rw[GA];intro q;exact LV N (n:=y) (by simp[Deed.names]) rfl (yL.mp q).1
   rw[N4 hy,xI,GA];rfl
 | split x y p k=>
   show(KU (KW ts x (-k)) y p k).map (·.1)=_;have hy:y∉(KW ts x (-k)).map (·.1):=by rw[E5];exact LV N (n:=y) (by simp[Deed.names]) rfl
   rw[N4 hy,xI,E5];rfl
 | join x y=> obtain⟨v,t⟩:=BH (J9 N (n:=y) (by simp[Deed.names]) (by simp[Deed.made]));simp only[doT,t];rw[GA,E5];rfl
theorem WB (nd:ns.Nodup) (N:BD ns D=am):(BE ns D).Nodup:=by
 have G:∀{l:List Str}{y:Str},l.Nodup->y∉l->(l++[y]).Nodup:=λ{l y} h1 t=>by rw[List.nodup_append];exact#[h1,by simp,λa N b hb e=>by simp at hb;subst hb;subst e;exact t N]
 cases D with
 | put x p k=>exact G nd (LV N (by simp[Deed.names]) rfl)
 | take x=>exact nd.sublist a5K
 | move x p=>exact nd
 | count x k=>exact nd
 | name x y=>exact G (nd.sublist a5K) λq=>LV N (n:=y) (by simp[Deed.names]) rfl (yL.mp q).1
 | split x y p k=>exact G nd (LV N (n:=y) (by simp[Deed.names]) rfl)
 | join x y=>exact nd.sublist a5K
theorem RH (ns:List Str) (D:Deed):(BE ns D).length<=ns.length+1:=by cases D <;> simp only[BE,yY,yR,b1J];all_goals first | lia | exact zN (yJ _ _) (b5W _) | exact b7X (yJ _ _) 1
theorem c6 (h:goD ts D):((doT ts D).map (·.1)).Nodup/\(doT ts D).length < 64:=by obtain⟨⟨nd,m⟩,hr,N⟩:=h;have e:=O7 hr N;refine#[by rw[e];exact WB nd N,?_];have h1:=RH (ts.map (·.1)) D;have a:=congrArg a9V e;simp only[zX] at h1 a;lia
end DL
namespace DL
open PySem PySem.Spec L2
theorem JA (ts:List Th) (x:Str) (p c:Int) (n:Str):AC (KU ts x p c) n=if n=x then al (p,c) else AC ts n:=by
 by_cases h:x∈ts.map (·.1)
 . rw[YY h];induction ts with
   | nil=>simp at h
   | cons t r U=>
     rw[zI];by_cases e:t.1=x
     . rw[if_pos e];unfold AC;by_cases o:n=x;. subst o;rw[if_pos e,if_pos rfl]
       . have a:¬t.1=n:=λq=>o (q.symm.trans e);rw[if_neg a,if_neg o,if_neg a];by_cases hr:x∈r.map (·.1);. rw[U hr,if_neg o]
         . have j:(r.map λt=>if t.1=x then (t.1,p,c) else t)=r:=by
             conv=>rhs;rw[<-b3Z r]
             apply yM;intro u hu;rw[if_neg λq=>hr (by rw[<-q];exact zL.mpr #[u,hu,rfl])];rfl
           rw[j]
     . rw[if_neg e];have hr:x∈r.map (·.1):=by rw[zI,yX] at h;exact h.resolve_left λq=>e q.symm
       unfold AC;by_cases a:t.1=n;. rw[if_pos a,if_pos a,if_neg λq=>e (a.trans q)]
       . rw[if_neg a,if_neg a,U hr]
 . rw[N4 h];have:∀ts:List Th,x∉ts.map (·.1)->AC (ts++[(x,p,c)]) n=if n=x then al (p,c) else AC ts n:=by
     intro ts;induction ts with
     | nil=>
       intro _;show(if x=n then _ else _)=_;by_cases e:n=x;. rw[if_pos e,if_pos e.symm]
       . rw[if_neg e,if_neg λq=>e q.symm]
     | cons t r U=>
       intro hx;rw[zI,yX] at hx;rw[c2W];unfold AC;by_cases a:t.1=n;. rw[if_pos a,if_pos a,if_neg λq=>hx (.inl (a.trans q).symm)]
       . rw[if_neg a,if_neg a,U λq=>hx (.inr q)]
   exact this ts h
theorem O8 (ts:List Th) (x n:Str):AC (J7 ts x) n=if n=x then am else AC ts n:=by
 induction ts with
 | nil=>show am=_;split <;> rfl
 | cons t r U=>
   unfold J7 at U ⊢;rw[a2K];by_cases e:t.1=x
   . rw[if_neg (by simp[e]),U];by_cases a:n=x;. rw[if_pos a,if_pos a]
     . rw[if_neg a,if_neg a]
       conv=>rhs;unfold AC
       rw[if_neg λq=>a (q.symm.trans e)]
   . rw[if_pos (by simpa using e)];unfold AC;rw[U];by_cases c:t.1=n;. rw[if_pos c,if_pos c,if_neg λq=>e (c.trans q)]
     . rw[if_neg c,if_neg c]
theorem RI (ts:List Th) (x:Str) (k:Int) (n:Str):AC (KW ts x k) n=if n=x then (AC ts x).map λv=>(v.1,v.2+k) else AC ts n:=by
 unfold KW;cases h:AC ts x with
 | none=>
   by_cases e:n=x;. subst e;rw[if_pos rfl,h];rfl
   . rw[if_neg e]
 | some v=>rw[JA];rfl
theorem N5 (nd:(ts.map (·.1)).Nodup) :t∈ts↔AC ts t.1=al t.2:=#[λh=>F0 nd h,λh=>E3 h]
theorem iO (Z:(as.map (·.1)).Nodup) (p:as.Perm bs) (n:Str):AC as n=AC bs n:=by
 have B:(bs.map (·.1)).Nodup:=(p.map (·.1)).nodup_iff.mp Z;cases h:AC as n with
 | none=>
   cases a:AC bs n with
   | none=>rfl
   | some v=>exact absurd (zL.mpr #[_,p.mem_iff.mpr (E3 a),rfl]) (FO.mp h)
 | some v=>exact((N5 B (t:=(n,v))).mp (p.mem_iff.mp (E3 h))).symm
theorem iP (Z:(as.map (·.1)).Nodup) (B:(bs.map (·.1)).Nodup) (h:∀n,AC as n=AC bs n):as.Perm bs:=by
 have nd:∀{l:List Th},(l.map (·.1)).Nodup->l.Nodup:=λ{l} h=>by unfold List.Nodup at h ⊢;rw[a5J] at h;exact h.imp λ{a b} q e=>q (by rw[e])
 rw[b8V (nd Z) (nd B)];intro t;rw[N5 Z,N5 B,h]
theorem iQ (nd:(ts.map (·.1)).Nodup) (R:Ris (w.map (·.1))) (h:∀n,AC ts n=AC w n):BB ts=w:=(UG (iP R.nodup nd λn=>(h n).symm) R).symm
theorem n6 (nd:(ts.map (·.1)).Nodup) (n:Str):AC (BB ts) n=AC ts n:=
 iO (((BZ ts).map (·.1)).nodup_iff.mpr nd) (BZ ts) n
def EH (w:List Th):Prop:=Ris (w.map (·.1))/\∀t∈w,B9 t.1/\0<=t.2.1/\t.2.1<=999
theorem KB (h:EH w) (e:AC w x=al v):B9 x/\0<=v.1/\v.1<=999:=h.2 _ (E3 e)
theorem F3 {ts:List Th}{D:Deed}(hr:D.real) (N:BD (ts.map (·.1)) D=am) (n:Str) :
   AC (doT ts D) n=match D with
     | .put x p k=>if n=x then al (p,k) else AC ts n
     | .take x=>if n=x then am else AC ts n
     | .move x p=>if n=x then (AC ts x).map λv=>(p,v.2) else AC ts n
     | .count x k=>if n=x then (AC ts x).map λv=>(v.1,v.2+k) else AC ts n
     | .name x y=>if n=y then AC ts x else if n=x then am else AC ts n
     | .split x y p k=>if n=y then al (p,k) else if n=x then (AC ts x).map λv=>(v.1,v.2 + -k) else AC ts n
     | .join x y=>if n=y then am else if n=x then (AC ts x).bind λv=>(AC ts y).map λu=>(v.1,v.2+u.2) else AC ts n:=by
 cases D with
 | put x p k=>exact JA _ _ _ _ _
 | take x=>exact O8 _ _ _
 | move x p=> obtain⟨v,t⟩:=BH (J9 N (n:=x) (by simp[Deed.names]) (by simp[Deed.made]));simp only[doT,t];exact JA _ _ _ _ _
 | count x k=>exact RI _ _ _ _
 | name x y=> obtain⟨v,t⟩:=BH (J9 N (n:=x) (by simp[Deed.names]) (by simp[Deed.made];exact λe=>hr.2.1 e.symm));simp only[doT,t];rw[JA,O8]
 | split x y p k=> show AC (KU (KW ts x (-k)) y p k) n=_;rw[JA,RI]
 | join x y=> obtain⟨v,t⟩:=BH (J9 N (n:=x) (by simp[Deed.names]) (by simp[Deed.made]));obtain⟨u,hu⟩:=BH (J9 N (n:=y) (by simp[Deed.names]) (by simp[Deed.made]));simp only[doT,hu];rw[O8,RI,t];rfl
theorem c7 (h:goD w D) (hn:n∈D.names) (j:D.made≠al n):∃v,AC w n=al v:=BH (J9 h.2.2 hn j)
theorem A0l (h:goD w D) (hn:n∈D.names) (j:D.made=al n):AC w n=none:=FO.mpr (LV h.2.2 hn j)
theorem CN (h:∀n∈D.names,(n∈ns)↔¬D.made=al n):BD ns D=none:=by unfold BD;rw[List.find?_eq_none];intro n hn;have:=h n hn;by_cases h1:n∈ns <;> by_cases a:D.made=al n <;> simp_all
theorem n8 :n∈ts.map (·.1)↔(AC ts n).isSome=true:=by rw[HK];simp
theorem n9 (R:EH w) (hg:goD w D) (G:w.length < 60) :
   goD (BB (doT w D)) (BK w D)/\BB (doT (BB (doT w D)) (BK w D))=w/\BK (BB (doT w D)) (BK w D)=D/\EH (BB (doT w D))/\(BB (doT w D)).length<=w.length+1:=by
 have hr:=hg.2.1;have N:=hg.2.2;obtain⟨nd,_⟩:=c6 hg;have L:∀n,AC (BB (doT w D)) n=AC (doT w D) n:=n6 nd;have b:((BB (doT w D)).map (·.1)).Nodup:=((BZ _).map (·.1)).nodup_iff.mpr nd;have j:(BB (doT w D)).length<=w.length+1:=by rw[(BZ _).length_eq];have h1:=RH (w.map (·.1)) D;have m:=congrArg a9V (O7 hr N);simp only[zX] at h1 m;lia
 have I:EH (BB (doT w D)):=by
   refine#[N2 nd,λt S=>?_];have hk:AC (doT w D) t.1=al t.2:=by rw[<-L];exact(N5 b).mp S
   rw[F3 hr N] at hk;have old:∀{n:Str}{v:Int×Int},AC w n=al v->B9 n/\0<=v.1/\v.1<=999:=λe=>KB R e;cases D with
   | put x p k=>
     dsimp only at hk;split at hk;. rename_i e;have hk:=Option.some.inj hk;rw[e,<-hk];exact#[hr.1 x (by simp[Deed.names]),hr.2.2.1,hr.2.2.2]
     . exact old hk
   | take x=>
     dsimp only at hk;split at hk;. cases hk
     . exact old hk
   | move x p=>
     dsimp only at hk;split at hk;. rename_i e;obtain⟨v,a,f⟩:=Option.map_eq_some_iff.mp hk;rw[e,<-f];exact#[(old a).1,hr.2.2.1,hr.2.2.2]
     . exact old hk
   | count x k=>
     dsimp only at hk;split at hk;. rename_i e;obtain⟨v,a,f⟩:=Option.map_eq_some_iff.mp hk;rw[e,<-f];exact#[(old a).1,(old a).2]
     . exact old hk
   | name x y=>
     dsimp only at hk;split at hk;. rename_i e;rw[e];exact#[hr.1 y (by simp[Deed.names]),(old hk).2]
     . split at hk;. cases hk
       . exact old hk
   | split x y p k=>
     dsimp only at hk;split at hk;. rename_i e;have hk:=Option.some.inj hk;rw[e,<-hk];exact#[hr.1 y (by simp[Deed.names]),hr.2.2.1,hr.2.2.2]
     . split at hk;. rename_i e;obtain⟨v,a,f⟩:=Option.map_eq_some_iff.mp hk;rw[e,<-f];exact#[(old a).1,(old a).2]
       . exact old hk
   | join x y=>
     dsimp only at hk;split at hk;. cases hk
     . split at hk;. rename_i e;obtain⟨v,a,f⟩:=Option.bind_eq_some_iff.mp hk;obtain⟨u,hu,O⟩:=Option.map_eq_some_iff.mp f;rw[e,<-O];exact#[(old a).1,(old a).2]
       . exact old hk
 have core:goD (BB (doT w D)) (BK w D)/\(∀n,AC (doT (BB (doT w D)) (BK w D)) n=AC w n)/\BK (BB (doT w D)) (BK w D)=D:=by
   have M:UH (BB (doT w D)):=#[b,by lia]
   have LD:∀n,AC (BB (doT w D)) n=_:=λn=>(L n).trans (F3 hr N n);have mk:∀B:Deed,B.real->(∀n∈B.names,((AC (BB (doT w D)) n).isSome=ap)↔¬B.made=al n)->goD (BB (doT w D)) B:=λB h1 m=>#[M,h1,CN λn hn=>n8.trans (m n hn)]
   cases D with
   | put x p k=>
     have hx:=A0l hg (n:=x) (by simp[Deed.names]) rfl;have g:goD (BB (doT w (.put x p k))) (.take x):=mk (.take x) #[λn hn=>hr.1 n hn,trivial,trivial] λn hn=>by simp only[Deed.names,a8J] at hn;subst hn;rw[LD];simp[Deed.made]
     refine#[g,λn=>?_,?_]
     . show AC (doT (BB (doT w (.put x p k))) (.take x)) n=_;rw[F3 g.2.1 g.2.2];dsimp only;rw[LD];dsimp only;by_cases e:n=x;. rw[if_pos e,e,hx]
       . rw[if_neg e,if_neg e]
     . have o:AC (BB (doT w (.put x p k))) x=al (p,k):=by rw[LD];simp
       simp only[BK,o]
   | take x=>
     obtain⟨v,a⟩:=c7 hg (n:=x) (by simp[Deed.names]) (by simp[Deed.made]);have i:BK w (.take x) = .put x v.1 v.2:=by simp only[BK,a]
     rw[i];have g:goD (BB (doT w (.take x))) (.put x v.1 v.2):=mk (.put x v.1 v.2) #[λn hn=>hr.1 n hn,trivial,(KB R a).2] λn hn=>by simp only[Deed.names,a8J] at hn;subst hn;rw[LD];simp[Deed.made]
     refine#[g,λn=>?_,rfl];rw[F3 g.2.1 g.2.2];dsimp only;rw[LD];dsimp only;by_cases e:n=x;. rw[if_pos e,e,a]
     . rw[if_neg e,if_neg e]
   | move x p=>
     obtain⟨v,a⟩:=c7 hg (n:=x) (by simp[Deed.names]) (by simp[Deed.made]);have i:BK w (.move x p) = .move x v.1:=by simp only[BK,a]
     rw[i];have o:AC (BB (doT w (.move x p))) x=al (p,v.2):=by rw[LD];simp[a]
     have g:goD (BB (doT w (.move x p))) (.move x v.1):=mk (.move x v.1) #[λn hn=>hr.1 n hn,trivial,(KB R a).2] λn hn=>by simp only[Deed.names,a8J] at hn;subst hn;rw[o];simp[Deed.made]
     refine#[g,λn=>?_,by simp only[BK,o]];rw[F3 g.2.1 g.2.2];dsimp only;rw[o];by_cases e:n=x;. rw[if_pos e,e,a];rfl
     . rw[if_neg e,LD];dsimp only;rw[if_neg e]
   | count x k=>
     obtain⟨v,a⟩:=c7 hg (n:=x) (by simp[Deed.names]) (by simp[Deed.made]);have i:BK w (.count x k) = .count x (-k):=rfl;rw[i];have o:AC (BB (doT w (.count x k))) x=al (v.1,v.2+k):=by rw[LD];simp[a]
     have g:goD (BB (doT w (.count x k))) (.count x (-k)):=mk (.count x (-k)) #[λn hn=>hr.1 n hn,trivial,trivial] λn hn=>by simp only[Deed.names,a8J] at hn;subst hn;rw[o];simp[Deed.made]
     refine#[g,λn=>?_,by simp only[BK,Int.neg_neg]];rw[F3 g.2.1 g.2.2];dsimp only;rw[o];by_cases e:n=x;. rw[if_pos e,e,a];show al (v.1,v.2+k + -k)=al v;rw[Int.add_neg_cancel_right]
     . rw[if_neg e,LD];dsimp only;rw[if_neg e]
   | name x y=>
     have T:x≠y:=hr.2.1;obtain⟨v,a⟩:=c7 hg (n:=x) (by simp[Deed.names]) (by simp[Deed.made];exact λe=>T e.symm);have hy:=A0l hg (n:=y) (by simp[Deed.names]) rfl;have i:BK w (.name x y) = .name y x:=rfl;rw[i];have r:AC (BB (doT w (.name x y))) y=al v:=by rw[LD];simp[a]
     have o:AC (BB (doT w (.name x y))) x=none:=by rw[LD];simp[T]
     have g:goD (BB (doT w (.name x y))) (.name y x):=mk (.name y x) #[λn hn=>hr.1 n (by simp[Deed.names] at hn ⊢;exact hn.symm),λe=>T e.symm,trivial] λn hn=>by
       simp only[Deed.names,yX,xX,or_false] at hn;rcases hn with rfl | rfl;. rw[r];simp[Deed.made];exact T
       . rw[o];simp[Deed.made]
     refine#[g,λn=>?_,rfl];rw[F3 g.2.1 g.2.2];dsimp only;rw[r];by_cases e:n=x;. rw[if_pos e,e,a]
     . rw[if_neg e];by_cases f:n=y;. rw[if_pos f,f,hy]
       . rw[if_neg f,LD];dsimp only;rw[if_neg f,if_neg e]
   | split x y p k=>
     have T:x≠y:=hr.2.1;obtain⟨v,a⟩:=c7 hg (n:=x) (by simp[Deed.names]) (by simp[Deed.made];exact λe=>T e.symm);have hy:=A0l hg (n:=y) (by simp[Deed.names]) rfl;have i:BK w (.split x y p k) = .join x y:=rfl;rw[i];have r:AC (BB (doT w (.split x y p k))) y=al (p,k):=by rw[LD];simp
     have o:AC (BB (doT w (.split x y p k))) x=al (v.1,v.2 + -k):=by rw[LD];simp[T,a]
     have g:goD (BB (doT w (.split x y p k))) (.join x y):=mk (.join x y) #[λn hn=>hr.1 n hn,T,trivial] λn hn=>by
       simp only[Deed.names,yX,xX,or_false] at hn;rcases hn with rfl | rfl;. rw[o];simp[Deed.made]
       . rw[r];simp[Deed.made]
     refine#[g,λn=>?_,by simp only[BK,r]];rw[F3 g.2.1 g.2.2];dsimp only;rw[o,r];by_cases e:n=y;. rw[if_pos e,e,hy]
     . rw[if_neg e];by_cases f:n=x;. rw[if_pos f,f,a];show al (v.1,v.2 + -k+k)=al v;rw[Int.neg_add_cancel_right]
       . rw[if_neg f,LD];dsimp only;rw[if_neg e,if_neg f]
   | join x y=>
     have T:x≠y:=hr.2.1;obtain⟨v,a⟩:=c7 hg (n:=x) (by simp[Deed.names]) (by simp[Deed.made]);obtain⟨u,hu⟩:=c7 hg (n:=y) (by simp[Deed.names]) (by simp[Deed.made]);have i:BK w (.join x y) = .split x y u.1 u.2:=by simp only[BK,hu]
     rw[i];have r:AC (BB (doT w (.join x y))) y=none:=by rw[LD];simp
     have o:AC (BB (doT w (.join x y))) x=al (v.1,v.2+u.2):=by rw[LD];simp[T,a,hu]
     have g:goD (BB (doT w (.join x y))) (.split x y u.1 u.2):=mk (.split x y u.1 u.2) #[λn hn=>hr.1 n hn,T,(KB R hu).2] λn hn=>by
       simp only[Deed.names,yX,xX,or_false] at hn;rcases hn with rfl | rfl;. rw[o];simp[Deed.made];exact λe=>T e.symm
       . rw[r];simp[Deed.made]
     refine#[g,λn=>?_,rfl];rw[F3 g.2.1 g.2.2];dsimp only;rw[o];by_cases e:n=y;. rw[if_pos e,e,hu]
     . rw[if_neg e];by_cases f:n=x;. rw[if_pos f,f,a];show al (v.1,v.2+u.2 + -u.2)=al v;rw[Int.add_neg_cancel_right]
       . rw[if_neg f,LD];dsimp only;rw[if_neg e,if_neg f]
 obtain⟨c,q,z⟩:=core;exact#[c,iQ (c6 c).1 R.1 q,z,I,j]
end DL
namespace DL
open PySem PySem.Spec L2
def HZ (w:List Th) (D:Deed):List Th:=BB (doT w D)
def L4:List Th->List Deed->Prop
 | _,[]=>True
 | w,D::r=>goD w D/\L4 (HZ w D) r
def O9:List Th->List Deed->List Th
 | w,[]=>w
 | w,D::r=>O9 (HZ w D) r
theorem UJ:∀{Ds:List Deed}{w:List Th}{D:Deed},L4 w Ds->goD (O9 w Ds) D->L4 w (Ds++[D])
 | [],_,_,_,h=>#[h,trivial]
 | _::_,_,_,h,g=>#[h.1,UJ h.2 g]
theorem YZ:∀{Ds:List Deed}{w:List Th}{D:Deed},O9 w (Ds++[D])=HZ (O9 w Ds) D
 | [],_,_=>rfl
 | _::Ds,w,D=>YZ (Ds:=Ds)
def CK (sp:List Str) (D:Deed):List Str:=match D.made with | some _=>sp.drop 1 | none=>sp
theorem c8 (p:as.Perm bs) (D:Deed):BD as D=BD bs D:=by unfold BD;congr 1;funext n;rw[show decide (n∈as)=decide (n∈bs) from by rw[a2Z];simp[p.mem_iff]]
theorem Z0 (p:as.Perm bs) (D:Deed):(BE as D).Perm (BE bs D):=by
 cases D with
 | put x q k=>exact p.append_right _
 | take x=>exact p.filter _
 | move x q=>exact p
 | count x k=>exact p
 | name x y=>exact(p.filter _).append_right _
 | split x y q k=>exact p.append_right _
 | join x y=>exact p.filter _
theorem c9 (h:goD w D):((HZ w D).map (·.1)).Perm (BE (w.map (·.1)) D):=by rw[<-O7 h.2.1 h.2.2];exact(BZ _).map _
theorem GY (h:∀n,D.made=al n->sp.head?=al n):(BE so D++CK sp D).Sublist (so++sp):=by
 have hd:∀n,D.made=al n->sp=n::sp.drop 1:=λn e=>by
   have:=h n e;cases sp with
   | nil=>simp at this
   | cons a r=>simp at this;subst this;rfl
 cases D with
 | put x p k=>
   show((so++[x])++sp.drop 1).Sublist _
   conv=>rhs;rw[hd x rfl]
   rw[a7Q];exact a4J _
 | take x=>exact(a5K).append (a4J _)
 | move x p=>exact a4J _
 | count x k=>exact a4J _
 | name x y=>
   show(((so.filter λn=>decide (n≠x))++[y])++sp.drop 1).Sublist _
   conv=>rhs;rw[hd y rfl]
   rw[a7Q];exact List.filter_sublist.append (a4J _)
 | split x y p k=>
   show((so++[y])++sp.drop 1).Sublist _
   conv=>rhs;rw[hd y rfl]
   rw[a7Q];exact a4J _
 | join x y=>exact(a5K).append (a4J _)
def namesOK (ys:List Str):Prop:=(∀z∈ys,B9 z)/\ys.Nodup/\ys.length<=26
theorem namesOK.sub (h:namesOK bs) (s:as.Sublist bs):namesOK as:=#[λz e=>h.1 z (s.subset e),h.2.1.sublist s,zN s.length_le h.2.2]
def B3 (ys:List Str):PyData:=.list (ys.map .str)
def GB:FSp:=#[λt M=>∃(p:Addr) (o:MO) (so e:List Str),t=[.loc p,.d (B3 so),.d (B3 e)]/\M p=al o/\B5 o/\namesOK (so++e)/\(so≠[]\/e≠[]),
 λt M y i=>∀(p:Addr) (so e:List Str),t=[.loc p,.d (B3 so),.d (B3 e)]->∃(D:Deed) (o:MO),y = .d D.d/\D.real/\BD so D=am/\(∀n,D.made=al n->e.head?=al n)/\B5 o/\i=M.put p o]
theorem RJ {Q:DS->Own->Prop}(m:M p=al o) (T:B5 o) (hn:namesOK (so++sp)) (he:so≠[]\/sp≠[]) (q:∀(D:Deed) (r:MO),D.real->BD so D=am->(∀n,D.made=al n->sp.head?=al n)->B5 r->Q (.d D.d) (M.put p r)) :
   [DS.loc p,.d (B3 so),.d (B3 sp)].length=3/\GB.pre [.loc p,.d (B3 so),.d (B3 sp)] M/\∀x i,GB.post [.loc p,.d (B3 so),.d (B3 sp)] M x i->Q x i:=
 #[rfl,#[p,o,so,sp,rfl,m,T,hn,he],λx i h=>by obtain⟨D,r,rfl,h1,a,G,z,rfl⟩:=h p so sp rfl;exact q D r h1 a G z]
def DD:FSp:=#[λt M=>∃(D:Deed) (so e:List Str),t=[.d D.d,.d (B3 so),.d (B3 e)]/\D.real/\namesOK (so++e)/\BD so D=am,
 λt M y i=>∀(D:Deed) (so e:List Str),t=[.d D.d,.d (B3 so),.d (B3 e)]->y = .d (.tuple [B3 (BE so D),B3 (CK e D)])/\i=M]
theorem RK {Q:DS->Own->Prop}(hr:D.real) (hn:namesOK (so++sp)) (N:BD so D=am) (q:Q (.d (.tuple [B3 (BE so D),B3 (CK sp D)])) M) :
   [DS.d D.d,.d (B3 so),.d (B3 sp)].length=3/\DD.pre [.d D.d,.d (B3 so),.d (B3 sp)] M/\∀x i,DD.post [.d D.d,.d (B3 so),.d (B3 sp)] M x i->Q x i:=
 #[rfl,#[D,so,sp,rfl,hr,hn,N],λx i h=>by obtain⟨rfl,rfl⟩:=h D so sp rfl;exact q]
def F4:FSp:=#[λt M=>∃(p:Addr) (o:MO) (q:List Str) (n:Nat),t=[.loc p,.d (B3 q),.d (.int n)]/\M p=al o/\B5 o/\namesOK q/\n<=q.length,
 λt M y i=>∀(p:Addr) (q:List Str) (n:Nat),t=[.loc p,.d (B3 q),.d (.int n)]->∃(w:List Th) (o:MO),y = .d (wD w)/\EH w/\(w.map (·.1)).Perm (q.take n)/\B5 o/\i=M.put p o]
theorem cA {Q:DS->Own->Prop}(m:M p=al o) (T:B5 o) (hy:namesOK ys) (hn:n<=ys.length) (q:∀(w:List Th) (r:MO),EH w->(w.map (·.1)).Perm (ys.take n)->B5 r->Q (.d (wD w)) (M.put p r)) :
   [DS.loc p,.d (B3 ys),.d (.int n)].length=3/\F4.pre [.loc p,.d (B3 ys),.d (.int n)] M/\∀x i,F4.post [.loc p,.d (B3 ys),.d (.int n)] M x i->Q x i:=
 #[rfl,#[p,o,ys,n,rfl,m,T,hy,hn],λx i h=>by obtain⟨w,r,rfl,h1,a,G,rfl⟩:=h p ys n rfl;exact q w r h1 a G]
def CO (l:Str×Deed):PyData:=.tuple [.str l.1,l.2.d]
def AM (w:List Th) (p:List (Str×Deed)):PyData:=.tuple [wD w,.tuple (p.map CO)]
theorem UK (R:EH w) (hg:goD w D) (m:w.length < 60):EH (HZ w D)/\(HZ w D).length<=w.length+1:=by obtain⟨_,_,_,h1,a⟩:=n9 R hg m;exact#[h1,a]
def HM:List Str:=["put","move","count","name","split","join","take","count","split"]
theorem iR:∀k∈HM,b5Q k=true:=by decide +kernel
theorem GZ (h:k∈HM):zH (.str k)=true:=FD (iR k h) (by simp[b2V])
theorem DF (h:∀z∈ys,B9 z):zH (B3 ys)=true:=OV λz e=>QH (h z e)
theorem CD (ys:List Str):a0Z (B3 ys) (.list [])=ys.isEmpty:=P9 ys
theorem RL {ys:List Str}:((ys.map a0W).filter λd=>!a0Z d (.str y)).map id=(ys.filter λz=>decide (z≠y)).map .str:=by rw[b3Z,xU];congr 1;apply b5X;intro z _;show(!a0Z (.str z) (.str y))=_;rw[B7];by_cases e:z=y <;> simp[e]
theorem JB (h:B3 as=B3 bs):as=bs:=Y9 (by unfold B3 at h;exact PyData.list.inj h)
theorem GC (e:[DS.loc p,.d (B3 so),.d (B3 sp)]=[.loc p',.d (B3 L),.d (B3 o)]):p=p'/\so=L/\sp=o:=by simp only[List.cons.injEq,DS.loc.injEq,DS.d.injEq,and_true] at e;exact#[e.1,JB e.2.1,JB e.2.2]
theorem tD {D:Deed}(e:[DS.d D.d,.d (B3 so),.d (B3 sp)]=[.d t.d,.d (B3 L),.d (B3 o)]):D=t/\so=L/\sp=o:=by simp only[List.cons.injEq,DS.d.injEq,and_true] at e;exact#[CM e.1,JB e.2.1,JB e.2.2]
theorem tE {ys:List Str}(h:∀z∈ys,B9 z):(ys.filter λz=>decide (z≠a0Q ""))=ys:=List.filter_eq_self.mpr λz t=>by have:=(h z t).1;simp;intro e;rw[e] at this;exact absurd this (by decide +kernel)
def wB2 (t:Th):Str×List PyData:=(t.1,[.int t.2.1,.int t.2.2])
def unB (u:Str×List PyData):Th:=match u with | (a,[.int p,.int c])=>(a,p,c) | (a,_)=>(a,0,0)
theorem nA (w:List Th):(w.map wB2).map O1=w.map thD:=by rw[zD];rfl
theorem nB {ts:List (Str×List PyData)}(h:ts.Perm (w.map wB2)):(ts.map unB).Perm w/\ts.map O1=(ts.map unB).map thD/\(ts.map unB).map (·.1)=ts.map (·.1):=by
 have e:(w.map wB2).map unB=w:=by rw[zD];exact b3Z _
 refine#[by have:=h.map unB;rw[e] at this;exact this,?_,?_];. rw[zD];apply yM;intro u hu;obtain⟨t,_,rfl⟩:=zL.mp (h.mem_iff.mp hu);rfl
 . rw[zD];apply yM;intro u hu;obtain⟨t,_,rfl⟩:=zL.mp (h.mem_iff.mp hu);rfl
theorem cB {ts:List (Str×List PyData)}(h:ts.Pairwise λx y=>x.1.cps.toList < y.1.cps.toList):Ris (ts.map (·.1)):=by unfold Ris;rw[a5J];exact h.imp λ{a b} q=>by rw[<-A1u];exact decide_eq_true q
def wsF (w:List Th) (Ds:List Deed) (k:Nat):List Th:=O9 w (Ds.take k)
theorem tF (h:Ds[k]?=al D):wsF w Ds (k+1)=HZ (wsF w Ds k) D:=by unfold wsF;rw[a0V,h];exact YZ
theorem WC:∀{Ds:List Deed}{w:List Th}{k:Nat},L4 w Ds->EH w->w.length+Ds.length < 60->k<=Ds.length->EH (wsF w Ds k)/\(wsF w Ds k).length<=w.length+k/\∀D,Ds[k]?=al D->goD (wsF w Ds k) D
 | [],w,k,_,B,_,hk=>by
   have e:k=0:=by simpa using hk
   subst e;exact#[B,zR _,λD h=>by simp at h]
 | D::r,w,0,hb,B,_,_=>#[B,zR _,λt h=>by simp at h;subst h;exact hb.1]
 | D::r,w,k+1,hb,B,m,hk=>by
   have i:w.length+r.length+1 < 60:=by simpa [Nat.add_assoc] using m
   obtain⟨n,o⟩:=UK B hb.1 (by lia);obtain⟨a,b,c⟩:=WC (Ds:=r) (w:=HZ w D) (k:=k) hb.2 n (by lia) (by simpa using hk);have e:wsF w (D::r) (k+1)=wsF (HZ w D) r k:=rfl;rw[e];exact#[a,by lia,λt h=>c t (by simpa using h)]
def bkF (w:List Th) (Ds:List Deed) (j:Nat):PyData:=match Ds[j]? with | some D=>(BK (wsF w Ds j) D).d | none=>.none
def bkL (w:List Th) (Ds:List Deed) (k:Nat):List PyData:=(a1K k).map (bkF w Ds)
theorem nC :bkL w Ds (k+1)=bkL w Ds k++[bkF w Ds k]:=by unfold bkL;rw[List.range_succ,xI];rfl
theorem tG :(bkL w Ds k).length=k:=by simp[bkL]
theorem nD {x:t}(hn:xs.length=n+1) (h:xs[n]?=al x):atI xs (-1)=al x:=by
 have e:ixN xs.length (-1)=al n:=by unfold ixN;rw[hn,if_neg (by lia),if_pos (by lia)];congr 1;lia
 unfold atI;rw[e];exact h
theorem RM (m:M a=al (.l ds)) (q:Q (.d (.tuple ds)) M):DR K (Q8 K) [.loc a] M Q:=λH n QQ u s k=>by obtain⟨v,r,rfl,h1,e⟩:=s;cases e;unfold SI at h1;subst h1;obtain⟨n,h0,hd⟩:=u a _ m;refine#[a,n,rfl,.inl #[SqL.of h0,λp hp=>?_]];have g:Grow K M.W M.W H (upd H p (.tup n)):=AZ _ hp;refine k _ _ (.d (.tuple ds)) M (u.new hp) ?_ #[g] q;unfold SI DV;exact#[p,n,rfl,.inl #[λw=>w (u.none hp),.inl AD],hd.grow g]
theorem Z1:∀z∈[a0Q "me","you","abcdefgh"],B9 z:=by intro z e;simp only[yX,xX,or_false] at e;rcases e with rfl | rfl | rfl <;> (refine#[by decide +kernel,by decide +kernel,?_];decide +kernel)
theorem iS:xJ 915965594177219015054603514932384110774149374281672134266497<=256:=by decide +kernel
theorem tH (h:xJ c<=2 ^ 21):IntMulOk c 915965594177219015054603514932384110774149374281672134266497:=PySem.IntMulOk.of_le h iS (by decide)
end DL
namespace DL
open PySem PySem.Spec L2
def AR (ts:List (Int×PyData)):List (PyData×PyData):=ts.map λt=>(a4V t.1,t.2)
def EU (ts:List (Int×PyData)) (k:Int) (d:PyData):List (Int×PyData):=
 if (ts.any λt=>decide (t.1=k))=ap then ts.map (λt=>if t.1=k then (t.1,d) else t) else ts++[(k,d)]
def AT:List (Int×PyData)->Int->Option PyData
 | [],_=>am
 | t::r,k=>if t.1=k then al t.2 else AT r k
section
theorem C0 :DKV K H W (AR (t::ts)) ks↔∃v r,ks=(a4X t.1,v)::r/\DV K H W t.2 v/\DKV K H W (AR ts) r:=by
 unfold AR;rw[zI];constructor
 . intro h;unfold DKV at h;obtain⟨J,v,r,e,f,h1,a⟩:=h;cases J with
   | inr i=>cases f
   | inl x=>
     have n:t.1=x:=by simpa [gV] using f
     subst n;exact#[v,r,e,h1,a]
 . rintro⟨v,r,e,h1,a⟩;unfold DKV;exact#[a4X t.1,v,r,e,rfl,h1,a]
theorem EI :DKV K H W (AR []) ks↔ks=[]:=by unfold AR;simp only[a9W];unfold DKV;exact Iff.rfl
theorem OB:∀{ts:List (Int×PyData)}{ks:List (Key×V)},DKV K H W (AR ts) ks->ks.map (·.1)=(ts.map (·.1)).map a4X
 | [],ks,h=>by rw[EI.mp h];rfl
 | t::ts,ks,h=>by obtain⟨v,r,rfl,_,a⟩:=C0.mp h;simp[OB a]
theorem Z2 :∀{ts:List (Int×PyData)}{ks:List (Key×V)},DKV K H W (AR ts) ks->(ks.any λkv=>decide (kv.1=a4X k))=ts.any λt=>decide (t.1=k)
 | [],ks,h=>by rw[EI.mp h];rfl
 | t::ts,ks,h=>by
   obtain⟨v,r,rfl,_,a⟩:=C0.mp h;rw[a5V,a5V,Z2 a];congr 1;by_cases e:t.1=k;. rw[decide_eq_true e,decide_eq_true (by rw[e])]
   . rw[decide_eq_false e,decide_eq_false λq=>e (by injection q)]
theorem OC (hd:DV K H W d v):∀{ts:List (Int×PyData)}{ks:List (Key×V)},DKV K H W (AR ts) ks ->
   DKV K H W (AR (ts.map λt=>if t.1=k then (t.1,d) else t)) (ks.map λkv=>if kv.1=a4X k then (kv.1,v) else kv)
 | [],ks,h=>by rw[EI.mp h];exact EI.mpr rfl
 | t::ts,ks,h=>by
   obtain⟨u,r,rfl,h1,a⟩:=C0.mp h;rw[zI,zI];by_cases e:t.1=k;. rw[if_pos e,if_pos (by rw[e])];exact C0.mpr #[v,_,rfl,hd,OC hd a]
   . rw[if_neg e,if_neg λq=>e (by injection q)];exact C0.mpr #[u,_,rfl,h1,OC hd a]
theorem UL (hd:DV K H W d v):∀{ts:List (Int×PyData)}{ks:List (Key×V)},DKV K H W (AR ts) ks->DKV K H W (AR (ts++[(k,d)])) (ks++[(a4X k,v)])
 | [],ks,h=>by rw[EI.mp h];exact C0.mpr #[v,[],rfl,hd,EI.mpr rfl]
 | t::ts,ks,h=>by obtain⟨u,r,rfl,h1,a⟩:=C0.mp h;exact C0.mpr #[u,_,rfl,h1,UL hd a]
theorem Z3 (h:DKV K H W (AR ts) ks) (hd:DV K H W d v):DKV K H W (AR (EU ts k d)) (DX ks (a4X k) v):=by
 unfold EU DX;rw[Z2 h];by_cases c:(ts.any λt=>decide (t.1=k))=ap;. rw[if_pos c,if_pos c];exact OC hd h
 . rw[if_neg c,if_neg c];exact UL hd h
theorem KC :∀{ts:List (Int×PyData)}{ks:List (Key×V)},DKV K H W (AR ts) ks->(∃d v,AT ts k=al d/\DW ks (a4X k)=al v/\DV K H W d v)\/(AT ts k=am/\DW ks (a4X k)=am)
 | [],ks,h=>by rw[EI.mp h];exact .inr #[rfl,rfl]
 | t::ts,ks,h=>by
   obtain⟨u,r,rfl,h1,a⟩:=C0.mp h;by_cases e:t.1=k;. exact .inl #[t.2,u,by simp[AT,e],IV (by rw[e]),h1]
   . have e':¬(a4X t.1:Key)=a4X k:=λq=>e (by injection q);rcases KC (k:=k) a with ⟨d,v,n,c,D⟩ | ⟨n,c⟩
     . exact .inl #[d,v,by simp[AT,e,n],by rw[FJ (p:=(a4X t.1,u)) e'];exact c,D]
     . exact .inr #[by simp[AT,e,n],by rw[FJ (p:=(a4X t.1,u)) e'];exact c]
end
section
theorem iT (h:DE K td ρ M λx M1=>DE K ty ρ M1 λy M2=>∃(a:Addr) (ts:List (Int×PyData)) (k:Int) (d:PyData),x = .loc a/\y = .d (.int k)/\M2 a=al (.d (AR ts))/\AT ts k=al d/\Q (.d d) M2):DE K (dZ td ty) ρ M Q:=λi H QQ R Y=>
 h i H _ R λv r x M1 T n o h1=>h1 i r _ (R.step T o) λu g y M2 e N O j=>by
   obtain⟨a,ts,k,d,rfl,rfl,m,l,q⟩:=j;unfold SI at n;subst n;rw[BC N];obtain⟨z,b,f⟩:=e a _ m;rcases KC (k:=k) f with ⟨J,I,t,c,p⟩ | ⟨t,c⟩
   . rw[l] at t;cases t;exact#[a,I,rfl,.inl #[z,a4X k,.inl b,rfl,c.symm],Y _ g (.d d) M2 e p (o.trans O) q]
   . rw[l] at t;cases t
theorem nE (h:DE K ty ρ M λy M1=>DE K td ρ M1 λx M2=>∃(a:Addr) (ts:List (Int×PyData)) (k:Int),x = .loc a/\y = .d (.int k)/\M2 a=al (.d (AR ts))/\Q (.d (.bool (AT ts k).isSome)) M2):DE K (qN ty td) ρ M Q:=λr H QQ R Y=>
 h r H _ R λv p x M1 z T i h1=>h1 r p _ (R.step z i) λu g y M2 n o N j=>by
   obtain⟨a,ts,k,rfl,rfl,m,q⟩:=j;unfold SI at o;subst o;rw[BC T];obtain⟨e,b,f⟩:=n a _ m;refine#[a,DW e (a4X k),rfl,.inl #[e,a4X k,.inl b,rfl,rfl],Y _ g _ M2 n ?_ (i.trans N) q];rcases KC (k:=k) f with ⟨J,I,t,c,O⟩ | ⟨t,c⟩
   . rw[t,c];exact AF
   . rw[t,c];exact AF
theorem JC (h:DE K tv ρ M λz M1=>DE K td ρ M1 λx M2=>DE K ty ρ M2 λy e=>∃(a:Addr) (ts:List (Int×PyData)) (k:Int) (d:PyData),z = .d d/\x = .loc a/\y = .d (.int k)/\e a=al (.d (AR ts))/\ts.length < bd/\D.nx ρ (e.put a (.d (AR (EU ts k d))))):DSt K (kN td ty tv) ρ M D:=λt H E R S k2 k3 k4=>
 h t H _ R λv g z M1 B U n h1=>h1 t g _ (R.step B n) λu j x M2 J p i O=>O t j _ (R.step J (n.trans i)) λyv Z y e r X b G=>by
   obtain⟨a,ts,k,d,rfl,rfl,rfl,m,I,q⟩:=G;unfold SI at p;subst p;rw[BC X];obtain⟨o,N,f⟩:=r a _ m;have hd:DV K Z e.W d v:=DV.grow (i.trans b).grow U;obtain⟨L,Y⟩:=CY r m (Z3 (k:=k) f hd);have T:o.length < sizeLine:=by rw[K9 f];unfold AR;rw[zX];exact I
   have c:=((n.trans i).trans b).trans Y;exact#[a,_,rfl,.inl #[o,a4X k,N,rfl,T,rfl],S ρ _ t _ (R.step L c) c q]
theorem iU (h:DE K ty ρ M λy M1=>DE K td ρ M1 λx M2=>∃(a:Addr) (ts:List (Int×PyData)) (k:Int),x = .loc a/\y = .d (.int k)/\M2 a=al (.d (AR ts))/\Q (.d (.bool (!(AT ts k).isSome))) M2):DE K (e7 ty td) ρ M Q:=λr H QQ R Y=>
 h r H _ R λv p x M1 z T i h1=>h1 r p _ (R.step z i) λu g y M2 n o N j=>by
   obtain⟨a,ts,k,rfl,rfl,m,q⟩:=j;unfold SI at o;subst o;rw[BC T];obtain⟨e,b,f⟩:=n a _ m;refine#[a,DW e (a4X k),rfl,.inl #[e,a4X k,.inl b,rfl,rfl],Y _ g _ M2 n ?_ (i.trans N) q];rcases KC (k:=k) f with ⟨J,I,t,c,O⟩ | ⟨t,c⟩
   . rw[t,c];exact AF
   . rw[t,c];exact AF
end
section
theorem RN (ts:List (Int×PyData)) (k:Int) (d:PyData):(EU ts k d).length<=ts.length+1:=by
 unfold EU;split;. rw[zX];exact b5W _
 . rw[yY];exact zR _
theorem Z4 (f:PyData->Int) (w:PyData->PyData):∀(ds:List PyData) (ts:List (Int×PyData)),(ds.foldl (λts d=>EU ts (f d) (w d)) ts).length<=ts.length+ds.length
 | [],ts=>zR _
 | d::r,ts=>by have h1:=Z4 f w r (EU ts (f d) (w d));have a:=RN ts (f d) (w d);rw[yR];show(r.foldl _ (EU ts (f d) (w d))).length<=_;lia
theorem iV (ho:HW g T) (hT:∀i∈T,∀j,o[i]?≠al (al j)) (h:DI K wi ρ M λds M1=>ds.length < bd/\∃(c:PyData->Bool) (f:PyData->Int) (w:PyData->PyData),True /\(∀d∈ds,∀q,DG K g d (CA o ρ) q λv M2=>M2=q/\DT K tt v M2 λb S=>S=q/\b=c d/\(c d=ap->DE K tk v S λy X=>y = .d (.int (f d))/\X=q/\DE K tv v X λz Y=>z = .d (w d)/\Y=q)) /\∀p,M1 p=am->Q (.loc p) (M1.put p (.d (AR ((ds.filter c).foldl (λts d=>EU ts (f d) (w d)) []))))) :
   DE K (O0 o wi g tt tk tv) ρ M Q:=λU H QQ R k=>
 h U H _ R λJ ds H1 M1 G t1 L cu=>by
   obtain⟨hsz,c,f,w,nd,he,hq⟩:=cu;intro A hA;obtain⟨oA,sA⟩:=IY (kvs:=[]) (ks:=[]) G hA (by unfold DKV;rfl);have hM:=G.none hA;let acc:Nat->List (Int×PyData):=λi=>((ds.take i).filter c).foldl (λts d=>EU ts (f d) (w d)) [];refine#[λi m ys t=>m=ds.length - i/\i<=ds.length/\t A=al (.dK ys)/\OA K t (M1.put A (.d (AR (acc i))))/\Step K M1 (M1.put A (.d (AR (acc i)))) H1 t,#[_,rfl,xT _,AD,oA,sA],?_];rintro i m ys t ⟨rfl,hi,om,I,r⟩;refine#[om,?_];by_cases u:i < ds.length
   . refine .inr #[L.go i t _ u I r,λx Z y=>?_];obtain⟨qo,ee,d,e1,e2⟩:=L.yld i t _ x Z I r u y;have Rc:Rel K (M1.put A (.d (AR (acc i)))) (CA o ρ) (L2.capt o U) Z:=((R.step G t1).step qo (r.trans ee)).capt;have ts:(ds.take (i+1)).filter c=(ds.take i).filter c++(if c d then [d] else []):=fx c ds i d e1;refine ho _ _ _ _ (he d (yN e1) _ (L2.capt o U) Z x _ Rc e2 λρ3 S a H4 D j_ #[eM,b3] hext=>#[λi' v' gn=>?_,?_]);. obtain⟨j,f1,f2⟩:=D3 gn;rw[hext i' λhm=>hT i' hm j f1];exact gn
     . subst eM;refine b3 a H4 _ D ?_;rintro b H5 Y O B ⟨xj,N,h5⟩;subst xj;have sx:=((r.trans ee).trans j_).trans B;cases hb:c d with
       | false=>
         rw[hb] at N;subst N;rw[if_neg nft];obtain⟨ks,q1,q2⟩:=O A _ zU;have n:acc (i+1)=acc i:=by show(((ds.take (i+1)).filter c).foldl _ _)=_;rw[ts,hb];simp[acc]
         refine#[ks,ds.length - (i+1),by lia,rfl,u,q1,?_,?_];. rw[n];exact O
         . rw[n];exact sx
       | true=>
         rw[hb] at N;subst N;rw[if_pos rfl];refine h5 hb a H5 _ (D.step O B) ?_;rintro y H6 z M6 o6 s6 il ⟨ez,Bj,h6⟩;subst ez Bj;refine h6 a H6 _ ((D.step O B).step o6 il) ?_;rintro y2 H7 z2 M7 o7 s7 qa ⟨Bk,Bl⟩;subst Bk Bl;obtain⟨ks,q1,q2⟩:=o7 A _ zU;obtain⟨w1,w2⟩:=CY o7 zU (Z3 (k:=f d) q2 s7);have n:acc (i+1)=EU (acc i) (f d) (w d):=by show(((ds.take (i+1)).filter c).foldl _ _)=_;rw[ts,hb,if_pos rfl,c1X];rfl
         have ac:ks.length < sizeLine:=by rw[K9 q2];unfold AR;rw[zX];refine zQ (Z4 _ _ _ _) ?_;rw[b1J,Nat.zero_add];exact zQ (zN (yJ _ _) (by rw[a2Q];lia)) hsz
         rw[yI] at w1 w2;refine#[ks,a4X (f d),BC s6,q1,ac,ds.length - (i+1),by lia,rfl,u,AD,?_,?_];. rw[n];exact w1
         . rw[n];exact((sx.trans il).trans qa).trans w2
   . have e:i=ds.length:=by lia
     subst e;refine .inl #[L.stop t _ I r,k _ t (.loc A) _ I rfl (t1.trans r) ?_];have:=hq A hM;have n:acc ds.length=(ds.filter c).foldl (λts d=>EU ts (f d) (w d)) []:=by show(((ds.take ds.length).filter c).foldl _ _)=_;rw[a1V]
     rw[n];exact this
end
end DL
namespace L2
open PySem PySem.Spec PyProof.Rows PySem.W
section
theorem WE{prog:bq}{w:bo}{A:cx}{E:ar->ba->Prop}{s:ba} {ss:List Int}(U:A.handled=am) (hd:(d==dz)=bj) (B:s.heap.DictOf (AG prog w) d kvs) (hk:kvs.map (·.1)=ss.map a4X) (M:ss.length < 64) (h:∀(h1 h':db) (tk:Nat) (out:List ar) (e:Nat) (S:List Int),(∀b o,s.heap.get? b=al o->h1.get? b=al o)->(∀b o,h1.get? b=al o->h'.get? b=al o)->h'.get? h1.objs.size=al (da "list" out.toArray e)->im out S->S.Perm ss->S.Pairwise (·<=·)->Q (.ref h1.objs.size) { s with heap:=h',toks:=tk }) :
   wpAny (model prog w) A (call (.builtin "sorted") [.ref d]) Q E s:=by
 refine b9J kind_sorted plain_sorted entry_sorted (args_sorted1 _) ?_;obtain⟨ep,Y⟩:=B.dictAt;have j:kvs.length=ss.length:=by have:=congrArg a9V hk;simpa using this
 unfold Builtin.«sorted»;refine zZ (m:=checkCount "sorted" 1 1 _) (zY (zZ (kdu_collect (A:=A.in1) (kdl_dict (kvs:=kvs) (ep:=ep) hd) U Y (by rw[j,dh];lia) λh' tk acc hold N=>?_)));have p:acc.toList.length=ss.length:=by rw[a3V,N.1,j]
 have hS:im acc.toList ss:=by
   have L:∀(a:List ar) (n:List Int),a.length=n.length->(∀(i:Nat) v x,a[i]?=al v->n[i]?=al x->∃t,v=Value.int x t)->im a n:=by
     intro a;induction a with
     | nil=>intro n r _;cases n with
       | nil=>exact .nil
       | cons _ _=>simp at r
     | cons v a X=>intro n r T;cases n with
       | nil=>simp at r
       | cons x n=> obtain⟨t,rfl⟩:=T 0 v x rfl rfl;exact .cons x t (X n (by simpa using r) λi v x c f=>T (i+1) v x (by simpa using c) (by simpa using f))
   refine L _ _ p λi v x c f=>?_;obtain⟨k,y,G,J⟩:=N.2 i v (by rw[<-a7W];exact c);have u:(kvs.map (·.1))[i]?=al k:=by rw[zF,G];rfl
   rw[hk,zF,f] at u;cases u;have Z:KY (.inl x) v=true:=J;rcases B4 Z with ⟨i,t,e,e'⟩ | ⟨z,t,e,e'⟩
   . cases e;exact#[t,e']
   . cases e
 refine zZ (g8 ?_ (by rw[p,dh];lia));have g:(h'.push (da "list" acc.toList.toArray 0)).get? h'.objs.size=al (da "list" acc.toList.toArray 0):=yZ _ rfl;show wpAny _ _ _ _ _ { s with heap:=h'.push (da "list" acc.toList.toArray 0),toks:=tk };refine zZ (bv (cr (s:={ s with heap:=h'.push (da "list" acc.toList.toArray 0),toks:=tk }) slot_list_sort #[_,g,rfl] entry_list_sort (list_sort_tree g hS (by rw[p];exact M) λout O I R D=>#[_,rfl,?_]) (args_list_sort _)));obtain⟨e,he⟩:=sortedHeap_at (out:=out) g;refine zY #[_,rfl,h h' _ tk out.toList e O hold (λb o q=>?_) (by rw[Array.toArray_toList];exact he) I R D];have lt:b < h'.objs.size:=zM q;rw[sortedHeap_old (zC lt) (by rw[size_push'];exact c1W lt)];exact zW _ q
end
section
theorem nG:∀{vs:List ar}{ns:List Int},im vs ns->Vals (ns.map V.int) vs
 | _,_,.nil=>.nil
 | _,_,.cons n t r=>.cons #[t,rfl] (nG r)
theorem fF:∀{ns:List Int}{vs:List ar},Vals (ns.map V.int) vs->im vs ns
 | [],_,.nil=>.nil
 | n::ns,_,.cons r t=>by obtain⟨u,rfl⟩:=r;exact .cons n u (fF t)
def nH (K:Frg):List V->Hp->VK->Prop:=λt H Q=>∃(p:Addr) (e:List Int),t=[.ref p]/\SqL K H p (e.map V.int)/\e.length < 64/\∀(S:List Int) (q:Addr),S.Perm e->S.Pairwise (·<=·)->H q=am->Q (.ref q) (upd H q (.lst (S.map V.int)))
def fG:List V->Hp->VK->Prop:=λt H Q=>∃(p:Addr) (kvs:List (Key×V)) (e:List Int),t=[.ref p]/\Rd H p (.dK kvs)/\kvs.map (·.1)=e.map a4X/\e.length < 64/\∀(S:List Int) (q:Addr),S.Perm e->S.Pairwise (·<=·)->H q=am->Q (.ref q) (upd H q (.lst (S.map V.int)))
theorem cC:BO X (.builtin "sorted") (nH X.K):=by intro pins s x H v k Q I r h;obtain⟨p,j,rfl,hp,f,q⟩:=h;obtain⟨u,rfl,c⟩:=EW r;cases c;obtain⟨t,T,n,g⟩:=I.list hp;have hS:=fF T;have Y:=T.length;rw[zX] at Y;refine sorted_ints n.isList hS (by lia) λout S h1 a G=>?_;obtain⟨e,he⟩:=sortedAll_at s.heap t out;have hn:H (s.heap.objs.size+1)=none:=I.hok.fresh (b5W _);have m:=a.length_eq;refine#[.ref (s.heap.objs.size+1),_,I.laid (t':=s.toks) (o:=.lst (S.map V.int)) (λb o y=>sortedAll_old y) (b5W _) ?_,rfl,q S _ a G hn];refine#[by rw[zX,m];exact zN (xR f) (by decide),out.toList,e,nG h1,?_];have i:=he;simpa [da] using i
theorem Z5 (hc:X.calm=ap):BO X (.builtin "sorted") fG:=by
 intro pins s k H x v Q I r h;obtain⟨p,kvs,c,rfl,hp,hk,f,q⟩:=h;obtain⟨u,rfl,b⟩:=EW r;cases b;obtain⟨z,hd,j,rel,g⟩:=IW I.hok hp;have i:j.map (·.1)=c.map a4X:=by
   rw[<-hk];clear hk g z hp q;unfold KV at rel;induction rel with
   | nil=>rfl
   | cons h t U=>simp[h.1,U]
 refine WE (I.ok.hd hc) hd g i f λh1 h' L out e S n a T hS y m=>?_;have D:Inv X pins k H { s with heap:=h1,toks:=L }:=I.kept n;have hn:H h1.objs.size=none:=D.hok.fresh (zR _);refine#[.ref h1.objs.size,_,D.laid (t':=L) (o:=.lst (S.map V.int)) (h':=h') a (zR _) ?_,rfl,q S _ y m hn];refine#[by rw[zX,y.length_eq];exact zN (xR f) (by decide),out,e,nG hS,?_];simpa [da] using T
def WF (K:Frg):List V->Hp->VK->Prop:=λt H Q=>LU K t H Q\/nH K t H Q\/fG t H Q
theorem cD (hc:X.calm=ap):BO X (.builtin "sorted") (WF X.K):=by
 intro pins s n H t e Q I r h;rcases h with h | h | h;. exact QX hc pins s n H t e Q I r h
 . exact cC pins s n H t e Q I r h
 . exact Z5 hc pins s n H t e Q I r h
end
end L2
namespace DL
open PySem PySem.Spec L2
theorem cF {X:Cx}{K:Frg}(h:X.K=K) (hc:X.calm=ap):BO X (.builtin "sorted") (WF K):=h▸cD hc
section
theorem GD :∀{bs:List Int},DVs K H W (bs.map a4V) (bs.map V.int)
 | []=>DVs.nil
 | b::bs=>DVs.cons (by unfold DV;rfl) GD
theorem UM :∀{ns:List Int}{vs:List V},DVs K H W (ns.map a4V) vs->vs=ns.map V.int
 | [],vs,h=>by unfold DVs at h;subst h;rfl
 | n::ns,vs,h=>by rw[zI] at h;unfold DVs at h;obtain⟨v,r,rfl,h1,a⟩:=h;unfold DV at h1;rw[h1,UM a];rfl
theorem Z6 (f:ss.length < 64) (q:∀S:List Int,S.Perm ss->S.Pairwise (·<=·)->Q (.d (.list (S.map .int))) M):DR K (WF K) [.d (.list (ss.map .int))] M Q:=λH n QQ u s k=>by obtain⟨v,r,rfl,h1,t⟩:=s;cases t;unfold SI DV at h1;obtain⟨a,n,rfl,m,hd⟩:=h1;have e:=UM hd;subst e;refine .inr (.inl #[a,ss,rfl,m.sq,f,λS p hp hs hn=>?_]);have g:Grow K M.W M.W H (upd H p (.lst (S.map V.int))):=AZ _ hn;refine k _ _ (.d (.list (S.map .int))) M (u.new hn) ?_ #[g] (q S hp hs);unfold SI DV;exact#[p,_,rfl,.inl #[λw=>w (u.none hn),.inl AD],GD]
theorem iW (m:M a=al (.d (AR ts))) (f:ts.length < 64) (q:∀ss:List Int,ss.Perm (ts.map (·.1))->ss.Pairwise (·<=·)->Q (.d (.list (ss.map .int))) M):DR K (WF K) [.loc a] M Q:=λH o QQ u s k=>by obtain⟨v,r,rfl,h1,t⟩:=s;cases t;unfold SI at h1;subst h1;obtain⟨n,c,e⟩:=u a _ m;refine .inr (.inr #[a,n,ts.map (·.1),rfl,.inl c,OB e,by rw[zX];exact f,λS p hp hs hn=>?_]);have g:Grow K M.W M.W H (upd H p (.lst (S.map V.int))):=AZ _ hn;refine k _ _ (.d (.list (S.map .int))) M (u.new hn) ?_ #[g] (q S hp hs);unfold SI DV;exact#[p,_,rfl,.inl #[λw=>w (u.none hn),.inl AD],GD]
end
end DL
namespace DL
open PySem PySem.Spec L2
open PyProof.Rows (envOfC AllBare)
def vU (k:Nat):fv->fv
 | .ClassDef _ _ _ b _ _ _ _ _ _ _=>b.getD k (.Pass #[0,0,0,0])
 | _=>.Pass #[0,0,0,0]
end DL
namespace L2
open PySem PySem.Spec PyProof.Rows
def Itk (a:Addr) (o:dc) (ks:List (Key×V)):It:=#[λi H=>H a=al (.frz o (.dK ks))/\i < ks.length,λi H x H'=>H'=H/\∃k v,ks[i]?=al (k,v)/\x=kV k,λi H=>H a=al (.frz o (.dK ks))/\ks.length<=i]
theorem A0m {ks:List (Key×V)}{vs:List (Key×ar)}(r:KV ks vs) {i:Nat}{k:Key}{v:V}(e:ks[i]?=al (k,v)):∃u,vs[i]?=al (k,u):=by
 induction r generalizing i with
 | nil=>simp at e
 | cons h _ U=>
   cases i with
   | zero=>simp at e;obtain⟨h1,a⟩:=h;rw[e] at h1;exact#[_,by simp;exact Prod.ext h1.symm rfl]
   | succ i=>simpa using U (by simpa using e)
theorem tI (h:KY k u=ap):RelV (kV k) u:=by
 rcases B4 h with ⟨i,t,rfl,rfl⟩ | ⟨x,t,rfl,rfl⟩
 . exact#[t,rfl]
 . exact#[t,rfl]
theorem iX {P:bq}{w:bo}{K:Frg}{tg:ca}(a it:Addr) (o:dc) (ks:List (Key×V)) :
   Turn P w K tg (Itk a o ks) [it] it (λi h=>∃es ep,o.data = .dict es ep/\h.IsKeyIter it a i ks.length ep) where
 mem:=by simp
 obj:=λi h st b hb=>by
   have e:b=it:=by simpa using hb
   subst e;obtain⟨es,ep,_,o',e,c,d⟩:=st;exact⟨o',e,λv z=>by rw[d] at z;cases z⟩
 keep:=by rintro i h h' ⟨es,ep,q,st⟩ k;exact#[es,ep,q,st.at λo e=>k it (by simp) o e]
 item:=by
   intro X hP hw hK hc i pins s σ H E I hf #[es,ep,zi,st] #[hg,hi];subst hP hw hK;obtain⟨f0,f1,f2,f3,f4,f5⟩:=hf it (by simp);obtain⟨kb,_,Bn,vs,rel,o',cp,lj,dg,r⟩:=I.hok a _ hg;obtain rfl:o'=o:=Option.some.inj (dg.symm.trans kb);obtain⟨rfl,rfl⟩:cp=es/\lj=ep:=by have:=r.2.1.symm.trans zi;injection this with a b;exact#[a,b]
   have dat:s.heap.DictAt (AG X.prog X.w) a vs lj:=#[o',cp,dg,r]
   obtain⟨⟨k,v⟩,hk⟩:∃kv,ks[i]?=al kv:=#[ks[i],zV hi]
   obtain⟨u,hu⟩:=A0m rel hk;have hl:vs.length=ks.length:=rel.length.symm;refine wpAny_pyNext_dict_item (by rw[hl];exact st) dat hu λkey h' su bw sb=>?_;rw[hl] at bw;have I1:Inv X pins σ H { s with heap:=h' }:=I.turned (t':=s.toks) (λb o hb e=>(sb.2 b hb).trans e) f0 f1 f3 f4 f5;exact#[key,rfl,letGo_keyiter (s':={ s with heap:=h' }) bw #[kV k,H,I1,tI su,#[rfl,k,v,hk,rfl],#[cp,lj,zi,bw],λb hb=>(hf b hb).1]]
 done:=by
   intro X hP hw hK hc i pins s σ H E I hf #[es,ep,zi,st] #[hg,hi];subst hP hw hK;obtain⟨f0,f1,f2,f3,f4,f5⟩:=hf it (by simp);obtain⟨kb,_,Bn,vs,rel,o',cp,lj,dg,r⟩:=I.hok a _ hg;obtain rfl:o'=o:=Option.some.inj (dg.symm.trans kb);obtain⟨rfl,rfl⟩:cp=es/\lj=ep:=by have:=r.2.1.symm.trans zi;injection this with a b;exact#[a,b]
   have dat:s.heap.DictAt (AG X.prog X.w) a vs lj:=#[o',cp,dg,r]
   have hl:vs.length=ks.length:=rel.length.symm;exact wpAny_pyNext_dict_end (I.ok.hd hc) (by rw[hl];exact st) dat (List.getElem?_eq_none_iff.mpr (by rw[hl];exact hi)) λh' eb=>#[rfl,I.turned (t':=s.toks) (λb o hb e=>eb b o hb e) f0 f1 f3 f4 f5]
 self:=by rintro _ _ _ _ _ ⟨_,_,_,st⟩ h;exact wpAny_pyIter_keyiter st h
section
variable {X:Cx}{tg:ca}{pins:List (Addr×dc)}{σ:St}{H:Hp}{s:ba}
theorem iY (I:Inv X pins σ H s) (e:H a=al (.dK ks)) (T:s.heap.get? a=al o):Inv X pins σ (upd H a (.frz o (.dK ks))) s:=by
 have O:∀b u,H b=al u->(∀z,u≠.dK z)->b≠a:=λb u q n z=>by rw[z,e] at q;cases q;exact n _ rfl
 have J:=I.un (H':=upd H a (.frz o (.dK ks))) (h':=s.heap) (t':=s.toks) #[λ_ _ q _ _ _=>q,λb u q _ _ _=>#[u.slots,q],λb u _ n _=>by rw[AH (λz=>by rw[z,e] at n;cases n)];exact n,λb u q _=>#[u,q],
   λb t q=>by rw[AH (O b _ q λ_ z=>nomatch z)];exact q,λb u t q=>by rw[AH (O b _ q λ_ z=>nomatch z)];exact q,λb f q=>#[#[],by rw[AH (O b _ q λ_ z=>nomatch z),q];simp]] λb u q=>?_
 . exact J
 . have r:∀{b u},ObjOk X.prog X.w H s.heap b u->ObjOk X.prog X.w (upd H a (.frz o (.dK ks))) s.heap b u:=λ{b u} x=>x.stay (λ_ _ _ q=>q) (λc q=>by rw[AH (O c _ q λ_ z=>nomatch z)];exact q) λc t q=>by rw[AH (O c _ q λ_ z=>nomatch z)];exact q
   by_cases z:b=a;. subst z;rw[AD] at q;cases q;exact#[T,r (I.hok b _ e)]
   . rw[AH z] at q;exact r (I.hok b u q)
def vV (tl:TE):TI:=λσ H R=>tl σ H λx e=>∃a,x = .ref a/\((∃v,e a=al (.dK v)/\∀o,R (Itk a o v) (upd e a (.frz o (.dK v))))\/∃o v,e a=al (.frz o (.dK v))/\R (Itk a o v) e)
theorem tJ {l:ca}{tl:TE}(p:PE X l tl):PI X tg l (vV tl):=by
 intro pins s σ H R I h;refine thn (p pins s σ H _ I h) ?_;rintro v n ⟨x,O,D,N,a,k,q1⟩;subst k;obtain rfl:v=a0X a:=N;have G:∀{g:Hp}{o:dc}{t:List (Key×V)},Inv X pins σ g n->g a=al (.frz o (.dK t))->R (Itk a o t) g->wpAny (model X.prog X.w) X.A (pyIter (.ref a)) (PIE X pins σ tg R) X.xe n:=λ{g o t} i e q=>by
   obtain⟨y,_,z,c,rel,m,Q,S,f,r⟩:=i.hok a _ e;obtain rfl:m=o:=Option.some.inj (f.symm.trans y);have dat:n.heap.DictAt (AG X.prog X.w) a c S:=#[m,Q,f,r]
   have p:c.length=t.length:=rel.length.symm;refine wpAny_pyIter_dict z dat ?_;rw[p];have j:Inv X pins σ g { n with heap:=n.heap.push { cls:=.type "dict_keyiterator", data:=.fields (z3 [.ref a,.int 0 0,.int t.length 0,.int S 0]) } }:=i.kept (t':=n.toks) λb u q=>zW _ q;refine#[n.heap.objs.size,[n.heap.objs.size],_,Itk a m t,g,rfl,j,iX a _ m t,#[Q,S,r.2.1,_,yZ _ rfl,rfl,rfl],λb hb=>?_,q];have:b=n.heap.objs.size:=by simpa using hb
   rw[this];exact i.fpOk (zR _) (i.hok.fresh (zR _))
 rcases q1 with ⟨t,e,q⟩ | ⟨o,t,e,q⟩
 . obtain⟨_,_,c,_,o,B,M,T,_⟩:=D.hok a _ e;exact G (iY D e T) AD (q o)
 . exact G D e q
end
end L2
namespace DL
open PySem PySem.Spec L2
abbrev fH (ts:List (Str×PyData)):List PyData:=ts.map λt=>.str t.1
section
theorem nJ :∀{ts:List (Str×PyData)}{ks:List (Key×V)}{i:Nat}{k:Key}{v:V},DKV K H W (AN ts) ks->ks[i]?=al (k,v)->∃u,ts[i]?=al u/\k=a1Z u.1
 | [],ks,i,k,v,h,e=>by rw[EA.mp h] at e;simp at e
 | u::ts,ks,i,k,v,h,e=>by
   obtain⟨w,r,rfl,h1,a⟩:=BV.mp h;cases i with
   | zero=>simp at e;exact#[u,rfl,e.1.symm]
   | succ i=>simpa using nJ a (by simpa using e)
theorem tK (h:DE K tl ρ M λx M1=>∃ts:List (Str×PyData),x = .d (.dict (AN ts))/\QI (fH ts) M1):DI K (vV tl) ρ M QI:=λJ H R S k=>
 h J H _ S λv p x M1 T N O h1=>by
   obtain⟨ts,rfl,q⟩:=h1;unfold SI DV at N;obtain⟨a,n,rfl,nw,hr,hd⟩:=N;have j:n.length=ts.length:=by have:=K9 hd;unfold AN at this;simpa using this
   have I:∀{c:Hp}{o:dc},c a=al (.frz o (.dK n))->WD K (Itk a o n) (fH ts) c M1:=λ{c o} e=>
     #[λi H' f hi r m=>#[m.grow.kept e nw (λ_ z=>nomatch z),by rw[j];simpa using hi],λH' f r m=>#[m.grow.kept e nw (λ_ z=>nomatch z),by rw[j];simp],λi H' f x Z r m hi y=>by obtain⟨rfl,Y,X,G,rfl⟩:=y;obtain⟨u,hu,rfl⟩:=nJ hd G;refine#[r,Step.refl,.str u.1,?_,by unfold DV;rfl];rw[zF,hu];rfl]
   refine#[a,rfl,?_];rcases hr with e | ⟨o,e⟩
   . refine .inl #[n,e,λo=>?_];have g:Grow K M1.W M1.W p (upd p a (.frz o (.dK n))):=#[λb u e' L=>by
       by_cases z:b=a;. subst z;rw[e] at e';cases e';exact .inr #[n,o,rfl,AD]
       . exact .inl (by rw[AH z];exact e'),λb z=>.inl z]
     have r:OA K (upd p a (.frz o (.dK n))) M1:=T.grow g λb U B=>by rw[AH];rintro rfl;exact nw (by unfold Own.W;rw[B];simp)
     exact k _ _ _ M1 r (O.trans #[g]) (I AD) q
   . exact .inr #[o,n,e,k _ _ _ M1 T O (I e) q]
theorem cG (e:ρ[i]?=al (al (.loc a))) (m:M a=al (.d kvs)) (h:DSt K t (ρ.set i (al (.d (.dict kvs)))) (M.del a) D):DSt K t ρ M D:=λn H E R I T N O=>by
 have hs:(M.del a).Sub M:=λb o q=>by
   unfold Own.del at q;by_cases hb:b=a;. rw[if_pos hb] at q;cases q
   . rw[if_neg hb] at q;exact q
 have r:Step K M (M.del a) H H:=#[B2 hs]
 obtain⟨v,p,u⟩:=R.slot i _ e;obtain⟨S,q1,q2⟩:=R.own a _ m;have k:Rel K (M.del a) ρ n H:=R.step (R.own.sub hs) r;have R2:=k.set (x:=.d (.dict kvs)) (v:=v) (by
   unfold SI DV;refine#[a,S,u,(λw=>w (by unfold Own.del;rw[if_pos rfl])),.inl q1,q2.grow (B2 hs)]) i;have y:n.set i (al v)=n:=by
   apply b5Z;intro j;rw[List.getElem?_set];by_cases z:i=j
   . subst z;rw[if_pos rfl,p];split;. rfl
     . rename_i B;rw[a2X (by lia)] at p;cases p
   . rw[if_neg z]
 rw[y] at R2;exact h n H E R2 (λa b c d e f g=>I a b c d e (r.trans f) g) (λa b c d e f g q=>T a b c d e f (r.trans g) q) (λa b c d e f g=>N a b c d e (r.trans f) g) (λa b c d e f g=>O a b c d e (r.trans f) g)
end
end DL
namespace L2
open PySem PySem.Spec PyProof.Rows
def Ite (K:Frg) (l:Addr):It:=#[λi H=>∃t,SqL K H l t/\i < t.length,
  λi H x H'=>∃p a,H p=am/\x = .ref p/\H'=upd H p (.tup [.int (i:Nat),a])/\∀t,SqL K H l t->t[i]?=al a,
  λi H=>∃t,SqL K H l t/\t.length<=i]
theorem iZ {P:bq}{w:bo}{K:Frg}{eo:List ca}{kk:Nat}{cw:fb}(e it l:Addr) (d1:e≠it) :
   Turn P w K (.Tuple eo kk cw) (Ite K l) [e,it] e (λi h=>(∃old,IsEnum h e it (i:Nat) old)/\h.IsListIter it l i) where
 mem:=by simp
 obj:=by
   rintro i h ⟨⟨old,a1⟩,a2⟩ b hb;simp only[yX,xX,or_false] at hb;rcases hb with rfl | rfl;. exact⟨_,a1,λv q=>by cases q⟩
   . obtain⟨o,q,c,d⟩:=a2;exact⟨o,q,λv z=>by rw[d] at z;cases z⟩
 keep:=by rintro i h h' ⟨⟨old,a1⟩,a2⟩ k;exact#[#[old,k e (by simp) _ a1],a2.at λo q=>k it (by simp) o q]
 item:=by
   intro X hP hw hK hc i pins s σ H E I hf #[#[old,a1],a2] hg;subst hP hw hK;obtain⟨xs,hx,lx⟩:=hg;obtain⟨aa,rx,px,_⟩:=I.list hx;obtain⟨u,hu,ru⟩:=rx.get (zV lx);have hle:l≠e:=vO I (hf e (by simp)) hx;have Bo:l≠it:=vO I (hf it (by simp)) hx;refine wpAny_pyNext_enum_item a1 a2 px.isList (x:=u) (by simpa using hu) d1 λh' b1 b2 b3 b4 hk=>?_;refine#[_,rfl,wpAny_letOwnedTupleGo_enum (s:={ s with heap:=h',toks:=s.toks+1 }) b1 λh2 c1 sb=>?_];have lt:∀{c o},s.heap.get? c=al o->s.heap.objs.size≠c:=λq=>a8K (zM q);have keep:∀b o,b∉[e,it]->s.heap.get? b=al o->h2.get? b=al o:=λb o hb q=>by simp only[yX,xX,or_false,not_or] at hb;exact sb.extBut b o hb.1 (hk b o hb.1 hb.2 q)
   have Bp:s.heap.objs.size≠e:=lt a1;have I1:Inv X pins σ (upd H s.heap.objs.size (.tup [.int (i:Nat),xs[i]])) { s with heap:=h2,toks:=s.toks+1 }:=I.turnedT (t':=s.toks+1) (ch:=[e,it]) keep (λb hb=>(hf b hb).1) (λb hb=>let q:=hf b hb;#[q.2.2.2.1,q.2.1,q.2.2.2.2.1,q.2.2.2.2.2]) (zR _) #[by show 2<=bd;decide,[.int (i:Nat) s.toks,u],.cons #[_,rfl] (.cons ru .nil),#[_,sb.extBut _ _ Bp b3,rfl,_,rfl]];refine#[.ref s.heap.objs.size,_,I1,rfl,#[s.heap.objs.size,xs[i],I.hok.fresh (zR _),rfl,rfl,λKc jw=>?_],#[#[_,c1],b2.extBut sb.extBut (a8Q d1)],λb hb=>?_];. rw[I.list_inj jw hx];exact zV lx
   . have be:s.heap.objs.size≠b:=by
       simp only[yX,xX,or_false] at hb;rcases hb with rfl | rfl;. exact lt a1
       . obtain⟨o,q,_⟩:=a2;exact lt q
     rw[AH (a8Q be)];exact(hf b hb).1
 done:=by
   intro X hP hw hK hc i pins s σ H E I hf #[#[old,a1],a2] hg;subst hP hw hK;obtain⟨xs,hx,Bq⟩:=hg;obtain⟨aa,rx,px,_⟩:=I.list hx;have e1:=rx.length;refine wpAny_pyNext_enum_end (I.ok.hd hc) a1 a2 px.isList (by rw[b4V];simp;lia) λh' hk=>#[rfl,I.turnedL (t':=s.toks) (ch:=[e,it]) (λb o hb q=>?_) (λb hb=>(hf b hb).1) λb hb=>let q:=hf b hb;#[q.2.2.2.1,q.2.1,q.2.2.2.2.1,q.2.2.2.2.2]]
   simp only[yX,xX,or_false,not_or] at hb;exact hk b o hb.2 q
 self:=λ_ _ _ _ _ st h=>let #[_,q]:=st.1;gz q h
section
variable {X:Cx}{K:Frg}
def nK (K:Frg) (k:TA):TI:=λo H R=>k o H λn e=>∃a,n=[.ref a]/\(∃t,SqL K e a t)/\R (Ite K a) e
theorem tL (hg:Gl X "enumerate") (j:X.mg "enumerate"=am) (N:PA X [a] k) (hs:starEach [a] X.env=[(bj,eval a X.env)]:=by rfl) :
   PI X (.Tuple m Y r) (.Call (.Name "enumerate" p) [a] [] pos) (nK X.K k):=by
 intro pins s v H R I h;refine Call_ (FI I hg j boot_enumerate (xH (thn (N pos pins s v H _ I h) λT t i=>?_) hs rfl));obtain⟨O,n,D,f,q1⟩:=i;obtain⟨l,e,⟨S,hx⟩,q⟩:=q1;subst e;obtain⟨u,rfl,g⟩:=EW f;cases g;obtain⟨x,z,c,_⟩:=D.list hx;refine call_enumerate_list c.isList λh' b1 o y hk=>?_;refine gz (s:={ t with heap:=h' }) b1 ?_;refine#[t.heap.objs.size+1,[t.heap.objs.size+1,t.heap.objs.size],_,_,n,rfl,D.kept (t':=t.toks) hk,iZ (t.heap.objs.size+1) t.heap.objs.size l (Nat.succ_ne_self _),#[#[_,b1],o],λb hb=>?_,q];have hle:t.heap.objs.size<=b:=by
   simp only[yX,xX,or_false] at hb;rcases hb with rfl | rfl;. exact a8X _ _
   . exact zR _
 exact D.fpOk hle (D.hok.fresh hle)
theorem A2B {a:ca}{k:TA}{p pos:fb}{e:List ca}{Y:Nat}{o:fb}(h:X.K=K) (hg:Gl X "enumerate") (j:X.mg "enumerate"=am) (N:PA X [a] k) (hs:starEach [a] X.env=[(bj,eval a X.env)]:=by rfl) :
   PI X (.Tuple e Y o) (.Call (.Name "enumerate" p) [a] [] pos) (nK K k):=h▸tL hg j N hs
end
end L2
namespace DL
open PySem PySem.Spec L2
section
def FP (as:List PyData):List PyData:=as.zipIdx.map λp=>.tuple [.int (p.2:Nat),p.1]
theorem tM (h:DA K c ρ M λxs M1=>∃as,xs=[.d (.list as)]/\QI (FP as) M1):DI K (nK K c) ρ M QI:=λL H R S k=>
 h L H _ S λU f xs M1 O I B N=>by
   obtain⟨as,e,q⟩:=N;subst e;obtain⟨v,r,rfl,h1,G⟩:=I;cases G;unfold SI DV at h1;obtain⟨a,o,rfl,m,hd⟩:=h1;have b:(FP as).length=as.length:=by unfold FP;rw[zX,b9K]
   refine#[a,rfl,#[o,m.sq],k _ (FP as) f M1 O B #[λi H' n hi u t=>?_,λH' n u t=>?_,λi H' n x Q u t hi y=>?_] q];. rw[b] at hi;exact#[o,(m.grow t.grow).sq,by rw[hd.length];lia]
   . refine#[o,(m.grow t.grow).sq,?_];rw[b,hd.length];lia
   . obtain⟨p,J,hp,rfl,rfl,hy⟩:=y;have j:=hy o (m.grow t.grow).sq;obtain⟨g,z,T⟩:=hd.get j;have D:Grow K n.W n.W H' (upd H' p (.tup [.int (i:Nat),J])):=AZ _ hp;refine#[u.new hp,#[D],.tuple [.int (i:Nat),g],?_,?_];. unfold FP;rw[zF,List.getElem?_zipIdx,z];simp
     . unfold DV;exact#[p,_,rfl,.inl #[λw=>w (u.none hp),.inl AD],DVs.cons (by unfold DV;rfl) (DVs.cons ((T.grow t.grow).grow D) DVs.nil)]
end
end DL
namespace L2
open PySem PySem.Spec PyProof.Rows
section
def j0 (K:Frg) (neg:Bool):R2:=λx y H Q=>∃(W:Addr->Prop) (d:PyData) (ds:List PyData),DV K H W d x/\zH d=ap/\((DV K H W (.list ds) y/\zH (.list ds)=ap)\/(DV K H W (.tuple ds) y/\zH (.tuple ds)=ap)) /\
 Q (.bl (if neg then !(ds.any λe=>a0Z e d) else ds.any λe=>a0Z e d)) H
theorem WG {A:cx}{d:PyData}(hu:A.units+64 < ev) (h:a6V ds+1<=64):A.units+1+min (a6V ds) d.depth < cLine:=by have:=Nat.min_le_left (a6V ds) d.depth;omega
theorem A0n (hu:X.A.units+64 < ev):OpR X (bx .In) (j0 X.K bj):=by
 intro pins s m H x y v u Q I i r h;obtain⟨W,d,ds,h1,t,⟨a,e⟩ | ⟨a,e⟩,q⟩:=h;all_goals
   obtain⟨as,n⟩:=h1.reads I (zG t) i;obtain⟨bs,o⟩:=a.reads I (zG e) r;have N:=PySem.SeqAt.depth_of_shaped e
 . exact PySem.SeqAt.in_list_reads o n (zG e) (zG t) (WG hu N) #[.bl _,H,I,rfl,q]
 . exact PySem.SeqAt.in_tuple_reads o n (zG e) (zG t) (WG hu N) #[.bl _,H,I,rfl,q]
theorem j1 (hu:X.A.units+64 < ev):OpR X (bx .NotIn) (j0 X.K ap):=by
 intro pins s m H x y v u Q I i r h;obtain⟨W,d,ds,h1,t,⟨a,e⟩ | ⟨a,e⟩,q⟩:=h;all_goals
   obtain⟨as,n⟩:=h1.reads I (zG t) i;obtain⟨bs,o⟩:=a.reads I (zG e) r;have N:=PySem.SeqAt.depth_of_shaped e
 . exact PySem.SeqAt.notIn_list_reads o n (zG e) (zG t) (WG hu N) #[.bl _,H,I,rfl,q]
 . exact PySem.SeqAt.notIn_tuple_reads o n (zG e) (zG t) (WG hu N) #[.bl _,H,I,rfl,q]
end
end L2
namespace DL
open PySem PySem.Spec L2
section
variable {X:Cx}{K:Frg}
theorem cH (h:X.K=K) (hu:X.A.units+64 < ev):OpR X (bx .In) (j0 K bj):=h▸A0n hu
theorem fI (h:X.K=K) (hu:X.A.units+64 < ev):OpR X (bx .NotIn) (j0 K ap):=h▸j1 hu
end
section
theorem nL (ho:HW g T) (hT:∀i∈T,∀j,f[i]?≠al (al j)) (h:DI K wi ρ M λds M1=>ds.length < bd/\∀D,M1 D=am->∃P:Nat->List PyData->Own->Prop,P 0 [] (M1.put D (.l []))/\(∀k acc t,P k acc t->t D=al (.l acc)/\acc.length<=k) /\(∀k d acc t,ds[k]?=al d->P k acc t->DG K g d (CA f ρ) t λI M2=>DT K tt I M2 λc L=>if c=ap then DE K te I L λy M4=>∃r,y = .d r/\M4 D=al (.l acc)/\P (k+1) (acc++[r]) (M4.put D (.l (acc++[r]))) else P (k+1) acc L) /\∀acc t,P ds.length acc t->Q (.loc D) t) :
   DE K (L1 f wi g tt te) ρ M Q:=λσ H QQ R k=>
 h σ H _ R λJ ds H1 M1 U t1 wd cu=>by
   obtain⟨hsz,hq⟩:=cu;intro A hA;obtain⟨P,p0,Y,pt,pe⟩:=hq A (U.none hA);obtain⟨oA,sA⟩:=K6 U hA (DVs.nil (K:=K) (H:=H1) (W:=M1.W));refine#[λi m ys n=>m=ds.length - i/\i<=ds.length/\n A=al (.lst ys)/\∃acc t,OA K n t/\Step K M1 t H1 n/\P i acc t,#[_,rfl,xT _,AD,[],_,oA,sA,p0],?_];rintro i m ys n ⟨rfl,hi,om,acc,t,O,u,p⟩;refine#[om,?_];have jx:∀{N:Own},(N.del A).Sub N:=λ{N} b o q=>by
     unfold Own.del at q;by_cases hb:b=A;. rw[if_pos hb] at q;cases q
     . rw[if_neg hb] at q;exact q
   by_cases B:i < ds.length
   . refine .inr #[wd.go i n t B O u,λx Z y=>?_];obtain⟨qo,ee,d,e1,e2⟩:=wd.yld i n t x Z O u B y;have Rc:Rel K t (CA f ρ) (L2.capt f σ) Z:=((R.step U t1).step qo (u.trans ee)).capt;refine ho _ _ _ _ (pt i d acc t e1 p (L2.capt f σ) Z x _ Rc e2 λρ3 L S H4 R3 j_ b3 hext=>#[λi' v' gn=>?_,?_]);. obtain⟨j,f1,f2⟩:=D3 gn;rw[hext i' λa=>hT i' a j f1];exact gn
     . refine b3 S H4 _ R3 λc H5 M5 X eh v=>?_;have sx:=((u.trans ee).trans j_).trans eh;cases c with
       | false=> rw[if_neg nft] at v ⊢;obtain⟨a,_⟩:=Y _ _ _ v;obtain⟨G,q1,q2⟩:=X A _ a;exact#[G,ds.length - (i+1),by omega,rfl,B,q1,acc,M5,X,sx,v]
       | true=> rw[if_pos rfl] at v ⊢;refine v S H5 _ (R3.step X eh) λy H6 z M6 o6 s6 il h6=>?_;obtain⟨r,rfl,a,p'⟩:=h6;obtain⟨G,q1,q2⟩:=o6 A _ a;obtain⟨w1,w2⟩:=DY o6 a (q2.append (DVs.cons s6 DVs.nil));have ac:acc.length<=i:=(Y _ _ _ p).2;exact#[G,q1,by rw[q2.length];omega,ds.length - (i+1),by omega,rfl,B,AD,_,_,w1,(sx.trans il).trans w2,p']
   . have e:i=ds.length:=by omega
     subst e;refine .inl #[wd.stop n t O u,?_];obtain⟨a,_⟩:=Y _ _ _ p;obtain⟨G,q1,q2⟩:=O A _ a;exact k _ n (.loc A) t O rfl (t1.trans u) (pe acc t p)
end
end DL
namespace DL
open PySem PySem.Spec L2
def FQ:List Str->List Str->List Deed->Prop
 | _,_,[]=>True
 | so,e,D::r=>BD so D=am/\(∀n,D.made=al n->e.head?=al n)/\D.real/\FQ (BE so D) (CK e D) r
def OZ:List Str->List Str->List Deed->List Str×List Str
 | so,e,[]=>(so,e)
 | so,e,D::r=>OZ (BE so D) (CK e D) r
theorem LX:∀{Ds:List Deed}{so sp L o:List Str}{D:Deed},FQ so sp Ds->OZ so sp Ds=(L,o)->BD L D=am->(∀n,D.made=al n->o.head?=al n)->D.real->FQ so sp (Ds++[D])/\OZ so sp (Ds++[D])=(BE L D,CK o D)
 | [],so,sp,L,o,D,_,e,h1,a,G=>by cases e;exact#[#[h1,a,G,trivial],rfl]
 | F::r,so,sp,L,o,D,h,e,h1,a,G=>by obtain⟨q,t⟩:=LX (Ds:=r) h.2.2.2 e h1 a G;exact#[#[h.1,h.2.1,h.2.2.1,q],t]
def Deed.must (D:Deed):List Str:=D.names.filter λn=>decide (¬D.made=al n)
theorem tN (D:Deed):YU D.d=D.must:=by
 unfold YU Deed.must;rw[GW];apply b5X;intro n _;rw[PK];cases h:D.made with
 | none=>rfl
 | some x=>
   show(!a0Z (.str n) (.str x))=decide (¬al x=al n);rw[B7];by_cases e:n=x;. subst e;simp
   . have:¬x=n:=λq=>e q.symm;simp[e,this]
def mkN (Ds:List Deed) (j:Nat):Option Str:=(Ds[j]?).bind Deed.made
def CP (Ds:List Deed) (k:Nat):List Str:=match Ds[k]? with | some D=>D.must | none=>[]
structure FreshD (Ds:List Deed):Prop where
 one:∀i j x,mkN Ds i=al x->mkN Ds j=al x->i=j
 bef:∀j k x,mkN Ds j=al x->x∈CP Ds k->j < k
theorem KD (sp:List Str) (D:Deed):(CK sp D).Sublist sp:=by
 unfold CK;split;. exact List.drop_sublist _ _
 . exact a4J _
theorem OD:∀(Ds:List Deed) (so sp:List Str),FQ so sp Ds->(so++sp).Nodup->(∀j x,mkN Ds j=al x->x∈sp)/\FreshD Ds
 | [],so,sp,_,_=>#[λj x h=>by simp[mkN] at h,λi j x h=>by simp[mkN] at h,λj k x h=>by simp[mkN] at h]
 | D::r,so,sp,h,nd=>by
   obtain⟨h1,t,_,G⟩:=h;have p:(BE so D++CK sp D).Nodup:=nd.sublist (GY t);obtain⟨T,N⟩:=OD r _ _ G p;have sub:=(KD sp D).subset;have q:∀x,mkN (D::r) 0=al x->D.made=al x:=λx h=>h;have n:∀x,D.made=al x->x∈sp:=λx e=>List.mem_of_mem_head? (t x e);have all:∀j x,mkN (D::r) j=al x->x∈sp:=λj x e=>by
     cases j with
     | zero=>exact n x e
     | succ j=>exact sub (T j x e)
   have g:∀x,x∈so->x∈sp->False:=λx a b=>(List.nodup_append.mp nd).2.2 x a x b rfl;refine#[all,λi j x c f=>?_,λj k x c f=>?_]
   . have two:∀j,D.made=al x->mkN r j=al x->False:=λj a b=>by
       have q1:=T j x b;have q2:=t x a;unfold CK at q1;rw[a] at q1;dsimp only at q1;have O:sp.Nodup:=(List.nodup_append.mp nd).2.1;cases sp with
       | nil=>simp at q2
       | cons y u=>
         have:y=x:=by simpa using q2
         subst this;exact(xV.mp O).1 (by simpa using q1)
     cases i with
     | zero=>
       cases j with
       | zero=>rfl
       | succ j=>exact(two j c f).elim
     | succ i=>
       cases j with
       | zero=>exact(two i f c).elim
       | succ j=>rw[N.one i j x c f]
   . cases k with
     | zero=> have m:x∈D.must:=f;obtain⟨a,b⟩:=yL.mp m;have o:¬D.made=al x:=of_decide_eq_true b;exact(g x (J9 h1 a o) (all j x c)).elim
     | succ k=>
       cases j with
       | zero=>exact Nat.succ_pos _
       | succ j=>exact Nat.succ_lt_succ (N.bef j k x c f)
theorem PM:∀{l1 l2:List Int},l1.Pairwise (· < ·)->l2.Pairwise (· < ·)->(∀a,a∈l1↔a∈l2)->l1=l2
 | [],[],_,_,_=>rfl
 | [],b::r,_,_,h=>absurd ((h b).mpr (by simp)) (by simp)
 | a::r,[],_,_,h=>absurd ((h a).mp (by simp)) (by simp)
 | a::r,b::s,h1,t,h=>by
   rw[a4Z] at h1 t;have e:a=b:=by
     rcases yX.mp ((h a).mp (by simp)) with q | q;. exact q
     . rcases yX.mp ((h b).mpr (by simp)) with q2 | q2;. exact q2.symm
       . have:=h1.1 b q2;have:=t.1 a q;omega
   subst e;rw[PM h1.2 t.2 λx=>?_];constructor
   . intro hx;rcases yX.mp ((h x).mp (yV _ hx)) with q | q;. have:=h1.1 x hx;omega
     . exact q
   . intro hx;rcases yX.mp ((h x).mpr (yV _ hx)) with q | q;. have:=t.1 x hx;omega
     . exact q
theorem cI {l:List Int}(h:l.Pairwise (·<=·)) (nd:l.Nodup):l.Pairwise (· < ·):=by have:=h.and nd;exact this.imp λ{a b} q=>by obtain⟨q1,q2⟩:=q;omega
def BX (l:List Nat):List Int:=l.map λj:Nat=>(j:Int)
theorem JD (h:l.Pairwise (· < ·)):(BX l).Pairwise (· < ·):=by unfold BX;rw[a5J];exact h.imp λ{a b} q=>by omega
theorem CF :x∈BX l↔∃j,j∈l/\x=(j:Int):=by
 unfold BX;rw[zL];constructor;. rintro⟨j,a,b⟩;exact#[j,a,b.symm]
 . rintro⟨j,a,b⟩;exact#[j,a,b.symm]
theorem OE (n:Nat):(a1K n).Pairwise (· < ·):=List.pairwise_lt_range
def LY (Ds:List Deed) (k j:Nat):Bool:=match mkN Ds j with | some x=>decide (x∈CP Ds k) | none=>bj
def BI (Ds:List Deed) (k:Nat):List Nat:=(a1K k).filter λj=>LY Ds k j
theorem nM (Ds:List Deed) (k:Nat):(BI Ds k).Pairwise (· < ·):=(OE k).filter _
theorem tP (h:j∈BI Ds k):j < k:=List.mem_range.mp (yL.mp h).1
def mkL (Ds:List Deed) (o:Nat):List (Str×PyData):=match Ds with
 | []=>[]
 | D::r=>(match D.made with | some x=>[(x,a4V (o:Nat))] | none=>[])++mkL r (o+1)
theorem PN:∀(Ds:List Deed) (o:Nat),(∀i j x,mkN Ds i=al x->mkN Ds j=al x->i=j)->∀x,AO (mkL Ds o) x=am/\(∀j,¬mkN Ds j=al x)\/∃j,mkN Ds j=al x/\AO (mkL Ds o) x=al (.int ((o+j:Nat):Int))
 | [],o,_,x=>.inl #[rfl,λj=>by simp[mkN]]
 | D::r,o,h,x=>by
   have U:=PN r (o+1) (λi j y a b=>Nat.succ.inj (h (i+1) (j+1) y a b)) x;cases t:D.made with
   | none=>
     have e:mkL (D::r) o=mkL r (o+1):=by rw[mkL,t];rfl
     rw[e];rcases U with ⟨a,b⟩ | ⟨j,a,b⟩
     . refine .inl #[a,λj q=>?_];cases j with
       | zero=>have:D.made=al x:=q;rw[t] at this;cases this
       | succ j=>exact b j q
     . exact .inr #[j+1,a,by rw[b];congr 2;omega]
   | some y=>
     have e:mkL (D::r) o=(y,a4V (o:Nat))::mkL r (o+1):=by rw[mkL,t];rfl
     rw[e];by_cases q:y=x;. subst q;exact .inr #[0,t,by simp[AO]]
     . rcases U with ⟨a,b⟩ | ⟨j,a,b⟩
       . refine .inl #[by simp[AO,q,a],λj p=>?_];cases j with
         | zero=>have:D.made=al x:=p;rw[t] at this;exact q (Option.some.inj this)
         | succ j=>exact b j p
       . exact .inr #[j+1,a,by simp only[AO];rw[if_neg q,b];congr 2;omega]
theorem Z7:∀(Ds:List Deed) (o:Nat) (x:Str),x∈(mkL Ds o).map (·.1)->∃j,mkN Ds j=al x
 | [],o,x,h=>by simp[mkL] at h
 | D::r,o,x,h=>by
   rw[mkL,xI] at h;rcases yW.mp h with h | h
   . cases t:D.made with
     | none=>rw[t] at h;simp at h
     | some y=>
       rw[t] at h;have:x=y:=by simpa using h
       subst this;exact#[0,t]
   . obtain⟨j,e⟩:=Z7 r (o+1) x h;exact#[j+1,e]
theorem UN:∀(Ds:List Deed) (o:Nat),(∀i j x,mkN Ds i=al x->mkN Ds j=al x->i=j)->((mkL Ds o).map (·.1)).Nodup
 | [],o,_=>by simp[mkL]
 | D::r,o,h=>by
   have U:=UN r (o+1) λi j y a b=>Nat.succ.inj (h (i+1) (j+1) y a b);cases t:D.made with
   | none=>rw[mkL,t];exact U
   | some y=> rw[mkL,t];show(y::(mkL r (o+1)).map (·.1)).Nodup;rw[xV];refine#[λhy=>?_,U];obtain⟨j,e⟩:=Z7 r (o+1) y hy;have:=h 0 (j+1) y t e;omega
theorem nN (B:FreshD Ds) (hD:Ds[k]?=al D) (nd:D.must.Nodup) (hL:L=(D.must.filter λn=>(AO (mkL Ds 0) n).isSome).map λn=>match AO (mkL Ds 0) n with | some (.int i)=>i | _=>0) (hp:ss.Perm L) (hs:ss.Pairwise (·<=·)):ss=BX (BI Ds k):=by
 have val:∀n j,mkN Ds j=al n->AO (mkL Ds 0) n=al (.int (j:Int)):=λn j e=>by
   rcases PN Ds 0 B.one n with ⟨_,b⟩ | ⟨i,a,b⟩
   . exact absurd e (b j)
   . rw[B.one j i n e a,b,Nat.zero_add]
 have r:∀n,(AO (mkL Ds 0) n).isSome=ap->∃j,mkN Ds j=al n:=λn e=>by
   rcases PN Ds 0 B.one n with ⟨a,_⟩ | ⟨i,a,_⟩
   . rw[a] at e;cases e
   . exact#[i,a]
 have m:CP Ds k=D.must:=by unfold CP;rw[hD]
 have c:∀x,x∈L↔∃j,j∈BI Ds k/\x=(j:Int):=λx=>by
   rw[hL,zL];constructor;. rintro⟨n,hn,rfl⟩;obtain⟨h1,t⟩:=yL.mp hn;obtain⟨j,e⟩:=r n t;refine#[j,?_,by rw[val n j e]];unfold BI;refine yL.mpr #[List.mem_range.mpr (B.bef j k n e (by rw[m];exact h1)),?_];unfold LY;rw[e,m];exact decide_eq_true h1
   . rintro⟨j,M,rfl⟩;obtain⟨_,t⟩:=yL.mp M;unfold LY at t;cases e:mkN Ds j with
     | none=>rw[e] at t;cases t
     | some n=> rw[e,m] at t;refine#[n,yL.mpr #[of_decide_eq_true t,by rw[val n j e];rfl],by rw[val n j e]]
 have f:L.Nodup:=by
   rw[hL];have inj:∀a∈D.must.filter (λn=>(AO (mkL Ds 0) n).isSome),∀b∈D.must.filter (λn=>(AO (mkL Ds 0) n).isSome),(match AO (mkL Ds 0) a with | some (.int i)=>i | _=>0)=(match AO (mkL Ds 0) b with | some (.int i)=>i | _=>0)->a=b:=λa N b hb e=>by
     obtain⟨i,p⟩:=r a (yL.mp N).2;obtain⟨j,o⟩:=r b (yL.mp hb).2;rw[val a i p,val b j o] at e;have:(i:Int)=(j:Int):=e;have:i=j:=by omega
     subst this;rw[p] at o;exact Option.some.inj o
   unfold List.Nodup;rw[a5J];exact((nd.sublist a5K).imp_of_mem λ{a b} N hb q e=>q (inj a N b hb e))
 refine PM (cI hs (hp.nodup_iff.mpr f)) (JD (nM Ds k)) λx=>?_;rw[hp.mem_iff,c,CF]
end DL
namespace DL
open PySem PySem.Spec L2
abbrev EL:=List (Nat×List Nat)
def tQ (E:EL) (m:Nat) (c:List Nat):EL:=if (E.any λt=>decide (t.1=m))=ap then E.map (λt=>if t.1=m then (t.1,c) else t) else E++[(m,c)]
def chD (c:List Nat):PyData:=.tuple ((BX c).map .int)
def cvE (E:EL):List (Int×PyData):=E.map λt=>((t.1:Int),chD t.2)
theorem nO (m:Nat):∀E:EL,((cvE E).any λt=>decide (t.1=(m:Int)))=E.any λt=>decide (t.1=m)
 | []=>rfl
 | t::r=>by show(decide ((t.1:Int)=(m:Int))||_)=(decide (t.1=m)||_);rw[show decide ((t.1:Int)=(m:Int))=decide (t.1=m) by rw[a2Z,decide_eq_true_iff,decide_eq_true_iff];lia];congr 1;exact nO m r
theorem cJ (E:EL) (m:Nat) (c:List Nat):EU (cvE E) (m:Int) (chD c)=cvE (tQ E m c):=by
 unfold EU tQ;rw[nO];by_cases h:(E.any λt=>decide (t.1=m))=ap
 . rw[if_pos h,if_pos h];unfold cvE;rw[zD,zD];apply yM;intro t _;show(if (t.1:Int)=(m:Int) then ((t.1:Int),chD c) else ((t.1:Int),chD t.2))=_;by_cases e:t.1=m;. rw[if_pos (by lia)];show _=(((if t.1=m then (t.1,c) else t).1:Int),chD (if t.1=m then (t.1,c) else t).2);rw[if_pos e]
   . rw[if_neg (by lia)];show _=(((if t.1=m then (t.1,c) else t).1:Int),chD (if t.1=m then (t.1,c) else t).2);rw[if_neg e]
 . rw[if_neg h,if_neg h];unfold cvE;rw[xI];rfl
end DL
namespace DL
open PySem PySem.Spec L2
theorem FF:∀{p e:List (Str×Deed)},p.map CO=e.map CO->p=e
 | [],[],_=>rfl
 | [],_::_,h=>by simp at h
 | _::_,[],h=>by simp at h
 | a::r,b::s,h=>by simp only[zI,List.cons.injEq] at h;obtain⟨h1,t⟩:=h;have h1:PyData.tuple [.str a.1,a.2.d] = .tuple [.str b.1,b.2.d]:=h1;simp only[PyData.tuple.injEq,List.cons.injEq,PyData.str.injEq,and_true] at h1;rw[FF t];exact congrArg (·::s) (Prod.ext h1.1 (CM h1.2))
theorem E6 (h:AM w p=AM t e):p=e:=by unfold AM at h;simp only[PyData.tuple.injEq,List.cons.injEq,and_true] at h;exact FF h.2
abbrev dsL (p:List (Str×Deed)):List Deed:=p.map (·.2)
abbrev AQ (p:List (Str×Deed)):PyData:=.tuple (p.map CO)
structure goodB (w:List Th) (ls:List (Str×Deed)):Prop where
 fresh:FreshD (dsL ls)
 real:∀l∈ls,l.2.real
 few:ls.length<=50
 hands:∀l∈ls,B9 l.1
abbrev AA (ns:List Nat):List PyData:=(BX ns).map .int
def A0o (n:Nat) (d:PyData):Bool:=K8 d 0 ((n:Int) - 1)
theorem nP (h:m < n):A0o n (.int (m:Int))=true:=by show(decide ((0:Int)<=(m:Int))&&decide ((m:Int)<=(n:Int) - 1))=ap;simp only[a1J,decide_eq_true_eq];lia
theorem AJ (ns:List Nat):(AA ns).length=ns.length:=by simp[BX]
theorem JE (h:AA a=AA b):a=b:=by
 induction a generalizing b with
 | nil=>cases b with
   | nil=>rfl
   | cons y s=>have:=congrArg a9V h;rw[AJ,AJ] at this;cases this
 | cons x r U=>cases b with
   | nil=>have:=congrArg a9V h;rw[AJ,AJ] at this;cases this
   | cons y s=> have h:a4V (x:Int)::AA r = .int (y:Int)::AA s:=h;simp only[List.cons.injEq,PyData.int.injEq] at h;rw[U h.2,show x=y by lia]
section
variable {M:Own}{Q:DS->Own->Prop}{w:List Th}{ls:List (Str×Deed)}
def N6:FSp:=#[λt M=>∃(w:List Th) (ls:List (Str×Deed)),t=[.d (AM w ls)]/\goodB w ls,λt M y i=>∀(w:List Th) (ls:List (Str×Deed)),t=[.d (AM w ls)]->∃p,M p=am/\y = .loc p/\i=M.put p (.d (AN (mkL (dsL ls) 0)))]
theorem Z8 (hg:goodB w ls) (q:∀p,M p=am->Q (.loc p) (M.put p (.d (AN (mkL (dsL ls) 0))))):[DS.d (AM w ls)].length=1/\N6.pre [.d (AM w ls)] M/\∀x i,N6.post [.d (AM w ls)] M x i->Q x i:=#[rfl,#[w,ls,rfl,hg],λx i h=>by obtain⟨p,hp,rfl,rfl⟩:=h w ls rfl;exact q p hp]
def EJ:FSp:=#[λt M=>∃(w:List Th) (ls:List (Str×Deed)) (d:PyData),t=[.d (AM w ls),.d d],λt M y i=>∀(w:List Th) (ls:List (Str×Deed)) (d:PyData),t=[.d (AM w ls),.d d]->y = .d (.bool (A0o ls.length d))/\i=M]
theorem RO (q:Q (.d (.bool (A0o ls.length d))) M):[DS.d (AM w ls),.d d].length=2/\EJ.pre [.d (AM w ls),.d d] M/\∀x i,EJ.post [.d (AM w ls),.d d] M x i->Q x i:=#[rfl,#[w,ls,d,rfl],λx i h=>by obtain⟨rfl,rfl⟩:=h w ls d rfl;exact q]
def PP:FSp:=#[λt M=>∃(w:List Th) (ls:List (Str×Deed)) (k:Nat),t=[.d (AM w ls),.d (.int k)]/\goodB w ls/\k < ls.length,λt M y i=>∀(w:List Th) (ls:List (Str×Deed)) (k:Nat),t=[.d (AM w ls),.d (.int k)]->y = .d (chD (BI (dsL ls) k))/\i=M]
theorem cK (hg:goodB w ls) (hk:k < ls.length) (q:Q (.d (chD (BI (dsL ls) k))) M):[DS.d (AM w ls),.d (.int k)].length=2/\PP.pre [.d (AM w ls),.d (.int k)] M/\∀x i,PP.post [.d (AM w ls),.d (.int k)] M x i->Q x i:=#[rfl,#[w,ls,k,rfl,hg,hk],λx i h=>by obtain⟨rfl,rfl⟩:=h w ls k rfl;exact q]
def EK:FSp:=#[λt M=>∃D:Deed,t=[.d D.d]/\D.real,λt M y i=>∀D:Deed,t=[.d D.d]->y = .d (B3 D.must)/\i=M]
theorem j2 {D:Deed}(hr:D.real) (q:Q (.d (B3 D.must)) M):[DS.d D.d].length=1/\EK.pre [.d D.d] M/\∀x i,EK.post [.d D.d] M x i->Q x i:=#[rfl,#[D,rfl,hr],λx i h=>by obtain⟨rfl,rfl⟩:=h D rfl;exact q]
theorem goodB.any (h:goodB w ls):goodB e ls:=#[h.fresh,h.real,h.few,h.hands]
end
def fEn:PyData->Str | .tuple [_,.str x]=>x | _=>a0Q ""
def wEn:PyData->PyData | .tuple [i,_]=>i | _=>.none
def cEn:PyData->Bool | .tuple [_,.none]=>bj | _=>ap
theorem fJ:∀(Ds:List Deed) (o:Nat),((((Ds.map λD=>GX D.d).zipIdx o).map λp=>PyData.tuple [.int (p.2:Nat),p.1]).filter cEn).map (λd=>(fEn d,wEn d))=mkL Ds o
 | [],o=>rfl
 | D::r,o=>by
   have U:=fJ r (o+1);rw[zI,c2K,zI,a2K];rw[PK];cases h:D.made with
   | none=> rw[mkL,h];show(if cEn (.tuple [.int (o:Nat),.none])=ap then _ else _:List PyData).map _=_;rw[show cEn (.tuple [.int (o:Nat),.none])=bj from rfl,if_neg nft];exact U
   | some x=> rw[mkL,h];show(if cEn (.tuple [.int (o:Nat),.str x])=ap then _ else _:List PyData).map _=_;rw[show cEn (.tuple [.int (o:Nat),.str x])=ap from rfl,if_pos rfl,zI,U];rfl
theorem cL {D:Deed}(h:D.real):D.must.Nodup:=by unfold Deed.must;refine List.Nodup.sublist a5K ?_;have N:=h.2.1;cases D <;> first | (simp[Deed.names];done) | (simp only[Deed.names,xV,a8J,xX,not_false_eq_true,List.nodup_nil,and_true];exact N)
end DL
namespace DL
open PySem PySem.Spec L2
theorem KF (n:zH d=ap) (o:zH (.tuple ds)=ap) (q:Q (.d (.bool (if neg then !(ds.any λe=>a0Z e d) else ds.any λe=>a0Z e d))) M):D2 K (j0 K neg) (.d d) (.d (.tuple ds)) M Q:=λH v u QQ t h1 a k=>
 #[M.W,d,ds,h1,n,.inr #[a,o],k _ H _ M t AF Step.refl q]
theorem D4 (ns:List Nat):zH (.list (AA ns))=true:=by
 refine FD (bK λd hd=>?_) ?_;. obtain⟨y,h1,rfl⟩:=zL.mp hd;rfl
 . have:a6V (AA ns)<=0:=bL λd hd=>by obtain⟨y,h1,rfl⟩:=zL.mp hd;simp[b2V]
   simp only[b2V];lia
theorem CH (ns:List Nat):zH (.tuple (AA ns))=true:=by
 refine FD (bK λd hd=>?_) ?_;. obtain⟨y,h1,rfl⟩:=zL.mp hd;rfl
 . have:a6V (AA ns)<=0:=bL λd hd=>by obtain⟨y,h1,rfl⟩:=zL.mp hd;simp[b2V]
   simp only[b2V];lia
theorem WH (a b:Int):a0Z (.int a) (.int b)=decide (a=b):=by
 have:a0Z (.int a) (.int b)=(a==b):=by simp[a0Z]
 rw[this];rfl
theorem CQ (ns:List Nat) (m:Nat):((AA ns).any λe=>a0Z e (.int (m:Int)))=decide (m∈ns):=by
 rw[a2Z,b6W,decide_eq_true_iff];constructor;. rintro⟨d,hd,he⟩;obtain⟨i,hi,rfl⟩:=zL.mp hd;obtain⟨j,M,rfl⟩:=CF.mp hi;rw[WH] at he;have:(j:Int)=(m:Int):=of_decide_eq_true he;rw[show m=j by lia];exact M
 . intro h;exact#[.int (m:Int),zL.mpr #[_,CF.mpr #[m,h,rfl],rfl],by rw[WH];simp]
theorem LZ:∀{Ds:List Deed}{so sp:List Str},FQ so sp Ds->∀D∈Ds,D.real
 | D::r,so,sp,h,E,hE=>by
   rcases yX.mp hE with rfl | q;. exact h.2.2.1
   . exact LZ h.2.2.2 E q
def cMk (Ds:List Deed):PyData->Bool | .str n=>(AO (mkL Ds 0) n).isSome | _=>bj
def fMk (Ds:List Deed):PyData->PyData | .str n=>(AO (mkL Ds 0) n).getD .none | _=>.none
def A0p (Ds:List Deed) (n:Str):Int:=match AO (mkL Ds 0) n with | some (.int i)=>i | _=>0
theorem j3 (B:FreshD Ds) (ms:List Str):((ms.map a0W).filter (cMk Ds)).map (fMk Ds)=((ms.filter λn=>(AO (mkL Ds 0) n).isSome).map (A0p Ds)).map .int:=by
 rw[xU,zD,zD];apply yM;intro n hn;have e:(AO (mkL Ds 0) n).isSome=true:=(yL.mp hn).2;show(AO (mkL Ds 0) n).getD .none = .int (A0p Ds n);unfold A0p;rcases PN Ds 0 B.one n with ⟨a,_⟩ | ⟨j,_,b⟩
 . rw[a] at e;cases e
 . rw[b];rfl
theorem GF (hk:k < p.length):∃l,p[k]?=al l/\l∈p/\(p.map CO)[k]?=al (.tuple [.str l.1,l.2.d])/\(dsL p)[k]?=al l.2:=#[p[k],zV hk,a7K hk,by rw[zF,zV hk];rfl,by rw[zF,zV hk];rfl]
end DL
namespace DL
open PySem PySem.Spec L2
theorem RP (m:M a=al (.l ds)) (i:zH d=ap) (r:zH (.list ds)=ap) (q:Q (.d (.bool (if neg then !(ds.any λe=>a0Z e d) else ds.any λe=>a0Z e d))) M):D2 K (j0 K neg) (.d d) (.loc a) M Q:=λH v u QQ n h1 t k=>by
 have hs:(M.del a).Sub M:=λb o q=>by
   unfold Own.del at q;by_cases hb:b=a;. rw[if_pos hb] at q;cases q
   . rw[if_neg hb] at q;exact q
 obtain⟨p,q1,q2⟩:=n a _ m;unfold SI at t;subst t;have Y:DV K H (M.del a).W d v:=DV.grow (B2 hs) h1;refine#[(M.del a).W,d,ds,Y,i,.inl #[?_,r],k _ H _ M n AF Step.refl q];unfold DV;exact#[a,p,rfl,.inl #[λw=>w (by unfold Own.del;rw[if_pos rfl]),.inl q1],q2.grow (B2 hs)]
theorem KG (l:List Nat) (k:Nat):AA l++[.int (k:Int)]=AA (l++[k]):=by unfold AA BX;rw[xI,xI];rfl
theorem WI (h:(C7 0 ((n:Nat):Int).toNat)[k]?=al d):k < n/\d = .int (k:Int):=by
 have m:k < n:=by have:=(yT.mp h).1;simpa [C7] using this
 refine#[m,?_];unfold C7 at h;rw[zF,yA (by lia)] at h;simp at h;exact h.symm
theorem Z9 (n:Nat):(C7 0 ((n:Nat):Int).toNat).length=n:=by simp[C7]
theorem OF (ds:List PyData):(ds.map λ_=>c0W ap)=(a3J ds.length ap).map .bool:=by rw[List.map_replicate,<-List.map_const' ]
theorem RQ (n:Nat):(a3J n ap).all id=true:=by rw[a6J];intro x hx;rw[b4Q hx];rfl
theorem fK {i a:Nat}(h:c[i]?=al a):(AA c)[i]?=al (.int (a:Int)):=by unfold AA BX;rw[zF,zF,h];rfl
def A2C:PyData->PyData | .tuple ds=>ds.getLast?.getD .none | _=>.none
theorem tR {m:Nat}(h:c.getLast?=al m):atI (AA c) (-1)=al (.int (m:Int))/\A2C (chD c) = .int (m:Int):=by
 have j:0 < c.length:=by
   cases c with
   | nil=>cases h
   | cons a r=>simp
 have e:(AA c).getLast?=al (.int (m:Int)):=by unfold AA BX;rw[c0V,c0V,h];rfl
 refine#[nD (n:=c.length - 1) (by rw[AJ];lia) ?_,?_];. rw[List.getLast?_eq_getElem?,AJ] at e;exact e
 . show((AA c).getLast?).getD .none=_;rw[e];rfl
end DL
namespace L2
open PySem PySem.Spec PyProof.Rows
open AutoSeq1 (wpAny_loadPart')
section
variable {prog:bq}{w:bo}{A:cx}{E:ar->ba->Prop}{s:ba}
theorem fL (e:A.handled=am) (hx:items[i]?=am):NxE prog w A it (λh=>h.IsTupleIter it l i/\h.IsTuple l items):=λs Q E hS hE=>by
 obtain⟨hit,t⟩:=hS;obtain⟨o,T,hc,hd⟩:=id hit;obtain⟨f,r,_,g,n⟩:=id t;unfold a0K;refine zZ (wpAny_callSpecial?_slot (name:=a0Q "__next__") hit.typeIs a5Z (cr a5Z hit.typeIs b9X ?_ (b8J _)));show wpAny _ _ (gv (.ref it) 0 >>= _) _ _ s;refine zZ (bn T hd (x:=.ref l) rfl ?_);show wpAny _ _ (if (a0X l==a3X)=ap then _ else _) _ _ s;rw[if_neg (show ¬((a0X l==a3X)=ap) from nft)];show wpAny _ _ (gv (.ref it) 1 >>= _) _ _ s;refine zZ (bn T hd (x:=.int i 0) rfl ?_);show wpAny _ _ (seqItems? (.ref l) >>= _) _ _ s;refine zZ (c4 r n ?_);simp only[a3K,hx];refine zZ (dV (zZ (fc T hd (by simp) ?_)));show wpAny _ _ (newExc (.type "StopIteration") [] >>= _) _ _ _;refine zZ ?_;simp only[newExc,newTuple];refine zZ (xM ?_ (by size_fits));refine zZ (m:=fl _ _) (ej (a:=a3X) (by first | rfl | (simp only[fl];rfl)) ?_);refine xM ?_ (by size_fits);simp only[raiseNew];refine zZ (wpAny_handled ?_);first | rw[show A.in1.handled=am from e] | rw[e]
 refine zZ (zY (wpAny_throw ?_));exact hE _ _ (((a6Z ..).extBut.push _).push _) #[_,yZ _ rfl,rfl]
theorem j4 (hh:A.handled=am) (it l:Addr) (ck:l≠it) (items:Array ar):Draws prog w A it [it,l] items.size (λi v=>items[i]?=al v) (λi h=>h.IsTupleIter it l i/\h.IsTuple l items) where
 live:=λ_ _ st=>let #[o,ho,_]:=st.1;#[o,ho]
 frame:=λ_ _ _ st hk=>#[st.1.at λo e=>hk it (by simp) o e,let #[o,e,r]:=st.2;#[o,hk l (by simp) o e,r]]
 item:=λi s Q E hi st hQ=>bQ ck (y:=items[i]) (by simp[hi]) s Q E st λh' tk x e a b=>hQ x h' tk (by rw[e];simp[hi]) a b
 done:=λs Q E st hE=>fL hh (by simp) s Q E st hE
theorem j5 {i:Nat}(n:A.handled=am) (he:IsEnum s.heap e it i old) (hit:s.heap.IsTupleIter it l i) (m:s.heap.IsTuple l items) (hx:items[i]?=am) (c:∀h',Heap.ExtBut it s.heap h'->Q am { s with heap:=h' }):wpAny (model prog w) A (pyNext (.ref e)) Q E s:=by have t:s.TypeIs (.ref e) "enumerate" := #[_,he,rfl];unfold pyNext;refine zZ (er (wpAny_callSpecial?_slot (name:=a0Q "__next__") t F.slot_enumerate_next (cr F.slot_enumerate_next t F.entry_enumerate_next ?_ (F.args_enumerate_next_1 _))));show wpAny _ _ (gv (.ref e) 2 >>= _) _ _ _;refine zZ (bn he rfl (x:=.ref it) rfl (zZ (fL (A:=A.in1) n hx _ _ _ #[hit,m] λh' x p r=>?_)));obtain⟨o,a,hc⟩:=r;exact zZ (fw (T:= "StopIteration") (b:=ap) #[o,a,hc] jc (zY (c _ p)))
theorem ZA (l:Addr) (items:Array ar) :
   Meets (Builtin.«enumerate.__new__» #[[.type "enumerate", .ref l],[]]) (λ_ R s=>s.heap.IsTuple l items /\
     R (.ok (.ret (.ref (s.heap.push { cls:=.type "tuple_iterator", data:=.fields (z3 [.ref l,.int 0 0]) }).objs.size))) { s with heap:=(s.heap.push { cls:=.type "tuple_iterator", data:=.fields (z3 [.ref l,.int 0 0]) }).push { cls:=.type "enumerate", data:=.fields (z3 [.none,.bool bj,.ref s.heap.objs.size,et 0,.none,.none]) } }):=
 .of_wp λprog w A R s h=>by
   obtain⟨hp,g,d,L,Q⟩:=s;obtain⟨hL,h⟩:=h;have Z:=sub_enumerate;obtain⟨⟨c,k,e,sl⟩,m,hc,n,hd⟩:=id hL
   wp_walk using wpAny_loadPart' m
   refine wpAny_stack_any λr=>zY ?_;split;. rename_i c _ _ _ _ _;cases (c==c0Z "enumerate") <;> (wp_walk using wpAny_loadPart' m,gu hL;exact#[_,rfl,h])
   . (wp_walk using wpAny_loadPart' m,gu hL;exact#[_,rfl,h])
theorem cM (hL:s.heap.IsTuple l items) (h:∀h',IsEnum h' (s.heap.objs.size+1) s.heap.objs.size 0 .none->h'.IsTupleIter s.heap.objs.size l 0 ->(∀b o,s.heap.get? b=al o->h'.get? b=al o)->Q (.ref (s.heap.objs.size+1)) { s with heap:=h' }) :
   wpAny (model prog w) A (call (.type "enumerate") [.ref l]) Q E s:=by
 refine callType_new F.called_enumerate (by decide) (F.typeCall_enumerate_1 _) (F.newCall_enumerate_1 _) (λobj=>F.args_object_init_2 obj _) F.entry_enumerate_new (ZA l items) #[hL,?_];have e:(s.heap.push { cls:=.type "tuple_iterator", data:=.fields (z3 [.ref l,.int 0 0]) }).objs.size=s.heap.objs.size+1:=b2W ..;show _/\_;rw[e];have he:IsEnum ((s.heap.push { cls:=.type "tuple_iterator", data:=.fields (z3 [.ref l,.int 0 0]) }).push { cls:=.type "enumerate", data:=.fields (z3 [.none,.bool bj,.ref s.heap.objs.size,et 0,.none,.none]) }) (s.heap.objs.size+1) s.heap.objs.size 0 .none:=by have:=yZ (s.heap.push { cls:=.type "tuple_iterator", data:=.fields (z3 [.ref l,.int 0 0]) }) (o:={ cls:=.type "enumerate", data:=.fields (z3 [.none,.bool bj,.ref s.heap.objs.size,et 0,.none,.none]) }) rfl;rw[e] at this;exact this
 exact#[#[_,he,rfl],h _ he #[_,zW _ (yZ _ rfl),rfl,rfl] λb o x=>zW _ (zW _ x)]
end
end L2
namespace L2
open PySem PySem.Spec PyProof.Rows
def A2D (K:Frg) (l:Addr):It:=#[λi H=>∃t,SqT K H l t/\i < t.length,
  λi H x H'=>∃p a,H p=am/\x = .ref p/\H'=upd H p (.tup [.int (i:Nat),a])/\∀t,SqT K H l t->t[i]?=al a,
  λi H=>∃t,SqT K H l t/\t.length<=i]
theorem cN {P:bq}{w:bo}{K:Frg}{eo:List ca}{kk:Nat}{cw:fb}(e it l:Addr) (d1:e≠it) :
   Turn P w K (.Tuple eo kk cw) (A2D K l) [e,it] e (λi h=>(∃old,IsEnum h e it (i:Nat) old)/\h.IsTupleIter it l i) where
 mem:=by simp
 obj:=by
   rintro i h ⟨⟨old,a1⟩,a2⟩ b hb;simp only[yX,xX,or_false] at hb;rcases hb with rfl | rfl;. exact⟨_,a1,λv q=>by cases q⟩
   . obtain⟨o,q,c,d⟩:=a2;exact⟨o,q,λv z=>by rw[d] at z;cases z⟩
 keep:=by rintro i h h' ⟨⟨old,a1⟩,a2⟩ k;exact#[#[old,k e (by simp) _ a1],a2.at λo q=>k it (by simp) o q]
 item:=by
   intro X hP hw hK hc i pins s σ H E I hf #[#[old,a1],a2] hg;subst hP hw hK;obtain⟨xs,hx,lx⟩:=hg;obtain⟨aa,rx,px,_⟩:=I.tuple hx;obtain⟨u,hu,ru⟩:=rx.get (zV lx);have hle:l≠e:=QS I (hf e (by simp)) hx;have Bo:l≠it:=QS I (hf it (by simp)) hx;have rf:=rx.length;refine wpAny_pyNext_enum_itemD (j4 (items:=aa.toArray) (A:=X.A.in1) (I.ok.hd hc) it l Bo) a1 #[a2,px] (show i < aa.toArray.size by simp;lia) d1 (by simp;exact#[d1,hle.symm]) λx h' tk ex b1 b2 b3 b4 hk=>?_;have ex:x=u:=by
     have:aa[i]?=al x:=by simpa using ex
     rw[hu] at this;exact(Option.some.inj this).symm
   subst ex;refine#[_,rfl,wpAny_letOwnedTupleGo_enum (s:={ s with heap:=h',toks:=tk+1 }) b1 λh2 c1 sb=>?_];have lt:∀{c o},s.heap.get? c=al o->s.heap.objs.size≠c:=λq=>a8K (zM q);have keep:∀b o,b∉[e,it]->s.heap.get? b=al o->h2.get? b=al o:=λb o hb q=>by simp only[yX,xX,or_false,not_or] at hb;exact sb.extBut b o hb.1 (hk b o hb.1 hb.2 q)
   have Bp:s.heap.objs.size≠e:=lt a1;have I1:Inv X pins σ (upd H s.heap.objs.size (.tup [.int (i:Nat),xs[i]])) { s with heap:=h2,toks:=tk+1 }:=I.turnedT (t':=tk+1) (ch:=[e,it]) keep (λb hb=>(hf b hb).1) (λb hb=>let q:=hf b hb;#[q.2.2.2.1,q.2.1,q.2.2.2.2.1,q.2.2.2.2.2]) (zR _) #[by show 2<=bd;decide,[.int (i:Nat) tk,x],.cons #[_,rfl] (.cons ru .nil),#[_,sb.extBut _ _ Bp b3,rfl,_,rfl]];refine#[.ref s.heap.objs.size,_,I1,rfl,#[s.heap.objs.size,xs[i],I.hok.fresh (zR _),rfl,rfl,λKc jw=>?_],#[#[_,c1],let #[o,q,r]:=b2.1;#[o,sb.extBut it o (a8Q d1) q,r]],λb hb=>?_];. rw[I.tuple_inj jw hx];exact zV lx
   . have be:s.heap.objs.size≠b:=by
       simp only[yX,xX,or_false] at hb;rcases hb with rfl | rfl;. exact lt a1
       . obtain⟨o,q,_⟩:=a2;exact lt q
     rw[AH (a8Q be)];exact(hf b hb).1
 done:=by
   intro X hP hw hK hc i pins s σ H E I hf #[#[old,a1],a2] hg;subst hP hw hK;obtain⟨xs,hx,Bq⟩:=hg;obtain⟨aa,rx,px,_⟩:=I.tuple hx;have e1:=rx.length;have Bo:l≠it:=QS I (hf it (by simp)) hx;refine j5 (I.ok.hd hc) a1 a2 px (by rw[b4V];simp;lia) λh' hk=>#[rfl,I.turnedL (t':=s.toks) (ch:=[e,it]) (λb o hb q=>?_) (λb hb=>(hf b hb).1) λb hb=>let q:=hf b hb;#[q.2.2.2.1,q.2.1,q.2.2.2.2.1,q.2.2.2.2.2]]
   simp only[yX,xX,or_false,not_or] at hb;exact hk b o hb.2 q
 self:=λ_ _ _ _ _ st h=>let #[_,q]:=st.1;gz q h
section
variable {X:Cx}{K:Frg}
def nQ (K:Frg) (k:TA):TI:=λo H R=>k o H λn e=>∃a,n=[.ref a]/\(∃t,SqT K e a t)/\R (A2D K a) e
theorem A0q {a:ca}{k:TA}{p pos:fb}{m:List ca}{Y:Nat}{r:fb}(hk:X.K=K) (hg:Gl X "enumerate") (j:X.mg "enumerate"=am) (N:PA X [a] k) (hs:starEach [a] X.env=[(bj,eval a X.env)]:=by rfl) :
   PI X (.Tuple m Y r) (.Call (.Name "enumerate" p) [a] [] pos) (nQ K k):=by
 subst hk;intro pins s v H R I h;refine Call_ (FI I hg j boot_enumerate (xH (thn (N pos pins s v H _ I h) λz t i=>?_) hs rfl));obtain⟨T,n,D,f,q1⟩:=i;obtain⟨l,e,⟨O,hx⟩,q⟩:=q1;subst e;obtain⟨u,rfl,g⟩:=EW f;cases g;obtain⟨x,y,c,_⟩:=D.tuple hx;refine cM c λh' b1 o hk=>?_;refine gz (s:={ t with heap:=h' }) b1 ?_;refine#[t.heap.objs.size+1,[t.heap.objs.size+1,t.heap.objs.size],_,_,n,rfl,D.kept (t':=t.toks) hk,cN (t.heap.objs.size+1) t.heap.objs.size l (Nat.succ_ne_self _),#[#[_,b1],o],λb hb=>?_,q];have hle:t.heap.objs.size<=b:=by
   simp only[yX,xX,or_false] at hb;rcases hb with rfl | rfl;. exact a8X _ _
   . exact zR _
 exact D.fpOk hle (D.hok.fresh hle)
end
end L2
namespace DL
open PySem PySem.Spec L2
section
theorem nR (h:DA K c ρ M λxs M1=>∃as,xs=[.d (.tuple as)]/\QI (FP as) M1):DI K (nQ K c) ρ M QI:=λL H R S k=>
 h L H _ S λU f xs M1 O I B N=>by
   obtain⟨as,e,q⟩:=N;subst e;obtain⟨v,r,rfl,h1,G⟩:=I;cases G;unfold SI DV at h1;obtain⟨a,o,rfl,m,hd⟩:=h1;have b:(FP as).length=as.length:=by unfold FP;rw[zX,b9K]
   refine#[a,rfl,#[o,m.sq],k _ (FP as) f M1 O B #[λi H' n hi u t=>?_,λH' n u t=>?_,λi H' n x Q u t hi y=>?_] q];. rw[b] at hi;exact#[o,(m.grow t.grow).sq,by rw[hd.length];lia]
   . refine#[o,(m.grow t.grow).sq,?_];rw[b,hd.length];lia
   . obtain⟨p,J,hp,rfl,rfl,hy⟩:=y;have j:=hy o (m.grow t.grow).sq;obtain⟨g,z,T⟩:=hd.get j;have D:Grow K n.W n.W H' (upd H' p (.tup [.int (i:Nat),J])):=AZ _ hp;refine#[u.new hp,#[D],.tuple [.int (i:Nat),g],?_,?_];. unfold FP;rw[zF,List.getElem?_zipIdx,z];simp
     . unfold DV;exact#[p,_,rfl,.inl #[λw=>w (u.none hp),.inl AD],DVs.cons (by unfold DV;rfl) (DVs.cons ((T.grow t.grow).grow D) DVs.nil)]
end
end DL
namespace L2
open PySem PySem.Spec PyProof.Rows
theorem A2E {X:Cx}{body:List fv}{h₀:ExceptHandler}{hs:List ExceptHandler}{pos:fb}{t:TS}(hx:∀e s,¬X.xe e s) (hb:PSs X body t):PS X (.Try body (h₀::hs) [] [] pos) t:=by
 intro pins s a H D I h;refine wpAny_Try_except (ce (hb pins s a H D I h) (λf n q=>?_) λe n q=>absurd q (hx _ _));cases f with
 | next=>exact ip q
 | ret v=>exact q
 | brk=>exact q
 | cont=>exact q
end L2
namespace L2
open PySem PySem.Spec PyProof.Rows
def A2F:List Nat:=[0,1,2,3,4,5,6,7,8,9,10,11,12,13,14,15,16,17,18,19,20,21,22,23]
theorem nS :∀(l:List Str) (k n:Nat),(l.zip (List.range' k n)).lookup x=al i->k<=i/\l[i - k]?=al x
 | [],_,_,h=>by cases h
 | _::_,_,0,h=>by cases h
 | a::r,k,n+1,h=>by
   rw[List.range'_succ,a8Z,a3Q] at h;split at h;. rename_i e;have h:=Option.some.inj h;subst h;rw[Nat.sub_self];exact#[zR _,by rw[eq_of_beq e];rfl]
   . obtain⟨h1,t⟩:=nS r (k+1) n h;refine#[by lia,?_];rw[show i - k=(i - (k+1))+1 by lia];exact t
theorem RR {l:List Str}(h:(l.zip A2F).lookup x=al i):l[i]?=al x:=(nS l 0 24 h).2
theorem pvx {X:Cx}{i:Nat}{x:Str}{pos:fb}(h:(X.N.zip A2F).lookup x=al i) (e:Vis X.env.scope x) (hd:(x==("__debug__":Str))=false:=by decide)
   (S:(x==("__classdict__":Str))=false:=by decide):PE X (.Name x pos) (pQ i):=k7 (RR h) e hd S
end L2
namespace DL
open PySem PySem.Spec L2
theorem nT (h:(zH (.str a)&&zH (.str b)&&(a0Z (.str a) (.str b)==t))=ap) (q:Q (.d (.bool t)) M):D2 K (gW K bj) (.d (.str a)) (.d (.str b)) M Q:=by simp only[a1J,beq_iff_eq] at h;exact AX h.1.1 h.1.2 (by rw[if_neg nft,h.2];exact q)
end DL
namespace L2
open PySem PySem.Spec
def A2G (scope:gc) (NC:List Str):Bool:=(NC.all λx=>(scope.names.lookup x).isSome)&&scope.names.all λy=>!(y.2==.local||y.2==.free||y.2==.cell)||y.1==a0Q ".0" || NC.contains y.1
theorem CS {X:Cx}{scope:gc}{NC:List Str}{b:List (Option Nat)}{t:gc}{ON:List Str}(_:A2G scope NC=ap) (h:lD t ON scope NC b=ap) (e:X.env.scope=t) (n:X.N=ON):CSc X scope NC b:=CSc.of h e n
end L2
namespace DL
open PySem PySem.Spec L2
def FG:FSp:=#[λt M=>∃(w:List Th) (p:List (Str×Deed)),t=[.d (AM w p)]/\p.length<=50,λt M y i=>∀(w:List Th) (p:List (Str×Deed)),t=[.d (AM w p)]->y = .d (.tuple ((dsL p).map Deed.d))/\i=M]
theorem F5 {Q:DS->Own->Prop}(hg:p.length<=50) (q:Q (.d (.tuple ((dsL p).map Deed.d))) M):[DS.d (AM w p)].length=1/\FG.pre [.d (AM w p)] M/\∀x i,FG.post [.d (AM w p)] M x i->Q x i:=#[rfl,#[w,p,rfl,hg],λx i h=>by obtain⟨rfl,rfl⟩:=h w p rfl;exact q]
structure rowP (w:List Th) (Ds:List Deed):Prop where
 fine:EH w
 book:L4 w Ds
 few:w.length+Ds.length < 60
def WJ (w:List Th) (Ds:List Deed):List DS:=[.d (wD w),.d (.tuple (Ds.map Deed.d))]
theorem tS (e:WJ w Ds=WJ t g):w=t/\Ds=g:=by
 unfold WJ at e;simp only[List.cons.injEq,DS.d.injEq,PyData.tuple.injEq,and_true] at e;refine#[W9 e.1,?_];have:=e.2;clear e;induction Ds generalizing g with
 | nil=>cases g with | nil=>rfl | cons _ _=>cases this
 | cons a r U=>cases g with
   | nil=>cases this
   | cons b s=> simp only[zI,List.cons.injEq] at this;rw[CM this.1,U this.2]
def N7:FSp:=#[λt M=>∃w b,t=WJ w b/\rowP w b,λt M y i=>∀w b,t=WJ w b->y = .d (.tuple [wD (O9 w b),.list (bkL w b b.length)])/\i=M]
theorem ZB {Q:DS->Own->Prop}(h:rowP w Ds) (q:Q (.d (.tuple [wD (O9 w Ds),.list (bkL w Ds Ds.length)])) M):(WJ w Ds).length=2/\N7.pre (WJ w Ds) M/\∀x i,N7.post (WJ w Ds) M x i->Q x i:=#[rfl,#[w,Ds,rfl,h],λx i h=>by obtain⟨rfl,rfl⟩:=h w Ds rfl;exact q]
theorem RS (h:AM w p=AM t e):w=t/\p=e:=by refine#[?_,E6 h];unfold AM at h;simp only[PyData.tuple.injEq,List.cons.injEq,and_true] at h;exact W9 h.1
end DL
namespace DL
open PySem PySem.Spec L2
theorem nU (h:rowP w Ds):EH (O9 w Ds)/\(O9 w Ds).length<=w.length+Ds.length:=by have:=WC h.book h.fine h.few (zR _);rw[show wsF w Ds Ds.length=O9 w Ds by unfold wsF;rw[a1V]] at this;exact#[this.1,this.2.1]
end DL
namespace DL
open PySem PySem.Spec L2
def AW {e:Type}(p:List e) (q:List Nat):List e:=q.filterMap λk=>p[k]?
theorem OG {l:e}(h:p[k]?=al l):AW p (k::q)=l::AW p q:=by unfold AW;rw[a5W,h]
theorem KH {p:List e}:∀{q:List Nat},(∀k∈q,k < p.length)->∀i:Nat,(AW p q)[i]?=(q[i]?).bind λk=>p[k]?
 | [],_,i=>by simp[AW]
 | k::q,h,i=>by
   have hk:=h k (by simp);rw[OG (zV hk)];cases i with
   | zero=>simp[zV hk]
   | succ i=>rw[List.getElem?_cons_succ,List.getElem?_cons_succ];exact KH (λx hx=>h x (yV _ hx)) i
theorem JF {p:List e}:∀{q:List Nat},(∀k∈q,k < p.length)->(AW p q).length=q.length
 | [],_=>rfl
 | k::q,h=>by rw[OG (zV (h k (by simp))),yR,yR,JF λx hx=>h x (yV _ hx)]
theorem ZC (f:e->S) (p:List e) (q:List Nat):(AW p q).map f=AW (p.map f) q:=by unfold AW;rw[List.map_filterMap];congr 1;funext k;rw[zF]
theorem ZD {l:t}(h:l∈AW p q):l∈p:=by obtain⟨k,_,e⟩:=List.mem_filterMap.mp h;exact yN e
theorem WK {t:List Nat}(h:t.Pairwise (· < ·)) {i j a b:Nat}(N:t[i]?=al a) (hb:t[j]?=al b):(a < b↔i < j)/\(a=b↔i=j):=by
 obtain⟨hi,rfl⟩:=yT.mp N;obtain⟨M,rfl⟩:=yT.mp hb;have p:=List.pairwise_iff_getElem.mp h;rcases b5K i j with q | q | q;. have:=p i j hi M q;exact#[#[λ_=>q,λ_=>this],#[λe=>by lia,λe=>by lia]]
 . subst q;exact#[by simp,by simp]
 . have:=p j i M hi q;exact#[#[λe=>by lia,λe=>by lia],#[λe=>by lia,λe=>by lia]]
theorem PQ (D:∀k∈q,k < Ds.length) (h:q[i]?=al a):mkN (AW Ds q) i=mkN Ds a/\CP (AW Ds q) i=CP Ds a:=by unfold mkN CP;rw[KH D,h];exact#[rfl,rfl]
theorem WL (D:∀k∈q,k < Ds.length) (h:mkN (AW Ds q) i=al x):∃a,q[i]?=al a:=by
 cases e:q[i]? with
 | some a=>exact#[a,rfl]
 | none=>unfold mkN at h;rw[KH D,e] at h;cases h
theorem j6 (D:∀k∈q,k < Ds.length) (h:x∈CP (AW Ds q) i):∃a,q[i]?=al a:=by
 cases e:q[i]? with
 | some a=>exact#[a,rfl]
 | none=>unfold CP at h;rw[KH D,e] at h;cases h
theorem cO {Ds:List Deed}{κ:List Nat}(hf:FreshD Ds) (hκ:∀k∈κ,k < Ds.length) (hi:κ.Pairwise (· < ·)):FreshD (AW Ds κ) where
 one:=λi j x h1 h2=>by obtain⟨a,ea⟩:=WL hκ h1;obtain⟨b,eb⟩:=WL hκ h2;rw[(PQ hκ ea).1] at h1;rw[(PQ hκ eb).1] at h2;exact(WK hi ea eb).2.mp (hf.one a b x h1 h2)
 bef:=λj k x h1 h2=>by obtain⟨a,ea⟩:=WL hκ h1;obtain⟨b,eb⟩:=j6 hκ h2;rw[(PQ hκ ea).1] at h1;rw[(PQ hκ eb).2] at h2;exact(WK hi ea eb).1.mp (hf.bef a b x h1 h2)
theorem j7 {w:List Th}{ls:List (Str×Deed)}{κ:List Nat}(hg:goodB w ls) (hκ:∀k∈κ,k < ls.length) (hi:κ.Pairwise (· < ·)) (hl:κ.length<=ls.length):goodB w (AW ls κ) where
 fresh:=by show FreshD ((AW ls κ).map (·.2));rw[ZC];exact cO hg.fresh (λk hk=>by rw[zX];exact hκ k hk) hi
 real:=λl hl=>hg.real l (ZD hl)
 few:=by rw[JF hκ];exact zN hl hg.few
 hands:=λl hl=>hg.hands l (ZD hl)
end DL
namespace DL
open PySem PySem.Spec L2
theorem j8 (h:AM w p=AM t e):wD w=wD t/\p=e:=by refine#[?_,E6 h];unfold AM at h;simp only[PyData.tuple.injEq,List.cons.injEq,and_true] at h;exact h.1
def cKp (F:List Nat) (d:PyData):Bool:=!((AA F).any λe=>a0Z e d)
def fLn (p:List (Str×Deed)):PyData->PyData | .int i=>(p.map CO).getD i.toNat .none | _=>.none
theorem RT :∀{q:List Nat},(∀k∈q,k < p.length)->(AA q).map (fLn p)=(AW p q).map CO
 | [],_=>rfl
 | k::q,h=>by have hk:=h k (by simp);rw[OG (zV hk),zI];show fLn p (.int (k:Int))::(AA q).map (fLn p)=_;rw[RT λx hx=>h x (yV _ hx)];congr 1;show(p.map CO).getD ((k:Int)).toNat .none=_;rw[a3K,yU,zF,zV hk];rfl
end DL
namespace DL
open PySem PySem.Spec L2
theorem tT (p:List (Str×Deed)) (q:List Nat):dsL (AW p q)=AW (dsL p) q:=ZC _ _ _
end DL
namespace L2
open PySem PySem.Spec PyProof.Rows
section
theorem UO (e:A.handled=am) (hx:items[k]?=am):NxE prog w A i (λh=>h.IsTupleIter i t k/\h.IsTuple t items):=λs Q E hS hE=>by
 obtain⟨hit,n⟩:=hS;obtain⟨o,T,hc,hd⟩:=id hit;obtain⟨f,p,b,g,r⟩:=id n;unfold a0K;refine zZ (wpAny_callSpecial?_slot (name:=a0Q "__next__") hit.typeIs a5Z (cr a5Z hit.typeIs b9X ?_ (b8J _)));show wpAny _ _ (gv (.ref i) 0 >>= _) _ _ s;refine zZ (bn T hd (x:=.ref t) rfl ?_);show wpAny _ _ (if (a0X t==a3X)=ap then _ else _) _ _ s;rw[if_neg (show ¬((a0X t==a3X)=ap) from nft)];show wpAny _ _ (gv (.ref i) 1 >>= _) _ _ s;refine zZ (bn T hd (x:=.int k 0) rfl ?_);show wpAny _ _ (seqItems? (.ref t) >>= _) _ _ s;refine zZ (c4 p r ?_);simp only[a3K,hx];refine zZ (dV (zZ (fc T hd (by simp) (zZ ?_))));simp only[newExc,newTuple];refine zZ (xM (zZ (m:=fl _ _) (ej (a:=a3X) (by first | rfl | (simp only[fl];rfl)) (xM ?_ (by size_fits)))) (by size_fits));simp only[raiseNew];refine zZ (wpAny_handled ?_);first | rw[show A.in1.handled=am from e] | rw[e]
 exact zZ (zY (wpAny_throw (hE _ _ (((a6Z ..).extBut.push _).push _) #[_,yZ _ rfl,rfl])))
end
end L2
namespace DL
open PySem PySem.Spec L2
abbrev Ln:=Str×Deed
theorem M0:∀(Ds:List Deed) (so sp L o:List Str),FQ so sp Ds->OZ so sp Ds=(L,o)->(so++sp).Nodup->(∀j x,mkN Ds j=al x->x∉o)/\(∀k x,x∈CP Ds k->x∉o)/\o.Sublist sp/\(L++o).Nodup
 | [],so,sp,L,o,_,e,nd=>by cases e;exact#[λj x h=>by simp[mkN] at h,λk x h=>by simp[CP] at h,a4J _,nd]
 | D::r,so,sp,L,o,h,e,nd=>by
   obtain⟨h1,i,_,G⟩:=h;have v:(BE so D++CK sp D).Nodup:=nd.sublist (GY i);obtain⟨p,c,f,g⟩:=M0 r _ _ _ _ G e v;have z:∀x,x∈so->x∈sp->False:=λx a b=>(List.nodup_append.mp nd).2.2 x a x b rfl;refine#[λj x t=>?_,λk x n=>?_,f.trans (KD sp D),g]
   . cases j with
     | zero=>
       intro hx;have a:D.made=al x:=t;have q1:=f.subset hx;have q2:=i x a;unfold CK at q1;rw[a] at q1;dsimp only at q1;have O:sp.Nodup:=(List.nodup_append.mp nd).2.1;cases sp with
       | nil=>simp at q2
       | cons y T=>
         have:y=x:=by simpa using q2
         subst this;exact(xV.mp O).1 (by simpa using q1)
     | succ j=>exact p j x t
   . cases k with
     | zero=> have u:x∈D.must:=n;obtain⟨a,b⟩:=yL.mp u;have m:¬D.made=al x:=of_decide_eq_true b;exact λq=>z x (J9 h1 a m) ((KD sp D).subset (f.subset q))
     | succ k=>exact c k x n
theorem nV (a b:List Deed) (i:Nat):mkN (a++b) i=if i < a.length then mkN a i else mkN b (i - a.length):=by
 unfold mkN;rw[List.getElem?_append];by_cases c:i < a.length;. rw[if_pos c,if_pos c]
 . rw[if_neg c,if_neg c]
theorem nW (a b:List Deed) (i:Nat):CP (a++b) i=if i < a.length then CP a i else CP b (i - a.length):=by
 unfold CP;rw[List.getElem?_append];by_cases c:i < a.length;. rw[if_pos c,if_pos c]
 . rw[if_neg c,if_neg c]
theorem j9 (h1:FQ so sp a) (e:OZ so sp a=(L,o)) (nd:(so++sp).Nodup) (p:n.Perm o) (u:FQ L n b):FreshD (a++b):=by
 obtain⟨q,m,v,g⟩:=M0 a so sp L o h1 e nd;obtain⟨_,r⟩:=OD a so sp h1 nd;obtain⟨t,N⟩:=OD b L n u ((List.Perm.append_left L p).nodup_iff.mpr g);refine#[λi j x c f=>?_,λj k x c f=>?_]
 . rw[nV] at c f;split at c <;> split at f;. exact r.one i j x c f
   . exact absurd (p.mem_iff.mp (t _ x f)) (q _ x c)
   . exact absurd (p.mem_iff.mp (t _ x c)) (q _ x f)
   . have:=N.one _ _ x c f;lia
 . rw[nV] at c;rw[nW] at f;split at c <;> split at f;. exact r.bef j k x c f
   . lia
   . exact absurd (p.mem_iff.mp (t _ x c)) (m _ x f)
   . have:=N.bef _ _ x c f;lia
section
variable {M:Own}{Q:DS->Own->Prop}{w:List Th}{A B:List Ln}
def lnQ (so sp:List Str) (cs:List Int) (p:List Ln) (L o:List Str):Prop:=FQ so sp (dsL p)/\OZ so sp (dsL p)=(L,o)/\(∀l∈p,B9 l.1)/\p.length<=cs.length/\namesOK (L++o)
theorem cP {so sp bc bf zj rg vd:List Str}{cs zk:List Int}{ls as:List Ln}(hn:namesOK (so++sp)) (h1:lnQ so sp cs ls bc bf) (p:vd.Perm bf) (h2:lnQ bc vd zk as zj rg) (hl:cs.length+zk.length<=50):goodB w (ls++as) where
 fresh:=by have e:dsL (ls++as)=dsL ls++dsL as:=xI;rw[e];exact j9 h1.1 h1.2.1 hn.2.1 p h2.1
 real:=λl hl=>by
   rcases yW.mp hl with q | q;. exact LZ h1.1 _ (zL.mpr #[l,q,rfl])
   . exact LZ h2.1 _ (zL.mpr #[l,q,rfl])
 few:=by rw[yY];have:=h1.2.2.2.1;have:=h2.2.2.2.1;lia
 hands:=λl hl=>by
   rcases yW.mp hl with q | q;. exact h1.2.2.1 l q
   . exact h2.2.2.1 l q
end
end DL
namespace DL
open PySem PySem.Spec L2
def RU:Deed->Option Str | .take x=>al x | .name x _=>al x | .join _ y=>al y | _=>am
section
def UP (D:Deed):List Str:=D.made.toList
def nX (D:Deed):List Str:=(RU D).toList
def JG:Deed->List Str | .put _ _ _=>[] | .join x y=>[x,y] | .take x=>[x] | .move x _=>[x] | .count x _=>[x] | .name x _=>[x] | .split x _ _ _=>[x]
theorem WM (hr:D.real):D.must=JG D:=by have i:=hr.2.1;cases D <;> first | (simp[Deed.must,Deed.names,Deed.made,JG];done) | (simp[Deed.must,Deed.names,Deed.made,JG,a8Q i];done)
theorem nY (q:Q (.d (.list ds)) M):DR K (VU K) [.d (.list ds)] M Q:=λH n QQ u s k=>by obtain⟨v,r,rfl,h1,e⟩:=s;cases e;unfold SI DV at h1;obtain⟨a,n,rfl,m,hd⟩:=h1;refine#[a,n,rfl,.inl m.sq,λp hp=>?_];have g:Grow K M.W M.W H (upd H p (.lst n)):=AZ _ hp;refine k _ _ (.d (.list ds)) M (u.new hp) ?_ #[g] q;unfold SI DV;exact#[p,n,rfl,.inl #[λw=>w (u.none hp),.inl AD],hd.grow g]
end
end DL
namespace DL
open PySem PySem.Spec L2
def enN (Ds:List Deed) (j:Nat):Option Str:=(Ds[j]?).bind RU
def wnN (Ds:List Deed) (j:Nat):List Str:=match Ds[j]? with | some D=>JG D | none=>[]
def BkD (S:List Str) (Ds:List Deed):Prop:=∀k,(∀x,mkN Ds k=al x->x∉S/\∀j,j < k->mkN Ds j≠al x)/\∀x∈wnN Ds k,(x∈S\/∃j,j < k/\mkN Ds j=al x)/\∀j,j < k->enN Ds j≠al x
def tU (st r:List Str) (D:Deed):Bool:=!((UP D).any λx=>decide (x∈r))&&!((JG D).any λx=>!decide (x∈st))
def ZE (st:List Str) (D:Deed):List Str:=(st.filter λz=>!decide (z∈nX D))++UP D
theorem ZF (h:RU D=al x):x∈JG D:=by cases D <;> simp_all [RU,JG]
theorem FH :x∈UP D↔D.made=al x:=by unfold UP;cases D.made <;> simp[eq_comm]
theorem RV :x∈nX D↔RU D=al x:=by unfold nX;cases RU D <;> simp[eq_comm]
theorem RW :tU st r D=ap↔(∀x,D.made=al x->x∉r)/\∀x∈JG D,x∈st:=by
 unfold tU;rw[a1J,c1Z,c1Z,b5J,b5J];constructor;. rintro⟨h1,a⟩;exact#[λx e q=>h1 x (FH.mpr e) (decide_eq_true q),λx hx=>by have:=a x hx;simpa using this]
 . rintro⟨h1,a⟩;exact#[λx e q=>h1 x (FH.mp e) (of_decide_eq_true q),λx hx=>by have:=a x hx;simpa using this]
theorem EM {D:Deed}:(Ds++[D])[k]?=if k < Ds.length then Ds[k]? else if k=Ds.length then al D else none:=by
 rw[List.getElem?_append];split;. rfl
 . rename_i h;by_cases e:k=Ds.length;. subst e;simp
   . rw[if_neg e];rw[a2X];simp;lia
structure StB (S st kn:List Str) (Ds:List Deed):Prop where
 bk:BkD S Ds
 kn_:∀x,x∈kn↔x∈S\/∃j,mkN Ds j=al x
 st_:∀x,x∈st↔x∈kn/\∀j,enN Ds j≠al x
theorem WN :BkD S (Ds++[D])↔BkD S Ds/\(∀x,D.made=al x->x∉S/\∀j,mkN Ds j≠al x)/\∀x∈JG D,(x∈S\/∃j,mkN Ds j=al x)/\∀j,enN Ds j≠al x:=by
 have t:∀j,j < Ds.length->mkN (Ds++[D]) j=mkN Ds j/\enN (Ds++[D]) j=enN Ds j/\wnN (Ds++[D]) j=wnN Ds j:=λj M=>by unfold mkN enN wnN;rw[EM,if_pos M];exact#[rfl,rfl,rfl]
 have out:∀j,Ds.length<=j->mkN Ds j=am/\enN Ds j=none:=λj M=>by unfold mkN enN;rw[a2X M];exact#[rfl,rfl]
 have at_:mkN (Ds++[D]) Ds.length=D.made/\wnN (Ds++[D]) Ds.length=JG D:=by unfold mkN wnN;rw[EM,if_neg (yF _),if_pos rfl];exact#[rfl,rfl]
 have inD:∀{j x},mkN Ds j=al x->j < Ds.length:=λ{j x} e=>by
   rcases Nat.lt_or_ge j Ds.length with q | q;. exact q
   . rw[(out j q).1] at e;cases e
 have n:∀{j x},enN Ds j=al x->j < Ds.length:=λ{j x} e=>by
   rcases Nat.lt_or_ge j Ds.length with q | q;. exact q
   . rw[(out j q).2] at e;cases e
 constructor
 . intro h;refine#[λk=>?_,λx e=>?_,λx hx=>?_]
   . by_cases hk:k < Ds.length
     . obtain⟨a,b⟩:=h k;rw[(t k hk).1,(t k hk).2.2] at *;refine#[λx e=>#[(a x e).1,λj M=>?_],λx hx=>#[(b x hx).1.imp id (by rintro⟨j,M,e⟩;exact#[j,M,by rw[<-(t j (by lia)).1];exact e]),λj M=>?_]];. rw[<-(t j (by lia)).1];exact(a x e).2 j M
       . rw[<-(t j (by lia)).2.1];exact(b x hx).2 j M
     . refine#[λx e=>absurd (inD e) hk,λx hx=>?_];unfold wnN at hx;rw[a2X (by lia)] at hx;cases hx
   . obtain⟨a,b⟩:=(h Ds.length).1 x (by rw[at_.1];exact e);exact#[a,λj L=>b j (inD L) (by rw[(t j (inD L)).1];exact L)]
   . obtain⟨a,b⟩:=(h Ds.length).2 x (by rw[at_.2];exact hx);exact#[a.imp id (by rintro⟨j,M,e⟩;exact#[j,by rw[<-(t j M).1];exact e]),λj L=>b j (n L) (by rw[(t j (n L)).2.1];exact L)]
 . rintro⟨h,o,R⟩ k;rcases b5K k Ds.length with hk | hk | hk
   . obtain⟨a,b⟩:=h k;rw[(t k hk).1,(t k hk).2.2];refine#[λx e=>#[(a x e).1,λj M=>?_],λx hx=>#[(b x hx).1.imp id (by rintro⟨j,M,e⟩;exact#[j,M,by rw[(t j (by lia)).1];exact e]),λj M=>?_]];. rw[(t j (by lia)).1];exact(a x e).2 j M
     . rw[(t j (by lia)).2.1];exact(b x hx).2 j M
   . subst hk;rw[at_.1,at_.2];refine#[λx e=>#[(o x e).1,λj M=>?_],λx hx=>#[(R x hx).1.imp id (by rintro⟨j,e⟩;exact#[j,inD e,by rw[(t j (inD e)).1];exact e]),λj M=>?_]];. rw[(t j M).1];exact(o x e).2 j
     . rw[(t j M).2.1];exact(R x hx).2 j
   . have e:(Ds++[D])[k]?=none:=by rw[a2X];simp;lia
     unfold mkN wnN;rw[e];exact#[λx q=>(by cases q),λx q=>(by cases q)]
theorem StB.step (h:StB S st r Ds) (ok:tU st r D=ap):StB S (ZE st D) (r++UP D) (Ds++[D]):=by
 obtain⟨h1,t⟩:=RW.mp ok;have mk:∀x,(∃j,mkN (Ds++[D]) j=al x)↔(∃j,mkN Ds j=al x)\/D.made=al x:=λx=>by
   constructor
   . rintro⟨j,e⟩;unfold mkN at e;rw[EM] at e;split at e;. exact .inl #[j,e]
     . split at e;. exact .inr e
       . cases e
   . rintro (⟨j,e⟩ | e)
     . refine#[j,?_];unfold mkN at e ⊢;rw[EM];split;. exact e
       . rename_i M;rw[a2X (by lia)] at e;cases e
     . exact#[Ds.length,by unfold mkN;rw[EM,if_neg (yF _),if_pos rfl];exact e]
 have o:∀x,(∀j,enN (Ds++[D]) j≠al x)↔(∀j,enN Ds j≠al x)/\RU D≠al x:=λx=>by
   constructor
   . intro h;refine#[λj e=>h j ?_,λe=>h Ds.length ?_]
     . unfold enN at e ⊢;rw[EM];split;. exact e
       . rename_i M;rw[a2X (by lia)] at e;cases e
     . unfold enN;rw[EM,if_neg (yF _),if_pos rfl];exact e
   . rintro⟨a,b⟩ j e;unfold enN at e;rw[EM] at e;split at e;. exact a j e
     . split at e;. exact b e
       . cases e
 refine#[WN.mpr #[h.bk,λx e=>?_,λx hx=>?_],λx=>?_,λx=>?_];. have:=h1 x e;rw[h.kn_] at this;exact#[λq=>this (.inl q),λj q=>this (.inr #[j,q])]
 . obtain⟨a,b⟩:=(h.st_ x).mp (t x hx);exact#[(h.kn_ x).mp a,b]
 . rw[yW,h.kn_,mk,FH,or_assoc]
 . unfold ZE;rw[yW,yL,yW,o,FH];have n:∀x,D.made=al x->(∀j,enN Ds j≠al x)/\RU D≠al x:=λx e=>by
     refine#[λj L=>?_,λf=>h1 x e ((h.st_ x).mp (t x (ZF f))).1];have hx:x∈wnN Ds j:=by
       unfold enN at L;unfold wnN;cases hD:Ds[j]? with
       | none=>rw[hD] at L;cases L
       | some F=>rw[hD] at L;exact ZF L
     refine h1 x e ((h.kn_ x).mpr (((h.bk j).2 x hx).1.imp id (by rintro⟨i,_,q⟩;exact#[i,q])))
   constructor
   . rintro (⟨a,b⟩ | a);. obtain⟨c,d⟩:=(h.st_ x).mp a;exact#[.inl c,d,λq=>by simp[RV.mpr q] at b]
     . exact#[.inr a,n x a]
   . rintro⟨a | a,b,c⟩;. exact .inl #[(h.st_ x).mpr #[a,b],by simp[RV,c]]
     . exact .inr a
section
variable {S:List Str}{DA DB:List Deed}{c:Nat}{κ:List Nat}
theorem JH (h:j < DA.length) (X:List Deed):mkN (DA++X) j=mkN DA j/\enN (DA++X) j=enN DA j/\wnN (DA++X) j=wnN DA j:=by unfold mkN enN wnN;rw[yQ h];exact#[rfl,rfl,rfl]
theorem RX (D:∀k∈κ,k < DB.length) (h:κ[i]?=al b):mkN (DA++AW DB κ) (DA.length+i)=mkN DB b/\enN (DA++AW DB κ) (DA.length+i)=enN DB b/\wnN (DA++AW DB κ) (DA.length+i)=wnN DB b:=by unfold mkN enN wnN;rw[yP (a8X _ _),c2J,KH D,h];exact#[rfl,rfl,rfl]
theorem nZ (D:∀k∈κ,k < DB.length) (h:κ[i]?=am):mkN (DA++AW DB κ) (DA.length+i)=am/\enN (DA++AW DB κ) (DA.length+i)=am/\wnN (DA++AW DB κ) (DA.length+i)=[]:=by unfold mkN enN wnN;rw[yP (a8X _ _),c2J,KH D,h];exact#[rfl,rfl,rfl]
theorem cQ (hp:DA.take c=DB.take c) (h:j < c):mkN DA j=mkN DB j/\enN DA j=enN DB j:=by
 have:DA[j]?=DB[j]?:=by rw[<-c1Q h,hp,c1Q h]
 unfold mkN enN;rw[this];exact#[rfl,rfl]
theorem tV (hA:BkD S DA) (hB:BkD S DB) (hp:DA.take c=DB.take c) (hc:c<=DA.length) (hi:κ.Pairwise (· < ·)) (D:∀k∈κ,c<=k/\k < DB.length) (v:∀b∈κ,∀x,mkN DB b=al x->∀j,c<=j->mkN DA j≠al x) (O:∀b∈κ,∀x∈wnN DB b,∀j,c<=j->enN DA j≠al x) (r:∀b∈κ,∀x∈wnN DB b,∀j,c<=j->j < b->mkN DB j=al x->j∈κ):BkD S (DA++AW DB κ):=by
 have G:∀k∈κ,k < DB.length:=λk hk=>(D k hk).2;intro k;by_cases hk:k < DA.length
 . rw[(JH hk _).1,(JH hk _).2.2];obtain⟨a,b⟩:=hA k;refine#[λx e=>#[(a x e).1,λj M=>?_],λx hx=>#[(b x hx).1.imp id (by rintro⟨j,M,e⟩;exact#[j,M,by rw[(JH (by lia) _).1];exact e]),λj M=>?_]];. rw[(JH (by lia) _).1];exact(a x e).2 j M
   . rw[(JH (by lia) _).2.1];exact(b x hx).2 j M
 . obtain⟨i,rfl⟩:∃i,k=DA.length+i:=#[k - DA.length,by lia]
   cases hb:κ[i]? with
   | none=> rw[(nZ G hb).1,(nZ G hb).2.2];exact#[λx q=>(by cases q),λx q=>(by cases q)]
   | some b=>
     have L:=yN hb;obtain⟨h1,o⟩:=hB b;have z:=(D b L).1;rw[(RX G hb).1,(RX G hb).2.2];have all:∀(f:List Deed->Nat->Option Str) (x:Str),(∀j,j < DA.length->f (DA++AW DB κ) j=f DA j)->(∀j,j < c->f DA j=f DB j)->(∀i b,κ[i]?=al b->f (DA++AW DB κ) (DA.length+i)=f DB b)->(∀j,j < b->f DB j≠al x)->(∀j,c<=j->f DA j≠al x)->∀j,j < DA.length+i->f (DA++AW DB κ) j≠al x:=by
       intro f x m p g n u j M;by_cases q:j < DA.length
       . rw[m j q];by_cases q2:j < c;. rw[p j q2];exact n j (by lia)
         . exact u j (by lia)
       . obtain⟨t,rfl⟩:∃t,j=DA.length+t:=#[j - DA.length,by lia]
         have y:i < κ.length:=(yT.mp hb).1;have Q:κ[t]?=al κ[t]:=zV (by lia);rw[g t _ Q];exact n _ ((WK hi Q hb).1.mpr (by lia))
     refine#[λx e=>#[(h1 x e).1,all mkN x (λj q=>(JH q _).1) (λj q=>(cQ hp q).1) (λi b q=>(RX G q).1) (h1 x e).2 (v b L x e)],λx hx=>#[?_,all enN x (λj q=>(JH q _).2.1) (λj q=>(cQ hp q).2) (λi b q=>(RX G q).2.1) (o x hx).2 (O b L x hx)]];rcases (o x hx).1 with q | ⟨j,M,e⟩
     . exact .inl q
     . by_cases q:j < c;. exact .inr #[j,by lia,by rw[(JH (by lia) _).1,(cQ hp q).1];exact e]
       . obtain⟨t,hi'⟩:=List.getElem?_of_mem (r b L x hx j (by lia) M e);have:=(WK hi hi' hb).1.mp M;exact .inr #[DA.length+t,by lia,by rw[(RX G hi').1];exact e]
end
end DL
namespace DL
open PySem PySem.Spec L2
theorem o0 (h:∀x,x∈st↔x∈so):∀x,x∈ZE st D↔x∈BE so D:=λx=>by
 unfold ZE;rw[yW,yL,FH,h];have he:(!decide (x∈nX D))=ap↔RU D≠al x:=by simp[RV]
 rw[he];cases D <;> simp[BE,RU,Deed.made,yW,yL] <;> simp[eq_comm]
theorem RY :∀(Ds Pre:List Deed) (st n so sp L o:List Str),StB S st n Pre->(∀x,x∈st↔x∈so)->(∀x∈sp,x∉n)->(so++sp).Nodup->FQ so sp Ds->OZ so sp Ds=(L,o)->∃j U,StB S j U (Pre++Ds)/\(∀x,x∈j↔x∈L)/\∀x∈o,x∉U
 | [],Pre,st,n,so,sp,L,o,h,h1,i,_,_,e=>by cases e;exact#[st,n,by rw[a6Q];exact h,h1,i]
 | D::r,Pre,st,n,so,sp,L,o,h,h1,i,nd,B,e=>by
   obtain⟨f,m,g,k⟩:=B;have u:∀x,D.made=al x->x∈sp:=λx t=>List.mem_of_mem_head? (m x t);have ok:tU st n D=true:=RW.mpr #[λx t=>i x (u x t),λx hx=>by
     rw[<-WM g] at hx;obtain⟨a,b⟩:=yL.mp hx;exact(h1 x).mpr (J9 f a (of_decide_eq_true b))];obtain⟨j,U,a,b,c⟩:=RY r (Pre++[D]) _ _ _ _ L o (h.step ok) (o0 h1) (λx hx q=>by
     rcases yW.mp q with q | q;. exact i x ((KD sp D).subset hx) q
     . have t:=FH.mp q;have p:=m x t;have O:sp.Nodup:=(List.nodup_append.mp nd).2.1;unfold CK at hx;rw[t] at hx;cases sp with
       | nil=>simp at p
       | cons y v=>
         have:y=x:=by simpa using p
         subst this;exact(xV.mp O).1 (by simpa using hx)) (nd.sublist (GY m)) k e;exact#[j,U,by rw[show Pre++D::r=(Pre++[D])++r by simp];exact a,b,c]
theorem o8 (hS:∀x,x∈S↔x∈so) (hn:namesOK (so++sp)) (h1:lnQ so sp cs e L o) (p:t.Perm o) (n:lnQ L t u as J i):BkD S (dsL (e++as)):=by have j:∀x,x∈so->x∈sp->False:=λx a b=>(List.nodup_append.mp hn.2.1).2.2 x a x b rfl;obtain⟨g,f,a,b,c⟩:=RY (S:=S) (dsL e) [] S S so sp L o #[λk=>by unfold mkN wnN;simp,λx=>by simp[mkN],λx=>by simp[enN]] hS (λx hx q=>j x ((hS x).mp q) hx) hn.2.1 h1.1 h1.2.1;obtain⟨y,z,T,m⟩:=M0 _ so sp L o h1.1 h1.2.1 hn.2.1;obtain⟨N,v,r,_⟩:=RY (S:=S) (dsL as) _ g f L t J i a b (λx hx=>c x (p.mem_iff.mp hx)) ((List.Perm.append_left L p).nodup_iff.mpr m) n.1 n.2.1;have:=r.bk;rw[List.nil_append] at this;rw[show dsL (e++as)=dsL e++dsL as from xI];exact this
section
variable {M:Own}{Q:DS->Own->Prop}{w:List Th}{A B:List Ln}
abbrev oB (w:List Th):List Str:=w.map (·.1)
end
end DL
namespace DL
open PySem PySem.Spec L2
theorem N8 (q:∀p,M p=am->Q (.loc p) (M.put p (.d (AN [])))):DE K kP n M Q:=λt H QQ R k p hp=>by obtain⟨e,I⟩:=IY (kvs:=[]) (ks:=[]) R.own hp (by unfold DKV;rfl);exact k _ _ (.loc p) _ e (by unfold SI;rfl) I (q p (R.own.none hp))
end DL
namespace DL
open PySem PySem.Spec L2
theorem A2H :ZE st D=BE st D:=by cases D <;> simp[ZE,BE,nX,RU,UP,Deed.made]
def stN (st:List Str) (Ds:List Deed):List Str:=Ds.foldl ZE st
theorem oD (st:List Str) (Ds:List Deed) (D:Deed):stN st (Ds++[D])=ZE (stN st Ds) D:=by unfold stN;rw[c1X];rfl
theorem tW:∀{Ds:List Deed}{w:List Th},EH w->L4 w Ds->w.length+Ds.length < 60->((O9 w Ds).map (·.1)).Perm (stN (w.map (·.1)) Ds):=by
 have G:∀{Ds:List Deed}{w:List Th}{so:List Str},EH w->(w.map (·.1)).Perm so->L4 w Ds->w.length+Ds.length < 60->((O9 w Ds).map (·.1)).Perm (stN so Ds):=by
   intro Ds;induction Ds with
   | nil=>intro w so _ p _ _;exact p
   | cons D r U=>
     intro w so R p hb m;have n:w.length+r.length+1 < 60:=by simpa [Nat.add_assoc] using m
     obtain⟨e,t⟩:=UK R hb.1 (by lia);have:stN so (D::r)=stN (BE so D) r:=by unfold stN;rw[b7V,A2H]
     rw[this];exact U e ((c9 hb.1).trans (Z0 p D)) hb.2 (by lia)
 intro Ds w R hb m;exact G R (List.Perm.refl _) hb m
end DL
namespace DL
open PySem PySem.Spec L2
section
theorem N9 (Ds:List Deed) (k j:Nat):(Ds.take k)[j]?=if j < k then Ds[j]? else none:=by rw[List.getElem?_take]
theorem fM (h:mkN (Ds.take k) j=al x):mkN Ds j=al x/\j < k:=by
 unfold mkN at h ⊢;rw[N9] at h;split at h;. exact#[h,by assumption]
 . cases h
theorem tX (h:enN (Ds.take k) j=al x):enN Ds j=al x/\j < k:=by
 unfold enN at h ⊢;rw[N9] at h;split at h;. exact#[h,by assumption]
 . cases h
theorem tY (h:x∈wnN (Ds.take k) j):x∈wnN Ds j/\j < k:=by
 unfold wnN at h ⊢;rw[N9] at h;split at h
 . rename_i q;split at q;. rename_i M;rw[q];exact#[h,M]
   . cases q
 . cases h
theorem A2I (h:j < k):mkN (Ds.take k) j=mkN Ds j/\enN (Ds.take k) j=enN Ds j/\wnN (Ds.take k) j=wnN Ds j:=by unfold mkN enN wnN;rw[N9,if_pos h];exact#[rfl,rfl,rfl]
theorem fN (h:BkD S Ds) (k:Nat):BkD S (Ds.take k):=λj=>by
 obtain⟨a,b⟩:=h j;refine#[λx e=>?_,λx hx=>?_];. obtain⟨e,M⟩:=fM e;exact#[(a x e).1,λi hi q=>(a x e).2 i hi (fM q).1]
 . obtain⟨hx,M⟩:=tY hx;exact#[(b x hx).1.imp id (by rintro⟨i,hi,e⟩;exact#[i,hi,by rw[(A2I (by lia)).1];exact e]),λi hi q=>(b x hx).2 i hi (tX q).1]
theorem vW (h:BkD S Ds):∀k,k<=Ds.length->∃a,StB S (stN S (Ds.take k)) a (Ds.take k)
 | 0,_=>#[S,#[λk=>by unfold mkN wnN;simp,λx=>by simp[mkN],λx=>by simp[enN,stN]]]
 | k+1,hk=>by
   obtain⟨a,r⟩:=vW h k (by lia);have e:Ds.take (k+1)=Ds.take k++[Ds[k]]:=by rw[a0V,zV (by lia)];rfl
   have hb:=fN h (k+1);rw[e] at hb ⊢;obtain⟨_,n,R⟩:=WN.mp hb;rw[oD];refine#[_,r.step (RW.mpr #[λx t q=>?_,λx hx=>(r.st_ x).mpr #[(r.kn_ x).mpr (R x hx).1,(R x hx).2]])];rcases (r.kn_ x).mp q with c | ⟨j,c⟩
   . exact(n x t).1 c
   . exact(n x t).2 j c
end
section
theorem A2J{w:List Th}{ls:List Ln} (hg:goodB w ls):wnN (dsL ls) m=CP (dsL ls) m:=by
 unfold wnN CP;cases h:(dsL ls)[m]? with
 | none=>rfl
 | some E=> obtain⟨l,e,rfl⟩:=zL.mp (yN h);exact(WM (hg.real l e)).symm
end
end DL
namespace DL
open PySem PySem.Spec L2
theorem A0r (h:BkD S Ds) (hD:Ds[k]?=al D) (hr:D.real):BD (stN S (Ds.take k)) D=none:=by
 have hk:k < Ds.length:=(yT.mp hD).1;obtain⟨a,r⟩:=vW h k (by lia);have e:Ds.take (k+1)=Ds.take k++[D]:=by rw[a0V,hD];rfl
 have hb:=fN h (k+1);rw[e] at hb;obtain⟨_,t,R⟩:=WN.mp hb;refine CN λn hn=>#[λq e=>?_,λq=>(r.st_ n).mpr ?_]
 . rcases (r.kn_ n).mp ((r.st_ n).mp q).1 with c | ⟨j,c⟩
   . exact(t n e).1 c
   . exact(t n e).2 j c
 . have hx:n∈JG D:=by rw[<-WM hr];exact yL.mpr #[hn,decide_eq_true q]
   exact#[(r.kn_ n).mpr (R n hx).1,(R n hx).2]
theorem tZ (h:BkD (oB w) Ds) (hr:∀D∈Ds,D.real) (R:EH w) (m:w.length+Ds.length < 60):L4 w Ds:=by
 have key:∀k,k<=Ds.length->L4 w (Ds.take k):=by
   intro k;induction k with
   | zero=>intro _;trivial
   | succ k U=>
     intro hk;have hD:Ds[k]?=al Ds[k]:=zV (by lia);have hb:=U (by lia);have n:(Ds.take k).length<=k:=by rw[a2Q];lia
     have r:rowP w (Ds.take k):=#[R,hb,by lia]
     obtain⟨e,t⟩:=nU r;have O:=hr _ (yN hD);rw[a0V,hD];refine UJ hb #[#[e.1.nodup,by lia],O,?_];rw[c8 (tW R hb (by lia))];exact A0r h hD O
 have:=key _ (zR _);rwa [a1V] at this
structure CB (w:List Th) (ls:List Ln):Prop where
 good:goodB w ls
 fine:EH w
 bk:BkD (oB w) (dsL ls)
 len:w.length+ls.length < 60
section
theorem CB.book (h:CB w ls):L4 w (dsL ls):=tZ h.bk (λD hD=>by obtain⟨l,m,rfl⟩:=zL.mp hD;exact h.good.real l m) h.fine (by rw[zX];exact h.len)
end
section
theorem u0 (hB:BkD S DB) (hi:κ.Pairwise (· < ·)) (D:∀k∈κ,k < DB.length) (n:∀b∈κ,∀x∈wnN DB b,∀j,j < b->mkN DB j=al x->j∈κ):BkD S (AW DB κ):=by have:=tV (c:=0) (DA:=[]) (S:=S) (κ:=κ) (λk=>by unfold mkN wnN;simp) hB (by simp) (xT _) hi (λk hk=>#[xT _,D k hk]) (λb _ x _ j _ q=>by unfold mkN at q;simp at q) (λb _ x _ j _ q=>by unfold enN at q;simp at q) (λb hb x hx j _ M e=>n b hb x hx j M e);exact this
end
end DL
namespace DL
open PySem PySem.Spec L2
section
variable {M:Own}{Q:DS->Own->Prop}{w:List Th}{ls:List Ln}{D:Deed}
structure B33 (w:List Th) (ls:List Ln):Prop where
 cb:CB w ls
 five:w.length<=5
def bkX (h:Int) (cs:List Int):List DS:=[.d (.int h),.d (.list (cs.map .int))]
def NA:FSp:=#[λt M=>∃(h:Int) (B:List Int),t=bkX h B/\xJ h<=2 ^ 21/\(∀c∈B,xJ c<=2 ^ 21)/\B.length<=40,λt M y i=>∀(h:Int) (B:List Int),t=bkX h B->i=M/\∃(w:List Th) (ls:List Ln),y = .d (AM w ls)/\B33 w ls/\ls.length<=B.length]
theorem ZG (h1:xJ h<=2 ^ 21) (e:∀c∈cs,xJ c<=2 ^ 21) (G:cs.length<=40) (q:∀(w:List Th) (ls:List Ln),B33 w ls->ls.length<=cs.length->Q (.d (AM w ls)) M):(bkX h cs).length=2/\NA.pre (bkX h cs) M/\∀x i,NA.post (bkX h cs) M x i->Q x i:=#[rfl,#[h,cs,rfl,h1,e,G],λx i t=>by obtain⟨rfl,w,ls,rfl,a,b⟩:=t h cs rfl;exact q w ls a b]
theorem u4 (e:bkX h cs=bkX h' N):h=h'/\cs=N:=by unfold bkX at e;simp only[List.cons.injEq,DS.d.injEq,PyData.int.injEq,PyData.list.injEq,and_true] at e;exact#[e.1,(List.map_inj_right (λa b h=>PyData.int.inj h)).mp e.2]
theorem B33.of (t:EH w) (hp:(oB w).Perm I) (e:w.length<=5) (hn:namesOK (I++R)) (hq:lnQ I R cs ls L sp) (hc:cs.length<=40):B33 w ls:=by
 have T:lnQ L sp [] [] L sp:=#[trivial,rfl,by simp,by simp,hq.2.2.2.2]
 have n:=hq.2.2.2.1;have hg:goodB w ls:=by have:=cP (w:=w) hn hq (.refl _) T (by simp;lia);rwa [a6Q] at this
 have hb:BkD (oB w) (dsL ls):=by have:=o8 (S:=oB w) (λx=>hp.mem_iff) hn hq (.refl _) T;rwa [a6Q] at this
 exact#[#[hg,t,hb,by lia],e]
theorem CB.row (h:CB w ls):rowP w (dsL ls):=#[h.fine,h.book,by rw[zX];exact h.len]
theorem u5 (hg:goodB w ls) (hx:x∈wnN (dsL ls) b) (t:j < b) (e:mkN (dsL ls) j=al x):j∈BI (dsL ls) b:=by unfold BI;rw[A2J hg] at hx;exact yL.mpr #[List.mem_range.mpr t,by unfold LY;rw[e];exact decide_eq_true hx]
end
end DL
namespace L2
open PySem PySem.Spec PyProof.Rows
def vX (e G iter:ca) (ifs:List ca) (dp:Nat) (em:Sem Fin->Sem Fin) (it acc:ar) (env:Env):Sem Fin:=do
 standAt iter.pos
 match <- pyNext it with
 | none=>pure (.done .next)
 | some v=>
   letOwnedTupleGo G it v
   ij G env v
   let mut ok:=ap
   for c in ifs do
     if ok then ok <- isTrue c env (eval c env)
   if ok then em (again (.compLoop e dp it acc env)) else again (.compLoop e dp it acc env)
def oE (prog:bq) (w:bo) (A:cx) (c target:ca) (ifs:List ca) (dp:Nat) (tl:Env->Addr->(ba->Prop)->ba->Prop):Prop:=∀(t D:Addr) (env:Env) (R:Result->ba->Prop) (I:Nat->ba->Prop),(∀n s,I n s->wpAny (model prog w) A (pyNext (.ref t)) (λr J=>match r with
     | none=>R (.ok .next) J
     | some v=>wpAny (model prog w) A (letOwnedTupleGo target (.ref t) v) (λ_ k=>wpAny (model prog w) A (ij target env v) (λ_ e=>
         wpAny (model prog w) A (LO ifs env) (λok L=>if ok=ap then tl env D (λs'=>∃m,m < n/\I m s') L else ∃m,m < n/\I m L) (λ_ _=>False) e) (λ_ _=>False) k) (λ_ _=>False) J) (λ_ _=>False) s) ->
   ∀n s,I n s->codeAny (model prog w) A (.compLoop c dp (.ref t) (.ref D) env) R s
theorem oF {em:Addr->Env->Sem Fin->Sem Fin} (he:∀it D env,compTurn (.ListComp elt gens scope pos) dp (.ref it) (.ref D) env=vX (.ListComp elt gens scope pos) target iter ifs dp (em D env) (.ref it) (.ref D) env) (O:∀env D P s k Q E,tl env D P s->(∀s',P s'->wpAny (model prog w) A k Q E s')->wpAny (model prog w) A (em D env k) Q E s):oE prog w A (.ListComp elt gens scope pos) target ifs dp tl:=by
 intro it D env R I turn n s h;refine codeAny_loop rfl I (λn s hI=>?_) n h;show wpAny _ A ((compTurn (.ListComp elt gens scope pos) dp (.ref it) (.ref D) env).onRaise (λx=>do noteFrame x env;theTreesLotGoes x)) _ _ s;refine wpAny_noted ?_;rw[he];unfold vX;refine zZ (df (zZ (ce (AL (turn n s hI)) (λr J U=>?_) λ_ _ h'=>h')));cases r with
 | none=>exact zY U
 | some v=>
   refine zZ (ce (AL U) (λ_ t z=>?_) λ_ _ h'=>h');refine zZ (ce (AL z) (λ_ o e=>zZ (ce (AL e) (λok L a=>?_) λ_ _ h'=>h')) λ_ _ h'=>h');cases ok with
   | false=>exact zY #[rfl,a]
   | true=>exact O _ _ _ _ _ _ _ a λi X=>zY #[rfl,X]
def tlC (prog:bq) (w:bo) (A:cx) (c I:ca):Env->Addr->(ba->Prop)->ba->Prop:=λenv D P s=>
 wpAny (model prog w) A (eval I env) (λx J=>wpAny (model prog w) A (pyIter x) (λt e=>codeAny (model prog w) A (.compStart c 1 t (.ref D) env) (λr s'=>match r with | .ok _=>P s' | .error _=>False) e) (λ_ _=>False) J) (λ_ _=>False) s
section
theorem A0s (hs:∀env x,cv ai env x=pure x):VM prog w A (.ListComp elt [#[tg,iter,[],0],#[ja,ai,[],0]] scope pos) tg [] (tlC prog w A (.ListComp elt [#[tg,iter,[],0],#[ja,ai,[],0]] scope pos) ai):=by
 refine oF (iter:=iter) (dp:=0) (em:=λD env k=>do
           let x <- eval ai env
           standAt ai.pos
           let x <- cv ai env x;let _ <- runOwn (.compStart (.ListComp elt [#[tg,iter,[],0],#[ja,ai,[],0]] scope pos) 1 (<- holding [x] (pyIter x)) (.ref D) env) env
           k) (λI D env=>rfl) λenv D P s k Q E h hk=>?_;refine zZ (thn (AL h) λx J U=>zZ (df (zZ (ej (hs env x) (zZ (bv (thn (AL U) λI n t=>?_)))))));refine zZ (wpAny_runOwn (codeAny_mono t λr s' hr=>?_));cases r with
 | ok f=>exact hk _ hr
 | error e=>exact hr.elim
theorem oG:oE prog w A (.ListComp elt [#[tg,iter,[],0],#[ja,ai,[],0]] scope pos) ja [] 1 (tlL prog w A elt):=by refine oF (iter:=ai) (em:=λD env k=>(do let _ <- call (.builtin "list.append") [.ref D,<-eval elt env]) >>= λ_=>k) (λI D env=>rfl) λenv D P s k Q E h hk=>?_;exact zZ (zZ (thn (AL h) λx t X=>zZ (thn (AL X) λ_ n e=>zY (hk _ e))))
theorem jA  (h0:codeAny (model prog w) A (.compLoop (.ListComp elt [#[tg,iter,[],0],#[ja,ai,[],0]] scope pos) 1 it acc env) R s) (h:wpAny (model prog w) A (pyIter it) (λa s'=>codeAny (model prog w) A (.compLoop (.ListComp elt [#[tg,iter,[],0],#[ja,ai,[],0]] scope pos) 1 a acc env) R s') (notedBy (model prog w) A env λx s'=>R (.error x) s') s) :
   codeAny (model prog w) A (.compStart (.ListComp elt [#[tg,iter,[],0],#[ja,ai,[],0]] scope pos) 1 it acc env) R s:=by
 refine codeAny_of_tree ?_;show wpAny _ _ ((compStart (.ListComp elt [#[tg,iter,[],0],#[ja,ai,[],0]] scope pos) 1 it acc env).onRaise (λx=>do noteFrame x env;standAt theWindowsPlace)) _ _ s;refine wpAny_notedAt ?_;unfold compStart;show wpAny _ _ (ask >>= _) _ _ s;refine zZ (wpAny_askSetting (wpAny_ite ?_));split
 . first
     | exact zZ (zY (zY (And.intro rfl h0)))
     | exact zY (And.intro rfl h0)
 . first
     | exact zZ (dV (zZ (df (zZ (ce h (λa s' h'=>zY (And.intro rfl h')) λ_ _ x=>x)))))
     | (refine zZ (dV ?_);show wpAny _ _ (standAt ai.pos >>= _) _ _ s;exact zZ (df (zZ (ce h (λa s' h'=>zY (And.intro rfl h')) λ_ _ x=>x))))
end
def A0t (r:TI) (q:TG) (b:TE):Addr->Nat->(Nat->List V->Hp->Prop)->St->Hp->Prop:=λD n W t H=>r t H λJ a=>∃k:Nat->Nat->Hp->Prop,(∃m,k 0 m a) /\∀i m g,k i m g->(J.stop i g/\∃j c,j < n/\W j c g)\/(J.go i g/\∀x Z,J.yld i g x Z->q x t Z λe o=>
   (∀(i:Nat) v,t[i]?=al (al v)->e[i]?=al (al v))/\b e o λy p=>∃O,p D=al (.lst O)/\O.length < bd/\∃j,j < m/\k (i+1) j (upd p D (.lst (O++[y]))))
def oH (b:List (Option Nat)) (o:TI) (g:TG) (e:TI) (q:TG) (t:TE):TE:=vH b o g qR [] .lst (A0t e q t)
section
variable {X:Cx}{scope:gc}{NC:List Str}{fr:List (Option Nat)}{elt iter tg ai ja:ca}{pos:fb}{wi nq:TI}{g g1:TG}{te:TE}
theorem jB (hx:Y.xe=λ_ _=>False) (hc:Y.calm=ap) (hi:PI Y ja ai nq) (hg:PG Y ja g1) (he:PE Y elt te) {t:St} (I:Inv Y a t H s) (q:A0t nq g1 te D n W t H) (k:∀m y z f,m < n->W m y z->Inv Y a t z f->P f):tlC Y.prog Y.w Y.A (.ListComp elt [#[tg,iter,[],0],#[ja,ai,[],0]] scope pos) ai Y.env D P s:=by
 have hi':=hi a s t H _ I q;rw[hx] at hi';refine thn hi' λv s1 h1=>thn h1 λyw f h2=>?_;obtain⟨it,O,tn,J,z,e,I2,T,Q,L,B,⟨m0,w0⟩,turn⟩:=h2;subst e;have stat:∀{H':Hp},(∀b∈O,H' b=am)->∀b∈O,LM Y a H' b:=λhn b hb=>#[hn b hb,(L b hb).2]
 have loop:codeAny (model Y.prog Y.w) Y.A (.compLoop (.ListComp elt [#[tg,iter,[],0],#[ja,ai,[],0]] scope pos) 1 (.ref it) (.ref D) Y.env) (λr s'=>match r with | .ok _=>P s' | .error _=>False) f:=by
   refine oG _ _ _ _ (λn s'=>∃i H',Inv Y a t H' s'/\tn i s'.heap/\(∀b∈O,H' b=am)/\B i n H') ?_ m0 _ #[0,_,I2,Q,λb hb=>(L b hb).1,w0];rintro n s3 ⟨i,Z,M,G,vn,w3⟩;rcases turn i n Z w3 with ⟨stop,j,ys,hm,wn⟩ | ⟨go,step⟩
   . refine thn (T.done Y rfl rfl rfl hc i a s3 t Z _ M (stat vn) G stop) ?_;rintro r s4 ⟨hr,I4⟩;subst hr;exact k j ys Z s4 hm wn I4
   . refine thn (T.item Y rfl rfl rfl hc i a s3 t Z _ M (stat vn) G go) ?_;rintro r s4 ⟨u,hr,h4⟩;subst hr;refine thn h4 ?_;rintro _ s5 ⟨x,S,I5,r5,y5,N,uu⟩;have Af:=I5.pinned (stat uu) (T.obj _ _ N);have wg:=hg _ s5 t S x u _ Af r5 (step x S y5);rw[hx] at wg;refine thn wg ?_;rintro _ s6 ⟨p,H6,I6,Bt,q6⟩;refine wpAny_tests_nil (if_pos rfl▸?_);have R:=he _ s6 p H6 _ I6 q6;rw[hx] at R;refine thn R ?_;rintro y s7 ⟨yv,H7,I7,r7,cg,hD,hsz,j,tq,w'⟩;have U:=NR _ s7 p H7 (.ref D) [yv] (.ref D) [y] (λ_ H'=>∃j,j < n/\B (i+1) j H') I7 rfl (.cons r7 .nil) #[_,cg,yv,rfl,rfl,hD,hsz,j,tq,w'];rw[hx] at U;refine thn U ?_;rintro _ s8 ⟨_,H8,c,_,wj,tu,As⟩;refine#[wj,tu,i+1,H8,c.unpinned.weak (by rw[c.len,I.len]) Bt,T.keep _ _ _ N λb hb o e=>(c.pin (b,o) (zB _ (zB _ (DU hb e)))).1,λb hb=>?_,As];obtain⟨o,e,d⟩:=T.obj _ _ N b hb;exact(c.pin (b,o) (zB _ (zB _ (DU hb e)))).2.1
 exact jA loop (T.self _ 0 _ _ _ Q loop)
theorem oI (hc:X.calm=ap) (S:CSc X scope NC fr) (hi:PI X tg iter wi) (hb:∀(C:Addr) (s:ba) (H:Hp) (e:List Addr) (t:List (Addr×dc)),PG (AS X scope NC C s H e t) tg g/\PI (AS X scope NC C s H e t) ja ai nq/\PG (AS X scope NC C s H e t) ja g1/\PE (AS X scope NC C s H e t) elt te) (hs:∀x,cv iter X.env x=pure x:=by intro _;rfl) (i:∀env x,cv ai env x=pure x:=by intro _ _;rfl):PE X (.ListComp elt [#[tg,iter,[],0],#[ja,ai,[],0]] scope pos) (oH fr wi g nq g1 te):=by
 intro pins s a H Q I h;rw[eval_ListComp];refine NV (use:=am) (Q:=Q) (y0:=[]) (at_:=.lst) (Ty:= "list") (dt:=.seq #[]) (tl:=tlC X.prog X.w X.A (.ListComp elt [#[tg,iter,[],0],#[ja,ai,[],0]] scope pos) ai) (el:=A0t nq g1 te) rfl rfl (by size_fits) (λH h _=>#[xT _,[],0,.nil,yZ _ rfl]) (A0s i) codeAny_compStart_list hc S hi (λC s H e t=>#[(hb C s H e t).1,e8,λp_ s' a H' D n W P I q k=>?_]) I h (λD C H' s' m O U hn q back _ h' o=>?_) hs;. exact jB (Y:=AS X scope NC C s H e t) rfl hc (hb C s H e t).2.1 (hb C s H e t).2.2.1 (hb C s H e t).2.2.2 I q k
 . exact#[.ref D,H',back pins a H' s' h' U o,rfl,q]
end
end L2
namespace DL
open PySem PySem.Spec L2
theorem jC {e S:Type}(F:e->List S) {l:List e}{i:Nat}{d:e}(h:l[i]?=al d):(l.take (i+1)).flatMap F=(l.take i).flatMap F++F d:=by rw[a0V,h,List.flatMap_append];simp
theorem oJ {t S:Type}(F:t->List S) (l:List t) (i:Nat):((l.take i).flatMap F).length<=(l.flatMap F).length:=by
 have e:(l.take i).flatMap F++(l.drop i).flatMap F=l.flatMap F:=by rw[<-List.flatMap_append,b1X]
 rw[<-e,yY];exact a8X _ _
section
theorem fQ {N:Own}:(N.del A).Sub N:=λb o q=>by
 unfold Own.del at q;by_cases hb:b=A;. rw[if_pos hb] at q;cases q
 . rw[if_neg hb] at q;exact q
theorem oK (ho:HW g T) (hT:∀i∈T,∀j,b[i]?≠al (al j)) (gr:HW g1 T1) (hT1:∀i∈T1,i∉T/\∀j,b[i]?≠al (al j)) (h:DI K wi ρ M λds M1=>∃(r:PyData->List PyData) (f:PyData->PyData->PyData),(ds.flatMap λd=>(r d).map (f d)).length < bd/\(∀d∈ds,∀a,DG K g d (CA b ρ) a λL M2=>M2=a/\DI K nq L M2 λt M3=>M3=a/\t=r d/\∀e∈t,∀a,DG K g1 e L a λp M4=>M4=a/\DE K te p M4 λy M5=>y = .d (f d e)/\M5=a)/\Q (.d (.list (ds.flatMap λd=>(r d).map (f d)))) M1) :
   DE K (oH b wi g nq g1 te) ρ M Q:=λσ H QQ R k=>
 h σ H _ R λJ ds H1 M1 U t1 wd cu=>by
   obtain⟨r,f,hsz,he,q⟩:=cu;intro A hA;obtain⟨oA,sA⟩:=K6 U hA (DVs.nil (K:=K) (H:=H1) (W:=M1.W));generalize hF:(λd=>(r d).map (f d))=F at hsz q;refine#[λi m ys n=>m=ds.length - i/\i<=ds.length/\n A=al (.lst ys)/\OA K n (M1.put A (.l ((ds.take i).flatMap F)))/\Step K M1 (M1.put A (.l ((ds.take i).flatMap F))) H1 n,#[_,rfl,xT _,AD,oA,sA],?_];rintro i m ys n ⟨rfl,hi,om,B,S⟩;refine#[om,?_];by_cases be:i < ds.length
   . refine .inr #[wd.go i n _ be B S,λx Z y=>?_];obtain⟨qo,ee,d,e1,e2⟩:=wd.yld i n _ x Z B S be y;have Rc:Rel K _ (CA b ρ) (L2.capt b σ) Z:=((R.step U t1).step qo (S.trans ee)).capt;refine ho _ _ _ _ (he d (yN e1) _ (L2.capt b σ) Z x _ Rc e2 λp M3 c H4 R3 j_ #[eM,b3] hext=>#[λO v' v=>?_,?_]);. obtain⟨j,r,f2⟩:=D3 v;rw[hext O λhm=>hT O hm j r];exact v
     . subst eM;unfold qR;refine L2.gU ?_;refine b3 c H4 _ R3 ?_;rintro J1 t H5 M5 o5 t5 X ⟨xj,Kh,oq⟩;subst xj;have Ea:F d=t.map (f d):=by rw[<-hF,Kh]
       have Eb:=jC F e1;have rf:((ds.take i).flatMap F).length+t.length < sizeLine:=by have:=oJ F ds (i+1);rw[Eb,yY,Ea,zX] at this;lia
       refine#[λj m u=>m=t.length - j/\j<=t.length/\OA K u (M1.put A (.l ((ds.take i).flatMap F++(t.take j).map (f d))))/\Step K (M1.put A (.l ((ds.take i).flatMap F))) (M1.put A (.l ((ds.take i).flatMap F++(t.take j).map (f d)))) H5 u,#[_,rfl,xT _,by simpa using o5,by simpa using Step.refl],?_];rintro j m u ⟨rfl,hj,D,I⟩;by_cases hjl:j < t.length
       . refine .inr #[X.go j u _ hjl D I,λx1 Y y1=>?_];obtain⟨Ki,qa,e,Ec,xg⟩:=X.yld j u _ x1 Y D I hjl y1;have R7:Rel K _ p c Y:=R3.step Ki ((t5.trans I).trans qa);refine gr _ _ _ _ (oq e (yN Ec) _ c Y x1 _ R7 xg λρ4 M8 σ4 H8 R8 st8 #[Kj,b8] hext1=>#[λO v' v=>?_,?_])
         . rw[hext1 O λhm=>?_];. exact v
           . obtain⟨hn,hc⟩:=hT1 O hm;rw[hext O hn] at v;obtain⟨j',Bh,_⟩:=D3 v;exact hc j' Bh
         . subst Kj;refine b8 σ4 H8 _ R8 ?_;rintro y H9 z M9 o9 s9 Kk ⟨ez,Kl⟩;subst ez Kl;obtain⟨G,q1,q2⟩:=o9 A _ zU;obtain⟨w1,w2⟩:=DY o9 zU (q2.append (DVs.cons s9 DVs.nil));rw[yI] at w1 w2;have e3:(ds.take i).flatMap F++(t.take j).map (f d)++[f d e]=(ds.take i).flatMap F++(t.take (j+1)).map (f d):=by rw[a0V,Ec,a7Q];simp
           rw[e3] at w1 w2;refine#[G,q1,?_,t.length - (j+1),by lia,rfl,hjl,w1,(((I.trans qa).trans st8).trans Kk).trans w2];rw[q2.length,yY,zX,a2Q];lia
       . have e:j=t.length:=by lia
         subst e;obtain⟨G,q1,q2⟩:=D A _ zU;rw[a1V,<-Ea,<-Eb] at D I;exact .inl #[X.stop u _ D I,ds.length - (i+1),G,by lia,rfl,be,q1,D,(((S.trans ee).trans j_).trans t5).trans I]
   . have e:i=ds.length:=by lia
     subst e;refine .inl #[wd.stop n _ B S,?_];obtain⟨G,q1,q2⟩:=B A _ zU;have e4:=yG (o:=.l ((ds.take ds.length).flatMap F)) (U.none hA);have bi:Step K (M1.put A (.l ((ds.take ds.length).flatMap F))) M1 n n:=by
       have:=(#[B2 (fQ (N:=M1.put A (.l ((ds.take ds.length).flatMap F))) (A:=A))]:Step K _ _ n n)
       rwa [e4] at this
     have Km:OA K n M1:=by have:=B.sub (fQ (A:=A));rwa [e4] at this
     refine k _ n (.d (.list (ds.flatMap F))) M1 Km ?_ ((t1.trans S).trans bi) q;unfold SI DV;rw[a1V] at q2 bi;exact#[A,G,rfl,.inl #[λw=>w (U.none hA),.inl q1],q2.grow bi.grow]
end
end DL
namespace L2
open PySem PySem.Spec PyProof.Rows
section
variable {X:Cx}
def ZH (t:TE):TE:=λn H Q=>t n H λv e=>∃a kvs,v = .ref a/\Rd e a (.dK kvs)/\∀p,e p=am->Q (.ref p) (upd e p (.lst (kvs.map (·.2))))
theorem cR {o:ca}{N:TE}{n S pos mp:fb}(G:X.A.handled=am) (ue:Gl X "list") (uy:X.mg "list"=am) (he:PE X o N) (hs:starEach [.Call (.Attribute o "values" n) [] [] S] X.env=[(bj,eval (.Call (.Attribute o "values" n) [] [] S) X.env)]:=by rfl)
   (Y:ie o "values" X.env (eval o X.env)=eval o X.env:=by rfl) (Z:(n.endLine==S.line)=true:=by rfl) :
   PE X (.Call (.Name "list" mp) [.Call (.Attribute o "values" n) [] [] S] [] pos) (ZH N):=by
 intro pins s f H Q I h;refine eD (FI I ue uy b8W ?_);refine xH ?_ hs rfl;rw[hs];refine(show wpAny _ _ (spliced ((bj,eval (.Call (.Attribute o "values" n) [] [] S) X.env)::backTo pos (starEach [] X.env))) _ _ _ from xP ?_);refine wpAny_Call_method0_late Y Z (thn (he pins s f H _ I h) λv t M=>?_);obtain⟨x,k,D,r1,a,kvs,B,p,q⟩:=M;subst B;obtain rfl:v=a0X a:=r1;obtain⟨t1,t2,_⟩:=bC D (.inl #[kvs,p]);refine#[_,_,b3V,PySem.F.slot_dict_values,PySem.F.type_dict_values,t1,t2,b0X rfl (PySem.evalArgs_none ?_)];obtain⟨z,lo,i,rel,g⟩:=IW D.hok p;refine gp PySem.F.slot_dict_values g.typeIs PySem.F.entry_dict_values (PySem.F.args_dict_values_1 _) (meets_dict_values (AG X.prog X.w) a lo) #[#[i,g],?_];refine(show wpAny _ _ (spliced []) _ _ _ from zY ?_);obtain⟨ep,O⟩:=g.dictAt;have u:Inv X pins f k { t with heap:=t.heap.push { cls:=.type "dict_values", data:=.fields (z3 [.ref a]) } }:=D.kept (t':=t.toks) λb o e=>zW _ e;have y:i.length=kvs.length:=rel.length.symm;refine PySem.W.kdl_call (PySem.W.kdl_values (knd:=AG X.prog X.w) (kvs:=i) (ep:=ep) (d:=a) (r:=t.heap.objs.size)) G #[#[_,yZ _ rfl,rfl,rfl],O.push _] (by rw[y];exact z) λh' L acc c hk T m=>?_;have J:Vals (kvs.map (·.2)) acc.toList:=by
   have e:=PySem.W.kdl_vals_eq (kvs:=i) acc.toList (by rw[a3V];exact m.1) λj v e=>m.2 j v (by rw[<-a7W];exact e);rw[e];clear e m T hk O g z p q y;induction rel with
   | nil=>exact .nil
   | cons h _ U=>exact .cons h.2 U
 have R:Inv X pins f (upd k (t.heap.push { cls:=.type "dict_values", data:=.fields (z3 [.ref a]) }).objs.size (.lst (kvs.map (·.2)))) { t with heap:=h',toks:=L }:=
   u.laid (t':=L) hk (zR _) (show ObjOk X.prog X.w _ _ _ (.lst _) from #[by rw[zX];exact z,acc.toList,c,J,by simpa using T]);exact#[.ref _,_,R,rfl,q _ (u.hok.fresh (zR _))]
end
end L2
namespace DL
open PySem PySem.Spec L2
section
theorem ZI:∀{kvs:List (PyData×PyData)}{ks:List (Key×V)},DKV K H W kvs ks->DVs K H W (kvs.map (·.2)) (ks.map (·.2))
 | [],ks,h=>by unfold DKV at h;subst h;exact DVs.nil
 | (k,d)::r,ks,h=>by unfold DKV at h;obtain⟨J,v,e,rfl,_,h1,a⟩:=h;exact DVs.cons h1 (ZI a)
theorem RZ (h:DE K i ρ M λx M1=>∃a kvs,x = .loc a/\M1 a=al (.d kvs)/\Q (.d (.list (kvs.map (·.2)))) M1):DE K (ZH i) ρ M Q:=λb H QQ S k=>
 h b H _ S λv t x M1 e o y N=>by obtain⟨a,kvs,r,m,q⟩:=N;subst r;unfold SI at o;obtain⟨n,c,f⟩:=e a _ m;refine#[a,n,o,.inl c,λp hp=>?_];have g:Grow K M1.W M1.W t (upd t p (.lst (n.map (·.2)))):=AZ _ hp;refine k _ _ (.d (.list (kvs.map (·.2)))) M1 (e.new hp) ?_ (y.trans #[g]) q;unfold SI DV;exact#[p,_,rfl,.inl #[λw=>w (e.none hp),.inl AD],(ZI f).grow g]
end
end DL
namespace DL
open PySem PySem.Spec L2
section
theorem u6 (h:DE K ty ρ M λy M1=>DE K td ρ M1 λx M2=>∃(ts:List (Str×PyData)) (k:Str),x = .d (.dict (AN ts))/\y = .d (.str k)/\Q (.d (.bool (AO ts k).isSome)) M2):DE K (qN ty td) ρ M Q:=λi H QQ R Y=>
 h i H _ R λv r x M1 b z o h1=>h1 i r _ (R.step b o) λu g y M2 j n T p=>by
   obtain⟨ts,k,rfl,rfl,q⟩:=p;unfold SI DV at n;obtain⟨a,e,rfl,nw,m,f⟩:=n;rw[BA z];refine#[a,DW e (a1Z k),rfl,.inl #[e,a1Z k,m,rfl,rfl],Y _ g _ M2 j ?_ (o.trans T) q];rcases FL (k:=k) f with ⟨J,N,t,c,D⟩ | ⟨t,c⟩
   . rw[t,c];exact AF
   . rw[t,c];exact AF
end
def tcN (Ds:List Deed) (m k:Nat):Bool:=match Ds[m]?,Ds[k]? with | some D,al E=>E1 D.d E.d | _,_=>bj
def S0 (tc:Nat->Nat->Bool) (o co acc:List Nat) (k:Nat):Bool:=!decide (k∈o)||(co++acc).any λm=>decide (m < k)&&tc m k
def lfL (tc:Nat->Nat->Bool) (o co l:List Nat):List Nat:=l.foldl (λacc k=>if S0 tc o co acc k=ap then acc++[k] else acc) []
def coN (st o:List Nat):List Nat:=o.filter λm=>!decide (m∈st)
def lfB (p:List (Str×Deed)) (st o:List Nat):List Nat:=lfL (tcN (dsL p)) o (coN st o) st
section
variable {tc:Nat->Nat->Bool}{ws co l st F acc:List Nat}{i k m:Nat}
theorem u7:lfL tc ws co (l++[k])=if S0 tc ws co (lfL tc ws co l) k=ap then lfL tc ws co l++[k] else lfL tc ws co l:=by unfold lfL;rw[c1X];rfl
theorem FR:(lfL tc ws co l).Sublist l:=by
 have G:∀(l acc:List Nat),(l.foldl (λacc k=>if S0 tc ws co acc k=ap then acc++[k] else acc) acc).Sublist (acc++l):=by
   intro l;induction l with
   | nil=>intro acc;simp
   | cons k r U=>
     intro acc;rw[b7V];split;. have:=U (acc++[k]);rwa [a7Q] at this
     . exact(U acc).trans (List.Sublist.append_left (List.sublist_cons_self k r) acc)
 exact G l []
theorem GG (h:st[i]?=al k):lfL tc ws co (st.take (i+1))=if S0 tc ws co (lfL tc ws co (st.take i)) k=ap then lfL tc ws co (st.take i)++[k] else lfL tc ws co (st.take i):=by rw[a0V,h];exact u7
theorem fR (t:st.Pairwise (· < ·)) (hk:st[i]?=al k):m∈st.take i↔m∈st/\m < k:=by
 obtain⟨hi,e⟩:=yT.mp hk;have c:st=st.take i++k::st.drop (i+1):=by have:=b1X i st;rw[c0X hi,e] at this;exact this.symm
 rw[c] at t;obtain⟨_,a,G⟩:=List.pairwise_append.mp t;rw[a4Z] at a;constructor;. intro h;exact#[a9Q h,G m h k (by simp)]
 . rintro⟨h,j⟩;rw[c] at h;rcases yW.mp h with h | h;. exact h
   . rcases yX.mp h with rfl | h;. lia
     . have:=a.1 m h;lia
end
def clN (tc:Nat->Nat->Bool) (k:Nat) (c:List Nat):Bool:=match c.getLast? with | some m=>decide (m < k)&&tc m k | none=>bj
def clD (tc:Nat->Nat->Bool) (k:Nat):PyData->Bool
 | .tuple ds=>match ds.getLast? with | some (.int i)=>decide (i < (k:Int))&&tc i.toNat k | _=>bj
 | _=>bj
theorem jD {m:Nat}(h:c.getLast?=al m):(AA c).getLast?=al (.int (m:Int)):=by unfold AA BX;rw[c0V,c0V,h];rfl
theorem oM (tc:Nat->Nat->Bool) (k:Nat) (c:List Nat):clD tc k (chD c)=clN tc k c:=by
 show(match (AA c).getLast? with | some (.int i)=>decide (i < (k:Int))&&tc i.toNat k | _=>bj)=_;unfold clN;cases h:c.getLast? with
 | none=> have:c=[]:=List.getLast?_eq_none_iff.mp h;subst this;rfl
 | some m=> rw[jD h];show(decide ((m:Int) < (k:Int))&&tc ((m:Int)).toNat k)=(decide (m < k)&&tc m k);rw[a3K,show decide ((m:Int) < (k:Int))=decide (m < k) by rw[a2Z,decide_eq_true_iff,decide_eq_true_iff];lia]
abbrev JI (co:List Nat):EL:=co.map λm=>(m,[m])
structure LsI (E:EL) (i:Nat):Prop where
 last:∀t∈E,t.2.getLast?=al t.1
 few:∀t∈E,t.2.length<=i+1
theorem WO (co:List Nat) (i:Nat):LsI (JI co) i:=#[λt h=>by obtain⟨m,_,rfl⟩:=zL.mp h;rfl,λt h=>by obtain⟨m,_,rfl⟩:=zL.mp h;simp]
theorem LsI.snoc (h:LsI E i) (m:c.getLast?=al k) (hc:c.length<=i+2):LsI (E++[(k,c)]) (i+1):=#[λt a=>by
   rcases yW.mp a with q | q;. exact h.last t q
   . rw[show t=(k,c) by simpa using q];exact m,λt a=>by
   rcases yW.mp a with q | q;. have:=h.few t q;lia
   . rw[show t=(k,c) by simpa using q];exact hc]
theorem LsI.more (h:LsI E i):LsI E (i+1):=#[h.last,λt a=>by have:=h.few t a;lia]
theorem ZJ :∀{E:EL},(∀t∈E,t.2.getLast?=al t.1)->(E.map (·.2)).any (clN tc k)=(E.map (·.1)).any λm=>decide (m < k)&&tc m k
 | [],_=>rfl
 | t::r,h=>by rw[zI,zI,a5V,a5V,ZJ (E:=r) λx hx=>h x (yV _ hx)];congr 1;unfold clN;rw[h t (by simp)]
theorem oN (h:LsI E i):(((JI co++E).map (·.2)).any (clN tc k))=(co++E.map (·.1)).any λm=>decide (m < k)&&tc m k:=by rw[ZJ λt a=>(yW.mp a).elim ((WO co 0).last t) (h.last t),xI];congr 2;rw[zD];exact b3Z _
theorem fS (E:EL):(AR (cvE E)).map (·.2)=(E.map (·.2)).map chD:=by unfold AR cvE;rw[zD,zD,zD];rfl
theorem jE (tc:Nat->Nat->Bool) (k:Nat) (L:List (List Nat)):(((L.map chD).filter (clD tc k)).map id)=(L.filter (clN tc k)).map chD:=by rw[b3Z,xU];congr 2;funext c;exact oM tc k c
theorem WP (h:m∉E.map (·.1)):tQ E m c=E++[(m,c)]:=by unfold tQ;rw[if_neg λq=>?_];obtain⟨t,h1,a⟩:=List.any_eq_true.mp q;exact h (zL.mpr #[t,h1,of_decide_eq_true a])
def nI:PyData->Int | .int i=>i | _=>0
def u8:PyData->PyData | d=>.tuple [d]
theorem UQ:∀(co:List Nat) (E:EL),co.Nodup->(∀m∈co,m∉E.map (·.1))->(AA co).foldl (λts d=>EU ts (nI d) (u8 d)) (cvE E)=cvE (E++JI co)
 | [],E,_,_=>by rw[show JI []=[] from rfl,a6Q];rfl
 | m::r,E,nd,h=>by
   show(AA r).foldl (λts d=>EU ts (nI d) (u8 d)) (EU (cvE E) (m:Int) (chD [m]))=_;rw[cJ,WP (h m (by simp)),UQ r _ (xV.mp nd).2 λx hx=>?_,a7Q];. rfl
   . rw[xI];intro q;rcases yW.mp q with q | q;. exact h x (yV _ hx) q
     . rw[show x=m by simpa using q] at hx;exact(xV.mp nd).1 hx
structure isSt (ls:List (Str×Deed)) (st:List Nat):Prop where
 inc:st.Pairwise (· < ·)
 lt:∀k∈st,k < ls.length
 needs:∀k∈st,∀j∈BI (dsL ls) k,j∈st
theorem fT:∀{st:List Nat}{n a:Nat},st.Pairwise (· < ·)->(∀k∈st,a<=k/\k < a+n)->st.length<=n
 | [],n,a,_,_=>xT _
 | x::r,n,a,h,m=>by
   rw[a4Z] at h;obtain⟨h0,h1⟩:=m x (by simp);obtain⟨d,rfl⟩:∃d,x=a+d:=#[x - a,by lia]
   have:=fT (st:=r) (n:=n - d - 1) (a:=a+d+1) h.2 λk hk=>by have:=h.1 k hk;have:=(m k (yV _ hk)).2;lia
   rw[yR];lia
theorem isSt.len (h:isSt p st):st.length<=p.length:=fT (a:=0) h.inc λk hk=>#[xT _,by rw[Nat.zero_add];exact h.lt k hk]
theorem isSt.nil (p:List (Str×Deed)):isSt p []:=#[.nil,by simp,by simp]
theorem isSt.snoc (h:isSt p st) (hb:∀m∈st,m < k) (hk:k < p.length) (hn:∀j∈BI (dsL p) k,j∈st):isSt p (st++[k]):=by
 refine#[List.pairwise_append.mpr #[h.inc,by simp,λa N b Q=>by rw[show b=k by simpa using Q];exact hb a N],λm e=>?_,λm e j M=>?_]
 . rcases yW.mp e with q | q;. exact h.lt m q
   . rw[show m=k by simpa using q];exact hk
 . rcases yW.mp e with q | q;. exact zA _ (h.needs m q j M)
   . rw[show m=k by simpa using q] at M;exact zA _ (hn j M)
def JJ:Nat->Str | 0 => "move" | 1 => "count" | _ => "end"
def JK (D:Deed):List (Str×PyData):=D.names.map λn=>(n,.str (JJ (BN D.d n)))
theorem S3 (D:Deed) (n:Str):AO (JK D) n=if n∈D.names then al (.str (JJ (BN D.d n))) else none:=by
 unfold JK;have G:∀l:List Str,AO (l.map λn=>(n,a0W (JJ (BN D.d n)))) n=if n∈l then al (.str (JJ (BN D.d n))) else none:=by
   intro l;induction l with
   | nil=>rfl
   | cons x r U=>
     rw[zI];simp only[AO];by_cases e:x=n;. subst e;simp
     . rw[if_neg e,U];have:n∈x::r↔n∈r:=by simp[show ¬n=x from λq=>e q.symm]
       simp only[this]
 exact G _
theorem A0u (u v:Nat) (hu:u=0\/u=1\/u=2) (e:v=0\/v=1\/v=2) (hp:ss.Perm [JJ u,JJ v]) (hs:xG ss=ap) : (!a0Z (.list (ss.map .str)) (.list [.str (a0Q "count"),.str (a0Q "count")])&&!a0Z (.list (ss.map .str)) (.list [.str (a0Q "count"),.str (a0Q "move")])) = !HY u v:=by
 rcases A1z hp with rfl | rfl;. rcases hu with rfl | rfl | rfl <;> rcases e with rfl | rfl | rfl <;> first | rfl | (exact absurd hs (by decide +kernel)) | decide +kernel
 . rcases hu with rfl | rfl | rfl <;> rcases e with rfl | rfl | rfl <;> first | rfl | (exact absurd hs (by decide +kernel)) | decide +kernel
theorem oO (u:Nat) (hu:u=0\/u=1\/u=2):b5Q (JJ u)=true:=by rcases hu with rfl | rfl | rfl <;> decide +kernel
section
variable {M:Own}{Q:DS->Own->Prop}{w:List Th}{ls:List (Str×Deed)}{st ws:List Nat}
abbrev bxS (w:List Th) (ls:List (Str×Deed)) (st:List Nat):List DS:=[.d (AM w ls),.d (chD st)]
abbrev bxL (w:List Th) (ls:List (Str×Deed)) (st ws:List Nat):List DS:=[.d (AM w ls),.d (chD st),.d (chD ws)]
theorem KI (h:chD a=chD b):a=b:=JE (PyData.tuple.inj h)
theorem WQ (e:bxL w ls st ws=bxL n t j r):ls=t/\st=j/\ws=r:=by simp only[List.cons.injEq,DS.d.injEq,and_true] at e;exact#[E6 e.1,KI e.2.1,KI e.2.2]
def KJ:FSp:=#[λt M=>∃st:List Nat,t=[.d (chD st)]/\st.Pairwise (· < ·)/\st.length<=50,λt M y i=>y = .d (.bool ap)/\i=M]
theorem WR (h:st.Pairwise (· < ·)) (m:st.length<=50) (q:Q (.d (.bool ap)) M):[DS.d (chD st)].length=1/\KJ.pre [.d (chD st)] M/\∀x i,KJ.post [.d (chD st)] M x i->Q x i:=#[rfl,#[st,rfl,h,m],λx i h=>by obtain⟨rfl,rfl⟩:=h;exact q]
def F6:FSp:=#[λt M=>∃(w:List Th) (ls:List (Str×Deed)) (st:List Nat),t=bxS w ls st/\goodB w ls/\isSt ls st,λt M y i=>y = .d (.bool ap)/\i=M]
theorem WS (hg:goodB w ls) (h:isSt ls st) (q:Q (.d (.bool ap)) M):(bxS w ls st).length=2/\F6.pre (bxS w ls st) M/\∀x i,F6.post (bxS w ls st) M x i->Q x i:=#[rfl,#[w,ls,st,rfl,hg,h],λx i h=>by obtain⟨rfl,rfl⟩:=h;exact q]
def FS:FSp:=#[λt M=>∃(w:List Th) (ls:List (Str×Deed)) (st:List Nat),t=bxS w ls st/\goodB w ls/\isSt ls st,λt M y i=>y = .d .none/\i=M]
theorem EB (hg:goodB w ls) (h:isSt ls st) (q:Q (.d .none) M):(bxS w ls st).length=2/\FS.pre (bxS w ls st) M/\∀x i,FS.post (bxS w ls st) M x i->Q x i:=#[rfl,#[w,ls,st,rfl,hg,h],λx i h=>by obtain⟨rfl,rfl⟩:=h;exact q]
def A2K (xs:List DS) (M:Own):Prop:=∃(w:List Th) (ls:List (Str×Deed)) (st ws:List Nat),xs=bxL w ls st ws/\goodB w ls/\isSt ls st/\isSt ls ws
def KK:FSp:=#[A2K,λt M y i=>∀(w:List Th) (ls:List (Str×Deed)) (st ws:List Nat),t=bxL w ls st ws->∃(p:Addr) (E:EL),M p=am/\y = .loc p/\i=M.put p (.d (AR (cvE E)))/\E.map (·.1)=lfB ls st ws]
theorem cS (hg:goodB w ls) (h:isSt ls st) (e:isSt ls ws) (q:∀(p:Addr) (E:EL),M p=am->E.map (·.1)=lfB ls st ws->Q (.loc p) (M.put p (.d (AR (cvE E))))):(bxL w ls st ws).length=3/\KK.pre (bxL w ls st ws) M/\∀x i,KK.post (bxL w ls st ws) M x i->Q x i:=#[rfl,#[w,ls,st,ws,rfl,hg,h,e],λx i h=>by obtain⟨p,E,a,rfl,rfl,b⟩:=h w ls st ws rfl;exact q p E a b]
def CZ:FSp:=#[A2K,λt M y i=>∀(w:List Th) (ls:List (Str×Deed)) (st ws:List Nat),t=bxL w ls st ws->y = .d (chD (lfB ls st ws))/\i=M]
theorem EC (hg:goodB w ls) (h:isSt ls st) (a:isSt ls ws) (q:Q (.d (chD (lfB ls st ws))) M):(bxL w ls st ws).length=3/\CZ.pre (bxL w ls st ws) M/\∀x i,CZ.post (bxL w ls st ws) M x i->Q x i:=#[rfl,#[w,ls,st,ws,rfl,hg,h,a],λx i h=>by obtain⟨rfl,rfl⟩:=h w ls st ws rfl;exact q]
def JL:FSp:=#[λt M=>∃D:Deed,t=[.d D.d]/\D.real,λt M y i=>∀D:Deed,t=[.d D.d]->y = .d (VY D.made)/\i=M]
theorem ZK {D:Deed}(hr:D.real) (q:Q (.d (VY D.made)) M):[DS.d D.d].length=1/\JL.pre [.d D.d] M/\∀x i,JL.post [.d D.d] M x i->Q x i:=#[rfl,#[D,rfl,hr],λx i h=>by obtain⟨rfl,rfl⟩:=h D rfl;exact q]
abbrev BU (G:List (List Nat)):PyData:=.list (G.map λg=>.list (AA g))
structure NdG (Ds:List Deed) (G:List (List Nat)):Prop where
 mem:∀i g,G[i]?=al g->∀j,j∈g↔j∈BI Ds i
 few:∀g∈G,g.length<=2
def H0:FSp:=#[λt M=>∃ls:List (Str×Deed),t=[.d (AQ ls)]/\goodB [] ls,λt M y i=>∀ls:List (Str×Deed),t=[.d (AQ ls)]->∃G,y = .d (BU G)/\G.length=ls.length/\NdG (dsL ls) G/\i=M]
theorem NB (hg:goodB [] ls) (q:∀G,G.length=ls.length->NdG (dsL ls) G->Q (.d (BU G)) M):[DS.d (AQ ls)].length=1/\H0.pre [.d (AQ ls)] M/\∀x i,H0.post [.d (AQ ls)] M x i->Q x i:=#[rfl,#[ls,rfl,hg],λx i h=>by obtain⟨G,rfl,a,b,rfl⟩:=h ls rfl;exact q G a b]
def KL:FSp:=#[λt M=>∃(ls:List (Str×Deed)) (b:Int),t=[.d (AQ ls),.d (.int b)]/\goodB [] ls,λt M y i=>∀(ls:List (Str×Deed)) (b:Int),t=[.d (AQ ls),.d (.int b)]->∃st,y = .d (chD st)/\isSt ls st/\i=M]
theorem ND (hg:goodB [] ls) (q:∀st,isSt ls st->Q (.d (chD st)) M):[DS.d (AQ ls),.d (.int b)].length=2/\KL.pre [.d (AQ ls),.d (.int b)] M/\∀x i,KL.post [.d (AQ ls),.d (.int b)] M x i->Q x i:=#[rfl,#[ls,b,rfl,hg],λx i h=>by obtain⟨st,rfl,a,rfl⟩:=h ls b rfl;exact q st a]
def HA:FSp:=#[λt M=>∃D:Deed,t=[.d D.d]/\D.real,λt M y i=>∀D:Deed,t=[.d D.d]->y = .d (.dict (AN (JK D)))/\i=M]
theorem S4 (hr:D.real) (q:Q (.d (.dict (AN (JK D)))) M):[DS.d D.d].length=1/\HA.pre [.d D.d] M/\∀x i,HA.post [.d D.d] M x i->Q x i:=#[rfl,#[D,rfl,hr],λx i h=>by obtain⟨rfl,rfl⟩:=h D rfl;exact q]
def HB:FSp:=#[λt M=>∃D E:Deed,t=[.d D.d,.d E.d]/\D.real/\E.real,λt M y i=>∀D E:Deed,t=[.d D.d,.d E.d]->y = .d (.bool (E1 D.d E.d))/\i=M]
theorem WT {D E:Deed}(hr:D.real) (hr2:E.real) (q:Q (.d (.bool (E1 D.d E.d))) M):[DS.d D.d,.d E.d].length=2/\HB.pre [.d D.d,.d E.d] M/\∀x i,HB.post [.d D.d,.d E.d] M x i->Q x i:=#[rfl,#[D,E,rfl,hr,hr2],λx i h=>by obtain⟨rfl,rfl⟩:=h D E rfl;exact q]
end
end DL
namespace DL
open PySem PySem.Spec L2
theorem u9 (h:st.Pairwise (· < ·)) (hd:d∈QC (AA st) (AA (st.drop 1))):∃a b:Nat,a < b/\d = .tuple [.int (a:Int),.int (b:Int)]:=by
 unfold QC at hd;obtain⟨p,hp,rfl⟩:=zL.mp hd;obtain⟨i,hi,e⟩:=List.mem_iff_getElem.mp hp;rw[List.getElem_zip] at e;have m:(AA (st.drop 1)).length=st.length - 1:=by rw[AJ,a4K]
 have B:i+1 < st.length:=by rw[b7W,m,AJ] at hi;omega
 refine#[st[i],st[i+1],List.pairwise_iff_getElem.mp h i (i+1) (by omega) B (by omega),?_];rw[<-e];have c:(AA st)[i]?=al (.int (st[i]:Int)):=fK (zV (by omega));have f:(AA (st.drop 1))[i]?=al (.int (st[i+1]:Int)):=fK (by rw[List.getElem?_drop,Nat.add_comm 1 i];exact zV B);obtain⟨_,c⟩:=yT.mp c;obtain⟨_,f⟩:=yT.mp f;rw[c,f]
theorem jF (st:List Nat):ED (AA st) (al 1) am=AA (st.drop 1):=by rw[show ED (AA st) (al 1) am=(AA st).drop 1 from MW _ 1];unfold AA BX;rw[c1V,c1V]
def ndF (p:List (Str×Deed)):PyData->List PyData | .int i=>AA (BI (dsL p) i.toNat) | _=>[]
theorem ZL (D:Deed):D.must.length<=2:=zN (yJ _ _) (by cases D <;> simp[Deed.names])
theorem ZM {e S:Type}{F:e->List S}{n:Nat}:∀{l:List e},(∀x∈l,(F x).length<=n)->(l.flatMap F).length<=l.length*n
 | [],_=>by simp
 | x::r,h=>by rw[List.flatMap_cons,yY,yR,Nat.succ_mul];have:=ZM (l:=r) λy hy=>h y (yV _ hy);have:=h x (by simp);omega
theorem S5 {e:Type}{F:e->List PyData}:∀(l:List e),(l.flatMap λd=>(F d).map λ_=>c0W ap)=(a3J (l.flatMap F).length ap).map .bool
 | []=>rfl
 | x::r=>by rw[List.flatMap_cons,List.flatMap_cons,S5 r,yY,OF,<-xI,List.replicate_append_replicate]
theorem ZN {i:Nat}(h:(AA st)[i]?=al d):∃k,st[i]?=al k/\d = .int (k:Int):=by
 unfold AA BX at h;rw[zF,zF] at h;cases e:st[i]? with
 | none=>rw[e] at h;cases h
 | some k=>rw[e] at h;exact#[k,rfl,by cases h;rfl]
theorem jG (st o:List Nat):(AA o).filter (cKp st)=AA (coN st o):=by unfold coN AA BX;rw[xU,xU];congr 2;apply b5X;intro m _;show(!((AA st).any λe=>a0Z e (.int (m:Int))))=_;rw[CQ]
theorem KM {l:List Nat}(h:l.Pairwise (· < ·)):l.Nodup:=h.imp λ{a b} q=>zC q
theorem uA (h:o.Pairwise (· < ·)):((AA o).filter (cKp st)).foldl (λts d=>EU ts (nI d) (u8 d)) []=cvE (JI (coN st o)):=by rw[jG];exact UQ (coN st o) [] ((KM h).sublist a5K) (by simp)
theorem cT (a b:Nat):decide ((a:Int) < (b:Int))=decide (a < b):=by rw[a2Z,decide_eq_true_iff,decide_eq_true_iff];omega
theorem vY (h1:Ds[m]?=al D) (a:Ds[k]?=al E):tcN Ds m k=E1 D.d E.d:=by unfold tcN;rw[h1,a]
def lkN (ts:List (Str×PyData)) (n:Str):Option Nat:=match AO ts n with | some (.int i)=>al i.toNat | _=>am
structure MdT (Ds:List Deed) (ts:List (Str×PyData)) (k:Nat):Prop where
 look:∀x,(AO ts x=am/\∀j,j < k->¬mkN Ds j=al x)\/∃j,j < k/\mkN Ds j=al x/\AO ts x=al (.int (j:Int))
 few:ts.length<=k
def cTs (ts:List (Str×PyData)):PyData->Bool | .str n=>(AO ts n).isSome | _=>bj
def fTs (ts:List (Str×PyData)):PyData->PyData | .str n=>(AO ts n).getD .none | _=>.none
theorem fU (h:MdT Ds ts k):∀L:List Str,((L.map a0W).filter (cTs ts)).map (fTs ts)=AA (L.filterMap (lkN ts))
 | []=>rfl
 | x::r=>by
   rw[zI,a2K,a5W];have U:=fU h r;rcases h.look x with ⟨a,_⟩ | ⟨j,_,_,b⟩
   . rw[show cTs ts (.str x)=bj by show(AO ts x).isSome=bj;rw[a];rfl,if_neg nft,show lkN ts x=am by unfold lkN;rw[a]];exact U
   . rw[show cTs ts (.str x)=ap by show(AO ts x).isSome=ap;rw[b];rfl,if_pos rfl,show lkN ts x=al j by unfold lkN;rw[b];rfl,zI,U];rw[show fTs ts (.str x) = .int (j:Int) by show(AO ts x).getD .none=_;rw[b];rfl];rfl
theorem A0v (B:FreshD Ds) (hD:Ds[k]?=al D) (h:MdT Ds ts k) (j:Nat):j∈D.must.filterMap (lkN ts)↔j∈BI Ds k:=by
 have o:CP Ds k=D.must:=by unfold CP;rw[hD]
 rw[List.mem_filterMap];unfold BI;rw[yL,List.mem_range];constructor
 . rintro⟨n,h1,t⟩;rcases h.look n with ⟨a,_⟩ | ⟨i,hi,e,b⟩
   . unfold lkN at t;rw[a] at t;cases t
   . have:i=j:=by unfold lkN at t;rw[b] at t;exact Option.some.inj t
     subst this;exact#[hi,by unfold LY;rw[e,o];exact decide_eq_true h1]
 . rintro⟨h1,t⟩;unfold LY at t;cases e:mkN Ds j with
   | none=>rw[e] at t;cases t
   | some n=>
     rw[e,o] at t;refine#[n,of_decide_eq_true t,?_];rcases h.look n with ⟨_,b⟩ | ⟨i,hi,e',b⟩
     . exact absurd e (b j h1)
     . unfold lkN;rw[b,B.one j i n e e'];rfl
theorem MdT.start (Ds:List Deed):MdT Ds [] 0:=#[λx=>.inl #[rfl,λj h=>by omega],zR _]
theorem UR:∀{ts:List (Str×PyData)}{x:Str},AO ts x=am->x∉ts.map (·.1)
 | [],x,_,h=>by simp at h
 | t::r,x,h,j=>by
   simp only[AO] at h;by_cases e:t.1=x;. rw[if_pos e] at h;cases h
   . rw[if_neg e] at h;rcases yX.mp j with q | q;. exact e q.symm
     . exact UR h q
theorem S6:∀(ts:List (Str×PyData)) (k:Str) (d:PyData) (x:Str),AO (ts++[(k,d)]) x=match AO ts x with | some v=>al v | none=>if k=x then al d else am
 | [],k,d,x=>rfl
 | t::r,k,d,x=>by
   rw[c2W];simp only[AO];by_cases e:t.1=x;. rw[if_pos e,if_pos e]
   . rw[if_neg e,if_neg e,S6 r k d x]
theorem MdT.same (h:MdT Ds ts k) (hk:mkN Ds k=am):MdT Ds ts (k+1):=by
 refine#[λx=>?_,by have:=h.few;omega];rcases h.look x with ⟨a,b⟩ | ⟨j,M,e,b⟩
 . refine .inl #[a,λj M q=>?_];by_cases e:j=k;. subst e;rw[hk] at q;cases q
   . exact b j (by omega) q
 . exact .inr #[j,by omega,e,b]
theorem MdT.put (B:FreshD Ds) (h:MdT Ds ts k) (hk:mkN Ds k=al n):MdT Ds (J5 ts n (.int (k:Int))) (k+1):=by
 have hn:AO ts n=none:=by
   rcases h.look n with ⟨a,_⟩ | ⟨j,M,e,_⟩
   . exact a
   . have:=B.one j k n e hk;omega
 rw[R5 (UR hn)];refine#[λx=>?_,by have:=h.few;rw[yY];simp;omega];rw[S6];rcases h.look x with ⟨a,b⟩ | ⟨j,M,e,b⟩
 . rw[a];by_cases e:n=x;. subst e;exact .inr #[k,by omega,hk,by simp]
   . refine .inl #[by simp[e],λj M q=>?_];by_cases L:j=k;. subst L;rw[hk] at q;exact e (Option.some.inj q)
     . exact b j (by omega) q
 . rw[b];exact .inr #[j,by omega,e,rfl]
theorem A2L (h:Ds[k]?=al D):mkN Ds k=D.made:=by unfold mkN;rw[h];rfl
theorem NdG.snoc (h:NdG Ds G) (t:∀j,j∈g↔j∈BI Ds G.length) (B:g.length<=2):NdG Ds (G++[g]):=by
 refine#[λi x hx=>?_,λx hx=>?_]
 . by_cases hi:i < G.length;. rw[yQ hi] at hx;exact h.mem i x hx
   . have e:=(yT.mp hx).1;rw[yY] at e;have:i=G.length:=by simp at e;omega
     subst this;rw[yP (zR _),Nat.sub_self] at hx;have:g=x:=by simpa using hx
     subst this;exact t
 . rcases yW.mp hx with q | q;. exact h.few x q
   . rw[show x=g by simpa using q];exact B
theorem cU (L:List Nat) (t:Nat->Bool):(L.map t).any id=L.any t:=by rw[List.any_map];rfl
theorem oP (x:Str) (p:Int):JK (.move x p)=[(x,.str (a0Q "move"))]:=rfl
theorem jH (x:Str) (c:Int):JK (.count x c)=[(x,.str (a0Q "count"))]:=by show [(x,a0W (JJ (if (ap&&x==x)=ap then 1 else 2)))]=_;rw[beq_self_eq_true];rfl
theorem jI (h:x≠y) (p c:Int):JK (.split x y p c)=[(x,.str (a0Q "count")),(y,.str (a0Q "end"))]:=by show [(x,a0W (JJ (if (ap&&x==x)=ap then 1 else 2))),(y,.str (JJ (if (ap&&x==y)=ap then 1 else 2)))]=_;rw[beq_self_eq_true,beq_false_of_ne h];rfl
theorem oQ (h:x≠y):JK (.join x y)=[(x,.str (a0Q "count")),(y,.str (a0Q "end"))]:=by show [(x,a0W (JJ (if (ap&&x==x)=ap then 1 else 2))),(y,.str (JJ (if (ap&&x==y)=ap then 1 else 2)))]=_;rw[beq_self_eq_true,beq_false_of_ne h];rfl
def fIn (st:List Nat) (d:PyData):PyData:=.bool ((AA st).any λe=>a0Z e d)
theorem fV (st g:List Nat):((AA g).filter λ_=>ap).map (fIn st)=(g.map λj=>decide (j∈st)).map .bool:=by rw[SZ];unfold AA BX;rw[zD,zD,zD];apply yM;intro j _;show c0W ((AA st).any λe=>a0Z e (.int (j:Int))) = .bool (decide (j∈st));rw[CQ]
theorem oR {L:List Str}(nd:L.Nodup) (h:L[k]?=al n):J5 ((L.take k).map λx=>(x,a0W (a0Q "end"))) n (.str (a0Q "end"))=(L.take (k+1)).map λx=>(x,a0W (a0Q "end")):=by
 rw[R5,a0V,h,xI];. rfl
 . rw[zD];intro q;obtain⟨x,hx,e⟩:=zL.mp q;have e:x=n:=e;subst e;obtain⟨i,hi,e⟩:=List.mem_take_iff_getElem.mp hx;obtain⟨hk,f⟩:=yT.mp h;exact List.pairwise_iff_getElem.mp nd i k (by omega) hk (by omega) (e.trans f.symm)
def fW:PyData->Bool | .str _=>ap | _=>bj
end DL
namespace DL
open PySem PySem.Spec L2
def bkS (w:List Th):List Deed->List Deed
 | []=>[]
 | D::r=>BK w D::bkS (HZ w D) r
section
theorem fX:∀{Ds:List Deed}{w:List Th},(bkS w Ds).length=Ds.length
 | [],_=>rfl
 | D::r,w=>by show(bkS (HZ w D) r).length+1=_;rw[fX (Ds:=r)];rfl
theorem vZ:∀{Ds:List Deed}{w:List Th},bkL w Ds Ds.length=(bkS w Ds).map Deed.d
 | [],_=>rfl
 | D::r,w=>by unfold bkL;rw[yR,List.range_succ_eq_map,zI,zD];show bkF w (D::r) 0::_=(BK w D).d::(bkS (HZ w D) r).map Deed.d;rw[<-vZ (Ds:=r)];rfl
end
section
variable {M:Own}{Q:DS->Own->Prop}{w:List Th}{ls:List (Str×Deed)}{st ws:List Nat}
theorem oS (h:CB w ls) (hs:isSt ls st):CB w (AW ls st):=by
 have m:(dsL ls).length=ls.length:=zX _;have N:(AW ls st).length<=ls.length:=by rw[JF hs.lt];exact hs.len
 refine#[j7 h.good hs.lt hs.inc hs.len,h.fine,?_,by have:=h.len;lia];rw[show dsL (AW ls st)=AW (dsL ls) st from tT ..];exact u0 h.bk hs.inc (λk hk=>by rw[m];exact hs.lt k hk) λb hb x hx j t e=>hs.needs b hb j (u5 h.good hx t e)
def bkT (w:List Th) (ls:List (Str×Deed)) (st:List Nat):List (Int×PyData):=List.zip (BX st) ((bkS w (dsL (AW ls st))).map Deed.d)
def NE (s:Str) (k:Nat) (d:PyData):PyData:=.tuple [.str s,.int (k:Int),d]
def DH (w:List Th) (ls:List (Str×Deed)) (st ws:List Nat):List PyData:=(lfB ls st ws).reverse.map λk=>NE (a0Q "back") k ((AT (bkT w ls st) (k:Int)).getD .none)
def oU (ls:List (Str×Deed)) (st ws:List Nat):List PyData:=(ws.filter λk=>decide (k∈lfB ls st ws)||!decide (k∈st)).map λk=>NE (a0Q "again") k (((dsL ls).map Deed.d).getD k .none)
def uB (w:List Th) (ls:List (Str×Deed)) (st ws:List Nat):List PyData:=DH w ls st ws++oU ls st ws
def GH:FSp:=#[λt M=>∃(w:List Th) (ls:List (Str×Deed)) (q:List Nat),t=[.d (AM w ls),.d (.tuple (AA q))]/\(∀k∈q,k < ls.length)/\q.length<=60,λt M y i=>∀(w:List Th) (ls:List (Str×Deed)) (q:List Nat),t=[.d (AM w ls),.d (.tuple (AA q))]->y = .d (AM w (AW ls q))/\i=M]
theorem T0 (D:∀k∈e,k < ls.length) (m:e.length<=60) (q:Q (.d (AM w (AW ls e))) M):[DS.d (AM w ls),.d (.tuple (AA e))].length=2/\GH.pre [.d (AM w ls),.d (.tuple (AA e))] M/\∀x i,GH.post [.d (AM w ls),.d (.tuple (AA e))] M x i->Q x i:=#[rfl,#[w,ls,e,rfl,D,m],λx i h=>by obtain⟨rfl,rfl⟩:=h w ls e rfl;exact q]
def KN:FSp:=#[λt M=>∃(w:List Th) (ls:List (Str×Deed)) (st ws:List Nat),t=bxL w ls st ws/\CB w ls/\isSt ls st/\isSt ls ws,λt M y i=>∀(w:List Th) (ls:List (Str×Deed)) (st ws:List Nat),t=bxL w ls st ws->y = .d (.tuple (uB w ls st ws))/\i=M]
theorem S7 (h:CB w ls) (hs:isSt ls st) (R:isSt ls ws) (q:Q (.d (.tuple (uB w ls st ws))) M):(bxL w ls st ws).length=3/\KN.pre (bxL w ls st ws) M/\∀x i,KN.post (bxL w ls st ws) M x i->Q x i:=#[rfl,#[w,ls,st,ws,rfl,h,hs,R],λx i h=>by obtain⟨rfl,rfl⟩:=h w ls st ws rfl;exact q]
end
end DL
namespace DL
open PySem PySem.Spec L2
section
theorem uC (h:DVs K H W ds vs):DVs K H W ds.reverse vs.reverse:=by
 have G:∀{ds:List PyData}{vs:List V},DVs K H W ds vs->∀{as:List PyData}{bs:List V},DVs K H W as bs->DVs K H W (ds.reverseAux as) (vs.reverseAux bs):=by
   intro ds;induction ds with
   | nil=>intro vs h as bs q;cases h;exact q
   | cons d r U=> intro vs h as bs q;obtain⟨v,t,rfl,h1,a⟩:=h;exact U a (DVs.cons h1 q)
 exact G h DVs.nil
end
end DL
namespace L2
open PySem PySem.Spec PyProof.Rows
open AutoSeq1 (wpAny_loadPart')
theorem US:Manifest.owners.lookup (String.ofList ['d','e','s','r','e','v','e','r'].reverse)=al Manifest.sig_reversed:=by kernel_rfl
theorem CT:Slot "reversed" "__next__" "reversed.__next__" :=
 .of (owner:= "reversed") (n:= "__next__") (by rw[typeLookup_type,iD];kernel_rfl) (by decide +kernel) (by decide +kernel) (by decide +kernel)
   (by first | exact .inl (by decide +kernel) | exact .inr (by decide +kernel)) (by rw[jb];kernel_rfl)
theorem JM:entryFor table "reversed.__next__"=al Builtin.«reversed.__next__»:=entryFor_of_tree (by kernel_rfl)
theorem L5 (a:ar):argsOk "reversed.__next__" #[[a],[]]:=by unfold argsOk;rw[signature?_of (id:= "reversed.__next__") (n:=['_','_','t','x','e','n','_','_']) (o:=['d','e','s','r','e','v','e','r']) (by kernel_rfl) US];kernel_rfl
theorem L6:Slot "reversed" "__iter__" "reversed.__iter__" :=
 .of (owner:= "reversed") (n:= "__iter__") (by rw[typeLookup_type,iD];kernel_rfl) (by decide +kernel) (by decide +kernel) (by decide +kernel)
   (by first | exact .inl (by decide +kernel) | exact .inr (by decide +kernel)) (by rw[jb];kernel_rfl)
theorem T2 (a:ar):argsOk "reversed.__iter__" #[[a],[]]:=by unfold argsOk;rw[signature?_of (id:= "reversed.__iter__") (n:=['_','_','r','e','t','i','_','_']) (o:=['d','e','s','r','e','v','e','r']) (by kernel_rfl) US];kernel_rfl
theorem S8:entryFor table "reversed.__iter__"=al Builtin.«dict_keyiterator.__iter__»:=
 entryFor_alias (id':= "dict_keyiterator.__iter__") (by kernel_rfl) (by first | rfl | decide +kernel | (unfold String.splitOn;simp +decide [String.splitOnAux])) (by decide +kernel) (by kernel_rfl)
theorem T3:Slot "reversed" "__init__" "object.__init__" :=
 .of (owner:= "object") (n:= "__init__") (by rw[typeLookup_type,iD];kernel_rfl) (by decide +kernel) (by decide +kernel) (by decide +kernel)
   (by first | exact .inl (by decide +kernel) | exact .inr (by decide +kernel)) (by rw[jb];kernel_rfl)
theorem cV:TypeCalled "reversed" "reversed.__new__" "object.__init__" :=#[by decide +kernel,by decide +kernel,#[_,_,F.mro_reversed],F.made_reversed,by decide +kernel,by rw[jb];kernel_rfl,T3]
theorem jJ:ig (.type "tuple") "__reversed__"=pure none:=am_miss_of_fast (by decide +kernel)
def IsRvd (h:db) (a t:Addr) (i:Int):Prop:=∃o,h.get? a=al o/\o.cls = .type "reversed" /\ o.data = .fields (z3 [.ref t,et i])
def S9 (t:Addr) (i:Int):Obj:={ cls:=.type "reversed", data:=.fields (z3 [.ref t,et i]) }
theorem IsRvd.at (x:IsRvd h a t i) (e:∀o,h.get? a=al o->h'.get? a=al o):IsRvd h' a t i:=let #[o,T,r]:=x;#[o,e _ T,r]
section
theorem IsRvd.typeIs{s:ba} (x:IsRvd s.heap a t i):s.TypeIs (.ref a) "reversed" := let #[o,T,hc,_]:=x;#[o,T,hc]
end
theorem jK (t:Addr) (items:Array ar) (hn:items.size<=bd) :
   Meets (Builtin.«reversed.__new__» #[[.type "reversed", .ref t],[]]) (λ_ R s=>IsTup s.heap t items/\R (.ok (.ret (.ref s.heap.objs.size))) { s with heap:=s.heap.push (S9 t ((items.size:Int) - 1)),toks:=s.toks+1+1 }):=
 .of_wp λprog w A R s h=>by
   obtain⟨n,h⟩:=h;have e:s.TypeIs (.ref t) "tuple" := n.typeIs;unfold Builtin.«reversed.__new__»;refine zZ (ej (newClass_reversed _) ?_);try dsimp only
   refine zZ (ej (a:=()) (by first | rfl | kernel_rfl) ?_);refine zZ (ej (a:=()) (by first | rfl | kernel_rfl) ?_);try dsimp only
   refine zZ (ge e jJ ?_);try dsimp only
   refine zZ (m:=isInstance (.ref t) (.type "dict") >>= _) (zZ (fw (T:= "tuple") (b:=bj) e F.sub_tuple_dict ?_));rw[if_neg nft];refine zZ (ge e slot_tuple_getitem.lookup ?_);try dsimp only
   rw[if_pos (by decide)];refine zY ?_;rw[if_neg (by decide)];have hb:bd < 2 ^ 62:=by decide
   refine zZ (len_tuple n (by lia) ?_);refine zZ (ej (a:=al ((items.size:Nat):Int)) rfl ?_);try dsimp only
   unfold Builtin.SmallTypes.newRecord;exact zZ (xM (zY #[_,rfl,h]))
section
theorem oV (a:IsTup s.heap t items) (hn:items.size<=bd) (h:Q (.ref s.heap.objs.size) { s with heap:=s.heap.push (S9 t ((items.size:Int) - 1)),toks:=s.toks+1+1 }):wpAny (model prog w) A (call (.type "reversed") [.ref t]) Q E s:=
 callType_new cV (by decide) (F.typeCall_reversed_1 _) (F.newCall_reversed_1 _) (λobj=>F.args_object_init_2 obj _) F.entry_reversed_new (jK t items hn) #[a,#[_,yZ _ rfl,rfl],h]
theorem oW {i:Nat}(hit:IsRvd s.heap it t (i:Int)) (e:IsTup s.heap t items) (hx:items[i]?=al x) (hn:items.size<=bd) (c:∀h' tk,IsRvd h' it t ((i:Int) - 1)->Heap.SameBut it s.heap h'->Q (al x) { s with heap:=h',toks:=tk }):wpAny (model prog w) A (pyNext (.ref it)) Q E s:=by
 obtain⟨o,T,hc,hd⟩:=id hit;have hi:i < items.size:=(Array.getElem?_eq_some_iff.mp hx).1;unfold pyNext;refine zZ (er (wpAny_callSpecial?_slot (name:=a0Q "__next__") hit.typeIs CT (cr CT hit.typeIs JM ?_ (L5 _))));unfold Builtin.«reversed.__next__»;refine zZ (ej (a:=(a0X it,[])) rfl ?_);try dsimp only
 refine zZ (bn T hd (x:=.ref t) rfl ?_);try dsimp only
 refine zZ (bn T hd (x:=et (i:Int)) rfl ?_);show wpAny _ _ (if (i:Int) < 0 then _ else _) _ _ s;rw[if_neg (by lia)];refine zZ (ge e.typeIs slot_tuple_getitem.lookup ?_);try dsimp only
 rw[if_neg (by decide)];refine zZ (wpAny_mkInt ?_);have hb:(i:Int) < 2 ^ 63:=Int.lt_of_le_of_lt (show(i:Int)<=bd by lia) (by decide);refine zZ (er (getItem_tuple (s:={ s with toks:=s.toks+1 }) e (by lia) hb (j:=i) (by simp[seqIndex?];lia) hx ?_));try dsimp only
 refine zZ (bn T hd (x:=et (i:Int)) rfl ?_);try dsimp only
 refine zZ (fc T hd (by simp) ?_);refine zY #[x,rfl,zY (c _ _ ?_ (a6Z ..))];exact#[_,b5V _ T (Obj.isFreed_of_fields (b0K hd _)),(Obj.cls_mapFields ..).trans hc,by
   rw[b0K hd];simp]
theorem uD (n:A.handled=am) (hit:IsRvd s.heap it t (-1)) (c:∀h',Heap.ExtBut it s.heap h'->Q am { s with heap:=h' }):wpAny (model prog w) A (pyNext (.ref it)) Q E s:=by
 obtain⟨o,e,hc,hd⟩:=id hit;unfold pyNext;refine zZ (er (wpAny_callSpecial?_slot (name:=a0Q "__next__") hit.typeIs CT (cr CT hit.typeIs JM ?_ (L5 _))));unfold Builtin.«reversed.__next__»;refine zZ (ej (a:=(a0X it,[])) rfl ?_);try dsimp only
 refine zZ (bn e hd (x:=.ref t) rfl ?_);try dsimp only
 refine zZ (bn e hd (x:=et (-1)) rfl ?_);show wpAny _ _ (if (-1:Int) < 0 then _ else _) _ _ s;rw[if_pos (by decide)];refine zZ (dV ?_);refine zZ (m:=setField (.ref it) 1 (et (-1)) >>= _) (zZ (fc e hd (by simp) ?_));refine fc (vs:=(z3 [.ref t,et (-1)])) (b5V _ e (Obj.isFreed_of_fields (b0K hd _))) (by rw[b0K hd];simp) (by simp) ?_;first
 | show wpAny _ _ (newExc (.type "StopIteration") [] >>= _) _ _ _
 | (refine zZ ?_;show wpAny _ _ (newExc (.type "StopIteration") [] >>= _) _ _ _)
 refine zZ ?_;simp only[newExc,newTuple];refine zZ (xM ?_ (by size_fits));refine zZ (m:=fl _ _) (ej (a:=a3X) (by first | rfl | (simp only[fl];rfl)) ?_);refine xM ?_ (by size_fits);simp only[raiseNew];refine zZ (wpAny_handled ?_);first | rw[show A.in1.handled=am from n] | rw[n]
 refine zZ (zY (wpAny_throw ?_));refine zZ (fw (T:= "StopIteration") (b:=ap) #[_,yZ _ rfl,rfl] jc ?_);exact zY (c _ (((a6Z ..).extBut.trans (a6Z ..).extBut |>.push _).push _))
theorem ZO (hit:IsRvd s.heap it t i) (h:Q (.ref it) s):wpAny (model prog w) A (pyIter (.ref it)) Q E s:=by refine wpAny_pyIter_slot hit.typeIs L6 (cr L6 hit.typeIs S8 ?_ (T2 _));show wpAny _ _ (ret (.ref it)) _ _ s;exact zY #[_,rfl, "reversed", _,hit.typeIs,CT.lookup,h]
end
end L2
namespace L2
open PySem PySem.Spec PyProof.Rows
def Itv (K:Frg) (a:Addr) (n:Nat):It:=#[λi H=>(∃t,SqT K H a t/\t.length=n)/\i < n,λi H x H'=>H'=H/\∀t,SqT K H a t->t.reverse[i]?=al x,λi H=>i=n]
theorem oX {P:bq}{w:bo}{K:Frg}{tg:ca}(a it:Addr) (n:Nat):Turn P w K tg (Itv K a n) [it] it (λi h=>IsRvd h it a ((n:Int) - 1 - (i:Int))) where
 mem:=by simp
 obj:=λi h st b hb=>by
   have e:b=it:=by simpa using hb
   subst e;obtain⟨o,e,c,d⟩:=st;exact⟨o,e,λv z=>by rw[d] at z;cases z⟩
 keep:=λi h h' st k=>st.at λo e=>k it (by simp) o e
 item:=by
   intro X hP hw hK hc i pins s σ H E I hf st hg;subst hP hw hK;obtain⟨⟨xs,hq,hl⟩,hi⟩:=hg;obtain⟨aa,rv,p,hz⟩:=I.tuple hq;have hx:xs[n - 1 - i]?=al (xs[n - 1 - i]'(by lia)):=zV (by lia);obtain⟨u,hu,ru⟩:=rv.get hx;obtain⟨f0,f1,f2,f3,f4,f5⟩:=hf it (by simp);have e:(n:Int) - 1 - (i:Int)=((n - 1 - i:Nat):Int):=by lia
   rw[e] at st;have rf:=rv.length;refine oW st p (x:=u) (by simpa using hu) (by simp;lia) λh' tk bw sb=>?_;have I1:Inv X pins σ H { s with heap:=h',toks:=tk }:=I.turned (t':=tk) (λb o hb e=>(sb.2 b hb).trans e) f0 f1 f3 f4 f5;have e2:((n - 1 - i:Nat):Int) - 1=(n:Int) - 1 - ((i+1:Nat):Int):=by lia
   rw[e2] at bw;obtain⟨o,e,c,d⟩:=id bw;refine#[u,rfl,XR (s:={ s with heap:=h',toks:=tk }) e c d (by decide) #[_,H,I1,ru,#[rfl,λys hy=>?_],bw,λb hb=>(hf b hb).1]];rw[I.tuple_inj hy hq,List.getElem?_reverse (by lia),show xs.length - 1 - i=n - 1 - i by lia];exact hx
 done:=by
   intro X hP hw hK hc i pins s σ H E I hf st hg;subst hP hw hK;obtain rfl:i=n:=hg;obtain⟨f0,f1,f2,f3,f4,f5⟩:=hf it (by simp);have e:(i:Int) - 1 - (i:Int) = -1:=by lia
   rw[e] at st;exact uD (I.ok.hd hc) st λh' eb=>#[rfl,I.turned (t':=s.toks) (λb o hb e=>eb b o hb e) f0 f1 f3 f4 f5]
 self:=λ_ _ _ _ _ st h=>ZO st h
section
variable {X:Cx}{K:Frg}
def A2M (K:Frg) (k:TA):TI:=λo H R=>k o H λn e=>∃a t,n=[.ref a]/\SqT K e a t/\R (Itv K a t.length) e
theorem A2p {G a:ca}{k:TA}{p pos:fb}(hk:X.K=K) (hg:Gl X "reversed") (j:X.mg "reversed"=am) (N:PA X [a] k) (hs:starEach [a] X.env=[(bj,eval a X.env)]:=by rfl) :
   PI X G (.Call (.Name "reversed" p) [a] [] pos) (A2M K k):=by
 subst hk;intro pins s z H R I h;refine Call_ (FI I hg j boot_reversed (xH (thn (N pos pins s z H _ I h) λO t c=>?_) hs rfl));obtain⟨S,m,D,g,q1⟩:=c;obtain⟨l,r,e,hx,q⟩:=q1;subst e;obtain⟨u,rfl,x⟩:=EW g;cases x;obtain⟨n,y,f,T⟩:=D.tuple hx;have v:=y.length;refine oV f (by simp;lia) ?_;have i:IsRvd (t.heap.push (S9 l ((n.toArray.size:Int) - 1))) t.heap.objs.size l ((r.length:Int) - 1 - ((0:Nat):Int)):=#[_,yZ _ rfl,rfl,by unfold S9;simp[v]]
 refine ZO (s:={ t with heap:=t.heap.push (S9 l ((n.toArray.size:Int) - 1)),toks:=t.toks+1+1 }) i ?_;refine#[t.heap.objs.size,[t.heap.objs.size],_,_,m,rfl,D.kept (t':=t.toks+1+1) λb o e=>zW _ e,oX l t.heap.objs.size r.length,i,λb hb=>?_,q];have hle:t.heap.objs.size<=b:=by simp only[yX,xX,or_false] at hb;rw[hb];exact zR _
 exact D.fpOk hle (D.hok.fresh hle)
end
end L2
namespace DL
open PySem PySem.Spec L2
section
theorem A0w (h:DA K p ρ M λxs M1=>∃as,xs=[.d (.tuple as)]/\QI as.reverse M1):DI K (A2M K p) ρ M QI:=λT H R S k=>
 h T H _ S λD b xs M1 g j z N=>by
   obtain⟨as,e,q⟩:=N;subst e;obtain⟨v,r,rfl,h1,G⟩:=j;cases G;unfold SI DV at h1;obtain⟨a,n,rfl,m,hd⟩:=h1;have I:=hd.length;refine#[a,n,rfl,m.sq,k _ as.reverse b M1 g z #[λi H' o hi u t=>?_,λH' o u t=>?_,λi H' o x O u t hi y=>?_] q];. rw[b3J] at hi;exact#[#[n,(m.grow t.grow).sq,rfl],by lia]
   . show as.reverse.length=n.length;rw[b3J];lia
   . obtain⟨rfl,y⟩:=y;obtain⟨d,c,f⟩:=(uC hd).get (y n (m.grow t.grow).sq);exact#[u,Step.refl,d,c,f.grow t.grow]
end
end DL
namespace L2
open PySem PySem.Spec PyProof.Rows
theorem OH:ig (.type "zip") "__getattr__"=pure none:=am_miss_of_fast (by decide +kernel)
theorem T4:ig (.type "zip") "keys"=pure none:=am_miss_of_fast (by decide +kernel)
theorem HN:entryFor table "zip.__getattribute__"=al Builtin.«object.__getattribute__»:=
 entryFor_alias (id':= "object.__getattribute__") (by kernel_rfl) (by decide +kernel) (by decide +kernel) (by kernel_rfl)
theorem SA (a:Addr) (vs:Array ar) (sl:Array (Option ar)) (name:Str) (u:Tok) (x:ig (.type "zip") name=pure am) (S:(["__module__","__name__","__qualname__","__doc__","__annotations__"]:List Str).contains name=bj) (hsz:name.length+100<=sizeLine:=by size_fits) :
   Meets (Builtin.«object.__getattribute__» #[[.ref a,.str name u],[]]) (λA R s=>s.heap.get? a=al { cls:=.type "zip", dict:=am,data:=.fields vs,slots:=sl }/\raisesAttr (.ref a) name A R s):=
 Meets.of_wp λprog w A R s hs=>by
   obtain⟨hp,g,d,L,Q⟩:=s;obtain⟨hx,hs⟩:=hs;have e:(#[hp,g,d,L,Q]:ba).TypeIs (.ref a) "zip" := #[_,hx,rfl]
   unfold Builtin.«object.__getattribute__»;repeat (any_goals (first | assumption | wp_step))
   simp only[S,a6X,if_false];repeat (any_goals (first | assumption | wp_step))
   exact wpAny_raiseAttrError hs.1 hs.2 (attrMsg_fits (by decide +kernel) hsz)
theorem T5 {prog:bq}{w:bo}{A:cx}{E:ar->ba->Prop}{s:ba}{a TI TO:Addr}{j:ar}{Q:Option ar->ba->Prop} (hx:ft s.heap a TI TO j) (hA:A.handled=am) (h:∀h' tk,(∀b N,s.heap.get? b=al N->h'.get? b=al N)->Q am { s with heap:=h',toks:=tk }):wpAny (model prog w) A (getAttr? (.ref a) "keys") Q E s:=by
 obtain⟨hp,g,d,tk,o⟩:=s;have t:∀n,(#[hp,g,d,n,o]:ba).TypeIs (.ref a) "zip" := λ_=>#[_,hx,rfl]
 have i:=sub_AttributeError;have r:=F.slot_zip_getattribute.lookup;have G:=F.slot_zip_getattribute.bind (.ref a);have p:=OH;unfold getAttr? getAttrBy? getAttrBy;repeat (any_goals (first | assumption | exact t _ | ((with_reducible show wpAny _ _ (call (Value.builtin "zip.__getattribute__") _ _) _ _ _);refine call_meets F.slot_zip_getattribute (t _) HN (F.args_zip_getattribute_2 _ _) (SA a _ _ "keys" _ T4 (by decide +kernel) (by decide +kernel)) #[hx,hA,λh' n e m=>?_]) | wp_step))
 obtain⟨c,f,he⟩:=m.there;show wpAny _ _ (getattributeRaised _ _ _ _ _ _ _) _ _ _;unfold getattributeRaised;repeat (any_goals (first | assumption | wp_step))
 exact h _ _ m.keeps
end L2
namespace L2
open PySem PySem.Spec PyProof.Rows
section
theorem uE (n:t≠i) (hx:items[k]?=al y):NxI prog w A i (λh=>h.IsListIter i t k/\h.IsList t items) (λh=>h.IsListIter i t (k+1)/\h.IsList t items) (λv=>v=y):=λs Q E hS c=>by obtain⟨hit,e⟩:=hS;exact wpAny_nextOf_list_item hit e hx λh' a b=>c h' _ y rfl #[a,e.extBut b.extBut n] b
theorem oY :OS (.ref t) { cls:=.type "list_iterator", data:=.fields (z3 [.ref t,.int 0 0]) } (λh=>h.IsList t items):=λprog w A E s Q a c=>fk a c
end
end L2
namespace L2
open PySem PySem.Spec PyProof.Rows
abbrev jL (h:db) (z TI TO T:Addr) (f:Bool):Prop:=
 h.get? z=al { cls:=.type "zip", dict:=am,data:=.fields (z3 [et (T:Int),.bool f,.bool bj,.ref TI,.ref TO]),slots:=#[] }
theorem NF (h:Q (s.heap.get? a) s):wpAny M A (loadIfAlive a) Q E s:=
 λy p _=>h
section
variable {prog:bq}{w:bo}{A:cx}{E:ar->ba->Prop}{s:ba}{z TI TO i1 i2 T:Addr}{f:Bool}{F1 F2:List Addr}{S1 gx S2 jg:db->Prop}{R1 R2:ar->Prop}{a b:ar}
theorem UT (e:jL s.heap z TI TO T f) (t:s.heap.get? T=al n) (h:∀h',jL h' z TI TO T ap->Heap.SameBut z s.heap h'->Q bj { s with heap:=h' }) :
   wpAny (model prog w) A (a0J (.ref z)) Q E s:=by
 unfold a0J;refine zZ (bn e rfl (x:=et (T:Int)) rfl ?_);show wpAny _ _ (loadIfAlive ((T:Int)).toNat >>= _) _ _ _;refine zZ (NF ?_);rw[a3K,t];simp only[Option.isNone_some,a6X,if_false];refine zZ (bn e rfl (x:=.bool f) rfl ?_);cases f with
 | true=> rw[if_neg (by decide)];exact zY (h _ e #[rfl,λ_ _=>rfl])
 | false=> rw[if_pos (by decide)];exact zZ (dl e (by simp) λg y q=>zY (h _ y q))
theorem jM {Q:ar->ba->Prop}(D:ZAp z TI TO i1 i2 F1 F2) (O:BQ F1 S1) (q:BQ F1 gx) (I:BQ F2 S2) (Z:NxI prog w A i1 S1 gx R1) (B:NxI prog w A i2 S2 jg R2) (n:jL s.heap z TI TO T f) (k:s.heap.get? T=al u) (p:dd s.heap TI (.ref i1) (.ref i2)) (h1:S1 s.heap) (g:S2 s.heap) (j:∀h' tk x y,R1 x->R2 y->jL h' z TI TO T ap->gx h'->jg h'->h'.objs.size=s.heap.objs.size ->(∀c o,c≠z->c≠i1->c≠i2->s.heap.get? c=al o->h'.get? c=al o)->Q (.ref s.heap.objs.size) { s with heap:=h'.push { cls:=.type "tuple", data:=.seq (z3 [x,y]) },toks:=tk }) :
   wpAny (model prog w) A (Builtin.«zip.__next__» #[[.ref z],[]]) (λfin s'=>∃v,fin = .done (.ret v)/\Q v s') E s:=by
 show wpAny _ _ (gv (.ref z) 2 >>= _) _ _ _;refine zZ (bn n rfl (x:=.bool bj) rfl ?_);show wpAny _ _ (gv (.ref z) 3 >>= _) _ _ _;refine zZ (bn n rfl (x:=.ref TI) rfl ?_);refine zZ (c4 p rfl ?_);show wpAny _ _ (a0J (.ref z) >>= _) _ _ _;refine zZ (UT n k λJ G q1=>?_);simp only[a6X,if_false];refine zZ ?_;simp only[<-Array.forIn_toList,b4X,c0Q];refine zZ (zZ (bv ?_));show wpAny _ _ (a0K (.ref i1) >>= _) _ _ _;refine zZ (Z _ _ _ (O _ _ h1 λc hc o e=>q1.extBut _ _ (D.f1 c hc).1 e) λL U x N R q2=>zY ?_);refine zY ?_;refine zZ (zZ (bv ?_));show wpAny _ _ (a0K (.ref i2) >>= _) _ _ _;refine zZ (B _ _ _ (I _ _ g λc hc o e=>q2.extBut _ _ (D.f2 c hc).2.2 (q1.extBut _ _ (D.f2 c hc).1 e)) λt Y y X S M=>zY ?_);refine zY (zY ?_);have hsz:t.objs.size=s.heap.objs.size:=by rw[M.1,q2.1,q1.1]
 refine zZ (wpAny_newTuple ?_ (by show 2<=bd;decide));refine zY #[_,rfl,?_];show Q (.ref t.objs.size) _;rw[hsz];exact j t _ x y N X (M.extBut _ _ D.bz.symm (q2.extBut _ _ D.az.symm G)) (q _ _ R λc hc o e=>M.extBut _ _ (D.f1 c hc).2.2 e) S hsz λc o i r m e=>M.extBut _ _ m (q2.extBut _ _ r (q1.extBut _ _ i e))
theorem oZ (D:ZAp z TI TO i1 i2 F1 F2) (y:BQ F1 S1) (Z:NxE prog w A i1 S1) (t:jL s.heap z TI TO T f) (m:s.heap.get? T=al p) (M:dd s.heap TI (.ref i1) (.ref i2)) (h1:S1 s.heap) (hE:∀h' e tk,(∀c o,c≠z->c≠TO->c≠i1->c≠i2->s.heap.get? c=al o->h'.get? c=al o)->(∃o,h'.get? e=al o/\o.cls = .type "StopIteration")->E (.ref e) { s with heap:=h',toks:=tk }) :
   wpAny (model prog w) A (Builtin.«zip.__next__» #[[.ref z],[]]) Q E s:=by show wpAny _ _ (gv (.ref z) 2 >>= _) _ _ _;refine zZ (bn t rfl (x:=.bool bj) rfl ?_);show wpAny _ _ (gv (.ref z) 3 >>= _) _ _ _;refine zZ (bn t rfl (x:=.ref TI) rfl ?_);refine zZ (c4 M rfl ?_);show wpAny _ _ (a0J (.ref z) >>= _) _ _ _;refine zZ (UT t m λq g q1=>?_);simp only[a6X,if_false];refine zZ ?_;simp only[<-Array.forIn_toList,b4X,c0Q];refine zZ (zZ (bv ?_));show wpAny _ _ (a0K (.ref i1) >>= _) _ _ _;refine zZ (Z _ _ _ (y _ _ h1 λc hc o e=>q1.extBut _ _ (D.f1 c hc).1 e) λr e q2 he=>?_);exact hE r e _ (λc o n _ i _ x=>q2 _ _ i (q1.extBut _ _ n x)) he
def ZX (z TI TO:Addr) (h:db):Prop:=(ft h z TI TO .none/\∃a b,dd h TO a b)\/∃T f e,jL h z TI TO T f/\h.get? T=al e/\e.cls = .type "tuple"
theorem ZX.at (x:ZX z TI TO h) (k:∀c o,(o.cls = .type "zip" \/ o.cls = .type "tuple")->h.get? c=al o->h'.get? c=al o):ZX z TI TO h':=by
 rcases x with ⟨h1,a,b,e⟩ | ⟨T,f,t,h1,e,G⟩
 . exact .inl #[k _ _ (.inl rfl) h1,a,b,k _ _ (.inr rfl) e]
 . exact .inr #[T,f,t,k _ _ (.inl rfl) h1,k _ _ (.inr G) e,G]
theorem ZX.typeIs (x:ZX z TI TO s.heap):s.TypeIs (.ref z) "zip" := by
 rcases x with ⟨h1,_⟩ | ⟨T,f,e,h1,_⟩
 . exact#[_,h1,rfl]
 . exact#[_,h1,rfl]
theorem uF (D:ZAp z TI TO i1 i2 F1 F2) (G:BQ F1 S1) (u:BQ F1 gx) (J:BQ F2 S2) (S:BQ F2 jg) (Z:∀A:cx,NxI prog w A i1 S1 gx R1) (B:∀A:cx,NxI prog w A i2 S2 jg R2) (t:ZX z TI TO s.heap) (N:dd s.heap TI (.ref i1) (.ref i2)) (h1:S1 s.heap) (q:S2 s.heap) (l1:∀h,gx h->i1 < h.objs.size) (l2:∀h,jg h->i2 < h.objs.size) (m1:∀h,S1 h->∃o,h.get? i1=al o/\o.cls≠.type "tuple") (m2:∀h,S2 h->∃o,h.get? i2=al o/\o.cls≠.type "tuple") (I:∀h' tk x y,R1 x->R2 y->ZX z TI TO h'->gx h'->jg h'->dd h' s.heap.objs.size x y ->(∀c o,c≠z->c≠TO->c≠i1->c≠i2->s.heap.get? c=al o->h'.get? c=al o)->Q (al (.ref s.heap.objs.size)) { s with heap:=h',toks:=tk }) :
   wpAny (model prog w) A (pyNext (.ref z)) Q E s:=by
 have R:=t.typeIs;rcases t with ⟨t,a,b,ml⟩ | ⟨T,f,oT,t,p,M⟩
 . exact U8 D G u J S Z B t N ml h1 q l1 l2 λh' tk x y b1 r g v m O n b8 L=>I h' tk x y b1 r (.inr #[_,bj,_,g,n,rfl]) m O n L
 . unfold pyNext;refine zZ (er (wpAny_callSpecial?_slot (name:=a0Q "__next__") R a9K (cr a9K R F.entry_zip_next (jM D G u J (Z _) (B _) t p N h1 q λh' tk x y b1 r g v m O n=>zY ?_) (c2Z _))));have i:∀c o,h'.get? c=al o->(h'.push { cls:=.type "tuple", data:=.seq (z3 [x,y]) }).get? c=al o:=λc o e=>zW _ e;have hp:dd (h'.push { cls:=.type "tuple", data:=.seq (z3 [x,y]) }) s.heap.objs.size x y:=by rw[<-O];exact yZ _ rfl
   refine I _ tk x y b1 r (.inr #[T,ap,oT,i _ _ g,i _ _ (n _ _ ?_ ?_ ?_ p),M]) (u _ _ v λc hc o e=>i c o e) (S _ _ m λc hc o e=>i c o e) hp λc o U _ X Y e=>i c o (n c o U X Y e);. rintro rfl;rw[t] at p;cases p;exact absurd (show c0Z "zip" = .type "tuple" from M) (by decide)
   . rintro rfl;obtain⟨o,j,k⟩:=m1 _ h1;rw[j] at p;cases p;exact k M
   . rintro rfl;obtain⟨o,j,k⟩:=m2 _ q;rw[j] at p;cases p;exact k M
theorem uG (r:A.handled=am) (D:ZAp z TI TO i1 i2 F1 F2) (y:BQ F1 S1) (Z:∀A:cx,A.handled=am->NxE prog w A i1 S1) (t:ZX z TI TO s.heap) (M:dd s.heap TI (.ref i1) (.ref i2)) (h1:S1 s.heap) (n:∀h' tk,(∀c o,c≠z->c≠TO->c≠i1->c≠i2->s.heap.get? c=al o->h'.get? c=al o)->Q am { s with heap:=h',toks:=tk }):wpAny (model prog w) A (pyNext (.ref z)) Q E s:=by
 have i:=t.typeIs;rcases t with ⟨t,a,b,g⟩ | ⟨T,f,x,t,j,N⟩
 . exact U9 (i1:=i1) (i2:=i2) r t (λv q k m u=>U7 D y (Z m u) t M g h1 k) n
 . unfold pyNext;refine zZ (er (wpAny_callSpecial?_slot (name:=a0Q "__next__") i a9K (cr a9K i F.entry_zip_next (oZ D y (Z _ r) t j M h1 λh' e tk hk he=>?_) (c2Z _))));obtain⟨o,p,hc⟩:=he;refine zZ (fw (T:= "StopIteration") (b:=ap) #[o,p,hc] jc ?_);exact zY (n _ _ hk)
end
section
variable {prog:bq}{w:bo}{A:cx}{R:Result->ba->Prop}{z TI TO i1 i2 l1 l2 D:Addr}{xs ys:Array ar}{prs:List (Key×ar)}
def ZP (xs ys:Array ar) (prs:List (Key×ar)):Prop:=xs.size=prs.length/\ys.size=prs.length/\∀(j:Nat) (x y:ar) (kv:Key×ar),xs[j]?=al x->ys[j]?=al y->prs[j]?=al kv->KY kv.1 x=ap/\kv.2=y
abbrev S1z (i1 l1:Addr) (xs:Array ar) (i:Nat):db->Prop:=λh=>h.IsTupleIter i1 l1 i/\h.IsTuple l1 xs
abbrev S2z (i2 l2:Addr) (ys:Array ar) (i:Nat):db->Prop:=λh=>h.IsListIter i2 l2 i/\h.IsList l2 ys
theorem SB (i:Nat):BQ [i1,l1] (S1z i1 l1 xs i):=λh h' x k=>#[x.1.at λo e=>k i1 (by simp) o e,let #[o,e,r]:=x.2;#[o,k l1 (by simp) o e,r]]
theorem WU (i:Nat):BQ [i2,l2] (S2z i2 l2 ys i):=λh h' x k=>#[x.1.at λo e=>k i2 (by simp) o e,x.2.at λo e=>k l2 (by simp) o e]
theorem cW (hh:A.handled=am) (p:ZAp z TI TO i1 i2 [i1,l1] [i2,l2]) (J:TI≠z/\TI≠TO/\TI≠i1/\TI≠i2) (d:D≠z/\D≠TO/\D≠i1/\D≠i2/\D≠TI/\D≠l1/\D≠l2) (I:l1≠i1) (S:l2≠i2) (hp:ZP xs ys prs):∀(k i:Nat) (kvs:List (Key×ar)) (s:ba),prs.length - i=k->i<=prs.length ->
   ZX z TI TO s.heap->dd s.heap TI (.ref i1) (.ref i2)->S1z i1 l1 xs i s.heap->S2z i2 l2 ys i s.heap->s.heap.DictOf (AG prog w) D kvs->kvs.length+k<=bd ->
   (∀h' tk,(∀b o,b≠D->b≠z->b≠TO->b≠i1->b≠i2->s.heap.get? b=al o->h'.get? b=al o)->h'.DictOf (AG prog w) D (merged kvs (prs.drop i))->R (.ok (.ret .none)) { s with heap:=h',toks:=tk }) ->
   codeAny (model prog w) A (.builtin "dict.update.loop" #[[.ref D,.ref z,et i,.none],[]]) R s:=by
 intro k;induction k with
 | zero=>
   intro i kvs s hk hi m M h1 v hd hsz hR;have e:i=prs.length:=by lia
   subst e;refine iv HX ?_;rw[Around.under_plainId CV _];show wpAny _ A.in1 (pyNext (.ref z) >>= _) _ _ s;refine zZ (uG (A:=A.in1) hh p (SB _) (λQ vf=>UO vf (by rw[<-hp.1];simp)) m M h1 λrb zr O=>?_);show wpAny _ A.in1 (Builtin.Dict.addKeywords D [] >>= _) _ _ _;refine zZ (zY (zY (hR rb zr (λb o _ b1 t n a e=>O b o b1 t n a e) ?_)));rw[List.drop_length];exact hd.at λo e=>O D o d.1 d.2.1 d.2.2.1 d.2.2.2.1 e
 | succ k ih=>
   intro i kvs s hk hi m M h1 v hd hsz hR;have Y:i < prs.length:=by lia
   have hx:xs[i]?=al (xs[i]'(by rw[hp.1];exact Y)):=b2K _;have hy:ys[i]?=al (ys[i]'(by rw[hp.2.1];exact Y)):=b2K _;refine iv HX ?_;rw[Around.under_plainId CV _];show wpAny _ A.in1 (pyNext (.ref z) >>= _) _ _ s;refine zZ (uF (A:=A.in1) p (SB i) (SB (i+1)) (WU i) (WU (i+1)) (λQ=>bQ I hx) (λQ=>uE S hy) m M h1 v (λh q=>let #[o,e,_]:=q.1;zM e) (λh q=>let #[o,e,_]:=q.1;zM e) (λh q=>let #[o,e,c,_]:=q.1;#[o,e,by rw[c];decide]) (λh q=>let #[o,e,c,_]:=q.1;#[o,e,by rw[c];decide]) λg tk x y rx ry X G U u r=>?_);subst rx ry;obtain⟨q1,q2⟩:=hp.2.2 i _ _ prs[i] hx hy (zV Y);have N:g.DictOf (AG prog w) D kvs:=hd.at λo e=>r D o d.1 d.2.1 d.2.2.1 d.2.2.2.1 e;have L:dd g TI (.ref i1) (.ref i2):=r TI _ J.1 J.2.1 J.2.2.1 J.2.2.2 M;refine zZ (bv ?_);refine zZ (wpAny_tryCatch ?_);unfold Builtin.Dict.pairItems;refine zZ (gl (T:= "tuple") #[_,u,rfl] ?_);rw[if_pos (by decide)];refine zZ (c4 u rfl (zY ?_));dsimp only[Option.getD_some];refine bv (wpAny_dictSet_pairs (hsz:=by lia) (show(AG prog w).is prs[i].1 _=ap from q1) N λj hd2 mr=>?_);have B:∀b o,b≠D->g.get? b=al o->j.get? b=al o:=λb o hb e=>(mr.2 b hb).trans e;refine zY #[plainId_quiet CV _,?_];rw[<-q2] at hd2;have nd:∀c o,(o.cls = .type "zip" \/ o.cls = .type "tuple")->g.get? c=al o->j.get? c=al o:=λc o hc e=>B c o (λe'=>by
     obtain⟨o',_,_,hg,jw,_⟩:=N;rw[e',hg] at e;cases e;rw[jw.1] at hc;rcases hc with hc | hc <;> exact absurd hc (by decide)) e;exact ih (i+1) (stored kvs prs[i].1 prs[i].2) _ (by lia) (by lia) (X.at nd) (B TI _ d.2.2.2.2.1.symm L) (SB (i+1) _ _ G λc hc o e=>B c o (λe'=>by
       simp only[yX,xX,or_false] at hc;rcases hc with rfl | rfl;. exact d.2.2.1 e'.symm
       . exact d.2.2.2.2.2.1 e'.symm) e) (WU (i+1) _ _ U λc hc o e=>B c o (λe'=>by
       simp only[yX,xX,or_false] at hc;rcases hc with rfl | rfl;. exact d.2.2.2.1 e'.symm
       . exact d.2.2.2.2.2.2 e'.symm) e) hd2 (by have:=stored_length_le kvs prs[i].1 prs[i].2;lia)
     (λh' zp lr Z=>hR h' zp (λb o f b1 t n a e=>lr b o f b1 t n a (B b o f (r b o b1 t n a e))) (by
       rw[c0X Y];exact Z))
end
end L2
namespace L2
open PySem PySem.Spec PyProof.Rows
section
variable {prog:bq}{w:bo}{A:cx}{E:ar->ba->Prop}{s:ba}{z TI TO i1 i2 l1 l2:Addr}{xs ys:Array ar}{prs:List (Key×ar)}
theorem T6 (m:A.handled=am) (k:ZAp z TI TO i1 i2 [i1,l1] [i2,l2]) (L:TI≠z/\TI≠TO/\TI≠i1/\TI≠i2) (x:l1≠i1) (N:l2≠i2) (hp:ZP xs ys prs) (hsz:prs.length<=bd) (n:ft s.heap z TI TO .none) (p:dd s.heap TO .none .none) (M:dd s.heap TI (.ref i1) (.ref i2)) (h1:S1z i1 l1 xs 0 s.heap) (i:S2z i2 l2 ys 0 s.heap) (h:∀h' tk,(∀b o,b≠z->b≠TO->b≠i1->b≠i2->s.heap.get? b=al o->h'.get? b=al o)->h'.DictOf (AG prog w) s.heap.objs.size (merged [] prs)->Q (.ref s.heap.objs.size) { s with heap:=h',toks:=tk }) :
   wpAny (model prog w) A (call (.type "dict") [.ref z]) Q E s:=by
 refine callType_codes (Q₁:=λobj J=>obj = .ref s.heap.objs.size/\J={ s with heap:=s.heap.push { cls:=.type "dict", data:=.dict #[] } }) F.kt_called_dict (F.kt_typeCall_dict_1 _) F.entry_dict_init (kt_code_dict_new _ #[rfl,rfl]) ?_;rintro obj J ⟨rfl,rfl⟩;have q:(s.heap.push { cls:=.type "dict", data:=.dict #[] }).DictOf (AG prog w) s.heap.objs.size []:=Heap.DictOf.new s.heap;have f:∀b o,s.heap.get? b=al o->(s.heap.push { cls:=.type "dict", data:=.dict #[] }).get? b=al o:=λb o e=>zW _ e;refine#[q.typeIs,F.args_dict_init_2 _ _,?_];unfold Builtin.«dict.__init__»;refine zZ ?_;unfold Builtin.Dict.selfAndRest;refine zZ (wpAny_notOrdered_dict q.typeIs ?_);show wpAny _ _ (pure (s.heap.objs.size,[a0X z])) _ _ _;refine zY ?_;show wpAny _ _ (Builtin.Dict.updateFrom "dict.__init__" s.heap.objs.size (.ref z) [] .none) _ _ _;unfold Builtin.Dict.updateFrom;refine zZ (gl (T:= "zip") #[_,f _ _ n,rfl] ?_);rw[if_pos (by decide)];refine zZ (T5 (f _ _ n) m λg X j=>?_);dsimp only[Option.isNone_none];rw[if_pos rfl];have t:∀b o,s.heap.get? b=al o->g.get? b=al o:=λb o e=>j _ _ (f _ _ e);have Y:g.DictOf (AG prog w) s.heap.objs.size []:=q.at λo e=>j _ _ e;refine zZ (dV (zZ (wpAny_pyIter_zip (s:={ s with heap:=g,toks:=X }) (t _ _ n) ?_)));refine zY #[plainId_quiet CV _,?_];have O:∀{c o},s.heap.get? c=al o->s.heap.objs.size≠c:=λe=>a8K (zM e);have S:s.heap.objs.size≠i1:=by obtain⟨o,e,_⟩:=h1.1;exact O e
 have B:s.heap.objs.size≠i2:=by obtain⟨o,e,_⟩:=i.1;exact O e
 have G:s.heap.objs.size≠l1:=by obtain⟨o,e,_⟩:=h1.2;exact O e
 have U:s.heap.objs.size≠l2:=by obtain⟨o,e,_⟩:=i.2;exact O e
 refine cW (A:=A.in1) (R:=wants (λr a=>r=a3X/\Q (a0X s.heap.objs.size) a) E) (D:=s.heap.objs.size) (prs:=prs) m k L #[O n,O p,S,B,O M,G,U] x N hp prs.length 0 [] { s with heap:=g,toks:=X } (by lia) (xT _) (.inl #[t _ _ n,_,_,t _ _ p]) (t _ _ M) (SB 0 _ _ h1 λc _ o e=>t c o e) (WU 0 _ _ i λc _ o e=>t c o e) Y (by simpa using hsz) λh' tk I Z=>?_;exact#[rfl,h h' tk (λb o b1 u v y e=>I b o (a8Q (O e)) b1 u v y (t b o e)) Z]
end
section
variable {X:Cx}{K:Frg}
def ZQ (K:Frg) (k:TA):TE:=λo H Q=>k o H λa t=>∃(R n:Addr) (z:List (Key×V)),a=[.ref R,.ref n]/\SqT K t R (z.map λe=>kV e.1)/\SqL K t n (z.map (·.2)) /\∀q,t q=am->Q (.ref q) (upd t q (.dK (FK [] z)))
theorem UU {P:bq}{w:bo}:∀{z:List (Key×V)}{xs ys:List ar},Vals (z.map λe=>kV e.1) xs->Vals (z.map (·.2)) ys->∃prs:List (Key×ar),ZP xs.toArray ys.toArray prs/\KV z prs/\prs.length=z.length
 | [],_,_,.nil,.nil=>#[[],#[rfl,rfl,λj x y kv c f n=>by simp at n],.nil,rfl]
 | e::z,_,_,.cons r t,.cons o i=>by
   rename_i x xs y ys;obtain⟨prs,hp,hk,m⟩:=UU (P:=P) (w:=w) t i;refine#[(e.1,y)::prs,#[by have:=hp.1;simpa using this,by have:=hp.2.1;simpa using this,λj a b kv q1 q2 Q=>?_],.cons #[rfl,o] hk,by simp[m]];cases j with
   | zero=> simp at q1 q2 Q;subst q1 q2 Q;exact#[HV (P:=P) (w:=w) r,rfl]
   | succ j=>exact hp.2.2 j a b kv (by simpa using q1) (by simpa using q2) (by simpa using Q)
theorem cX {a b:ca}{R:TA}{Z p pos mp:fb}(hk:X.K=K) (Y:PA X [a,b] R) (hc:X.calm=ap) (hg:Gl X "zip") (hm:X.mg "zip"=am) (ue:Gl X "dict") (uy:X.mg "dict"=am) (hs:starEach [.Call (.Name "zip" Z) [a,b] [] p] X.env=[(bj,eval (.Call (.Name "zip" Z) [a,b] [] p) X.env)]:=by rfl) (mn:starEach [a,b] X.env=[(bj,eval a X.env),(bj,eval b X.env)]:=by rfl) (N:starEach [b] X.env=[(bj,eval b X.env)]:=by rfl) :
   PE X (.Call (.Name "dict" mp) [.Call (.Name "zip" Z) [a,b] [] p] [] pos) (ZQ K R):=by
 subst hk;intro pins s σ H Q I h;refine eD (FI I ue uy boot_dict ?_);refine xH ?_ hs rfl;rw[hs];show wpAny _ _ (spliced ((bj,eval (.Call (.Name "zip" Z) [a,b] [] p) X.env)::backTo pos (starEach [] X.env))) _ _ _;refine xP ?_;refine Call_ (FI I hg hm boot_zip (xH (thn (Y p pins s σ H _ I h) λus i #[vs,H1,D,r1,q1]=>?_) (by rw[mn,N]) (by rw[N];rfl)));have O:∀(m n:Nat),m≠n->i.heap.objs.size+m≠i.heap.objs.size+n:=λm n h e=>h (Nat.add_left_cancel e);obtain⟨l1,l2,f,rfl,hx,hy,q⟩:=q1;cases r1 with
 | cons r M=>
   cases M with
   | cons r' M=>
     cases M;cases r';cases r;obtain⟨G,rx,u,Mt⟩:=D.tuple hx;obtain⟨T,ry,v,x⟩:=D.list hy;obtain⟨prs,hp,S,mh⟩:=UU (P:=X.prog) (w:=X.w) rx ry;refine UA (eT (t:=l1) (items:=G.toArray)) (oY (t:=l2) (items:=T.toArray)) (λh o q=>q.push o) rfl rfl u v.isList λh' b1 B J y L hk=>?_;show wpAny _ _ (spliced []) _ _ _;refine zY ?_;have j:l1 < i.heap.objs.size:=by obtain⟨o,e,_⟩:=u;exact zM e
     have k:l2 < i.heap.objs.size:=by obtain⟨o,e,_⟩:=v.isList;exact zM e
     have gt:∀{c:Addr}{m:Nat},c < i.heap.objs.size->c≠i.heap.objs.size+m:=λh=>zC (zP h (a8X _ _));refine T6 (s:={ i with heap:=h' }) (D.ok.hd hc) (z:=i.heap.objs.size+4) (TI:=i.heap.objs.size+2) (TO:=i.heap.objs.size+3) (i1:=i.heap.objs.size) (i2:=i.heap.objs.size+1) (l1:=l1) (l2:=l2) (xs:=G.toArray) (ys:=T.toArray) (prs:=prs) #[O 3 4 (by decide),O 0 4 (by decide),O 1 4 (by decide),O 3 0 (by decide),O 3 1 (by decide),O 0 1 (by decide),λc hc=>?_,λc hc=>?_] #[O 2 4 (by decide),O 2 3 (by decide),O 2 0 (by decide),O 2 1 (by decide)] (gt (m:=0) j) (gt k) hp (by rw[mh];simpa using x) b1 J B #[#[_,y,rfl,rfl],let #[o,e,r]:=u;#[o,hk _ _ e,r]] #[#[_,L,rfl,rfl],v.isList.at λo e=>hk _ _ e] λg tk U hd=>?_
     . simp only[yX,xX,or_false] at hc;rcases hc with rfl | rfl;. exact#[O 0 4 (by decide),O 0 3 (by decide),O 0 1 (by decide)]
       . exact#[gt j,gt j,gt j]
     . simp only[yX,xX,or_false] at hc;rcases hc with rfl | rfl;. exact#[O 1 4 (by decide),O 1 3 (by decide),O 1 0 (by decide)]
       . exact#[gt k,gt k,gt (m:=0) k]
     have hle:i.heap.objs.size<=h'.objs.size:=xR (zM y);have keep:∀b o,i.heap.get? b=al o->g.get? b=al o:=λb o e=>by have:=zM e;exact U b o (gt this) (gt this) (gt (m:=0) this) (gt this) (hk b o e)
     have hl:(FK [] f).length<=sizeLine:=by
       have:=GJ f [];simp only[b1J] at this;have h3:f.length<=sizeLine:=by simpa using x
       lia
     refine#[.ref h'.objs.size,_,D.laid (t':=tk) (o:=.dK (FK [] f)) keep hle ?_,rfl,q _ (D.hok.fresh hle)];exact NT hl (beq_eq_false_iff_ne.mpr (a8Q (zC (zP D.big hle)))) (S.merge .nil) hd
end
end L2
namespace DL
open PySem PySem.Spec L2
section
theorem fY :∀{ts:List (Int×PyData)}{B o:List V},DVs K H W (ts.map λt=>a4V t.1) B->DVs K H W (ts.map (·.2)) o->∃z:List (Key×V),B=z.map (λe=>kV e.1)/\o=z.map (·.2)/\DKV K H W (AR ts) z
 | [],_,_,h1,a=>by cases h1;cases a;exact#[[],rfl,rfl,EI.mpr rfl]
 | t::r,_,_,h1,a=>by obtain⟨x,i,rfl,n,c⟩:=h1;obtain⟨y,q,rfl,b1,b⟩:=a;obtain⟨z,rfl,rfl,hd⟩:=fY c b;unfold DV at n;subst n;exact#[(a4X t.1,y)::z,rfl,rfl,C0.mpr #[y,z,rfl,b1,hd]]
theorem cY (h:DA K i ρ M λxs M1=>∃ts:List (Int×PyData),xs=[.d (.tuple (ts.map λt=>.int t.1)),.d (.list (ts.map (·.2)))]/\(ts.map (·.1)).Nodup/\∀p,M1 p=am->Q (.loc p) (M1.put p (.d (AR ts)))):DE K (ZQ K i) ρ M Q:=λN H QQ R k=>
 h N H _ R λJ O xs M1 o u y c=>by
   obtain⟨ts,e,nd,q⟩:=c;subst e;obtain⟨v,r,rfl,h1,n⟩:=u;obtain⟨S,I,rfl,n,G⟩:=n;cases G;unfold SI DV at h1 n;obtain⟨a,D,rfl,m,T⟩:=h1;obtain⟨b,B,rfl,f,hd2⟩:=n;obtain⟨z,rfl,rfl,hd⟩:=fY T hd2;refine#[a,b,z,rfl,m.sq,f.sq,λp hp=>?_];have g:(z.map (·.1)).Nodup:=by rw[OB hd];unfold List.Nodup;rw[a5J];exact nd.imp λ{a b} q e=>q (by injection e)
   rw[J3 _ [] (by simpa using g),List.nil_append];obtain⟨j,x⟩:=IY o hp hd;exact k _ _ (.loc p) _ j rfl (y.trans x) (q p (o.none hp))
end
end DL
namespace DL
open PySem PySem.Spec L2
section
theorem T7 (ho:HW g T) (hT:∀i∈T,∀j,r[i]?≠al (al j)) (h:DI K wi ρ M λds M1=>ds.length < bd/\∃(c:PyData->Bool) (f:PyData->PyData),(∀d∈ds,∀A acc e,M1 A=am->e=M1.put A (.l acc)->DG K g d (CA r ρ) e λa M2=>M2=e/\DT K O a M2 λb u=>u=e/\b=c d/\(c d=ap->DE K z a u λy x=>y = .d (f d)/\x=e))/\∀A,M1 A=am->Q (.loc A) (M1.put A (.l ((ds.filter c).map f)))) :
   DE K (L1 r wi g O z) ρ M Q:=by
 refine nL ho hT λm H R G k=>h m H R G λJ ds I M1 o1 t1 wd q=>k J ds I M1 o1 t1 wd ?_;obtain⟨hsz,c,f,he,q⟩:=q;refine#[hsz,λA hA=>#[λk acc e=>acc=((ds.take k).filter c).map f/\e=M1.put A (.l acc),#[by simp,rfl],λk acc e #[n,t]=>#[by rw[t];exact zU,?_],λk d acc e hd #[n,t]=>?_,λacc e #[n,t]=>?_]];. rw[n,zX];exact zN (yJ _ _) (by rw[a2Q];lia)
 . have hm:d∈ds:=yN hd;intro m H v QQ R U kk;refine he d hm A acc e hA t m H v QQ R U λY M2 S H' B st L=>kk Y M2 S H' B st λp D QQ2 R2 k2=>?_;obtain⟨eM,q2⟩:=L;refine q2 p D QQ2 R2 λb Z u o3 ee ka=>k2 b Z u o3 ee ?_;obtain⟨wt,o,q3⟩:=ka;have N:(ds.take (k+1)).filter c=(ds.take k).filter c++(if c d then [d] else []):=fx c ds k d hd;cases hb:c d with
   | false=> rw[hb] at o;subst o;refine L2.kW #[?_,by rw[wt,t]];rw[N,hb,n];simp
   | true=>
     rw[hb] at o;subst o;refine L2.gU ?_;refine MQ (q3 hb) λy x #[ey,X]=>#[f d,ey,by rw[X,t];exact zU,?_,by rw[X,t,yI]]
     rw[N,hb,n];simp
 . rw[t,n,a1V];exact q A hA
end
end DL
namespace DL
open PySem PySem.Spec L2
section
variable {w:List Th}{ls:List (Str×Deed)}{st ws l:List Nat}{k i:Nat}
def fBk (ts:List (Int×PyData)):PyData->PyData
 | .int j=>.tuple [.str (a0Q "back"),.int j,(AT ts j).getD .none]
 | d=>d
def DJ (ls:List (Str×Deed)) (st ws l:List Nat):List PyData:=(l.filter λk=>decide (k∈lfB ls st ws)||!decide (k∈st)).map λk=>NE (a0Q "again") k (((dsL ls).map Deed.d).getD k .none)
theorem SD (h:ws[i]?=al k):DJ ls st ws (ws.take (i+1))=DJ ls st ws (ws.take i)++(if (decide (k∈lfB ls st ws)||!decide (k∈st))=ap then [NE (a0Q "again") k (((dsL ls).map Deed.d).getD k .none)] else []):=by unfold DJ;rw[a0V,h,Option.toList_some,List.filter_append,xI];congr 1;rw[a2K];split <;> simp
theorem cZ (h:(dsL ls)[k]?=al D):((dsL ls).map Deed.d).getD k .none=D.d:=by rw[yU,zF,h];rfl
theorem fZ (hs:isSt ls st):((bkS w (dsL (AW ls st))).map Deed.d).length=(BX st).length:=by rw[zX,fX];unfold dsL BX;rw[zX,zX,JF hs.lt]
theorem WV (hs:isSt ls st):(bkT w ls st).map (·.1)=BX st:=by unfold bkT;exact List.map_fst_zip (by rw[fZ hs];exact zR _)
theorem uH (hs:isSt ls st):(bkT w ls st).map (·.2)=(bkS w (dsL (AW ls st))).map Deed.d:=by unfold bkT;exact List.map_snd_zip (by rw[fZ hs];exact zR _)
theorem A0x (hs:isSt ls st):[DS.d (.tuple (AA st)),.d (.list (bkL w (dsL (AW ls st)) (dsL (AW ls st)).length))]=[.d (.tuple ((bkT w ls st).map λt=>.int t.1)),.d (.list ((bkT w ls st).map (·.2)))]:=by rw[uH hs,vZ,show((bkT w ls st).map λt=>a4V t.1)=((bkT w ls st).map (·.1)).map .int by rw[zD];rfl,WV hs]
theorem A0y (hs:isSt ls st):((bkT w ls st).map (·.1)).Nodup:=by rw[WV hs];exact(JD hs.inc).imp λ{a b} q=>by lia
theorem ZR:∀{ts:List (Int×PyData)}{j:Int},j∈ts.map (·.1)->∃v,AT ts j=al v
 | [],_,h=>by simp at h
 | t::r,j,h=>by
   unfold AT;by_cases e:t.1=j;. rw[if_pos e];exact#[_,rfl]
   . rw[if_neg e];rw[zI] at h;rcases yX.mp h with h | h;. exact absurd h.symm e
     . exact ZR h
theorem p6 (hs:isSt ls st) (hk:k∈st):∃v,AT (bkT w ls st) (k:Int)=al v:=ZR (by rw[WV hs];exact CF.mpr #[k,hk,rfl])
theorem jN:((AA (lfB ls st ws)).reverse.map (fBk (bkT w ls st)))=DH w ls st ws:=by unfold DH AA BX;rw[<-List.map_reverse,<-List.map_reverse,zD,zD];rfl
end
end DL
namespace DL
open PySem PySem.Spec L2
section
variable {X:Cx}{K:Frg}{M:Own}{ρ:List (Option DS)}{t u v:TS}{D E:EndsD}{x:DS}{a:fv}{r:List fv}{Φ:TS->Prop}
def Nm (X:Cx) (l:List fv) (Φ:TS->Prop):Prop:=∃t,PSs X l t/\Φ t
theorem uI (h:Nm X r λJ=>∀x,J=x->∃k,PS X a k/\Φ (pR k x)):Nm X (a::r) Φ:=by obtain⟨J,h1,e⟩:=h;obtain⟨k,G,z⟩:=e J rfl;exact#[_,PX G h1,z]
theorem p7 (h:∃k,PS X a k/\Φ k):Nm X [a] Φ:=by obtain⟨k,G,z⟩:=h;exact#[_,V6 G,z]
theorem hD (N:List Str) {x:Str}(F:Fun K x qual st f O) (n:FnScope N e (AB st)) (hb:∀(cdv:ar) (A:cx) (outer:List Env) (s:ba) (H:Hp) (E:XK),Room k (A.deeper (xL qual (AB st) s.heap.objs.size f cdv))->(A.deeper (xL qual (AB st) s.heap.objs.size f cdv)).units+64 < ev->(A.deeper (xL qual (AB st) s.heap.objs.size f cdv)).units+1 < ev->N.Nodup ->
     Nm (XT CX0 P w K mg base N qual (AB st) f cdv A outer s H E).nox (CU st) λt=>∀xs M,xs.length=e.length->S.pre xs M->DSt K t (Q7 N xs) M { nx:=λ_ M1=>∃M2:Own,M2.Sub M1/\S.post xs M (.d .none) M2,rt:=λy M1=>∃M2:Own,M2.Sub M1/\S.post xs M y M2 }) :
   FnOk P w K mg base CX0 (k+1) f O e (spD K e.length S):=
 fnD F n λcdv A outer s H E hr=>hb cdv A outer s H E hr hr.units (zQ (Nat.add_le_add_left (show 1<=64 by decide) _) hr.units) n.nd
theorem A0z {a:PyData}(q:Q (.d a) M):D2 K (NX K) (.d (.tuple (a::l))) (.d (.int 0)) M Q:=AE (AK (j:=0) rfl) q
theorem A00 {a:PyData}(q:Q (.d b) M):D2 K (NX K) (.d (.tuple (a::b::l))) (.d (.int 1)) M Q:=AE (AK (j:=1) rfl) q
theorem A01 {a:PyData}(q:Q (.d c) M):D2 K (NX K) (.d (.tuple (a::b::c::l))) (.d (.int 2)) M Q:=AE (AK (j:=2) rfl) q
theorem A02 {a:PyData}(q:Q (.d d) M):D2 K (NX K) (.d (.tuple (a::b::c::d::l))) (.d (.int 3)) M Q:=AE (AK (j:=3) rfl) q
theorem A03 {a:PyData}(q:Q (.d e) M):D2 K (NX K) (.d (.tuple (a::b::c::d::e::l))) (.d (.int 4)) M Q:=AE (AK (j:=4) rfl) q
theorem uJ (h1:u=v) (h:DSt K u ρ M D):DSt K v ρ M D:=h1▸h
end
end DL
namespace L2
open PySem PySem.Spec PyProof.Rows
structure Src (P:bq) (w:bo) (K:Frg) (j:Addr) (st:Nat->db->Prop) (ni:Hp->Nat->Prop) (has:Hp->Nat->V->Prop) (out:Hp->Nat->Prop):Prop where
 obj:∀i h,st i h->∃o,h.get? j=al o/\∀v,o.data≠.cell v
 keep:∀i h h',st i h->(∀o,h.get? j=al o->h'.get? j=al o)->st i h'
 item:∀{X:Cx}{pins:List (Addr×dc)}{σ:St}{H:Hp}{s:ba}{i:Nat}{fp:List Addr},Inv X pins σ H s->X.K=K->(∀c∈fp,LM X pins H c)->ni H i->st i s.heap->j∈fp ->∃(x:V) (F:List Addr) (S S':db->Prop) (R:ar->Prop),has H i x/\(∀c∈F,c=j\/c∉fp)/\BQ F S/\BQ F S'/\(∀A,NxI P w A j S S' R)/\S s.heap/\(∀u,R u->RelV x u)/\∀h,S' h->st (i+1) h
 done:∀{X:Cx}{pins:List (Addr×dc)}{σ:St}{H:Hp}{s:ba}{i:Nat}{fp:List Addr},Inv X pins σ H s->X.K=K->(∀c∈fp,LM X pins H c)->out H i->st i s.heap->j∈fp ->∃(F:List Addr) (S:db->Prop),(∀c∈F,c=j\/c∉fp)/\BQ F S/\(∀A:cx,A.handled=am->NxE P w A j S)/\S s.heap
def Itg (e f:Hp->Nat->Prop) (h1 t:Hp->Nat->V->Prop) (k n:Hp->Nat->Prop):It:=#[λi H=>e H i/\f H i,λi H v H'=>∃p a b,H p=am/\v = .ref p/\H'=upd H p (.tup [a,b])/\h1 H i a/\t H i b,λi H=>k H i\/e H i/\n H i]
theorem jO {P:bq}{w:bo}{K:Frg}{eo:List ca}{kk:Nat}{cw:fb}(z TI TO i1 i2:Addr) {s1 s2:Nat->db->Prop}{c1 c2:Hp->Nat->Prop}{h1 h2:Hp->Nat->V->Prop}{o1 o2:Hp->Nat->Prop}(A1:Src P w K i1 s1 c1 h1 o1) (A2:Src P w K i2 s2 c2 h2 o2) (d1:TI≠z) (d2:TO≠z) (d3:i1≠z) (d4:i2≠z) (d5:TI≠TO) (d6:TI≠i1) (d7:TI≠i2) (d8:TO≠i1) (d9:TO≠i2) (vh:i1≠i2) :
   Turn P w K (.Tuple eo kk cw) (Itg c1 c2 h1 h2 o1 o2) [z,TI,TO,i1,i2] z (λi h=>ft h z TI TO .none/\dd h TI (.ref i1) (.ref i2)/\(∃a b,dd h TO a b)/\s1 i h/\s2 i h) where
 mem:=by simp
 obj:=by
   rintro i h ⟨a1,a2,⟨x,y,a3⟩,a4,a5⟩ b hb;simp only[yX,xX,or_false] at hb;rcases hb with rfl | rfl | rfl | rfl | rfl;. exact⟨_,a1,λv q=>by cases q⟩
   . exact⟨_,a2,λv q=>by cases q⟩
   . exact⟨_,a3,λv q=>by cases q⟩
   . exact A1.obj i h a4
   . exact A2.obj i h a5
 keep:=by rintro i h h' ⟨a1,a2,⟨x,y,a3⟩,a4,a5⟩ k;exact#[k z (by simp) _ a1,k TI (by simp) _ a2,#[x,y,k TO (by simp) _ a3],A1.keep i h h' a4 λo e=>k i1 (by simp) o e,A2.keep i h h' a5 λo e=>k i2 (by simp) o e]
 item:=by
   intro X hP hw hK hc i pins s σ H E I hf #[a1,a2,#[x0,y0,a3],a4,a5] #[hx,hy];subst hP hw;obtain⟨x,F1,S1,gx,R1,jw,f1,t1,mj,n1,q1,r1,e1⟩:=A1.item I hK hf hx a4 (by simp);obtain⟨y,F2,S2,jg,R2,Kp,f2,t2,qp,n2,q2,r2,e2⟩:=A2.item I hK hf hy a5 (by simp);have D:ZAp z TI TO i1 i2 F1 F2:=#[d2,d3,d4,d8,d9,vh,λc hc=>by
       rcases f1 c hc with rfl | hn;. exact#[d3,d8.symm,vh]
       . simp only[yX,xX,or_false,not_or] at hn;exact#[hn.1,hn.2.2.1,hn.2.2.2.2],λc hc=>by
       rcases f2 c hc with rfl | hn;. exact#[d4,d9.symm,vh.symm]
       . simp only[yX,xX,or_false,not_or] at hn;exact#[hn.1,hn.2.2.1,hn.2.2.2.1]]
   refine U8 D t1 mj t2 qp n1 n2 a1 a2 a3 q1 q2 (λh q=>let #[o,e,_]:=A1.obj _ h (e1 h q);zM e) (λh q=>let #[o,e,_]:=A2.obj _ h (e2 h q);zM e) λh' tk u1 u2 Kq Kr b1 b2 b3 b4 b5 b6 hk=>?_;refine#[_,rfl,wpAny_letOwnedTupleGo_zip (s:={ s with heap:=h',toks:=tk }) b1 λh2 c1 sb=>?_];have lt:∀{c o},s.heap.get? c=al o->s.heap.objs.size≠c:=λe=>a8K (zM e);have keep:∀b o,b∉[z,TO,i1,i2]->s.heap.get? b=al o->h2.get? b=al o:=λb o hb e=>by simp only[yX,xX,or_false,not_or] at hb;exact sb.extBut b o hb.1 (hk b o hb.1 hb.2.1 hb.2.2.1 hb.2.2.2 e)
   have sub:∀b∈[z,TO,i1,i2],b∈[z,TI,TO,i1,i2]:=λb hb=>by simp only[yX,xX,or_false] at hb ⊢;rcases hb with h | h | h | h <;> simp[h]
   have I1:Inv X pins σ (upd H s.heap.objs.size (.tup [x,y])) { s with heap:=h2,toks:=tk }:=I.turnedT (t':=tk) (ch:=[z,TO,i1,i2]) keep (λb hb=>(hf b (sub b hb)).1) (λb hb=>let q:=hf b (sub b hb);#[q.2.2.2.1,q.2.1,q.2.2.2.2.1,q.2.2.2.2.2]) (zR _) #[by show 2<=bd;decide,[u1,u2],.cons (r1 _ Kq) (.cons (r2 _ Kr) .nil),#[_,sb.extBut _ _ (lt a1) b5,rfl,_,rfl]];refine#[.ref s.heap.objs.size,_,I1,rfl,#[s.heap.objs.size,x,y,I.hok.fresh (zR _),rfl,rfl,jw,Kp],#[c1,keep _ _ (by simp[d1,d5,d6,d7]) a2,#[_,_,sb.extBut _ _ d2 b2],A1.keep _ _ _ (e1 _ b3) λo e=>sb.extBut _ _ d3 e,A2.keep _ _ _ (e2 _ b4) λo e=>sb.extBut _ _ d4 e],λb hb=>?_];rw[AH λe=>?_];. exact(hf b hb).1
   . obtain⟨o,q,_⟩:∃o,s.heap.get? b=al o/\True:=by
       simp only[yX,xX,or_false] at hb;rcases hb with rfl | rfl | rfl | rfl | rfl;. exact#[_,a1,trivial]
       . exact#[_,a2,trivial]
       . exact#[_,a3,trivial]
       . obtain⟨o,e,_⟩:=A1.obj _ _ a4;exact#[o,e,trivial]
       . obtain⟨o,e,_⟩:=A2.obj _ _ a5;exact#[o,e,trivial]
     exact lt q e.symm
 done:=by
   intro X hP hw hK hc i pins s σ H E I hf #[a1,a2,#[x0,y0,a3],a4,a5] hg;subst hP hw;have sub:∀b∈[z,TO,i1,i2],b∈[z,TI,TO,i1,i2]:=λb hb=>by simp only[yX,xX,or_false] at hb ⊢;rcases hb with h | h | h | h <;> simp[h]
   have mk:∀{F1 F2:List Addr},(∀c∈F1,c=i1\/c∉[z,TI,TO,i1,i2])->(∀c∈F2,c=i2\/c∉[z,TI,TO,i1,i2])->ZAp z TI TO i1 i2 F1 F2:=λf1 f2=>#[d2,d3,d4,d8,d9,vh,λc hc=>by
       rcases f1 c hc with rfl | hn;. exact#[d3,d8.symm,vh]
       . simp only[yX,xX,or_false,not_or] at hn;exact#[hn.1,hn.2.2.1,hn.2.2.2.2],λc hc=>by
       rcases f2 c hc with rfl | hn;. exact#[d4,d9.symm,vh.symm]
       . simp only[yX,xX,or_false,not_or] at hn;exact#[hn.1,hn.2.2.1,hn.2.2.2.1]]
   refine U9 (TI:=TI) (TO:=TO) (i1:=i1) (i2:=i2) (I.ok.hd hc) a1 (λQ' E' zq A' vf=>?_) λh' tk hk=>#[rfl,I.turnedL (t':=tk) (ch:=[z,TO,i1,i2]) (λb o hb e=>?_) (λb hb=>(hf b (sub b hb)).1) λb hb=>let q:=hf b (sub b hb);#[q.2.2.2.1,q.2.1,q.2.2.2.2.1,q.2.2.2.2.2]]
   . rcases hg with ho | ⟨hx,ho⟩
     . obtain⟨F1,S1,f1,t1,n1,q1⟩:=A1.done I hK hf ho a4 (by simp);exact U7 (F2:=[]) (mk f1 (by simp)) t1 (n1 A' vf) a1 a2 a3 q1 zq
     . obtain⟨x,F1,S1,gx,R1,_,f1,t1,mj,n1,q1,r1,e1⟩:=A1.item I hK hf hx a4 (by simp);obtain⟨F2,S2,f2,t2,n2,q2⟩:=A2.done I hK hf ho a5 (by simp);exact i7 (mk f1 f2) t1 t2 (n1 A') (n2 A' vf) a1 a2 a3 q1 q2 zq
   . simp only[yX,xX,or_false,not_or] at hb;exact hk b o hb.1 hb.2.1 hb.2.2.1 hb.2.2.2 e
 self:=λ_ _ _ _ _ st h=>wpAny_pyIter_zip st.1 h
theorem uK {P:bq}{w:bo}{K:Frg}(j l:Addr):Src P w K j (λi h=>h.IsTupleIter j l i) (λH i=>∃xs,SqT K H l xs/\i < xs.length) (λH i x=>∀xs,SqT K H l xs->xs[i]?=al x) (λH i=>∃xs,SqT K H l xs/\xs.length<=i) where
 obj:=by rintro i h ⟨o,e,c,d⟩;exact⟨o,e,λv q=>by rw[d] at q;cases q⟩
 keep:=λi h h' st k=>st.at k
 item:=by
   intro X pins σ H s i fp I hK hf #[xs,hx,lx] st hj;subst hK;obtain⟨aa,rx,px,_⟩:=I.tuple hx;obtain⟨u,hu,ru⟩:=rx.get (zV lx);have ne:∀c∈fp,l≠c:=λc hc=>QS I (hf c hc) hx;have t:∀k,BQ [j,l] (λh=>h.IsTupleIter j l k/\h.IsTuple l aa.toArray):=by rintro k h h' ⟨⟨o,e,r⟩,⟨o',e',r'⟩⟩ q;exact#[#[o,q j (by simp) o e,r],#[o',q l (by simp) o' e',r']]
   exact#[_,[j,l],_,_,λv=>v=u,λys hy=>by rw[I.tuple_inj hy hx];exact zV lx,λc hc=>by
     rcases yX.mp hc with rfl | hc;. exact .inl rfl
     . have:c=l:=by simpa using hc
       subst this;exact .inr λq=>ne _ q rfl,t i,t (i+1),λA=>bQ (ne j hj) (by simpa using hu),#[st,px],λv e=>e▸ru,λh q=>q.1]
 done:=by
   intro X pins σ H s i fp I hK hf #[xs,hx,ex] st hj;subst hK;obtain⟨aa,rx,px,_⟩:=I.tuple hx;have ne:∀c∈fp,l≠c:=λc hc=>QS I (hf c hc) hx;have hn:aa.toArray[i]?=none:=b4V (by have:=rx.length;simp;omega);exact#[[j,l],λh=>h.IsTupleIter j l i/\h.IsTuple l aa.toArray,λc hc=>by
     rcases yX.mp hc with rfl | hc;. exact .inl rfl
     . have:c=l:=by simpa using hc
       subst this;exact .inr λq=>ne _ q rfl,(by rintro h h' ⟨⟨o,e,r⟩,⟨o',e',r'⟩⟩ q;exact#[#[o,q j (by simp) o e,r],#[o',q l (by simp) o' e',r']]),λA hA=>UO hA hn,#[st,px]]
theorem uL {P:bq}{w:bo}{K:Frg}(j:Addr) (x:Str) (t:Tok):Src P w K j (λi h=>h.IsStrIter j "str_ascii_iterator" x t i) (λH i=>i < x.cps.size) (λH i v=>∃c,x.cps[i]?=al c/\v = .str #[(z3 [c])]) (λH i=>x.cps.size<=i) where
 obj:=by rintro i h ⟨o,e,c,d⟩;exact⟨o,e,λv q=>by rw[d] at q;cases q⟩
 keep:=by rintro i h h' ⟨o,e,r⟩ k;exact#[o,k o e,r]
 item:=λI hK hf e st hj=>#[_,[j],_,_,_,#[_,b2K e,rfl],λc hc=>.inl (by simpa using hc),(by rintro h h' ⟨o,e,r⟩ q;exact#[o,q j (by simp) o e,r]),(by rintro h h' ⟨o,e,r⟩ q;exact#[o,q j (by simp) o e,r]),λA=>m8 (b2K e),st,λu r=>r,λh q=>q]
 done:=λI hK hf ho st hj=>#[[j],_,λc hc=>.inl (by simpa using hc),(by rintro h h' ⟨o,e,r⟩ q;exact#[o,q j (by simp) o e,r]),λA hA=>i8 hA (b4V ho),st]
def uM (K:Frg) (H:Hp) (u:V) (m:Hp->Nat->Prop) (has:Hp->Nat->V->Prop) (out:Hp->Nat->Prop):Prop:=(∃l,u = .ref l/\(∃t,SqT K H l t)/\(m=λH i=>∃t,SqT K H l t/\i < t.length)/\(has=λH i x=>∀t,SqT K H l t->t[i]?=al x)/\out=λH i=>∃t,SqT K H l t/\t.length<=i) \/∃x:Str,u = .str x/\x.cps.all (· < 128)=ap/\(m=λ_ i=>i < x.cps.size)/\(has=λ_ i v=>∃c,x.cps[i]?=al c/\v = .str #[(z3 [c])])/\out=λ_ i=>x.cps.size<=i
theorem ZS {p:St}(I:Inv X pins p H s) (h:uM X.K H u m has out) (r:RelV u v) : ∃(o:dc) (Pre:db->Prop) (st:Addr->Nat->db->Prop),OS v o Pre/\(∀h o,Pre h->Pre (h.push o))/\o.isFreed=bj/\Pre s.heap/\∀j,Src X.prog X.w X.K j (st j) m has out/\∀h:db,h.get? j=al o->st j 0 h:=by
 rcases h with ⟨l,rfl,⟨c,hx⟩,rfl,rfl,rfl⟩ | ⟨x,rfl,hx,rfl,rfl,rfl⟩
 . cases r;obtain⟨n,b,a,_⟩:=I.tuple hx;exact#[_,_,λj i h=>h.IsTupleIter j l i,eT (items:=n.toArray),λh o q=>q.push o,rfl,a,λj=>#[uK j l,λh e=>#[_,e,rfl,rfl]]]
 . obtain⟨t,rfl⟩:=r;exact#[_,_,λj i h=>h.IsStrIter j "str_ascii_iterator" x t i,i9 hx,λh o q=>q,rfl,trivial,λj=>#[uL j x t,λh e=>#[_,e,rfl,rfl]]]
section
variable {X:Cx}{K:Frg}
def w6 (K:Frg) (o:TA):TI:=λr H R=>o r H λi e=>∃u v t f h1 a k n,i=[u,v]/\uM K e u t h1 k/\uM K e v f a n/\R (Itg t f h1 a k n) e
theorem w8 {a b:ca}{k:TA}{p pos:fb}{z:List ca}{Y:Nat}{x:fb}(h:X.K=K) (hg:Gl X "zip") (Q:X.mg "zip"=am) (L:PA X [a,b] k) (hs:starEach [a,b] X.env=[(bj,eval a X.env),(bj,eval b X.env)]:=by rfl) (i:starEach [b] X.env=[(bj,eval b X.env)]:=by rfl) :
   PI X (.Tuple z Y x) (.Call (.Name "zip" p) [a,b] [] pos) (w6 K k):=by
 subst h;intro pins s σ H R I h;refine Call_ (FI I hg Q boot_zip (xH (thn (L pos pins s σ H _ I h) λus t #[vs,c,D,r1,q1]=>?_) (by rw[hs,i]) (by rw[i];rfl)));have O:∀(m n:Nat),m≠n->t.heap.objs.size+m≠t.heap.objs.size+n:=λm n h e=>h (Nat.add_left_cancel e);obtain⟨u,v,c1,c2,h1,h2,o1,o2,rfl,z1,z2,q⟩:=q1;cases r1 with
 | cons r M=>
   cases M with
   | cons r' M=>
     cases M;obtain⟨p1,P1,t1,Z,Mu,T,S,G⟩:=ZS D z1 r;obtain⟨p2,P2,t2,U,J,N,B,o⟩:=ZS D z2 r';refine UA Z U J T N S B λh' b1 f g y j hk=>?_;refine wpAny_pyIter_zip (s:={ t with heap:=h' }) b1 ?_;refine#[t.heap.objs.size+4,[t.heap.objs.size+4,t.heap.objs.size+2,t.heap.objs.size+3,t.heap.objs.size,t.heap.objs.size+1],_,_,c,rfl,D.kept (t':=t.toks) hk,
       jO (t.heap.objs.size+4) (t.heap.objs.size+2) (t.heap.objs.size+3) t.heap.objs.size (t.heap.objs.size+1) (G _).1 (o _).1 (O 2 4 (by decide)) (O 3 4 (by decide)) (O 0 4 (by decide)) (O 1 4 (by decide)) (O 2 3 (by decide)) (O 2 0 (by decide)) (O 2 1 (by decide)) (O 3 0 (by decide)) (O 3 1 (by decide)) (O 0 1 (by decide)),
       #[b1,f,#[_,_,g],(G _).2 _ y,(o _).2 _ j],λb hb=>?_,q];have hle:t.heap.objs.size<=b:=by simp only[yX,xX,or_false] at hb;rcases hb with rfl | rfl | rfl | rfl | rfl <;> first | exact zR _ | exact a8X _ _
     exact D.fpOk hle (D.hok.fresh hle)
end
end L2
namespace DL
open PySem PySem.Spec L2
section
def A04 (d:PyData) (as:List PyData):Prop:=d = .tuple as\/∃z:Str,d = .str z/\z.cps.all (· < 128)=ap/\as=CL z
theorem ZT (g:A04 d as) (s:SI K H M (.d d) v):∃b has out,uM K H v b has out/\∀H' t,Step K M t H H'->(∀i,i < as.length->b H' i)/\(∀i,as.length<=i->out H' i)/\∀i x,has H' i x->∃e,as[i]?=al e/\DV K H' t.W e x:=by
 rcases g with rfl | ⟨z,rfl,N,rfl⟩
 . unfold SI DV at s;obtain⟨a,n,rfl,m,hd⟩:=s;refine#[_,_,_,.inl #[a,rfl,#[n,m.sq],rfl,rfl,rfl],λH' t r=>#[λi hi=>#[n,(m.grow r.grow).sq,by rw[hd.length];exact hi],λi hi=>#[n,(m.grow r.grow).sq,by rw[hd.length];exact hi],λi x h=>?_]];obtain⟨e,o,f⟩:=hd.get (h n (m.grow r.grow).sq);exact#[e,o,f.grow r.grow]
 . have p:(CL z).length=z.cps.size:=by simp[CL]
   rw[show v = .str z by unfold SI DV at s;exact s];refine#[_,_,_,.inr #[z,rfl,N,rfl,rfl,rfl],λH' t r=>#[λi hi=>by rw[p] at hi;exact hi,λi hi=>by rw[p] at hi;exact hi,?_]];rintro i x ⟨c,o,rfl⟩;exact#[.str #[(z3 [c])],by unfold CL;rw[zF];simp[o],by unfold DV;rfl]
theorem g6 (h:DA K f ρ M λxs M1=>∃d e as bs,xs=[.d d,.d e]/\A04 d as/\A04 e bs/\QI (QC as bs) M1):DI K (w6 K f) ρ M QI:=λσ H R S k=>
 h σ H _ S λvs z xs M1 Y Z t1 G=>by
   obtain⟨d,e,as,bs,J,z1,z2,q⟩:=G;subst J;obtain⟨v,r,rfl,h1,v2,r2,rfl,U,X⟩:=Z;cases X;obtain⟨I,L,u1,y1,a⟩:=ZT z1 h1;obtain⟨B,Q,u2,y2,o⟩:=ZT z2 U;have m:(QC as bs).length=min as.length bs.length:=by unfold QC;rw[zX,b7W]
   refine#[v,v2,I,B,L,Q,u1,u2,rfl,y1,y2,k _ (QC as bs) z M1 Y t1 #[λi H' t hi u n=>?_,λH' t u n=>?_,λi H' t x H2 u n hi y=>?_] q];. rw[m] at hi;exact#[(a H' t n).1 i (by omega),(o H' t n).1 i (by omega)]
   . rw[m];by_cases hle:as.length<=bs.length;. exact .inl ((a H' t n).2.1 _ (by omega))
     . exact .inr #[(a H' t n).1 _ (by omega),(o H' t n).2.1 _ (by omega)]
   . obtain⟨p,g,j,hp,rfl,rfl,hx,hy⟩:=y;obtain⟨b,T,N⟩:=(a H' t n).2.2 i g hx;obtain⟨c,b1,O⟩:=(o H' t n).2.2 i j hy;have D:Grow K t.W t.W H' (upd H' p (.tup [g,j])):=AZ _ hp;refine#[u.new hp,#[D],.tuple [b,c],?_,?_];. unfold QC;rw[zF,show(as.zip bs)[i]?=al (b,c) by rw[a8W];exact#[T,b1]];rfl
     . unfold DV;exact#[p,_,rfl,.inl #[λw=>w (u.none hp),.inl AD],DVs.cons (N.grow D) (DVs.cons (O.grow D) DVs.nil)]
end
end DL
namespace L2
open PySem PySem.Spec PyProof.Rows
section
variable {X:Cx}{scope:gc}{NC:List Str}{fr:List (Option Nat)}
theorem p9 {o p iter G:ca}{ifs:List ca}{pos:fb}{T:TI}{g:TG}{u:TT}{tk y:TE}{i:Nat}{x:Str}{z j:fb}(hc:X.calm=ap) (hu:X.A.units+1 < ev) (hN:X.N.Nodup) (R:X.N[i]?=al x) (hx:Loc X.env.scope x) (S:CSc X scope NC fr) (hi:PI X G iter T) (hb:∀(C:Addr) (s:ba) (H:Hp) (a:List Addr) (r:List (Addr×dc)),PG (AS X scope NC C s H a r) G g/\PTs (AS X scope NC C s H a r) ifs u/\PE (AS X scope NC C s H a r) o tk/\PE (AS X scope NC C s H a r) p y) (M:swapsWith (.DictComp o p [#[G,iter,ifs,0]] scope pos) (al (.Name x z)) j.line X.env=pure ap) (hf:X.fn x=ap\/X.env.scope.names.lookup x=al .local:=by first | exact .inl rfl | exact .inr rfl | assumption)
   (hs:∀x,cv iter X.env x=pure x:=by intro _;rfl) :
   PS X (.Assign [.Name x z] (.DictComp o p [#[G,iter,ifs,0]] scope pos) j) (λD t H=>O0 fr T g u tk y t H λv H'=>D.nx (t.set i (al v)) H'):=by intro pins s t H D I h;rw[exec_Assign_Name_used _ _ _ _ M];refine zZ (df (zZ ?_));show wpAny _ X.A (do let _ <- hY (.DictComp o p [#[G,iter,ifs,0]] scope pos) scope X.env _ newDict bj (eval iter X.env) (al (ij (.Name x z) X.env))) _ _ s;refine zZ (thn (UC (use:=al (ij (.Name x z) X.env)) (Q:=λv H'=>D.nx (t.set i (al v)) H') (QQ:=λ_ s'=>∃e H',Inv X pins e H' s'/\D.nx e H') hc S hi hb I hu h (λA C H' s' m O U hn q back uw=>?_) hs) λ_ s' hq=>zY (zY hq));have L:=V7 (X:=X) (pos:=z) hN R hx hf (pins++[(C,O)]) s' t H' (.ref A) (.ref A) (λe H'=>D.nx e H') U rfl q;refine thn L ?_;rintro _ k ⟨n,b,c,q2⟩;have B:k.heap.get? C=al O:=(c.pin (C,O) (zB _ (zB _ (by simp)))).1;obtain⟨o',Z,Y,f,gm,J⟩:=hn;rw[uw] at f;cases f;exact#[m,#[_,Z,Y,B,gm,J],λh' sb=>#[n,b,back pins n b k h' c sb,q2]]
end
end L2
namespace DL
open PySem PySem.Spec L2
def A2N:Deed->Str | .take x=>x | .join _ y=>y | _=>a0Q ""
theorem dA {ys:List Str}:((ys.map a0W).filter λd=>!a0Z d (.str y)||b).map id=(ys.filter λz=>decide (z≠y)||b).map .str:=by rw[b3Z,xU];congr 1;apply b5X;intro z _;show(!a0Z (.str z) (.str y)||b)=_;rw[B7];by_cases e:z=y <;> simp[e]
theorem pA :(ys++[y]).map a0W=ys.map .str++[.str y]:=by rw[xI];rfl
end DL
namespace DL
open PySem PySem.Spec L2
section
variable {w:List Th}{ls:List (Str×Deed)}{st ws l:List Nat}{k i:Nat}
theorem uN (hs:isSt ls st) (hk:k∈st) (hn:k∉lfB ls st ws):k∈ws/\∀m,m < k->(m∈lfB ls st ws\/(m∈ws/\m∉st))->tcN (dsL ls) m k=false:=by
 obtain⟨i,hi,e⟩:=List.getElem_of_mem hk;have L:st[i]?=al k:=by rw[zV hi,e]
 have p:∀j,lfL (tcN (dsL ls)) ws (coN st ws) (st.take j) ⊆ lfB ls st ws:=by
   have step:∀j,lfL (tcN (dsL ls)) ws (coN st ws) (st.take j) ⊆ lfL (tcN (dsL ls)) ws (coN st ws) (st.take (j+1)):=λj x hx=>by
     cases M:st[j]? with
     | none=>rw[a0V,M];simpa using hx
     | some z=>rw[GG M];split;exact zA _ hx;exact hx
   have up:∀d j,lfL (tcN (dsL ls)) ws (coN st ws) (st.take j) ⊆ lfL (tcN (dsL ls)) ws (coN st ws) (st.take (j+d)):=by
     intro d;induction d with
     | zero=>intro j x hx;exact hx
     | succ d U=>intro j x hx;exact step (j+d) (U j hx)
   intro j x hx;have:=up st.length j hx;rw[a5Q (by lia)] at this;exact this
 have hok:S0 (tcN (dsL ls)) ws (coN st ws) (lfL (tcN (dsL ls)) ws (coN st ws) (st.take i)) k=false:=by
   cases h:S0 (tcN (dsL ls)) ws (coN st ws) (lfL (tcN (dsL ls)) ws (coN st ws) (st.take i)) k with
   | false=>rfl
   | true=> refine absurd (p (i+1) ?_) hn;rw[GG L,if_pos h];simp
 unfold S0 at hok;rw[Bool.or_eq_false_iff] at hok;refine#[by simpa using hok.1,λm n h=>?_];have all:=List.any_eq_false.mp hok.2;have o:m∈coN st ws++lfL (tcN (dsL ls)) ws (coN st ws) (st.take i):=by
   rcases h with h | ⟨h1,a⟩
   . refine zB _ ?_;have Q:m∈st:=FR.subset h;have I:=(fR hs.inc L).mpr #[Q,n];obtain⟨j,M,r⟩:=List.getElem_of_mem Q;have c:st[j]?=al m:=by rw[zV M,r]
     have R:j < i:=by
       refine b1V λq=>?_;have:i<=j:=by lia
       rcases Nat.lt_or_eq_of_le this with q | rfl;. have:=List.pairwise_iff_getElem.mp hs.inc i j hi M q;lia
       . lia
     refine b1V λq=>?_;have:m∉lfB ls st ws:=λ_=>?_;. exact this h
     . have b:∀d,m∉lfL (tcN (dsL ls)) ws (coN st ws) (st.take (i+d)):=by
         intro d;induction d with
         | zero=>exact q
         | succ d U=>
           intro z;cases t:st[i+d]? with
           | none=>rw[show i+(d+1)=i+d+1 from rfl,a0V,t] at z;exact U (by simpa using z)
           | some y=>
             rw[show i+(d+1)=i+d+1 from rfl,GG t] at z;split at z
             . rcases yW.mp z with z | z;. exact U z
               . have:m=y:=by simpa using z
                 subst this;obtain⟨h1,a⟩:=yT.mp t;have:=List.pairwise_iff_getElem.mp hs.inc j (i+d) M h1 (by lia);lia
             . exact U z
       refine b st.length ?_;rw[a5Q (by lia)];exact h
   . exact zA _ (yL.mpr #[h1,by simp[a]])
 have:=all m o;simpa [n] using this
abbrev agS (ls:List (Str×Deed)) (st ws:List Nat):List Nat:=ws.filter λk=>decide (k∈lfB ls st ws)||!decide (k∈st)
end
end DL
namespace DL
open PySem PySem.Spec L2
section
variable {M:Own}{Q:DS->Own->Prop}{w:List Th}{ls:List (Str×Deed)}{st ws vs l:List Nat}{k i m:Nat}
theorem A05 (hs:isSt ls st) (hk:k∈lfB ls st ws):k∈st/\(k∉ws\/∃m,m < k/\(m∈lfB ls st ws\/(m∈ws/\m∉st))/\tcN (dsL ls) m k=ap):=by
 refine#[FR.subset hk,?_];have G:∀j,k∈lfL (tcN (dsL ls)) ws (coN st ws) (st.take j)->k∉ws\/∃m,m < k/\(m∈lfL (tcN (dsL ls)) ws (coN st ws) (st.take j)\/(m∈ws/\m∉st))/\tcN (dsL ls) m k=true:=by
   intro j;induction j with
   | zero=>intro h;rw[List.take_zero] at h;cases h
   | succ j U=>
     intro h;have up:∀{m},m∈lfL (tcN (dsL ls)) ws (coN st ws) (st.take j)->m∈lfL (tcN (dsL ls)) ws (coN st ws) (st.take (j+1)):=λ{m} t=>by
       cases e:st[j]? with
       | none=>rw[a0V,e];simpa using t
       | some z=>rw[GG e];split;exact zA _ t;exact t
     have old:k∈lfL (tcN (dsL ls)) ws (coN st ws) (st.take j)->k∉ws\/∃m,m < k/\(m∈lfL (tcN (dsL ls)) ws (coN st ws) (st.take (j+1))\/(m∈ws/\m∉st))/\tcN (dsL ls) m k=true:=λq=>by
       rcases U q with q | ⟨m,q1,q2,n⟩
       . exact .inl q
       . exact .inr #[m,q1,q2.imp up id,n]
     cases e:st[j]? with
     | none=>exact old (by rw[a0V,e] at h;simpa using h)
     | some z=>
       have h':=h;rw[GG e] at h';split at h'
       . rename_i hok;rcases yW.mp h' with q | q;. exact old q
         . obtain rfl:k=z:=by simpa using q
           unfold S0 at hok;rw[Bool.or_eq_true] at hok;rcases hok with q | q;. exact .inl (by simpa using q)
           . obtain⟨m,q1,q2⟩:=List.any_eq_true.mp q;rw[a1J] at q2;refine .inr #[m,of_decide_eq_true q2.1,?_,q2.2];rcases yW.mp q1 with q1 | q1;. obtain⟨a,b⟩:=yL.mp q1;exact .inr #[a,by simpa using b]
             . exact .inl (up q1)
       . exact old h'
 have:=G st.length (by rw[a1V];exact hk);rw[a1V] at this;exact this
theorem pB (hs:isSt ls st) (hk:k∈st) (h:k∉ws\/∃m,m < k/\(m∈lfB ls st ws\/(m∈ws/\m∉st))/\tcN (dsL ls) m k=ap):k∈lfB ls st ws:=
 b1V λq=>by
   obtain⟨h1,e⟩:=uN hs hk q;rcases h with h | ⟨m,a,b,c⟩
   . exact h h1
   . have:=e m a b;rw[c] at this;cases this
abbrev ZU (w:List Th) (ls:List (Str×Deed)) (st ws:List Nat):List (Str×Nat×PyData):=((lfB ls st ws).reverse.map λk:Nat=>(a0Q "back", k,(AT (bkT w ls st) (k:Int)).getD .none))++(agS ls st ws).map λk:Nat=>(a0Q "again", k,((dsL ls).map Deed.d).getD k .none)
theorem A2O:uB w ls st ws=(ZU w ls st ws).map λt=>NE t.1 t.2.1 t.2.2:=by
 have G:∀(s:Str) (g:Nat->PyData) (l:List Nat),(l.map λk=>NE s k (g k))=(l.map λk=>(s,k,g k)).map λt=>NE t.1 t.2.1 t.2.2:=λs g l=>by rw[zD];rfl
 unfold uB DH oU ZU;rw[xI,<-G,<-G]
theorem uO (hs:isSt ls st) (R:isSt ls ws):(ZU w ls st ws).length<=st.length+ws.length:=by unfold ZU;rw[yY,zX,zX,b3J];have h1:(lfB ls st ws).length<=st.length:=FR.length_le;have a:(agS ls st ws).length<=ws.length:=yJ _ _;lia
end
end DL
namespace DL
open PySem PySem.Spec L2
section
theorem jP (q:∀p,M p=am->Q (.loc p) (M.put p (.l ds))):DR K (VU K) [.d (.tuple ds)] M Q:=λH n QQ u s k=>by obtain⟨v,r,rfl,h1,e⟩:=s;cases e;unfold SI DV at h1;obtain⟨a,n,rfl,m,hd⟩:=h1;refine#[a,n,rfl,.inr m.sq,λp hp=>?_];obtain⟨x,y⟩:=K6 u hp hd;exact k _ _ (.loc p) _ x rfl y (q p (u.none hp))
end
end DL
namespace L2
open PySem PySem.Spec
section
theorem dB {e S:Type}(f:e->S):∀(l:List e) (j:Nat),(l.map f).eraseIdx j=(l.eraseIdx j).map f
 | [],_=>rfl
 | _::_,0=>rfl
 | a::l,j+1=>by rw[zI,c2Q,c2Q,zI,dB f l j]
def A2P (k:Int):ar->Bool | .int i _=>i==k | _=>bj
theorem UV:∀{ns:List Int}{a:List ar},Vals (ns.map V.int) a->∀y,y∈a->∃i t,i∈ns/\y = .int i t
 | [],_,.nil,y,h=>by cases h
 | n::ns,_,.cons r s,y,h=>by
   rcases yX.mp h with rfl | h;. obtain⟨t,rfl⟩:=r;exact#[n,t,by simp,rfl]
   . obtain⟨i,t,hi,e⟩:=UV s y h;exact#[i,t,yV _ hi,e]
theorem Vals.erase:∀{xs:List V}{e:List ar}(j:Nat),Vals xs e->Vals (xs.eraseIdx j) (e.eraseIdx j)
 | _,_,_,.nil=>.nil
 | _,_,0,.cons _ s=>s
 | _,_,j+1,.cons r s=>.cons r (Vals.erase j s)
def pC:V->List V->Hp->VK->Prop:=λx n H Q=>∃(l:Addr) (e:List Int) (k:Int) (j:Nat),x = .ref l/\n=[.int k]/\H l=al (.lst (e.map V.int))/\e.findIdx? (λi=>i==k)=al j/\Q .non (upd H l (.lst ((e.eraseIdx j).map V.int)))
theorem uP:MtM X "list.remove" pC:=by
 intro pins s J H x G v B Q I S R h;obtain⟨l,o,k,j,rfl,rfl,hH,M,q⟩:=h;cases S;obtain⟨u,rfl,O⟩:=R.one;obtain⟨L,rfl⟩:=O;obtain⟨z,a,n,r,N,e⟩:=I.lstM hH;obtain⟨D,hit,f⟩:=List.findIdx?_eq_some_iff_getElem.mp M;have hsz:a.toArray.size=o.length:=by rw[zJ,<-N,zX]
 have key:∀m (p:m < a.toArray.size),A2P k a.toArray[m]=(o[m]'(by lia)==k):=λm p=>by
   obtain⟨w,c,g⟩:=r.get (i:=m) (x:=.int (o[m]'(by lia))) (by rw[zF,zV (by lia)];rfl);obtain⟨t,rfl⟩:=g;have:a.toArray[m] = .int (o[m]'(by lia)) t:=by rw[List.getElem_toArray];rw[zV (by rw[<-zJ];exact p)] at c;exact Option.some.inj c
   rw[this];rfl
 refine call_meets PySem.F.slot_list_remove #[_,e,rfl] PySem.F.entry_list_remove (PySem.F.args_list_remove_2 _ _) (MeetsSeq.list_remove l a.toArray n (.int k L) (A2P k) (λy hy=>?_) j (by lia) ?_ ?_ (by rw[zJ];lia)) #[e,?_];. obtain⟨i,t,_,rfl⟩:=UV r y (by simpa using hy);exact MeetsSeq.EqGives.int i k t L
 . rw[key j (by lia)];exact hit
 . intro m p b;rw[key m p];simpa using f m b
 . refine#[.non,_,I.lset (its':=a.eraseIdx j) hH e ?_ ?_ ?_,rfl,q];. show a.toArray.eraseIdxIfInBounds j=(a.eraseIdx j).toArray;rw[List.eraseIdxIfInBounds_toArray]
   . have T:(o.map V.int).eraseIdx j=(o.eraseIdx j).map V.int:=dB _ _ _;rw[<-T];exact r.erase j
   . rw[zX];rw[zX] at z;exact zN (List.length_eraseIdx_le _ _) z
end
end L2
namespace DL
open PySem PySem.Spec L2
theorem A2Q {X:Cx}:MtR X "list.remove" pC:=uP
section
theorem UW :∀{ns:List Int}{vs:List V},DVs K H W (ns.map a4V) vs->vs=ns.map V.int
 | [],vs,h=>by unfold DVs at h;subst h;rfl
 | n::ns,vs,h=>by rw[zI] at h;unfold DVs at h;obtain⟨v,r,rfl,h1,a⟩:=h;unfold DV at h1;rw[h1,UW a];rfl
theorem UX :∀(ns:List Int),DVs K H W (ns.map a4V) (ns.map V.int)
 | []=>DVs.nil
 | n::ns=>DVs.cons (by unfold DV;rfl) (UX ns)
theorem g9 {ns:List Int}(m:M a=al (.l (ns.map .int))) (o:ns.findIdx? (λi=>i==k)=al j) (q:Q (.d .none) (M.put a (.l ((ns.eraseIdx j).map .int)))):DM K pC (.loc a) [.d (.int k)] M Q:=λH v c QQ e t p Y=>by obtain⟨u,r,rfl,h1,n⟩:=p;cases n;unfold SI at t;subst t;obtain⟨b,h0,hd⟩:=e a _ m;unfold SI DV at h1;subst h1;obtain rfl:=UW hd;obtain⟨x,y⟩:=DY e m (UX (K:=K) (H:=H) (W:=M.W) (ns.eraseIdx j));exact#[a,ns,k,j,rfl,rfl,h0,o,Y _ _ (.d .none) _ x (by unfold SI DV;rfl) y q]
theorem pD (t:OA K H M) (h:H p=b7Q) :
   OA K (upd H p (.lst (as.map V.ref))) (M.put p (.r as))/\Step K M (M.put p (.r as)) H (upd H p (.lst (as.map V.ref))):=by
 have L:=t.none h;have g:Grow K M.W (M.put p (.r as)).W H (upd H p (.lst (as.map V.ref))):=#[λb u e _=>.inl (by rw[AH (B1 e h)];exact e),λb w=>by
   by_cases hb:b=p;. subst hb;exact .inr h
   . left;unfold Own.W at w ⊢;rw[yH hb] at w;exact w]
 refine#[λa o e=>?_,#[g]];by_cases N:a=p;. subst N;rw[zU] at e;cases e;exact#[_,AD,#[rfl]]
 . rw[yH N] at e;have q:=t a o e;cases o <;> (obtain⟨n,q1,q2⟩:=q;exact#[n,by rw[AH N];exact q1,q2.grow g])
theorem ZV :∀{as:List Addr}{vs:List V},SIs K H M (as.map DS.loc) vs->vs=as.map V.ref
 | [],vs,h=>h
 | a::as,vs,h=>by obtain⟨v,r,rfl,h1,e⟩:=h;rw[ZV e];unfold SI at h1;rw[h1];rfl
theorem uQ (h:DA K ta ρ M λxs M1=>∃as:List Addr,xs=as.map DS.loc/\as.length<=bd/\∀p,M1 p=am->Q (.loc p) (M1.put p (.r as))):DE K (qD ta) ρ M Q:=λo H QQ R k=>
 h o H _ R λm i xs M1 e n y h1=>by obtain⟨as,rfl,t,q⟩:=h1;obtain rfl:=ZV n;refine#[by rw[zX];exact t,λp hp=>?_];obtain⟨a,b⟩:=pD (as:=as) e hp;exact k _ _ (.loc p) _ a rfl (y.trans b) (q p (e.none hp))
theorem dC (m:M a=al (.r as)) (e:as[j]?=al b) (q:Q (.loc b) M):D2 K (NX K) (.loc a) (.d (.int (j:Nat))) M Q:=DZ λH v u QQ t n o k=>by rw[BC o];unfold SI at n;subst n;obtain⟨p,h0,⟨rfl⟩⟩:=t a _ m;have i:j < as.length:=(yT.mp e).1;exact#[a,as.map V.ref,(j:Nat),.ref b,rfl,rfl,SqL.of h0,(AK (j:=j) (by rw[zF,e];rfl):atI (as.map V.ref) ((j:Nat):Int)=al (.ref b)),k _ H (.loc b) M t rfl Step.refl q]
def w9:MO->Option (List DS) | .l ds=>al (ds.map DS.d) | .r as=>al (as.map DS.loc) | _=>am
theorem gA (u:OA K H M) (m:M p=al o) (hi:w9 o=al n):∃vs,H p=al (.lst vs)/\vs.length=n.length/\∀(k:Nat) v,vs[k]?=al v->∃y,n[k]?=al y/\SI K H M y v:=by
 cases o with
 | l ds=> obtain rfl:=Option.some.inj hi;obtain⟨vs,h0,hd⟩:=u p _ m;refine#[vs,h0,by rw[hd.length,zX],λk v e=>?_];obtain⟨d,c,f⟩:=hd.get e;exact#[.d d,by rw[zF,c];rfl,by unfold SI;exact f]
 | r as=>
   obtain rfl:=Option.some.inj hi;obtain⟨vs,h0,⟨rfl⟩⟩:=u p _ m;refine#[_,h0,by rw[zX,zX],λk v e=>?_];rw[zF] at e;cases N:as[k]? with
   | none=>rw[N] at e;cases e
   | some b=>rw[N] at e;cases e;exact#[.loc b,by rw[zF,N];rfl,rfl]
 | d _=>cases hi
 | t _=>cases hi
 | x _ _=>cases hi
theorem ZW (hT:∀j,a[i]?≠al (al j)) (h:DE K tl ρ M λx M1=>∃p o n,x = .loc p/\M1 p=al o/\w9 o=al n/\n.length < bd/\∀A,M1 A=am->∃P:Nat->List PyData->Own->Prop,P 0 [] (M1.put A (.l []))/\(∀k acc t,P k acc t->t A=al (.l acc)/\t p=al o/\acc.length<=k) /\(∀k y acc t,n[k]?=al y->P k acc t->DT K tt ((CA a ρ).set i (al y)) t λc M3=>if c=ap then DE K te ((CA a ρ).set i (al y)) M3 λz M4=>∃r,z = .d r/\M4 A=al (.l acc)/\P (k+1) (acc++[r]) (M4.put A (.l (acc++[r]))) else P (k+1) acc M3) /\∀acc t,P n.length acc t->Q (.d (.list acc)) (t.del A)) :
   DE K (L1 a (bF K tl) (MJ i) tt te) ρ M Q:=λσ H QQ R k=>
 h σ H _ R λv H1 x M1 I s1 t1 h1=>by
   obtain⟨p,o,n,rfl,m0,Ei,hsz,hq⟩:=h1;unfold SI at s1;subst s1;obtain⟨Dh,e0,_,_⟩:=gA I m0 Ei;refine .inl #[p,rfl,#[Dh,SqL.of e0],?_];intro A hA;obtain⟨P,p0,B,pt,pe⟩:=hq A (I.none hA);obtain⟨oA,sA⟩:=K6 I hA (DVs.nil (K:=K) (H:=H1) (W:=M1.W));refine#[λk m ys g=>m=n.length - k/\k<=n.length/\g A=al (.lst ys)/\∃acc t,OA K g t/\Step K M1 t H1 g/\P k acc t,#[_,rfl,xT _,AD,[],_,oA,sA,p0],?_];rintro J m ys g ⟨rfl,hi,om,acc,t,S,Z,T⟩;refine#[om,?_];have X:∀{N:Own},(N.del A).Sub N:=λ{N} b o q=>by
     unfold Own.del at q;by_cases hb:b=A;. rw[if_pos hb] at q;cases q
     . rw[if_neg hb] at q;exact q
   obtain⟨G,e1,ac,kb⟩:=gA S (B _ _ _ T).2.1 Ei;have L:=SqL.of (K:=K) e1;by_cases U:J < n.length
   . refine .inr #[#[G,G[J]'(by lia),L,by simp[ac,U]],λx H3 y=>?_];obtain⟨hh,y⟩:=y;subst hh;obtain⟨z,ez,sz⟩:=kb J x (y G L);have Rc:Rel K t ((CA a ρ).set i (al z)) ((L2.capt a σ).set i (al x)) H3:=((R.step I t1).step S Z).capt.set sz i;refine#[λi' v' gn=>?_,?_];. obtain⟨j,f1,f2⟩:=D3 gn;rw[b2J (by rintro rfl;exact hT j f1)];exact gn
     . refine pt J z acc t ez T _ H3 _ Rc λc H5 M5 Y eh u=>?_;have sx:=Z.trans eh;cases c with
       | false=> rw[if_neg nft] at u ⊢;obtain⟨f,_⟩:=B _ _ _ u;obtain⟨O,q1,q2⟩:=Y A _ f;exact#[O,n.length - (J+1),by lia,rfl,U,q1,acc,M5,Y,sx,u]
       | true=> rw[if_pos rfl] at u ⊢;refine u _ H5 _ (Rc.step Y eh) λy' H6 z' M6 o6 s6 il h6=>?_;obtain⟨r,rfl,f,p'⟩:=h6;obtain⟨O,q1,q2⟩:=o6 A _ f;obtain⟨w1,w2⟩:=DY o6 f (q2.append (DVs.cons s6 DVs.nil));have Ej:acc.length<=J:=(B _ _ _ T).2.2;exact#[O,q1,by rw[q2.length];lia,n.length - (J+1),by lia,rfl,U,AD,_,_,w1,(sx.trans il).trans w2,p']
   . have e:J=n.length:=by lia
     subst e;refine .inl #[#[G,L,by rw[ac];exact zR _],?_];obtain⟨f,_⟩:=B _ _ _ T;obtain⟨O,q1,q2⟩:=S A _ f;have bi:Step K t (t.del A) g g:=#[B2 X]
     refine k _ g (.d (.list acc)) (t.del A) (S.sub X) ?_ ((t1.trans Z).trans bi) (pe acc t T);unfold SI DV;exact#[A,O,rfl,.inl #[λw=>w (by unfold Own.del;rw[if_pos rfl]),.inl q1],q2.grow (B2 X)]
theorem T8 (S:∀j,r[i]?≠al (al j)) (h:DE K tl ρ M λx M1=>∃p ds,x = .loc p/\M1 p=al (.l ds)/\ds.length < bd/\∃(c:PyData->Bool) (f:PyData->PyData),(∀d∈ds,∀A acc e,M1 A=am->e=M1.put A (.l acc)->DT K g ((CA r ρ).set i (al (.d d))) e λb v=>v=e/\b=c d/\(c d=ap->DE K O ((CA r ρ).set i (al (.d d))) v λy I=>y = .d (f d)/\I=e))/\Q (.d (.list ((ds.filter c).map f))) M1) :
   DE K (L1 r (bF K tl) (MJ i) g O) ρ M Q:=by
 refine ZW S (MQ h λx M1 h=>?_);obtain⟨p,ds,rfl,m,hsz,c,f,he,q⟩:=h;refine#[p,.l ds,ds.map DS.d,rfl,m,rfl,by rw[zX];exact hsz,λA hA=>#[λk acc e=>acc=((ds.take k).filter c).map f/\e=M1.put A (.l acc),#[by simp,rfl],λk acc e #[n,t]=>#[by rw[t];exact zU,?_,?_],λk y acc e hd #[n,t]=>?_,λacc e #[n,t]=>?_]];. rw[t,yH (by rintro rfl;rw[m] at hA;cases hA)];exact m
 . rw[n,zX];exact zN (yJ _ _) (by rw[a2Q];lia)
 . rw[zF] at hd;cases hdk:ds[k]? with
   | none=>rw[hdk] at hd;cases hd
   | some d=>
     rw[hdk] at hd;cases hd;have T:ds.take (k+1)=ds.take k++[d]:=by rw[a0V,hdk];rfl
     refine(λ{z u:Bool->Own->Prop}(a:DT K g ((CA r ρ).set i (al (.d d))) e z) (b:∀x N,z x N->u x N)=>(λB H QQ R k=>a B H QQ R λx H' N o s q=>k x H' N o s (b x N q):DT K g ((CA r ρ).set i (al (.d d))) e u)) (he d (yN hdk) A acc e hA t) ?_;rintro b N ⟨rfl,rfl,G⟩;cases hc:c d with
     | false=> rw[if_neg nft];exact#[by rw[T,List.filter_append,xI,n];simp[hc],t]
     | true=> rw[if_pos rfl];refine MQ (G hc) ?_;rintro y N ⟨rfl,rfl⟩;refine#[f d,rfl,by rw[t];exact zU,?_,by rw[t,yI]];rw[T,List.filter_append,xI,n];simp[hc]
 . rw[zX,a1V] at n;rw[t,yG hA,n];exact q
end
end DL
namespace DL
open PySem PySem.Spec L2
inductive Lf (t:Nat->Nat->Bool) (S W:Nat->Prop):Nat->Prop
 | out {n}:S n->¬W n->Lf t S W n
 | up {m n}:S n->m < n->t m n=ap->Lf t S W m->Lf t S W n
 | gap {m n}:S n->m < n->t m n=ap->W m->¬S m->Lf t S W n
section
variable {M:Own}{Q:DS->Own->Prop}{w:List Th}{ls:List (Str×Deed)}{st ws:List Nat}{k m:Nat}{t:Nat->Nat->Bool}{S S' W:Nat->Prop}
theorem Lf.less (r:∀o,S o->m < o->t m o=bj) (h1:∀n,S n->n≠m->S' n) (i:∀n,S' n->S n) (h:Lf t S W n):n≠m->Lf t S' W n:=by
 induction h with
 | out a b=>exact λe=>.out (h1 _ a e) b
 | @up j n a b c d U=>
   intro e;by_cases q:j=m;. subst q;rw[r _ a b] at c;cases c
   . exact .up (h1 _ a e) b c (U q)
 | @gap j n a b c d f=> intro e;exact .gap (h1 _ a e) b c d λz=>f (i _ z)
theorem Lf.more (i:∀o,S o->m < o->t m o=bj) (h1:∀n,S n->S' n) (e:∀n,S' n->S n\/n=m) (h:Lf t S W n):Lf t S' W n:=by
 induction h with
 | out a b=>exact .out (h1 _ a) b
 | up a b c d U=>exact .up (h1 _ a) b c U
 | @gap j n a b c d f=>
   by_cases q:j=m;. subst q;rw[i _ a b] at c;cases c
   . exact .gap (h1 _ a) b c d λz=>(e _ z).elim f q
theorem wA (hs:isSt ls st):∀n k,k < n->k∈lfB ls st ws->Lf (tcN (dsL ls)) (·∈st) (·∈ws) k
 | 0,_,h,_=>absurd h (Nat.not_lt_zero _)
 | n+1,k,h,hk=>by
   obtain⟨a,b⟩:=A05 hs hk;rcases b with b | ⟨m,b1,e,g⟩
   . exact .out a b
   . rcases e with e | ⟨e,y⟩
     . exact .up a b1 g (wA hs n m (by lia) e)
     . exact .gap a b1 g e y
theorem A2R (hs:isSt ls st) (h:Lf (tcN (dsL ls)) (·∈st) (·∈ws) k):k∈lfB ls st ws:=by
 induction h with
 | out a b=>exact pB hs a (.inl b)
 | up a b c d U=>exact pB hs a (.inr #[_,b,.inl U,c])
 | gap a b c d f=>exact pB hs a (.inr #[_,b,.inr #[d,f],c])
theorem pE {D:Deed}(h:D.apart) (e:D.made=al n):n∈D.names/\BN D.d n=2:=by
 cases D with
 | put x p c=>obtain rfl:=Option.some.inj e;exact#[by simp[Deed.names],rfl]
 | name x y=>obtain rfl:=Option.some.inj e;exact#[by simp[Deed.names],rfl]
 | split x y p c=> obtain rfl:=Option.some.inj e;have h:x≠y:=h;refine#[by simp[Deed.names],?_];show(if (a0Q "split" == a0Q "move")=ap then 0 else if ((a0Q "split" == a0Q "count" || a0Q "split" == a0Q "split" || a0Q "split" == a0Q "join")&&x==y)=ap then 1 else 2)=2;rw[if_neg (by decide +kernel),if_neg (by simp[h])]
 | _=>cases e
theorem uR (hr:∀l∈ls,l.2.real) (h:j∈BI (dsL ls) k):tcN (dsL ls) j k=true:=by
 have o:=(yL.mp h).2;unfold LY at o;unfold tcN;cases i:(dsL ls)[j]? with
 | none=>simp[mkN,i] at o
 | some D=>
   cases hk:(dsL ls)[k]? with
   | none=>simp[mkN,CP,i,hk] at o;split at o <;> simp_all
   | some E=>
     have e:∃n,D.made=al n/\n∈E.must:=by
       simp only[mkN,CP,i,hk,Option.bind_some] at o;cases r:D.made with
       | none=>rw[r] at o;simp at o
       | some n=>rw[r] at o;exact#[n,rfl,by simpa using o]
     obtain⟨n,c,f⟩:=e;obtain⟨l,p,rfl⟩:=zL.mp (yN i);obtain⟨a,b⟩:=pE (hr l p).2.1 c;show E1 l.2.d E.d=ap;rw[RC,b6W];refine#[n,a,?_];unfold GL;rw[b,decide_eq_true (yL.mp f).1];simp[HY]
def frB (ls:List (Str×Deed)) (S:List Nat) (k:Nat):Bool:=!((S.filter λo=>decide (k < o)).any λo=>tcN (dsL ls) k o)
theorem pF {S:List Nat}(h:frB ls S k=ap):∀o,o∈S->k < o->tcN (dsL ls) k o=false:=λo T hk=>by unfold frB at h;have:=List.any_eq_false.mp (c1Z _▸h:((S.filter λo=>decide (k < o)).any λo=>tcN (dsL ls) k o)=bj) o (yL.mpr #[T,decide_eq_true hk]);simpa using this
structure Wk (ls:List (Str×Deed)) (ws due:List Nat) (S:List Nat) (T:List (Int×PyData)):Prop where
 nd:S.Nodup
 lt:∀k∈S,k < ls.length
 needs:∀k∈S,∀j∈BI (dsL ls) k,j∈S
 due:∀n∈due,(AT T (n:Int)).isSome=ap\/Lf (tcN (dsL ls)) (·∈S) (·∈ws) n
theorem ZY:∀(ts:List (Int×PyData)) (k:Int) (d:PyData),(AT (ts++[(k,d)]) k).isSome=ap
 | [],k,d=>by simp[AT]
 | (a,b)::r,k,d=>by
   rw[c2W,AT];split;. rfl
   . exact ZY r k d
theorem SE {k:Int}:∀(ts:List (Int×PyData)),(AT ts x).isSome=ap->(AT (ts++[(k,d)]) x).isSome=ap
 | [],h=>by cases h
 | (a,b)::r,h=>by
   rw[c2W,AT];rw[AT] at h;split;. rfl
   . rename_i q;rw[if_neg q] at h;exact SE r h
theorem KO {k:Int}(x:Int):∀(ts:List (Int×PyData)),(AT (ts.map λt=>if t.1=k then (t.1,d) else t) x).isSome=(AT ts x).isSome
 | []=>rfl
 | (a,b)::r=>by
   rw[zI,AT,AT];by_cases h:a=k
   . rw[if_pos h];split;. rfl
     . exact KO x r
   . rw[if_neg h];split;. rfl
     . exact KO x r
theorem UY {k:Int}:∀{ts:List (Int×PyData)},(ts.any λt=>decide (t.1=k))=ap->(AT ts k).isSome=ap
 | [],h=>by cases h
 | (a,b)::r,h=>by
   rw[AT];split;. rfl
   . rename_i q;rw[a5V,decide_eq_false q,c2X] at h;exact UY h
theorem UZ (ts:List (Int×PyData)) (k:Int) (d:PyData):(AT (EU ts k d) k).isSome=true:=by
 unfold EU;split;. rename_i h;rw[KO];exact UY h
 . exact ZY ..
theorem OI {k:Int}(h:(AT ts x).isSome=ap):(AT (EU ts k d) x).isSome=true:=by
 unfold EU;split;. rw[KO];exact h
 . exact SE _ h
variable {ws due S':List Nat}{T:List (Int×PyData)}{S:List Nat}
theorem Wk.start (hs:isSt ls st):Wk ls ws (lfB ls st ws) st []:=#[KM hs.inc,hs.lt,hs.needs,λn hn=>.inr (wA hs (n+1) n (Nat.lt_succ_self n) hn)]
theorem ZZ:∀{S:List Nat}{j:Nat}(_:S.Nodup) (n:j < S.length),S.erase S[j]=S.eraseIdx j
 | a::r,0,_,_=>by rw[List.getElem_cons_zero,List.erase_cons_head];rfl
 | a::r,j+1,nd,n=>by
   have e:j < r.length:=by simpa using n
   rw[List.getElem_cons_succ,c2Q];have o:¬(a==r[j])=true:=by
     intro q;have q:a=r[j]:=by simpa using q
     exact(xV.mp nd).1 (q▸a7K e)
   rw[List.erase_cons_tail o,ZZ (xV.mp nd).2 e]
theorem Wk.back (hr:∀l∈ls,l.2.real) (h:Wk ls ws due S T) (B:frB ls S m=ap) (c:S.findIdx? (λi=>i==m)=al j):Wk ls ws due (S.eraseIdx j) (EU T (m:Int) (.bool ap)):=by
 obtain⟨r,hit,_⟩:=List.findIdx?_eq_some_iff_getElem.mp c;have e:S[j]=m:=by simpa using hit
 have b:S.eraseIdx j=S.erase m:=by rw[<-e];exact(ZZ h.nd r).symm
 rw[b];have mem:∀x,x∈S.erase m↔x≠m/\x∈S:=λx=>h.nd.mem_erase_iff;refine#[h.nd.erase m,λk hk=>h.lt k ((mem k).mp hk).2,λk hk i hi=>?_,λn hn=>?_];. have o:=((mem k).mp hk).2;refine(mem i).mpr #[?_,h.needs k o i hi];rintro rfl;have a:=pF B k o (tP hi);rw[uR hr hi] at a;cases a
 . by_cases q:n=m;. subst q;exact .inl (UZ ..)
   . rcases h.due n hn with d | d;. exact .inl (OI d)
     . exact .inr (d.less (pF B) (λx hx p=>(mem x).mpr #[p,hx]) (λx hx=>((mem x).mp hx).2) q)
theorem Wk.again (h:Wk ls ws due S T) (B:frB ls S m=ap) (o:m < ls.length) (hn:∀j∈BI (dsL ls) m,j∈S) (hS:m∉S):Wk ls ws due (S++[m]) T:=by
 refine#[List.nodup_append.mpr #[h.nd,by simp,λa N b hb=>by rw[show b=m by simpa using hb];rintro rfl;exact hS N],λk hk=>?_,λk hk j e=>?_,λn i=>?_]
 . rcases yW.mp hk with q | q;. exact h.lt k q
   . rw[show k=m by simpa using q];exact o
 . rcases yW.mp hk with q | q;. exact zA _ (h.needs k q j e)
   . rw[show k=m by simpa using q] at e;exact zA _ (hn j e)
 . rcases h.due n i with d | d;. exact .inl d
   . exact .inr (d.more (m:=m) (pF B) (λx hx=>zA _ hx) λx hx=>(yW.mp hx).imp id λq=>by simpa using q)
theorem Wk.sorted (h:Wk ls ws due S T) (hp:ss.Perm (BX S)) (hi:ss.Pairwise (·<=·)):∃st,isSt ls st/\ss=BX st/\∀n∈due,(AT T (n:Int)).isSome=ap\/n∈lfB ls st ws:=by
 have inc:((a1K ls.length).filter λk=>decide (k∈S)).Pairwise (· < ·):=(OE _).filter _;have mem:∀k,k∈((a1K ls.length).filter λk=>decide (k∈S))↔k∈S:=λk=>by rw[yL,List.mem_range,decide_eq_true_iff];exact#[λq=>q.2,λq=>#[h.lt k q,q]]
 have hs:isSt ls ((a1K ls.length).filter λk=>decide (k∈S)):=#[inc,λk hk=>h.lt k ((mem k).mp hk),λk hk j o=>(mem j).mpr (h.needs k ((mem k).mp hk) j o)]
 have X:(BX S).Perm (BX ((a1K ls.length).filter λk=>decide (k∈S))):=List.Perm.map _ ((b8V h.nd (KM inc)).mpr λk=>(mem k).symm);have nd:ss.Nodup:=(hp.trans X).nodup_iff.mpr ((JD inc).imp λ{a b} q=>by lia);refine#[_,hs,PM (cI hi nd) (JD inc) λa=>(hp.trans X).mem_iff,λn hn=>?_];rcases h.due n hn with d | d;. exact .inl d
 . refine .inr (A2R hs ?_);have e:(λk=>k∈((a1K ls.length).filter λk=>decide (k∈S)))=λk=>k∈S:=funext λk=>propext (mem k);rw[e];exact d
def cGt (k:Nat):PyData->Bool | .int i=>decide ((k:Int) < i) | _=>bj
theorem dD (L:List Nat) (k:Nat):((AA L).filter (cGt k)).map id=AA (L.filter λm=>decide (k < m)):=by
 rw[b3Z];induction L with
 | nil=>rfl
 | cons a r U=> show(a4V (a:Int)::AA r).filter _=_;rw[a2K,a2K,U];have e:cGt k (.int (a:Int))=decide (k < a):=cT k a;rw[e];split <;> rfl
def WW (tc:Nat->Nat->Bool) (k:Nat):PyData->PyData | .int i=>.bool (tc k i.toNat) | _=>.none
theorem dE (tc:Nat->Nat->Bool) (k:Nat) (L:List Nat):((AA L).filter λ_=>ap).map (WW tc k)=(L.map λm=>tc k m).map .bool:=by
 rw[List.filter_eq_self.mpr λ_ _=>rfl];induction L with
 | nil=>rfl
 | cons a r U=> show WW tc k (.int (a:Int))::(AA r).map (WW tc k)=_;rw[U];rfl
def frX (ls:List (Str×Deed)) (k:Nat) (p:Addr):List DS:=[.d (AQ ls),.d (.int (k:Int)),.loc p]
def NG:FSp:=#[λe M=>∃(ls:List (Str×Deed)) (k:Nat) (p:Addr) (S:List Nat),e=frX ls k p/\M p=al (.l (AA S))/\(∀l∈ls,l.2.real)/\k < ls.length/\(∀m∈S,m < ls.length)/\S.length<=50,λe M y i=>∀(ls:List (Str×Deed)) (k:Nat) (p:Addr) (S:List Nat),e=frX ls k p->M p=al (.l (AA S))->y = .d (.bool (frB ls S k))/\i=M]
theorem a6 (m:M p=al (.l (AA S))) (hr:∀l∈ls,l.2.real) (hk:k < ls.length) (hS:∀m∈S,m < ls.length) (e:S.length<=50) (q:Q (.d (.bool (frB ls S k))) M):(frX ls k p).length=3/\NG.pre (frX ls k p) M/\∀x i,NG.post (frX ls k p) M x i->Q x i:=#[rfl,#[ls,k,p,S,rfl,m,hr,hk,hS,e],λx i h=>by obtain⟨rfl,rfl⟩:=h ls k p S rfl m;exact q]
def mvX (ls:List (Str×Deed)) (G:List (List Nat)) (p:Addr):List DS:=[.d (AQ ls),.d (BU G),.loc p]
def mvP (ls:List (Str×Deed)) (S L:List Nat):Prop:=L.length<=ls.length/\∀m∈L,m < ls.length/\frB ls S m=ap/\(m∈S\/∀j∈BI (dsL ls) m,j∈S)
def KP:FSp:=#[λe M=>∃(ls:List (Str×Deed)) (G:List (List Nat)) (p:Addr) (S:List Nat),e=mvX ls G p/\M p=al (.l (AA S))/\(∀l∈ls,l.2.real)/\G.length=ls.length/\NdG (dsL ls) G/\(∀m∈S,m < ls.length)/\S.length<=50/\ls.length<=50,λe M y i=>∀(ls:List (Str×Deed)) (G:List (List Nat)) (p:Addr) (S:List Nat),e=mvX ls G p->M p=al (.l (AA S))->∃L,y = .d (.list (AA L))/\mvP ls S L/\i=M]
theorem WX (m:M p=al (.l (AA S))) (hr:∀l∈ls,l.2.real) (hG:G.length=ls.length) (hN:NdG (dsL ls) G) (hS:∀m∈S,m < ls.length) (e:S.length<=50) (n:ls.length<=50) (q:∀L,mvP ls S L->Q (.d (.list (AA L))) M):(mvX ls G p).length=3/\KP.pre (mvX ls G p) M/\∀x i,KP.post (mvX ls G p) M x i->Q x i:=#[rfl,#[ls,G,p,S,rfl,m,hr,hG,hN,hS,e,n],λx i h=>by obtain⟨L,rfl,a,rfl⟩:=h ls G p S rfl m;exact q L a]
theorem dF (h:BU G=BU B):G=B:=by have h1:=PyData.list.inj h;exact(List.map_inj_right λa b e=>JE (PyData.list.inj e)).mp h1
theorem uS (e:frX ls k p=frX n J p'):ls=n/\k=J/\p=p':=by simp only[frX,List.cons.injEq,DS.d.injEq,DS.loc.injEq,PyData.int.injEq,and_true] at e;exact#[FF (PyData.tuple.inj e.1),by lia,e.2.2]
end
end DL
namespace DL
theorem pG {S:List Nat}(h:S.Nodup) (m:∀k∈S,k < n):S.length<=n:=by
 have inc:((a1K n).filter λk=>decide (k∈S)).Pairwise (· < ·):=(OE _).filter _;have hp:S.Perm ((a1K n).filter λk=>decide (k∈S)):=(b8V h (KM inc)).mpr λk=>by rw[yL,List.mem_range,decide_eq_true_iff];exact#[λq=>#[m k q,q],λq=>q.2]
 rw[hp.length_eq];exact zN (yJ _ _) (by rw[xZ];exact zR _)
end DL
namespace DL
open PySem PySem.Spec L2
def cTk (T:List (Int×PyData)):PyData->Bool | .int i=>!(AT T i).isSome | _=>bj
def fTk (T:List (Int×PyData)):PyData->PyData | .int i=>.bool (AT T i).isSome | _=>.none
theorem WY :∀{L:List Nat},((AA L).filter (cTk T)).map (fIn X)=((L.filter λn:Nat=>!(AT T (n:Int)).isSome).map λn=>decide (n∈X)).map .bool
 | []=>rfl
 | a::L=>by
   show((a4V (a:Int)::AA L).filter (cTk T)).map (fIn X)=_;rw[a2K,a2K];show List.map _ (if (!(AT T (a:Int)).isSome)=ap then _ else _)=_;split;. rw[zI,zI,zI,WY];show _::_=_::_;unfold fIn;rw[CQ]
   . exact WY
theorem pH {X L:List Nat}(h:∀n∈L,(AT T (n:Int)).isSome=ap\/n∈X):((L.filter λn:Nat=>!(AT T (n:Int)).isSome).map λn=>decide (n∈X)).all id=true:=by
 rw[List.all_map,a6J];intro n hn;obtain⟨a,b⟩:=yL.mp hn;rcases h n a with z | z;. rw[z] at b;cases b
 . exact decide_eq_true z
theorem V0 :∀{L:List Nat},((AA L).filter λ_=>ap).map (fTk T)=(L.map λn:Nat=>(AT T (n:Int)).isSome).map .bool
 | []=>rfl
 | a::L=>by show((a4V (a:Int)::AA L).filter λ_=>ap).map (fTk T)=_;rw[a2K,if_pos rfl,zI,zI,zI,V0];rfl
theorem jQ {L:List Nat}(h:∀n∈L,(AT T (n:Int)).isSome=ap):(L.map λn:Nat=>(AT T (n:Int)).isSome)=L.map λ_=>true:=yM h
theorem dG (L:List Nat):(L.map λ_=>ap).all id=true:=by rw[List.all_map,a6J];intro _ _;rfl
theorem pI (L:List Nat):(BX L).length=L.length:=zX _
end DL
namespace DL
open PySem PySem.Spec L2
def FnIn (K:Frg) (n:Str) (st:fv):Prop:=∃(f:Addr) (v:ar) (O:Option Addr) (kV e M:ar) (T:Option Addr) (D t:ar) (sl:Array (Option ar)),a2J K bm n=al (al (.ref f)) /\
 K.lookup f=al #[v,O,.func (a9X n n (EX st) (CU st) (AB st) .none kV e M T D t),sl]/\b8Q K D n=ap/\b2X K (.ref f)=ap
theorem uT {K:Frg}{n:Str}{st:fv}{f:Addr}{v:ar}{O:Option Addr}{kV e M:ar}{T:Option Addr}{D ct:ar}{sl:Array (Option ar)}(a:a2J K bm n=al (al (.ref f))) (l:K.lookup f=al #[v,O,.func (a9X n n (EX st) (CU st) (AB st) .none kV e M T D ct),sl]) (c:b8Q K D n=ap) (k:b2X K (.ref f)=ap):FnIn K n st:=#[f,v,O,kV,e,M,T,D,ct,sl,a,l,c,k]
structure FnAt (K:Frg) (mg:Str->Option ar) (n:Str) (st:fv) (f:Addr) (fd:gy):Prop where
 fn:Fun K n n st f fd
 mg_:mg n=al (.ref f)
 kp:b2X K (.ref f)=ap
theorem FnIn.at (b:FnIn K n st) (X:K.In h) (G:h.Ns bm mg):∃f O,FnAt K mg n st f O:=by obtain⟨f,_,_,_,_,_,_,_,_,_,a,l,c,k⟩:=b;exact#[f,_,z0 l c k,b6Z X G a,k]
theorem A2q {C:List ar->Prop}(h:C []) (e:List ar) (m:e.length=0):C e:=by obtain rfl:=List.eq_nil_of_length_eq_zero m;exact h
theorem A2S {C:List ar->Prop}(h:∀t,C [t]) (e:List ar) (m:e.length=1):C e:=by
 cases e with
 | nil=>cases m
 | cons a e=>exact A2q (C:=λe=>C (a::e)) (h a) e (Nat.succ.inj m)
theorem A2T {C:List ar->Prop}(h:∀t n,C [t,n]) (e:List ar) (m:e.length=2):C e:=by
 cases e with
 | nil=>cases m
 | cons a e=>exact A2S (C:=λe=>C (a::e)) (h a) e (Nat.succ.inj m)
theorem A2r {C:List ar->Prop}(h:∀t n c,C [t,n,c]) (e:List ar) (m:e.length=3):C e:=by
 cases e with
 | nil=>cases m
 | cons a e=>exact A2T (C:=λe=>C (a::e)) (h a) e (Nat.succ.inj m)
section
variable {P:bq}{w:bo}{K:Frg}{mg:Str->Option ar}{base:db}{n:Str}{st:fv}{f:Addr}{fd:gy}{k:Nat}{ps:List Str}
abbrev A06 (n:Str) (st:fv) (ps:List Str):Prop:=∀(kV doc M:ar) (T:Option Addr) (cdv t:ar) (e:List ar),e.length=ps.length->bindArgs (a9X n n (EX st) (CU st) (AB st) .none kV doc M T cdv t) #[e,[]]=pure (ps.zip e)
theorem FnAt.has (a:FnAt K mg n st f fd) (h:FnOk P w K mg base CX0 k f fd ps (spD K ps.length S)) (b:A06 n st ps):Has P w K mg base n k ps S:=#[f,fd,h,a.mg_,a.kp,a.fn.binds b]
end
end DL
namespace DL
open PySem PySem.Spec L2
abbrev MA:Stmt:=_root_.sT 4
abbrev JN:Stmt:=_root_.sT 6
abbrev MB:Stmt:=_root_.sT 7
abbrev KQ:Stmt:=_root_.sT 5
abbrev OJ:Stmt:=_root_.sT 11
abbrev dH:Stmt:=_root_.sT 13
abbrev MC:Stmt:=_root_.sT 14
abbrev KR:Stmt:=_root_.sT 12
abbrev OK:Stmt:=_root_.sT 15
abbrev F7:Stmt:=_root_.sT 16
abbrev PR:Stmt:=_root_.sT 8
abbrev HP:Stmt:=_root_.sT 25
abbrev C8:Stmt:=_root_.sT 26
abbrev JO:Stmt:=_root_.sT 32
abbrev DK:Stmt:=_root_.sT 30
abbrev SF:Stmt:=_root_.sT 31
abbrev dI:Stmt:=_root_.sT 28
abbrev JP:Stmt:=_root_.sT 29
abbrev SG:Stmt:=_root_.sT 34
abbrev HQ:Stmt:=_root_.sT 37
abbrev JQ:Stmt:=_root_.sT 36
abbrev JR:Stmt:=_root_.sT 39
abbrev PU:Stmt:=_root_.sT 40
abbrev KS:Stmt:=_root_.sT 38
abbrev FT:Stmt:=_root_.sT 42
abbrev DN:Stmt:=_root_.sT 43
abbrev SH:Stmt:=_root_.sT 48
abbrev JS:Stmt:=_root_.sT 47
abbrev PV:Stmt:=_root_.sT 46
abbrev BY:Stmt:=_root_.sT 53
abbrev E7:Stmt:=_root_.sT 52
abbrev CW:Stmt:=_root_.sT 54
abbrev pJ:Stmt:=_root_.sT 51
abbrev SJ:Stmt:=_root_.sT 50
abbrev DO:Stmt:=_root_.sT 58
abbrev HR:Stmt:=_root_.sT 56
abbrev JT:Stmt:=_root_.sT 57
abbrev GI:Stmt:=_root_.sT 59
abbrev DQ:Stmt:=_root_.sT 60
abbrev F8:Stmt:=_root_.sT 61
abbrev JU:Stmt:=_root_.sT 62
abbrev JV:Stmt:=_root_.sT 63
abbrev JW:Stmt:=_root_.sT 64
abbrev F9:Stmt:=_root_.sT 65
abbrev FA:Stmt:=_root_.sT 66
abbrev FB:Stmt:=_root_.sT 67
abbrev HS:Stmt:=_root_.sT 68
abbrev EN:Stmt:=_root_.sT 69
abbrev FC:Stmt:=_root_.sT 70
abbrev V1:Stmt:=_root_.sT 71
abbrev vS (x:String) (t:Tok):Value:=.str (a0Q x) t
abbrev eS (P:ew) (x:String) (t:Tok) (v:ar):DictEntry:=#[b0Q P (a0Q x),.str (a0Q x) t,v]
abbrev hs (i:Nat):Stmt:=ad.main.body.getD i (.Pass #[0,0,0,0])
abbrev fO (n q:String) (st:fv) (doc M:ar) (c:Nat):Obj:=#[.type "function", am,.func (a9X (a0Q n) (a0Q q) (EX st) (CU st) (AB st) .none .none doc M am (.ref c) .none),#[]]
abbrev gO (n q:String) (st:fv):Obj:=#[.none,am,.func (.mk (a0Q n) (a0Q q) (EX st) (.stmts (CU st)) (AB st) 0 [] .none .none .none .none am .none .none 0),#[]]
abbrev tO (vs:Array ar):Obj:=#[.type "tuple", am,.seq vs 0,#[]]
abbrev kO (n q:String) (a b c:Tok) (l k f:Nat) (S:ar) (t:Nat) (x G N e:ar) (u l2:Nat) (d:Tok):Obj:=#[.type "code", am,.fields (z3 [vS n a,vS q b,vS "/claim/cut.py" c,.int l 0,.int k 0,.int 0 0,.int 0 0,.int f 0,S,.bool ap,.int t 0,x,.none,G,N,e,.int u 0,.int l2 0,vS "/claim/cut.py" d]),#[]]
abbrev fP (n:String) (st:fv) (doc M:ar) (c:Nat):Obj:=fO n n st doc M c
abbrev gP (n:String) (st:fv):Obj:=gO n n st
abbrev kPz (n:String) (a b c:Tok) (l k f:Nat) (S:ar) (t:Nat) (x G N q:ar) (u l2:Nat) (d:Tok):Obj:=kO n n a b c l k f S t x G N q u l2 d
abbrev nF (vs:Array ar):Obj:=#[.none,am,.fields vs,#[]]
abbrev lF (l:List (Nat×Nat×Nat)):Obj:=nF (l.flatMap λt=>[.int t.1 0,.int t.2.1 0,.ref t.2.2]).toArray
def hV:Program:={ ad with main:={ ad.main with body:=([1,2,3,4,5,6,7,8,10,11,12,13,14,15,16,18,19,20,21,22,23,25,26,28,29,30,31,32,34,36,37,38,39,40,42,43,45,46,47,48,50,51,52,53,54,56,57,58,59,60,61,62,63,64,65,66,67,68,69,70,71]:List Nat).map hs } }
abbrev hB:List Stmt:=PySem.W.behindTheImports ad
def hN:Env:={ scope:=ad.main.scope,locals:=mainNs,globals:=mainNs,cells:=[],code:=a0X 13,frame:=al 14 }
abbrev hC:Code:=.body hB hN
abbrev hF:List Frame:=[PySem.W.topFrame { line:=0,col:=0,endLine:=0,endCol:=0 }]
abbrev hI (t:PySem.W.BT) (l:List (Nat×dc)):PySem.W.BT:=l.foldl (λt x=>t.ins x.1 x.2) t
noncomputable def hT0:ew->PySem.W.BT:=λP=>hI .nil [(0,PySem.W.boot_o_0 P),(1,PySem.W.boot_o_1 P),(2,PySem.W.boot_o_2 P),(3,PySem.W.boot_o_3 P),(4,PySem.W.boot_o_4 P),(5,PySem.W.boot_o_5 P),(6,PySem.W.boot_o_6 P),(7,PySem.W.boot_o_7 P),(8,PySem.W.boot_o_8 P),(9,PySem.W.boot_o_9 P),(10,PySem.W.boot_o_10 P)]
def qA (a t:Nat) (n:String) (k J e B:Nat) (ns:List String) (m:String) (s:Tok):List (Nat×dc):=[(a,tO #[]),(a+1,nF #[]),(a+2,tO (ns.zipIdx.map λp=>vS p.1 (t+3+p.2)).toArray),(a+3,tO #[]),(a+4,gP n (hs k)),(a+5,kPz n t (t+1) (t+2) J e B (.ref a) 181 (.ref (a+1)) (.ref (a+2)) (.ref (a+3)) (.ref (a+4)) (t+3+ns.length) J (t+4+ns.length)),(a+6,fP n (hs k) .none (vS m s) (a+5))]
def qB (a t:Nat) (n:String) (k J e B:Nat) (m:String) (s:Tok):List (Nat×dc):=[(a,tO #[]),(a+1,nF #[]),(a+2,gP n (hs k)),(a+3,kPz n t (t+1) (t+2) J e B (.ref a) 181 (.ref (a+1)) .none .none (.ref (a+2)) (t+3) J (t+4)),(a+4,fP n (hs k) .none (vS m s) (a+3))]
def qC (P:ew) (a t:Nat) (n u f:String) (l k q:Nat) (m:String) (s:Tok):List (Nat×dc):=[(a,tO (z3 [(.ref q)])),(a+1,(#[(.type "builtin_function_or_method"),am,(.fields (z3 [(.builtin "type.__prepare__"),(.type "type")])),#[]]:dc)),(a+2,(#[(.type "dict"),am,(.dict (z3 [eS P "__module__" (t+7) (vS m s),eS P "__qualname__" (t+9) (vS n (t+8)),eS P "__firstlineno__" (t+11) (.int l (t+10)),eS P "__init__" (t+19) (.ref (a+13)),eS P "__static_attributes__" (t+21) (.ref (a+14))]) 5),#[]]:dc)),(a+3,tO #[]),(a+4,lF [((l+2),4,(a+12))]),(a+5,(#[(.type "code"),am,(.fields (z3 [(vS n (t+2)),(vS n (t+3)),(vS "/claim/cut.py" (t+4)),(.int l 0),(.int 0 0),(.int 0 0),(.int 0 0),(.int 0 0),(.ref (a+3)),(.bool bj),(.int 181 0),(.ref (a+4)),.none,.none,.none,.none,(.int (t+5) 0),(.int l 0),(vS "/claim/cut.py" (t+6))])),#[]]:dc)),(a+6,(#[(.type "frame"),am,.plain,(z3 [(al (.ref (a+5))),(al (.ref 3)),(al (.ref (a+2))),am,(al (vS m s)),am,(al (.ref 0))])]:dc)),(a+7,tO #[]),(a+8,nF #[]),(a+9,tO (z3 [(vS "self" (t+15)),(vS f (t+16))])),(a+10,tO #[]),(a+11,gO "__init__" u (vU 0 (hs k))),(a+12,kO "__init__" u (t+12) (t+13) (t+14) (l+2) 2 3 (.ref (a+7)) 181 (.ref (a+8)) (.ref (a+9)) (.ref (a+10)) (.ref (a+11)) (t+17) (l+2) (t+18)),(a+13,fO "__init__" u (vU 0 (hs k)) .none (vS m s) (a+12)),(a+14,tO (z3 [(vS f (t+20))])),(a+15,(#[(.type "dict"),am,(.dict (z3 [eS P "__module__" (t+7) (vS m s),eS P "__firstlineno__" (t+11) (.int l (t+10)),eS P "__init__" (t+19) (.ref (a+13)),eS P "__static_attributes__" (t+21) (.ref (a+14)),eS P "__doc__" (t+22) .none]) 2),#[]]:dc)),(a+16,(#[(.type "type"),am,(.cls (.mk n [(.ref q)] [(.ref (a+16)),(.ref q),(.type "ValueError"),(.type "Exception"),(.type "BaseException"),(.type "object")] (a+15) n ap [] [] bj am bj)),(z3 [(al (.ref a)),am,(al (vS n t)),(al (vS n (t+8))),(al (.builtin "ValueError.__new__")),(al (.bool ap))])]:dc)),(a+17,(#[(.type "super"),am,(.fields (z3 [(.ref (a+16)),(.ref (a+16)),(.ref (a+16))])),#[]]:dc)),(a+18,(#[(.type "builtin_function_or_method"),am,(.fields (z3 [(.builtin "object.__init_subclass__"),(.ref (a+16))])),#[]]:dc))]
noncomputable def hT1:ew->PySem.W.BT:=λP=>hI (hT0 P) ((11,tO #[]) :: (12,nF #[]) :: (13,(#[(.type "code"),am,(.fields (z3 [(vS "<module>" 182),(vS "<module>" 183),(vS "/claim/cut.py" 184),(.int 1 0),(.int 0 0),(.int 0 0),(.int 0 0),(.int 0 0),(.ref 11),(.bool bj),(.int 181 0),(.ref 12),.none,.none,.none,.none,(.int 185 0),(.int 1 0),(vS "/claim/cut.py" 186)])),#[]]:dc)) :: (14,(#[(.type "frame"),am,.plain,(z3 [(al (.ref 13)),(al (.ref 3)),(al (.ref 3)),am,(al (vS "__main__" 164)),am,(al (.ref 0))])]:dc)) ::
 [])
noncomputable abbrev hX1 (w:bo) (Q:ek):PySem.W.SharedT:=#[hT1 w.params,15,{ },#[[]],{ },187,Q]
noncomputable abbrev hX2 (w:bo) (Q:ek):PySem.W.SharedT:=#[hT1 w.params,15,{ },#[[]],{ },187,Q]
def hD3:ew->List DictEntry:=λP=>[eS P "__name__" 165 (vS "struckdeeds.errors" 295),eS P "__doc__" 166 .none,eS P "__package__" 167 .none,eS P "__loader__" 168 (.builtin "__main__.__loader__#opaque"),eS P "__spec__" 169 .none,eS P "__annotations__" 170 (.ref 6),eS P "__builtins__" 171 (.ref 4),eS P "__file__" 173 (vS "/claim/cut.py" 172),eS P "__cached__" 174 .none,eS P "LETTERS" 190 (vS "abcdefghijklmnopqrstuvwxyz" 189),eS P "LONGEST_NAME" 192 (.int 8 191),eS P "LAST_PLACE" 194 (.int 999 193),eS P "is_whole" 201 (.ref 21),eS P "is_name" 207 (.ref 26),eS P "is_within" 216 (.ref 33),eS P "is_place" 223 (.ref 40),eS P "rises" 229 (.ref 45),eS P "FORMS" 253 (.ref 46),eS P "form_of" 260 (.ref 53),eS P "is_deed" 266 (.ref 58),eS P "fits" 274 (.ref 65),eS P "names_in" 281 (.ref 72),eS P "made_by" 288 (.ref 79),eS P "must_stand" 294 (.ref 84),eS P "StrikeError" 314 (.ref 94)]
noncomputable def hT3:ew->PySem.W.BT:=λP=>hI (hT1 P) ((3,(#[.type "dict", am,.dict (hD3 P).toArray 25,#[]]:dc)) :: (12,lF [(5,0,20),(7,0,25),(11,0,32),(13,0,39),(15,0,44),(19,0,52),(21,0,57),(31,0,64),(37,0,71),(39,0,78),(45,0,83),(49,0,90)]) ::
 qA 15 195 "is_whole" 4 5 1 3 ["thing"] "struckdeeds.words" 187 ++
 (qB 22 202 "is_name" 5 7 1 3 "struckdeeds.words" 187 ++
 (qA 27 208 "is_within" 6 11 3 3 ["thing","low","high"] "struckdeeds.words" 187 ++
 (qA 34 217 "is_place" 7 13 1 3 ["thing"] "struckdeeds.words" 187 ++
 (qB 41 224 "rises" 8 15 1 3 "struckdeeds.words" 187 ++
 ((46,(#[(.type "dict"),am,(.dict (z3 [eS P "put" 232 (vS "npk" 233),eS P "take" 234 (vS "n" 235),eS P "move" 236 (vS "np" 237),eS P "count" 238 (vS "nk" 239),eS P "name" 240 (vS "nn" 241),eS P "split" 242 (vS "nnpk" 243),eS P "join" 244 (vS "nn" 245)]) 7),#[]]:dc)) ::
 qA 47 254 "form_of" 11 19 1 3 ["word"] "struckdeeds.deeds" 230 ++
 (qB 54 261 "is_deed" 12 21 1 3 "struckdeeds.deeds" 230 ++
 (qA 59 267 "fits" 13 31 2 3 ["sign","part"] "struckdeeds.deeds" 230 ++
 (qA 66 275 "names_in" 14 37 1 3 ["deed"] "struckdeeds.deeds" 230 ++
 (qA 73 282 "made_by" 15 39 1 3 ["deed"] "struckdeeds.deeds" 230 ++
 (qB 80 289 "must_stand" 16 45 1 3 "struckdeeds.deeds" 230 ++
 ((85,tO (z3 [(.type "ValueError")])) ::
 (86,(#[(.type "builtin_function_or_method"),am,(.fields (z3 [(.builtin "type.__prepare__"),(.type "type")])),#[]]:dc)) ::
 (87,(#[(.type "dict"),am,(.dict (z3 [eS P "__module__" 304 (vS "struckdeeds.errors" 295),eS P "__qualname__" 306 (vS "StrikeError" 305),eS P "__firstlineno__" 308 (.int 49 307),eS P "__static_attributes__" 309 (.ref 92)]) 4),#[]]:dc)) ::
 (88,tO #[]) ::
 (89,nF #[]) ::
 (90,(#[(.type "code"),am,(.fields (z3 [(vS "StrikeError" 299),(vS "StrikeError" 300),(vS "/claim/cut.py" 301),(.int 49 0),(.int 0 0),(.int 0 0),(.int 0 0),(.int 0 0),(.ref 88),(.bool bj),(.int 181 0),(.ref 89),.none,.none,.none,.none,(.int 302 0),(.int 49 0),(vS "/claim/cut.py" 303)])),#[]]:dc)) ::
 (91,(#[(.type "frame"),am,.plain,(z3 [(al (.ref 90)),(al (.ref 3)),(al (.ref 87)),am,(al (vS "struckdeeds.errors" 295)),am,(al (.ref 0))])]:dc)) ::
 (92,tO #[]) ::
 (93,(#[(.type "dict"),am,(.dict (z3 [eS P "__module__" 304 (vS "struckdeeds.errors" 295),eS P "__firstlineno__" 308 (.int 49 307),eS P "__static_attributes__" 309 (.ref 92),eS P "__weakref__" 311 (.ref 95),eS P "__doc__" 312 .none]) 3),#[]]:dc)) ::
 (94,(#[(.type "type"),am,(.cls (.mk "StrikeError" [(.type "ValueError")] [(.ref 94),(.type "ValueError"),(.type "Exception"),(.type "BaseException"),(.type "object")] 93 "StrikeError" ap [] [] bj am bj)),(z3 [(al (.ref 85)),am,(al (vS "StrikeError" 297)),(al (vS "StrikeError" 305)),(al (.builtin "ValueError.__new__")),(al (.bool ap))])]:dc)) ::
 (95,(#[(.type "getset_descriptor"),am,(.fields (z3 [(vS "__weakref__" 310),(.ref 94),(.builtin "ExceptionGroup.__weakref__"),.none])),#[]]:dc)) ::
 (96,(#[(.type "super"),am,(.fields (z3 [(.ref 94),(.ref 94),(.ref 94)])),#[]]:dc)) ::
 (97,(#[(.type "builtin_function_or_method"),am,(.fields (z3 [(.builtin "object.__init_subclass__"),(.ref 94)])),#[]]:dc)) ::
 []))))))))))))
noncomputable abbrev hX3 (w:bo) (Q:ek):PySem.W.SharedT:=#[hT3 w.params,98,{ },#[[]],{ },315,Q]
def hD4:ew->List DictEntry:=λP=>hD3 P++[eS P "NoDeed" 330 (.ref 107),eS P "NotNow" 355 (.ref 126),eS P "NoRow" 380 (.ref 145)]
noncomputable def hT4:ew->PySem.W.BT:=λP=>hI (hT3 P) ((3,(#[.type "dict", am,.dict (hD4 P).toArray 28,#[]]:dc)) :: (12,lF [(5,0,20),(7,0,25),(11,0,32),(13,0,39),(15,0,44),(19,0,52),(21,0,57),(31,0,64),(37,0,71),(39,0,78),(45,0,83),(49,0,90),(51,0,103),(53,0,115),(57,0,134)]) :: (94,(#[(.type "type"),am,(.cls (.mk "StrikeError" [(.type "ValueError")] [(.ref 94),(.type "ValueError"),(.type "Exception"),(.type "BaseException"),(.type "object")] 93 "StrikeError" ap [] [(.ref 107),(.ref 126),(.ref 145)] bj am bj)),(z3 [(al (.ref 85)),am,(al (vS "StrikeError" 297)),(al (vS "StrikeError" 305)),(al (.builtin "ValueError.__new__")),(al (.bool ap))])]:dc)) :: (98,tO (z3 [(.ref 94)])) :: (99,(#[(.type "builtin_function_or_method"),am,(.fields (z3 [(.builtin "type.__prepare__"),(.type "type")])),#[]]:dc)) :: (100,(#[(.type "dict"),am,(.dict (z3 [eS P "__module__" 322 (vS "struckdeeds.errors" 295),eS P "__qualname__" 324 (vS "NoDeed" 323),eS P "__firstlineno__" 326 (.int 51 325),eS P "__static_attributes__" 327 (.ref 105)]) 4),#[]]:dc)) :: (101,tO #[]) :: (102,nF #[]) :: (103,(#[(.type "code"),am,(.fields (z3 [(vS "NoDeed" 317),(vS "NoDeed" 318),(vS "/claim/cut.py" 319),(.int 51 0),(.int 0 0),(.int 0 0),(.int 0 0),(.int 0 0),(.ref 101),(.bool bj),(.int 181 0),(.ref 102),.none,.none,.none,.none,(.int 320 0),(.int 51 0),(vS "/claim/cut.py" 321)])),#[]]:dc)) :: (104,(#[(.type "frame"),am,.plain,(z3 [(al (.ref 103)),(al (.ref 3)),(al (.ref 100)),am,(al (vS "struckdeeds.errors" 295)),am,(al (.ref 0))])]:dc)) :: (105,tO #[]) :: (106,(#[(.type "dict"),am,(.dict (z3 [eS P "__module__" 322 (vS "struckdeeds.errors" 295),eS P "__firstlineno__" 326 (.int 51 325),eS P "__static_attributes__" 327 (.ref 105),eS P "__doc__" 328 .none]) 2),#[]]:dc)) :: (107,(#[(.type "type"),am,(.cls (.mk "NoDeed" [(.ref 94)] [(.ref 107),(.ref 94),(.type "ValueError"),(.type "Exception"),(.type "BaseException"),(.type "object")] 106 "NoDeed" ap [] [] bj am bj)),(z3 [(al (.ref 98)),am,(al (vS "NoDeed" 315)),(al (vS "NoDeed" 323)),(al (.builtin "ValueError.__new__")),(al (.bool ap))])]:dc)) :: (108,(#[(.type "super"),am,(.fields (z3 [(.ref 107),(.ref 107),(.ref 107)])),#[]]:dc)) :: (109,(#[(.type "builtin_function_or_method"),am,(.fields (z3 [(.builtin "object.__init_subclass__"),(.ref 107)])),#[]]:dc)) ::
 qC P 110 331 "NotNow" "NotNow.__init__" "name" 53 20 94 "struckdeeds.errors" 295 ++
 (qC P 129 356 "NoRow" "NoRow.__init__" "number" 57 21 94 "struckdeeds.errors" 295 ++
 ([])))
noncomputable abbrev hX4 (w:bo) (Q:ek):PySem.W.SharedT:=#[hT4 w.params,148,{ },#[[]],{ },381,Q]
def hD5:ew->List DictEntry:=λP=>(hD4 P).set 0 (eS P "__name__" 165 (vS "struckdeeds.books" 503))++[eS P "NoLine" 405 (.ref 164),eS P "NoStand" 421 (.ref 176),eS P "by_names" 429 (.ref 183),eS P "rising_by_names" 435 (.ref 188),eS P "done" 446 (.ref 195),eS P "back_deed" 457 (.ref 202),eS P "refuse_undoable" 467 (.ref 209),eS P "change" 477 (.ref 216),eS P "add_count" 488 (.ref 223),eS P "walked" 502 (.ref 230)]
noncomputable def hT5:ew->PySem.W.BT:=λP=>hI (hT4 P) ((3,(#[.type "dict", am,.dict (hD5 P).toArray 38,#[]]:dc)) :: (12,lF [(5,0,20),(7,0,25),(11,0,32),(13,0,39),(15,0,44),(19,0,52),(21,0,57),(31,0,64),(37,0,71),(39,0,78),(45,0,83),(49,0,90),(51,0,103),(53,0,115),(57,0,134),(61,0,153),(65,0,172),(68,0,182),(70,0,187),(73,0,194),(78,0,201),(95,0,208),(102,0,215),(120,0,222),(124,0,229)]) :: (94,(#[(.type "type"),am,(.cls (.mk "StrikeError" [(.type "ValueError")] [(.ref 94),(.type "ValueError"),(.type "Exception"),(.type "BaseException"),(.type "object")] 93 "StrikeError" ap [] [(.ref 107),(.ref 126),(.ref 145),(.ref 164),(.ref 176)] bj am bj)),(z3 [(al (.ref 85)),am,(al (vS "StrikeError" 297)),(al (vS "StrikeError" 305)),(al (.builtin "ValueError.__new__")),(al (.bool ap))])]:dc)) ::
 qC P 148 381 "NoLine" "NoLine.__init__" "line" 61 22 94 "struckdeeds.errors" 295 ++
 ((167,tO (z3 [(.ref 94)])) ::
 (168,(#[(.type "builtin_function_or_method"),am,(.fields (z3 [(.builtin "type.__prepare__"),(.type "type")])),#[]]:dc)) ::
 (169,(#[(.type "dict"),am,(.dict (z3 [eS P "__module__" 413 (vS "struckdeeds.errors" 295),eS P "__qualname__" 415 (vS "NoStand" 414),eS P "__firstlineno__" 417 (.int 65 416),eS P "__static_attributes__" 418 (.ref 174)]) 4),#[]]:dc)) ::
 (170,tO #[]) ::
 (171,nF #[]) ::
 (172,(#[(.type "code"),am,(.fields (z3 [(vS "NoStand" 408),(vS "NoStand" 409),(vS "/claim/cut.py" 410),(.int 65 0),(.int 0 0),(.int 0 0),(.int 0 0),(.int 0 0),(.ref 170),(.bool bj),(.int 181 0),(.ref 171),.none,.none,.none,.none,(.int 411 0),(.int 65 0),(vS "/claim/cut.py" 412)])),#[]]:dc)) ::
 (173,(#[(.type "frame"),am,.plain,(z3 [(al (.ref 172)),(al (.ref 3)),(al (.ref 169)),am,(al (vS "struckdeeds.errors" 295)),am,(al (.ref 0))])]:dc)) ::
 (174,tO #[]) ::
 (175,(#[(.type "dict"),am,(.dict (z3 [eS P "__module__" 413 (vS "struckdeeds.errors" 295),eS P "__firstlineno__" 417 (.int 65 416),eS P "__static_attributes__" 418 (.ref 174),eS P "__doc__" 419 .none]) 2),#[]]:dc)) ::
 (176,(#[(.type "type"),am,(.cls (.mk "NoStand" [(.ref 94)] [(.ref 176),(.ref 94),(.type "ValueError"),(.type "Exception"),(.type "BaseException"),(.type "object")] 175 "NoStand" ap [] [] bj am bj)),(z3 [(al (.ref 167)),am,(al (vS "NoStand" 406)),(al (vS "NoStand" 414)),(al (.builtin "ValueError.__new__")),(al (.bool ap))])]:dc)) ::
 (177,(#[(.type "super"),am,(.fields (z3 [(.ref 176),(.ref 176),(.ref 176)])),#[]]:dc)) ::
 (178,(#[(.type "builtin_function_or_method"),am,(.fields (z3 [(.builtin "object.__init_subclass__"),(.ref 176)])),#[]]:dc)) ::
 qB 179 424 "by_names" 25 68 1 3 "struckdeeds.worlds" 422 ++
 (qB 184 430 "rising_by_names" 26 70 1 3 "struckdeeds.worlds" 422 ++
 (qA 189 438 "done" 28 73 2 3 ["world","deed","things"] "struckdeeds.doings" 436 ++
 (qA 196 447 "back_deed" 29 78 2 3 ["world","deed","things","word","name"] "struckdeeds.doings" 436 ++
 (qA 203 458 "refuse_undoable" 30 95 2 3 ["things","deed","made","name"] "struckdeeds.doings" 436 ++
 (qA 210 468 "change" 31 102 2 3 ["things","deed","word","name"] "struckdeeds.doings" 436 ++
 (qA 217 478 "add_count" 32 120 3 3 ["things","name","more","place","count"] "struckdeeds.doings" 436 ++
 (qA 224 491 "walked" 34 124 2 3 ["world","row","here","back","number","deed"] "struckdeeds.rows" 489 ++
 ([]))))))))))
noncomputable abbrev hX5 (w:bo) (Q:ek):PySem.W.SharedT:=#[hT5 w.params,231,{ },#[[]],{ },505,Q]
def hD6:ew->List DictEntry:=λP=>(hD5 P).set 0 (eS P "__name__" 165 (vS "law_struckdeeds_k42_whole_no_way_takes_back" 624))++[eS P "makers" 510 (.ref 235),eS P "deeds_of" 516 (.ref 240),eS P "book_of" 522 (.ref 245),eS P "is_number" 530 (.ref 252),eS P "needs" 536 (.ref 257),eS P "is_stand" 544 (.ref 262),eS P "refuse_no_stand" 552 (.ref 269),eS P "ADDING" 558 (.ref 270),eS P "touch" 564 (.ref 275),eS P "may_share" 574 (.ref 282),eS P "use_of" 582 (.ref 289),eS P "lifted" 593 (.ref 296),eS P "way" 602 (.ref 303),eS P "lifted_between" 611 (.ref 310),eS P "lifts_by_ends" 617 (.ref 315),eS P "steps_between" 623 (.ref 320),eS P "_law_mixed" 632 (.ref 327),eS P "_law_take" 641 (.ref 334),eS P "_law_names" 647 (.ref 339),eS P "_law_deed" 653 (.ref 344),eS P "_law_after" 659 (.ref 349),eS P "_law_start" 665 (.ref 354),eS P "_law_book" 683 (.ref 361),eS P "_law_must" 690 (.ref 368),eS P "_law_made" 697 (.ref 375)]
noncomputable def hT6:ew->PySem.W.BT:=λP=>hI (hT5 P) ((3,(#[.type "dict", am,.dict (hD6 P).toArray 63,#[]]:dc)) :: (12,lF [(5,0,20),(7,0,25),(11,0,32),(13,0,39),(15,0,44),(19,0,52),(21,0,57),(31,0,64),(37,0,71),(39,0,78),(45,0,83),(49,0,90),(51,0,103),(53,0,115),(57,0,134),(61,0,153),(65,0,172),(68,0,182),(70,0,187),(73,0,194),(78,0,201),(95,0,208),(102,0,215),(120,0,222),(124,0,229),(135,0,234),(138,0,239),(140,0,244),(142,0,251),(144,0,256),(150,0,261),(154,0,268),(159,0,274),(161,0,281),(164,0,288),(169,0,295),(173,0,302),(177,0,309),(179,0,314),(191,0,319),(201,0,326),(203,0,333),(206,0,338),(217,0,343),(238,0,348),(246,0,353),(249,0,360),(265,0,367),(271,0,374)]) ::
 qB 231 505 "makers" 36 135 1 3 "struckdeeds.books" 503 ++
 (qB 236 511 "deeds_of" 37 138 1 3 "struckdeeds.books" 503 ++
 (qB 241 517 "book_of" 38 140 2 3 "struckdeeds.books" 503 ++
 (qA 246 523 "is_number" 39 142 2 3 ["book","thing"] "struckdeeds.books" 503 ++
 (qB 253 531 "needs" 40 144 2 3 "struckdeeds.books" 503 ++
 (qB 258 539 "is_stand" 42 150 2 3 "struckdeeds.stands" 537 ++
 (qA 263 545 "refuse_no_stand" 43 154 2 3 ["book","thing"] "struckdeeds.stands" 537 ++
 ((270,tO (z3 [(vS "count" 555),(vS "split" 556),(vS "join" 557)])) ::
 qB 271 559 "touch" 46 159 2 3 "struckdeeds.touches" 553 ++
 (qA 276 565 "may_share" 47 161 3 3 ["one","other","name","uses"] "struckdeeds.touches" 553 ++
 (qA 283 575 "use_of" 48 164 2 3 ["deed","name"] "struckdeeds.touches" 553 ++
 (qA 290 585 "lifted" 50 169 3 3 ["book","stand","wished"] "struckdeeds.ways" 583 ++
 (qA 297 594 "way" 51 173 3 3 ["book","stand","wished"] "struckdeeds.ways" 583 ++
 (qA 304 603 "lifted_between" 52 177 3 3 ["book","stand","wished"] "struckdeeds.ways" 583 ++
 (qB 311 612 "lifts_by_ends" 53 179 3 3 "struckdeeds.ways" 583 ++
 (qB 316 618 "steps_between" 54 191 3 3 "struckdeeds.ways" 583 ++
 (qA 321 626 "_law_mixed" 56 201 1 3 ["_law_cell"] "law_struckdeeds_k42_whole_no_way_takes_back" 624 ++
 (qA 328 633 "_law_take" 57 203 2 3 ["_law_pack","_law_size","_law_digit"] "law_struckdeeds_k42_whole_no_way_takes_back" 624 ++
 (qB 335 642 "_law_names" 58 206 2 3 "law_struckdeeds_k42_whole_no_way_takes_back" 624 ++
 (qB 340 648 "_law_deed" 59 217 3 3 "law_struckdeeds_k42_whole_no_way_takes_back" 624 ++
 (qB 345 654 "_law_after" 60 238 3 3 "law_struckdeeds_k42_whole_no_way_takes_back" 624 ++
 (qB 350 660 "_law_start" 61 246 3 3 "law_struckdeeds_k42_whole_no_way_takes_back" 624 ++
 (qA 355 666 "_law_book" 62 249 2 3 ["_law_head","_law_cells","_law_pack","_law_spare","_law_amount","_law_start_here","_law_some","_law_lines","_law_cell","_law_digits","_law_hand","_law_deed_here"] "law_struckdeeds_k42_whole_no_way_takes_back" 624 ++
 (qA 362 684 "_law_must" 63 265 1 3 ["_law_deed_here"] "law_struckdeeds_k42_whole_no_way_takes_back" 624 ++
 (qA 369 691 "_law_made" 64 271 1 3 ["_law_deed_here"] "law_struckdeeds_k42_whole_no_way_takes_back" 624 ++
 ([])))))))))))))))))))))))))
noncomputable abbrev hX6 (w:bo) (Q:ek):PySem.W.SharedT:=#[hT6 w.params,376,{ },#[[]],{ },698,Q]
def hD7:ew->List DictEntry:=λP=>hD6 P++[eS P "_law_needs" 703 (.ref 380),eS P "_law_stand" 709 (.ref 385),eS P "_law_kinds" 715 (.ref 390),eS P "_law_touch" 727 (.ref 397),eS P "_law_free" 733 (.ref 402),eS P "_law_moves" 739 (.ref 407),eS P "law" 745 (.ref 412)]
noncomputable def hT7:ew->PySem.W.BT:=λP=>hI (hT6 P) ((3,(#[.type "dict", am,.dict (hD7 P).toArray 70,#[]]:dc)) :: (12,lF [(5,0,20),(7,0,25),(11,0,32),(13,0,39),(15,0,44),(19,0,52),(21,0,57),(31,0,64),(37,0,71),(39,0,78),(45,0,83),(49,0,90),(51,0,103),(53,0,115),(57,0,134),(61,0,153),(65,0,172),(68,0,182),(70,0,187),(73,0,194),(78,0,201),(95,0,208),(102,0,215),(120,0,222),(124,0,229),(135,0,234),(138,0,239),(140,0,244),(142,0,251),(144,0,256),(150,0,261),(154,0,268),(159,0,274),(161,0,281),(164,0,288),(169,0,295),(173,0,302),(177,0,309),(179,0,314),(191,0,319),(201,0,326),(203,0,333),(206,0,338),(217,0,343),(238,0,348),(246,0,353),(249,0,360),(265,0,367),(271,0,374),(277,0,379),(287,0,384),(294,0,389),(303,0,396),(311,0,401),(314,0,406),(321,0,411)]) ::
 qB 376 698 "_law_needs" 65 277 1 3 "law_struckdeeds_k42_whole_no_way_takes_back" 624 ++
 (qB 381 704 "_law_stand" 66 287 2 3 "law_struckdeeds_k42_whole_no_way_takes_back" 624 ++
 (qB 386 710 "_law_kinds" 67 294 1 3 "law_struckdeeds_k42_whole_no_way_takes_back" 624 ++
 (qA 391 716 "_law_touch" 68 303 2 3 ["_law_one","_law_other","_law_here","_law_there","_law_name","_law_both"] "law_struckdeeds_k42_whole_no_way_takes_back" 624 ++
 (qB 398 728 "_law_free" 69 311 3 3 "law_struckdeeds_k42_whole_no_way_takes_back" 624 ++
 (qB 403 734 "_law_moves" 70 314 3 3 "law_struckdeeds_k42_whole_no_way_takes_back" 624 ++
 (qB 408 740 "law" 71 321 1 3 "law_struckdeeds_k42_whole_no_way_takes_back" 624 ++
 ([]))))))))
noncomputable abbrev hX7 (w:bo) (Q:ek):PySem.W.SharedT:=#[hT7 w.params,413,{ },#[[]],{ },746,Q]
noncomputable abbrev hX8 (w:bo) (Q:ek):PySem.W.SharedT:=#[hT7 w.params,413,{ },#[[]],{ },746,Q]
noncomputable def hg (P:ew) (a:Nat):Obj:=((hT7 P).get a).getD default
noncomputable def hK:Params->PySem.W.Frag:=λP=>
 (nat_lit 2,hg P 2) ::
 (nat_lit 3,hg P 3) ::
 (nat_lit 20,hg P 20) ::
 (nat_lit 21,fP "is_whole" MA .none (vS "struckdeeds.words" 187) 20) ::
 (nat_lit 25,hg P 25) ::
 (nat_lit 26,fP "is_name" KQ .none (vS "struckdeeds.words" 187) 25) ::
 (nat_lit 32,hg P 32) ::
 (nat_lit 33,fP "is_within" JN .none (vS "struckdeeds.words" 187) 32) ::
 (nat_lit 39,hg P 39) ::
 (nat_lit 40,fP "is_place" MB .none (vS "struckdeeds.words" 187) 39) ::
 (nat_lit 44,hg P 44) ::
 (nat_lit 45,fP "rises" PR .none (vS "struckdeeds.words" 187) 44) ::
 (nat_lit 46,(#[(.type "dict"),am,(.dict (z3 [eS P "put" 232 (vS "npk" 233),eS P "take" 234 (vS "n" 235),eS P "move" 236 (vS "np" 237),eS P "count" 238 (vS "nk" 239),eS P "name" 240 (vS "nn" 241),eS P "split" 242 (vS "nnpk" 243),eS P "join" 244 (vS "nn" 245)]) 7),#[]]:dc)) ::
 (nat_lit 52,hg P 52) ::
 (nat_lit 53,fP "form_of" OJ .none (vS "struckdeeds.deeds" 230) 52) ::
 (nat_lit 57,hg P 57) ::
 (nat_lit 58,fP "is_deed" KR .none (vS "struckdeeds.deeds" 230) 57) ::
 (nat_lit 64,hg P 64) ::
 (nat_lit 65,fP "fits" dH .none (vS "struckdeeds.deeds" 230) 64) ::
 (nat_lit 71,hg P 71) ::
 (nat_lit 72,fP "names_in" MC .none (vS "struckdeeds.deeds" 230) 71) ::
 (nat_lit 78,hg P 78) ::
 (nat_lit 79,fP "made_by" OK .none (vS "struckdeeds.deeds" 230) 78) ::
 (nat_lit 83,hg P 83) ::
 (nat_lit 84,fP "must_stand" F7 .none (vS "struckdeeds.deeds" 230) 83) ::
 (nat_lit 93,hg P 93) ::
 (nat_lit 94,(#[(.type "type"),am,(.cls (.mk "StrikeError" [(.type "ValueError")] [(.ref 94),(.type "ValueError"),(.type "Exception"),(.type "BaseException"),(.type "object")] 93 "StrikeError" ap [] [(.ref 107),(.ref 126),(.ref 145),(.ref 164),(.ref 176)] bj am bj)),(z3 [(al (.ref 85)),am,(al (vS "StrikeError" 297)),(al (vS "StrikeError" 305)),(al (.builtin "ValueError.__new__")),(al (.bool ap))])]:dc)) ::
 (nat_lit 95,hg P 95) ::
 (nat_lit 106,hg P 106) ::
 (nat_lit 107,hg P 107) ::
 (nat_lit 125,hg P 125) ::
 (nat_lit 126,hg P 126) ::
 (nat_lit 144,hg P 144) ::
 (nat_lit 145,hg P 145) ::
 (nat_lit 163,hg P 163) ::
 (nat_lit 164,hg P 164) ::
 (nat_lit 175,hg P 175) ::
 (nat_lit 176,hg P 176) ::
 (nat_lit 182,hg P 182) ::
 (nat_lit 183,fP "by_names" HP .none (vS "struckdeeds.worlds" 422) 182) ::
 (nat_lit 187,hg P 187) ::
 (nat_lit 188,fP "rising_by_names" C8 .none (vS "struckdeeds.worlds" 422) 187) ::
 (nat_lit 194,hg P 194) ::
 (nat_lit 195,fP "done" dI .none (vS "struckdeeds.doings" 436) 194) ::
 (nat_lit 201,hg P 201) ::
 (nat_lit 202,fP "back_deed" JP .none (vS "struckdeeds.doings" 436) 201) ::
 (nat_lit 208,hg P 208) ::
 (nat_lit 209,fP "refuse_undoable" DK .none (vS "struckdeeds.doings" 436) 208) ::
 (nat_lit 215,hg P 215) ::
 (nat_lit 216,fP "change" SF .none (vS "struckdeeds.doings" 436) 215) ::
 (nat_lit 222,hg P 222) ::
 (nat_lit 223,fP "add_count" JO .none (vS "struckdeeds.doings" 436) 222) ::
 (nat_lit 229,hg P 229) ::
 (nat_lit 230,fP "walked" SG .none (vS "struckdeeds.rows" 489) 229) ::
 (nat_lit 234,hg P 234) ::
 (nat_lit 235,fP "makers" JQ .none (vS "struckdeeds.books" 503) 234) ::
 (nat_lit 239,hg P 239) ::
 (nat_lit 240,fP "deeds_of" HQ .none (vS "struckdeeds.books" 503) 239) ::
 (nat_lit 244,hg P 244) ::
 (nat_lit 245,fP "book_of" KS .none (vS "struckdeeds.books" 503) 244) ::
 (nat_lit 251,hg P 251) ::
 (nat_lit 252,fP "is_number" JR .none (vS "struckdeeds.books" 503) 251) ::
 (nat_lit 256,hg P 256) ::
 (nat_lit 257,fP "needs" PU .none (vS "struckdeeds.books" 503) 256) ::
 (nat_lit 261,hg P 261) ::
 (nat_lit 262,fP "is_stand" FT .none (vS "struckdeeds.stands" 537) 261) ::
 (nat_lit 268,hg P 268) ::
 (nat_lit 269,fP "refuse_no_stand" DN .none (vS "struckdeeds.stands" 537) 268) ::
 (nat_lit 270,tO (z3 [(vS "count" 555),(vS "split" 556),(vS "join" 557)])) ::
 (nat_lit 274,hg P 274) ::
 (nat_lit 275,fP "touch" PV .none (vS "struckdeeds.touches" 553) 274) ::
 (nat_lit 281,hg P 281) ::
 (nat_lit 282,fP "may_share" JS .none (vS "struckdeeds.touches" 553) 281) ::
 (nat_lit 288,hg P 288) ::
 (nat_lit 289,fP "use_of" SH .none (vS "struckdeeds.touches" 553) 288) ::
 (nat_lit 295,hg P 295) ::
 (nat_lit 296,fP "lifted" SJ .none (vS "struckdeeds.ways" 583) 295) ::
 (nat_lit 302,hg P 302) ::
 (nat_lit 303,fP "way" pJ .none (vS "struckdeeds.ways" 583) 302) ::
 (nat_lit 309,hg P 309) ::
 (nat_lit 310,fP "lifted_between" E7 .none (vS "struckdeeds.ways" 583) 309) ::
 (nat_lit 314,hg P 314) ::
 (nat_lit 315,fP "lifts_by_ends" BY .none (vS "struckdeeds.ways" 583) 314) ::
 (nat_lit 319,hg P 319) ::
 (nat_lit 320,fP "steps_between" CW .none (vS "struckdeeds.ways" 583) 319) ::
 (nat_lit 326,hg P 326) ::
 (nat_lit 327,fP "_law_mixed" HR .none (vS "law_struckdeeds_k42_whole_no_way_takes_back" 624) 326) ::
 (nat_lit 333,hg P 333) ::
 (nat_lit 334,fP "_law_take" JT .none (vS "law_struckdeeds_k42_whole_no_way_takes_back" 624) 333) ::
 (nat_lit 338,hg P 338) ::
 (nat_lit 339,fP "_law_names" DO .none (vS "law_struckdeeds_k42_whole_no_way_takes_back" 624) 338) ::
 (nat_lit 343,hg P 343) ::
 (nat_lit 344,fP "_law_deed" GI .none (vS "law_struckdeeds_k42_whole_no_way_takes_back" 624) 343) ::
 (nat_lit 348,hg P 348) ::
 (nat_lit 349,fP "_law_after" DQ .none (vS "law_struckdeeds_k42_whole_no_way_takes_back" 624) 348) ::
 (nat_lit 353,hg P 353) ::
 (nat_lit 354,fP "_law_start" F8 .none (vS "law_struckdeeds_k42_whole_no_way_takes_back" 624) 353) ::
 (nat_lit 360,hg P 360) ::
 (nat_lit 361,fP "_law_book" JU .none (vS "law_struckdeeds_k42_whole_no_way_takes_back" 624) 360) ::
 (nat_lit 367,hg P 367) ::
 (nat_lit 368,fP "_law_must" JV .none (vS "law_struckdeeds_k42_whole_no_way_takes_back" 624) 367) ::
 (nat_lit 374,hg P 374) ::
 (nat_lit 375,fP "_law_made" JW .none (vS "law_struckdeeds_k42_whole_no_way_takes_back" 624) 374) ::
 (nat_lit 379,hg P 379) ::
 (nat_lit 380,fP "_law_needs" F9 .none (vS "law_struckdeeds_k42_whole_no_way_takes_back" 624) 379) ::
 (nat_lit 384,hg P 384) ::
 (nat_lit 385,fP "_law_stand" FA .none (vS "law_struckdeeds_k42_whole_no_way_takes_back" 624) 384) ::
 (nat_lit 389,hg P 389) ::
 (nat_lit 390,fP "_law_kinds" FB .none (vS "law_struckdeeds_k42_whole_no_way_takes_back" 624) 389) ::
 (nat_lit 396,hg P 396) ::
 (nat_lit 397,fP "_law_touch" HS .none (vS "law_struckdeeds_k42_whole_no_way_takes_back" 624) 396) ::
 (nat_lit 401,hg P 401) ::
 (nat_lit 402,fP "_law_free" EN .none (vS "law_struckdeeds_k42_whole_no_way_takes_back" 624) 401) ::
 (nat_lit 406,hg P 406) ::
 (nat_lit 407,fP "_law_moves" FC .none (vS "law_struckdeeds_k42_whole_no_way_takes_back" 624) 406) ::
 (nat_lit 411,hg P 411) ::
 (nat_lit 412,fP "law" V1 .none (vS "law_struckdeeds_k42_whole_no_way_takes_back" 624) 411)::[]
def hA:List Addr:=[2,3,20,21,25,26,32,33,39,40,44,45,46,52,53,57,58,64,65,71,72,78,79,83,84,93,94,95,106,107,125,126,144,145,163,164,175,176,182,183,187,188,194,195,201,202,208,209,215,216,222,223,229,230,234,235,239,240,244,245,251,252,256,257,261,262,268,269,270,274,275,281,282,288,289,295,296,302,303,309,310,314,315,319,320,326,327,333,334,338,339,343,344,348,349,353,354,360,361,367,368,374,375,379,380,384,385,389,390,396,397,401,402,406,407,411,412]
theorem hE:∀P,hA=(hK P).map (·.1):=λ_=>by kernel_rfl
theorem hp1 (w:bo):(λQ=>PySem.W.topGo c3 ad w 11 (a2W (a0X 6)) 12 #[a4W w.params,#[[]],b7J,b9Q,Q] (PySem.W.topStub ad))=λQ=>al ((hX1 w Q).abs,#[denote c3 hC,hC,{ line:=0,col:=0,endLine:=0,endCol:=0 },hF]):=by kernel_rfl
theorem hp2 (w:bo):(λQ=>a8V c3 ad w 11 (a2W (a0X 6)) 1 1 (hX1 w Q) (PySem.W.blockOf hB hN hC { line:=0,col:=0,endLine:=0,endCol:=0 } hF))=λQ=>al (.next,hX2 w Q,hC,{ line:=0,col:=0,endLine:=0,endCol:=0 }):=by kernel_rfl
def hQ3:List Stmt:=(hB.drop 0).take 19
abbrev A2s (w:bo):Prop:=(λQ=>a8V c3 ad w 11 (a2W (a0X 6)) 1 666 (hX2 w Q) (a9J hQ3 hN hC { line:=0,col:=0,endLine:=0,endCol:=0 } hF))=λQ=>al (.next,hX3 w Q,hC,{ line:=49,col:=0,endLine:=50,endCol:=8 })
theorem jR (w:bo):(λQ=>a8V c3 ad (w.withFollow "special-get-raises" bj) 11 (a2W (a0X 6)) 1 666 (hX2 (w.withFollow "special-get-raises" bj) Q) (a9J hQ3 hN hC { line:=0,col:=0,endLine:=0,endCol:=0 } hF))=λQ=>al (.next,hX3 (w.withFollow "special-get-raises" bj) Q,hC,{ line:=49,col:=0,endLine:=50,endCol:=8 }):=by kernel_rfl
theorem pK (w:bo):(λQ=>a8V c3 ad (w.withFollow "special-get-raises" ap) 11 (a2W (a0X 6)) 1 666 (hX2 (w.withFollow "special-get-raises" ap) Q) (a9J hQ3 hN hC { line:=0,col:=0,endLine:=0,endCol:=0 } hF))=λQ=>al (.next,hX3 (w.withFollow "special-get-raises" ap) Q,hC,{ line:=49,col:=0,endLine:=50,endCol:=8 }):=by kernel_rfl
theorem hp3:∀w:bo,A2s w:=PySem.W.byRow2 "special-get-raises" jR pK
def hQ4:List Stmt:=(hB.drop 19).take 3
theorem hp4 (w:bo):(λQ=>a8V c3 ad w 11 (a2W (a0X 6)) 1 704 (hX3 w Q) (a9J hQ4 hN hC { line:=49,col:=0,endLine:=50,endCol:=8 } hF))=λQ=>al (.next,hX4 w Q,hC,{ line:=57,col:=0,endLine:=60,endCol:=28 }):=by kernel_rfl
def hQ5:List Stmt:=(hB.drop 22).take 14
theorem hp5 (w:bo):(λQ=>a8V c3 ad w 11 (a2W (a0X 6)) 1 742 (hX4 w Q) (a9J hQ5 hN hC { line:=57,col:=0,endLine:=60,endCol:=28 } hF))=λQ=>al (.next,hX5 w Q,hC,{ line:=134,col:=0,endLine:=134,endCol:=8 }):=by kernel_rfl
def hQ6:List Stmt:=(hB.drop 36).take 29
theorem hp6 (w:bo):(λQ=>a8V c3 ad w 11 (a2W (a0X 6)) 1 735 (hX5 w Q) (a9J hQ6 hN hC { line:=134,col:=0,endLine:=134,endCol:=8 } hF))=λQ=>al (.next,hX6 w Q,hC,{ line:=271,col:=0,endLine:=276,endCol:=15 }):=by kernel_rfl
def hQ7:List Stmt:=(hB.drop 65).take 7
theorem hp7 (w:bo):(λQ=>a8V c3 ad w 11 (a2W (a0X 6)) 1 191 (hX6 w Q) (a9J hQ7 hN hC { line:=271,col:=0,endLine:=276,endCol:=15 } hF))=λQ=>al (.next,hX7 w Q,hC,{ line:=321,col:=0,endLine:=347,endCol:=71 }):=by kernel_rfl
theorem hp8 (w:bo):(λQ=>a6W c3 ad w 11 (a2W (a0X 6)) 2 (hX7 w Q).abs (b2Q [] hN hC { line:=321,col:=0,endLine:=347,endCol:=71 } hF))=λQ=>al (hX8 w Q).abs:=by kernel_rfl
theorem hR1:hB=(hQ3++(hQ4++(hQ5++(hQ6++(hQ7++[]))))):=by kernel_rfl
theorem hr8 (w:bo) (Q:ek):a6W c3 ad w 11 (a2W (a0X 6)) 2 (hX7 w Q).abs (b2Q [] hN hC { line:=321,col:=0,endLine:=347,endCol:=71 } hF)=al (hX8 w Q).abs:=congrFun (hp8 w) Q
theorem hr7 (w:bo) (Q:ek):a6W c3 ad w 11 (a2W (a0X 6)) (191+2) (hX6 w Q).abs (b2Q (hQ7++[]) hN hC { line:=271,col:=0,endLine:=276,endCol:=15 } hF)=al (hX8 w Q).abs:=b4Z (n:=191) (N:=2) (s:=(hX6 w Q).abs) (s':=(hX7 w Q).abs) (r:=(hX8 w Q).abs) (l:=hQ7) (rest:=[]) (c:=hC) (pos:={ line:=271,col:=0,endLine:=276,endCol:=15 }) (p':={ line:=321,col:=0,endLine:=347,endCol:=71 }) (env:=hN) (q:={ line:=0,col:=0,endLine:=0,endCol:=0 }) (b0V (congrFun (hp7 w) Q)) (hr8 w Q)
theorem hr6 (w:bo) (Q:ek):a6W c3 ad w 11 (a2W (a0X 6)) (735+(191+2)) (hX5 w Q).abs (b2Q (hQ6++(hQ7++[])) hN hC { line:=134,col:=0,endLine:=134,endCol:=8 } hF)=al (hX8 w Q).abs:=b4Z (n:=735) (N:=(191+2)) (s:=(hX5 w Q).abs) (s':=(hX6 w Q).abs) (r:=(hX8 w Q).abs) (l:=hQ6) (rest:=(hQ7++[])) (c:=hC) (pos:={ line:=134,col:=0,endLine:=134,endCol:=8 }) (p':={ line:=271,col:=0,endLine:=276,endCol:=15 }) (env:=hN) (q:={ line:=0,col:=0,endLine:=0,endCol:=0 }) (b0V (congrFun (hp6 w) Q)) (hr7 w Q)
theorem hr5 (w:bo) (Q:ek):a6W c3 ad w 11 (a2W (a0X 6)) (742+(735+(191+2))) (hX4 w Q).abs (b2Q (hQ5++(hQ6++(hQ7++[]))) hN hC { line:=57,col:=0,endLine:=60,endCol:=28 } hF)=al (hX8 w Q).abs:=b4Z (n:=742) (N:=(735+(191+2))) (s:=(hX4 w Q).abs) (s':=(hX5 w Q).abs) (r:=(hX8 w Q).abs) (l:=hQ5) (rest:=(hQ6++(hQ7++[]))) (c:=hC) (pos:={ line:=57,col:=0,endLine:=60,endCol:=28 }) (p':={ line:=134,col:=0,endLine:=134,endCol:=8 }) (env:=hN) (q:={ line:=0,col:=0,endLine:=0,endCol:=0 }) (b0V (congrFun (hp5 w) Q)) (hr6 w Q)
theorem hr4 (w:bo) (Q:ek):a6W c3 ad w 11 (a2W (a0X 6)) (704+(742+(735+(191+2)))) (hX3 w Q).abs (b2Q (hQ4++(hQ5++(hQ6++(hQ7++[])))) hN hC { line:=49,col:=0,endLine:=50,endCol:=8 } hF)=al (hX8 w Q).abs:=b4Z (n:=704) (N:=(742+(735+(191+2)))) (s:=(hX3 w Q).abs) (s':=(hX4 w Q).abs) (r:=(hX8 w Q).abs) (l:=hQ4) (rest:=(hQ5++(hQ6++(hQ7++[])))) (c:=hC) (pos:={ line:=49,col:=0,endLine:=50,endCol:=8 }) (p':={ line:=57,col:=0,endLine:=60,endCol:=28 }) (env:=hN) (q:={ line:=0,col:=0,endLine:=0,endCol:=0 }) (b0V (congrFun (hp4 w) Q)) (hr5 w Q)
theorem hr3 (w:bo) (Q:ek):a6W c3 ad w 11 (a2W (a0X 6)) (666+(704+(742+(735+(191+2))))) (hX2 w Q).abs (b2Q (hQ3++(hQ4++(hQ5++(hQ6++(hQ7++[]))))) hN hC { line:=0,col:=0,endLine:=0,endCol:=0 } hF)=al (hX8 w Q).abs:=b4Z (n:=666) (N:=(704+(742+(735+(191+2))))) (s:=(hX2 w Q).abs) (s':=(hX3 w Q).abs) (r:=(hX8 w Q).abs) (l:=hQ3) (rest:=(hQ4++(hQ5++(hQ6++(hQ7++[]))))) (c:=hC) (pos:={ line:=0,col:=0,endLine:=0,endCol:=0 }) (p':={ line:=49,col:=0,endLine:=50,endCol:=8 }) (env:=hN) (q:={ line:=0,col:=0,endLine:=0,endCol:=0 }) (b0V (congrFun (hp3 w) Q)) (hr4 w Q)
theorem hr2 (w:bo) (Q:ek):a6W c3 ad w 11 (a2W (a0X 6)) (1+(666+(704+(742+(735+(191+2)))))) (hX1 w Q).abs #[denote c3 hC,hC,{ line:=0,col:=0,endLine:=0,endCol:=0 },hF]=al (hX8 w Q).abs:=PySem.W.piece_block (n:=1) (N:=(666+(704+(742+(735+(191+2)))))) (s:=(hX1 w Q).abs) (s':=(hX2 w Q).abs) (r:=(hX8 w Q).abs) (b:=hB) (env:=hN) (c:=hC) (pos:={ line:=0,col:=0,endLine:=0,endCol:=0 }) (p':={ line:=0,col:=0,endLine:=0,endCol:=0 }) (q:={ line:=0,col:=0,endLine:=0,endCol:=0 }) (b0V (congrFun (hp2 w) Q)) (by rw[hR1];exact hr3 w Q)
noncomputable def hH:ew->Heap:=λP=>PySem.W.absHeap (hT7 P) 413 { }
theorem hr1 (w:bo) (Q:ek):a6W c3 ad w 11 (a2W (a0X 6)) (12+(1+(666+(704+(742+(735+(191+2))))))) #[a4W w.params,#[[]],b7J,b9Q,Q] (PySem.W.topStub ad)=al (hX8 w Q).abs:=PySem.W.go_top (n:=12) (N:=(1+(666+(704+(742+(735+(191+2))))))) (s':=(hX1 w Q).abs) (t':=#[denote c3 hC,hC,{ line:=0,col:=0,endLine:=0,endCol:=0 },hF]) (congrFun (hp1 w) Q) (hr2 w Q)
theorem hR (w:bo) (Q:ek):a6W c3 ad w 11 (a2W (a0X 6)) (12+(1+(666+(704+(742+(735+(191+2))))))) #[a4W w.params,#[[]],b7J,b9Q,Q] (PySem.W.topStub ad)=al #[hH w.params,#[[]],{ },746,Q]:=(hr1 w Q).trans (by kernel_rfl)
theorem hZ (w:bo):(λQ=>((PySem.W.staticsOk (PySem.importedModules ad.main.body) (a4W w.params) (hH w.params)&&PySem.W.namesBound ad (hH w.params)&&PySem.W.gensDone #[hH w.params,#[[]],{ },746,Q]&&PySem.W.laidKept (a4W w.params) (hH w.params)),PySem.W.openSeen hV [a0Q "FORMS"] (PySem.importedModules ad.main.body) (λs=>PySem.W.xlAt hV [] s&&PySem.W.recOk (b4J (b2Z (b4K PySem.Challenge.rw_struckdeeds_k42_whole_no_way_takes_back))) s) ap #[hH w.params,#[[]],{ },746,Q],b8Z (a6K hK hA hE) #[hH w.params,#[[]],{ },746,Q]))=λ_=>(ap,PySem.W.openGood hV [a0Q "FORMS"],b8X (a6K hK hA hE) w):=by kernel_rfl
theorem hO:PySem.W.opening ad=PySem.W.plainProg ad.main.scope.names:=by kernel_rfl
theorem hG (w:bo):((a4W w.params).isNs bm&&(#[[]]:Array GenState).size==0,(a4W w.params).objs.size,(a4W w.params).nsMap bm (a0Q "__annotations__"))=(ap,11,a2W (a0X 6)):=by kernel_rfl
theorem hJ (s:ba):PySem.fenceModules? ad s=al s:=by kernel_rfl
theorem hL:PySem.W.LeftO ad hV [a0Q "FORMS"] (λs=>PySem.W.xlAt hV [] s&&PySem.W.recOk (b4J (b2Z (b4K PySem.Challenge.rw_struckdeeds_k42_whole_no_way_takes_back))) s) (b8Z (a6K hK hA hE)) (b8X (a6K hK hA hE)) 6192:=
 @PySem.W.LeftO.of_pieces ad hV [a0Q "FORMS"] (λs=>PySem.W.xlAt hV [] s&&PySem.W.recOk (b4J (b2Z (b4K PySem.Challenge.rw_struckdeeds_k42_whole_no_way_takes_back))) s) _ (b8Z (a6K hK hA hE)) (b8X (a6K hK hA hE)) 6192 ap a4W hH #[[]] #[[]] b7J { } b9Q 746 11 (a2W (a0X 6)) (12+(1+(666+(704+(742+(735+(191+2))))))) (PySem.W.boot_open hO (by decide) hJ) hG hR (by decide) hZ
theorem hS:PySem.W.OpenLaw.wellSaid PySem.Challenge.rw_struckdeeds_k42_whole_no_way_takes_back=true:=by kernel_rfl
set_option hygiene false
local macro_rules | `(tactic| walk_at "lc")=>`(tactic| first | exact Or.inl rfl | exact Or.inr rfl | exact Or.inr (Or.inl rfl) | exact Or.inr (Or.inr rfl))
local macro_rules | `(tactic| walk_at "or")=>`(tactic| first | exact .inl rfl | exact .inr rfl | assumption)
local macro_rules | `(tactic| walk_at "q")=>`(tactic| first | ((with_reducible show PSs _ [] _);exact @pS _) | ((with_reducible show PSs _ [_] _);exact @V6 _ _ _ (by walk_at "s")) | ((with_reducible show PSs _ (_::_) _);exact @PX _ _ _ _ _ (by walk_at "s") (by walk_at "q")))
local macro_rules | `(tactic| walk_at "s")=>`(tactic| first | ((with_reducible show PS _ (.Assign [.Name ..] (.DictComp ..) _) _);exact @p9 _ _ _ _ _ _ _ _ _ _ _ _ _ _ _ _ _ _ _ rfl ef (by assumption) (RR (by rfl)) (by walk_at "lc") (by walk_at "cs") (by walk_at "n") (λC s' H' vm p_=>#[(by walk_at "g"),(by walk_at "u"),(by walk_at "e"),(by walk_at "e")]) rfl (by walk_at "or") (by intro _;rfl)) | ((with_reducible show PS _ (.Assign [.Name ..] (.ListComp ..) _) _);exact @qU _ _ _ _ _ _ _ _ _ _ _ _ _ _ _ _ _ rfl (by assumption) (RR (by rfl)) (by walk_at "lc") (by walk_at "cs") (by walk_at "n") (λC s' H' vm p_=>#[(by walk_at "g"),(by walk_at "u"),(by walk_at "e")]) rfl (by walk_at "or") (by intro _;rfl)) | ((with_reducible show PS _ (.Assign [.Name ..] ..) _);exact @wU _ _ _ _ _ _ _ (by assumption) (RR (by rfl)) (by walk_at "lc") (by walk_at "e") (by rfl) (by walk_at "or")) | ((with_reducible show PS _ (.If ..) _);first | walk_at "z" | exact @A1K _ _ _ _ _ _ _ _ (by walk_at "t") (by walk_at "q") (by walk_at "q")) | ((with_reducible show PS _ (.Return (al _) _) _);exact @wO _ _ _ _ (by walk_at "e")) | ((with_reducible show PS _ (.For ..) _);exact @wV _ _ _ _ _ _ _ _ PassesOwn.never rfl (by walk_at "n") (by walk_at "g") (by walk_at "q") (by intro _;rfl)) | ((with_reducible show PS _ (.Expr ..) _);exact @pT _ _ _ _ (by walk_at "e") (by rfl)) | ((with_reducible show PS _ (.Continue _) _);exact @XQ _ _) | ((with_reducible show PS _ (.Raise ..) _);exact @kA _ _) | walk_at "x")
local macro_rules | `(tactic| walk_at "e")=>`(tactic| first | ((with_reducible show PE _ (.Name ..) _);first | exact @pvx _ _ _ _ (by rfl) (by walk_at "lc") (by decide) (by decide) | exact @rQ _ _ _ _ (by rfl) (by assumption) (by decide) | exact @rP _ _ _ _ (by rfl) (by assumption) (by decide) | exact @HD _ _ (.ty "int") _ _ (by rfl) (by assumption) PyProof.Rows.boot_int rfl (by decide) (by decide) | exact @HD _ _ (.ty "str") _ _ (by rfl) (by assumption) PyProof.Rows.boot_str rfl (by decide) (by decide) | exact @HD _ _ (.ty "bool") _ _ (by rfl) (by assumption) PyProof.Rows.boot_bool rfl (by decide) (by decide) | exact @HD _ _ (.ty "list") _ _ (by rfl) (by assumption) b8W rfl (by decide) (by decide) | exact @HD _ _ (.ty "tuple") _ _ (by rfl) (by assumption) PyProof.Rows.boot_tuple rfl (by decide) (by decide) | exact @HD _ _ (.ty "dict") _ _ (by rfl) (by assumption) PyProof.Rows.boot_dict rfl (by decide) (by decide) | exact @HD _ _ (.ty "ValueError") _ _ (by rfl) (by assumption) PyProof.Rows.boot_ValueError rfl (by decide) (by decide)) | ((with_reducible show PE _ (.ListComp ..) _);first | ((with_reducible show PE _ (.ListComp _ [_,_] ..) _);exact @oI _ _ _ _ _ _ _ _ _ _ _ _ _ _ _ rfl (by walk_at "cs") (by walk_at "n") (λC s' H' vm p_=>#[(by walk_at "g"),(by walk_at "n"),(by walk_at "g"),(by walk_at "e")]) (by intro _;rfl) (by intro _ _;rfl)) | exact @qT _ _ _ _ _ _ _ _ _ _ _ _ _ rfl (by walk_at "cs") (by walk_at "n") (λC s' H' vm p_=>#[(by walk_at "g"),(by walk_at "u"),(by walk_at "e")]) (by intro _;rfl)) | ((with_reducible show PE _ (.DictComp ..) _);exact @mG _ _ _ _ _ _ _ _ _ _ _ _ _ _ _ rfl ef (by walk_at "cs") (by walk_at "n") (λC s' H' vm p_=>#[(by walk_at "g"),(by walk_at "u"),(by walk_at "e"),(by walk_at "e")]) (by intro _;rfl)) | ((with_reducible show PE _ (.Constant ..) _);first | ((with_reducible show PE _ (.Constant (.int _) ..) _);exact @wG _ _ _ _) | ((with_reducible show PE _ (.Constant (.str _) ..) _);exact @wI _ _ _ _) | ((with_reducible show PE _ (.Constant (.bool _) ..) _);exact @A1D _ _ _ _) | ((with_reducible show PE _ (.Constant .none ..) _);exact @wH _ _ _)) | ((with_reducible show PE _ (.Call ..) _);first | walk_at "y" | ((with_reducible show PE _ (.Call (.Name (a0Q "len") _) ..) _);exact @D5 _ _ _ _ _ _ _ _ _ (@A2d _ K rfl) (by rfl) (by assumption) PySem.boot_len (by walk_at "a") (by decide) (by decide) (by rfl) (by rfl)) | ((with_reducible show PE _ (.Call (.Name (a0Q "isinstance") _) ..) _);exact @D5 _ _ _ _ _ _ _ _ _ (@A2g _ K rfl) (by rfl) (by assumption) PyProof.Rows.boot_isinstance (by walk_at "a") (by decide) (by decide) (by rfl) (by rfl)) | ((with_reducible show PE _ (.Call (.Name (a0Q "all") _) ..) _);exact @D5 _ _ _ _ _ _ _ _ _ (@A2e _ K rfl rfl) (by rfl) (by assumption) PyProof.Rows.boot_all (by walk_at "a") (by decide) (by decide) (by rfl) (by rfl)) | ((with_reducible show PE _ (.Call (.Name (a0Q "any") _) ..) _);exact @D5 _ _ _ _ _ _ _ _ _ (@A2f _ K rfl rfl) (by rfl) (by assumption) PyProof.Rows.boot_any (by walk_at "a") (by decide) (by decide) (by rfl) (by rfl)) | ((with_reducible show PE _ (.Call (.Name (a0Q "sorted") _) ..) _);exact @D5 _ _ _ _ _ _ _ _ _ (@A0g _ K rfl rfl) (by rfl) (by assumption) b1K (by walk_at "a") (by decide) (by decide) (by rfl) (by rfl)) | ((with_reducible show PE _ (.Call (.Name (a0Q "divmod") _) ..) _);exact @D5 _ _ _ _ _ _ _ _ _ (@sI _ K rfl) (by rfl) (by assumption) PyProof.Rows.boot_divmod (by walk_at "a") (by decide) (by decide) (by rfl) (by rfl)) | ((with_reducible show PE _ (.Call (.Name (a0Q "tuple") _) ..) _);exact @NQ _ _ _ _ _ _ _ _ _ (@A0W _ K rfl) (by rfl) (by assumption) PyProof.Rows.boot_tuple (by walk_at "a") (by decide) (by decide) (by rfl) (by rfl)) | ((with_reducible show PE _ (.Call (.Name (a0Q "int") _) ..) _);exact @NQ _ _ _ _ _ _ _ _ _ (@A2l _ K rfl) (by rfl) (by assumption) PyProof.Rows.boot_int (by walk_at "a") (by decide) (by decide) (by rfl) (by rfl)) | ((with_reducible show PE _ (.Call (.Name ..) ..) _);exact @A1r _ K P w mg base _ _ _ _ _ _ _ _ _ rfl rfl rfl rfl rfl (by with_reducible assumption) (hr.mono (by decide)) rfl (by walk_at "a") (by decide) (by rfl) (by rfl)) | ((with_reducible show PE _ (.Call (.Attribute _ (a0Q "append") _) ..) _);exact @kBm _ K _ _ _ _ _ _ _ _ _ _ _ rfl PySem.F.plainAttrs_list PySem.F.slot_list_append PySem.F.type_list_append (@lX _) (by walk_at "e") (by walk_at "a") (by rfl) (by rfl) (by rfl) (by rfl) (by rfl)) | walk_at "x") | ((with_reducible show PE _ (.BinOp ..) _);first | ((with_reducible show PE _ (.BinOp _ .Add ..) _);exact @MK _ _ _ _ _ _ _ _ (@A1t _ K rfl) (by walk_at "e") (by walk_at "e")) | ((with_reducible show PE _ (.BinOp _ .Sub ..) _);exact @MK _ _ _ _ _ _ _ _ (@x8 _) (by walk_at "e") (by walk_at "e")) | ((with_reducible show PE _ (.BinOp _ .Mod ..) _);exact @MK _ _ _ _ _ _ _ _ (@x9 _) (by walk_at "e") (by walk_at "e")) | ((with_reducible show PE _ (.BinOp _ .FloorDiv ..) _);exact @MK _ _ _ _ _ _ _ _ (@l0 _) (by walk_at "e") (by walk_at "e")) | ((with_reducible show PE _ (.BinOp _ .Pow ..) _);exact @MK _ _ _ _ _ _ _ _ (@xA _) (by walk_at "e") (by walk_at "e")) | ((with_reducible show PE _ (.BinOp _ .LShift ..) _);exact @MK _ _ _ _ _ _ _ _ (@xB _) (by walk_at "e") (by walk_at "e")) | ((with_reducible show PE _ (.BinOp _ .RShift ..) _);exact @MK _ _ _ _ _ _ _ _ (@xC _) (by walk_at "e") (by walk_at "e"))) | ((with_reducible show PE _ (.Compare ..) _);first | walk_at "y" | ((with_reducible show PE _ (.Compare _ [.Eq] ..) _);exact @C6 _ _ _ _ _ _ _ _ (@kEq _ K rfl hu) (by walk_at "e") (by walk_at "e") (@ER _ _ (by decide) (by decide))) | ((with_reducible show PE _ (.Compare _ [.NotEq] ..) _);exact @C6 _ _ _ _ _ _ _ _ (@kNe _ K rfl hu) (by walk_at "e") (by walk_at "e") (@ER _ _ (by decide) (by decide))) | ((with_reducible show PE _ (.Compare _ [.Lt] ..) _);exact @C6 _ _ _ _ _ _ _ _ (@l9 _) (by walk_at "e") (by walk_at "e") (@ER _ _ (by decide) (by decide))) | ((with_reducible show PE _ (.Compare _ [.Is] ..) _);exact @C6 _ _ _ _ _ _ _ _ (@m9 _) (by walk_at "e") (by walk_at "e") (@ER _ _ (by decide) (by decide))) | ((with_reducible show PE _ (.Compare _ [.IsNot] ..) _);exact @C6 _ _ _ _ _ _ _ _ (@eU _) (by walk_at "e") (by walk_at "e") (@ER _ _ (by decide) (by decide))) | ((with_reducible show PE _ (.Compare _ [.Gt] ..) _);exact @C6 _ _ _ _ _ _ _ _ (@v9 _) (by walk_at "e") (by walk_at "e") (@ER _ _ (by decide) (by decide)))) | ((with_reducible show PE _ (.Subscript ..) _);first | ((with_reducible show PE _ (.Subscript _ (.Slice _ _ am _) _) _);exact @kK _ _ _ _ _ _ _ _ _ _ (@A2h _ K rfl) (by walk_at "e") (by walk_at "o") (by walk_at "o")) | walk_at "y" | exact @A1W _ _ _ _ _ _ _ (@kIx _ K rfl) (by walk_at "e") (by walk_at "e") (λ_ _=>rfl)) | ((with_reducible show PE _ (.Tuple ..) _);exact @xK _ _ _ _ _ (by walk_at "a")) | ((with_reducible show PE _ (.List ..) _);exact @xN _ _ _ _ (by walk_at "a")) | ((with_reducible show PE _ (.IfExp ..) _);exact @k9 _ _ _ _ _ _ _ _ (by walk_at "t") (by walk_at "e") (by walk_at "e")) | ((with_reducible show PE _ (.BoolOp ..) _);first | ((with_reducible show PE _ (.BoolOp _ [_] _) _);exact @wL _ _ _ _ _ (by walk_at "e")) | ((with_reducible show PE _ (.BoolOp .Or ..) _);exact @A1H _ _ _ _ _ _ _ (by walk_at "e") (by walk_at "e")) | exact @wM _ _ _ _ _ _ _ (by walk_at "e") (by walk_at "e")) | ((with_reducible show PE _ (.UnaryOp ..) _);first | ((with_reducible show PE _ (.UnaryOp .Not ..) _);exact @wN _ _ _ _ (by walk_at "e")) | exact @A1P _ _ _ _ _ _ (@xD _) (by walk_at "e")) | walk_at "x")
local macro_rules | `(tactic| walk_at "t")=>`(tactic| first | ((with_reducible show PT _ (.Compare ..) _);first | walk_at "y" | ((with_reducible show PT _ (.Compare _ [.Eq] ..) _);exact @BJ _ _ _ _ _ _ _ _ (@kEq _ K rfl hu) (by walk_at "e") (by walk_at "e") (@ER _ _ (by decide) (by decide))) | ((with_reducible show PT _ (.Compare _ [.NotEq] ..) _);exact @BJ _ _ _ _ _ _ _ _ (@kNe _ K rfl hu) (by walk_at "e") (by walk_at "e") (@ER _ _ (by decide) (by decide))) | ((with_reducible show PT _ (.Compare _ [.Lt] ..) _);exact @BJ _ _ _ _ _ _ _ _ (@l9 _) (by walk_at "e") (by walk_at "e") (@ER _ _ (by decide) (by decide))) | ((with_reducible show PT _ (.Compare _ [.Is] ..) _);exact @BJ _ _ _ _ _ _ _ _ (@m9 _) (by walk_at "e") (by walk_at "e") (@ER _ _ (by decide) (by decide))) | ((with_reducible show PT _ (.Compare _ [.IsNot] ..) _);exact @BJ _ _ _ _ _ _ _ _ (@eU _) (by walk_at "e") (by walk_at "e") (@ER _ _ (by decide) (by decide))) | ((with_reducible show PT _ (.Compare _ [.Gt] ..) _);exact @BJ _ _ _ _ _ _ _ _ (@v9 _) (by walk_at "e") (by walk_at "e") (@ER _ _ (by decide) (by decide))) | walk_at "x") | ((with_reducible show PT _ (.BoolOp ..) _);exact @L2.PW.pt _ _ _ (by walk_at "w")) | ((with_reducible show PT _ (.UnaryOp .Not ..) _);exact @wK _ _ _ _ (by walk_at "t")) | exact @wJ _ _ _ (by walk_at "e") (by intro _;rfl))
local macro_rules | `(tactic| walk_at "w")=>`(tactic| first | ((with_reducible show PW _ (.BoolOp .Or ..) _);first | ((with_reducible show PW _ (.BoolOp _ [_] _) _);exact @pw_or1 _ _ _ _ (by walk_at "t")) | exact @pw_or _ _ _ _ _ _ _ (by walk_at "t") (by walk_at "w")) | ((with_reducible show PW _ (.BoolOp _ [_] _) _);exact @pw_and1 _ _ _ _ (by walk_at "t")) | exact @pw_and _ _ _ _ _ _ _ (by walk_at "t") (by walk_at "w"))
local macro_rules | `(tactic| walk_at "a")=>`(tactic| first | ((with_reducible show PA _ [] _);exact @xF _) | exact @pZ _ _ _ _ _ (by walk_at "e") (by walk_at "a") (by rfl))
local macro_rules | `(tactic| walk_at "o")=>`(tactic| first | ((with_reducible show PO _ am _);exact @qF _) | exact @qG _ _ _ (by walk_at "e"))
local macro_rules | `(tactic| walk_at "u")=>`(tactic| first | ((with_reducible show PTs _ [] _);exact @e8 _) | exact @qS _ _ _ (by walk_at "t"))
local macro_rules | `(tactic| walk_at "n")=>`(tactic| first | ((with_reducible show PI _ _ (.Call ..) _);first | ((with_reducible show PI _ _ (.Call (.Name (a0Q "range") _) [_] ..) _);exact @gG _ _ _ _ _ _ rfl (by assumption) (by walk_at "a") (by rfl)) | walk_at "x") | walk_at "y" | exact @A1q _ K _ _ _ rfl (by walk_at "e"))
local macro_rules | `(tactic| walk_at "g")=>`(tactic| first | ((with_reducible show PG _ (.Name ..) _);exact @V7 _ _ _ _ (by assumption) (RR (by rfl)) (by walk_at "lc") (by walk_at "or")) | walk_at "x")
local macro_rules | `(tactic| walk_at "j")=>`(tactic| first | ((with_reducible show PGs _ [] _);exact @pU _) | exact @kB _ _ _ _ _ (by walk_at "g") (by walk_at "j") (by rfl))
local macro_rules | `(tactic| walk_at "b1")=>`(tactic| exact @V6 _ _ _ (by walk_at "s"))
local macro_rules | `(tactic| walk_at "b2")=>`(tactic| exact @PX _ _ _ _ _ (by walk_at "s") (by walk_at "q"))
local macro_rules | `(tactic| walk_at "dl")=>`(tactic| first
 | (with_reducible first | refine l6 ?_ | refine dx_seq ?_ | refine l5 ?_ | refine eG ?_ | refine l4 ?_ | refine A1m ?_ | refine eF ?_ | refine VP ?_ | refine ds_setitem ?_ | refine mN ?_ | refine dx_if ?_ | refine dx_raise1 ?_ | refine dx_raise0 ?_ | refine dx_drop (dex_call ?_) | refine dx_set (dex_call ?_) | refine dx_ret (dex_call ?_) | refine dx_lift (l5 ?_) | refine dx_lift (eG ?_) | refine dx_lift (l4 ?_) | refine dx_lift (eF ?_) | refine dx_lift (VP ?_) | refine dx_lift (ds_setitem ?_) | refine dx_lift (mN ?_))
 | ((with_reducible apply zK);exact rfl)
 | (with_reducible first | refine zO ?_ | refine A1d ?_ | refine zS ?_ | refine A0A ?_ | refine A1e ?_ | refine A1f ?_ | refine A1g ?_ | refine l3 ?_ | refine qW ?_ | refine A2b ?_ | refine A0B ?_ | refine A1h ?_ | refine A0C ?_ | refine A0D ?_ | refine A0E ?_ | refine A1i ?_ | refine A0F ?_ | refine A1j ?_ | refine A0G ?_ | refine qX ?_ | refine A1k ?_ | refine A0H ?_ | refine A1l ?_ | refine r6 ?_ | refine r8 ?_ | refine rH ?_ | refine lN ?_ | refine rV ?_)
 | ((with_reducible refine A0Y ?_ ?_);exact rfl)
 | ((with_reducible refine sM ?_ ?_);exact rfl)
 | (with_reducible first | refine A1n ?_ | refine A1o ?_ | refine A2c ?_ | refine lQ ?_ | refine rM ?_)
 | ((with_reducible refine vL ?_ ?_);(first
     | ((with_reducible show CMul _ _);first | exact cmul_r (by decide) (by decide) | exact cmul_l (by decide) (by decide) | exact cmul_l (by lia) (by lia))
     | ((with_reducible show vJ _ _);first | exact#[by decide,by decide] | exact#[by assumption,by assumption])
     | ((with_reducible show wY _ _);exact#[by decide,by decide,by decide])
     | (show(0:Int) < _;first | decide | assumption | lia)))
 | ((with_reducible apply rL);(first | assumption | exact zU);exact rfl)
 | ((with_reducible apply A2i);(first | assumption | exact zU);exact rfl)
 | ((with_reducible refine m3 ?_ ?_);(first | exact CMul.ok (cmul_r (by decide) (by decide)) | exact CMul.ok (cmul_l (by decide) (by decide))))
 | (with_reducible first | refine d2_isB ?_ | refine d2_notB ?_ | refine rd_max ?_ | refine rd_min ?_ | refine sJ ?_ | refine m4 ?_ | refine rd_abs ?_)
 | ((with_reducible refine lK (b:=ap) ?_ ?_);exact rfl)
 | ((with_reducible refine lK (b:=bj) ?_ ?_);exact rfl)
 | with_reducible refine qZ ?_
 | ((with_reducible show D2 _ (NX _) (.d (.tuple (_::_))) (.d (.int _)) _ _);first | refine A0z ?_ | refine A00 ?_ | refine A01 ?_ | refine A02 ?_ | refine A03 ?_)
 | ((with_reducible show D2 _ _ (.d (.str (a0Q _))) (.d (.str (a0Q _))) _ _);first | refine nT (t:=ap) (by decide +kernel) ?_ | refine nT (t:=bj) (by decide +kernel) ?_)
 | ((with_reducible apply A2j);exact rfl;exact yD rfl)
 | (with_reducible refine Exists.intro _ (And.intro rfl ?_))
 | (with_reducible refine L2.gU ?_)
 | (with_reducible refine L2.kW ?_)
 | (refine L2.gU ?_)
 | (refine L2.kW ?_)
 | walk_at "unf")
local macro_rules | `(tactic| walk_at "unf")=>`(tactic| first | ((with_reducible show DSt _ _ _ _ _);(with_reducible refine uJ (by assumption) ?_)) | ((with_reducible show DXt _ _ _ _ _ _ _);(with_reducible refine dx_unfT (by assumption) ?_)))
local macro_rules | `(tactic| walk_at "hi")=>`(tactic| (intro cdv A outer s H E hr hu ef nd))
local macro_rules | `(tactic| walk_at "hd")=>`(tactic| (walk_at "hi";walk_at "nm";clear nd))
local macro_rules | `(tactic| walk_at "nm")=>`(tactic| first | ((with_reducible show Nm _ [_] _);refine p7 ?_;refine#[_,by walk_at "s", ?_];repeat (intro xx hx;refine#[_,by walk_at "s", ?_])) | (refine uI ?_;walk_at "nm") | (refine p7 ?_;refine#[_,by walk_at "s", ?_]))
local macro_rules | `(tactic| left)=>`(tactic| repeat walk_at "dl")
local macro_rules | `(tactic| walk_at "wkd")=>`(tactic| repeat (first | walk_at "dl" | refine D7 ?_ | refine de_dnew ?_))
local macro_rules | `(tactic| walk_at "wks")=>`(tactic| ((repeat ((fail_if_success (with_reducible show DSt _ _ _ _ _));(first | walk_at "dl" | refine D7 ?_ | refine de_dnew ?_)));(try walk_at "unf")))
section
variable {P:bq}{w:bo}{K:Frg}{mg:Str->Option ar}{base:db}
def a7:List Str:=["thing"]
theorem a8 (F:Fun K "is_whole" "is_whole" MA f O) (Y:mg "bool"=am) (a:mg "int"=am) (t:mg "isinstance"=am):FnOk P w K mg base CX0 1 f O ["thing"] (spD K 1 LQ):=by
 refine hD a7 F #[rfl,rfl,rfl,by decide +kernel,rfl,by decide +kernel,by decide +kernel] ?_;walk_at "hd";rintro n M m ⟨d,rfl,-⟩;walk_at "dl";walk_at "dl";walk_at "dl";cases d <;>
 . left;exact#[M,zT M,λJ e=>by cases e;exact#[rfl,rfl]]
def WZ:List Str:=["thing","low","high"]
section
local macro_rules | `(tactic| walk_at "x")=>`(tactic| first | ((with_reducible show PE _ (.Compare _ [_,_] ..) _);exact @kF _ _ _ _ _ _ _ _ _ _ _ _ (@dS _) (@dS _) (by walk_at "e") (by walk_at "e") (by walk_at "e") (by with_unfolding_all rfl)))
theorem X0 (F:Fun K "is_within" "is_within" JN f O) (o:Has P w K mg base "is_whole" 1 ["thing"] LQ):FnOk P w K mg base CX0 2 f O ["thing","low","high"] (spD K 3 EE):=by
 refine hD WZ F #[rfl,rfl,rfl,by decide +kernel,rfl,by decide +kernel,by decide +kernel] ?_;walk_at "hd";rintro n M m ⟨d,t,hi,rfl⟩;left;refine B8 trivial ?_;cases d
 case int i=>
   left;refine kX (λh=>?_) (λh=>?_);. left;exact#[M,zT M,λJ Z hi' e=>by cases e;refine#[?_,rfl];simp only[K8];rw[h];rfl]
   . exact#[M,zT M,λJ Z hi' e=>by cases e;refine#[?_,rfl];simp only[K8];simp at h;simp;lia]
 all_goals
   left;exact#[M,zT M,λJ Z hi' e=>by cases e;exact#[rfl,rfl]]
end
def a9:List Str:=["thing"]
theorem aA (F:Fun K "is_place" "is_place" MB f O) (n:∃t,mg "LAST_PLACE"=al (.int (999) t)) (i:Has P w K mg base "is_within" 2 ["thing","low","high"] EE):FnOk P w K mg base CX0 3 f O ["thing"] (spD K 1 QE):=by refine hD a9 F #[rfl,rfl,rfl,by decide +kernel,rfl,by decide +kernel,by decide +kernel] ?_;walk_at "hd";rintro a M m ⟨d,rfl,-⟩;left;refine OR ?_;exact#[M,zT M,λJ e=>by cases e;exact#[by rw[VW],rfl]]
def SK:List Str:=["thing"]
def NH:List Str:=["sign"]
def NI:List (Option Nat):=[am]
section
local macro_rules | `(tactic| walk_at "cs")=>`(tactic| first | exact @CS _ _ NH NI (AB KQ) SK (by decide +kernel) (by decide +kernel) rfl rfl)
local macro_rules | `(tactic| walk_at "x")=>`(tactic| first | ((with_reducible show PT _ (.Compare _ [_,_] ..) _);exact @kG _ _ _ _ _ _ _ _ _ _ _ _ (@dS _) (@dS _) (by walk_at "e") (by walk_at "e") (by walk_at "e") (by with_unfolding_all rfl)) | ((with_reducible show PE _ (.Compare _ [.In] ..) _);exact @C6 _ _ _ _ _ _ _ _ (@kIn _ K rfl) (by walk_at "e") (by walk_at "e") (by with_unfolding_all rfl)))
theorem dJ (F:Fun K "is_name" "is_name" KQ f O) (b:mg "all"=am) (p:mg "isinstance"=am) (r:mg "len"=am) (k:mg "str"=am) (j:∃t,mg "LETTERS"=al (.str ("abcdefghijklmnopqrstuvwxyz") t)) (g:∃t,mg "LONGEST_NAME"=al (.int (8) t)):FnOk P w K mg base CX0 1 f O ["thing"] (spD K 1 U1):=by
 refine hD SK F #[rfl,rfl,rfl,by decide +kernel,rfl,by decide +kernel,by decide +kernel] ?_;walk_at "hi";have o:NH.Nodup:=by decide +kernel
 walk_at "nm";clear o nd;rintro u M q ⟨d,rfl,hd⟩;cases d
 case str z=>
   have n:z.length<=sizeLine:=zN hd.1 (by decide);have m:(z.length:Int)=(z.cps.size:Int):=rfl;left;refine eJ n ?_;left;refine kX (λh1=>?_) (λh1=>?_)
   . left;refine kX (λa=>?_) (λa=>?_);. left;exact#[M,zT M,λJ e=>by cases e;refine#[?_,rfl];simp only[CI];simp at h1 a;rw[m] at h1 a;simp;lia]
     . left;refine AI (AV 0) (by simp[NI]) ?_;refine rO ?_;left;refine#[by simp only[CL,zX,a3V];exact zQ hd.1 (by decide),λ_=>ap,λd=>.bool (rZ d),?_,?_];. intro d Z i;obtain⟨c,hc,rfl⟩:=zL.mp Z;walk_at "dl";refine#[rfl,?_];walk_at "dl";refine#[rfl,rfl,λ_=>?_];left;refine rN ?_;rw[bH c (hd.2 c hc)];exact#[by simp[rZ],rfl]
       . left;rw[h9];refine HE ?_;rw[bI];exact#[M,zT M,λJ e=>by cases e;refine#[?_,rfl];simp only[CI];simp at h1 a;rw[m] at h1 a;simp;lia]
   . left;exact#[M,zT M,λJ e=>by cases e;refine#[?_,rfl];simp only[CI];simp at h1;rw[m] at h1;simp;lia]
 all_goals
   left;exact#[M,zT M,λJ e=>by cases e;exact#[rfl,rfl]]
end
def dL:List Str:=["word"]
section
local macro_rules | `(tactic| walk_at "x")=>`(tactic| first | ((with_reducible show PE _ (.Call (.Attribute _ (a0Q "get") _) ..) _);exact @sD _ _ _ _ _ _ _ _ rfl iq (by walk_at "e") (@L2.M1.mk _ _ _ _ _ _ rfl rfl rfl rfl) (by decide)))
theorem dM (F:Fun K "form_of" "form_of" OJ f O) (t:mg "isinstance"=am) (n:mg "str"=am) (iq:∃a,mg "FORMS"=al (.ref a)/\GDict w K a GV):FnOk P w K mg base CX0 1 f O ["word"] (spD K 1 O3):=by
 refine hD dL F #[rfl,rfl,rfl,by decide +kernel,rfl,by decide +kernel,by decide +kernel] ?_;walk_at "hd";rintro o M m ⟨d,rfl,-⟩;cases d
 case str z=> left;refine sE ?_;left;exact#[M,zT M,λJ e=>by cases e;exact#[rfl,rfl]]
 all_goals
   left;exact#[M,zT M,λJ e=>by cases e;exact#[rfl,rfl]]
end
def uU:List Str:=["sign","part"]
theorem uV (F:Fun K "fits" "fits" dH f O) (i:Has P w K mg base "is_name" 1 ["thing"] U1) (n:Has P w K mg base "is_place" 3 ["thing"] QE) (o:Has P w K mg base "is_whole" 1 ["thing"] LQ):FnOk P w K mg base CX0 4 f O ["sign","part"] (spD K 2 mU):=by
 refine hD uU F #[rfl,rfl,rfl,by decide +kernel,rfl,by decide +kernel,by decide +kernel] ?_;walk_at "hd";rintro r M m ⟨a,b,rfl,c,rfl,hc,hb⟩;have y:zH (.str #[(z3 [c])])=true:=FD (by show b5Q _=ap;simp[b5Q];lia) (by simp[b2V]);left;refine AX y (by decide +kernel) ?_;rw[if_neg nft,B7];cases h1:((⟨(z3 [c])⟩:Str)==a0Q "n") with
 | true=> left;refine B8 hb ?_;exact#[M,zT M,λa b e=>by cases e;exact#[by simp only[MZ,h1];rfl,rfl]]
 | false=>
   left;refine AX y (by decide +kernel) ?_;rw[if_neg nft,B7];cases t:((⟨(z3 [c])⟩:Str)==a0Q "p") with
   | true=> left;refine B8 trivial ?_;exact#[M,zT M,λa b e=>by cases e;exact#[by simp only[MZ,h1,t];rfl,rfl]]
   | false=> left;refine B8 trivial ?_;exact#[M,zT M,λa b e=>by cases e;exact#[by simp only[MZ,h1,t];rfl,rfl]]
def aB:List Str:=["deed"]
section
local macro_rules | `(tactic| walk_at "x")=>`(tactic| first | ((with_reducible show PE _ (.Call (.Attribute _ (a0Q "startswith") _) ..) _);exact @kBm _ K _ _ _ _ _ _ _ _ _ _ _ rfl PySem.F.plainAttrs_str PySem.F.slot_str_startswith PySem.F.type_str_startswith (@YC _ K rfl) (by walk_at "e") (by walk_at "a") (by rfl) (by rfl) (by rfl) (by rfl) (by rfl)))
theorem aC (F:Fun K "names_in" "names_in" MC f O) (n:Has P w K mg base "form_of" 1 ["word"] O3):FnOk P w K mg base CX0 2 f O ["deed"] (spD K 1 FN):=by
 refine hD aB F #[rfl,rfl,rfl,by decide +kernel,rfl,by decide +kernel,by decide +kernel] ?_;walk_at "hd";rintro o M m ⟨d,rfl,w,f,r,rfl,B⟩;obtain⟨a,fs,i,_,_⟩:=R9 B;have t:R6 (.str w) = .str f:=by show VY (GV.lookup w)=_;rw[B];rfl
 left;refine G2 ?_;left;refine B8 trivial ?_;rw[t];refine#[rF,?_];left;refine i3 ?_;rw[i];cases htw:YR w with
 | true=> left;refine IZ ?_;rw[show ED (a0W w::r) (al 1) (al 3)=r.take 2 from VX _ 1 3];exact#[M,zT M,λJ e=>by cases e;refine#[?_,rfl];simp only[O2,htw];rfl]
 | false=> left;refine IZ ?_;rw[show ED (a0W w::r) (al 1) (al 2)=r.take 1 from VX _ 1 2];exact#[M,zT M,λJ e=>by cases e;refine#[?_,rfl];simp only[O2,htw];rfl]
end
def SL:List Str:=["thing","form","names"]
def NJ:List Str:=["sign","part"]
def NK:List (Option Nat):=[am,am]
section
local macro_rules | `(tactic| walk_at "cs")=>`(tactic| first | exact @CS _ _ NJ NK (AB KR) SL (by decide +kernel) (by decide +kernel) rfl rfl)
local macro_rules | `(tactic| walk_at "x")=>`(tactic| first | ((with_reducible show PI _ _ (.Call (.Name (a0Q "zip") _) ..) _);exact @w8 _ K _ _ _ _ _ _ _ _ rfl rfl dj (by walk_at "a") (by rfl) (by rfl)) | ((with_reducible show PG _ (.Tuple ..) _);exact @h8 _ K _ _ _ _ (2) rfl rfl (by walk_at "j") (by rfl) (by rfl)))
theorem dN (F:Fun K "is_deed" "is_deed" KR f O) (bt:mg "all"=am) (af:mg "isinstance"=am) (a_:mg "len"=am) (ae:mg "tuple"=am) (dj:mg "zip"=am) (oz:Has P w K mg base "fits" 4 ["sign","part"] mU) (cq:Has P w K mg base "form_of" 1 ["word"] O3) (au:Has P w K mg base "names_in" 2 ["deed"] FN):FnOk P w K mg base CX0 5 f O ["thing"] (spD K 1 O5):=by
 refine hD SL F #[rfl,rfl,rfl,by decide +kernel,rfl,by decide +kernel,by decide +kernel] ?_;walk_at "hi";have N:NJ.Nodup:=by decide +kernel
 walk_at "nm";clear N nd;rintro xs M hl ⟨d,rfl,hd⟩;cases d
 case tuple ds=>
   have fin:∀b:Bool,B6 ds=b->∃M2:Own,M2.Sub M/\O5.post [.d (.tuple ds)] M (.d (.bool b)) M2:=λb hb=>#[M,zT M,λJ e=>by cases e;exact#[by show DS.d (.bool b) = .d (.bool (B6 ds));rw[hb],rfl]]
   left;refine G4 ?_;left;refine AX rfl rfl ?_;rw[if_neg nft]
   match ds,hd,fin with
   | [],_,fin=> left;exact fin bj rfl
   | a::r,hd,fin=>
     rw[show a0Z (.int ((a::r).length:Nat)) (.int 0)=bj by simp[a0Z];lia];left;refine B8 trivial ?_;have Q:E9 (R6 a)=ap->B6 (a::r)=false:=λh=>by
       cases a with
       | str w=>
         cases B:GV.lookup w with
         | none=>simp only[B6,B]
         | some f=>simp only[R6,B,VY,E9] at h;cases h
       | _=>rfl
     cases hn:E9 (R6 a) with
     | true=> left;refine eV ?_;rw[hn];left;exact fin bj (Q hn)
     | false=>
       have R:∃w f,a = .str w/\GV.lookup w=al f:=by
         cases a with
         | str w=>
           cases B:GV.lookup w with
           | none=>simp only[R6,B,VY,E9] at hn;cases hn
           | some f=>exact#[w,f,rfl,B]
         | _=>cases hn
       obtain⟨w,f,rfl,B⟩:=R;obtain⟨i,fs,fn,v,f1⟩:=R9 B;have D:R6 (.str w) = .str f:=by show VY (GV.lookup w)=_;rw[B];rfl
       have n:B6 (.str w::r)=((r.length==f.cps.size)&&HJ f r&&(!YR w||!a0Z (r.getD 0 .none) (r.getD 1 .none))):=by simp only[B6,B]
       rw[D];left;refine eV ?_;left;refine G4 ?_;left;refine eJ (zN fs (by decide)) ?_;left;refine AX rfl rfl ?_;rw[if_pos rfl];have k:a0Z (.int ((a0W w::r).length:Nat)) (.int ((f.length:Int)+1))=(r.length==f.cps.size):=by show(((r.length+1:Nat):Int)==((f.cps.size:Int)+1))=_;rw[a2Z,beq_iff_eq,beq_iff_eq];lia
       rw[k];cases m:(r.length==f.cps.size) with
       | false=> left;exact fin bj (by rw[n,m];rfl)
       | true=>
         have t:r.length=f.cps.size:=eq_of_beq m;have o:r.length<=4:=by lia
         left;refine AI (QA (D8 (D8 Q9))) (by simp[NK]) ?_;refine g6 ?_;left;refine IZ ?_;rw[show ED (a0W w::r) (al 1) am=r from MW _ 1];left;refine#[_,_,_,_,rfl,.inr #[_,rfl,i,rfl],.inl rfl,?_,λ_=>ap,A2A,?_,?_];. unfold QC;rw[zX,b7W];exact zQ (show _<=4 by lia) (by decide)
         . intro d Z M';obtain⟨⟨L,X⟩,g,rfl⟩:=zL.mp Z;have hs:L∈CL f:=(b7K g).1;have hp:X∈r:=(b7K g).2;obtain⟨c,hc,rfl⟩:=zL.mp hs;have U:c < 128:=by have:=Array.all_eq_true'.mp i c (by simpa using hc);simpa using this
           left;refine#[rfl,?_];walk_at "dl";refine#[rfl,rfl,λ_=>?_];left;refine MX #[c,rfl,U,hd.2 X (yV _ hp)] ?_;exact#[rfl,rfl]
         . rw[mV];left;refine HE ?_;rw[show(((CL f).zip r).map λp=>MZ p.1 p.2).all id=HJ f r by unfold HJ;rw[List.all_map];rfl];cases hfit:HJ f r with
           | false=> left;exact fin bj (by rw[n,m,hfit];rfl)
           | true=>
             left;refine B8 #[w,f,r,rfl,B] ?_;rw[show O2 (.tuple (.str w::r)) = .tuple (r.take (if YR w then 2 else 1)) from rfl];cases htw:YR w with
             | false=>
               match r,t,o,n,hfit,fin with
               | [],t,_,_,_,_=>exact absurd t (by show ¬(0=f.cps.size);lia)
               | x::G,t,o,n,hfit,fin=> left;refine G4 ?_;left;refine AX rfl rfl ?_;left;exact fin ap (by rw[n,m,hfit,htw];rfl)
             | true=>
               obtain⟨f2,z,T⟩:=v htw
               match r,t,o,n,hfit,fin with
               | [],t,_,_,_,_=>exact absurd t (by show ¬(0=f.cps.size);lia)
               | [_],t,_,_,_,_=>exact absurd t (by show ¬(1=f.cps.size);lia)
               | x::y::G,t,o,n,hfit,fin=> obtain⟨I,S⟩:=mW z T hfit;obtain⟨Y,rfl,q⟩:=U6 I;obtain⟨zy,rfl,u⟩:=U6 S;left;refine G4 ?_;left;refine AX rfl rfl ?_;left;refine AE (d:=.str Y) (AK (j:=0) rfl) ?_;left;refine AE (d:=.str zy) (AK (j:=1) rfl) ?_;refine AX (AY q) (AY u) ?_;rw[if_pos rfl];exact fin _ (by rw[n,m,hfit,htw];rfl)
 all_goals
   left;exact#[M,zT M,λJ e=>by cases e;exact#[rfl,rfl]]
end
def dO:List Str:=["deed"]
section
local macro_rules | `(tactic| walk_at "x")=>`(tactic| first | ((with_reducible show PT _ (.Compare _ [.In] ..) _);exact @BJ _ _ _ _ _ _ _ _ (@kIn _ K rfl) (by walk_at "e") (by walk_at "e") (by with_unfolding_all rfl)))
theorem dP (F:Fun K "made_by" "made_by" OK f O):FnOk P w K mg base CX0 1 f O ["deed"] (spD K 1 KA):=by
 refine hD dO F #[rfl,rfl,rfl,by decide +kernel,rfl,by decide +kernel,by decide +kernel] ?_;walk_at "hd";rintro n M m ⟨d,rfl,D,rfl,hD⟩;rw[D.d_eq];left;refine AX D.word_ok (by decide +kernel) ?_;rw[if_neg nft,B7,mX];cases hp:D.isPut with
 | true=> left;refine#[M,zT M,λJ e=>?_];cases e;refine#[?_,rfl];cases D <;> first | rfl | cases hp
 | false=>
   left;refine PF (ys:=[a0Q "name", a0Q "split"]) ?_;rw[A2n,sV];cases hn:D.isNS with
   | true=>
     have a:∃y t,D.rest = .str y::t:=by cases D <;> first | exact#[_,_,rfl] | cases hn
     obtain⟨y,t,a⟩:=a;left;refine AE (d:=.str y) (AK (j:=2) (by rw[a];rfl)) ?_;refine#[M,zT M,λJ e=>?_];cases e;refine#[?_,rfl];cases D <;> first | (cases hn;done) | (simp only[Deed.rest] at a;injection a with G z;injection G with G;subst G;rfl)
   | false=> left;refine#[M,zT M,λJ e=>?_];cases e;refine#[?_,rfl];cases D <;> first | rfl | (cases hn;done) | (cases hp;done)
end
def L7:List Str:=["deed","made"]
def IA:List Str:=["name","made"]
def IB:List (Option Nat):=[am,al 1]
section
local macro_rules | `(tactic| walk_at "cs")=>`(tactic| first | exact @CS _ _ IA IB (AB F7) L7 (by decide +kernel) (by decide +kernel) rfl rfl)
theorem T9 (F:Fun K "must_stand" "must_stand" F7 f O) (t:mg "tuple"=am) (T:Has P w K mg base "made_by" 1 ["deed"] KA) (a:Has P w K mg base "names_in" 2 ["deed"] FN):FnOk P w K mg base CX0 3 f O ["deed"] (spD K 1 N0):=by
 refine hD L7 F #[rfl,rfl,rfl,by decide +kernel,rfl,by decide +kernel,by decide +kernel] ?_;walk_at "hi";have m:IA.Nodup:=by decide +kernel
 walk_at "nm";clear m nd;rintro r M o ⟨d,rfl,D,rfl,hD⟩;have hsz:(D.names.map a0W).length < sizeLine:=by rw[zX];exact zQ (show D.names.length<=2 by cases D <;> simp[Deed.names]) (by decide)
 left;refine B8 #[D,rfl,hD] ?_;left;refine AI (AV 0) (by simp[IB]) ?_;refine BG ?_;left;refine B8 (MY D) ?_;rw[J6];refine#[_,rfl,hsz,λd=>!a0Z d (GX D.d),id,?_,?_];. intro d hd i;obtain⟨n,hn,rfl⟩:=zL.mp hd;walk_at "dl";refine#[rfl,?_];left;refine AX (AY (hD n hn)) (fC hD) ?_;rw[if_pos rfl];refine#[_,rfl,rfl,rfl,λ_=>?_];left;exact#[rfl,rfl]
 . left;refine G5 ?_;refine#[M,zT M,λJ e=>?_];cases e;refine#[?_,rfl];show DS.d (.tuple _) = .d (.tuple ((YU D.d).map .str));unfold YU;rw[GW,b3Z,xU];rfl
end
def aD:List Str:=["things"]
def SM:List Str:=["ahead","thing"]
def SN:List (Option Nat):=[am,am]
section
local macro_rules | `(tactic| walk_at "cs")=>`(tactic| first | exact @CS _ _ SM SN (AB PR) aD (by decide +kernel) (by decide +kernel) rfl rfl)
local macro_rules | `(tactic| walk_at "x")=>`(tactic| first | ((with_reducible show PI _ _ (.Call (.Name (a0Q "zip") _) ..) _);exact @w8 _ K _ _ _ _ _ _ _ _ rfl rfl dj (by walk_at "a") (by rfl) (by rfl)) | ((with_reducible show PG _ (.Tuple ..) _);exact @h8 _ K _ _ _ _ (2) rfl rfl (by walk_at "j") (by rfl) (by rfl)))
theorem pL (F:Fun K "rises" "rises" PR f O) (n:mg "all"=am) (dj:mg "zip"=am):FnOk P w K mg base CX0 1 f O ["things"] (spD K 1 KJ):=by
 refine hD aD F #[rfl,rfl,rfl,by decide +kernel,rfl,by decide +kernel,by decide +kernel] ?_;walk_at "hi";have e:SM.Nodup:=by decide +kernel
 walk_at "nm";clear e nd;rintro p M o ⟨r,rfl,i,m⟩;rw[show chD r = .tuple (AA r) from rfl];left;refine AI (QA (D8 (D8 Q9))) (by simp[SN]) ?_;refine g6 ?_;left;refine IZ ?_;rw[jF];left;refine#[_,_,AA r,AA (r.drop 1),rfl,.inl rfl,.inl rfl,?_];refine#[by unfold QC;rw[zX,b7W,AJ];exact zQ (zN (Nat.min_le_left _ _) m) (by decide),λ_=>ap,λ_=>.bool ap,?_,?_];. intro d hd t;obtain⟨a,b,y,rfl⟩:=u9 i hd;left;refine#[rfl,?_];walk_at "dl";refine#[rfl,rfl,λ_=>?_];left;rw[cT,decide_eq_true y];exact#[rfl,rfl]
 rw[SZ,OF];left;refine HE ?_;rw[RQ];exact#[M,zT M,rfl,rfl]
end
def P0:List Str:=["world"]
def L8:List Str:=["name","place","count"]
def L9:List (Option Nat):=[am,am,am]
section
local macro_rules | `(tactic| walk_at "cs")=>`(tactic| first | exact @CS _ _ L8 L9 (AB HP) P0 (by decide +kernel) (by decide +kernel) rfl rfl)
local macro_rules | `(tactic| walk_at "x")=>`(tactic| first | ((with_reducible show PG _ (.Tuple ..) _);exact @h8 _ K _ _ _ _ (3) rfl rfl (by walk_at "j") (by rfl) (by rfl)))
theorem aE (F:Fun K "by_names" "by_names" HP f O):FnOk P w K mg base CX0 1 f O ["world"] (spD K 1 E4):=by
 refine hD P0 F #[rfl,rfl,rfl,by decide +kernel,rfl,by decide +kernel,by decide +kernel] ?_;walk_at "hi";have a:L8.Nodup:=by decide +kernel
 walk_at "nm";clear a nd;rintro c M r ⟨w,rfl,nd,m⟩;have n:w.length < sizeLine:=zP m (by decide);left;refine YQ (QA (D8 (D8 (D8 Q9)))) (by simp[L9]) ?_;refine BG ?_;left;have q:(w.map thD).map nm0=w.map (·.1):=sC w;refine#[by rw[zX];exact n,λ_=>ap,nm0,A2o,by rw[SZ,q];exact nd,?_,?_];. intro d hd i;obtain⟨t,b,rfl⟩:=zL.mp hd;rw[thD];left;refine#[rfl,?_];walk_at "dl";refine#[rfl,rfl,λ_=>?_];left;refine#[rfl,rfl,?_];left;exact#[rfl,rfl]
 . intro p hp;rw[SZ,zD];refine#[_,zT _,λo e=>#[p,hp,rfl,?_]];have e:=W9 (show wD w=wD o by simpa using e);subst e;rfl
end
def FU:List Str:=["things"]
def EO:List Str:=["name","things"]
def EQ:List (Option Nat):=[am,al 0]
section
local macro_rules | `(tactic| walk_at "cs")=>`(tactic| first | exact @CS _ _ EO EQ (AB C8) FU (by decide +kernel) (by decide +kernel) rfl rfl)
local macro_rules | `(tactic| walk_at "y")=>`(tactic| first | ((with_reducible show PE _ (.Subscript ..) _);exact @D6 _ _ _ _ _ _ ef (@pv _ 1 _ _ (by rfl) (by walk_at "lc") (by decide) (by decide)) (@pv _ 0 _ _ (by rfl) (by walk_at "lc") (by decide) (by decide)) (λ_ _=>rfl)))
theorem MD (F:Fun K "rising_by_names" "rising_by_names" C8 f O) (ah:mg "sorted"=am) (k:mg "tuple"=am):FnOk P w K mg base CX0 1 f O ["things"] (spD K 1 BL):=by
 refine hD FU F #[rfl,rfl,rfl,by decide +kernel,rfl,by decide +kernel,by decide +kernel] ?_;walk_at "hi";have b:EO.Nodup:=by decide +kernel
 walk_at "nm";clear b nd;rintro y M v ⟨p,o,rfl,m,nd,n⟩;left;refine BS (AV 0) (by simp[EQ]) ?_;refine CC ?_;left;refine mJ m (by unfold tsD;rw[zX];exact n) λc hp hs=>?_;rw[show(tsD o).map (·.1)=o.map (·.1) by unfold tsD;rw[zD];rfl] at hp;have a:c.length=o.length:=by have:=hp.length_eq;simpa using this
 refine#[_,rfl,by rw[zX,a];exact zP n (by decide),λ_=>ap,fD o,?_,?_]
 . rintro d hd A acc g hA rfl;obtain⟨s,G,rfl⟩:=zL.mp hd;obtain⟨t,i,q⟩:=zL.mp (hp.mem_iff.mp G);have r:AC o s=al t.2:=by rw[<-q];exact F0 nd i
   have B:p≠A:=λe=>by rw[e] at m;rw[hA] at m;cases m
   left;refine#[rfl,?_];walk_at "dl";refine#[rfl,rfl,λ_=>?_];left;refine D9 ?_;left;refine#[p,tsD o,s,pcD t.2.1 t.2.2,rfl,rfl,by rw[yH B];exact m,by rw[BW,r];rfl,?_];refine MU (yD rfl) ?_;refine#[?_,rfl];simp only[fD,r];rfl
 . rw[SZ,iM nd hp hs];left;refine G5 ?_;refine#[M,zT M,λx u e j D=>?_];cases e;have e:=WA (Option.some.inj (m.symm.trans j));subst e;exact#[rfl,rfl]
end
def X1:List Str:=["things","name","more","place","count"]
section
local macro_rules | `(tactic| walk_at "x")=>`(tactic| first | ((with_reducible show PS _ (.Assign [.Tuple ..] ..) _);exact @V8 _ _ _ _ _ _ (by walk_at "e") (by walk_at "g") (by rfl) (by rfl) (by rfl)) | ((with_reducible show PG _ (.Tuple ..) _);exact @f6 _ K _ _ _ _ (2) rfl rfl (by walk_at "j") (by rfl) (by rfl)) | ((with_reducible show PS _ (.Assign [.Subscript ..] ..) _);exact @K5 _ _ _ _ _ _ _ _ _ ef (by walk_at "e") (by walk_at "e") (by walk_at "e") (by rfl)))
local macro_rules | `(tactic| walk_at "y")=>`(tactic| first | ((with_reducible show PE _ (.Subscript ..) _);exact @D6 _ _ _ _ _ _ ef (@pv _ 0 _ _ (by rfl) (by walk_at "lc") (by decide) (by decide)) (@pv _ 1 _ _ (by rfl) (by walk_at "lc") (by decide) (by decide)) (λ_ _=>rfl)))
theorem X2 (F:Fun K "add_count" "add_count" JO f O):FnOk P w K mg base CX0 1 f O ["things","name","more"] (spD K 3 G8):=by
 refine hD X1 F #[rfl,rfl,rfl,by decide +kernel,rfl,by decide +kernel,by decide +kernel] ?_;walk_at "hd";rintro c M i ⟨p,o,x,k,v,rfl,m,t,n⟩;walk_at "dl";try walk_at "unf"
 refine QK ?_;refine D9 ?_;left;refine#[p,tsD o,x,pcD v.1 v.2,rfl,rfl,m,by rw[BW,t];rfl,?_];rw[pcD];left;refine HH ?_;left;refine#[p,tsD o,x,pcD v.1 (v.2+k),rfl,rfl,rfl,m,by unfold tsD;rw[zX];exact zP n (by decide),?_];refine#[_,zT _,λr a b J e j=>?_];cases e;have e:=WA (Option.some.inj (m.symm.trans j));subst e;refine#[rfl,?_];rw[N1];unfold KW;rw[t]
end
def ME:List Str:=["things","deed","made","name"]
section
local macro_rules | `(tactic| walk_at "x")=>`(tactic| first | ((with_reducible show PE _ (.Compare _ [.In] ..) _);exact @k8 _ _ _ _ _ _ (@Q3 _ _ _ _ _ ef (by walk_at "e") (by walk_at "e")) (by with_unfolding_all rfl)))
theorem MF (F:Fun K "refuse_undoable" "refuse_undoable" DK f O) (g:Has P w K mg base "is_deed" 5 ["thing"] O5) (T:Has P w K mg base "made_by" 1 ["deed"] KA) (b:Has P w K mg base "names_in" 2 ["deed"] FN):FnOk P w K mg base CX0 6 f O ["things","deed"] (spD K 2 BM):=by
 refine hD ME F #[rfl,rfl,rfl,by decide +kernel,rfl,by decide +kernel,by decide +kernel] ?_;walk_at "hd";rintro j M c ⟨p,o,D,rfl,m,hr,N⟩;have r:FM D.d:=EF hr;left;refine B8 (t8 hr.1) ?_;rw[t7 hr];left;refine B8 r ?_;left;try walk_at "unf"
 refine ES ?_;refine BG ?_;left;refine B8 (MY D) ?_;rw[J6];left;refine#[λk Y i=>i=M/\∃x:Option DS,Y=[al (.loc p),al (.d D.d),al (.d (GX D.d)),x],#[rfl,_,rfl],?_,?_]
 . rintro k d Y i hd ⟨rfl,x,rfl⟩;obtain⟨n,hn,rfl⟩:=zL.mp (yN hd);have t:B9 n:=hr.1 n hn;left;refine W4 ?_;left;refine#[p,tsD o,n,rfl,rfl,m,?_];left;refine AX (AY t) (fC hr.1) ?_;rw[if_neg nft,t9];refine AX rfl rfl ?_;rw[if_neg nft,iN,BW];have e:(((AC o n).map λv=>pcD v.1 v.2).isSome==decide (D.made=al n))=false:=by
     rw[b4W,HK];have:=EG N n hn;by_cases a:D.made=al n;. rw[decide_eq_true a,decide_eq_false (λq=>(this.mp q) a)];rfl
     . rw[decide_eq_false a,decide_eq_true (this.mpr a)];rfl
   rw[e];left;exact#[rfl,_,rfl]
 . rintro Y i ⟨rfl,x,rfl⟩;exact#[_,zT _,rfl,rfl]
end
def jS:List Str:=["things","deed","word","name"]
section
local macro_rules | `(tactic| walk_at "x")=>`(tactic| first | ((with_reducible show PS _ (.Assign [.Tuple ..] (.Tuple ..) _) _);exact @aO _ _ (2) (3) _ _ _ _ _ _ _ _ _ _ _ rfl nd rfl rfl (by decide) rfl rfl (by walk_at "a") rfl (by rfl)) | ((with_reducible show PS _ (.Assign [.Subscript ..] ..) _);exact @K5 _ _ _ _ _ _ _ _ _ ef (by walk_at "e") (by walk_at "e") (by walk_at "e") (by rfl)) | ((with_reducible show PS _ (.Delete ..) _);exact @qO _ _ _ _ _ _ _ (by walk_at "e") (by walk_at "e")) | ((with_reducible show PE _ (.Call (.Attribute _ (a0Q "pop") _) ..) _);exact @kT _ _ _ _ _ _ _ (by walk_at "e") (by walk_at "e") (@L2.M1.mk _ _ _ _ _ _ rfl rfl rfl rfl)))
local macro_rules | `(tactic| walk_at "y")=>`(tactic| first | ((with_reducible show PE _ (.Subscript ..) _);exact @D6 _ _ _ _ _ _ ef (@pv _ 0 _ _ (by rfl) (by walk_at "lc") (by decide) (by decide)) (@pv _ 3 _ _ (by rfl) (by walk_at "lc") (by decide) (by decide)) (λ_ _=>rfl)) | ((with_reducible show PE _ (.Subscript ..) _);exact @D6 _ _ _ _ _ _ ef (@pv _ 0 _ _ (by rfl) (by walk_at "lc") (by decide) (by decide)) (by walk_at "e") (λ_ _=>rfl)))
theorem jT (F:Fun K "change" "change" SF f O) (I:Has P w K mg base "add_count" 1 ["things","name","more"] G8):FnOk P w K mg base CX0 2 f O ["things","deed"] (spD K 2 N3):=by
 refine hD jS F #[rfl,rfl,rfl,by decide +kernel,rfl,by decide +kernel,by decide +kernel] ?_;walk_at "hd";rintro S M R ⟨p,o,D,rfl,m,⟨nd,z⟩,hr,T⟩;have r:o.length < 64:=c1W z;have i:=EG T;cases D with
 | put x a k=> have hx:x∉o.map (·.1):=λq=>(i x (by simp[Deed.names])).mp q rfl;rw[Deed.d];left;refine#[_,_,rfl,?_];left;refine HH ?_;left;refine#[p,tsD o,x,pcD a k,rfl,rfl,rfl,m,PL r,?_];refine#[_,zT _,λg c b e n=>?_];obtain⟨rfl,rfl,rfl⟩:=HL (D:=Deed.put x a k) m e n;refine#[rfl,?_];rw[N1];rfl
 | take x=> obtain⟨v,t⟩:=BH ((i x (by simp[Deed.names])).mpr (by simp[Deed.made]));rw[Deed.d];left;refine#[_,_,rfl,?_];left;refine f9 ?_;left;refine#[p,tsD o,x,rfl,rfl,m,by rw[BW,t];rfl,?_];refine#[_,zT _,λg c b e n=>?_];obtain⟨rfl,rfl,rfl⟩:=HL (D:=Deed.take x) m e n;refine#[rfl,?_];rw[RE];rfl
 | move x a=>
   obtain⟨v,t⟩:=BH ((i x (by simp[Deed.names])).mpr (by simp[Deed.made]));rw[Deed.d];left;refine#[_,_,rfl,?_];left;refine HH ?_;left;refine D9 ?_;left;refine#[p,tsD o,x,pcD v.1 v.2,rfl,rfl,m,by rw[BW,t];rfl,?_];left;try refine AE (ds:=[.int v.1,.int v.2]) (d:=.int v.2) (AK (j:=1) rfl) ?_
   left;refine#[p,tsD o,x,pcD a v.2,rfl,rfl,rfl,m,PL r,?_];refine#[_,zT _,λg c b e n=>?_];obtain⟨rfl,rfl,rfl⟩:=HL (D:=Deed.move x a) m e n;refine#[rfl,?_];rw[N1];simp only[doT,t]
 | count x k=> obtain⟨v,t⟩:=BH ((i x (by simp[Deed.names])).mpr (by simp[Deed.made]));rw[Deed.d];left;refine#[_,_,rfl,?_];left;refine RF m t r ?_;left;refine#[_,zT _,λg c b e n=>?_];obtain⟨rfl,rfl,rfl⟩:=HL (D:=Deed.count x k) m e n;refine#[rfl,?_];rfl
 | name x y=> obtain⟨v,t⟩:=BH ((i x (by simp[Deed.names])).mpr (by simp[Deed.made,hr.2.1.symm]));rw[Deed.d];left;refine#[_,_,rfl,?_];left;refine HH ?_;refine sP ?_;left;refine#[p,tsD o,rfl,m,?_];left;refine#[tsD o,x,pcD v.1 v.2,rfl,m,by rw[BW,t];rfl,?_];rw[RE];left;refine#[p,tsD (J7 o x),y,pcD v.1 v.2,rfl,rfl,rfl,zU,PL (zQ (yJ _ _) r),?_];rw[yI];refine#[_,zT _,λg c b e n=>?_];obtain⟨rfl,rfl,rfl⟩:=HL (D:=Deed.name x y) m e n;refine#[rfl,?_];rw[N1];simp only[doT,t]
 | split x y a k=> obtain⟨v,t⟩:=BH ((i x (by simp[Deed.names])).mpr (by simp[Deed.made,hr.2.1.symm]));rw[Deed.d];left;refine#[_,_,rfl,?_];left;refine RF m t r ?_;left;refine HH ?_;left;refine#[p,tsD (KW o x (-k)),y,pcD a k,rfl,rfl,rfl,zU,PL (by rw[n5];exact r),?_];rw[yI];refine#[_,zT _,λg c b e n=>?_];obtain⟨rfl,rfl,rfl⟩:=HL (D:=Deed.split x y a k) m e n;refine#[rfl,?_];rw[N1];rfl
 | join x y=>
   obtain⟨v,t⟩:=BH ((i x (by simp[Deed.names])).mpr (by simp[Deed.made]));obtain⟨u,N⟩:=BH ((i y (by simp[Deed.names])).mpr (by simp[Deed.made]));rw[Deed.d];left;refine#[_,_,rfl,?_];left;refine D9 ?_;left;refine#[p,tsD o,y,pcD u.1 u.2,rfl,rfl,m,by rw[BW,N];rfl,?_];left;try refine AE (ds:=[.int u.1,.int u.2]) (d:=.int u.2) (AK (j:=1) rfl) ?_
   left;refine RF m t r ?_;left;refine f9 ?_;left;refine#[p,tsD (KW o x u.2),y,rfl,rfl,zU,by rw[BW,b4W,HK,E5,<-HK,N];rfl,?_];rw[yI];refine#[_,zT _,λg c b e n=>?_];obtain⟨rfl,rfl,rfl⟩:=HL (D:=Deed.join x y) m e n;refine#[rfl,?_];rw[RE];simp only[doT,N]
end
def uW:List Str:=["world","deed","things"]
theorem uX (F:Fun K "done" "done" dI f O) (a:Has P w K mg base "by_names" 1 ["world"] E4) (i:Has P w K mg base "change" 2 ["things","deed"] N3) (n:Has P w K mg base "refuse_undoable" 6 ["things","deed"] BM) (m:Has P w K mg base "rising_by_names" 1 ["things"] BL):FnOk P w K mg base CX0 7 f O ["world","deed"] (spD K 2 W8):=by refine hD uW F #[rfl,rfl,rfl,by decide +kernel,rfl,by decide +kernel,by decide +kernel] ?_;walk_at "hd";rintro b M o ⟨w,D,rfl,hg⟩;obtain⟨Z,B⟩:=c6 hg;obtain⟨hc,hr,N⟩:=hg;left;refine GM hc λp hp=>?_;left;refine OY zU hr N ?_;left;refine YX zU hc hr N ?_;rw[yI];left;refine OX zU Z B ?_;refine#[M,(zT M).put hp,λr t e=>?_];obtain⟨rfl,rfl⟩:=J8 e;exact#[rfl,rfl]
def X3:List Str:=["world","deed","things","word","name"]
section
local macro_rules | `(tactic| walk_at "x")=>`(tactic| first | ((with_reducible show PS _ (.Assign [.Tuple ..] (.Tuple ..) _) _);exact @aO _ _ (3) (4) _ _ _ _ _ _ _ _ _ _ _ rfl nd rfl rfl (by decide) rfl rfl (by walk_at "a") rfl (by rfl)))
local macro_rules | `(tactic| walk_at "y")=>`(tactic| first | ((with_reducible show PE _ (.Subscript ..) _);exact @D6 _ _ _ _ _ _ ef (@pv _ 2 _ _ (by rfl) (by walk_at "lc") (by decide) (by decide)) (@pv _ 4 _ _ (by rfl) (by walk_at "lc") (by decide) (by decide)) (λ_ _=>rfl)) | ((with_reducible show PE _ (.Subscript ..) _);exact @D6 _ _ _ _ _ _ ef (@pv _ 2 _ _ (by rfl) (by walk_at "lc") (by decide) (by decide)) (by walk_at "e") (λ_ _=>rfl)))
theorem X4 (F:Fun K "back_deed" "back_deed" JP f O) (b:Has P w K mg base "by_names" 1 ["world"] E4) (m:Has P w K mg base "refuse_undoable" 6 ["things","deed"] BM):FnOk P w K mg base CX0 7 f O ["world","deed"] (spD K 2 G9):=by
 refine hD X3 F #[rfl,rfl,rfl,by decide +kernel,rfl,by decide +kernel,by decide +kernel] ?_;walk_at "hd";rintro g M c ⟨w,D,rfl,hg⟩;obtain⟨hc,hr,N⟩:=hg;have i:=EG N;left;refine GM hc λp hp=>?_;left;refine OY zU hr N ?_;cases D with
 | put x o k=> rw[Deed.d];left;refine#[_,_,rfl,?_];left;refine#[M,(zT M).put hp,λn t e=>?_];obtain⟨rfl,rfl⟩:=J8 (D:=Deed.put x o k) e;exact#[rfl,rfl]
 | take x=> obtain⟨v,a⟩:=BH ((i x (by simp[Deed.names])).mpr (by simp[Deed.made]));rw[Deed.d];left;refine#[_,_,rfl,?_];left;refine D9 ?_;left;refine#[p,tsD w,x,pcD v.1 v.2,rfl,rfl,zU,by rw[BW,a];rfl,?_];refine MU (yD rfl) ?_;refine#[M,(zT M).put hp,λn t e=>?_];obtain⟨rfl,rfl⟩:=J8 (D:=Deed.take x) e;exact#[by simp only[BK,a];rfl,rfl]
 | move x o=>
   obtain⟨v,a⟩:=BH ((i x (by simp[Deed.names])).mpr (by simp[Deed.made]));rw[Deed.d];left;refine#[_,_,rfl,?_];left;refine D9 ?_;left;refine#[p,tsD w,x,pcD v.1 v.2,rfl,rfl,zU,by rw[BW,a];rfl,?_];left;try refine AE (ds:=[.int v.1,.int v.2]) (d:=.int v.1) (AK (j:=0) rfl) ?_
   left;refine#[M,(zT M).put hp,λn t e=>?_];obtain⟨rfl,rfl⟩:=J8 (D:=Deed.move x o) e;exact#[by simp only[BK,a];rfl,rfl]
 | count x k=> rw[Deed.d];left;refine#[_,_,rfl,?_];left;refine#[M,(zT M).put hp,λn t e=>?_];obtain⟨rfl,rfl⟩:=J8 (D:=Deed.count x k) e;exact#[rfl,rfl]
 | name x y=> rw[Deed.d];left;refine#[_,_,rfl,?_];left;refine#[M,(zT M).put hp,λn t e=>?_];obtain⟨rfl,rfl⟩:=J8 (D:=Deed.name x y) e;exact#[rfl,rfl]
 | split x y o k=> rw[Deed.d];left;refine#[_,_,rfl,?_];left;refine#[M,(zT M).put hp,λn t e=>?_];obtain⟨rfl,rfl⟩:=J8 (D:=Deed.split x y o k) e;exact#[rfl,rfl]
 | join x y=> obtain⟨u,r⟩:=BH ((i y (by simp[Deed.names])).mpr (by simp[Deed.made]));rw[Deed.d];left;refine#[_,_,rfl,?_];left;refine D9 ?_;left;refine#[p,tsD w,y,pcD u.1 u.2,rfl,rfl,zU,by rw[BW,r];rfl,?_];refine MU (yD rfl) ?_;refine#[M,(zT M).put hp,λn t e=>?_];obtain⟨rfl,rfl⟩:=J8 (D:=Deed.join x y) e;exact#[by simp only[BK,r];rfl,rfl]
end
def jU:List Str:=["world","row","here","back","number","deed"]
section
local macro_rules | `(tactic| walk_at "x")=>`(tactic| first | ((with_reducible show PI _ _ (.Call (.Name (a0Q "enumerate") _) ..) _);exact @A0q _ K _ _ _ _ _ _ _ rfl rfl ay (by walk_at "a") (by rfl)) | ((with_reducible show PG _ (.Tuple ..) _);exact @h8 _ K _ _ _ _ (2) rfl rfl (by walk_at "j") (by rfl) (by rfl)) | ((with_reducible show PS _ (.Try ..) _);exact @A2E _ _ _ _ _ _ (λ_ _ h=>h) (by walk_at "q")))
theorem jV (F:Fun K "walked" "walked" SG f O) (ay:mg "enumerate"=am) (q:Has P w K mg base "back_deed" 7 ["world","deed"] G9) (c:Has P w K mg base "by_names" 1 ["world"] E4) (y:Has P w K mg base "done" 7 ["world","deed"] W8) (r:Has P w K mg base "rising_by_names" 1 ["things"] BL):FnOk P w K mg base CX0 8 f O ["world","row"] (spD K 2 N7):=by
 refine hD jU F #[rfl,rfl,rfl,by decide +kernel,rfl,by decide +kernel,by decide +kernel] ?_;walk_at "hd";rintro N M u ⟨w,b,rfl,v⟩;have R:=v.fine;have m:=v.few;unfold WJ;left;refine GM #[R.1.nodup,by lia] λp hp=>?_;left;refine OX zU R.1.nodup (by lia) ?_;rw[iJ R.1];left;refine EY ?_;left;intro A hA;have B:p≠A:=by rintro rfl;rw[zU] at hA;cases hA
 walk_at "wks";try walk_at "unf"
 refine ET (λt M1=>M1=(M.put p (tsO w)).put A (.l (bkL w b b.length))/\∃(S x:Option DS),t=[al (.d (wD w)),al (.d (.tuple (b.map Deed.d))),al (.d (wD (wsF w b b.length))),al (.loc A),S,x]) ?_ ?_
 . try walk_at "unf"
   refine ES ?_;refine nR ?_;left;have hle:(FP (b.map Deed.d)).length=b.length:=by unfold FP;rw[zX,b9K,zX]
   refine#[λk t M1=>k<=b.length/\M1=(M.put p (tsO w)).put A (.l (bkL w b k))/\∃(S x:Option DS),t=[al (.d (wD w)),al (.d (.tuple (b.map Deed.d))),al (.d (wD (wsF w b k))),al (.loc A),S,x],#[xT _,rfl,_,_,rfl],?_,?_]
   . rintro k d t M1 hd ⟨hk,rfl,S,x,rfl⟩;have o:k < b.length:=by rw[<-hle];exact(yT.mp hd).1
     have hD:b[k]?=al b[k]:=zV o;obtain rfl:d = .tuple [.int (k:Nat),(b[k]).d]:=by unfold FP at hd;rw[zF,List.getElem?_zipIdx,zF,hD] at hd;simpa using hd.symm
     obtain⟨g,j,n⟩:=WC v.book R m hk;have hg:=n _ hD;left;refine G2 ?_;walk_at "dl";refine#[CG zU,?_];left;refine iL hg ?_;left;refine BP zU (by rw[tG];exact zP (show k < 60 by lia) (by decide)) ?_;left;refine iK hg ?_;refine#[by lia,?_,al (.d (.int (k:Nat))),al (.d (b[k]).d),?_];. rw[yI,nC];congr 3;simp only[bkF,hD]
     . rw[tF hD];rfl
   . rintro t M1 ⟨hk,h⟩;rw[hle] at h;exact h
 . rintro t M1 ⟨rfl,S,x,rfl⟩;try walk_at "unf"
   refine K7 (i:=3) (a:=A) rfl zU ?_;rw[yG hA];left;refine#[M,(zT M).put hp,λT z e=>?_];obtain⟨rfl,rfl⟩:=tS e;refine#[?_,rfl];rw[show wsF w b b.length=O9 w b by unfold wsF;rw[a1V]]
end
def P3:List Str:=["book"]
def LA:List Str:=["hand","deed"]
def LB:List (Option Nat):=[am,am]
section
local macro_rules | `(tactic| walk_at "cs")=>`(tactic| first | exact @CS _ _ LA LB (AB HQ) P3 (by decide +kernel) (by decide +kernel) rfl rfl)
local macro_rules | `(tactic| walk_at "x")=>`(tactic| first | ((with_reducible show PG _ (.Tuple ..) _);exact @h8 _ K _ _ _ _ (2) rfl rfl (by walk_at "j") (by rfl) (by rfl)))
theorem aF (F:Fun K "deeds_of" "deeds_of" HQ f O) (n:mg "tuple"=am):FnOk P w K mg base CX0 1 f O ["book"] (spD K 1 FG):=by
 refine hD P3 F #[rfl,rfl,rfl,by decide +kernel,rfl,by decide +kernel,by decide +kernel] ?_;walk_at "hi";have t:LA.Nodup:=by decide +kernel
 walk_at "nm";clear t nd;rintro r M m ⟨w,p,rfl,hg⟩;left;refine AI (QA (D8 (D8 Q9))) (by simp[LB]) ?_;refine BG ?_;left;try refine AE (ds:=[wD w,AQ p]) (d:=AQ p) rfl ?_
 left;refine#[by rw[zX];exact zQ hg (by decide),λ_=>ap,λd=>match d with | .tuple [_,b]=>b | d=>d,?_,?_];. intro d hd i;obtain⟨l,m,rfl⟩:=zL.mp hd;rw[show CO l = .tuple [.str l.1,l.2.d] from rfl];left;refine#[rfl,?_];walk_at "dl";refine#[rfl,rfl,λ_=>?_];left;exact#[rfl,rfl]
 . left;refine G5 ?_;refine#[M,zT M,λo a e=>?_];simp only[List.cons.injEq,DS.d.injEq,and_true] at e;have e:=E6 e;subst e;refine#[?_,rfl];rw[SZ,zD,zD];rfl
end
def OL:List Str:=["book","made"]
def P4:List Str:=["deed"]
def P5:List (Option Nat):=[am]
def P6:List Str:=["number","name"]
def P7:List (Option Nat):=[am,am]
section
local macro_rules | `(tactic| walk_at "cs")=>`(tactic| first | exact @CS _ _ P4 P5 (AB JQ) OL (by decide +kernel) (by decide +kernel) rfl rfl | exact @CS _ _ P6 P7 (AB JQ) OL (by decide +kernel) (by decide +kernel) rfl rfl)
local macro_rules | `(tactic| walk_at "x")=>`(tactic| first | ((with_reducible show PI _ _ (.Call (.Name (a0Q "enumerate") _) ..) _);exact @A2B _ K _ _ _ _ _ _ _ rfl rfl ay (by walk_at "a") (by rfl)) | ((with_reducible show PG _ (.Tuple ..) _);exact @h8 _ K _ _ _ _ (2) rfl rfl (by walk_at "j") (by rfl) (by rfl)))
theorem jW (F:Fun K "makers" "makers" JQ f O) (ay:mg "enumerate"=am) (o:Has P w K mg base "deeds_of" 1 ["book"] FG) (T:Has P w K mg base "made_by" 1 ["deed"] KA):FnOk P w K mg base CX0 2 f O ["book"] (spD K 1 N6):=by
 refine hD OL F #[rfl,rfl,rfl,by decide +kernel,rfl,by decide +kernel,by decide +kernel] ?_;walk_at "hi";have m:P4.Nodup:=by decide +kernel
 have Z:P6.Nodup:=by decide +kernel
 walk_at "nm";clear m Z nd;rintro k M g ⟨w,t,rfl,hg⟩;have n:∀D∈dsL t,D.real:=λD hD=>by obtain⟨l,h1,rfl⟩:=zL.mp hD;exact hg.real l h1
 have hsz:t.length < sizeLine:=zQ hg.few (by decide);left;refine AI (AV 0) (by simp[P5]) ?_;refine BG ?_;left;refine F5 hg.few ?_;refine#[_,rfl,by rw[zX,zX];exact hsz,λ_=>ap,GX,?_,?_];. intro d hd i;obtain⟨D,hD,rfl⟩:=zL.mp hd;walk_at "dl";refine#[rfl,?_];walk_at "dl";refine#[rfl,rfl,λ_=>?_];left;refine B8 (EF (n D hD)) ?_;exact#[rfl,rfl]
 . rw[SZ,zD];left;refine YQ (QA (D8 (D8 Q9))) (by simp[P7]) ?_;refine tM ?_;left;have c:(((FP ((dsL t).map (GX∘Deed.d))).filter cEn).map λd=>(fEn d,wEn d))=mkL (dsL t) 0:=fJ (dsL t) 0;refine#[by unfold FP;rw[zX,b9K,zX,zX];exact hsz,cEn,fEn,wEn,?_,?_,λp hp=>?_];. have:=UN (dsL t) 0 hg.fresh.one;rw[<-c,zD] at this;exact this
   . intro d hd i;obtain⟨q,hq,rfl⟩:=zL.mp hd;obtain⟨D,hD,u⟩:∃D∈dsL t,GX D.d=q.1:=by obtain⟨D,a,b⟩:=zL.mp (List.fst_mem_of_mem_zipIdx hq);exact#[D,a,b]
     rw[<-u];rcases (show GX D.d = .none\/∃x,GX D.d = .str x by rw[PK];cases D.made with | none=>exact .inl rfl | some x=>exact .inr ⟨x,rfl⟩) with e | ⟨x,e⟩ <;> rw[e];. left;refine#[rfl,?_];left;refine QT ?_;exact#[_,rfl,rfl,rfl,λh=>absurd h nft]
     . left;refine#[rfl,?_];left;refine QT ?_;refine#[_,rfl,rfl,rfl,λ_=>?_];left;refine#[rfl,rfl,?_];left;exact#[rfl,rfl]
   . rw[c];refine#[_,zT _,λj r e=>?_];simp only[List.cons.injEq,DS.d.injEq,and_true] at e;have e:=E6 e;subst e;exact#[p,hp,rfl,rfl]
end
def X5:List Str:=["book","thing"]
theorem X6 (F:Fun K "is_number" "is_number" JR f O) (t:mg "len"=am) (i:Has P w K mg base "is_within" 2 ["thing","low","high"] EE):FnOk P w K mg base CX0 3 f O ["book","thing"] (spD K 2 EJ):=by
 refine hD X5 F #[rfl,rfl,rfl,by decide +kernel,rfl,by decide +kernel,by decide +kernel] ?_;walk_at "hd";rintro o M m ⟨w,p,d,rfl⟩;left;try refine AE (ds:=[wD w,AQ p]) (d:=AQ p) rfl ?_
 left;refine G4 ?_;left;refine OR ?_;refine#[M,zT M,λa n J e=>?_];simp only[List.cons.injEq,DS.d.injEq,and_true] at e;obtain⟨c,rfl⟩:=e;have c:=E6 c;subst c;rw[zX];exact#[rfl,rfl]
def aG:List Str:=["book","number","made"]
def SO:List Str:=["name","made"]
def SQ:List (Option Nat):=[am,al 2]
section
local macro_rules | `(tactic| walk_at "cs")=>`(tactic| first | exact @CS _ _ SO SQ (AB PU) aG (by decide +kernel) (by decide +kernel) rfl rfl)
local macro_rules | `(tactic| walk_at "x")=>`(tactic| first | ((with_reducible show PT _ (.Compare _ [.In] ..) _);exact @V5 _ _ _ _ _ _ (@Q3 _ _ _ _ _ ef (by walk_at "e") (by walk_at "e")) (by with_unfolding_all rfl)))
local macro_rules | `(tactic| walk_at "y")=>`(tactic| first | ((with_reducible show PE _ (.Call (.Name (a0Q "sorted") _) ..) _);exact @D5 _ _ _ _ _ _ _ _ _ (@cF _ K rfl rfl) (by rfl) ah b1K (by walk_at "a") (by decide) (by decide) (by rfl) (by rfl)) | ((with_reducible show PE _ (.Subscript ..) _);exact @D6 _ _ _ _ _ _ ef (@pv _ 1 _ _ (by rfl) (by walk_at "lc") (by decide) (by decide)) (@pv _ 0 _ _ (by rfl) (by walk_at "lc") (by decide) (by decide)) (λ_ _=>rfl)))
theorem pM (F:Fun K "needs" "needs" PU f O) (ah:mg "sorted"=am) (j:mg "tuple"=am) (q:Has P w K mg base "is_number" 3 ["book","thing"] EJ) (z:Has P w K mg base "makers" 2 ["book"] N6) (x:Has P w K mg base "must_stand" 3 ["deed"] N0):FnOk P w K mg base CX0 4 f O ["book","number"] (spD K 2 PP):=by
 refine hD aG F #[rfl,rfl,rfl,by decide +kernel,rfl,by decide +kernel,by decide +kernel] ?_;walk_at "hi";have m:SO.Nodup:=by decide +kernel
 walk_at "nm";clear m nd;rintro S M y ⟨w,t,k,rfl,hg,hk⟩;obtain⟨l,T,b,N,r⟩:=GF hk;have hr:=hg.real l b;left;refine RO ?_;rw[nP hk];left;refine Z8 hg λp hp=>?_;left;refine BS (AV 0) (by simp[SQ]) ?_;refine BG ?_;left;try refine AE (ds:=[wD w,AQ t]) (d:=AQ t) rfl ?_
 left;refine AE (ds:=t.map CO) (AK N) ?_;left;try refine AE (ds:=[.str l.1,l.2.d]) (d:=l.2.d) rfl ?_
 left;refine B8 (EF hr) ?_;rw[tN];have a:(l.2.must).length<=2:=zN (yJ _ _) (by cases l.2 <;> simp[Deed.names]);refine#[_,rfl,by rw[zX];exact zQ a (by decide),cMk (dsL t),fMk (dsL t),?_,?_]
 . rintro d hd A acc g hA rfl;obtain⟨n,hn,rfl⟩:=zL.mp hd;have B:p≠A:=by rintro rfl;rw[zU] at hA;cases hA
   walk_at "dl";refine#[rfl,?_];left;refine W4 ?_;left;refine#[p,mkL (dsL t) 0,n,rfl,rfl,by rw[yH B];exact zU,?_];refine#[_,rfl,rfl,rfl,λhc=>?_];obtain⟨v,i⟩:=xY.mp (show(AO (mkL (dsL t) 0) n).isSome=ap from hc);refine D9 ?_;left;refine#[p,mkL (dsL t) 0,n,v,rfl,rfl,by rw[yH B];exact zU,i,?_,rfl];show DS.d v = .d ((AO (mkL (dsL t) 0) n).getD .none);rw[i];rfl
 . rw[j3 hg.fresh];left;refine Z6 (by rw[zX];exact zQ (zN (yJ _ _) a) (by decide)) λI hp2 hs=>?_;left;refine G5 ?_;refine#[M,(zT M).put hp,λR u J e=>?_];simp only[List.cons.injEq,DS.d.injEq,PyData.int.injEq,and_true] at e;obtain⟨c,o⟩:=e;have c:=E6 c;have o:k=J:=by lia
   subst c o;rw[nN hg.fresh r (cL hr) rfl hp2 hs];exact#[rfl,rfl]
end
def SR:List Str:=["book","numbers"]
def NL:List Str:=["number","book"]
def NM:List (Option Nat):=[am,al 0]
section
local macro_rules | `(tactic| walk_at "cs")=>`(tactic| first | exact @CS _ _ NL NM (AB KS) SR (by decide +kernel) (by decide +kernel) rfl rfl)
theorem dQ (F:Fun K "book_of" "book_of" KS f O) (b:mg "tuple"=am):FnOk P w K mg base CX0 1 f O ["book","numbers"] (spD K 2 GH):=by
 refine hD SR F #[rfl,rfl,rfl,by decide +kernel,rfl,by decide +kernel,by decide +kernel] ?_;walk_at "hi";have m:NL.Nodup:=by decide +kernel
 walk_at "nm";clear m nd;rintro x M j ⟨w,p,y,rfl,D,v⟩;left;try refine AE (ds:=[wD w,AQ p]) (d:=wD w) rfl ?_
 left;refine AI (AV 0) (by simp[NM]) ?_;refine BG ?_;left;refine#[by rw[AJ];exact zQ v (by decide),λ_=>ap,fLn p,?_,?_]
 . intro d hd r;obtain⟨i,hi,rfl⟩:=zL.mp hd;obtain⟨k,hk,rfl⟩:=CF.mp hi;obtain⟨l,q,u,N,J⟩:=GF (D k hk);walk_at "dl";refine#[rfl,?_];walk_at "dl";refine#[rfl,rfl,λ_=>?_];left;try refine AE (ds:=[wD w,AQ p]) (d:=AQ p) rfl ?_
   left;refine AE (ds:=p.map CO) (AK N) ?_;refine#[?_,rfl];show _=DS.d ((p.map CO).getD ((k:Int)).toNat .none);rw[a3K,yU,N];rfl
 rw[SZ,RT D];left;refine G5 ?_;left;refine#[M,zT M,λa g o e=>?_];simp only[List.cons.injEq,DS.d.injEq,PyData.tuple.injEq,and_true] at e;obtain⟨c,t⟩:=e;obtain⟨n,X⟩:=j8 c;have t:=JE t;subst X t;refine#[?_,rfl];show DS.d (.tuple [wD w,_])=DS.d (.tuple [wD a,_]);rw[n]
end
def JX:List Str:=["book","thing"]
def LC:List Str:=["part","book"]
def LF:List (Option Nat):=[am,al 0]
def LG:List Str:=["number","need","thing","book"]
def GN:List (Option Nat):=[am,am,al 1,al 0]
section
local macro_rules | `(tactic| walk_at "cs")=>`(tactic| first | exact @CS _ _ LC LF (AB FT) JX (by decide +kernel) (by decide +kernel) rfl rfl | exact @CS _ _ LG GN (AB FT) JX (by decide +kernel) (by decide +kernel) rfl rfl)
local macro_rules | `(tactic| walk_at "x")=>`(tactic| first | ((with_reducible show PE _ (.Compare _ [.In] ..) _);exact @C6 _ _ _ _ _ _ _ _ (@cH _ K rfl hu) (by walk_at "e") (by walk_at "e") (by with_unfolding_all rfl)))
theorem aH (F:Fun K "is_stand" "is_stand" FT f O) (u:mg "all"=am) (q:mg "isinstance"=am) (g:mg "tuple"=am) (v:Has P w K mg base "is_number" 3 ["book","thing"] EJ) (z:Has P w K mg base "needs" 4 ["book","number"] PP) (y:Has P w K mg base "rises" 1 ["things"] KJ):FnOk P w K mg base CX0 5 f O ["book","thing"] (spD K 2 F6):=by
 refine hD JX F #[rfl,rfl,rfl,by decide +kernel,rfl,by decide +kernel,by decide +kernel] ?_;walk_at "hi";have b:LC.Nodup:=by decide +kernel
 have Z:LG.Nodup:=by decide +kernel
 walk_at "nm";clear b Z nd;rintro T M x ⟨w,p,r,rfl,hg,hs⟩;have a:=hg.few;have m:=hs.len;rw[show bxS w p r=[.d (AM w p),.d (.tuple (AA r))] from rfl];left;refine AI (AV 0) (by simp[LF]) ?_;refine BG ?_;left;refine#[by rw[AJ];exact zQ (zN m a) (by decide),λ_=>ap,λ_=>.bool ap,?_,?_];. intro d hd t;obtain⟨i,hi,rfl⟩:=zL.mp hd;obtain⟨k,hk,rfl⟩:=CF.mp hi;walk_at "dl";refine#[rfl,?_];walk_at "dl";refine#[rfl,rfl,λ_=>?_];left;refine RO ?_;rw[nP (hs.lt k hk)];exact#[rfl,rfl]
 rw[SZ,OF];left;refine HE ?_;rw[RQ];left;refine WR hs.inc (by lia) ?_;left;refine oK (AV 0) (by simp[GN]) (AV 1) (by simp[GN]) ?_;refine BG ?_;left;refine#[ndF p,λ_ _=>.bool ap,?_,?_,?_];. refine zQ (ZM (n:=50) λd hd=>?_) (zQ (Nat.mul_le_mul_right 50 (show(AA r).length<=50 by rw[AJ];lia)) (by decide));obtain⟨i,hi,rfl⟩:=zL.mp hd;obtain⟨k,hk,rfl⟩:=CF.mp hi;rw[zX];show(AA (BI (dsL p) k)).length<=50;rw[AJ];unfold BI;have:=hs.lt k hk;exact zN (yJ _ _) (by rw[xZ];lia)
 . intro d hd t;obtain⟨i,hi,rfl⟩:=zL.mp hd;obtain⟨k,hk,rfl⟩:=CF.mp hi;walk_at "dl";refine#[rfl,?_];refine BG ?_;left;refine cK hg (hs.lt k hk) ?_;refine#[_,rfl,rfl,rfl,λe he c=>?_];obtain⟨i,hi,rfl⟩:=zL.mp he;obtain⟨j,o,rfl⟩:=CF.mp hi;walk_at "dl";refine#[rfl,?_];left;refine KF (ds:=AA r) rfl (CH _) ?_;rw[if_neg nft,CQ,decide_eq_true (hs.needs k hk j o)];exact#[rfl,rfl]
 rw[S5];left;refine HE ?_;rw[RQ];exact#[_,zT _,rfl,rfl]
end
def MG:List Str:=["book","thing"]
theorem MH (F:Fun K "refuse_no_stand" "refuse_no_stand" DN f O) (e:Has P w K mg base "is_stand" 5 ["book","thing"] F6):FnOk P w K mg base CX0 6 f O ["book","thing"] (spD K 2 FS):=by refine hD MG F #[rfl,rfl,rfl,by decide +kernel,rfl,by decide +kernel,by decide +kernel] ?_;walk_at "hd";rintro t M m ⟨w,p,r,rfl,hg,hs⟩;left;refine WS hg hs ?_;left;exact#[M,zT M,rfl,rfl]
def jX:List Str:=["deed","name"]
section
local macro_rules | `(tactic| walk_at "x")=>`(tactic| first | ((with_reducible show PT _ (.Compare _ [.In] ..) _);exact @BJ _ _ _ _ _ _ _ _ (@kIn _ K rfl) (by walk_at "e") (by walk_at "e") (by with_unfolding_all rfl)) | ((with_reducible show PE _ (.Name ..) _);exact @sF _ _ _ _ rfl dm.1 (by decide)))
theorem jY (F:Fun K "use_of" "use_of" SH f O) (dm:mg "ADDING"=al (.ref L)/\A0a K L ["count","split","join"]):FnOk P w K mg base CX0 1 f O ["deed","name"] (spD K 2 YS):=by
 refine hD jX F #[rfl,rfl,rfl,by decide +kernel,rfl,by decide +kernel,by decide +kernel] ?_;walk_at "hd";rintro t M m ⟨a,b,rfl,⟨D,rfl,hD⟩,n,rfl,hn⟩;rw[D.d_eq];left;refine AX D.word_ok (by decide +kernel) ?_;rw[if_neg nft,B7];cases j:(D.word==a0Q "move") with
 | true=> left;refine#[M,zT M,λa b e=>?_];cases e;exact#[by simp only[BN,CJ,j];rfl,rfl]
 | false=>
   left;refine sG dm.2 ?_;refine PF ?_;rw[A2m];cases G:(D.word==a0Q "count" || D.word==a0Q "split" || D.word==a0Q "join") with
   | false=> left;refine#[M,zT M,λa b e=>?_];cases e;exact#[by simp only[BN,CJ,j,G];rfl,rfl]
   | true=>
     left;refine AX (AY (Deed.fst_ok hD)) (AY hn) ?_;rw[if_neg nft,B7];cases B:(D.fst==n) with
     | true=> left;refine#[M,zT M,λa b e=>?_];cases e;exact#[by simp only[BN,CJ,j,G,B];rfl,rfl]
     | false=> left;refine#[M,zT M,λa b e=>?_];cases e;exact#[by simp only[BN,CJ,j,G,B];rfl,rfl]
end
def X7:List Str:=["one","other","name","uses"]
section
local macro_rules | `(tactic| walk_at "x")=>`(tactic| first | ((with_reducible show PE _ (.Compare _ [.In] ..) _);exact @C6 _ _ _ _ _ _ _ _ (@kIn _ K rfl) (by walk_at "e") (by walk_at "e") (by with_unfolding_all rfl)) | ((with_reducible show PE _ (.Compare _ [.NotIn] ..) _);exact @C6 _ _ _ _ _ _ _ _ (@A0V _ K rfl) (by walk_at "e") (by walk_at "e") (by with_unfolding_all rfl)))
theorem X8 (F:Fun K "may_share" "may_share" JS f O) (q:Has P w K mg base "use_of" 1 ["deed","name"] YS):FnOk P w K mg base CX0 2 f O ["one","other","name"] (spD K 3 OU):=by
 refine hD X7 F #[rfl,rfl,rfl,by decide +kernel,rfl,by decide +kernel,by decide +kernel] ?_;walk_at "hd";rintro t M m ⟨a,b,c,rfl,N,hb,n,rfl,hn⟩;left;refine MX #[N,n,rfl,hn] ?_;left;refine MX #[hb,n,rfl,hn] ?_;left;refine PF (ys:=[RA (BN a n),RA (BN b n)]) ?_;have key:=A0i _ _ (FE a n) (FE b n);cases h1:decide (a0Q "add" ∈ [RA (BN a n),RA (BN b n)]) with
 | false=> rw[h1,Bool.false_and] at key;left;refine#[M,zT M,λa b c e=>?_];cases e;exact#[by simp only[CJ];rw[<-key],rfl]
 | true=> rw[h1,Bool.true_and] at key;left;refine lZ (ys:=[RA (BN a n),RA (BN b n)]) ?_;refine#[M,zT M,λa b c e=>?_];cases e;exact#[by simp only[CJ];rw[<-key],rfl]
end
def aI:List Str:=["one","other"]
def SS:List Str:=["name","other","one"]
def SU:List (Option Nat):=[am,al 1,al 0]
section
local macro_rules | `(tactic| walk_at "cs")=>`(tactic| first | exact @CS _ _ SS SU (AB PV) aI (by decide +kernel) (by decide +kernel) rfl rfl)
local macro_rules | `(tactic| walk_at "x")=>`(tactic| first | ((with_reducible show PE _ (.Compare _ [.In] ..) _);exact @C6 _ _ _ _ _ _ _ _ (@kIn _ K rfl) (by walk_at "e") (by walk_at "e") (by with_unfolding_all rfl)))
theorem pN (F:Fun K "touch" "touch" PV f O) (k:mg "any"=am) (u:Has P w K mg base "may_share" 2 ["one","other","name"] OU) (p:Has P w K mg base "names_in" 2 ["deed"] FN):FnOk P w K mg base CX0 3 f O ["one","other"] (spD K 2 fA):=by
 refine hD aI F #[rfl,rfl,rfl,by decide +kernel,rfl,by decide +kernel,by decide +kernel] ?_;walk_at "hi";have i:SS.Nodup:=by decide +kernel
 walk_at "nm";clear i nd;rintro q M g ⟨a,b,rfl,⟨D,rfl,hD⟩,⟨t,rfl,hE⟩⟩;have o:FM D.d:=#[D,rfl,hD]
 have x:FM t.d:=#[t,rfl,hE]
 have m:(D.names.map a0W).length < sizeLine:=by rw[zX];exact zQ (show D.names.length<=2 by cases D <;> simp[Deed.names]) (by decide)
 left;refine AI (AV 0) (by simp[SU]) ?_;refine BG ?_;left;refine B8 (MY D) ?_;rw[J6];refine#[_,rfl,m,λ_=>ap,λd=>.bool (decide (CJ d∈t.names)&&!HY (BN D.d (CJ d)) (BN t.d (CJ d))),?_,?_]
 . intro d hd r;obtain⟨n,hn,rfl⟩:=zL.mp hd;walk_at "dl";refine#[rfl,?_];walk_at "dl";refine#[rfl,rfl,λ_=>?_];left;refine B8 (MY t) ?_;rw[J6];refine PF ?_;cases j:decide (n∈t.names) with
   | false=> left;exact#[by show DS.d (.bool bj) = .d (.bool (decide (n∈t.names)&&!HY (BN D.d n) (BN t.d n)));rw[j];rfl,rfl]
   | true=> left;refine mQ #[o,x,n,rfl,hD n hn] ?_;left;exact#[by show DS.d (.bool (!HY (BN D.d n) (BN t.d n))) = .d (.bool (decide (n∈t.names)&&!HY (BN D.d n) (BN t.d n)));rw[j];rfl,rfl]
 . have c:((D.names.map a0W).filter λ_=>ap).map (λd=>c0W (decide (CJ d∈t.names)&&!HY (BN D.d (CJ d)) (BN t.d (CJ d))))=(D.names.map λn=>decide (n∈t.names)&&!HY (BN D.d n) (BN t.d n)).map .bool:=by rw[flt,zD,zD];rfl
   rw[c];left;refine lM ?_;refine#[M,zT M,λa b e=>?_];cases e;refine#[?_,rfl];show DS.d (.bool _) = .d (.bool (E1 D.d t.d));unfold E1;rw[GW,GW,List.any_map];rfl
end
def E8:List Str:=["book","stand","wished","deeds","coming","going","number","lifts"]
def FV:List Str:=["number","stand"]
def FW:List (Option Nat):=[am,al 1]
def FX:List Str:=["lift","number","deeds"]
def FY:List (Option Nat):=[am,al 6,al 3]
section
local macro_rules | `(tactic| walk_at "cs")=>`(tactic| first | exact @CS _ _ FV FW (AB BY) E8 (by decide +kernel) (by decide +kernel) rfl rfl | exact @CS _ _ FX FY (AB BY) E8 (by decide +kernel) (by decide +kernel) rfl rfl)
local macro_rules | `(tactic| walk_at "x")=>`(tactic| first | ((with_reducible show PT _ (.Compare _ [.NotIn] ..) _);exact @BJ _ _ _ _ _ _ _ _ (@fI _ K rfl hu) (by walk_at "e") (by walk_at "e") (by with_unfolding_all rfl)) | ((with_reducible show PE _ (.Dict ..) _);exact @MN _ _) | ((with_reducible show PS _ (.Assign [.Subscript ..] ..) _);exact @K5 _ _ _ _ _ _ _ _ _ ef (by walk_at "e") (by walk_at "e") (by walk_at "e") (by rfl)))
local macro_rules | `(tactic| walk_at "y")=>`(tactic| first | ((with_reducible show PE _ (.Call (.Name (a0Q "list") _) [.Call (.Attribute ..) ..] ..) _);exact @cR _ _ _ _ _ _ _ hr.hd rfl eu (by walk_at "e") (by rfl) (by rfl) (by rfl)))
theorem OM (F:Fun K "lifts_by_ends" "lifts_by_ends" BY f O) (a_:mg "len"=am) (eu:mg "list"=am) (bb:Has P w K mg base "deeds_of" 1 ["book"] FG) (md:Has P w K mg base "touch" 3 ["one","other"] fA):FnOk P w K mg base CX0 4 f O ["book","stand","wished"] (spD K 3 KK):=by
 refine hD E8 F #[rfl,rfl,rfl,by decide +kernel,rfl,by decide +kernel,by decide +kernel] ?_;walk_at "hi";have n0:FV.Nodup:=by decide +kernel
 have n1:FX.Nodup:=by decide +kernel
 walk_at "nm";clear n0 n1 nd;rintro xs M hl ⟨w,a,n,o,rfl,hg,hs,R⟩;have f_:=hg.few;have Kv:=hs.len;have Y:=R.len;have Mz:(coN n o).length<=50:=zN (yJ _ _) (by lia);rw[show bxL w a n o=[.d (AM w a),.d (.tuple (AA n)),.d (.tuple (AA o))] from rfl];left;refine F5 hg.few ?_;left;refine iV (AV 0) (by simp[FW]) ?_;refine BG ?_;left;refine#[by rw[AJ];exact zQ (zN Y f_) (by decide),cKp n,nI,u8,trivial,?_,λp hp=>?_];. intro d hd M';obtain⟨i,hi,rfl⟩:=zL.mp hd;walk_at "dl";refine#[rfl,?_];left;refine KF (ds:=AA n) rfl (CH _) ?_;refine#[_,rfl,rfl,rfl,λ_=>?_];left;refine#[rfl,rfl,?_];left;exact#[rfl,rfl]
 rw[uA R.inc];left;refine N8 λq hq=>?_;have Q:p≠q:=by rintro rfl;rw[zU] at hq;cases hq
 walk_at "wks";try walk_at "unf"
 refine ET (λb M1=>∃E:EL,M1=(M.put p (.d (AR (cvE (JI (coN n o)))))).put q (.d (AR (cvE E)))/\E.map (·.1)=lfB a n o/\∃I u:Option DS,b=[al (.d (AM w a)),al (.d (.tuple (AA n))),al (.d (.tuple (AA o))),al (.d (.tuple ((dsL a).map Deed.d))),al (.loc p),al (.loc q),I,u]) ?_ ?_
 . try walk_at "unf"
   refine ES ?_;refine BG ?_;left;refine#[λi b M1=>∃E:EL,M1=(M.put p (.d (AR (cvE (JI (coN n o)))))).put q (.d (AR (cvE E)))/\E.map (·.1)=lfL (tcN (dsL a)) o (coN n o) (n.take i)/\LsI E i/\∃I u:Option DS,b=[al (.d (AM w a)),al (.d (.tuple (AA n))),al (.d (.tuple (AA o))),al (.d (.tuple ((dsL a).map Deed.d))),al (.loc p),al (.loc q),I,u],#[[],rfl,rfl,#[by simp,by simp],_,_,rfl],?_,?_]
   . rintro i d b M1 hd ⟨E,rfl,hE,hL,I,u,rfl⟩;obtain⟨k,hk,rfl⟩:=ZN hd;have X:=yN hk;have ug:=hs.lt k X;have hi:i < n.length:=(yT.mp hk).1;have y:k∉E.map (·.1):=by rw[hE];intro z;have:=((fR hs.inc hk).mp (FR.subset z)).2;lia
     have Z:∀t∈E,t.1∈n:=λt g=>a9Q (FR.subset (by rw[<-hE];exact zL.mpr #[t,g,rfl]));have Ky:E.length<=i:=by have:=congrArg a9V hE;rw[zX] at this;rw[this];exact zN FR.length_le (by rw[a2Q];lia)
     have T:(cvE E).length < sizeLine:=by unfold cvE;rw[zX];exact zQ (show _<=50 by lia) (by decide)
     obtain⟨l,mv,qr,nr,J⟩:=GF ug;left;refine KF (ds:=AA o) rfl (CH _) ?_;rw[if_pos rfl,CQ];cases hkw:decide (k∈o) with
     | false=> left;refine JC ?_;left;refine#[q,cvE E,(k:Int),chD [k],rfl,rfl,rfl,zU,T,?_];rw[yI,cJ,WP y];refine r9 ?_;refine#[E++[(k,[k])],rfl,?_,hL.snoc rfl (by simp),_,_,rfl];rw[xI,hE,GG hk,if_pos (by unfold S0;rw[hkw];rfl)];rfl
     | true=>
       left;refine AI (AV 0) (by simp[FY]) ?_;refine CC ?_;left;refine RZ ?_;left;refine#[p,_,rfl,by rw[yH Q];exact zU,?_];left;refine RZ ?_;left;refine#[q,_,rfl,zU,?_];rw[fS,fS];refine MT (by simp only[zX];exact zN (show _<=100 by lia) (by decide)) ?_;rw[<-xI,<-xI];have za:((JI (coN n o)++E).map (·.2)).length<=100:=by rw[zX,yY,zX];lia
       have U:=oN (tc:=tcN (dsL a)) (k:=k) (co:=coN n o) hL;refine#[_,rfl,by rw[zX];exact zQ za (by decide),clD (tcN (dsL a)) k,id,?_,?_]
       . intro d hd M';obtain⟨c,hc,rfl⟩:=zL.mp hd;obtain⟨t,g,rfl⟩:=zL.mp hc;have G:t.2.getLast?=al t.1:=(yW.mp g).elim ((WO _ 0).last t) (hL.last t);have Kz:t.1 < a.length:=by
           rcases yW.mp g with z | z;. obtain⟨m,hm,rfl⟩:=zL.mp z;exact R.lt m (yL.mp hm).1
           . exact hs.lt _ (Z t z)
         obtain⟨S,Ca,uh,xy,B⟩:=GF Kz;obtain⟨N,_⟩:=tR G;have D:clD (tcN (dsL a)) k (chD t.2)=(decide (t.1 < k)&&E1 S.2.d l.2.d):=by rw[oM];unfold clN;rw[G];dsimp only;rw[vY B J]
         rw[D];walk_at "dl";refine#[rfl,?_];rw[show chD t.2 = .tuple (AA t.2) from rfl];left;refine AE (ds:=AA t.2) N ?_;left;rw[cT];cases be:decide (t.1 < k) with
         | false=> left;exact#[rfl,rfl,λz=>absurd z nft]
         | true=> left;refine AE (ds:=AA t.2) N ?_;left;refine AE (ds:=(dsL a).map Deed.d) (d:=S.2.d) (AK (by rw[zF,B];rfl)) ?_;left;refine AE (ds:=(dsL a).map Deed.d) (d:=l.2.d) (AK (by rw[zF,J];rfl)) ?_;left;refine MX #[EF (hg.real _ uh),EF (hg.real _ qr)] ?_;refine#[_,rfl,rfl,rfl,λ_=>?_];left;exact#[rfl,rfl]
       rw[jE];have v:((((JI (coN n o)++E).map (·.2)).filter (clN (tcN (dsL a)) k))=[])↔S0 (tcN (dsL a)) o (coN n o) (lfL (tcN (dsL a)) o (coN n o) (n.take i)) k=false:=by unfold S0;rw[<-hE,<-U,hkw,Bool.not_true,c2X,List.filter_eq_nil_iff,b5J]
       have x:∀c∈((JI (coN n o)++E).map (·.2)).filter (clN (tcN (dsL a)) k),c.length<=i+1:=λc hc=>by
         obtain⟨t,g,rfl⟩:=zL.mp (yL.mp hc).1;rcases yW.mp g with z | z;. exact(WO (coN n o) i).few t z
         . exact hL.few t z
       revert v x;generalize (((JI (coN n o)++E).map (·.2)).filter (clN (tcN (dsL a)) k))=L;intro v x;left;refine MS ?_;cases L with
       | nil=> left;refine#[?_,hL.more,_,_,rfl];rw[hE,GG hk,if_neg (by rw[v.mp rfl];decide)]
       | cons c r=> have D:=x c (by simp);left;rw[if_pos (decide_eq_true (by rw[zX,yR];lia))];refine JC ?_;left;refine BF (ds:=(c::r).map chD) (d:=.tuple (AA c)) (AK (j:=0) rfl) ?_;left;refine MU (as:=AA c) (bs:=[.int (k:Int)]) (by rw[AJ];exact zN (show c.length+1<=60 by lia) (by decide)) ?_;left;refine#[q,cvE E,(k:Int),chD (c++[k]),by rw[KG];rfl,rfl,rfl,zU,T,?_];rw[yI,cJ,WP y];refine#[E++[(k,c++[k])],rfl,?_,hL.snoc (by rw[List.getLast?_append];rfl) (by rw[yY];simp;lia),_,_,rfl];rw[xI,hE,GG hk,if_pos (b1V λz=>by have:=v.mpr (by simpa using z);cases this)];rfl
   . rintro b M1 ⟨E,rfl,hE,hL,I,u,rfl⟩;rw[AJ,a1V] at hE;exact#[E,rfl,hE,_,_,rfl]
 . rintro b M1 ⟨E,rfl,hE,I,u,rfl⟩;left;have x_:M q=none:=by rw[yH (a8Q Q)] at hq;exact hq
   refine#[M.put q (.d (AR (cvE E))),?_,λw' cy bw rl e=>?_];. rw[Own.put_comm Q];exact(zT _).put (by rw[yH Q];exact hp)
   . obtain⟨rfl,rfl,rfl⟩:=WQ e;exact#[q,E,x_,rfl,rfl,hE]
end
def NN:List Str:=["book","stand","wished"]
section
local macro_rules | `(tactic| walk_at "y")=>`(tactic| first | ((with_reducible show PE _ (.Call (.Name (a0Q "sorted") _) ..) _);exact @D5 _ _ _ _ _ _ _ _ _ (@cF _ K rfl rfl) (by rfl) ah b1K (by walk_at "a") (by decide) (by decide) (by rfl) (by rfl)))
theorem NO (F:Fun K "lifted_between" "lifted_between" E7 f O) (ah:mg "sorted"=am) (i:mg "tuple"=am) (g:Has P w K mg base "lifts_by_ends" 4 ["book","stand","wished"] KK):FnOk P w K mg base CX0 5 f O ["book","stand","wished"] (spD K 3 CZ):=by
 refine hD NN F #[rfl,rfl,rfl,by decide +kernel,rfl,by decide +kernel,by decide +kernel] ?_;walk_at "hd";rintro N M v ⟨w,t,r,o,rfl,hg,hs,R⟩;have u:=hg.few;have m:=hs.len;left;refine cS hg hs R λp E hp hE=>?_;have n:(cvE E).length<=50:=by unfold cvE;have:=congrArg a9V hE;rw[zX] at this;rw[zX,this];exact zN FR.length_le (by lia)
 left;refine iW zU (by lia) λy L Q=>?_;left;refine G5 ?_;refine#[M,(zT M).put hp,λz k j x e=>?_];obtain⟨rfl,rfl,rfl⟩:=WQ e;refine#[?_,rfl];have c:(cvE E).map (·.1)=BX (lfB t r o):=by rw[<-hE];unfold cvE BX;rw[zD,zD];rfl
 rw[c] at L;have T:(BX (lfB t r o)).Pairwise (· < ·):=JD (hs.inc.sublist FR);rw[PM (cI Q (L.nodup_iff.mpr (T.imp λ{a b} q=>by lia))) T λa=>L.mem_iff];rfl
end
def HC:List Str:=["book","stand","wished","deeds","going","backs","steps","number"]
def FZ:List Str:=["number","backs"]
def G0:List (Option Nat):=[am,al 5]
section
local macro_rules | `(tactic| walk_at "cs")=>`(tactic| first | exact @CS _ _ FZ G0 (AB CW) HC (by decide +kernel) (by decide +kernel) rfl rfl)
local macro_rules | `(tactic| walk_at "x")=>`(tactic| first | ((with_reducible show PE _ (.Call (.Name (a0Q "dict") _) [.Call ..] ..) _);exact @cX _ K _ _ _ _ _ _ _ rfl (by walk_at "a") rfl rfl dj rfl kc (by rfl) (by rfl) (by rfl)) | ((with_reducible show PI _ _ (.Call (.Name (a0Q "reversed") _) ..) _);exact @A2p _ K _ _ _ _ _ rfl rfl cz (by walk_at "a") (by rfl)) | ((with_reducible show PT _ (.Compare _ [.In] ..) _);exact @BJ _ _ _ _ _ _ _ _ (@cH _ K rfl hu) (by walk_at "e") (by walk_at "e") (by with_unfolding_all rfl)) | ((with_reducible show PT _ (.Compare _ [.NotIn] ..) _);exact @BJ _ _ _ _ _ _ _ _ (@fI _ K rfl hu) (by walk_at "e") (by walk_at "e") (by with_unfolding_all rfl)))
local macro_rules | `(tactic| walk_at "y")=>`(tactic| first | ((with_reducible show PE _ (.Subscript ..) _);exact @D6 _ _ _ _ _ _ ef (@pv _ 1 _ _ (by rfl) (by walk_at "lc") (by decide) (by decide)) (@pv _ 0 _ _ (by rfl) (by walk_at "lc") (by decide) (by decide)) (λ_ _=>rfl)))
theorem OO (F:Fun K "steps_between" "steps_between" CW f O) (kc:mg "dict"=am) (cz:mg "reversed"=am) (N:mg "tuple"=am) (dj:mg "zip"=am) (U:Has P w K mg base "book_of" 1 ["book","numbers"] GH) (D:Has P w K mg base "deeds_of" 1 ["book"] FG) (S:Has P w K mg base "lifted_between" 5 ["book","stand","wished"] CZ) (X:Has P w K mg base "walked" 8 ["world","row"] N7):FnOk P w K mg base CX0 9 f O ["book","stand","wished"] (spD K 3 KN):=by
 refine hD HC F #[rfl,rfl,rfl,by decide +kernel,rfl,by decide +kernel,by decide +kernel] ?_;walk_at "hi";have c:FZ.Nodup:=by decide +kernel
 walk_at "nm";clear c nd;rintro xs M L ⟨w,t,r,o,rfl,h,hs,R⟩;have y:=hs.len;have vy:=R.len;have T:=h.good.few;have g:=oS h hs;have Y:(AW t r).length=r.length:=JF hs.lt;have I:(lfB t r o).length<=50:=zN FR.length_le (by lia);rw[show bxL w t r o=[.d (AM w t),.d (.tuple (AA r)),.d (.tuple (AA o))] from rfl];left;refine F5 h.good.few ?_;left;refine EC h.good hs R ?_;rw[show chD (lfB t r o) = .tuple (AA (lfB t r o)) from rfl];left;refine cY ?_;left;try refine AE (ds:=[wD w,AQ t]) (d:=wD w) rfl ?_
 left;refine T0 hs.lt (by lia) ?_;left;refine F5 (by lia) ?_;left;refine ZB g.row ?_;left;try refine AE (d:=.list (bkL w (dsL (AW t r)) (dsL (AW t r)).length)) rfl ?_
 left;refine#[bkT w t r,A0x hs,A0y hs,λp hp=>?_];left;refine T7 (AV 0) (by simp[G0]) ?_;refine A0w ?_;left;refine#[by rw[b3J,AJ];exact zQ I (by decide),λ_=>ap,fBk (bkT w t r),?_,λq hq=>?_]
 . rintro d hd A acc z hA rfl;obtain⟨i,hi,rfl⟩:=zL.mp (List.mem_reverse.mp hd);obtain⟨k,hk,rfl⟩:=CF.mp hi;obtain⟨v,m⟩:=p6 hs (FR.subset hk);have B:p≠A:=by rintro rfl;rw[zU] at hA;cases hA
   walk_at "dl";refine#[rfl,?_];walk_at "dl";refine#[rfl,rfl,λ_=>?_];left;refine iT ?_;left;refine#[p,bkT w t r,(k:Int),v,rfl,rfl,by rw[yH B];exact zU,m,?_];left;refine#[?_,rfl];show _=DS.d (.tuple [.str (a0Q "back"),.int (k:Int),(AT (bkT w t r) (k:Int)).getD .none]);rw[m];rfl
 rw[SZ,jN];have Q:p≠q:=by rintro rfl;rw[zU] at hq;cases hq
 walk_at "wks";try walk_at "unf"
 refine ET (λn M1=>M1=(M.put p (.d (AR (bkT w t r)))).put q (.l (DH w t r o++DJ t r o o))/\∃x7:Option DS,n=[al (.d (AM w t)),al (.d (.tuple (AA r))),al (.d (.tuple (AA o))),al (.d (.tuple ((dsL t).map Deed.d))),al (.d (.tuple (AA (lfB t r o)))),al (.loc p),al (.loc q),x7]) ?_ ?_
 . try walk_at "unf"
   refine ES ?_;refine BG ?_;left;refine#[λi n M1=>M1=(M.put p (.d (AR (bkT w t r)))).put q (.l (DH w t r o++DJ t r o (o.take i)))/\∃x7:Option DS,n=[al (.d (AM w t)),al (.d (.tuple (AA r))),al (.d (.tuple (AA o))),al (.d (.tuple ((dsL t).map Deed.d))),al (.d (.tuple (AA (lfB t r o)))),al (.loc p),al (.loc q),x7],#[by rw[List.take_zero];simp[DJ],_,rfl],?_,?_]
   . rintro i d n M1 hd ⟨rfl,x7,rfl⟩;obtain⟨k,hk,rfl⟩:=ZN hd;have x:=R.lt k (yN hk);obtain⟨l,Z,qr,nr,J⟩:=GF x;have b:(DH w t r o++DJ t r o (o.take i)).length < sizeLine:=by rw[yY];unfold DH DJ;rw[zX,zX,b3J];have h1:((o.take i).filter λk=>decide (k∈lfB t r o)||!decide (k∈r)).length<=o.length:=zN (yJ _ _) (by rw[a2Q];lia);exact zQ (show _<=100 by lia) (by decide)
     have add:∀{x7:Option DS},(decide (k∈lfB t r o)||!decide (k∈r))=ap->(M.put p (.d (AR (bkT w t r)))).put q (.l ((DH w t r o++DJ t r o (o.take i))++[NE (a0Q "again") k l.2.d]))=(M.put p (.d (AR (bkT w t r)))).put q (.l (DH w t r o++DJ t r o (o.take (i+1)))):=λhc=>by rw[SD hk,if_pos hc,cZ J,a7Q]
     have zh:∀{x7:Option DS},(decide (k∈lfB t r o)||!decide (k∈r))=ap->True:=λ_=>trivial;left;refine KF (ds:=AA (lfB t r o)) rfl (CH _) ?_;rw[if_neg nft,CQ];cases hg:decide (k∈lfB t r o) with
     | true=> left;refine G2 ?_;walk_at "dl";refine#[CG (ds:=DH w t r o++DJ t r o (o.take i)) zU,?_];left;refine AE (ds:=(dsL t).map Deed.d) (d:=l.2.d) (AK (by rw[zF,J];rfl)) ?_;left;refine BP (ds:=DH w t r o++DJ t r o (o.take i)) zU b ?_;rw[yI];exact#[add (x7:=am) (by rw[hg];rfl),_,rfl]
     | false=>
       left;refine KF (ds:=AA r) rfl (CH _) ?_;rw[if_pos rfl,CQ];cases a:decide (k∈r) with
       | true=> left;refine#[?_,_,rfl];rw[SD hk,if_neg (by rw[hg,a];decide),a6Q]
       | false=> left;refine G2 ?_;walk_at "dl";refine#[CG (ds:=DH w t r o++DJ t r o (o.take i)) zU,?_];left;refine AE (ds:=(dsL t).map Deed.d) (d:=l.2.d) (AK (by rw[zF,J];rfl)) ?_;left;refine BP (ds:=DH w t r o++DJ t r o (o.take i)) zU b ?_;rw[yI];exact#[add (x7:=am) (by rw[hg,a];rfl),_,rfl]
   . rintro n M1 ⟨rfl,x7,rfl⟩;rw[AJ,a1V];exact#[rfl,_,rfl]
 . rintro n M1 ⟨rfl,x7,rfl⟩;left;refine RM zU ?_;refine#[M,((zT M).put hp).put (by rw[yH (a8Q Q)] at hq;exact hq),λw' G j u e=>?_];simp only[List.cons.injEq,DS.d.injEq,and_true] at e;obtain⟨rfl,rfl⟩:=RS e.1;obtain rfl:=KI (show chD r=chD j from e.2.1);obtain rfl:=KI (show chD o=chD u from e.2.2);exact#[rfl,rfl]
end
def A07:List Str:=["book","stand","wished"]
theorem A08 (F:Fun K "way" "way" pJ f O) (g:Has P w K mg base "refuse_no_stand" 6 ["book","thing"] FS) (I:Has P w K mg base "steps_between" 9 ["book","stand","wished"] KN):FnOk P w K mg base CX0 10 f O ["book","stand","wished"] (spD K 3 KN):=by refine hD A07 F #[rfl,rfl,rfl,by decide +kernel,rfl,by decide +kernel,by decide +kernel] ?_;walk_at "hd";rintro i M m ⟨w,p,n,o,rfl,h,hs,R⟩;left;refine EB h.good hs ?_;left;refine EB h.good R ?_;left;refine S7 h hs R ?_;refine#[M,zT M,λa t j r e=>?_];simp only[List.cons.injEq,DS.d.injEq,and_true] at e;obtain⟨rfl,rfl⟩:=RS e.1;obtain rfl:=KI e.2.1;obtain rfl:=KI e.2.2;exact#[rfl,rfl]
def jZ:List Str:=["book","stand","wished"]
theorem k0 (F:Fun K "lifted" "lifted" SJ f O) (t:Has P w K mg base "lifted_between" 5 ["book","stand","wished"] CZ) (g:Has P w K mg base "refuse_no_stand" 6 ["book","thing"] FS):FnOk P w K mg base CX0 7 f O ["book","stand","wished"] (spD K 3 CZ):=by refine hD jZ F #[rfl,rfl,rfl,by decide +kernel,rfl,by decide +kernel,by decide +kernel] ?_;walk_at "hd";rintro b M m ⟨w,p,a,i,rfl,hg,hs,R⟩;left;refine EB hg hs ?_;left;refine EB hg R ?_;left;refine EC hg hs R ?_;refine#[M,zT M,λo n j r e=>?_];obtain⟨rfl,rfl,rfl⟩:=WQ e;exact#[rfl,rfl]
def GO:List Str:=["_law_pack","_law_amount","_law_letters","_law_turn","_law_pick","_law_size"]
def IC:List Str:=["_law_k","_law_letters"]
def ID:List (Option Nat):=[am,al 2]
def IE:List Str:=["_law_k","_law_letters","_law_size"]
def EV:List (Option Nat):=[am,al 2,al 5]
section
local macro_rules | `(tactic| walk_at "cs")=>`(tactic| first | exact @CS _ _ IC ID (AB DO) GO (by decide +kernel) (by decide +kernel) rfl rfl | exact @CS _ _ IE EV (AB DO) GO (by decide +kernel) (by decide +kernel) rfl rfl)
local macro_rules | `(tactic| walk_at "x")=>`(tactic| first | ((with_reducible show PE _ (.BinOp _ .Mult ..) _);exact @MK _ _ _ _ _ _ _ _ (@A1v _ K rfl) (by walk_at "e") (by walk_at "e")))
theorem TB (F:Fun K "_law_names" "_law_names" DO f Z) (ax:mg "range"=am) (ag:Has P w K mg base "_law_take" 1 ["_law_pack","_law_size"] BR):FnOk P w K mg base CX0 2 f Z ["_law_pack","_law_amount"] (spD K 2 EZ):=by
 refine hD GO F #[rfl,rfl,rfl,by decide +kernel,rfl,by decide +kernel,by decide +kernel] ?_;walk_at "hi";have n0:IC.Nodup:=by decide +kernel
 have n1:IE.Nodup:=by decide +kernel
 walk_at "nm";clear n0 n1 nd;rintro xs M hl ⟨p,n,o,rfl,m,ho,Na,K'⟩;obtain⟨N,rfl⟩:∃N:Nat,n=(N:Int):=#[n.toNat,by lia]
 have L:((a0Q "abcdefghijklmnopqrstuvwxyz"):Str).length<=sizeLine:=by rw[J0];decide
 left;refine B0 m ho (by decide) (by decide) λv1 o1 zu yb gr=>?_;obtain⟨t,rfl⟩:∃t:Nat,v1=(t:Int):=#[v1.toNat,by lia]
 left;refine MV L ?_;left;refine MV L ?_;refine QD (zN (Nat.add_le_add (U2 _ _ _ (Nat.le_of_eq J0)) (U2 _ _ _ (Nat.le_of_eq J0))) (by decide)) ?_;have D:bP (a1X (a0Q "abcdefghijklmnopqrstuvwxyz") (al (t:Int)) am++a1X (a0Q "abcdefghijklmnopqrstuvwxyz") am (al (t:Int))):=by
   refine QR (λc hc=>?_) (λc hc=>?_);. rw[HG] at hc;exact QJ c (List.mem_of_mem_drop hc)
   . exact QJ c (hW hc)
 have x:(a1X (a0Q "abcdefghijklmnopqrstuvwxyz") (al (t:Int)) am++a1X (a0Q "abcdefghijklmnopqrstuvwxyz") am (al (t:Int))).cps.toList.length=26:=by rw[AU,yY,HG,HF,a4K,a2Q,<-NZ,lT];exact A0c (xR (Int.ofNat_lt.mp yb))
 have Q:(a1X (a0Q "abcdefghijklmnopqrstuvwxyz") (al (t:Int)) am++a1X (a0Q "abcdefghijklmnopqrstuvwxyz") am (al (t:Int))).cps.toList.Nodup:=by rw[AU,HG,HF];exact iI t
 have J:Run (a1X (a0Q "abcdefghijklmnopqrstuvwxyz") (al (t:Int)) am++a1X (a0Q "abcdefghijklmnopqrstuvwxyz") am (al (t:Int))).cps.toList:=by rw[AU,HG,HF];exact A0h (mR t (by lia))
 revert D x Q J;generalize a1X (a0Q "abcdefghijklmnopqrstuvwxyz") (al (t:Int)) am++a1X (a0Q "abcdefghijklmnopqrstuvwxyz") am (al (t:Int))=R;intro D x Q J;have S:R.length<=sizeLine:=by
   have:R.length=R.cps.toList.length:=by simp[Str.length]
   rw[this,x];decide
 have ye:∀k:Nat,k < 26->∃c,atI R.cps.toList (k:Int)=al c/\G7 c=true:=λk hk=>by
   have lr:k < R.cps.toList.length:=by rw[x];exact hk
   exact#[R.cps.toList[k],AK (zV lr),D _ (a7K lr)]
 left;refine B0 zU gr (by decide) (by decide) λv2 o2 _ _ de=>?_;rw[yI];left;refine B0 zU de (by decide) (by decide) λv3 G Nb La B=>?_;rw[yI];obtain⟨a,rfl⟩:∃a:Nat,v3=(a:Int):=#[v3.toNat,by lia]
 have U:bP (a1X R (al 3) (al (3+(a:Int))))/\(a1X R (al 3) (al (3+(a:Int)))).cps.toList.length<=7/\Run (a1X R (al 3) (al (3+(a:Int)))).cps.toList:=by
   have e:(a1X R (al 3) (al (3+(a:Int)))).cps.toList=(R.cps.toList.take (3+a)).drop 3:=i5 R 3 (3+a);refine#[λc hc=>?_,?_,?_];. rw[e] at hc;exact D c (a9Q (List.mem_of_mem_drop hc))
   . rw[e,a4K,a2Q];exact A0d (Nat.le_of_lt_succ (Int.ofNat_lt.mp La))
   . rw[e];exact(J.take _).drop _
 have Cc:(C7 0 N).length=N:=by simp[C7]
 have hN:N<=26:=Int.ofNat_le.mp K';have hsz:(C7 0 N).length < sizeLine:=by rw[Cc];exact zQ hN (by decide)
 have fin:∀(g:PyData->PyData),(∀k:Nat,k < N->∃z,g (.int k) = .str z/\B9 z/\z∉PD)->(∀i j:Nat,i < N->j < N->g (.int i)=g (.int j)->i=j)->∃y:List Str,((C7 0 N).filter λ_=>ap).map g=y.map .str/\y.length=N/\(∀z∈y,B9 z/\z∉PD)/\y.Nodup:=λg hg hi=>by
   rw[flt];refine#[(a1K N).map λ(k:Nat)=>CJ (g (.int (k:Int))),?_,by simp,?_,?_];. unfold C7;rw[zD,zD];apply yM;intro k hk;obtain⟨z,e,_⟩:=hg k (List.mem_range.mp hk);show g (.int (0+(k:Int))) = .str (CJ (g (.int k)));rw[Int.zero_add,e];rfl
   . intro z r;obtain⟨k,hk,rfl⟩:=zL.mp r;obtain⟨z,e,h⟩:=hg k (List.mem_range.mp hk);rw[e];exact h
   . refine nodup_range λi j h1 q e=>hi i j h1 q ?_;obtain⟨z1,b,_⟩:=hg i h1;obtain⟨z2,v,_⟩:=hg j q;rw[b,v] at e ⊢;exact congrArg a0W e
 left;refine AX rfl rfl ?_;rw[if_neg nft];left;refine kX (λh=>?_) (λh=>?_)
 . left;refine AI (AV 0) (by simp[ID]) ?_;refine G3 ?_;left;refine#[by lia,by lia,?_];rw[a3K];have u:∀k:Nat,k < N->∃c,atI R.cps.toList ((k:Int)/8)=al c/\G7 c=true:=λk hk=>ye (k/8) (bO hk hN);refine#[hsz,λ_=>ap,nmA R,?_,?_];. intro d hd Y;obtain⟨k,hk,rfl⟩:=zL.mp hd;obtain⟨c,b,v⟩:=u k (List.mem_range.mp hk);rw[Int.zero_add];walk_at "dl";refine#[rfl,?_];walk_at "dl";refine#[rfl,rfl,λ_=>?_];left;refine VS S b ?_;left;refine A0b (LR _).1 (LR _).2.1 (by show 1<=1000;decide) ?_;exact#[by rw[W5 b],rfl]
   . have iA:∀i j:Nat,i < N->j < N->(nmA R) (.int i)=(nmA R) (.int j)->i=j:=λi j h1 q e=>by
       obtain⟨O,q1,_⟩:=u i h1;obtain⟨I,q2,_⟩:=u j q;rw[W5 q1,W5 q2] at e;have e':PB #[(z3 [O])] (1+(i:Int) % 8)=PB #[(z3 [I])] (1+(j:Int) % 8):=by injection e
       obtain⟨yu,qq⟩:=sU (LR _).1 (LR _).1 e';subst yu;have hq:=RD (i:=i/8) (j:=j/8) Q q1 q2 (by rw[x];exact bO h1 hN) (by rw[x];exact bO q hN);exact A1w qq hq
     have hA:∀k:Nat,k < N->∃z,(nmA R) (.int k) = .str z/\B9 z/\z∉PD:=λk hk=>by
       obtain⟨c,q1,q2⟩:=u k hk;have r:=W1 (c:=c) (n:=1+(k:Int) % 8) (LR k).1;refine#[PB #[(z3 [c])] (1+(k:Int) % 8),W5 q1,?_,sQ r];refine QO (λd hd=>?_) ?_ ?_;. rw[r] at hd;rw[b4Q hd];exact q2
       . rw[r,b1Z];exact(LR k).2.2.1
       . rw[r,b1Z];exact(LR k).2.2.2
     obtain⟨y,b,v,T,X⟩:=fin (nmA R) hA iA;rw[b];refine#[_,zT _,λp' n' e=>?_];cases e;exact#[y,G,rfl,by rw[v],λz r=>(T z r).1,λz r=>(T z r).2,X,B,rfl]
 . left;refine AX rfl rfl ?_;rw[if_neg nft];left;have u:∀k:Nat,k < N->∃c,atI R.cps.toList (k:Int)=al c/\G7 c=true:=λk hk=>ye k (zP hk hN);have yf:∀c:Nat,(#[(z3 [c])]:Str).length+(a1X R (al 3) (al (3+(a:Int)))).length<=sizeLine:=λc=>by
     have:(a1X R (al 3) (al (3+(a:Int)))).length=(a1X R (al 3) (al (3+(a:Int)))).cps.toList.length:=by simp[Str.length]
     rw[this];exact zN (Nat.add_le_add (zR 1) U.2.1) (by decide)
   refine kX (λq=>?_) (λq=>?_)
   . left;refine AI (AV 0) (by simp[EV]) ?_;refine G3 ?_;left;refine#[by lia,by lia,?_];rw[a3K];refine#[hsz,λ_=>ap,nmB R (a1X R (al 3) (al (3+(a:Int)))),?_,?_];. intro d hd Y;obtain⟨k,hk,rfl⟩:=zL.mp hd;obtain⟨c,b,v⟩:=u k (List.mem_range.mp hk);rw[Int.zero_add];walk_at "dl";refine#[rfl,?_];walk_at "dl";refine#[rfl,rfl,λ_=>?_];left;refine VS S b ?_;left;refine MV S ?_;refine QD (yf c) ?_;exact#[by rw[W6 b],rfl]
     . have iB:∀i j:Nat,i < N->j < N->(nmB R (a1X R (al 3) (al (3+(a:Int))))) (.int i)=(nmB R (a1X R (al 3) (al (3+(a:Int))))) (.int j)->i=j:=λi j h1 q e=>by
         obtain⟨O,q1,_⟩:=u i h1;obtain⟨I,q2,_⟩:=u j q;rw[W6 q1,W6 q2] at e;have e':(#[(z3 [O])]:Str)++a1X R (al 3) (al (3+(a:Int)))=#[(z3 [I])]++a1X R (al 3) (al (3+(a:Int))):=by injection e
         have hc:=mS e';subst hc;exact RD Q q1 q2 (by rw[x];exact zP h1 hN) (by rw[x];exact zP q hN)
       have hB:∀k:Nat,k < N->∃z,(nmB R (a1X R (al 3) (al (3+(a:Int))))) (.int k) = .str z/\B9 z/\z∉PD:=λk hk=>by
         obtain⟨c,q1,q2⟩:=u k hk;refine#[_,W6 q1,?_,sR (c:=c) (by rw[AU];rfl) U.2.2];refine QO (QR (YD q2) U.1) ?_ ?_;. rw[AU,yY];exact a8X 1 _
         . rw[AU,yY];exact Nat.add_le_add_left U.2.1 1
       obtain⟨y,b,v,T,X⟩:=fin (nmB R (a1X R (al 3) (al (3+(a:Int))))) hB iB;rw[b];refine#[_,zT _,λp' n' e=>?_];cases e;exact#[y,G,rfl,by rw[v],λz r=>(T z r).1,λz r=>(T z r).2,X,B,rfl]
   . left;refine AI (AV 0) (by simp[EV]) ?_;refine G3 ?_;left;refine#[by lia,by lia,?_];rw[a3K];refine#[hsz,λ_=>ap,nmC R (a1X R (al 3) (al (3+(a:Int)))),?_,?_];. intro d hd Y;obtain⟨k,hk,rfl⟩:=zL.mp hd;obtain⟨c,b,v⟩:=u k (List.mem_range.mp hk);rw[Int.zero_add];walk_at "dl";refine#[rfl,?_];walk_at "dl";refine#[rfl,rfl,λ_=>?_];left;refine MV S ?_;left;refine VS S b ?_;refine QD (by rw[Nat.add_comm];exact yf c) ?_;exact#[by rw[W7 b],rfl]
     . have iC:∀i j:Nat,i < N->j < N->(nmC R (a1X R (al 3) (al (3+(a:Int))))) (.int i)=(nmC R (a1X R (al 3) (al (3+(a:Int))))) (.int j)->i=j:=λi j h1 q e=>by
         obtain⟨O,q1,_⟩:=u i h1;obtain⟨I,q2,_⟩:=u j q;rw[W7 q1,W7 q2] at e;have e':a1X R (al 3) (al (3+(a:Int)))++(#[(z3 [O])]:Str)=a1X R (al 3) (al (3+(a:Int)))++#[(z3 [I])]:=by injection e
         have hc:=mT e';subst hc;exact RD Q q1 q2 (by rw[x];exact zP h1 hN) (by rw[x];exact zP q hN)
       have hC:∀k:Nat,k < N->∃z,(nmC R (a1X R (al 3) (al (3+(a:Int))))) (.int k) = .str z/\B9 z/\z∉PD:=λk hk=>by
         obtain⟨c,q1,q2⟩:=u k hk;refine#[_,W7 q1,?_,sS (c:=c) (by rw[AU]) U.2.2];refine QO (QR U.1 (YD q2)) ?_ ?_;. rw[AU,yY];exact Nat.le_add_left 1 _
         . rw[AU,yY];exact b7X U.2.1 1
       obtain⟨y,b,v,T,X⟩:=fin (nmC R (a1X R (al 3) (al (3+(a:Int))))) hC iC;rw[b];refine#[_,zT _,λp' n' e=>?_];cases e;exact#[y,G,rfl,by rw[v],λz r=>(T z r).1,λz r=>(T z r).2,X,B,rfl]
end
def TC:List Str:=["_law_cell"]
section
local macro_rules | `(tactic| walk_at "x")=>`(tactic| first | ((with_reducible show PE _ (.BinOp _ .Mult ..) _);exact @MK _ _ _ _ _ _ _ _ (@A1v _ K rfl) (by walk_at "e") (by walk_at "e")))
theorem TD (F:Fun K "_law_mixed" "_law_mixed" HR f O):FnOk P w K mg base CX0 1 f O ["_law_cell"] (spD K 1 DC):=by refine hD TC F #[rfl,rfl,rfl,by decide +kernel,rfl,by decide +kernel,by decide +kernel] ?_;walk_at "hd";rintro t M m ⟨c,rfl,hc⟩;left;refine m3 (tH hc) ?_;left;exact#[M,zT M,rfl,_,rfl]
end
def X9:List Str:=["_law_pack","_law_size","_law_digit"]
section
local macro_rules | `(tactic| walk_at "x")=>`(tactic| first | ((with_reducible show PS _ (.Assign [.Tuple ..] ..) _);exact @V8 _ _ _ _ _ _ (by walk_at "e") (by walk_at "g") (by rfl) (by rfl) (by rfl)) | ((with_reducible show PG _ (.Tuple ..) _);exact @f6 _ K _ _ _ _ (2) rfl rfl (by walk_at "j") (by rfl) (by rfl)) | ((with_reducible show PG _ (.Subscript ..) _);exact @wS _ _ _ _ _ _ _ (by walk_at "e") (by walk_at "e") (@kL _) (by intro _;rfl)))
theorem XA (F:Fun K "_law_take" "_law_take" JT f O) (D:mg "divmod"=am):FnOk P w K mg base CX0 1 f O ["_law_pack","_law_size"] (spD K 2 BR):=by
 refine hD X9 F #[rfl,rfl,rfl,by decide +kernel,rfl,by decide +kernel,by decide +kernel] ?_;walk_at "hd";rintro i M n ⟨p,size,o,rfl,m,⟨v,rfl⟩,h0,h1⟩;walk_at "dl";try walk_at "unf"
 refine QK ?_;left;refine i4 h0 h1 ?_;left;refine#[_,zT _,λa t e=>?_];cases e;exact#[_,_,rfl,Int.emod_nonneg _ (by lia),Int.emod_lt_of_pos _ h0,#[_,rfl],rfl]
end
def NP:List Str:=["_law_pack","_law_some","_law_spare","_law_kind","_law_place","_law_number","_law_one","_law_others"]
def JY:List Str:=["_law_name","_law_one"]
def JZ:List (Option Nat):=[am,al 6]
section
local macro_rules | `(tactic| walk_at "cs")=>`(tactic| first | exact @CS _ _ JY JZ (AB GI) NP (by decide +kernel) (by decide +kernel) rfl rfl)
local macro_rules | `(tactic| walk_at "x")=>`(tactic| first | ((with_reducible show PT _ (.Compare _ [.In] ..) _);exact @BJ _ _ _ _ _ _ _ _ (@kIn _ K rfl) (by walk_at "e") (by walk_at "e") (by with_unfolding_all rfl)))
theorem XB (F:Fun K "_law_deed" "_law_deed" GI f fd) (lu:mg "int"=am) (a_:mg "len"=am) (ag:Has P w K mg base "_law_take" 1 ["_law_pack","_law_size"] BR):FnOk P w K mg base CX0 2 f fd ["_law_pack","_law_some","_law_spare"] (spD K 3 GB):=by
 refine hD NP F #[rfl,rfl,rfl,by decide +kernel,rfl,by decide +kernel,by decide +kernel] ?_;walk_at "hi";have n0:JY.Nodup:=by decide +kernel
 walk_at "nm";clear n0 nd;rintro xs M hl ⟨p,o,so,g,rfl,m,Q,u,Cd⟩;have S:∀{z:Str},z∈so->z∉g:=λ{z} h1 h2=>(List.nodup_append.mp u.2.1).2.2 z h1 z h2 rfl;left;refine D7 ?_;left;refine B0 m Q (by decide) (by decide) λv1 o1 a0 a1 gr=>?_;obtain⟨D,Lb,B⟩:=PJ (ys:=HM) a0 a1;refine BF (d:=.str D) Lb ?_;left;refine B0 zU gr (by decide) (by decide) λX o2 p0 p1 de=>?_;rw[yI];left;refine B0 zU de (by decide) (by decide) λv3 o3 c0 c1 ic=>?_;rw[yI];walk_at "wks";try walk_at "unf"
 refine ET (λJ M1=>∃(D:Str),D∈HM/\(D=a0Q "put" \/ D=a0Q "name" \/ D=a0Q "split" -> g≠[])/\(D≠a0Q "put" -> so≠[])/\M1=M.put p o3/\J=[al (.loc p),al (.d (B3 so)),al (.d (B3 g)),al (.d (.str D)),al (.d (.int X)),al (.d (.int (v3 - 20))),am,am]) ?_ ?_
 . have mn:zH (B3 so)=true:=DF λz t=>u.1 z (by simp[t]);have mr:zH (B3 g)=true:=DF λz t=>u.1 z (by simp[t]);have fin:∀b:Bool,g.isEmpty=b->∃R:Str,atI [a0W (a0Q "put"),.str (a0Q "move")] (if b then 1 else 0)=al (.str R)/\R∈HM/\((b=bj/\R=a0Q "put")\/(b=ap/\R=a0Q "move")):=λb _=>by
     cases b with
     | true=>exact#["move", rfl,by simp[HM],.inr #[rfl,rfl]]
     | false=>exact#["put", rfl,by simp[HM],.inl #[rfl,rfl]]
   walk_at "wkd";refine AX mn rfl ?_;rw[if_neg nft,CD];cases G:so.isEmpty with
   | true=>
     have xn:so=[]:=List.isEmpty_iff.mp G;have xo:g≠[]:=Cd.resolve_left λq=>q xn;have Lc:g.isEmpty=false:=by cases g with | nil=>exact absurd rfl xo | cons _ _=>rfl
     left;refine D7 ?_;walk_at "wkd";refine AX mr rfl ?_;rw[if_neg nft,CD,Lc];left;refine BF (d:=.str (a0Q "put")) rfl ?_;exact#["put", by simp[HM],λ_=>xo,λq=>absurd rfl q,rfl,rfl]
   | false=>
     have Y:so≠[]:=λq=>by rw[q] at G;cases G
     walk_at "wkd";refine AX mr rfl ?_;rw[if_neg nft,CD];cases jy:g.isEmpty with
     | false=>
       have Ld:g≠[]:=λq=>by rw[q] at jy;cases jy
       left;exact#[D,B,λ_=>Ld,λ_=>Y,rfl,rfl]
     | true=>
       left;refine D7 ?_;left;refine MR (ys:=["put","name","split"]) ?_;cases oq:decide (D∈[a0Q "put", "name", "split"]) with
       | false=> left;refine#[D,B,λq=>?_,λ_=>Y,rfl,rfl];have:=of_decide_eq_false oq;simp only[yX,xX,or_false] at this;exact absurd q this
       | true=> left;refine D7 ?_;walk_at "wkd";refine AX mr rfl ?_;rw[if_neg nft,CD,jy];left;refine BF (d:=.str (a0Q "move")) rfl ?_;exact#["move", by simp[HM],λq=>by rcases q with q | q | q <;> exact absurd q (by decide +kernel),λ_=>Y,rfl,rfl]
 . rintro J M1 ⟨D,B,k1,R,rfl,rfl⟩;generalize v3 - 20=U;left;refine AX (GZ B) (by decide +kernel) ?_;rw[if_neg nft,B7];cases e1:(D==a0Q "put") with
   | true=>
     have N:D=a0Q "put" := eq_of_beq e1;left;obtain⟨i,k,rfl⟩:∃i k,g=i::k:=by
       cases g with
       | nil=>exact absurd rfl (k1 (.inl N))
       | cons a r=>exact#[a,r,rfl]
     refine BF (ds:=(i::k).map .str) (AK (j:=0) rfl) ?_;left;refine#[_,zT _,λO L y e=>?_];obtain⟨rfl,rfl,rfl⟩:=GC e;exact#[.put i X U,_,rfl,#[λz t=>by simp[Deed.names] at t;subst t;exact u.1 _ (by simp),trivial,#[p0,by lia]],CN λn hn=>by simp[Deed.names] at hn;subst hn;simp[Deed.made];exact λq=>S q (by simp),λn e=>by simp[Deed.made] at e;subst e;rfl,ic,rfl]
   | false=>
     have Le:D≠a0Q "put" := λq=>by rw[q] at e1;simp at e1
     have G:=R Le;have Et:0 < so.length:=List.length_pos_iff.mpr G;have kf:so.length<=26:=by have:=u.2.2;rw[yY] at this;lia
     left;refine MS ?_;rw[zX];left;refine B0 zU ic (by lia) (by lia) λv4 o4 d0 d1 I=>?_;rw[yI];obtain⟨c,Lg,v⟩:=PJ (ys:=so) d0 d1;have x:B9 c:=u.1 c (by simp[v]);refine BF Lg ?_;left;refine AI (AV 0) (by simp[JZ]) ?_;refine CC ?_;left;refine#[by rw[zX];exact zQ kf (by decide),λd=>!a0Z d (.str c),id,?_,?_];. intro d hd M';obtain⟨z,t,rfl⟩:=zL.mp hd;left;refine#[rfl,?_];left;refine AX (AY (u.1 z (by simp[t]))) (AY x) ?_;rw[if_pos rfl];left;refine#[rfl,rfl,λ_=>?_];left;exact#[rfl,rfl]
     rw[RL];left;refine AX (GZ B) (by decide +kernel) ?_;rw[if_neg nft,B7];cases e2:(D==a0Q "move") with
     | true=> have N:D=a0Q "move" := eq_of_beq e2;left;refine#[_,zT _,λO L y e=>?_];obtain⟨rfl,rfl,rfl⟩:=GC e;exact#[.move c X,_,rfl,#[λz t=>by simp[Deed.names] at t;subst t;exact x,trivial,#[p0,by lia]],CN λn hn=>by simp[Deed.names] at hn;subst hn;simp[Deed.made,v],λn e=>by simp[Deed.made] at e,I,rfl]
     | false=>
       left;refine AX (GZ B) (by decide +kernel) ?_;rw[if_neg nft,B7];cases e3:(D==a0Q "take") with
       | true=> have N:D=a0Q "take" := eq_of_beq e3;left;refine#[_,zT _,λO L y e=>?_];obtain⟨rfl,rfl,rfl⟩:=GC e;exact#[.take c,_,rfl,#[λz t=>by simp[Deed.names] at t;subst t;exact x,trivial,trivial],CN λn hn=>by simp[Deed.names] at hn;subst hn;simp[Deed.made,v],λn e=>by simp[Deed.made] at e,I,rfl]
       | false=>
         left;refine AX (GZ B) (by decide +kernel) ?_;rw[if_neg nft,B7];cases e4:(D==a0Q "name") with
         | true=>
           have N:D=a0Q "name" := eq_of_beq e4;left;obtain⟨i,k,rfl⟩:∃i k,g=i::k:=by
             cases g with
             | nil=>exact absurd rfl (k1 (.inr (.inl N)))
             | cons a r=>exact#[a,r,rfl]
           have T:c≠i:=λq=>S v (by rw[q];simp);have jx:B9 i:=u.1 i (by simp);refine BF (ds:=(i::k).map .str) (AK (j:=0) rfl) ?_;left;refine#[_,zT _,λO L y e=>?_];obtain⟨rfl,rfl,rfl⟩:=GC e;exact#[.name c i,_,rfl,#[λz t=>by simp[Deed.names] at t;rcases t with rfl | rfl;exact x;exact jx,T,trivial],CN λn hn=>by simp[Deed.names] at hn;rcases hn with rfl | rfl;(simp[Deed.made,v];exact λq=>T q.symm);(simp[Deed.made];exact λq=>S q (by simp)),λn e=>by simp[Deed.made] at e;subst e;rfl,I,rfl]
         | false=>
           left;refine AX (GZ B) (by decide +kernel) ?_;rw[if_neg nft,B7];cases e5:(D==a0Q "split") with
           | true=>
             have N:D=a0Q "split" := eq_of_beq e5;left;obtain⟨i,k,rfl⟩:∃i k,g=i::k:=by
               cases g with
               | nil=>exact absurd rfl (k1 (.inr (.inr N)))
               | cons a r=>exact#[a,r,rfl]
             have T:c≠i:=λq=>S v (by rw[q];simp);have jx:B9 i:=u.1 i (by simp);refine BF (ds:=(i::k).map .str) (AK (j:=0) rfl) ?_;left;refine#[_,zT _,λO L y e=>?_];obtain⟨rfl,rfl,rfl⟩:=GC e;exact#[.split c i X U,_,rfl,#[λz t=>by simp[Deed.names] at t;rcases t with rfl | rfl;exact x;exact jx,T,#[p0,by lia]],CN λn hn=>by simp[Deed.names] at hn;rcases hn with rfl | rfl;(simp[Deed.made,v];exact λq=>T q.symm);(simp[Deed.made];exact λq=>S q (by simp)),λn e=>by simp[Deed.made] at e;subst e;rfl,I,rfl]
           | false=>
             left;refine AX (GZ B) (by decide +kernel) ?_;rw[if_neg nft,B7];cases e6:(D==a0Q "join") with
             | false=> left;refine#[_,zT _,λO L y e=>?_];obtain⟨rfl,rfl,rfl⟩:=GC e;exact#[.count c U,_,rfl,#[λz t=>by simp[Deed.names] at t;subst t;exact x,trivial,trivial],CN λn hn=>by simp[Deed.names] at hn;subst hn;simp[Deed.made,v],λn e=>by simp[Deed.made] at e,I,rfl]
             | true=>
               walk_at "wkd";have ur:∀z∈so.filter (λz=>decide (z≠c)),B9 z:=λz t=>u.1 z (by simp[(yL.mp t).1]);refine AX (DF ur) rfl ?_;rw[if_pos rfl,show a0Z (.list ((so.filter λz=>decide (z≠c)).map .str)) (.list [])=(so.filter λz=>decide (z≠c)).isEmpty from CD _];cases Q:(so.filter λz=>decide (z≠c)).isEmpty with
               | true=> left;refine#[_,zT _,λO L y e=>?_];obtain⟨rfl,rfl,rfl⟩:=GC e;exact#[.count c U,_,rfl,#[λz t=>by simp[Deed.names] at t;subst t;exact x,trivial,trivial],CN λn hn=>by simp[Deed.names] at hn;subst hn;simp[Deed.made,v],λn e=>by simp[Deed.made] at e,I,rfl]
               | false=>
                 have ux:0 < (so.filter λz=>decide (z≠c)).length:=by rw[List.length_pos_iff];intro q;rw[q] at Q;cases Q
                 have Lh:(so.filter λz=>decide (z≠c)).length<=26:=zN (yJ _ _) kf;left;refine MS ?_;rw[zX];left;refine B0 zU I (by lia) (by lia) λv5 o5 f0 f1 Cf=>?_;rw[yI];obtain⟨y2,Li,Z⟩:=PJ (ys:=so.filter λz=>decide (z≠c)) f0 f1;have Ci:=ur y2 Z;have T:c≠y2:=λe=>by have:=(yL.mp Z).2;simp at this;exact this e.symm
                 refine BF Li ?_;left;refine#[_,zT _,λO L y e=>?_];obtain⟨rfl,rfl,rfl⟩:=GC e;exact#[.join c y2,_,rfl,#[λz t=>by simp[Deed.names] at t;rcases t with rfl | rfl;exact x;exact Ci,T,trivial],CN λn hn=>by simp[Deed.names] at hn;rcases hn with rfl | rfl;(simp[Deed.made,v]);(simp[Deed.made,(yL.mp Z).1]),λn e=>by simp[Deed.made] at e,Cf,rfl]
end
def GP:List Str:=["_law_deed_here","_law_some","_law_spare","_law_stay","_law_gone_name"]
def IF:List Str:=["_law_name","_law_deed_here"]
def IG:List (Option Nat):=[am,al 0]
def IH:List Str:=["_law_name","_law_gone_name"]
def II:List (Option Nat):=[am,al 4]
section
local macro_rules | `(tactic| walk_at "cs")=>`(tactic| first | exact @CS _ _ IF IG (AB DQ) GP (by decide +kernel) (by decide +kernel) rfl rfl | exact @CS _ _ IH II (AB DQ) GP (by decide +kernel) (by decide +kernel) rfl rfl)
local macro_rules | `(tactic| walk_at "x")=>`(tactic| first | ((with_reducible show PT _ (.Compare _ [.In] ..) _);exact @BJ _ _ _ _ _ _ _ _ (@kIn _ K rfl) (by walk_at "e") (by walk_at "e") (by with_unfolding_all rfl)) | ((with_reducible show PE _ (.Call (.Attribute _ (a0Q "get") _) ..) _);exact @kS _ _ _ _ _ _ _ _ _ ef (by walk_at "e") (by walk_at "e") (by walk_at "e") (@L2.M2.mk _ _ _ _ _ _ _ rfl rfl rfl rfl)) | ((with_reducible show PE _ (.Dict ..) _);exact @VI _ _ _ _ _ (@IX _ _ _ _ _ _ _ _ _ (by walk_at "e") (by walk_at "e") (@IX _ _ _ _ _ _ _ _ _ (by walk_at "e") (by walk_at "e") (@VH _ _))) rfl rfl (by simp) (by decide)))
theorem TF (F:Fun K "_law_after" "_law_after" DQ f O):FnOk P w K mg base CX0 1 f O ["_law_deed_here","_law_some","_law_spare"] (spD K 3 DD):=by
 refine hD GP F #[rfl,rfl,rfl,by decide +kernel,rfl,by decide +kernel,by decide +kernel] ?_;walk_at "hi";have u:IF.Nodup:=by decide +kernel
 have Z:IH.Nodup:=by decide +kernel
 walk_at "nm";clear u Z nd;rintro y M m ⟨D,so,i,rfl,hr,r,N⟩;have o:so.length<=26:=by have:=r.2.2;rw[yY] at this;lia
 have Y:∀z∈so,B9 z:=λz t=>r.1 z (by simp[t]);have B:zH (.str D.fst)=true:=AY (Deed.fst_ok hr.1);have c:ED (i.map a0W) (al 1) am=(i.drop 1).map .str:=(MW _ 1).trans (by rw[c1V]);have fin:∀{a b:List Str},BE so D=a->CK i D=b->∃M2:Own,M2.Sub M/\DD.post [.d D.d,.d (B3 so),.d (B3 i)] M (.d (.tuple [B3 a,B3 b])) M2:=λj k=>#[M,zT M,λv L x e=>by obtain⟨rfl,rfl,rfl⟩:=tD e;rw[j,k];exact#[rfl,rfl]]
 rw[D.d_eq] at *;left;refine AX D.word_ok (by decide +kernel) ?_;rw[if_neg nft,B7];cases h1:(D.word==a0Q "put") with
 | true=> walk_at "wkd";left;refine MT (by rw[zX];exact zN (b7X o 1) (by decide)) ?_;left;refine GU ?_;rw[c,show so.map a0W++[.str D.fst]=(so++[D.fst]).map .str by rw[xI];rfl];left;cases D <;> first | (exfalso;simp only[Deed.word] at h1;revert h1;decide +kernel) | exact fin rfl rfl
 | false=>
   left;walk_at "wkd";refine MR (ys:=[a0Q "name", a0Q "split"]) ?_;rw[show decide (D.word∈[a0Q "name", a0Q "split"])=(D.word==a0Q "name" || D.word==a0Q "split") by rw[a2Z];simp];cases n:(D.word==a0Q "name" || D.word==a0Q "split") with
   | true=>
     left;refine AI (AV 0) (by simp[IG]) ?_;refine CC ?_;left;refine#[by rw[zX];exact zQ o (by decide),λd=>!a0Z d (.str D.fst)||D.word==a0Q "split", id,?_,?_]
     . intro d hd g;obtain⟨z,t,rfl⟩:=zL.mp hd;left;refine#[rfl,?_];left;refine AX (AY (Y z t)) B ?_;rw[if_pos rfl];cases hq:a0Z (.str z) (.str D.fst) with
       | false=> left;refine#[rfl,by show _=(!a0Z (.str z) (.str D.fst)||D.word==a0Q "split");rw[hq];rfl,λ_=>?_];left;exact#[rfl,rfl]
       | true=> left;refine AX D.word_ok (by decide +kernel) ?_;rw[if_neg nft,B7];refine#[_,rfl,rfl,by show _=(!a0Z (.str z) (.str D.fst)||D.word==a0Q "split");rw[hq];rfl,λ_=>?_];left;exact#[rfl,rfl]
     rw[dA];have m:(so.filter λz=>decide (z≠D.fst)||D.word==a0Q "split").length<=26:=zN (yJ _ _) o;left;cases D <;> first | (exfalso;simp only[Deed.word] at n;revert n;decide +kernel) | skip
     all_goals
       walk_at "wkd";try refine AE (d:=_) rfl ?_
       left;refine MT (by rw[zX];exact zN (b7X m 1) (by decide)) ?_;left;refine GU ?_;rw[c,<-pA];left;refine fin ?_ rfl
     . exact congrArg (·++_) (b5X λz _=>(Bool.or_false _).symm)
     . exact congrArg (·++_) (List.filter_eq_self.mpr λz _=>Bool.or_true _).symm
   | false=>
     left;obtain⟨U,p⟩:∃l,l=A2N D:=#[_,rfl]
     cases D <;> first | (exfalso;simp only[Deed.word] at h1;revert h1;decide +kernel) | (exfalso;simp only[Deed.word] at n;revert n;decide +kernel) | skip
     all_goals
       refine mD ?_;refine QU λq hq=>?_;refine J2 ?_;left;try refine AE (d:=_) rfl ?_
       left;refine J2 ?_;left;try refine AE (d:=_) rfl ?_
       left;refine W3 ?_;refine#[zU,yD rfl,by simp only[zI,a9W];decide +kernel,?_];rw[yG hq];left;try refine AE (d:=_) rfl ?_
       left;refine AI (AV 0) (by simp[II]) ?_;refine CC ?_;left;refine#[by rw[zX];exact zQ o (by decide),λd=>!a0Z d (.str U),id,?_,?_];. intro d hd g;obtain⟨z,t,rfl⟩:=zL.mp hd;left;refine#[rfl,?_];left;refine AX (AY (Y z t)) (by first | exact B | exact AY (hr.1 _ (yV _ a1Q)) | (show zH (.str (a0Q ""))=ap;decide +kernel)) ?_;rw[if_pos rfl];refine#[_,rfl,rfl,by rw[p];rfl,λ_=>?_];left;exact#[rfl,rfl]
       rw[RL,p];left;first | exact fin rfl rfl | exact fin (tE Y).symm rfl
end
def LH:List Str:=["_law_pack","_law_names_here","_law_amount","_law_some"]
def IJ:List Str:=["_law_k","_law_names_here","_law_pack"]
def IK:List (Option Nat):=[am,al 1,al 0]
section
local macro_rules | `(tactic| walk_at "cs")=>`(tactic| first | exact @CS _ _ IJ IK (AB F8) LH (by decide +kernel) (by decide +kernel) rfl rfl)
theorem TH (F:Fun K "_law_start" "_law_start" F8 f O) (Y:mg "range"=am) (ah:mg "sorted"=am) (L:mg "tuple"=am) (Q:Has P w K mg base "_law_take" 1 ["_law_pack","_law_size"] BR):FnOk P w K mg base CX0 2 f O ["_law_pack","_law_names_here","_law_amount"] (spD K 3 F4):=by
 refine hD LH F #[rfl,rfl,rfl,by decide +kernel,rfl,by decide +kernel,by decide +kernel] ?_;walk_at "hi";have N:IJ.Nodup:=by decide +kernel
 walk_at "nm";clear N nd;rintro xs M hl ⟨p,o,q,n,rfl,m,T,hy,hn⟩;have j:n<=26:=zN hn hy.2.2;walk_at "dl";walk_at "dl";refine VQ (AV 0) (by simp[IK]) ?_;refine G3 ?_;left;refine#[by lia,by lia,?_];have Z:(C7 0 (n:Int).toNat).length=n:=by simp[C7]
 refine#[by rw[Z];exact zQ j (by decide),λA hA=>?_];have B:p≠A:=by rintro rfl;rw[m] at hA;cases hA
 refine#[λk acc r=>∃(w:List Th) (a:MO),acc=w.map thD/\w.length=k/\w.map (·.1)=q.take k/\(∀t∈w,0<=t.2.1/\t.2.1<=999)/\B5 a/\r=(M.put p a).put A (.l acc),#[[],o,rfl,rfl,by simp,by simp,T,by rw[Own.put_self m]],?_,?_,?_];. rintro k acc r ⟨w,a,rfl,hk,-,-,-,rfl⟩;exact#[zU,by simp[hk]]
 . rintro k d acc r hd ⟨w,a,rfl,hk,R,hb,c,rfl⟩;have U:k < n:=by rw[<-Z];exact(yT.mp hd).1
   have D:d = .int k:=by unfold C7 at hd;rw[zF,yA (by lia)] at hd;simp at hd;exact hd.symm
   subst D;have G:k < q.length:=by lia
   have hg:(q.map a0W)[k]?=al (.str q[k]):=by rw[zF,zV G];rfl
   left;refine BF (AK hg) ?_;left;refine B0 (by rw[yH B];exact zU) c (by decide) (by decide) λv o3 h0 h1 z=>?_;left;refine B0 zU z (by decide) (by decide) λb S _ _ I=>?_;left;refine#[by rw[yI,yH B.symm];exact zU,w++[(q[k],v,b - 20)],S,by simp[thD],by simp[hk],by rw[xI,R,a0V,zV G];rfl,?_,I,?_]
   . intro t i;rcases yW.mp i with h | h;. exact hb t h
     . have:t=(q[k],v,b - 20):=by simpa using h
       subst this;exact#[h0,by show v<=999;lia]
   . rw[yI];exact lS B
 . rintro acc r ⟨w,a,rfl,hk,R,hb,c,rfl⟩;rw[Z] at hk R;rw[yG (by rw[yH B.symm];exact hA)];left;have u:(w.map (·.1)).Nodup:=by rw[R];exact hy.2.1.sublist (List.take_sublist _ _)
   rw[<-nA];refine mK (by rw[zD];exact u) (by rw[zX];lia) λy hp x=>?_;obtain⟨g,J,X⟩:=nB hp;rw[J];left;refine G5 ?_;refine#[M.put p a,zT _,λp' cg n' e=>?_];simp only[List.cons.injEq,DS.loc.injEq,DS.d.injEq,PyData.int.injEq,Int.ofNat_inj,and_true] at e;obtain⟨rfl,e,rfl⟩:=e;have e:=JB e;subst e;refine#[y.map unB,a,rfl,#[by rw[X];exact cB x,λt i=>?_],by rw[<-R];exact g.map _,c,rfl];have i:=g.mem_iff.mp i;refine#[hy.1 _ ?_,hb t i];have:t.1∈q.take n:=by rw[<-R];exact zL.mpr #[t,i,rfl]
   exact a9Q this
end
def XC:List Str:=["_law_head","_law_cells","_law_pack","_law_spare","_law_amount","_law_start_here","_law_some","_law_lines","_law_cell","_law_digits","_law_hand","_law_deed_here"]
section
local macro_rules | `(tactic| walk_at "x")=>`(tactic| first | ((with_reducible show PS _ (.Assign [.Tuple ..] ..) _);exact @V8 _ _ _ _ _ _ (by walk_at "e") (by walk_at "g") (by rfl) (by rfl) (by rfl)) | ((with_reducible show PG _ (.Tuple ..) _);exact @f6 _ K _ _ _ _ (2) rfl rfl (by walk_at "j") (by rfl) (by rfl)))
theorem XD (F:Fun K "_law_book" "_law_book" JU f fd) (ae:mg "tuple"=am) (dn:Has P w K mg base "_law_after" 1 ["_law_deed_here","_law_some","_law_spare"] DD) (fh:Has P w K mg base "_law_deed" 2 ["_law_pack","_law_some","_law_spare"] GB) (bg:Has P w K mg base "_law_mixed" 1 ["_law_cell"] DC) (dq:Has P w K mg base "_law_names" 2 ["_law_pack","_law_amount"] EZ) (dr:Has P w K mg base "_law_start" 2 ["_law_pack","_law_names_here","_law_amount"] F4) (ag:Has P w K mg base "_law_take" 1 ["_law_pack","_law_size"] BR):FnOk P w K mg base CX0 3 f fd ["_law_head","_law_cells"] (spD K 2 NA):=by
 refine hD XC F #[rfl,rfl,rfl,by decide +kernel,rfl,by decide +kernel,by decide +kernel] ?_;walk_at "hd";rintro xs M hl ⟨h,cs,rfl,hh,uv,og⟩;left;refine EY ?_;left;refine HI hh λv=>?_;left;intro p hp;left;refine bZ zU #[v,rfl] (by decide) (by decide) λys o1 Nd hy Nf Ll gr=>?_;rw[yI];left;refine B0 zU gr (by decide) (by decide) λva o2 a0 a1 de=>?_;rw[yI];obtain⟨n,rfl⟩:∃n:Nat,va=(n:Int):=#[va.toNat,by lia]
 have U:namesOK ys:=#[hy,Ll,by lia]
 left;refine cA zU de U (by lia) λT o3 Lm Y ic=>?_;have Lo:T.length<=5:=by have:=Y.length_eq;rw[zX,a2Q] at this;lia
 rw[yI];left;refine GU ?_;rw[A0Z,<-List.map_take];left;refine GU ?_;rw[MW,<-c1V];left;refine EY ?_;left;intro A hA;have fu:p≠A:=by rintro rfl;rw[zU] at hA;cases hA
 have B:M A=none:=by rw[yH fu.symm] at hA;exact hA
 walk_at "wks";try walk_at "unf"
 refine ET (λi M1=>∃(t:List (Str×Deed)) (so a:List Str) (S x G N:Option DS),M.Sub M1/\M1 A=al (.l (t.map CO))/\B33 T t/\t.length<=cs.length/\i=[al (.d (.int h)),al (.d (.list (cs.map .int))),al (.loc p),al (.d (B3 a)),al (.d (.int n)),al (.d (wD T)),al (.d (B3 so)),al (.loc A),S,x,G,N]) ?_ ?_
 . try walk_at "unf"
   refine ES ?_;refine CC ?_;left;refine#[λk i M1=>k<=cs.length/\∃(t:List (Str×Deed)) (so a:List Str) (S x G N:Option DS),M.Sub M1/\M1 A=al (.l (t.map CO))/\(FQ (ys.take n) (ys.drop n) (t.map (·.2))/\OZ (ys.take n) (ys.drop n) (t.map (·.2))=(so,a))/\(∀l∈t,B9 l.1)/\t.length<=k/\namesOK (so++a)/\i=[al (.d (.int h)),al (.d (.list (cs.map .int))),al (.loc p),al (.d (B3 a)),al (.d (.int n)),al (.d (wD T)),al (.d (B3 so)),al (.loc A),S,x,G,N],#[xT _,[],ys.take n,ys.drop n,_,_,_,_,?_,zU,#[trivial,rfl],by simp,by simp,by rw[b1X];exact U,rfl],?_,?_];. exact((zT M).put hp).put B
   . rintro k d i M1 hd ⟨Lp,t,so,a,S,x,G,N,Z,g,hb,O,I,r,rfl⟩;have ug:k < cs.length:=by have:=(yT.mp hd).1;simpa using this
     obtain⟨c,hc,rfl⟩:=zL.mp (yN hd);left;refine EY ?_;left;refine HI (uv c hc) λv2=>?_;left;intro q hq;have y:q≠A:=by rintro rfl;rw[g] at hq;cases hq
     have x_:M q=none:=by
       cases e:M q with
       | none=>rfl
       | some R=>rw[Z q R e] at hq;cases hq
     left;refine D7 ?_;left;refine B0 zU #[v2,rfl] (by decide) (by decide) λv3 o4 b0 b1 nt=>?_;rw[yI];obtain⟨m,Lq,X⟩:=PJ (ys:=[a0Q "me","you","abcdefgh"]) b0 b1;refine BF (d:=.str m) Lq ?_;have mn:zH (B3 so)=true:=DF λz Q=>r.1 z (by simp[Q]);have mr:zH (B3 a)=true:=DF λz Q=>r.1 z (by simp[Q]);walk_at "wkd";refine AX mn rfl ?_;rw[if_pos rfl,CD];have keep:∀R:MO,M.Sub (M1.put q R):=λR b o e=>by rw[yH (by rintro rfl;rw[x_] at e;cases e)];exact Z b o e
     cases rq:so.isEmpty with
     | false=>
       have J:so≠[]\/a≠[]:=.inl λq=>by rw[q] at rq;cases rq
       left
       . refine RJ zU nt r J λD o5 hr j u Cf=>?_;rw[yI];left;try walk_at "unf"
         refine QK ?_;left;refine RK hr r j ?_;left;refine G2 ?_;walk_at "dl";refine#[CG (ds:=t.map CO) (by rw[yH y.symm];exact g),?_];left;refine BP (ds:=t.map CO) (by rw[yH y.symm];exact g) (by rw[zX];exact zQ (show _<=50 by lia) (by decide)) ?_;refine#[by lia,t++[(m,D)],BE so D,CK a D,_,_,_,_,?_,?_,?_,?_,?_,r.sub (GY u),rfl];. intro b o e;rw[yH (by rintro rfl;rw[B] at e;cases e)];exact keep _ b o e
         . rw[xI];exact zU
         . rw[xI];exact LX hb.1 hb.2 j u hr
         . intro l L;rcases yW.mp L with q1 | q1;. exact O l q1
           . have:l=(m,D):=by simpa using q1
             subst this;exact Z1 _ X
         . rw[yY];simp;lia
     | true=>
       walk_at "wkd";refine AX mr rfl ?_;rw[if_pos rfl,CD];cases jy:a.isEmpty with
       | false=>
         have J:so≠[]\/a≠[]:=.inr λq=>by rw[q] at jy;cases jy
         left
         . refine RJ zU nt r J λD o5 hr j u Cf=>?_;rw[yI];left;try walk_at "unf"
           refine QK ?_;left;refine RK hr r j ?_;left;refine G2 ?_;walk_at "dl";refine#[CG (ds:=t.map CO) (by rw[yH y.symm];exact g),?_];left;refine BP (ds:=t.map CO) (by rw[yH y.symm];exact g) (by rw[zX];exact zQ (show _<=50 by lia) (by decide)) ?_;refine#[by lia,t++[(m,D)],BE so D,CK a D,_,_,_,_,?_,?_,?_,?_,?_,r.sub (GY u),rfl];. intro b o e;rw[yH (by rintro rfl;rw[B] at e;cases e)];exact keep _ b o e
           . rw[xI];exact zU
           . rw[xI];exact LX hb.1 hb.2 j u hr
           . intro l L;rcases yW.mp L with q1 | q1;. exact O l q1
             . have:l=(m,D):=by simpa using q1
               subst this;exact Z1 _ X
           . rw[yY];simp;lia
       | true=> left;exact#[by lia,t,so,a,_,_,_,_,keep _,by rw[yH y.symm];exact g,hb,O,by lia,r,rfl]
   . rintro i M1 ⟨Lp,t,so,a,S,x,G,N,Z,g,hb,O,I,r,rfl⟩;rw[zX] at I;exact#[t,so,a,S,x,G,N,Z,g,B33.of (cs:=cs) Lm Y Lo (by rw[b1X];exact U) #[hb.1,hb.2,O,I,r] og,I,rfl]
 . rintro i M1 ⟨t,so,a,S,x,G,N,Z,g,yi,Lr,rfl⟩;left;refine RM g ?_;left;refine#[M,Z,λh' Bs e=>?_];obtain⟨rfl,rfl⟩:=u4 e;exact#[rfl,T,t,rfl,yi,Lr]
end
def XE:List Str:=["_law_deed_here"]
theorem XF (F:Fun K "_law_must" "_law_must" JV f O):FnOk P w K mg base CX0 1 f O ["_law_deed_here"] (spD K 1 EK):=by
 refine hD XE F #[rfl,rfl,rfl,by decide +kernel,rfl,by decide +kernel,by decide +kernel] ?_;walk_at "hd";rintro o M m ⟨D,rfl,hr⟩;have i:=hr.2.1;have fin:∀{y:DS}{ms:List Str},D.must=ms->y = .d (B3 ms)->∃M2:Own,M2.Sub M/\EK.post [.d D.d] M y M2:=λc t=>#[M,zT M,λn e=>by simp only[List.cons.injEq,DS.d.injEq,and_true] at e;obtain rfl:=CM e;rw[c];exact#[t,rfl]]
 rw[D.d_eq] at *;left;refine AX D.word_ok (by decide +kernel) ?_;rw[if_neg nft,B7];cases h1:(D.word==a0Q "put") with
 | true=>
   left;refine D7 ?_;left;cases D <;> first | (exfalso;simp only[Deed.word] at h1;revert h1;decide +kernel) | skip
   exact fin (ms:=[]) (by simp[Deed.must,Deed.names,Deed.made,Deed.fst,Deed.rest]) rfl
 | false=>
   left;refine AX D.word_ok (by decide +kernel) ?_;rw[if_neg nft,B7];cases a:(D.word==a0Q "join") with
   | true=>
     left;refine D7 ?_;left;cases D <;> first | (exfalso;simp only[Deed.word] at a;revert a;decide +kernel) | skip
     try refine AE (d:=_) rfl ?_
     left;exact fin (ms:=[_,_]) (by simp[Deed.must,Deed.names,Deed.made,Deed.fst,Deed.rest]) rfl
   | false=>
     left;refine D7 ?_;left;cases D <;> first | (exfalso;simp only[Deed.word] at h1;revert h1;decide +kernel) | (exfalso;simp only[Deed.word] at a;revert a;decide +kernel) | skip
     all_goals
       left;exact fin (ms:=[_]) (by first | (simp[Deed.must,Deed.names,Deed.made,Deed.fst,Deed.rest];done) | (simp[Deed.must,Deed.names,Deed.made,Deed.fst,Deed.rest,a8Q i];done)) rfl
def XG:List Str:=["_law_deed_here"]
section
local macro_rules | `(tactic| walk_at "x")=>`(tactic| first | ((with_reducible show PT _ (.Compare _ [.In] ..) _);exact @BJ _ _ _ _ _ _ _ _ (@kIn _ K rfl) (by walk_at "e") (by walk_at "e") (by with_unfolding_all rfl)))
theorem XH (F:Fun K "_law_made" "_law_made" JW f O):FnOk P w K mg base CX0 1 f O ["_law_deed_here"] (spD K 1 JL):=by
 refine hD XG F #[rfl,rfl,rfl,by decide +kernel,rfl,by decide +kernel,by decide +kernel] ?_;walk_at "hd";rintro o M m ⟨D,rfl,hr⟩;have fin:∀{y:DS},y = .d (VY D.made)->∃M2:Own,M2.Sub M/\JL.post [.d D.d] M y M2:=λt=>#[M,zT M,λn e=>by simp only[List.cons.injEq,DS.d.injEq,and_true] at e;obtain rfl:=CM e;exact#[t,rfl]]
 rw[D.d_eq] at *;left;refine AX D.word_ok (by decide +kernel) ?_;rw[if_neg nft,B7];cases h1:(D.word==a0Q "put") with
 | true=>
   left;cases D <;> first | (exfalso;simp only[Deed.word] at h1;revert h1;decide +kernel) | skip
   exact fin rfl
 | false=>
   left;walk_at "wkd";refine MR (ys:=[a0Q "name", a0Q "split"]) ?_;rw[show decide (D.word∈[a0Q "name", a0Q "split"])=(D.word==a0Q "name" || D.word==a0Q "split") by rw[a2Z];simp];cases a:(D.word==a0Q "name" || D.word==a0Q "split") with
   | true=>
     left;cases D <;> first | (exfalso;simp only[Deed.word] at a;revert a;decide +kernel) | skip
     all_goals
       try refine AE (d:=_) rfl ?_
       exact fin rfl
   | false=> left;cases D <;> first | (exfalso;simp only[Deed.word] at h1;revert h1;decide +kernel) | (exfalso;simp only[Deed.word] at a;revert a;decide +kernel) | exact fin rfl
end
def LI:List Str:=["_law_lines","_law_made_at","_law_found","_law_number","_law_deed_here","_law_made_here"]
def IL:List Str:=["_law_name","_law_made_at"]
def IM:List (Option Nat):=[am,al 1]
section
local macro_rules | `(tactic| walk_at "cs")=>`(tactic| first | exact @CS _ _ IL IM (AB F9) LI (by decide +kernel) (by decide +kernel) rfl rfl)
local macro_rules | `(tactic| walk_at "x")=>`(tactic| first | ((with_reducible show PE _ (.Dict ..) _);exact @MN _ _) | ((with_reducible show PT _ (.Compare _ [.In] ..) _);exact @V5 _ _ _ _ _ _ (@Q3 _ _ _ _ _ ef (by walk_at "e") (by walk_at "e")) (by with_unfolding_all rfl)) | ((with_reducible show PS _ (.Assign [.Subscript ..] ..) _);exact @K5 _ _ _ _ _ _ _ _ _ ef (by walk_at "e") (by walk_at "e") (by walk_at "e") (by rfl)))
local macro_rules | `(tactic| walk_at "y")=>`(tactic| first | ((with_reducible show PE _ (.Subscript ..) _);exact @D6 _ _ _ _ _ _ ef (@pv _ 1 _ _ (by rfl) (by walk_at "lc") (by decide) (by decide)) (@pv _ 0 _ _ (by rfl) (by walk_at "lc") (by decide) (by decide)) (λ_ _=>rfl)))
theorem TJ (F:Fun K "_law_needs" "_law_needs" F9 f O) (D:mg "len"=am) (L:mg "range"=am) (fi:Has P w K mg base "_law_made" 1 ["_law_deed_here"] JL) (fj:Has P w K mg base "_law_must" 1 ["_law_deed_here"] EK):FnOk P w K mg base CX0 2 f O ["_law_lines"] (spD K 1 H0):=by
 refine hD LI F #[rfl,rfl,rfl,by decide +kernel,rfl,by decide +kernel,by decide +kernel] ?_;walk_at "hi";have y:IL.Nodup:=by decide +kernel
 walk_at "nm";clear y nd;rintro xs M hl ⟨a,rfl,hg⟩;have Z:=hg.few;left;refine N8 λp hp=>?_;left;refine EY ?_;left;intro q hq;have Q:p≠q:=by rintro rfl;rw[zU] at hq;cases hq
 walk_at "wks";try walk_at "unf"
 refine ET (λt M1=>∃(G:List (List Nat)) (o:List (Str×PyData)),G.length=a.length/\NdG (dsL a) G/\M1=(M.put p (.d (AN o))).put q (.l (G.map λg=>.list (AA g)))/\∃m N b:Option DS,t=[al (.d (AQ a)),al (.loc p),al (.loc q),m,N,b]) ?_ ?_
 . try walk_at "unf"
   refine ES ?_;refine G3 ?_;left;refine G4 ?_;rw[zX];left;refine#[by lia,by lia,?_];refine#[λk t M1=>∃(G:List (List Nat)) (o:List (Str×PyData)),G.length=k/\NdG (dsL a) G/\MdT (dsL a) o k/\M1=(M.put p (.d (AN o))).put q (.l (G.map λg=>.list (AA g)))/\∃m N b:Option DS,t=[al (.d (AQ a)),al (.loc p),al (.loc q),m,N,b],#[[],[],rfl,#[by simp,by simp],MdT.start _,rfl,_,_,_,rfl],?_,?_]
   . rintro k d t M1 hd ⟨G,o,hG,hN,r,rfl,m,N,b,rfl⟩;obtain⟨hk,rfl⟩:=WI hd;obtain⟨l,mv,T,z,J⟩:=GF hk;have hr:=hg.real l T;have R:=r.few;left;refine AE (ds:=a.map CO) (AK z) ?_;left;try refine AE (ds:=[.str l.1,l.2.d]) (d:=l.2.d) rfl ?_
     left;refine G2 ?_;walk_at "dl";refine#[CG (ds:=G.map λg=>.list (AA g)) zU,?_];left;refine BS (AV 0) (by simp[IM]) ?_;refine CC ?_;left;refine j2 hr ?_;refine#[_,rfl,by rw[zX];exact zQ (ZL _) (by decide),cTs o,fTs o,?_,?_]
     . rintro d hd2 A acc S hA rfl;obtain⟨n,hn,rfl⟩:=zL.mp hd2;have B:p≠A:=by rintro rfl;rw[yH Q,zU] at hA;cases hA
       walk_at "dl";refine#[rfl,?_];left;refine W4 ?_;left;refine#[p,o,n,rfl,rfl,by rw[yH B,yH Q];exact zU,?_];refine#[_,rfl,rfl,rfl,λhc=>?_];obtain⟨v,x⟩:=xY.mp (show(AO o n).isSome=ap from hc);refine D9 ?_;left;refine#[p,o,n,v,rfl,rfl,by rw[yH B,yH Q];exact zU,x,?_,rfl];show DS.d v = .d ((AO o n).getD .none);rw[x];rfl
     rw[fU r];left;refine BP (ds:=G.map λg=>.list (AA g)) zU (by rw[zX];exact zQ (show _<=50 by lia) (by decide)) ?_;rw[yI,show(G.map λg=>PyData.list (AA g))++[.list (AA (l.2.must.filterMap (lkN o)))]=((G++[l.2.must.filterMap (lkN o)]).map λg=>PyData.list (AA g)) by rw[xI];rfl];have X:NdG (dsL a) (G++[l.2.must.filterMap (lkN o)]):=hN.snoc (λj=>by rw[hG];exact A0v hg.fresh J r j) (zN (List.length_filterMap_le _ _) (ZL _));have Y:(G++[l.2.must.filterMap (lkN o)]).length=k+1:=by rw[yY,hG];rfl
     left;refine ZK hr ?_;left;refine QT ?_;have c:=A2L J;cases u:l.2.made with
     | none=> rw[u] at c;left;exact#[_,_,Y,X,r.same c,rfl,_,_,_,rfl]
     | some n=> rw[u] at c;left;refine HH ?_;left;refine#[p,o,n,.int (k:Int),rfl,rfl,rfl,by rw[yH Q];exact zU,zQ (show _<=50 by lia) (by decide),?_];refine#[_,_,Y,X,r.put hg.fresh c,?_,_,_,_,rfl];rw[Own.put_comm (a8Q Q),yI]
   . rintro t M1 ⟨G,o,hG,hN,r,rfl,m,N,b,rfl⟩;rw[Z9] at hG;exact#[G,o,hG,hN,rfl,_,_,_,rfl]
 . rintro t M1 ⟨G,o,hG,hN,rfl,m,N,b,rfl⟩;try walk_at "unf"
   refine K7 (i:=2) rfl zU ?_;have I:M q=none:=by rw[yH (a8Q Q)] at hq;exact hq
   rw[yG (by rw[yH (a8Q Q)];exact I)];left;refine#[M,(zT M).put hp,λU e=>?_];simp only[List.cons.injEq,DS.d.injEq,PyData.tuple.injEq,and_true] at e;have e:=FF e;subst e;exact#[G,rfl,hG,hN,rfl]
end
def LJ:List Str:=["_law_lines","_law_bits","_law_wants","_law_found","_law_number"]
def IN:List Str:=["_law_need","_law_found"]
def IP:List (Option Nat):=[am,al 3]
section
local macro_rules | `(tactic| walk_at "cs")=>`(tactic| first | exact @CS _ _ IN IP (AB FA) LJ (by decide +kernel) (by decide +kernel) rfl rfl)
local macro_rules | `(tactic| walk_at "x")=>`(tactic| first | ((with_reducible show PE _ (.Compare _ [.In] ..) _);exact @C6 _ _ _ _ _ _ _ _ (@cH _ K rfl hu) (by walk_at "e") (by walk_at "e") (by with_unfolding_all rfl)))
theorem TK (F:Fun K "_law_stand" "_law_stand" FA f O) (L:mg "all"=am) (R:mg "len"=am) (D:mg "range"=am) (S:mg "tuple"=am) (J:Has P w K mg base "_law_needs" 2 ["_law_lines"] H0):FnOk P w K mg base CX0 3 f O ["_law_lines","_law_bits"] (spD K 2 KL):=by
 refine hD LJ F #[rfl,rfl,rfl,by decide +kernel,rfl,by decide +kernel,by decide +kernel] ?_;walk_at "hi";have x:IN.Nodup:=by decide +kernel
 walk_at "nm";clear x nd;rintro Z M Y ⟨p,b,rfl,hg⟩;have X:=hg.few;left;refine NB hg λG hG hN=>?_;left;refine EY ?_;left;intro q hq;walk_at "wks";try walk_at "unf"
 refine ET (λt M1=>∃r,isSt p r/\M1=M.put q (.l (AA r))/\∃N:Option DS,t=[al (.d (AQ p)),al (.d (.int b)),al (.d (BU G)),al (.loc q),N]) ?_ ?_
 . try walk_at "unf"
   refine ES ?_;refine G3 ?_;left;refine G4 ?_;rw[zX];left;refine#[by lia,by lia,?_];refine#[λk t M1=>∃r,isSt p r/\(∀m∈r,m < k)/\M1=M.put q (.l (AA r))/\∃N:Option DS,t=[al (.d (AQ p)),al (.d (.int b)),al (.d (BU G)),al (.loc q),N],#[[],isSt.nil _,by simp,rfl,_,rfl],?_,?_]
   . rintro k d t M1 hd ⟨r,hs,hb,rfl,N,rfl⟩;obtain⟨hk,rfl⟩:=WI hd;have o:∀m∈r,m < k+1:=λm n=>by have:=hb m n;lia
     obtain⟨g,a⟩:∃g,G[k]?=al g:=#[_,zV (by lia)]
     left;refine vL (show(0:Int)<=(k:Int) by lia) ?_;left;refine AX rfl rfl ?_;rw[if_neg nft,WH];cases decide (b/2 ^ ((k:Int)).toNat % 2=1) with
     | false=> left;exact#[r,hs,o,rfl,_,rfl]
     | true=>
       left;refine BS (AV 0) (by simp[IP]) ?_;refine CC ?_;left;refine BF (ds:=G.map λg=>.list (AA g)) (d:=.list (AA g)) (AK (by rw[zF,a];rfl)) ?_;have y:=hN.few g (yN a);refine#[_,rfl,by rw[AJ];exact zQ y (by decide),λ_=>ap,fIn r,?_,?_]
       . rintro d hd2 A acc I hA rfl;obtain⟨i,hi,rfl⟩:=zL.mp hd2;have u:q≠A:=by rintro rfl;rw[zU] at hA;cases hA
         walk_at "dl";refine#[rfl,?_];walk_at "dl";refine#[rfl,rfl,λ_=>?_];left;refine RP (ds:=AA r) (by rw[yH u];exact zU) rfl (D4 _) ?_;exact#[rfl,rfl]
       rw[fV];left;refine HE ?_;cases v:(g.map λj=>decide (j∈r)).all id with
       | false=> left;exact#[r,hs,o,rfl,_,rfl]
       | true=>
         have U:∀j∈BI (dsL p) k,j∈r:=λj c=>by have h1:j∈g:=(hN.mem k g a j).mpr c;have:=List.all_eq_true.mp v (decide (j∈r)) (zL.mpr #[j,h1,rfl]);exact of_decide_eq_true this
         have T:=hs.len;left;refine G2 ?_;walk_at "dl";refine#[CG (ds:=AA r) zU,?_];left;refine BP (ds:=AA r) zU (by rw[AJ];exact zQ (show _<=50 by lia) (by decide)) ?_;rw[yI,KG];refine#[r++[k],hs.snoc hb hk U,λm n=>?_,rfl,_,rfl];rcases yW.mp n with z | z;. exact o m z
         . rw[show m=k by simpa using z];lia
   . rintro t M1 ⟨r,hs,hb,rfl,N,rfl⟩;exact#[r,hs,rfl,_,rfl]
 . rintro t M1 ⟨r,hs,rfl,N,rfl⟩;left;refine RM zU ?_;refine#[M,(zT M).put hq,λQ B e=>?_];simp only[List.cons.injEq,DS.d.injEq,PyData.tuple.injEq,and_true] at e;have e:=FF e.1;subst e;exact#[r,rfl,hs,rfl]
end
def LK:List Str:=["_law_deed_here","_law_found","_law_name"]
def IQ:List Str:=["_law_part"]
def IR:List (Option Nat):=[am]
section
local macro_rules | `(tactic| walk_at "cs")=>`(tactic| first | exact @CS _ _ IQ IR (AB FB) LK (by decide +kernel) (by decide +kernel) rfl rfl)
local macro_rules | `(tactic| walk_at "x")=>`(tactic| first | ((with_reducible show PT _ (.Compare _ [.In] ..) _);exact @BJ _ _ _ _ _ _ _ _ (@kIn _ K rfl) (by walk_at "e") (by walk_at "e") (by with_unfolding_all rfl)) | ((with_reducible show PE _ (.Dict ..) _);exact @VI _ _ _ _ _ (@IX _ _ _ _ _ _ _ _ _ (by walk_at "e") (by walk_at "e") (@VH _ _)) rfl rfl (by simp) (by decide)) | ((with_reducible show PE _ (.Dict ..) _);exact @VI _ _ _ _ _ (@IX _ _ _ _ _ _ _ _ _ (by walk_at "e") (by walk_at "e") (@IX _ _ _ _ _ _ _ _ _ (by walk_at "e") (by walk_at "e") (@VH _ _))) rfl rfl (by simp) (by decide)) | ((with_reducible show PE _ (.Dict ..) _);exact @MN _ _) | ((with_reducible show PS _ (.Assign [.Subscript ..] ..) _);exact @K5 _ _ _ _ _ _ _ _ _ ef (by walk_at "e") (by walk_at "e") (by walk_at "e") (by rfl)))
theorem TL (F:Fun K "_law_kinds" "_law_kinds" FB f O) (z:mg "isinstance"=am) (T:mg "str"=am):FnOk P w K mg base CX0 1 f O ["_law_deed_here"] (spD K 1 HA):=by
 refine hD LK F #[rfl,rfl,rfl,by decide +kernel,rfl,by decide +kernel,by decide +kernel] ?_;walk_at "hi";have j:IQ.Nodup:=by decide +kernel
 walk_at "nm";clear j nd;rintro I M N ⟨D,rfl,hr⟩;have r:=hr.2.1;have fin:∀{m:List (Str×PyData)},JK D=m->∃M2:Own,M2.Sub M/\HA.post [.d D.d] M (.d (.dict (AN m))) M2:=λg=>#[M,zT M,λv e=>by simp only[List.cons.injEq,DS.d.injEq,and_true] at e;obtain rfl:=CM e;exact#[by rw[g],rfl]]
 rw[D.d_eq] at *;left;walk_at "wkd";refine MR (ys:=[a0Q "count", a0Q "move"]) ?_;rw[show decide (D.word∈[a0Q "count", a0Q "move"])=(D.word==a0Q "count" || D.word==a0Q "move") by rw[a2Z];simp];cases h1:(D.word==a0Q "count" || D.word==a0Q "move") with
 | true=>
   left;refine QU λq hq=>?_;refine J2 ?_;left;refine W3 ?_;refine#[zU,yD rfl,by simp,?_];rw[yG hq];cases D <;> first | (exfalso;simp only[Deed.word] at h1;revert h1;decide +kernel) | skip
   . exact fin (oP _ _)
   . exact fin (jH _ _)
 | false=>
   left;walk_at "wkd";refine MR (ys:=[a0Q "split", a0Q "join"]) ?_;rw[show decide (D.word∈[a0Q "split", a0Q "join"])=(D.word==a0Q "split" || D.word==a0Q "join") by rw[a2Z];simp];cases o:(D.word==a0Q "split" || D.word==a0Q "join") with
   | true=>
     left;cases D <;> first | (exfalso;simp only[Deed.word] at o;revert o;decide +kernel) | skip
     all_goals
       refine QU λq hq=>?_;refine J2 ?_;left;try refine AE (d:=_) rfl ?_
       left;refine J2 ?_;left;try refine AE (d:=_) rfl ?_
       left;refine W3 ?_;refine#[zU,yD rfl,(by simp only[zI,a9W,xV,a8J,xX,not_false_eq_true,List.nodup_nil,and_true];exact r),?_];rw[yG hq];first | exact fin (jI r _ _) | exact fin (oQ r)
   | false=>
     have S:∃L:List Str,L.Nodup/\L.length<=2/\(((ED (.str D.word::.str D.fst::D.rest) (al 1) (al 3)).filter fW).map id)=L.map a0W/\(ED (.str D.word::.str D.fst::D.rest) (al 1) (al 3)).length<=2/\JK D=L.map λx=>(x,a0W (a0Q "end")):=by
       cases D <;> first | (exfalso;simp only[Deed.word] at h1;revert h1;decide +kernel) | (exfalso;simp only[Deed.word] at o;revert o;decide +kernel) | skip
       . exact#[[_],by simp,by simp,rfl,yD rfl,rfl]
       . exact#[[_],by simp,by simp,rfl,yD rfl,rfl]
       . exact#[[_,_],(by simp only[zI,a9W,xV,a8J,xX,not_false_eq_true,List.nodup_nil,and_true];exact r),by simp,rfl,yD rfl,rfl]
     obtain⟨L,b,X,c,u,p⟩:=S;left;refine N8 λq hq=>?_;walk_at "wks";try walk_at "unf"
     refine ET (λt M1=>M1=M.put q (.d (AN (L.map λx=>(x,a0W (a0Q "end")))))/\∃a:Option DS,t=[al (.d (.tuple (.str D.word::.str D.fst::D.rest))),al (.loc q),a]) ?_ ?_
     . try walk_at "unf"
       refine ES ?_;refine CC ?_;refine AI (AV 0) (by simp[IR]) ?_;refine BG ?_;left;refine IZ ?_;refine#[_,rfl,zQ u (by decide),fW,id,?_,?_]
       . intro d hd y;walk_at "dl";refine#[rfl,?_];cases d <;> (
           left;exact#[rfl,rfl,λ_=>by left;exact#[rfl,rfl]])
       rw[c];refine#[_,rfl,λk t M1=>M1=M.put q (.d (AN ((L.take k).map λx=>(x,a0W (a0Q "end")))))/\∃a:Option DS,t=[al (.d (.tuple (.str D.word::.str D.fst::D.rest))),al (.loc q),a],#[rfl,_,rfl],?_,?_]
       . rintro k d t M1 hd ⟨rfl,a,rfl⟩;rw[zF] at hd;cases hn:L[k]? with
         | none=>rw[hn] at hd;cases hd
         | some n=> rw[hn] at hd;cases hd;left;refine HH ?_;left;refine#[q,_,n,.str (a0Q "end"),rfl,rfl,rfl,zU,by rw[zX,a2Q];exact zQ (show _<=2 by lia) (by decide),?_];rw[oR b hn,yI];exact#[rfl,_,rfl]
       . rintro t M1 ⟨rfl,a,rfl⟩;rw[zX,a1V];exact#[rfl,_,rfl]
     . rintro t M1 ⟨rfl,a,rfl⟩;try walk_at "unf"
       refine cG (i:=1) rfl zU ?_;rw[yG hq];left;exact fin p
end
def TM:List Str:=["_law_one","_law_other","_law_here","_law_there","_law_name","_law_both"]
section
local macro_rules | `(tactic| walk_at "x")=>`(tactic| first | ((with_reducible show PS _ (.Assign [.Tuple ..] (.Tuple ..) _) _);exact @aO _ _ (2) (3) _ _ _ _ _ _ _ _ _ _ _ rfl nd rfl rfl (by decide) rfl rfl (by walk_at "a") rfl (by rfl)) | ((with_reducible show PT _ (.Compare _ [.In] ..) _);exact @V5 _ _ _ _ _ _ (@Q3 _ _ _ _ _ ef (by walk_at "e") (by walk_at "e")) (by with_unfolding_all rfl)))
local macro_rules | `(tactic| walk_at "y")=>`(tactic| first | ((with_reducible show PI _ _ (.Name ..) _);exact @tJ _ _ _ _ (@pv _ 2 _ _ (by rfl) (by walk_at "lc") (by decide) (by decide))) | ((with_reducible show PE _ (.Subscript ..) _);exact @D6 _ _ _ _ _ _ ef (@pv _ 2 _ _ (by rfl) (by walk_at "lc") (by decide) (by decide)) (@pv _ 4 _ _ (by rfl) (by walk_at "lc") (by decide) (by decide)) (λ_ _=>rfl)) | ((with_reducible show PE _ (.Subscript ..) _);exact @D6 _ _ _ _ _ _ ef (@pv _ 3 _ _ (by rfl) (by walk_at "lc") (by decide) (by decide)) (@pv _ 4 _ _ (by rfl) (by walk_at "lc") (by decide) (by decide)) (λ_ _=>rfl)))
theorem TN (F:Fun K "_law_touch" "_law_touch" HS f O) (ah:mg "sorted"=am) (Z:Has P w K mg base "_law_kinds" 1 ["_law_deed_here"] HA):FnOk P w K mg base CX0 2 f O ["_law_one","_law_other"] (spD K 2 HB):=by
 refine hD TM F #[rfl,rfl,rfl,by decide +kernel,rfl,by decide +kernel,by decide +kernel] ?_;walk_at "hd";rintro u M q ⟨D,t,rfl,hD,hE⟩;have fin:∀{b:Bool},E1 D.d t.d=b->∃M2:Own,M2.Sub M/\HB.post [.d D.d,.d t.d] M (.d (.bool b)) M2:=λr=>#[M,zT M,λc g e=>by simp only[List.cons.injEq,DS.d.injEq,and_true] at e;obtain rfl:=CM e.1;obtain rfl:=CM e.2;exact#[by rw[r],rfl]]
 left;refine S4 hD ?_;left;refine S4 hE ?_;left;refine#[_,_,rfl,?_];try walk_at "unf"
 refine ET (λp M1=>M1=M/\(∀n∈D.names,GL D t n=bj)) ?_ ?_
 . try walk_at "unf"
   refine ES ?_;refine tK ?_;left;rw[show fH (JK D)=D.names.map .str by unfold fH JK;rw[zD];rfl];refine#[λk Y i=>i=M/\(∀n∈D.names.take k,GL D t n=bj)/\∃x y,Y=[al (.d D.d),al (.d t.d),al (.d (.dict (AN (JK D)))),al (.d (.dict (AN (JK t)))),x,y],#[rfl,by simp,_,_,rfl],?_,?_]
   . rintro k d Y i hd ⟨rfl,hk,x,y,rfl⟩;rw[zF] at hd;cases hdk:D.names[k]? with
     | none=>rw[hdk] at hd;cases hd
     | some n=>
       rw[hdk] at hd;cases hd;have hn:n∈D.names:=yN hdk;have next:GL D t n=bj->∀m∈D.names.take (k+1),GL D t m=false:=λh m j=>by
         rw[a0V,hdk] at j;rcases yW.mp j with h1 | h1;. exact hk m h1
         . have:m=n:=by simpa using h1
           subst this;exact h
       left;refine u6 ?_;left;refine#[JK t,n,rfl,rfl,?_];rw[S3];by_cases j:n∈t.names
       . rw[if_pos j];left;refine D7 ?_;left;refine YM ?_;left;refine#[JK D,n,.str (JJ (BN D.d n)),rfl,rfl,by rw[S3,if_pos hn],?_];left;refine YM ?_;left;refine#[JK t,n,.str (JJ (BN t.d n)),rfl,rfl,by rw[S3,if_pos j],?_];left;refine mL (rS (ss:=[JJ (BN D.d n),JJ (BN t.d n)]) (by show 2 < 64;decide) λss hp hs=>?_);have key:=A0u _ _ (FE D.d n) (FE t.d n) hp hs;have o:zH (.list (ss.map .str))=true:=OV λs G=>by
           have:=hp.mem_iff.mp G;rcases yX.mp this with rfl | h;. exact oO _ (FE D.d n)
           . have e:s=JJ (BN t.d n):=by simpa using h
             subst e;exact oO _ (FE t.d n)
         left;refine D7 ?_;left;refine AX o (by decide +kernel) ?_;rw[if_pos rfl];cases h1:a0Z (.list (ss.map .str)) (.list [.str (a0Q "count"),.str (a0Q "count")]) with
         | true=> rw[h1] at key;left;exact#[rfl,next (by unfold GL;rw[decide_eq_true j,<-key];rfl),_,_,rfl]
         | false=>
           rw[h1] at key;left;refine D7 ?_;left;refine AX o (by decide +kernel) ?_;rw[if_pos rfl];cases a:a0Z (.list (ss.map .str)) (.list [.str (a0Q "count"),.str (a0Q "move")]) with
           | true=> rw[a] at key;left;exact#[rfl,next (by unfold GL;rw[decide_eq_true j,<-key];rfl),_,_,rfl]
           | false=> rw[a] at key;left;refine fin ?_;rw[RC,List.any_eq_true.mpr #[n,hn,by unfold GL;rw[decide_eq_true j,<-key];rfl]]
       . rw[if_neg j];left;exact#[rfl,next (by unfold GL;rw[decide_eq_false j];rfl),_,_,rfl]
   . rintro Y i ⟨rfl,hk,x,y,rfl⟩;rw[zX,a1V] at hk;exact#[rfl,hk]
 . rintro Y i ⟨rfl,hk⟩;left;refine fin ?_;rw[RC,List.any_eq_false.mpr λn hn=>by rw[hk n hn];simp]
end
def HU:List Str:=["_law_lines","_law_number","_law_standing","_law_behind"]
def K0:List Str:=["_law_other","_law_number"]
def K1:List (Option Nat):=[am,al 1]
def K2:List Str:=["_law_other","_law_lines","_law_number"]
def K3:List (Option Nat):=[am,al 0,al 1]
section
local macro_rules | `(tactic| walk_at "cs")=>`(tactic| first | exact @CS _ _ K0 K1 (AB EN) HU (by decide +kernel) (by decide +kernel) rfl rfl | exact @CS _ _ K2 K3 (AB EN) HU (by decide +kernel) (by decide +kernel) rfl rfl)
theorem XJ (F:Fun K "_law_free" "_law_free" EN f O) (G:mg "any"=am) (R:Has P w K mg base "_law_touch" 2 ["_law_one","_law_other"] HB):FnOk P w K mg base CX0 3 f O ["_law_lines","_law_number","_law_standing"] (spD K 3 NG):=by
 refine hD HU F #[rfl,rfl,rfl,by decide +kernel,rfl,by decide +kernel,by decide +kernel] ?_;walk_at "hi";have c:K0.Nodup:=by decide +kernel
 have Z:K2.Nodup:=by decide +kernel
 walk_at "nm";clear c Z nd;rintro U M D ⟨t,k,p,S,rfl,m,hr,hk,hS,u⟩;obtain⟨l,L,g,N,J⟩:=GF hk;unfold frX;left;refine T8 (by simp[K1]) ?_;left;refine#[p,_,rfl,m,by rw[AJ];exact zQ u (by decide),cGt k,id,?_,?_];. rintro d hd A acc b hA rfl;obtain⟨i,hi,rfl⟩:=zL.mp hd;left;refine#[rfl,rfl,λ_=>?_];left;exact#[rfl,rfl]
 rw[dD];have a:(S.filter λo=>decide (k < o)).length<=50:=zN (yJ _ _) u;have r:∀o∈S.filter (λo=>decide (k < o)),o < t.length:=λo T=>hS o (yL.mp T).1;left;refine AI (AV 0) (by simp[K3]) ?_;refine CC ?_;left;refine#[by rw[AJ];exact zQ a (by decide),λ_=>ap,WW (tcN (dsL t)) k,?_,?_];. intro d hd b;obtain⟨i,hi,rfl⟩:=zL.mp hd;obtain⟨o,T,rfl⟩:=CF.mp hi;obtain⟨n,x,v,z,q⟩:=GF (r o T);walk_at "dl";refine#[rfl,?_];walk_at "dl";refine#[rfl,rfl,λ_=>?_];left;refine AE (ds:=t.map CO) (AK N) ?_;left;refine AE (ds:=t.map CO) (AK z) ?_;left;refine WT (hr l g) (hr n v) ?_;refine#[?_,rfl];show DS.d (.bool (E1 l.2.d n.2.d)) = .d (.bool (tcN (dsL t) k o));rw[vY J q]
 rw[dE];left;refine lM ?_;left;rw[cU];refine#[M,zT M,λI B Q y e j=>?_];obtain⟨rfl,rfl,rfl⟩:=uS e;rw[m] at j;obtain rfl:=JE (MO.l.inj (Option.some.inj j));exact#[rfl,rfl]
end
def LL:List Str:=["_law_lines","_law_wants","_law_standing","_law_found","_law_number","_law_fits"]
def IS:List Str:=["_law_need","_law_standing"]
def IT:List (Option Nat):=[am,al 2]
section
local macro_rules | `(tactic| walk_at "cs")=>`(tactic| first | exact @CS _ _ IS IT (AB FC) LL (by decide +kernel) (by decide +kernel) rfl rfl)
local macro_rules | `(tactic| walk_at "x")=>`(tactic| first | ((with_reducible show PE _ (.Compare _ [.In] ..) _);exact @C6 _ _ _ _ _ _ _ _ (@cH _ K rfl hu) (by walk_at "e") (by walk_at "e") (by with_unfolding_all rfl)) | ((with_reducible show PT _ (.Compare _ [.In] ..) _);exact @BJ _ _ _ _ _ _ _ _ (@cH _ K rfl hu) (by walk_at "e") (by walk_at "e") (by with_unfolding_all rfl)))
theorem TQ (F:Fun K "_law_moves" "_law_moves" FC f I) (bt:mg "all"=am) (a_:mg "len"=am) (ax:mg "range"=am) (fm:Has P w K mg base "_law_free" 3 ["_law_lines","_law_number","_law_standing"] NG):FnOk P w K mg base CX0 4 f I ["_law_lines","_law_wants","_law_standing"] (spD K 3 KP):=by
 refine hD LL F #[rfl,rfl,rfl,by decide +kernel,rfl,by decide +kernel,by decide +kernel] ?_;walk_at "hi";have n0:IS.Nodup:=by decide +kernel
 walk_at "nm";clear n0 nd;rintro xs M hl ⟨t,G,p,S,rfl,m,hr,hG,hN,hS,qv,Kv⟩;unfold mvX;left;refine EY ?_;left;intro q hq;have B:p≠q:=by rintro rfl;rw[m] at hq;cases hq
 have v:∀o:MO,(M.put q o) p=al (.l (AA S)):=λo=>by rw[yH B];exact m
 walk_at "wks";try walk_at "unf"
 refine ET (λn M1=>∃L,mvP t S L/\M1=M.put q (.l (AA L))/\∃N r:Option DS,n=[al (.d (AQ t)),al (.d (BU G)),al (.loc p),al (.loc q),N,r]) ?_ ?_
 . try walk_at "unf"
   refine ES ?_;refine G3 ?_;left;refine G4 ?_;rw[zX];left;refine#[by lia,by lia,?_];refine#[λk n M1=>∃L,L.length<=k/\(∀m∈L,m < t.length/\frB t S m=ap/\(m∈S\/∀j∈BI (dsL t) m,j∈S))/\M1=M.put q (.l (AA L))/\∃N r:Option DS,n=[al (.d (AQ t)),al (.d (BU G)),al (.loc p),al (.loc q),N,r],#[[],zR _,by simp,rfl,_,_,rfl],?_,?_]
   . rintro k d n M1 hd ⟨L,y,u,rfl,N,r,rfl⟩;obtain⟨hk,rfl⟩:=WI hd;have D:k < t.length:=by lia
     obtain⟨g,x⟩:∃g,G[k]?=al g:=#[_,zV (by lia)]
     have ue:=hN.few g (yN x);left;refine BS (AV 0) (by simp[IT]) ?_;refine CC ?_;left;refine BF (ds:=G.map λg=>.list (AA g)) (d:=.list (AA g)) (AK (by rw[zF,x];rfl)) ?_;refine#[_,rfl,by rw[AJ];exact zQ ue (by decide),λ_=>ap,fIn S,?_,?_]
     . rintro d hd2 A acc M' hA rfl;obtain⟨i,hi,rfl⟩:=zL.mp hd2;have Q:p≠A:=by rintro rfl;rw[v] at hA;cases hA
       walk_at "dl";refine#[rfl,?_];walk_at "dl";refine#[rfl,rfl,λ_=>?_];left;refine RP (ds:=AA S) (by rw[yH Q];exact v _) rfl (D4 _) ?_;exact#[rfl,rfl]
     rw[fV];left;refine HE ?_;left;refine a6 (v _) hr D hS qv ?_;have keep:∃X,X.length<=k+1/\(∀m∈X,m < t.length/\frB t S m=ap/\(m∈S\/∀j∈BI (dsL t) m,j∈S))/\M.put q (.l (AA L))=M.put q (.l (AA X)):=#[L,by lia,u,rfl]
     have J:(g.map λj=>decide (j∈S)).all id=ap->∀j∈BI (dsL t) k,j∈S:=λh j Y=>by have:=List.all_eq_true.mp h (decide (j∈S)) (zL.mpr #[j,(hN.mem k g x j).mpr Y,rfl]);exact of_decide_eq_true this
     cases U:frB t S k with
     | false=> left;obtain⟨X,a,b,c⟩:=keep;exact#[X,a,b,c,_,_,rfl]
     | true=>
       have grow:(k∈S\/∀j∈BI (dsL t) k,j∈S)->∀m∈L++[k],m < t.length/\frB t S m=ap/\(m∈S\/∀j∈BI (dsL t) m,j∈S):=λh m Z=>by
         rcases yW.mp Z with z | z;. exact u m z
         . rw[show m=k by simpa using z];exact#[D,U,h]
       have O:∀(h:k∈S\/∀j∈BI (dsL t) k,j∈S) (N r:Option DS),∃X,X.length<=k+1/\(∀m∈X,m < t.length/\frB t S m=ap/\(m∈S\/∀j∈BI (dsL t) m,j∈S))/\M.put q (.l (AA L++[.int (k:Int)]))=M.put q (.l (AA X))/\∃y4 y5:Option DS,[al (DS.d (AQ t)),al (.d (BU G)),al (.loc p),al (.loc q),N,r]=[al (.d (AQ t)),al (.d (BU G)),al (.loc p),al (.loc q),y4,y5]:=λh N r=>
         #[L++[k],by rw[yY,List.length_singleton];lia,grow h,by rw[KG],_,_,rfl]
       have T:(AA L).length < sizeLine:=by rw[AJ];exact zQ (show _<=100 by lia) (by decide)
       left;refine RP (ds:=AA S) (v _) rfl (D4 _) ?_;rw[if_neg nft,CQ];cases hkS:decide (k∈S) with
       | true=> left;refine G2 ?_;walk_at "dl";refine#[CG zU,?_];left;refine BP zU T ?_;rw[yI];exact O (.inl (of_decide_eq_true hkS)) _ _
       | false=>
         left;cases ik:(g.map λj=>decide (j∈S)).all id with
         | false=> left;obtain⟨X,a,b,c⟩:=keep;exact#[X,a,b,c,_,_,rfl]
         | true=> left;refine G2 ?_;walk_at "dl";refine#[CG zU,?_];left;refine BP zU T ?_;rw[yI];exact O (.inr (J ik)) _ _
   . rintro n M1 ⟨L,y,u,rfl,N,r,rfl⟩;exact#[L,#[by rw[Z9] at y;lia,u],rfl,_,_,rfl]
 . rintro n M1 ⟨L,hL,rfl,N,r,rfl⟩;try walk_at "unf"
   refine K7 (i:=3) (a:=q) rfl zU ?_;rw[yG hq];left;refine#[M,zT M,λcy G' p' S' e R=>?_];simp only[mvX,List.cons.injEq,DS.d.injEq,DS.loc.injEq,and_true] at e;obtain rfl:=FF (PyData.tuple.inj e.1);obtain rfl:=dF e.2.1;obtain rfl:=e.2.2;rw[m] at R;obtain rfl:=JE (MO.l.inj (Option.some.inj R));exact#[L,rfl,hL,rfl]
end
def XM:List Str:=["_law_script","_law_cells","_law_book_here","_law_lines","_law_wants","_law_packs","_law_one","_law_other","_law_due","_law_standing","_law_taken","_law_turn","_law_moves_here","_law_number","_law_here","_law_after_here","_law_step"]
def aJ:List Str:=["_law_pack","_law_lines"]
def pO:List (Option Nat):=[am,al 3]
def aK:List Str:=["_law_number","_law_after_here","_law_taken"]
def aL:List (Option Nat):=[am,al 15,al 10]
def aM:List Str:=["_law_number","_law_taken"]
def aN:List (Option Nat):=[am,al 10]
section
local macro_rules | `(tactic| walk_at "cs")=>`(tactic| first | exact @CS _ _ aJ pO (AB V1) XM (by decide +kernel) (by decide +kernel) rfl rfl | exact @CS _ _ aK aL (AB V1) XM (by decide +kernel) (by decide +kernel) rfl rfl | exact @CS _ _ aM aN (AB V1) XM (by decide +kernel) (by decide +kernel) rfl rfl)
local macro_rules | `(tactic| walk_at "x")=>`(tactic| first | ((with_reducible show PS _ (.Assign [.Tuple ..] ..) _);exact @V8 _ _ _ _ _ _ (by walk_at "e") (by walk_at "g") (by rfl) (by rfl) (by rfl)) | ((with_reducible show PG _ (.Tuple ..) _);exact @f6 _ K _ _ _ _ (2) rfl rfl (by walk_at "j") (by rfl) (by rfl)) | ((with_reducible show PE _ (.Dict ..) _);exact @MN _ _) | ((with_reducible show PT _ (.Compare _ [.In] ..) _);exact @BJ _ _ _ _ _ _ _ _ (@cH _ K rfl hu) (by walk_at "e") (by walk_at "e") (by with_unfolding_all rfl)) | ((with_reducible show PE _ (.Call (.Attribute _ (a0Q "remove") _) ..) _);exact @kBm _ K _ _ _ _ _ _ _ _ _ _ _ rfl PySem.F.plainAttrs_list PySem.F.slot_list_remove PySem.F.type_list_remove (@A2Q _) (by walk_at "e") (by walk_at "a") (by rfl) (by rfl) (by rfl) (by rfl) (by rfl)) | ((with_reducible show PS _ (.Assign [.Subscript ..] ..) _);exact @K5 _ _ _ _ _ _ _ _ _ ef (by walk_at "e") (by walk_at "e") (by walk_at "e") (by rfl)) | ((with_reducible show PE _ (.Compare _ [.In] ..) _);exact @C6 _ _ _ _ _ _ _ _ (@cH _ K rfl hu) (by walk_at "e") (by walk_at "e") (by with_unfolding_all rfl)))
local macro_rules | `(tactic| walk_at "y")=>`(tactic| first | ((with_reducible show PE _ (.Call (.Name (a0Q "list") _) ..) _);exact @NQ _ _ _ _ _ _ _ _ _ (@A1s _ K rfl) (by rfl) eu b8W (by walk_at "a") (by decide) (by decide) (by rfl) (by rfl)) | ((with_reducible show PE _ (.Call (.Name (a0Q "sorted") _) ..) _);exact @D5 _ _ _ _ _ _ _ _ _ (@cF _ K rfl rfl) (by rfl) ah b1K (by walk_at "a") (by decide) (by decide) (by rfl) (by rfl)) | ((with_reducible show PT _ (.Compare _ [.NotIn] [.Name (a0Q "_law_taken") _] _) _);exact @V5 _ _ _ _ _ _ (@gT _ _ _ _ _ ef (@pv _ 0 _ _ (by rfl) (by walk_at "lc") (by decide) (by decide)) (@pv _ 2 _ _ (by rfl) (by walk_at "lc") (by decide) (by decide))) (by with_unfolding_all rfl)) | ((with_reducible show PE _ (.Compare _ [.In] [.Name (a0Q "_law_taken") _] _) _);exact @k8 _ _ _ _ _ _ (@Q3 _ _ _ _ _ ef (@pv _ 0 _ _ (by rfl) (by walk_at "lc") (by decide) (by decide)) (@pv _ 1 _ _ (by rfl) (by walk_at "lc") (by decide) (by decide))) (by with_unfolding_all rfl)))
theorem A09 (F:Fun K "law" "law" V1 f fd) (bt:mg "all"=am) (a_:mg "len"=am) (eu:mg "list"=am) (ax:mg "range"=am) (ah:mg "sorted"=am) (ae:mg "tuple"=am) (fo:Has P w K mg base "_law_book" 3 ["_law_head","_law_cells"] NA) (bg:Has P w K mg base "_law_mixed" 1 ["_law_cell"] DC) (dy:Has P w K mg base "_law_moves" 4 ["_law_lines","_law_wants","_law_standing"] KP) (bh:Has P w K mg base "_law_needs" 2 ["_law_lines"] H0) (d_:Has P w K mg base "_law_stand" 3 ["_law_lines","_law_bits"] KL) (ag:Has P w K mg base "_law_take" 1 ["_law_pack","_law_size"] BR) (jq:Has P w K mg base "lifted" 7 ["book","stand","wished"] CZ) (se:Has P w K mg base "way" 10 ["book","stand","wished"] KN):FnOk P w K mg base CX0 11 f fd ["_law_script"] (spD K 1 YT):=by
 refine hD XM F #[rfl,rfl,rfl,by decide +kernel,rfl,by decide +kernel,by decide +kernel] ?_;walk_at "hi";have n0:aJ.Nodup:=by decide +kernel
 have n1:aK.Nodup:=by decide +kernel
 have n2:aM.Nodup:=by decide +kernel
 walk_at "nm";clear n0 n1 n2 nd;rintro xs M hl ⟨ns,rfl,vz,lq⟩;have sz:∀m:Nat,m<=200->m<=sizeLine:=λm h=>zN h (by decide);left;refine nY ?_;walk_at "wkd";refine MT (sz _ (by rw[zX];simp;lia)) ?_;rw[show ns.map a4V++[.int 0,.int 0,.int 0]=(ns++[0,0,0]).map .int by rw[xI];rfl];have yj:∀c∈ns++[0,0,0],xJ c<=2 ^ 21:=λc hc=>by
   rcases yW.mp hc with h | h;. exact zN (lq c h) (by decide)
   . simp at h;subst h;decide
 have cell:∀i,i < 3->∃c,xJ c<=2 ^ 21/\((ns++[0,0,0]).map a4V)[i]?=al (.int c):=λi hi=>by
   have sf:i < (ns++[0,0,0]).length:=by rw[yY];simp;lia
   exact#[_,yj _ (a7K sf),by rw[zF,zV sf];rfl]
 obtain⟨c0,Lz,L_⟩:=cell 0 (by decide);obtain⟨c1,Ma,Mb⟩:=cell 1 (by decide);obtain⟨c2,tw,Mc⟩:=cell 2 (by decide);left;refine BF (ds:=(ns++[0,0,0]).map .int) (d:=.int c0) (AK (j:=0) L_) ?_;left;refine GU ?_;rw[show ED (ns.map a4V) (al 3) (al 21)=((ns.take 21).drop 3).map .int from(VX _ 3 21).trans (by rw[c1V,List.map_take])];left;have og:((ns.take 21).drop 3).length<=18:=by rw[a4K,a2Q];lia
 refine ZG Lz (λc hc=>zN (lq c (a9Q (List.mem_of_mem_drop hc))) (by decide)) (by lia) λw O hB nr=>?_;have ou:=hB.cb;have hn:O.length<=18:=by lia
 left;try refine AE (ds:=[wD w,AQ O]) (d:=AQ O) rfl ?_
 left;refine NB ou.good.any λG hG hN=>?_;left;refine uQ ?_;left;refine EY ?_;left;refine BF (ds:=(ns++[0,0,0]).map .int) (d:=.int c1) (AK (j:=1) Mb) ?_;left;refine HI Ma λv1=>?_;left;intro p hp;left;refine EY ?_;left;refine BF (ds:=(ns++[0,0,0]).map .int) (d:=.int c2) (AK (j:=2) Mc) ?_;left;refine HI tw λv2=>?_;left;intro q hq;left;refine#[[p,q],rfl,(yD rfl:2<=bd),λr hr=>?_];have fz:p≠q:=by rintro rfl;rw[zU] at hq;cases hq
 have sg:q≠r:=by rintro rfl;rw[zU] at hr;cases hr
 have sh:p≠r:=by rintro rfl;rw[yH fz,zU] at hr;cases hr
 have Md:M q=none:=by rw[yH fz.symm] at hq;exact hq
 have Me:M r=none:=by rw[yH sg.symm,yH sh.symm] at hr;exact hr
 left;try walk_at "unf"
 refine QK ?_;refine ZW (λ_ h=>by cases h) ?_;left;refine#[r,.r [p,q],[.loc p,.loc q],rfl,zU,rfl,(yD rfl:2 < bd),λA hA=>?_];have zw:r≠A:=by rintro rfl;rw[zU] at hA;cases hA
 have mx:q≠A:=by rintro rfl;rw[yH sg,zU] at hA;cases hA
 have fu:p≠A:=by rintro rfl;rw[yH sh,yH fz,zU] at hA;cases hA
 have Fg:M A=none:=by rw[yH zw.symm,yH mx.symm,yH fu.symm] at hA;exact hA
 have eP:∀{g o R a o':MO},((((M.put p g).put q o).put r R).put A a).put p o'=(((M.put p o').put q o).put r R).put A a:=λ{g o R a o'}=>by rw[Own.put_comm fu.symm,Own.put_comm sh.symm,Own.put_comm fz.symm,yI]
 have eQ:∀{g o R a o':MO},((((M.put p g).put q o).put r R).put A a).put q o'=(((M.put p g).put q o').put r R).put A a:=λ{g o R a o'}=>by rw[Own.put_comm mx.symm,Own.put_comm sg.symm,yI]
 refine#[λk acc M'=>∃(g o:MO) (ss:List (List Nat)),B5 g/\B5 o/\(∀s∈ss,isSt O s)/\ss.length=k/\acc=ss.map chD/\M'=(((M.put p g).put q o).put r (.r [p,q])).put A (.l acc),#[_,_,[],#[v1,rfl],#[v2,rfl],by simp,rfl,rfl,rfl],?_,?_,?_];. rintro k acc M' ⟨g,o,ss,_,_,_,hk,rfl,rfl⟩;exact#[zU,by rw[yH zw];exact zU,by rw[zX,hk];exact zR _]
 . rintro k y acc M' hy ⟨g,o,ss,gr,de,uj,hk,rfl,rfl⟩;have done:∀{s:List Nat}{U o4:MO},isSt O s->B5 U->B5 o4->∃(g o:MO) (aw:List (List Nat)),B5 g/\B5 o/\(∀s∈aw,isSt O s)/\aw.length=k+1/\ss.map chD++[chD s]=aw.map chD/\((((M.put p U).put q o4).put r (.r [p,q])).put A (.l (ss.map chD))).put A (.l (ss.map chD++[chD s]))=(((M.put p g).put q o).put r (.r [p,q])).put A (.l (ss.map chD++[chD s])):=λ{s U o4} h1 h3 h4=>
     #[U,o4,ss++[s],h3,h4,λx hx=>(yW.mp hx).elim (uj x) λz=>by rw[show x=s by simpa using z];exact h1,by rw[yY,hk];rfl,by rw[xI];rfl,by rw[yI]]
   have Ci:y = .loc p\/y = .loc q:=by have:=yN hy;simpa using this
   rcases Ci with rfl | rfl;. left;refine B0 (p:=p) (by rw[yH fu,yH sh,yH fz];exact zU) gr (by decide) (by decide) λu1 U _ _ ic=>?_;rw[eP];left;refine ND ou.good.any λs hs=>?_;exact#[_,rfl,zU,done hs ic de]
   . left;refine B0 (p:=q) (by rw[yH mx,yH sg];exact zU) de (by decide) (by decide) λu1 U _ _ ic=>?_;rw[eQ];left;refine ND ou.good.any λs hs=>?_;exact#[_,rfl,zU,done hs gr ic]
 rintro acc M' ⟨g,o,ss,gr,de,uj,hk,rfl,rfl⟩;obtain⟨J,I,rfl⟩:∃J I,ss=[J,I]:=by
   match ss,hk with
   | [a,b],_=>exact#[a,b,rfl]
 have jx:=uj J (by simp);have mn:=uj I (by simp);rw[yG (by rw[yH zw.symm,yH mx.symm,yH fu.symm];exact Fg)];clear eP eQ uj hk zw mx fu Fg hA;refine#[_,rfl,?_];rw[show [J,I].map chD=[chD J,chD I] from rfl];refine sN rfl ?_;left;refine EC ou.good jx mn ?_;left;refine jP λB sj=>?_;left;refine N8 λD qg=>?_;have z_:r≠B:=by rintro rfl;rw[zU] at sj;cases sj
 have yl:q≠B:=by rintro rfl;rw[yH sg,zU] at sj;cases sj
 have ym:p≠B:=by rintro rfl;rw[yH sh,yH fz,zU] at sj;cases sj
 have Cp:M B=none:=by rw[yH z_.symm,yH yl.symm,yH ym.symm] at sj;exact sj
 have bi:B≠D:=by rintro rfl;rw[zU] at qg;cases qg
 have Cq:r≠D:=by rintro rfl;rw[yH z_,zU] at qg;cases qg
 have Aa:q≠D:=by rintro rfl;rw[yH yl,yH sg,zU] at qg;cases qg
 have Ab:p≠D:=by rintro rfl;rw[yH ym,yH sh,yH fz,zU] at qg;cases qg
 have eP:∀{g o R a b o':MO},(((((M.put p g).put q o).put r R).put B a).put D b).put p o'=((((M.put p o').put q o).put r R).put B a).put D b:=λ{g o R a b o'}=>by rw[Own.put_comm Ab.symm,Own.put_comm ym.symm,Own.put_comm sh.symm,Own.put_comm fz.symm,yI]
 have eQ:∀{g o R a b o':MO},(((((M.put p g).put q o).put r R).put B a).put D b).put q o'=((((M.put p g).put q o').put r R).put B a).put D b:=λ{g o R a b o'}=>by rw[Own.put_comm Aa.symm,Own.put_comm yl.symm,Own.put_comm sg.symm,yI]
 have eS:∀{g o R a b o':MO},(((((M.put p g).put q o).put r R).put B a).put D b).put B o'=((((M.put p g).put q o).put r R).put B o').put D b:=λ{g o R a b o'}=>by rw[Own.put_comm bi.symm,yI]
 have aP:∀{g o R a b:MO},(((((M.put p g).put q o).put r R).put B a).put D b) p=al g:=by
   intros;rw[yH Ab,yH ym,yH sh,yH fz];exact zU
 have aQ:∀{g o R a b:MO},(((((M.put p g).put q o).put r R).put B a).put D b) q=al o:=by
   intros;rw[yH Aa,yH yl,yH sg];exact zU
 have aR:∀{g o R a b:MO},(((((M.put p g).put q o).put r R).put B a).put D b) r=al R:=by
   intros;rw[yH Cq,yH z_];exact zU
 have aS:∀{g o R a b:MO},(((((M.put p g).put q o).put r R).put B a).put D b) B=al a:=by
   intros;rw[yH bi];exact zU
 walk_at "wks";try walk_at "unf"
 refine ET (λQ M1=>∃(g o:MO) (S:List Nat) (T:List (Int×PyData)) (kg X Z my mz ii:Option DS),B5 g/\B5 o/\Wk O I (lfB O J I) S T/\T.length<=31/\M1=((((M.put p g).put q o).put r (.r [p,q])).put B (.l (AA S))).put D (.d (AR T))/\Q=[al (.d (.list (ns.map .int))),al (.d (.list ((ns++[0,0,0]).map .int))),al (.d (AM w O)),al (.d (AQ O)),al (.d (BU G)),al (.loc r),al (.d (chD J)),al (.d (chD I)),al (.d (chD (lfB O J I))),al (.loc B),al (.loc D),kg,X,Z,my,mz,ii]) ?_ ?_
 . try walk_at "unf"
   refine ES ?_;refine G3 ?_;left;refine dC (j:=0) (b:=p) aR rfl ?_;left;refine B0 (p:=p) aP gr (by decide) (by decide) λu1 U Mf ef ic=>?_;rw[eP];left;refine#[by lia,by lia,?_];refine#[λk Q M1=>∃(g o:MO) (S:List Nat) (T:List (Int×PyData)) (kg X Z my mz ii:Option DS),B5 g/\B5 o/\Wk O I (lfB O J I) S T/\T.length<=k/\M1=((((M.put p g).put q o).put r (.r [p,q])).put B (.l (AA S))).put D (.d (AR T))/\Q=[al (.d (.list (ns.map .int))),al (.d (.list ((ns++[0,0,0]).map .int))),al (.d (AM w O)),al (.d (AQ O)),al (.d (BU G)),al (.loc r),al (.d (chD J)),al (.d (chD I)),al (.d (chD (lfB O J I))),al (.loc B),al (.loc D),kg,X,Z,my,mz,ii],#[U,o,J,[],_,_,_,_,_,_,ic,de,Wk.start jx,zR _,rfl,rfl],?_,?_]
   . rintro k d Q M1 hd ⟨g,o,S,T,kg,X,Z,my,mz,ii,gr,de,hw,hT,rfl,rfl⟩;have Fh:=(yT.mp hd).1;rw[show(C7 0 u1.toNat).length=u1.toNat by simp[C7]] at Fh;obtain rfl:d = .int (k:Int):=by unfold C7 at hd;rw[zF,yA Fh] at hd;simpa using hd.symm
     have Cr:S.length<=O.length:=pG hw.nd hw.lt;left;refine WX (p:=B) aS ou.good.real hG hN hw.lt (by lia) (by lia) λL hL=>?_;have Cs:=hL.1;left;refine D7 ?_;left;refine AX (D4 _) rfl ?_;rw[if_pos rfl];cases L with
     | nil=> rw[show a0Z (.list (AA [])) (.list [])=ap from rfl];left;exact#[g,o,S,T,_,_,_,_,_,_,gr,de,hw,by lia,rfl,rfl]
     | cons m0 L=>
       rw[show a0Z (.list (AA (m0::L))) (.list [])=bj from rfl];have um:(m0::L).length<=18:=by lia
       have Mg:0 < (m0::L).length:=by simp
       generalize m0::L=L at hL um Mg Cs;have fin:∀{U o4:MO}{v:Int},B5 U->B5 o4->0<=v->v < ((L.length:Nat):Int)->∃m:Nat,atI (AA L) v=al (.int (m:Int))/\m∈L:=λ{U o4 v} _ _ a b=>by
         obtain⟨u,rfl⟩:∃u:Nat,v=(u:Int):=#[v.toNat,by lia]
         obtain⟨m,hm⟩:∃m,L[u]?=al m:=#[_,zV (by lia)]
         exact#[m,AK (by unfold AA BX;rw[zF,zF,hm];rfl),yN hm]
       have yn:([p,q]:List Addr)[1 - k % 2]?=al p\/([p,q]:List Addr)[1 - k % 2]?=al q:=by
         rcases Nat.mod_two_eq_zero_or_one k with h | h <;> rw[h];. exact .inr rfl
         . exact .inl rfl
       have yo:(1:Int) - (k:Int) % 2=((1 - k % 2:Nat):Int):=by lia
       have more:∀{U o4:MO}{m:Nat}{kg X Z my mz ii:Option DS},B5 U->B5 o4->m∈L->m∉S->∃(g o:MO) (S':List Nat) (Y:List (Int×PyData)) (Ct Cu Cv Cw Cy Cz:Option DS),B5 g/\B5 o/\Wk O I (lfB O J I) S' Y/\Y.length<=k+1/\((((M.put p U).put q o4).put r (.r [p,q])).put B (.l (AA S++[.int (m:Int)]))).put D (.d (AR T))=((((M.put p g).put q o).put r (.r [p,q])).put B (.l (AA S'))).put D (.d (AR Y))/\[al (DS.d (.list (ns.map .int))),al (.d (.list ((ns++[0,0,0]).map .int))),al (.d (AM w O)),al (.d (AQ O)),al (.d (BU G)),al (.loc r),al (.d (chD J)),al (.d (chD I)),al (.d (chD (lfB O J I))),al (.loc B),al (.loc D),kg,X,Z,my,mz,ii]=[al (.d (.list (ns.map .int))),al (.d (.list ((ns++[0,0,0]).map .int))),al (.d (AM w O)),al (.d (AQ O)),al (.d (BU G)),al (.loc r),al (.d (chD J)),al (.d (chD I)),al (.d (chD (lfB O J I))),al (.loc B),al (.loc D),Ct,Cu,Cv,Cw,Cy,Cz]:=λ{U o4 m kg X Z my mz ii} h3 h4 hm hS=>by obtain⟨a,b,c⟩:=hL.2 m hm;exact#[U,o4,S++[m],T,_,_,_,_,_,_,h3,h4,hw.again b a (c.resolve_left hS) hS,by lia,by rw[KG],rfl]
       have less:∀{U o4:MO}{m j:Nat}{kg X Z my mz ii:Option DS},B5 U->B5 o4->m∈L->S.findIdx? (λi=>i==m)=al j->∃(g o:MO) (S':List Nat) (Y:List (Int×PyData)) (Ct Cu Cv Cw Cy Cz:Option DS),B5 g/\B5 o/\Wk O I (lfB O J I) S' Y/\Y.length<=k+1/\((((M.put p U).put q o4).put r (.r [p,q])).put B (.l (((BX S).eraseIdx j).map .int))).put D (.d (AR (EU T (m:Int) (.bool ap))))=((((M.put p g).put q o).put r (.r [p,q])).put B (.l (AA S'))).put D (.d (AR Y))/\[al (DS.d (.list (ns.map .int))),al (.d (.list ((ns++[0,0,0]).map .int))),al (.d (AM w O)),al (.d (AQ O)),al (.d (BU G)),al (.loc r),al (.d (chD J)),al (.d (chD I)),al (.d (chD (lfB O J I))),al (.loc B),al (.loc D),kg,X,Z,my,mz,ii]=[al (.d (.list (ns.map .int))),al (.d (.list ((ns++[0,0,0]).map .int))),al (.d (AM w O)),al (.d (AQ O)),al (.d (BU G)),al (.loc r),al (.d (chD J)),al (.d (chD I)),al (.d (chD (lfB O J I))),al (.loc B),al (.loc D),Ct,Cu,Cv,Cw,Cy,Cz]:=λ{U o4 m j kg X Z my mz ii} h3 h4 hm hj=>
         #[U,o4,S.eraseIdx j,EU T (m:Int) (.bool ap),_,_,_,_,_,_,h3,h4,hw.back ou.good.real (hL.2 m hm).2.1 hj,zN (RN ..) (by lia),by rw[show((BX S).eraseIdx j).map a4V=AA (S.eraseIdx j) by unfold AA BX;rw[dB]],rfl]
       have Mh:k < 31:=by lia
       clear Mf ef ic;rcases yn with hwh | hwh
       . left;rw[yo];refine dC (b:=p) aR hwh ?_;left;refine MS ?_;rw[AJ];left;refine B0 (p:=p) aP gr (by lia) (by lia) λv U zu yb ic=>?_;rw[eP];obtain⟨m,hm,yp⟩:=fin ic de zu yb;refine BF hm ?_;left;refine RP (ds:=AA S) aS rfl (D4 _) ?_;rw[if_neg nft,CQ];cases hmS:decide (m∈S) with
         | false=> left;refine G2 ?_;walk_at "dl";refine#[CG aS,?_];left;refine BP aS (by rw[AJ];exact zQ (show _<=100 by lia) (by decide)) ?_;rw[eS];exact more ‹_› ‹_› yp (of_decide_eq_false hmS)
         | true=>
           obtain⟨j,hj⟩:∃j,S.findIdx? (λi=>i==m)=al j:=by
             cases h:S.findIdx? (λi=>i==m) with
             | some j=>exact#[j,rfl]
             | none=>rw[List.findIdx?_eq_none_iff] at h;have:=h m (of_decide_eq_true hmS);simp at this
           left;refine G2 ?_;walk_at "dl";refine#[CG aS,?_];left;refine g9 (ns:=BX S) (j:=j) aS (by unfold BX;rw[List.findIdx?_map];rw[<-hj];congr 1;funext x;simp only[b6X];rw[a2Z,beq_iff_eq,beq_iff_eq];lia) ?_;rw[eS];left;refine JC ?_;left;refine#[D,T,(m:Int),.bool ap,rfl,rfl,rfl,zU,zQ (show _<=100 by lia) (by decide),?_];rw[yI];exact less ‹_› ‹_› yp hj
       . left;rw[yo];refine dC (b:=q) aR hwh ?_;left;refine MS ?_;rw[AJ];left;refine B0 (p:=q) aQ de (by lia) (by lia) λv U zu yb ic=>?_;rw[eQ];obtain⟨m,hm,yp⟩:=fin gr ic zu yb;refine BF hm ?_;left;refine RP (ds:=AA S) aS rfl (D4 _) ?_;rw[if_neg nft,CQ];cases hmS:decide (m∈S) with
         | false=> left;refine G2 ?_;walk_at "dl";refine#[CG aS,?_];left;refine BP aS (by rw[AJ];exact zQ (show _<=100 by lia) (by decide)) ?_;rw[eS];exact more ‹_› ‹_› yp (of_decide_eq_false hmS)
         | true=>
           obtain⟨j,hj⟩:∃j,S.findIdx? (λi=>i==m)=al j:=by
             cases h:S.findIdx? (λi=>i==m) with
             | some j=>exact#[j,rfl]
             | none=>rw[List.findIdx?_eq_none_iff] at h;have:=h m (of_decide_eq_true hmS);simp at this
           left;refine G2 ?_;walk_at "dl";refine#[CG aS,?_];left;refine g9 (ns:=BX S) (j:=j) aS (by unfold BX;rw[List.findIdx?_map];rw[<-hj];congr 1;funext x;simp only[b6X];rw[a2Z,beq_iff_eq,beq_iff_eq];lia) ?_;rw[eS];left;refine JC ?_;left;refine#[D,T,(m:Int),.bool ap,rfl,rfl,rfl,zU,zQ (show _<=100 by lia) (by decide),?_];rw[yI];exact less ‹_› ‹_› yp hj
   . rintro Q M1 ⟨g,o,S,T,kg,X,Z,my,mz,ii,a,b,c,d,e,f⟩;refine#[g,o,S,T,kg,X,Z,my,mz,ii,a,b,c,?_,e,f];have:(C7 0 u1.toNat).length=u1.toNat:=by simp[C7]
     lia
 . rintro Q M1 ⟨g,o,S,T,kg,X,Z,my,mz,ii,gr,de,hw,hT,rfl,rfl⟩;have Cr:S.length<=O.length:=pG hw.nd hw.lt;try walk_at "unf"
   refine K7 (i:=9) (a:=B) rfl aS ?_;rw[Own.del_put_ne bi.symm,yG (by rw[yH z_.symm,yH yl.symm,yH ym.symm];exact Cp)];have Fi:M D=none:=by rw[yH bi.symm,yH Cq.symm,yH Aa.symm,yH Ab.symm] at qg;exact qg
   have sub:M.Sub (((M.put p g).put q o).put r (.r [p,q])):=(((zT M).put hp).put Md).put Me;generalize hN0:((M.put p g).put q o).put r (.r [p,q])=N at sub;have Ng:N D=none:=by rw[<-hN0,yH Cq.symm,yH Aa.symm,yH Ab.symm];exact Fi
   clear eP eQ eS aP aQ aR aS hN0 gr de;left;refine Z6 (ss:=BX S) (by rw[pI];lia) λss yz hi=>?_;obtain⟨st,qw,rfl,yq⟩:=hw.sorted yz hi;left;refine G5 ?_;left;refine EC ou.good qw mn ?_;have jh:(lfB O J I).length<=18:=by have h1:(lfB O J I).length<=J.length:=FR.length_le;have:=jx.len;lia
   left;refine BS (AV 0) (by simp[aL]) ?_;refine BG ?_;left;refine#[by rw[AJ];exact zQ jh (by decide),cTk T,fIn (lfB O st I),?_,?_]
   . rintro d hd2 A acc M' hA rfl;obtain⟨i,hi,rfl⟩:=zL.mp hd2;have uo:D≠A:=by rintro rfl;rw[zU] at hA;cases hA
     walk_at "dl";refine#[rfl,?_];left;refine iU ?_;left;refine#[D,T,i,rfl,rfl,by rw[yH uo];exact zU,?_];refine#[_,rfl,rfl,rfl,λ_=>?_];left;refine KF (ds:=AA (lfB O st I)) rfl (CH _) ?_;exact#[rfl,rfl]
   rw[WY];left;refine HE ?_;rw[pH λn hn=>yq n hn];walk_at "wks";refine VP ?_;have vy:=uO (w:=w) qw mn;have h1:=qw.len;have h2:=mn.len;try walk_at "unf"
   try walk_at "unf"
   refine ET (λQ M1=>∃(Y:List (Int×PyData)) (X Z ii:Option DS),(∀n∈lfB O J I,(AT Y (n:Int)).isSome=ap)/\M1=N.put D (.d (AR Y))/\Q=[al (.d (.list (ns.map .int))),al (.d (.list ((ns++[0,0,0]).map .int))),al (.d (AM w O)),al (.d (AQ O)),al (.d (BU G)),al (.loc r),al (.d (chD J)),al (.d (chD I)),al (.d (chD (lfB O J I))),al (.d (.list (AA S))),al (.loc D),kg,X,Z,al (.d (chD st)),al (.d (chD (lfB O st I))),ii]) ?_ ?_
   . try walk_at "unf"
     refine ES ?_;refine BG ?_;left;refine S7 ou qw mn ?_;refine#[_,rfl,?_];rw[A2O];refine#[λk Q M1=>∃(Y:List (Int×PyData)) (X Z ii:Option DS),Y.length<=T.length+k/\(∀x,(AT T x).isSome=ap->(AT Y x).isSome=ap)/\(∀t∈(ZU w O st I).take k,t.1=a0Q "back" -> (AT Y (t.2.1:Int)).isSome=ap)/\M1=N.put D (.d (AR Y))/\Q=[al (.d (.list (ns.map .int))),al (.d (.list ((ns++[0,0,0]).map .int))),al (.d (AM w O)),al (.d (AQ O)),al (.d (BU G)),al (.loc r),al (.d (chD J)),al (.d (chD I)),al (.d (chD (lfB O J I))),al (.d (.list (AA S))),al (.loc D),kg,X,Z,al (.d (chD st)),al (.d (chD (lfB O st I))),ii],#[T,_,_,_,zR _,λ_ h=>h,by simp,rfl,rfl],?_,?_]
     . rintro k d Q M1 hd ⟨Y,X,Z,ii,Bv,mi,sf,rfl,rfl⟩;rw[zF] at hd;cases hdk:(ZU w O st I)[k]? with
       | none=>rw[hdk] at hd;cases hd
       | some t=>
         rw[hdk] at hd;cases hd;have ug:k < (ZU w O st I).length:=(yT.mp hdk).1;have zc:zH (.str t.1)=true:=by have ht:=yN hdk;unfold ZU at ht;rcases yW.mp ht with h | h <;> (obtain⟨k,_,rfl⟩:=zL.mp h;show zH (.str (a0Q _))=ap;decide +kernel)
         unfold NE;left;refine AX zc (by decide +kernel) ?_;rw[if_neg nft,B7];cases hb:(t.1==a0Q "back") with
         | false=>
           left;refine#[Y,_,_,_,by lia,mi,λu hu e=>?_,rfl,rfl];rw[a0V,hdk] at hu;rcases yW.mp hu with z | z;. exact sf u z e
           . obtain rfl:u=t:=by simpa using z
             rw[e] at hb;simp at hb
         | true=>
           left;refine JC ?_;left;refine#[D,Y,(t.2.1:Int),.bool ap,rfl,rfl,rfl,zU,zQ (show _<=100 by lia) (by decide),?_];rw[yI];refine#[_,_,_,_,zN (RN ..) (by lia),λx h=>OI (mi x h),λu hu e=>?_,rfl,rfl];rw[a0V,hdk] at hu;rcases yW.mp hu with z | z;. exact OI (sf u z e)
           . obtain rfl:u=t:=by simpa using z
             exact UZ ..
     . rintro Q M1 ⟨Y,X,Z,ii,Bv,mi,sf,rfl,rfl⟩;refine#[Y,_,_,_,λn hn=>?_,rfl,rfl];rcases yq n hn with h | h;. exact mi _ h
       . rw[zX,a1V] at sf;exact sf (a0Q "back", n,_) (zA _ (zL.mpr #[n,List.mem_reverse.mpr h,rfl])) rfl
   . rintro Q M1 ⟨Y,X,Z,ii,ik,rfl,rfl⟩;left;refine BS (AV 0) (by simp[aN]) ?_;refine BG ?_;left;refine#[by rw[AJ];exact zQ jh (by decide),λ_=>ap,fTk Y,?_,?_]
     . rintro d hd2 A acc M' hA rfl;obtain⟨i,hi,rfl⟩:=zL.mp hd2;have uo:D≠A:=by rintro rfl;rw[zU] at hA;cases hA
       walk_at "dl";refine#[rfl,?_];walk_at "dl";refine#[rfl,rfl,λ_=>?_];left;refine nE ?_;left;refine#[D,Y,i,rfl,rfl,by rw[yH uo];exact zU,?_];exact#[rfl,rfl]
     rw[V0,jQ ik];left;refine HE ?_;rw[dG];exact#[M,sub.put Fi,rfl]
end
end
end DL
namespace DL
open PySem PySem.Spec L2
local macro_rules | `(tactic| walk_at "b1")=>`(tactic| exact λ_ _ _ _ _ _=>A2S λ_=>rfl)
local macro_rules | `(tactic| walk_at "b2")=>`(tactic| exact λ_ _ _ _ _ _=>A2T λ_ _=>rfl)
local macro_rules | `(tactic| walk_at "b3")=>`(tactic| exact λ_ _ _ _ _ _=>A2r λ_ _ _=>rfl)
set_option hygiene false in
local macro_rules | `(`hhh)=>`(Has l.prog w K mg base _ _ _ _)
theorem A1A {l:PySem.W.OpenLaw} (X:K.In h) (G:h.Ns bm mg) (Mi:mg "law"=al (.ref fa)) (b0:FnIn K "is_whole" MA) (b1:FnIn K "is_name" KQ) (b2:FnIn K "is_within" JN) (b3:FnIn K "is_place" MB) (b4:FnIn K "rises" PR) (b5:FnIn K "form_of" OJ) (b6:FnIn K "fits" dH) (b7:FnIn K "names_in" MC) (b8:FnIn K "is_deed" KR) (b9:FnIn K "made_by" OK) (Fj:FnIn K "must_stand" F7) (Fk:FnIn K "by_names" HP) (Fl:FnIn K "rising_by_names" C8) (Fm:FnIn K "add_count" JO) (Fn:FnIn K "refuse_undoable" DK) (Fo:FnIn K "change" SF) (Fp:FnIn K "done" dI) (Fq:FnIn K "back_deed" JP) (Fs:FnIn K "walked" SG) (Ft:FnIn K "deeds_of" HQ) (Fu:FnIn K "makers" JQ) (Fv:FnIn K "book_of" KS) (Fw:FnIn K "is_number" JR) (Fx:FnIn K "needs" PU) (Fy:FnIn K "is_stand" FT) (Fz:FnIn K "refuse_no_stand" DN) (F_:FnIn K "use_of" SH) (F':FnIn K "may_share" JS) (Ga:FnIn K "touch" PV) (Gb:FnIn K "lifts_by_ends" BY) (Gc:FnIn K "lifted_between" E7) (Gd:FnIn K "steps_between" CW) (Ge:FnIn K "way" pJ) (Gf:FnIn K "lifted" SJ) (Gg:FnIn K "_law_mixed" HR) (Gh:FnIn K "_law_take" JT) (Gi:FnIn K "_law_names" DO) (Gj:FnIn K "_law_deed" GI) (Gk:FnIn K "_law_after" DQ) (Gm:FnIn K "_law_start" F8) (Gn:FnIn K "_law_book" JU) (Gp:FnIn K "_law_must" JV) (Gq:FnIn K "_law_made" JW) (Gr:FnIn K "_law_needs" F9) (Gs:FnIn K "_law_stand" FA) (Gu:FnIn K "_law_kinds" FB) (Gv:FnIn K "_law_touch" HS) (Gw:FnIn K "_law_free" EN) (Gx:FnIn K "_law_moves" FC) (Gy:FnIn K "law" V1) (pf:a2J K bm "all"=al am) (ph:a2J K bm "any"=al am) (lg:a2J K bm "bool"=al am) (lh:a2J K bm "dict"=al am) (gf:a2J K bm "divmod"=al am) (cn:a2J K bm "enumerate"=al am) (pj:a2J K bm "int"=al am) (cc:a2J K bm "isinstance"=al am) (pq:a2J K bm "len"=al am) (li:a2J K bm "list"=al am) (iw:a2J K bm "range"=al am) (c_:a2J K bm "reversed"=al am) (gh:a2J K bm "sorted"=al am) (pw:a2J K bm "str"=al am) (ix:a2J K bm "tuple"=al am) (pz:a2J K bm "zip"=al am) (gi:a2J K bm "ADDING"=al (al (.ref L))) (gj:K.lookup L=al { cls:=.type "tuple", data:=.seq (z3 [.str (a0Q "count") jr,.str (a0Q "split") jt,.str (a0Q "join") ju]) nc }) (iy:a2J K bm "FORMS"=al (al (.ref g))) (iz:K.lookup g=al { cls:=.type "dict", data:=.dict (z3 [{ hash:=b0Q w.params (a0Q "put"),key:=.str (a0Q "put") kh,val:=.str (a0Q "npk") ki },{ hash:=b0Q w.params (a0Q "take"),key:=.str (a0Q "take") kj,val:=.str (a0Q "n") kl },{ hash:=b0Q w.params (a0Q "move"),key:=.str (a0Q "move") km,val:=.str (a0Q "np") ko },{ hash:=b0Q w.params (a0Q "count"),key:=.str (a0Q "count") kq,val:=.str (a0Q "nk") kr },{ hash:=b0Q w.params (a0Q "name"),key:=.str (a0Q "name") ku,val:=.str (a0Q "nn") ky },{ hash:=b0Q w.params (a0Q "split"),key:=.str (a0Q "split") kz,val:=.str (a0Q "nnpk") k_ },{ hash:=b0Q w.params (a0Q "join"),key:=.str (a0Q "join") la,val:=.str (a0Q "nn") lb }]) pd }) (i_:(g==dz)=bj) (cf:a2J K bm "LAST_PLACE"=al (al (.int 999 iu))) (e_:a2J K bm "LETTERS"=al (al (.str "abcdefghijklmnopqrstuvwxyz" ng))) (bp:a2J K bm "LONGEST_NAME"=al (al (.int 8 gd))) : ∃fd:gy,(∀(s:ba) (v:ar),BindsTo s fd #[[v],[]] [("_law_script", v)])/\∀base:db,K.In base->base.Ns bm mg->FnOk l.prog w K mg base CX0 11 fa fd ["_law_script"] (spD K 1 YT):=by
 obtain⟨_,_,j⟩:=b0.at X G;obtain⟨_,_,k⟩:=b1.at X G;obtain⟨_,_,q⟩:=b2.at X G;obtain⟨_,_,u⟩:=b3.at X G;obtain⟨_,_,x⟩:=b4.at X G;obtain⟨_,_,y⟩:=b5.at X G;obtain⟨_,_,N⟩:=b6.at X G;obtain⟨_,_,I⟩:=b7.at X G;obtain⟨_,_,R⟩:=b8.at X G;obtain⟨_,_,S⟩:=b9.at X G;obtain⟨_,_,D⟩:=Fj.at X G;obtain⟨_,_,M⟩:=Fk.at X G;obtain⟨_,_,J⟩:=Fl.at X G;obtain⟨_,_,Q⟩:=Fm.at X G;obtain⟨_,_,U⟩:=Fn.at X G;obtain⟨_,_,Y⟩:=Fo.at X G;obtain⟨_,_,Z⟩:=Fp.at X G;obtain⟨_,_,Hf⟩:=Fq.at X G;obtain⟨_,_,Hg⟩:=Fs.at X G;obtain⟨_,_,Hh⟩:=Ft.at X G;obtain⟨_,_,Hi⟩:=Fu.at X G;obtain⟨_,_,Hj⟩:=Fv.at X G;obtain⟨_,_,Hk⟩:=Fw.at X G;obtain⟨_,_,Hl⟩:=Fx.at X G;obtain⟨_,_,Hm⟩:=Fy.at X G;obtain⟨_,_,Hn⟩:=Fz.at X G;obtain⟨_,_,Ho⟩:=F_.at X G;obtain⟨_,_,Hq⟩:=F'.at X G;obtain⟨_,_,Hr⟩:=Ga.at X G;obtain⟨_,_,Hs⟩:=Gb.at X G;obtain⟨_,_,Ht⟩:=Gc.at X G;obtain⟨_,_,Hu⟩:=Gd.at X G;obtain⟨_,_,Hv⟩:=Ge.at X G;obtain⟨_,_,Hw⟩:=Gf.at X G;obtain⟨_,_,Hx⟩:=Gg.at X G;obtain⟨_,_,Hy⟩:=Gh.at X G;obtain⟨_,_,Hz⟩:=Gi.at X G;obtain⟨_,_,B⟩:=Gj.at X G;obtain⟨_,_,Ia⟩:=Gk.at X G;obtain⟨_,_,Ib⟩:=Gm.at X G;obtain⟨_,_,Ic⟩:=Gn.at X G;obtain⟨_,_,Ie⟩:=Gp.at X G;obtain⟨_,_,Ig⟩:=Gq.at X G;obtain⟨_,_,Ih⟩:=Gr.at X G;obtain⟨_,_,Ii⟩:=Gs.at X G;obtain⟨_,_,Ij⟩:=Gu.at X G;obtain⟨_,_,Ik⟩:=Gv.at X G;obtain⟨_,_,Il⟩:=Gw.at X G;obtain⟨_,_,Im⟩:=Gx.at X G;obtain⟨Nh,Mj,p⟩:=Gy.at X G;have e:=Mi.symm.trans p.mg_;cases e;have i:=a1W X G pf;have ma:=a1W X G ph;have ox:=a1W X G lg;have kc:=a1W X G lh;have jp:=a1W X G gf;have ay:=a1W X G cn;have lu:=a1W X G pj;have r:=a1W X G cc;have o:=a1W X G pq;have eu:=a1W X G li;have O:=a1W X G iw;have cz:=a1W X G c_;have ah:=a1W X G gh;have z:=a1W X G pw;have n:=a1W X G ix;have dj:=a1W X G pz;have dm:mg "ADDING"=al (.ref L)/\A0a K L ["count","split","join"]:=#[b6Z X G gi,_,_,gj,by show 3<=bd;decide,.cons _ _ (.cons _ _ (.cons _ _ (.nil)))]
 have iq:∃a,mg "FORMS"=al (.ref a)/\GDict w K a GV:=#[_,b6Z X G iy,i_,by decide +kernel,_,_,iz,rfl,#[_,rfl],#[_,rfl],rfl,#[_,rfl],#[_,rfl],rfl,#[_,rfl],#[_,rfl],rfl,#[_,rfl],#[_,rfl],rfl,#[_,rfl],#[_,rfl],rfl,#[_,rfl],#[_,rfl],rfl,#[_,rfl],#[_,rfl],trivial]
 have di:∃t,mg "LAST_PLACE"=al (.int 999 t):=#[_,b6Z X G cf]
 have g_:∃t,mg "LETTERS"=al (.str "abcdefghijklmnopqrstuvwxyz" t):=#[_,b6Z X G e_]
 have cm:∃t,mg "LONGEST_NAME"=al (.int 8 t):=#[_,b6Z X G bp]
 refine#[Mj,λs v=>?_,λbase _ _=>?_];. obtain⟨oc,od,kV,doc,pm,an,cdv,ct,osl,e,_,_⟩:=p.fn.ex;subst e;exact .of_eq rfl
 have b_:`hhh:=j.has (a8 j.fn ox lu r) (by walk_at "b1");have h_:`hhh:=k.has (dJ k.fn i r o z g_ cm) (by walk_at "b1");have br:`hhh:=q.has (X0 q.fn b_) (by walk_at "b3");have f':`hhh:=u.has (aA u.fn di br) (by walk_at "b1");have l':`hhh:=x.has (pL x.fn i dj) (by walk_at "b1");have cq:`hhh:=y.has (dM y.fn r z iq) (by walk_at "b1");have oz:`hhh:=N.has (uV N.fn h_ f' b_) (by walk_at "b2");have m:`hhh:=I.has (aC I.fn cq) (by walk_at "b1");have ia:`hhh:=R.has (dN R.fn i r o n dj oz cq m) (by walk_at "b1");have T:`hhh:=S.has (dP S.fn ) (by walk_at "b1");have dk:`hhh:=D.has (T9 D.fn n T m) (by walk_at "b1");have c:`hhh:=M.has (aE M.fn ) (by walk_at "b1");have ao:`hhh:=J.has (MD J.fn ah n) (by walk_at "b1");have fe:`hhh:=Q.has (X2 Q.fn ) (by walk_at "b3");have ak:`hhh:=U.has (MF U.fn ia T m) (by walk_at "b2");have jl:`hhh:=Y.has (jT Y.fn fe) (by walk_at "b2");have o_:`hhh:=Z.has (uX Z.fn c jl ak ao) (by walk_at "b2");have ff:`hhh:=Hf.has (X4 Hf.fn c ak) (by walk_at "b2");have jo:`hhh:=Hg.has (jV Hg.fn ay ff c o_ ao) (by walk_at "b2");have f:`hhh:=Hh.has (aF Hh.fn n) (by walk_at "b1");have jm:`hhh:=Hi.has (jW Hi.fn ay f T) (by walk_at "b1");have ib:`hhh:=Hj.has (dQ Hj.fn n) (by walk_at "b2");have bu:`hhh:=Hk.has (X6 Hk.fn o br) (by walk_at "b2");have l_:`hhh:=Hl.has (pM Hl.fn ah n bu jm dk) (by walk_at "b2");have gb:`hhh:=Hm.has (aH Hm.fn i r n bu l_ l') (by walk_at "b2");have aq:`hhh:=Hn.has (MH Hn.fn gb) (by walk_at "b2");have jn:`hhh:=Ho.has (jY Ho.fn dm) (by walk_at "b2");have fg:`hhh:=Hq.has (X8 Hq.fn jn) (by walk_at "b3");have md:`hhh:=Hr.has (pN Hr.fn ma fg m) (by walk_at "b2");have ci:`hhh:=Hs.has (OM Hs.fn o eu f md) (by walk_at "b3");have av:`hhh:=Ht.has (NO Ht.fn ah n ci) (by walk_at "b3");have cj:`hhh:=Hu.has (OO Hu.fn kc cz n dj ib f av jo) (by walk_at "b3");have se:`hhh:=Hv.has (A08 Hv.fn aq cj) (by walk_at "b3");have jq:`hhh:=Hw.has (k0 Hw.fn av aq) (by walk_at "b3");have bg:`hhh:=Hx.has (TD Hx.fn ) (by walk_at "b1");have b:`hhh:=Hy.has (XA Hy.fn jp) (by walk_at "b2");have dq:`hhh:=Hz.has (TB Hz.fn O b) (by walk_at "b2");have fh:`hhh:=B.has (XB B.fn lu o b) (by walk_at "b3");have dn:`hhh:=Ia.has (TF Ia.fn ) (by walk_at "b3");have dr:`hhh:=Ib.has (TH Ib.fn O ah n b) (by walk_at "b3");have fo:`hhh:=Ic.has (XD Ic.fn n dn fh bg dq dr b) (by walk_at "b2");have fj:`hhh:=Ie.has (XF Ie.fn ) (by walk_at "b1");have fi:`hhh:=Ig.has (XH Ig.fn ) (by walk_at "b1");have bh:`hhh:=Ih.has (TJ Ih.fn o O fi fj) (by walk_at "b1");have d_:`hhh:=Ii.has (TK Ii.fn i o O n bh) (by walk_at "b2");have du:`hhh:=Ij.has (TL Ij.fn r z) (by walk_at "b1");have dw:`hhh:=Ik.has (TN Ik.fn ah du) (by walk_at "b2");have fm:`hhh:=Il.has (XJ Il.fn ma dw) (by walk_at "b3");have dy:`hhh:=Im.has (TQ Im.fn i o O fm) (by walk_at "b3");exact A09 p.fn i o eu O ah n fo bg dy bh d_ b jq se
theorem A1B {ns:List Int}(m:ns.length<=63) (hb:∀i∈ns,xJ i<=2 ^ 20) (hS:SqL K H a (ns.map V.int)):spD K 1 YT [.ref a] H (λv _=>v = .bl ap) λ_ _ _=>False:=by
 refine#[[.d (.list (ns.map .int))],λ_=>am,rfl,(λa o e=>nomatch e),#[.ref a,[],rfl,?_,rfl],#[ns,rfl,m,hb],λx t v H' post r u I=>?_]
 . unfold SI DV;refine#[a,ns.map V.int,rfl,?_,GD];rcases hS with h | h;. exact .inl #[λw=>w rfl,h]
   . exact .inr h
 . have e:x = .d (.bool ap):=post;subst e;exact vK I
theorem A2t {l:PySem.W.OpenLaw}{q:bq}{loose:List Str}{XP:(Str->Option ar)->db->Prop}{YP:bo->db->Prop}{d:DefRec}{K:ew->Frg}(hn:l.most=al 63) (t:d.params.defaults=[]) (g:∀(w:bo) (h:db),YP w h->(K w.params).In h) (F:∀(w:bo) (mg:Str->Option ar) (e:Addr) (h:db),(K w.params).In h->h.Ns bm mg->mg d.name=al (.ref e) ->∃O:gy,(∀(s:ba) (u:ar),BindsTo s O #[[u],[]] [("_law_script", u)])/\∀base:db,(K w.params).In base->base.Ns bm mg->FnOk l.prog w (K w.params) mg base CX0 11 e O ["_law_script"] (spD (K w.params) 1 YT)) :
   PySem.W.WalkO q loose XP YP l.row.toRowW d [] (λf vs=>PySem.call f vs):=
 L2.m5 (n:=63) (k:=11) (x:= "_law_script") (CX:=λ_=>CX0) (sp:=λw=>spD (K w.params) 1 YT) hn (by decide) t #[rfl,by decide,by decide] g F (λ_ _ a o m hb _ hS=>A1B m hb hS) λ_ _ _ _ _ z=>z
end DL
open PySem PySem.W PyProof.Rows
set_option maxRecDepth 100000 in
set_option maxHeartbeats 0 in
theorem PySem.Challenge.cw_struckdeeds_k42_whole_no_way_takes_back_holds : PySem.Challenge.rw_struckdeeds_k42_whole_no_way_takes_back.Holds := by
 w_on
 refine PySem.W.holds_law DL.hS λX=>?_;refine PySem.W.holds_open (q:=DL.hV) (loose:=[a0Q "FORMS"]) (Xt:=(λs=>PySem.W.xlAt DL.hV [] s&&PySem.W.recOk (b4J (b2Z (b4K PySem.Challenge.rw_struckdeeds_k42_whole_no_way_takes_back))) s)) (XP:=PySem.W.XL DL.hV []) (Yf:=b8Z (a6K DL.hK DL.hA DL.hE)) (Ya:=b8X (a6K DL.hK DL.hA DL.hE)) (YP:=PySem.W.Hook.says (a6K DL.hK DL.hA DL.hE)) (N:=6192) DL.hL (PySem.W.Hook.of (a6K DL.hK DL.hA DL.hE)) (PySem.W.Hook.keeps (a6K DL.hK DL.hA DL.hE)) (λs e=>PySem.W.xl_of s (Bool.and_eq_true_iff.mp e).1) PySem.W.XL.keeps (by rfl) (by rfl) (by rfl) (λs e=>PySem.W.recFacts_of (Bool.and_eq_true_iff.mp e).2) rfl X (by decide +kernel) #[rfl,rfl,rfl,rfl,rfl,by decide +kernel] ?R ?hc
 (case R=>w_witness2)
 k_fill
 refine DL.A2t (l:=PySem.Challenge.rw_struckdeeds_k42_whole_no_way_takes_back) rfl rfl (λw h Y=>PySem.W.kIn_of Y) ?F
 case F=>
   intro w mg t h KX G L;refine' DL.A1A KX G L ?b0 ?b1 ?b2 ?b3 ?b4 ?b5 ?b6 ?b7 ?b8 ?b9 ?Fj ?Fk ?Fl ?Fm ?Fn ?Fo ?Fp ?Fq ?Fs ?Ft ?Fu ?Fv ?Fw ?Fx ?Fy ?Fz ?U ?Q ?Ga ?Gb ?Gc ?Gd ?Ge ?Gf ?Gg ?Gh ?Gi ?Gj ?Gk ?Gm ?Gn ?Gp ?Gq ?Gr ?Gs ?Gu ?Gv ?Gw ?Gx ?Gy ?c ?f ?g ?b ?j ?k ?u ?n ?z ?v ?m ?x ?y ?T ?p ?J ?o ?i ?O ?I ?r ?S ?M ?D;all_goals (first | (refine' DL.uT ?t ?B ?a ?Z;(case t=>k_is);(case B=>k_is);(case a=>k_is);(case Z=>k_is)) | skip)
   (case c=>k_is)
   (case f=>k_is)
   (case g=>k_is)
   (case b=>k_is)
   (case j=>k_is)
   (case k=>k_is)
   (case u=>k_is)
   (case n=>k_is)
   (case z=>k_is)
   (case v=>k_is)
   (case m=>k_is)
   (case x=>k_is)
   (case y=>k_is)
   (case T=>k_is)
   (case p=>k_is)
   (case J=>k_is)
   (case o=>k_is)
   (case i=>k_is)
   (case O=>k_is)
   (case I=>k_is)
   (case r=>decide)
   (case S=>k_is)
   (case M=>k_is)
   (case D=>k_is)
#print axioms PySem.Challenge.cw_struckdeeds_k42_whole_no_way_takes_back_holds
