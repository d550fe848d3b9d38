import PyProof.Rows.All
import Wide.All
import OpenK.AllK
import Wide.FinOn
import Lean
import PyProof.EqAt
import PyProof.EqKinds
import PyProof.TupleCall
import PyProof.ListRange
import PyProof.TupleOfSeq
import PyProof.WalksS
import PyProof.CollectWalk
import KE.KRevIter
import PyProof.P3In
import PyProof.SumAnyB
import PyProof.NeKinds
import KE.KEqDict
import PyProof.RulesAssignMore
import PyProof.SetRoads
import PyProof.Rows.SetFrom
import KE.KDictOf
import PyProof.Draws
import KE.KIsAll
import KE.KDictList
import PySem.Challenge.RW_struckdeeds_k29_whole_told_worlds_met_ag
set_option Elab.async false
set_option linter.all false
set_option maxRecDepth 100000
set_option compiler.extract_closed false
set_option maxHeartbeats 4000000
open PySem.Challenge renaming pw_struckdeeds_k29_whole_told_worlds_met_ag->ad
open Option renaming some->am,none->ap
open Bool renaming true->av,false->ay
open PySem renaming Value->aw,Shared->ax,sizeLine->aB,wpAny_loadPart_at->a0,mainGlobals->bb,wpAny_mono->bc,World->bd,wpAny_field->bf,Program->bh,compareOp->bj,Expr->bn,wpAny_holding->bq,wpAny_isSubtype_exc->br,wpAny_standAt->bt,Around->bv,foldedSetIterable->bw,Heap->ca,wpAny_call_entry->ce,Obj->cr,wpAny_truthy_bool->cN,treeTable->cR,wpAny_Call_Name_kw->c0,sizeLine_eq->c3,wpAny_seqItems->c4,sysModules->da,wpAny_setField_rec->db,wpAny_rule->dc,assignEach->dg,binaryOp->dh,rawInt->dZl,wpAny_setField->dV,IsPair->ed,FuncData->ee,cLine->ef,wpAny_passesOwn->eg,NameKind->ek,OsState->en,noFill_tuple_add->et,Stmt->ew,Pos->eH,wpAny_execs_nil->eN,typeLookup->e5,wpAny_getItem_str_slice->fb,Scope->fc,Params->fi,wpAny_onRaise->fk,seq_tuple_add->ft,behindInMarks->fw,wpAny_of_eq->fx,sliceBounds->fy,wpAny_loadPart'->fN,IsZip->ge,bootBuiltins->gg,swapsWith->gj,noteFrame->gl,wpAny_pyIter_tuple->gm,tupleKind_room_in1->gr,valueAt->gt,getItem->gy,wpAny_newList->g5,comprehension->g8,take_succ_filter->hX,wpAny_typeOf->hY,assign->h7,ExcBaseFacts->ib,Env->im,post_val_or_str->io,field->iv,wpAny_updateSeq_pair->ix,firstArgMember->iz,IsPart->iD
open PyProof.Rows renaming seqObj->cE,kindOf->ga,envOfC->gc,AllBare->g0
open PySem.Str renaming ofString->a0Q
open PySem.Value renaming ref->a0X,none->a0V,str->c0W,int->c0V
open List renaming mem_cons_self->a0Z,range->a0K,take_length->a1Q,length_take->a1X,contains_cons->a1K,append_nil->a2Q,sum_cons->a2J,take_add_one->a2K,filterMap_cons->a2V,getElem_mem->a3J,lookup_cons->a3V,pairwise_cons->a5X,foldl_append->a6X,length_nil->a6J,getElem?_eq_none->a6K,filter_cons->a6V,filter_sublist->a7J,drop_eq_nil_of_le->a7K,perm_ext_iff_of_nodup->a8X,length_singleton->a8V,flatMap_cons->a9J,flatMap_append->a9W,all_eq_true->b0X,mem_singleton->b0W,take_append_drop->b1X,find?_cons->b1Z,pairwise_map->b2Q,ext_getElem?->b2X,replicate->b2V,length_drop->b3X,of_mem_zip->b3J,getElem?_cons_succ->b3K,foldl_cons->b3W,any_cons->b3V,take_of_length_le->b5X,append_assoc->b5J,any_eq_true->b6Q,getElem?_set_ne->b6X,map_id->b6V,zip_cons_cons->b8Z,map_nil->b8J,getElem?_zip_eq_some->b8W,length->b9J,eraseIdx_cons_succ->b9K,getElem_map->c0Q
open PySem.PyData renaming str->a0J,eqv->a0W,depth->a3Z,depthAll->a4Z,keyHash->a9V,int->b4W,canLayAll0->b4V,tuple->c0Z
open Bool renaming and_eq_true->a1Z,eq_iff_iff->a4J,false_eq_true->b4Q,true_and->b9W
open Option renaming isSome_map->a1J,some->a4X,none->b9Q
open Sum renaming inr->a1W
open PySem.W renaming mg_none_of->a1V,nsIn->a2X,kia_one->a3K,keepIn->a3W,fnOf->a5Q,boot_heap->a5K,mg_of->a5V,kHook->a7Q,topRun->a8J,findIn->a8K,codeIn->a9K,segRunT->b0J,piecesOf->b2J,segRun_of->b4X,restOf->b4K,isFn->b5Q,callWith_K->b6K,boot_drawn->b6W,piece_app->b7W,boot_toks->b7V,cellsFrom_some->b9X,looks_findIn->c0K
open PySem.Builtin.SmallTypes renaming nextOf->a2Z,ownedTupleIsFree->a3X,ownedTupleHandOut->b7J
open Int renaming toNat_natCast->a2W,natCast_nonneg->a5Z,emod_lt_of_pos->a9X,emod_nonneg->b1K,add_zero->b5V,fdiv_eq_ediv_of_nonneg->b8K
open PySem.Heap renaming get?_update_self->a3Q,size_push->a9Z
open PySem.Builtin.Str renaming occurrences->a4Q,strSliceIndices->b0Q
open Ne renaming symm->a4K
open Array renaming length_toList->a4W,getElem?_toList->a8W,getElem?_eq_getElem->b2W,getD_eq_getD_getElem?->b6J,getElem?_eq_none->c0X
open Nat renaming le_succ->a4V,ne_of_gt->a9Q,add_le_add->b3Q,lt_trichotomy->b5K,lt_succ_of_lt->b9Z,le_add_right->c0J
open PySem.Obj renaming mapSeq->a5J,data_mapFields->b0V,mapFields->b2Z
open PySem renaming mem_of_lookup->a5W
open PySem.F renaming slot_tuple_iterator_next->a6Q,args_tuple_add_2->a6Z,entry_tuple_add->a7X,slot_tuple_add->a7Z,excBase_ValueError->b6Z,args_tuple_iterator_next_1->b7Z,entry_tuple_iterator_next->b8Q
open False renaming elim->a6W
open PySem.NameKind renaming free->a7W
open List.Pairwise renaming nil->a7V
open PyProof.Rows renaming slot_tuple_getitem->a8Q,bitAnd_pp->b7K
open True renaming intro->a8Z
open PySem.Txt renaming slice->b0Z
open PySem.Builtin.Slice renaming slicePlaces->b0K,sliceAdjust->b5W
open PySem.Builtin.Tuple renaming tupleExact->b1Q
open PySem.Builtin.List renaming listTooLong->b1J
open Classical renaming byContradiction->b1W
open PySem.Spec renaming ltCps->b1V
open PySem.W.OpenRow renaming toRowW->b2K
open ForInStep renaming yield->b3Z
open PySem.W.RowW renaming records->b4Z
open PySem.W.OpenLaw renaming row->b4J
open PySem.Heap.SameBut renaming update->b5Z
open PySem.W.Hook renaming val->b7Q,obs->b7X
open PySem.Calls renaming call_function_entry->b8X,callWith_builtin->b9V
open Function renaming comp->b8V
open PySem renaming wpAny_bind->zZ,wpAny_pure->zY,codeAny_mono->xM,wpAny_newObj_type->xL
open List renaming length_map->zX,getElem?_eq_getElem->zV,mem_map->zL,size_toArray->zJ,map_cons->zI,getElem?_map->zF,map_map->zD,mem_append_right->zB,mem_append_left->zA,length_append->yY,mem_cons->yX,mem_append->yW,mem_cons_of_mem->yV,getD_eq_getElem?_getD->yU,getElem?_eq_some_iff->yT,length_cons->yR,getElem?_append_left->yQ,getElem?_append_right->yP,mem_of_getElem?->yN,map_congr_left->yM,mem_filter->yL,length_filter_le->yJ,getElem?_range->xZ,length_range->xY,not_mem_nil->xW,nodup_cons->xU,filter_map->xT,map_append->xH
open PySem.Heap renaming get?_push_of_some->zW,lt_size->zM,get?_push_size->yZ,get?_update_other->yC,get?_update_ne->yB
open Nat renaming le_refl->zR,lt_of_le_of_lt->zQ,lt_of_lt_of_le->zP,le_trans->zN,ne_of_lt->zC,lt_irrefl->yF,le_of_ble_eq_true->yD,zero_le->xR,le_of_lt->xQ,lt_trans->xP
open PySem.SeqAt renaming shaped->zH,canLay_of_shaped->zG
open Option renaming isSome_iff_exists->xX
open PySem.Calls renaming spliced_cons->xN
open PyProof.Rows renaming envOfC->xJ,callWith_type1->xG,sortedS->xF
open PySem.Builtin.Int renaming intBits->xI
open List renaming toArray->y9
local macro_rules | `(#[$e,*])=>if e.getElems.isEmpty then Lean.Macro.throwUnsupported else `(⟨$e,*⟩)
abbrev sT (n:Nat):PySem.Stmt:=ad.main.body.getD n (.Pass #[0,0,0,0])
abbrev Frg:=PySem.W.Frag
theorem nft:¬(ay=av):=Bool.false_ne_true
namespace L2
open PySem PySem.Spec PyProof.Rows
abbrev Key:=Sum Int Str
def OD:Key->aw->Bool
 | .inl k,v=>Value.isInt k v
 | .inr x,v=>Value.isStrOf x v
def A3v (w:bd):Key->Int
 | .inl k=>hashInt k
 | .inr x=>hashStr w x
theorem B5:∀{k:Key}{v:aw},OD k v=av->(∃i t,k=Sum.inl i/\v=c0V i t)\/(∃x t,k=a1W x/\v=c0W x t)
 | .inl i,v,h=>by obtain⟨t,e⟩:=Value.isInt_shape (k:=i) (v:=v) h;exact .inl #[i,t,rfl,e]
 | .inr x,v,h=>by obtain⟨t,e⟩:=Value.isStrOf_shape (x:=x) (v:=v) h;exact .inr #[x,t,rfl,e]
theorem fJ (i:Int) (t:Tok):OD (.inl i) (.int i t)=true:=by simp[OD,Value.isInt]
theorem fK (x:Str) (t:Tok):OD (.inr x) (.str x t)=true:=by simp[OD,Value.isStrOf]
theorem A0F (a b:Int):decide ((Sum.inl a:Key)=Sum.inl b)=(a==b):=by
 by_cases e:a=b;. subst e;simp
 . have h:¬(Sum.inl a:Key)=Sum.inl b:=λq=>e (Sum.inl.inj q);rw[decide_eq_false h];exact(beq_eq_false_iff_ne.mpr e).symm
theorem A0G (a b:Str):decide ((a1W a:Key)=a1W b)=decide (a=b):=by
 by_cases e:a=b;. subst e;simp
 . have h:¬(a1W a:Key)=a1W b:=λq=>e (Sum.inr.inj q);rw[decide_eq_false h,decide_eq_false e]
theorem A0H (a:Int) (b:Str):decide ((Sum.inl a:Key)=a1W b)=false:=decide_eq_false (λq=>nomatch q)
theorem A0I (a:Str) (b:Int):decide ((a1W a:Key)=Sum.inl b)=false:=decide_eq_false (λq=>nomatch q)
def AT (prog:bh) (w:bd):PySem.KeyKind prog w Key where
 is:=OD
 hash:=A3v w
 inj:=λv a b ha hb=>by
   rcases B5 ha with ⟨i,t,rfl,rfl⟩ | ⟨x,t,rfl,rfl⟩
   . rcases B5 hb with ⟨j,u,rfl,e⟩ | ⟨y,u,rfl,e⟩
     . injection e with e1 _;rw[e1]
     . exact nomatch e
   . rcases B5 hb with ⟨j,u,rfl,e⟩ | ⟨y,u,rfl,e⟩
     . exact nomatch e
     . injection e with e1 _;rw[e1]
 byValue:=λk v h=>by rcases B5 h with ⟨i,t,rfl,rfl⟩ | ⟨x,t,rfl,rfl⟩ <;> rfl
 pyHash:=λhv h=>by
   rcases B5 hv with ⟨i,t,rfl,rfl⟩ | ⟨x,t,rfl,rfl⟩
   . exact wpAny_pyHash_int h
   . exact wpAny_pyHash_str h
 eqBool:=λhu hv h=>by
   rcases B5 hu with ⟨i,t,rfl,rfl⟩ | ⟨x,t,rfl,rfl⟩
   . rcases B5 hv with ⟨j,u,rfl,rfl⟩ | ⟨y,u,rfl,rfl⟩
     . rw[A0F] at h;exact wpAny_eqBool_int h
     . rw[A0H] at h;exact SeqAt.EqAt.int_str i t y u _ _ _ _ h
   . rcases B5 hv with ⟨j,u,rfl,rfl⟩ | ⟨y,u,rfl,rfl⟩
     . rw[A0I] at h;exact SeqAt.EqAt.str_int x t j u _ _ _ _ h
     . rw[A0G] at h;exact wpAny_eqBool_str h
 «strs»:=λk x t v h=>by
   rcases B5 h with ⟨i,u,rfl,e⟩ | ⟨y,u,rfl,e⟩
   . exact nomatch e
   . injection e with e1 _;subst e1;cases v <;> rfl
theorem WM (prog:bh) (w:bd) (i:Int) (t:Tok):(AT prog w).is (.inl i) (.int i t)=true:=fJ i t
theorem OE (prog:bh) (w:bd) (x:Str) (t:Tok):(AT prog w).is (.inr x) (.str x t)=true:=fK x t
set_option genSizeOf false
inductive V where
 | non | bl (b:Bool) | int (i:Int) | str (x:Str) | byt (b:Array UInt8) | flt (b:UInt64) | ref (a:Addr) | ty (n:String)
 deriving DecidableEq
def RelV:V->aw->Prop
 | .non,u=>u=a0V
 | .bl b,u=>u=Value.bool b
 | .int i,u=>∃t,u=c0V i t
 | .str x,u=>∃t,u=c0W x t
 | .byt b,u=>∃t,u=Value.bytes b t
 | .flt b,u=>∃t,u=Value.float b t
 | .ref a,u=>u=a0X a
 | .ty n,u=>u=Value.type n
abbrev Vals:List V->List aw->Prop:=Paired RelV
theorem Vals.length (r:Vals xs k):xs.length=k.length:=Paired.length r
theorem Vals.get:∀{xs:List V}{k:List aw}{i:Nat}{x:V},Vals xs k->xs[i]?=am x->∃u,k[i]?=am u/\RelV x u
 | _,_,_,_,.nil,e=>by simp at e
 | _,_,0,_,.cons r _,e=>by simp at e;subst e;exact#[_,rfl,r]
 | _,_,i+1,x,.cons _ t,e=>by obtain⟨u,h1,n⟩:=Vals.get (i:=i) (x:=x) t (by simpa using e);exact#[u,by simpa using h1,n]
theorem Vals.set (r:RelV x u):∀{xs:List V}{k:List aw}(i:Nat),Vals xs k->Vals (xs.set i x) (k.set i u)
 | _,_,_,.nil=>.nil
 | _,_,0,.cons _ t=>.cons r t
 | _,_,i+1,.cons q t=>.cons q (Vals.set r i t)
theorem Vals.append:∀{xs ys:List V}{k T:List aw},Vals xs k->Vals ys T->Vals (xs++ys) (k++T)
 | _,_,_,_,.nil,s=>s
 | _,_,_,_,.cons r t,s=>.cons r (Vals.append t s)
theorem Vals.take:∀{xs:List V}{k:List aw}(n:Nat),Vals xs k->Vals (xs.take n) (k.take n)
 | _,_,0,_=>.nil
 | _,_,_+1,.nil=>.nil
 | _,_,n+1,.cons r t=>.cons r (Vals.take n t)
theorem Vals.drop:∀{xs:List V}{k:List aw}(n:Nat),Vals xs k->Vals (xs.drop n) (k.drop n)
 | _,_,0,r=>r
 | _,_,_+1,.nil=>.nil
 | _,_,n+1,.cons _ t=>Vals.drop n t
def RelO:Option V->Option aw->Prop
 | some v,am u=>RelV v u
 | none,ap=>True
 | _,_=>False
def KV {e:Type}:List (e×V)->List (e×aw)->Prop:=Paired λ(p:e×V) (q:e×aw)=>p.1=q.1/\RelV p.2 q.2
def kV:Key->V
 | .inl i=>.int i
 | .inr x=>.str x
inductive HO where
 | lst (xs:List V)
 | tup (xs:List V)
 | dK (kvs:List (Key×V)) | dT (kvs:List (List Key×V))
 | set (S:Int->Bool) (n:Nat)
 | ins (C dx:Addr) (fs:List (Str×V))
 | own (x:Addr)
 | xd (fs:List (Str×V))
 | met (f x:Addr)
 | rng (lo hi:Int)
 | frz (o:cr) (u:HO)
 | tbl (ps:Array aw)
 | ext (φ:ca->Prop)
abbrev Hp:=Addr->Option HO
def upd (H:Hp) (a:Addr) (o:HO):Hp:=λb=>if b=a then am o else H b
theorem AE :upd H a o a=am o:=by unfold upd;rw[if_pos rfl]
theorem AG (h:b≠a):upd H a o b=H b:=by unfold upd;rw[if_neg h]
theorem A2e {H:Hp}(h:H a=am o) (h':H b=am u) (d:o≠u):a≠b:=by intro e;subst e;rw[h] at h';exact d (Option.some.inj h')
theorem B1 {H:Hp}(h:H a=am o) (h':H b=ap):a≠b:=by intro e;subst e;rw[h] at h';cases h'
section
variable (P:bh) (w:bd)
def ObjOk (H:Hp) (h:ca) (a:Addr):HO->Prop
 | .lst e=>e.length<=aB/\∃(y:List aw) (n:Nat),Vals e y/\h.get? a=am { cls:=.type "list", data:=.seq y.toArray n }
 | .tup e=>e.length<=aB/\∃y:List aw,Vals e y/\IsTup h a y.toArray
 | .dK kvs=>kvs.length<=aB/\(a==da)=ay/\∃m,KV kvs m/\h.DictOf (AT P w) a m
 | .dT kvs=>kvs.length<=aB/\(a==da)=ay/\∃e:List (List Key×Addr×aw),
     Paired (λ(p:List Key×V) (q:List Key×Addr×aw)=>p.1=q.1/\H q.2.1=am (.tup (p.1.map kV))/\RelV p.2 q.2.2) kvs e /\
     ∃o M Z,h.get? a=am o/\o.ExactDict/\o.data = .dict M Z/\M.toList=e.map (entryOfKey (tupleKind (AT P w)))/\(e.map (·.1)).Nodup
 | .set S n=>h.SetOf (intKind P w) a S n
 | .ins C D fs=>H D=am (.own a)/\fs.length<=1000/\D≠a/\h.get? a=am (PySem.W.instObj C D) /\∃i,h.Ns1 D i/\(∀f,RelO (fs.lookup f) (i f))/\PySem.Within i (fs.map (·.1))
 | .own _=>∃o,h.get? a=am o
 | .xd fs=>∃i,h.Ns1 a i/\∀f,RelO (fs.lookup f) (i f)
 | .rng I hi=>∃t u v,h.get? a=am { cls:=.type "range", data:=.fields (y9 [.int I t,.int hi u,.int 1 v]) }
 | .frz o u=>h.get? a=am o/\ObjOk H h a u
 | .tbl Q=>h.get? a=am { cls:=.none,data:=.fields Q }
 | .met f x=>h.get? a=am (PySem.W.methodObj (.ref f) (.ref x))
 | .ext c=>c h/\(∃o,h.get? a=am o)/\∀h1 r:ca,c h1->(∀o,h1.get? a=am o->r.get? a=am o)->c r
def HOk (H:Hp) (h:ca):Prop:=∀a o,H a=am o->ObjOk P w H h a o
end
section
variable {P:bh}{w:bd}{H H':Hp}{h h':ca}{a:Addr}{o:HO}
theorem ObjOk.lt (x:ObjOk P w H h a o):a < h.objs.size:=by
 cases o with
 | lst t=>obtain⟨_,_,_,_,e⟩:=x;exact zM e
 | tup t=>obtain⟨_,_,_,p⟩:=x;exact p.lt
 | dK kvs=>obtain⟨_,_,_,_,o,_,_,e,_⟩:=x;exact zM e
 | dT kvs=>obtain⟨_,_,_,_,o,_,_,e,_⟩:=x;exact zM e
 | set S n=>obtain⟨o,_,_,_,e,_⟩:=x;exact zM e
 | ins C D fs=>obtain⟨_,_,_,e,_⟩:=x;exact zM e
 | own y=>obtain⟨_,e⟩:=x;exact zM e
 | xd fs=>obtain⟨_,⟨_,_,_,e,_⟩,_⟩:=x;exact zM e
 | rng I hi=>obtain⟨_,_,_,e⟩:=x;exact zM e
 | frz i u=>obtain⟨e,_⟩:=x;exact zM e
 | tbl Q=>exact zM (show h.get? a=am _ from x)
 | met f y=>exact zM (show h.get? a=am _ from x)
 | ext c=>obtain⟨_,⟨_,e⟩,_⟩:=x;exact zM e
theorem Paired.mapP :∀{e:List S}{i:List L},Paired F e i->(∀a b,F a b->G a b)->Paired G e i
 | _,_,.nil,_=>.nil
 | _,_,.cons r t,f=>.cons (f _ _ r) (Paired.mapP t f)
theorem ObjOk.stay (x:ObjOk P w H h a o) (k:∀b u,(b=a\/H b=am (.own a))->h.get? b=am u->h'.get? b=am u) (ho:∀b,H b=am (.own a)->H' b=am (.own a)) (O:∀b xs,H b=am (.tup xs)->H' b=am (.tup xs)):ObjOk P w H' h' a o:=by
 induction o with
 | lst xs=>obtain⟨z,m,n,r,e⟩:=x;exact#[z,m,n,r,k _ _ (.inl rfl) e]
 | tup xs=>obtain⟨z,m,r,i,e,c⟩:=x;exact#[z,m,r,i,k _ _ (.inl rfl) e,c]
 | dK kvs=>obtain⟨z,y,B,r,i,M,Z,e,c⟩:=x;exact#[z,y,B,r,i,M,Z,k _ _ (.inl rfl) e,c]
 | dT kvs=> obtain⟨z,y,xs,r,i,M,Z,e,c⟩:=x;exact#[z,y,xs,Paired.mapP r λp q z=>#[z.1,O _ _ z.2.1,z.2.2],i,M,Z,k _ _ (.inl rfl) e,c]
 | set S n=>obtain⟨i,M,Z,t,e,c⟩:=x;exact#[i,M,Z,t,k _ _ (.inl rfl) e,c]
 | ins C G fs=> obtain⟨d,z,D,e,g,⟨j,M,Z,N,c⟩,r⟩:=x;exact#[ho _ d,z,D,k _ _ (.inl rfl) e,g,#[j,M,Z,k _ _ (.inr d) N,c],r]
 | own y=>obtain⟨i,e⟩:=x;exact#[i,k _ _ (.inl rfl) e]
 | xd fs=>obtain⟨g,⟨j,M,Z,e,c⟩,r⟩:=x;exact#[g,#[j,M,Z,k _ _ (.inl rfl) e,c],r]
 | rng J hi=>obtain⟨t,u,v,e⟩:=x;exact#[t,u,v,k _ _ (.inl rfl) e]
 | frz i u I=>obtain⟨e,q⟩:=x;exact#[k _ _ (.inl rfl) e,I q]
 | tbl Q=> have e:h.get? a=am { cls:=.none,data:=.fields Q }:=x;show h'.get? a=am { cls:=.none,data:=.fields Q };exact k a _ (.inl rfl) e
 | met f y=> have e:h.get? a=am (PySem.W.methodObj (.ref f) (.ref y)):=x;show h'.get? a=am (PySem.W.methodObj (.ref f) (.ref y));exact k a _ (.inl rfl) e
 | ext L=>obtain⟨p,⟨o,e⟩,T⟩:=x;exact#[T _ _ p λo q=>k _ _ (.inl rfl) q,#[o,k _ _ (.inl rfl) e],T]
theorem HOk.lt (x:HOk P w H h) (e:H a=am o):a < h.objs.size:=(x a o e).lt
theorem HOk.fresh (x:HOk P w H h) (e:h.objs.size<=a):H a=none:=by
 cases q:H a with
 | none=>rfl
 | some u=>exact absurd (zP (x.lt q) e) (yF _)
theorem HOk.kept (x:HOk P w H h) (k:∀b u,h.get? b=am u->h'.get? b=am u):HOk P w H h':=λa o e=>
 (x a o e).stay (λb u _ q=>k b u q) (λ_ q=>q) λ_ _ q=>q
theorem HOk.laid (x:HOk P w H h) (k:∀b u,h.get? b=am u->h'.get? b=am u) (hp:h.objs.size<=a) (new:ObjOk P w (upd H a o) h' a o):HOk P w (upd H a o) h':=λb u e=>by
 have hn:=x.fresh hp;by_cases hb:b=a;. subst hb;rw[AE] at e;cases e;exact new
 . rw[AG hb] at e;exact(x b u e).stay (λc v _ q=>k c v q) (λc q=>by rw[AG (B1 q hn)];exact q) λc t q=>by rw[AG (B1 q hn)];exact q
end
def Rd (H:Hp) (a:Addr) (u:HO):Prop:=H a=am u\/∃o,H a=am (.frz o u)
theorem Rd.ok (r:Rd H a u) (x:HOk P w H h):ObjOk P w H h a u:=by
 rcases r with r | ⟨o,r⟩
 . exact x a u r
 . obtain⟨_,q⟩:=x a _ r;exact q
def Mut:Option HO->Prop
 | some (.lst _)=>True
 | some (.dK _)=>True
 | some (.dT _)=>True
 | some (.set _ _)=>True
 | some (.ins _ _ _)=>True
 | some (.ext _)=>True
 | _=>False
section
theorem HOk.write (ok:HOk P w H h) (t:Mut (H x)) (i:e=x\/H e=am (.own x)) (k:∀b u,b≠e->h.get? b=am u->h'.get? b=am u) (g:∃u,h'.get? e=am u) (new:ObjOk P w (upd H x o') h' x o'):HOk P w (upd H x o') h':=λb u q=>by
 have o:∀c y,H c=am (.own y)->c≠x:=λc y r z=>by subst z;rw[r] at t;exact t
 have p:∀c n,H c=am (.tup n)->c≠x:=λc n r z=>by subst z;rw[r] at t;exact t
 by_cases hb:b=x;. subst hb;rw[AE] at q;cases q;exact new
 . rw[AG hb] at q;by_cases hbe:b=e
   . have m:H b=am (.own x):=by
       rcases i with z | z;. exact absurd (hbe.trans z) hb
       . rw[hbe];exact z
     rw[q] at m;cases m;obtain⟨v,f⟩:=g;exact#[v,by rw[hbe];exact f]
   . refine(ok b u q).stay (λc v hc r=>k c v ?_ r) (λc r=>by rw[AG (o c b r)];exact r) λc n r=>by rw[AG (p c n r)];exact r
     rcases hc with rfl | hc;. exact hbe
     . rintro rfl;rcases i with z | z;. exact o c b hc z
       . rw[hc] at z;cases z;exact hb rfl
end
structure Un (fs ex:List Addr) (H H':Hp) (h h':ca):Prop where
 keep:∀b o,h.get? b=am o->H b=ap->b∉fs->b∉ex->h'.get? b=am o
 slot:∀b o,h.get? b=am o->H b=ap->b∈fs->b∉ex->∃sl,h'.get? b=am { o with slots:=sl }
 free:∀b o,h.get? b=am o->H b=ap->b∉ex->H' b=ap
 there:∀b o,h.get? b=am o->b∉ex->∃o',h'.get? b=am o'
 tups:∀b xs,H b=am (.tup xs)->H' b=am (.tup xs)
 frzs:∀b o u,H b=am (.frz o u)->H' b=am (.frz o u)
 tbls:∀b ps,H b=am (.tbl ps)->∃more,H' b=am (.tbl (ps++more))
section
variable {fs Cf ex Ae:List Addr}{H H1 H2:Hp}{h h1 h2 h':ca}{a x e:Addr}{o:HO}
theorem Un.any (u:Un fs ex H H1 h h1) (q:h.get? b=am y) (n:H b=ap) (hx:b∉ex):∃sl,h1.get? b=am { y with slots:=sl }:=by
 by_cases hb:b∈fs;. exact u.slot b y q n hb hx
 . exact#[y.slots,u.keep b y q n hb hx]
theorem Un.kept (k:∀b u,h.get? b=am u->h'.get? b=am u):Un fs ex H H h h':=#[λb y q _ _ _=>k b y q,λb y q _ _ _=>#[y.slots,k b y q],λ_ _ _ n _=>n,λb y q _=>#[y,k b y q],λ_ _ q=>q,λ_ _ _ q=>q,λ_ Q q=>#[#[],by rw[q];simp]]
theorem Un.refl:Un fs ex H H h h:=Un.kept λ_ _ q=>q
theorem Un.laid (k:∀b u,h.get? b=am u->h'.get? b=am u) (hp:h.objs.size<=a) (hn:H a=ap):Un fs ex H (upd H a o) h h' where
 keep:=λb u q _ _ _=>k b u q
 slot:=λb u q _ _ _=>#[u.slots,k b u q]
 free:=λb u q n _=>by rw[AG (zC (zP (zM q) hp))];exact n
 there:=λb u q _=>#[u,k b u q]
 tups:=λb xs q=>by rw[AG (B1 q hn)];exact q
 frzs:=λb u xs q=>by rw[AG (B1 q hn)];exact q
 tbls:=λb ps q=>#[#[],by rw[AG (B1 q hn),q];simp]
theorem Un.write (t:Mut (H x)) (m:e=x\/H e=am (.own x)) (k:∀b u,b≠e->h.get? b=am u->h'.get? b=am u) (c:∃u,h'.get? e=am u):Un fs ex H (upd H x o) h h':=by
 have hx:∀b,H b=ap->b≠x:=λb n z=>by subst z;rw[n] at t;exact t
 have hb:∀b,H b=ap->b≠e:=λb n z=>by
   subst z;rcases m with r | r;. exact hx b n r
   . rw[n] at r;cases r
 have i:∀b u,H b=am u->¬Mut (am u)->b≠x:=λb u q M z=>by subst z;rw[q] at t;exact M t
 refine#[λb u q n _ _=>k b u (hb b n) q,λb u q n _ _=>#[u.slots,k b u (hb b n) q],λb u q n _=>by rw[AG (hx b n)];exact n,λb u q _=>?_,
   λb p q=>by rw[AG (i b _ q λz=>z)];exact q,λb u p q=>by rw[AG (i b _ q λz=>z)];exact q,λb Q q=>#[#[],by rw[AG (i b _ q λz=>z),q];simp]];by_cases hbe:b=e
 . subst hbe;exact c
 . exact#[u,k b u hbe q]
end
def trk (h:ca) (H:Hp):List Addr:=(a0K h.objs.size).filter λa=>(H a).isSome
def UE (h:ca) (H:Hp):Heap:=PySem.W.hideAll h (trk h H)
theorem fL (h:ca) (H:Hp):(UE h H).objs.size=h.objs.size:=PySem.W.hideAll_size _ _
theorem jX (e:h.get? b=am o) (n:H b=ap):(UE h H).get? b=am o:=
 PySem.W.hideAll_get _ e λt=>by have q:(H b).isSome=true:=(yL.mp t).2;rw[n] at q;simp at q
theorem rO (e:(UE h H).get? b=am o):h.get? b=am o/\H b=none:=by
 have e':h.get? b=am o:=PySem.W.of_hideAll (trk h H) e;refine#[e',?_];cases q:H b with
 | none=>rfl
 | some x=> have t:b∈trk h H:=yL.mpr #[List.mem_range.mpr (zM e'),by simp[q]];have z:(UE h H).get? b=none:=PySem.W.hideAll_none (trk h H) t;rw[z] at e;cases e
structure Mod (K:Frg) (mg:Str->Option aw) (base:ca):Prop where
 kin:K.In base
 glob:base.Ns bb mg
 blt:∃mb,base.Ns builtinsNs mb/\∀x:Str,x ≠ "__name__" -> mb x=gg x
 nolimit:base.NoLimit
set_option genInjectivity false
structure Cx where
 prog:bh
 w:bd
 K:Frg
 mg:Str->Option aw
 base:ca
 A:bv
 N:List Str
 s₀:ax
 H₀:Hp
 env:im
 outer:List im
 stack:List im
 ex:List Addr
 fn:Str->Bool
 calm:Bool
 pn:List (Addr×cr)
 xe:aw->ax->Prop
def frs (l:List im):List Addr:=l.filterMap (·.frame)
abbrev Cx.fs (X:Cx):List Addr:=frs X.outer
def Vis (y:fc) (x:Str):Prop:=y.names.lookup x=am .local\/y.names.lookup x=am .cell\/y.names.lookup x=am .free
def Loc (y:fc) (x:Str):Prop:=y.names.lookup x=am .local\/y.names.lookup x=am .cell
def A3w (env:im) (h:ca) (m:Str->Option aw) (x:Str) (u:aw):Prop:=(env.kindOf x=am .local/\m x=am u)\/((env.kindOf x=am .cell\/env.kindOf x=am .free)/\∃c,env.cells.lookup x=am c/\h.IsCell c (am u))
structure Cx.Ok (X:Cx):Prop where
 mod:Mod X.K X.mg X.base
 kind:X.env.scope.kind = .function
 glob:X.env.globals=bb
 blt:X.env.builtins=builtinsNs
 above:X.s₀.heap.objs.size<=X.env.locals
 inj:∀x y c,X.env.cells.lookup x=am c->X.env.cells.lookup y=am c->x=y
 has:∀x,(X.env.kindOf x=am .cell\/X.env.kindOf x=am .free)->∃c,X.env.cells.lookup x=am c
 cab:∀x c,X.fn x=av->X.env.cells.lookup x=am c->X.s₀.heap.objs.size<=c
 hd:X.calm=av->X.A.handled=ap
 frames:X.A.frames=am X.stack
 stk:X.stack=X.outer\/(X.stack=X.env::X.outer/\X.env.frame=am X.env.locals)
 exf:∀b∈X.ex,b≠X.env.locals/\∀x c,X.env.cells.lookup x=am c->c≠b
 bs:∀b o,X.base.get? b=am o->X.s₀.heap.get? b=am o/\X.H₀ b=ap
 bsz:X.base.objs.size<=X.s₀.heap.objs.size
 noex:∀b o,X.base.get? b=am o->b∉X.ex
 exfs:∀b∈X.ex,b∉X.fs
 funs:X.s₀.heap.FunFrames X.base X.outer
 frf:∀b∈X.fs,X.H₀ b=ap
structure Inv (X:Cx) (pins:List (Addr×cr)) (σ:List (Option V)) (H:Hp) (s:ax):Prop where
 ok:X.Ok
 os:s.os=X.s₀.os
 bare:g0 s.gens
 base:Un X.fs X.ex X.H₀ H X.s₀.heap s.heap
 loc:∃m,s.heap.Ns X.env.locals m/\∀(i:Nat) (x:Str) (v:V),X.N[i]?=am x->σ[i]?=am (am v)->Vis X.env.scope x->∃u,RelV v u/\A3w X.env s.heap m x u
 cell:∀x c,X.env.cells.lookup x=am c->∃v,s.heap.IsCell c v
 free:H X.env.locals=ap
 freeC:∀x c,X.env.cells.lookup x=am c->H c=ap
 pin:∀p∈X.pn++pins,s.heap.get? p.1=am p.2/\H p.1=ap/\p.1≠X.env.locals/\p.1∉X.fs/\∀v,p.2.data≠.cell v
 hok:HOk X.prog X.w H s.heap
 len:σ.length=X.N.length
section
variable {X:Cx}{pins:List (Addr×cr)}{σ:List (Option V)}{H H':Hp}{s:ax}{h':ca}
theorem Cx.Ok.nofr (ok:X.Ok) (e:X.base.get? b=am o):b∉X.fs:=λhb=>by have:=(ok.funs.mem hb).1;rw[e] at this;cases this
theorem Inv.bs (I:Inv X pins σ H s):∀b o,X.base.get? b=am o->s.heap.get? b=am o/\H b=none:=λb o e=>
 #[I.base.keep b o (I.ok.bs b o e).1 (I.ok.bs b o e).2 (I.ok.nofr e) (I.ok.noex b o e),I.base.free b o (I.ok.bs b o e).1 (I.ok.bs b o e).2 (I.ok.noex b o e)]
theorem Inv.bk (I:Inv X pins σ H s):∀b o,X.base.get? b=am o->s.heap.get? b=am o:=λb o e=>(I.bs b o e).1
theorem Inv.mod (I:Inv X pins σ H s):Mod X.K X.mg X.base:=I.ok.mod
theorem Inv.kIn (I:Inv X pins σ H s):X.K.In s.heap:=I.ok.mod.kin.keeps I.bk
theorem Inv.lt (I:Inv X pins σ H s):X.env.locals < s.heap.objs.size:=let #[_,hn,_]:=I.loc;hn.lt
theorem Inv.sz (I:Inv X pins σ H s):X.s₀.heap.objs.size<=s.heap.objs.size:=zN I.ok.above (xQ I.lt)
theorem Inv.nofs (I:Inv X pins σ H s) {a:Addr}(h:s.heap.objs.size<=a):a∉X.fs:=λhb=>by obtain⟨_,o,ho,_⟩:=I.ok.funs.mem hb;exact absurd (zP (zM ho) (zN I.sz h)) (yF _)
theorem Inv.cne (I:Inv X pins σ H s):∀x c,X.env.cells.lookup x=am c->c≠X.env.locals:=λx c e z=>by obtain⟨v,o,ho,hd⟩:=I.cell x c e;obtain⟨m,⟨N,M,Z,f,G,_⟩,_⟩:=I.loc;rw[z,f] at ho;cases ho;rw[G] at hd;cases hd
theorem Inv.funs (I:Inv X pins σ H s):s.heap.FunFrames X.base X.outer:=by
 have all:∀(l:List im),(∀b∈frs l,b∈X.fs)->X.s₀.heap.FunFrames X.base l->s.heap.FunFrames X.base l:=by
   intro l;induction l with
   | nil=>intro _ _;trivial
   | cons env r n=> intro hs m;obtain⟨hk,⟨L,o,t,hn,ho,hd⟩,hr⟩:=m;have hL:L∈X.fs:=hs L (by unfold frs;rw[a2V,t];exact a0Z);obtain⟨sl,e⟩:=I.base.slot L o ho (I.ok.frf L hL) hL λz=>I.ok.exfs L z hL;exact#[hk,#[L,_,t,hn,e,hd],n (λb hb=>hs b (by unfold frs;rw[a2V,t];exact yV _ hb)) hr]
 exact all X.outer (λ_ hb=>hb) I.ok.funs
theorem Inv.stack (I:Inv X pins σ H s):s.heap.FunFrames X.base X.stack:=by
 rcases I.ok.stk with e | ⟨e,t⟩
 . rw[e];exact I.funs
 . rw[e];obtain⟨m,hn,_⟩:=I.loc;refine .cons (by rw[I.ok.kind];decide) t hn ?_ I.funs;exact Heap.get?_none_of_le (zN I.ok.bsz I.ok.above)
theorem Inv.stkSub (I:Inv X pins σ H s):∀b∈frs X.stack,b∈X.env.locals::X.fs:=λb hb=>by
 rcases I.ok.stk with e | ⟨e,t⟩
 . rw[e] at hb;exact yV _ hb
 . rw[e] at hb;unfold frs at hb;rw[a2V,t] at hb;exact hb
theorem Inv.stkFree (I:Inv X pins σ H s):∀b∈frs X.stack,H b=none:=λb hb=>by
 rcases yX.mp (I.stkSub b hb) with e | hb;. rw[e];exact I.free
 . obtain⟨_,o,ho,_⟩:=I.ok.funs.mem hb;exact I.base.free b o ho (I.ok.frf b hb) λz=>I.ok.exfs b z hb
theorem Inv.step {ch:List Addr}(I:Inv X pins σ H s) (t:∀b∈ch,(b∈X.ex\/X.s₀.heap.objs.size<=b)/\b≠X.env.locals/\(∀x c,X.env.cells.lookup x=am c->c≠b)/\∀p∈X.pn++pins,p.1≠b) (keep:∀b o,b≠X.env.locals->b∉X.fs->b∉ch->s.heap.get? b=am o->H b=ap->h'.get? b=am o) (slot:∀b o,b≠X.env.locals->b∈X.fs->b∉ch->s.heap.get? b=am o->H b=ap->∃sl,h'.get? b=am { o with slots:=sl }) (free:∀b o,b∉ch->s.heap.get? b=am o->H b=ap->H' b=ap) (there:∀b o,b∉ch->s.heap.get? b=am o->∃N,h'.get? b=am N) (tups:∀b xs,H b=am (.tup xs)->H' b=am (.tup xs)) (frzs:∀b o u,H b=am (.frz o u)->H' b=am (.frz o u)) (tbls:∀b ps,H b=am (.tbl ps)->∃more,H' b=am (.tbl (ps++more))) (ns:∀m,s.heap.Ns X.env.locals m->h'.Ns X.env.locals m) (hok:HOk X.prog X.w H' h') (hg:g0 g') :
   Inv X pins σ H' { s with heap:=h',gens:=g',drawn:=d',toks:=t' }:=by
 have L:∀b o,X.s₀.heap.get? b=am o->b≠X.env.locals:=λb o e=>zC (zP (zM e) I.ok.above);have g:∀b o,X.s₀.heap.get? b=am o->b∉X.ex->b∉ch:=λb o e hx hb=>by
   rcases (t b hb).1 with z | z;. exact hx z
   . exact absurd (zP (zM e) z) (yF _)
 have cellK:∀x c,X.env.cells.lookup x=am c->∀v,s.heap.IsCell c v->h'.IsCell c v:=λx c e v #[o,ho,hd]=>by
   have f:c∉ch:=λz=>(t c z).2.2.1 x c e rfl;by_cases hc:c∈X.fs;. obtain⟨sl,q⟩:=slot c o (I.cne x c e) hc f ho (I.freeC x c e);exact#[_,q,hd]
   . exact#[o,keep c o (I.cne x c e) hc f ho (I.freeC x c e),hd]
 refine#[I.ok,I.os,hg,#[λb o e n hb hx=>?_,λb o e n hb hx=>?_,λb o e n hx=>?_,λb o e hx=>?_,λb xs e=>tups b xs (I.base.tups b xs e),λb o xs e=>frzs b o xs (I.base.frzs b o xs e),λb ps e=>?_],?_,λx c e=>?_,?_,λx c e=>?_,λp hp=>?_,hok,I.len];. exact keep b o (L b o e) hb (g b o e hx) (I.base.keep b o e n hb hx) (I.base.free b o e n hx)
 . obtain⟨sl,j⟩:=I.base.slot b o e n hb hx;obtain⟨O,h⟩:=slot b _ (L b o e) hb (g b o e hx) j (I.base.free b o e n hx);exact#[O,h]
 . obtain⟨N,j⟩:=I.base.there b o e hx;exact free b N (g b o e hx) j (I.base.free b o e n hx)
 . obtain⟨N,j⟩:=I.base.there b o e hx;exact there b N (g b o e hx) j
 . obtain⟨D,j⟩:=I.base.tbls b ps e;obtain⟨B,h⟩:=tbls b _ j;exact#[D++B,by rw[h,Array.append_assoc]]
 . obtain⟨m,hn,M⟩:=I.loc;refine#[m,ns m hn,λi x v j h S=>?_];obtain⟨u,r,l⟩:=M i x v j h S;refine#[u,r,?_];rcases l with l | ⟨k,c,e,z⟩
   . exact .inl l
   . exact .inr #[k,c,e,cellK x c e _ z]
 . obtain⟨v,z⟩:=I.cell x c e;exact#[v,cellK x c e v z]
 . obtain⟨m,⟨o,_,_,ho,_⟩,_⟩:=I.loc;exact free _ o (λz=>(t _ z).2.1 rfl) ho I.free
 . obtain⟨v,o,ho,hd⟩:=I.cell x c e;exact free c o (λz=>(t c z).2.2.1 x c e rfl) ho (I.freeC x c e)
 . obtain⟨e,n,y,T,d⟩:=I.pin p hp;have f:p.1∉ch:=λz=>(t p.1 z).2.2.2 p hp rfl;exact#[keep p.1 p.2 y T f e n,free p.1 p.2 f e n,y,T,d]
theorem Inv.un (I:Inv X pins σ H s) (u:Un X.fs [] H H' s.heap h') (hok:HOk X.prog X.w H' h'):Inv X pins σ H' { s with heap:=h',toks:=t' }:=by obtain⟨m,⟨o,M,Z,ho,r⟩,_⟩:=id I.loc;obtain⟨sl,hL⟩:=u.any ho I.free (by simp);exact I.step (g':=s.gens) (d':=s.drawn) (ch:=[]) (λ_ z=>nomatch z) (λb o _ hb _ e n=>u.keep b o e n hb (by simp)) (λb o _ hb _ e n=>u.slot b o e n hb (by simp)) (λb o _ e n=>u.free b o e n (by simp)) (λb o _ e=>u.there b o e (by simp)) u.tups u.frzs u.tbls (λp i=>by obtain⟨N,t,G,f,J⟩:=i;rw[ho] at f;cases f;exact#[_,t,G,hL,J]) hok I.bare
theorem Inv.call (I:Inv X pins σ H s) (u:Un (frs X.stack) ch H H' s.heap h') (hok:HOk X.prog X.w H' h') (hg:g0 g') (t:∀b∈ch,(b∈X.ex\/X.s₀.heap.objs.size<=b)/\b≠X.env.locals/\(∀x c,X.env.cells.lookup x=am c->c≠b)/\∀p∈X.pn++pins,p.1≠b) :
   Inv X pins σ H' { s with heap:=h',gens:=g',drawn:=d',toks:=t' }:=by obtain⟨m,⟨o,M,Z,ho,r⟩,_⟩:=id I.loc;obtain⟨sl,hL⟩:=u.any ho I.free λz=>(t _ z).2.1 rfl;exact I.step (ch:=ch) t (λb o hL hb hc e n=>u.keep b o e n (λz=>(yX.mp (I.stkSub b z)).elim hL hb) hc) (λb o _ _ hc e n=>u.any e n hc) (λb o hc e n=>u.free b o e n hc) (λb o hc e=>u.there b o e hc) u.tups u.frzs u.tbls (λh g=>by obtain⟨N,i,G,f,J⟩:=g;rw[ho] at f;cases f;exact#[_,i,G,hL,J]) hok hg
theorem Inv.turned (I:Inv X pins σ H s) (k:∀b o,b≠it->s.heap.get? b=am o->h'.get? b=am o) (hn:H it=ap) (hL:it≠X.env.locals) (h1:it∈X.ex\/X.s₀.heap.objs.size<=it) (t:∀x c,X.env.cells.lookup x=am c->c≠it) (i:∀p∈X.pn++pins,p.1≠it):Inv X pins σ H { s with heap:=h',toks:=t' }:=by
 have Q:∀b u,H b=am u->b≠it:=λb u e z=>by rw[z,hn] at e;cases e
 refine I.step (g':=s.gens) (d':=s.drawn) (ch:=[it]) (λb hb=>?_) (λb o _ _ hc e _=>k b o (λz=>hc (by simp[z])) e) (λb o _ _ hc e _=>#[o.slots,k b o (λz=>hc (by simp[z])) e]) (λ_ _ _ _ n=>n)
   (λb o hc e=>#[o,k b o (λz=>hc (by simp[z])) e]) (λ_ _ e=>e) (λ_ _ _ e=>e) (λb g e=>#[#[],by rw[e];simp]) (λm f=>?_) (λb u e=>?_) I.bare
 . have e:b=it:=by simpa using hb
   subst e;exact#[h1,hL,t,i]
 . obtain⟨o,M,Z,ho,r⟩:=f;exact#[o,M,Z,k _ o (a4K hL) ho,r]
 . refine(I.hok b u e).stay (λc v hc q=>k c v ?_ q) (λ_ q=>q) λ_ _ q=>q;rcases hc with z | z;. rw[z];exact Q b u e
   . exact Q c _ z
theorem Inv.tok (I:Inv X pins σ H s) (t:Nat):Inv X pins σ H { s with toks:=t }:=I.un (h':=s.heap) (t':=t) Un.refl I.hok
theorem Inv.kept (I:Inv X pins σ H s) (k:∀b u,s.heap.get? b=am u->h'.get? b=am u):Inv X pins σ H { s with heap:=h',toks:=t' }:=I.un (Un.kept k) (I.hok.kept k)
theorem Inv.laid {a:Addr}(I:Inv X pins σ H s) (k:∀b u,s.heap.get? b=am u->h'.get? b=am u) (hp:s.heap.objs.size<=a) (new:ObjOk X.prog X.w (upd H a o) h' a o) :
   Inv X pins σ (upd H a o) { s with heap:=h',toks:=t' }:=I.un (Un.laid k hp (I.hok.fresh hp)) (I.hok.laid k hp new)
theorem Inv.write (I:Inv X pins σ H s) (t:Mut (H x)) (z:e=x\/H e=am (.own x)) (k:∀b u,b≠e->s.heap.get? b=am u->h'.get? b=am u) (n:∃u,h'.get? e=am u) (new:ObjOk X.prog X.w (upd H x o) h' x o):Inv X pins σ (upd H x o) { s with heap:=h',toks:=t' }:=I.un (Un.write t z k n) (I.hok.write t z k n new)
theorem Inv.weak (I:Inv X pins σ H s) (t:b.length=σ.length) (w:∀(i:Nat) v,b[i]?=am (am v)->σ[i]?=am (am v)):Inv X pins b H s:=#[I.ok,I.os,I.bare,I.base,let #[m,hn,n]:=I.loc;#[m,hn,λi x v j h e=>n i x v j (w i v h) e],I.cell,I.free,I.freeC,I.pin,I.hok,t.trans I.len]
theorem Inv.pins_of (I:Inv X pins σ H s) (h:∀p∈q,s.heap.get? p.1=am p.2/\H p.1=ap/\p.1≠X.env.locals/\p.1∉X.fs/\∀v,p.2.data≠.cell v):Inv X q σ H s:=#[I.ok,I.os,I.bare,I.base,I.loc,I.cell,I.free,I.freeC,λp hp=>(yW.mp hp).elim (λz=>I.pin p (zA _ z)) (h p),I.hok,I.len]
theorem WN {N:List Str}(hN:N.Nodup) {i j:Nat}{x:Str}(a:N[i]?=am x) (b:N[j]?=am x):i=j:=by obtain⟨h1,e⟩:=yT.mp a;obtain⟨t,h⟩:=yT.mp b;exact(List.getElem_inj hN).mp (e.trans h.symm)
theorem fM (I:Inv X pins σ H s) (hN:X.N.Nodup) (hi:X.N[i]?=am x) (hx:Loc X.env.scope x) (r:RelV v u) (h:∀s',Inv X pins (σ.set i (am v)) H s'->(∃a,Heap.SameBut a s.heap s'.heap/\(a=X.env.locals\/X.env.cells.lookup x=am a))->Q () s') (hf:X.fn x=av\/X.env.scope.names.lookup x=am .local:=by first | exact .inl rfl | exact .inr rfl | assumption):wpAny M A (storeName X.env x u) Q E s:=by
 obtain⟨m,hn,hl⟩:=id I.loc;have ya:(X.env.scope.kind==.class||(X.env.scope.kind==.module&&X.env.locals != X.env.globals))=false:=by rw[I.ok.kind];rfl
 have Z:i < σ.length:=by rw[I.len];exact(yT.mp hi).1
 have cne:=I.cne;have tracked:∀{a:Addr}{h':ca},(∃o,s.heap.get? a=am o/\H a=ap)->Heap.SameBut a s.heap h'->HOk X.prog X.w H h':=λ{a h'} ha hs b ob e=>by
   obtain⟨_,_,xh⟩:=ha;refine(I.hok b ob e).stay (λc S hc q=>(hs.2 c ?_).trans q) (λ_ q=>q) λ_ _ q=>q;rintro rfl;rcases hc with rfl | hc;. rw[xh] at e;cases e
   . rw[xh] at hc;cases hc
 rcases hx with hk | hk
 . refine wpAny_storeName_local hk hn (λh' cw hs=>?_) ya;obtain⟨oL,_,_,tm,_⟩:=id hn;refine h _ #[I.ok,I.os,I.bare,#[λb o e n hb hx=>?_,λb o e n hb hx=>?_,I.base.free,λb o e hx=>?_,I.base.tups,I.base.frzs,I.base.tbls],#[_,cw,λj y U t f D=>?_],λy c e=>?_,I.free,I.freeC,λp hp=>?_,tracked #[oL,tm,I.free] hs,by simpa using I.len] #[_,hs,.inl rfl];. exact(hs.2 b (zC (zP (zM e) I.ok.above))).trans (I.base.keep b o e n hb hx)
   . obtain⟨sl,t⟩:=I.base.slot b o e n hb hx;exact#[sl,(hs.2 b (zC (zP (zM e) I.ok.above))).trans t]
   . obtain⟨G,t⟩:=I.base.there b o e hx;exact#[G,(hs.2 b (zC (zP (zM e) I.ok.above))).trans t]
   . by_cases g:j=i;. subst g;rw[hi] at t;cases t;rw[List.getElem?_set_self Z] at f;cases f;exact#[u,r,.inl #[hk,by simp]]
     . rw[b6X (a4K g)] at f;obtain⟨L,J,q⟩:=hl j y U t f D;refine#[L,J,?_];rcases q with ⟨k,e⟩ | ⟨k,c,e,z⟩
       . refine .inl #[k,?_];have:y≠x:=λe=>g (WN hN t (e▸hi));simp[this,e]
       . exact .inr #[k,c,e,z.sameBut hs (cne y c e)]
   . obtain⟨S,z⟩:=I.cell y c e;exact#[S,z.sameBut hs (cne y c e)]
   . obtain⟨e,n,O,B,d⟩:=I.pin p hp;exact#[(hs.2 p.1 O).trans e,n,O,B,d]
 . have Y:X.fn x=true:=by
     rcases hf with z | z;. exact z
     . rw[z] at hk;cases hk
   obtain⟨c,hc⟩:=I.ok.has x (.inl hk);obtain⟨S,z⟩:=I.cell x c hc;refine wpAny_storeName_cell I.ok.kind hk hc z (λh' vq hs=>?_);obtain⟨oc,Gs,Dv⟩:=id z;refine h { s with heap:=h' } #[I.ok,I.os,I.bare,#[λb o e n hb hx=>?_,λb o e n hb hx=>?_,I.base.free,λb o e hx=>?_,I.base.tups,I.base.frzs,I.base.tbls],#[m,hn.sameBut hs (a4K (cne x c hc)),λj y U t f D=>?_],λy T e=>?_,I.free,I.freeC,λp hp=>?_,tracked #[oc,Gs,I.freeC x c hc] hs,by simpa using I.len] #[c,hs,.inr hc];. exact(hs.2 b (zC (zP (zM e) (I.ok.cab x c Y hc)))).trans (I.base.keep b o e n hb hx)
   . obtain⟨sl,t⟩:=I.base.slot b o e n hb hx;exact#[sl,(hs.2 b (zC (zP (zM e) (I.ok.cab x c Y hc)))).trans t]
   . obtain⟨G,t⟩:=I.base.there b o e hx;exact#[G,(hs.2 b (zC (zP (zM e) (I.ok.cab x c Y hc)))).trans t]
   . by_cases g:j=i;. subst g;rw[hi] at t;cases t;rw[List.getElem?_set_self Z] at f;cases f;exact#[u,r,.inr #[.inl hk,c,hc,vq]]
     . rw[b6X (a4K g)] at f;obtain⟨L,J,q⟩:=hl j y U t f D;refine#[L,J,?_];rcases q with q | ⟨k,T,e,z'⟩
       . exact .inl q
       . refine .inr #[k,T,e,z'.sameBut hs ?_];rintro rfl;exact g (WN hN t (I.ok.inj _ _ _ e hc▸hi))
   . by_cases hcc:T=c;. subst hcc;exact#[_,vq]
     . obtain⟨w2,z2⟩:=I.cell y T e;exact#[w2,z2.sameBut hs hcc]
   . obtain⟨e,n,O,B,d⟩:=I.pin p hp;refine#[(hs.2 p.1 ?_).trans e,n,O,B,d];intro q;rw[q,Gs] at e;have q':oc=p.2:=Option.some.inj e;exact d S (by rw[<-q'];exact Dv)
theorem J5 (I:Inv X pins σ H s) (hN:X.N.Nodup) (hi:X.N[i]?=am x) (hx:Loc X.env.scope x) (r:RelV v u) (h:∀s',Inv X pins (σ.set i (am v)) H s'->Q () s') (t:X.fn x=av\/X.env.scope.names.lookup x=am .local:=by first | exact .inl rfl | exact .inr rfl | assumption):wpAny M A (storeName X.env x u) Q E s:=
 fM I hN hi hx r (λs' e _=>h s' e) t
theorem Inv.call' (I:Inv X pins σ H s) (ho:s'.os=s.os) (u:Un (frs X.stack) ch H H' s.heap s'.heap) (hok:HOk X.prog X.w H' s'.heap) (hg:g0 s'.gens) (o:∀b∈ch,(b∈X.ex\/X.s₀.heap.objs.size<=b)/\b≠X.env.locals/\(∀x c,X.env.cells.lookup x=am c->c≠b)/\∀p∈X.pn++pins,p.1≠b):Inv X pins σ H' s':=by obtain⟨h',g',d',t',N⟩:=s';have e:N=s.os:=ho;subst e;exact I.call (g':=g') (t':=t') (d':=d') u hok hg o
end
abbrev XK:=aw->Option Addr->Hp->Prop
abbrev St:=List (Option V)
abbrev VK:=V->Hp->Prop
abbrev TE:=St->Hp->VK->Prop
abbrev TT:=St->Hp->(Bool->Hp->Prop)->Prop
abbrev TA:=St->Hp->(List V->Hp->Prop)->Prop
structure Ends where
 nx:St->Hp->Prop
 rt:VK
 bk:St->Hp->Prop:=λ_ _=>False
 ct:St->Hp->Prop:=λ_ _=>False
abbrev TS:=Ends->St->Hp->Prop
def EP (X:Cx) (pins:List (Addr×cr)) (e:St) (Q:VK) (u:aw) (s':ax):Prop:=∃v H',Inv X pins e H' s'/\RelV v u/\Q v H'
def TP (X:Cx) (pins:List (Addr×cr)) (e:St) (Q:Bool->Hp->Prop) (b:Bool) (s':ax):Prop:=∃H',Inv X pins e H' s'/\Q b H'
def AP (X:Cx) (pins:List (Addr×cr)) (e:St) (Q:List V->Hp->Prop) (k:List aw) (s':ax):Prop:=∃n H',Inv X pins e H' s'/\Vals n k/\Q n H'
def SP (X:Cx) (pins:List (Addr×cr)) (D:Ends) (f:Flow) (s':ax):Prop:=
 match f with
 | .next=>∃b H',Inv X pins b H' s'/\D.nx b H'
 | .brk=>∃b H',Inv X pins b H' s'/\D.bk b H'
 | .cont=>∃b H',Inv X pins b H' s'/\D.ct b H'
 | .ret u=>∃v b H',Inv X pins b H' s'/\RelV v u/\D.rt v H'
def PE (X:Cx) (e:bn) (t:TE):Prop:=∀(pins:List (Addr×cr)) (s:ax) (n:St) (H:Hp) (Q:VK),Inv X pins n H s->t n H Q->wpAny (model X.prog X.w) X.A (eval e X.env) (EP X pins n Q) X.xe s
def PT (X:Cx) (e:bn) (t:TT):Prop:=∀(pins:List (Addr×cr)) (s:ax) (n:St) (H:Hp) (Q:Bool->Hp->Prop),Inv X pins n H s->t n H Q->wpAny (model X.prog X.w) X.A (isTrue e X.env (eval e X.env)) (TP X pins n Q) X.xe s
def PW (X:Cx) (e:bn) (t:TT):Prop:=∀(whole:Sem aw) (pins:List (Addr×cr)) (s:ax) (n:St) (H:Hp) (Q:Bool->Hp->Prop),Inv X pins n H s->t n H Q->wpAny (model X.prog X.w) X.A (isTrue e X.env whole) (TP X pins n Q) X.xe s
theorem PW.pt {X:Cx}{e:bn}{t:TT}(h:PW X e t):PT X e t:=h _
def PA (X:Cx) (es:List bn) (t:TA):Prop:=∀(pos:eH) (pins:List (Addr×cr)) (s:ax) (e:St) (H:Hp) (Q:List V->Hp->Prop),Inv X pins e H s->t e H Q->wpAny (model X.prog X.w) X.A (spliced (backTo pos (starEach es X.env))) (AP X pins e Q) X.xe s
def PS (X:Cx) (st:ew) (t:TS):Prop:=∀(pins:List (Addr×cr)) (s:ax) (e:St) (H:Hp) (D:Ends),Inv X pins e H s->t D e H->wpAny (model X.prog X.w) X.A (exec st X.env) (SP X pins D) X.xe s
def PSs (X:Cx) (st:List ew) (t:TS):Prop:=∀(pins:List (Addr×cr)) (s:ax) (e:St) (H:Hp) (D:Ends),Inv X pins e H s->t D e H->wpAny (model X.prog X.w) X.A (execs st X.env) (SP X pins D) X.xe s
theorem thn {t:Sem S}(h:wpAny M A t Q E s) (n:∀a s,Q a s->e a s):wpAny M A t e E s:=bc h n λ_ _ x=>x
section
variable {X:Cx}
def WO (i:Nat):TE:=λe H Q=>∃v,e[i]?=am (am v)/\Q v H
def tC (v:V):TE:=λ_ H Q=>Q v H
theorem jY {i:Nat}{x:Str}{pos:eH}(hN:X.N[i]?=am x) (p:Vis X.env.scope x) (hd:(x==("__debug__":Str))=false:=by decide) (t:(x==("__classdict__":Str))=false:=by decide):PE X (.Name x pos) (WO i):=by
 intro pins s b H Q I h;obtain⟨v,e,h⟩:=h;obtain⟨m,hn,n⟩:=I.loc;obtain⟨u,r,l⟩:=n i x v hN e p;have fin:EP X pins b Q u s:=#[v,H,I,r,h]
 rcases l with ⟨hk,o⟩ | ⟨hk,c,hc,y⟩
 . exact wpAny_Name (wpAny_loadName_local I.ok.kind hk hn o fin) hd
 . rcases hk with hk | hk;. exact wpAny_Name (wpAny_loadName_cell I.ok.kind hk hc y fin) hd
   . exact wpAny_Name (wpAny_loadName_free I.ok.kind hk hc y fin t) hd
theorem A0J {i j pos}:PE X (.Constant (.int i) j pos) (tC (.int i)):=λ_ _ _ H _ I h=>wpAny_Constant_int #[.int i,H,I.tok _,#[_,rfl],h]
theorem A2f {b j pos}:PE X (.Constant (.bool b) j pos) (tC (.bl b)):=λ_ _ _ H _ I h=>Constant_bool #[.bl b,H,I,rfl,h]
theorem A0K {j pos}:PE X (.Constant .none j pos) (tC .non):=λ_ _ _ H _ I h=>Constant_none #[.non,H,I,rfl,h]
theorem A0L {x j pos}:PE X (.Constant (.str x) j pos) (tC (.str x)):=λ_ _ _ H _ I h=>Calls.Constant_str #[.str x,H,I.tok _,#[_,rfl],h]
def Gl (X:Cx) (x:Str):Prop:=X.env.kindOf x=am .globalImplicit
theorem G5 {E:aw->ax->Prop}{pins:List (Addr×cr)}{s:ax}{t:St}{H:Hp}{x:Str}{u:aw}{pos:eH}{Q:aw->ax->Prop}(I:Inv X pins t H s) (hg:Gl X x) (e:X.mg x=am u) (h:Q u s) (hd:(x==("__debug__":Str))=false:=by decide):wpAny (model X.prog X.w) X.A (eval (.Name x pos) X.env) Q E s:=
 Calls.Name_function_global I.ok.kind hg (Calls.loadGlobal_global (by rw[I.ok.glob];exact I.mod.glob.keeps I.bk) e h) hd
theorem HY {E:aw->ax->Prop}{pins:List (Addr×cr)}{s:ax}{o:St}{H:Hp}{x:Str}{u:aw}{pos:eH}{Q:aw->ax->Prop}(I:Inv X pins o H s) (hg:Gl X x) (t:X.mg x=ap) (n:gg x=am u) (h:Q u s) (hn:x ≠ "__name__" := by decide) (hd:(x==("__debug__":Str))=false:=by decide):wpAny (model X.prog X.w) X.A (eval (.Name x pos) X.env) Q E s:=by obtain⟨g,h1,e⟩:=I.mod.blt;exact Calls.Name_function_global I.ok.kind hg (Calls.loadGlobal_builtin (by rw[I.ok.glob];exact I.mod.glob.keeps I.bk) t (by rw[I.ok.blt];exact h1.keeps I.bk) ((e x hn).trans n) h) hd
theorem UF (hg:Gl X x) (e:X.mg x=am u) (r:RelV v u) (hd:(x==("__debug__":Str))=false:=by decide):PE X (.Name x pos) (tC v):=
 λ_ _ _ H _ I h=>G5 I hg e #[v,H,I,r,h] hd
theorem HZ {x:Str}{v:V}{u:aw}{pos:eH}(hg:Gl X x) (e:X.mg x=ap) (t:gg x=am u) (r:RelV v u) (hn:x ≠ "__name__" := by decide) (hd:(x==("__debug__":Str))=false:=by decide):PE X (.Name x pos) (tC v):=
 λ_ _ _ H _ I h=>HY I hg e t #[v,H,I,r,h] hn hd
variable {a b:bn}{ta tb:TE}{pos:eH}
def PC (X:Cx) (f:CmpOp) (a b:bn) (t:TE):Prop:=∀(pins:List (Addr×cr)) (s:ax) (o:St) (H:Hp) (Q:VK),Inv X pins o H s->t o H Q ->
   wpAny (model X.prog X.w) X.A (eval a X.env) (λv e=>wpAny (model X.prog X.w) X.A (eval b X.env) (λu n=>wpAny (model X.prog X.w) X.A (bj f v u) (EP X pins o Q) X.xe n) X.xe e) X.xe s
def tB (t:TE):TT:=λn H Q=>t n H λx e=>∃c,x = .bl c/\Q c e
theorem A0M {f:CmpOp}{t:TE}(h:PC X f a b t) (h1:fw f b=false:=by first | exact nobehind _ (by decide) (by decide) | rfl):PE X (.Compare a [f] [b] pos) t:=λpins s e H Q I G=>wpAny_Compare1 (h pins s e H Q I G) h1
theorem ZP {f:CmpOp}{t:TE}(h:PC X f a b t) (h1:fw f b=false:=by first | exact nobehind _ (by decide) (by decide) | rfl):PT X (.Compare a [f] [b] pos) (tB t):=by intro pins s r H Q I G;refine wpAny_isTrue_Compare1 (thn (h pins s r H _ I G) λv m h1=>thn h1 λu p o=>thn o λc g #[x,e,n,i,N]=>?_) h1;obtain⟨d,rfl,q⟩:=N;cases i;exact cN #[e,n,q]
theorem A0N {e:bn}{t:TE}(h:PE X e t) (z:∀whole,isTrue e X.env whole=(do let v <- whole;standAt e.pos;holding [v] (truthy v)):=by intro _;rfl):PT X e (tB t):=by intro pins s r H Q I G;refine isTrue_plain (thn (h pins s r H _ I G) λv m #[x,n,o,i,N]=>?_) (z _);obtain⟨d,rfl,q⟩:=N;cases i;exact cN #[n,o,q]
variable {tA wc:TT}{rest:List bn}
def A2g (t u:TT):TT:=λn H Q=>t n H λc e=>if c=av then u n e Q else Q ay e
def tOr (t u:TT):TT:=λn H Q=>t n H λc e=>if c=av then Q av e else u n e Q
def A2h (t:TT):TT:=λn H Q=>t n H λc e=>Q (!c) e
theorem pw_and1 (g:PT X a tA):PW X (.BoolOp .And [a] pos) tA:=by
 intro n pins s t H Q I h;refine isTrue_and (thn (g pins s t H Q I h) λc r e=>?_);cases c with
 | true=>exact isTrue_and_nil e
 | false=>exact e
theorem pw_or1 (g:PT X a tA):PW X (.BoolOp .Or [a] pos) tA:=by
 intro n pins s t H Q I h;refine isTrue_or (thn (g pins s t H Q I h) λc r e=>?_);cases c with
 | false=>exact isTrue_or_nil e
 | true=>exact e
theorem pw_and (g:PT X a tA) (hb:PW X (.BoolOp .And (b::rest) pos) wc):PW X (.BoolOp .And (a::b::rest) pos) (A2g tA wc):=by
 intro o pins s n H Q I h;refine isTrue_and (thn (g pins s n H _ I h) λc r #[e,t,N]=>?_);cases c with
 | true=>exact hb o pins r n e Q t N
 | false=>exact#[e,t,N]
theorem pw_or (g:PT X a tA) (hb:PW X (.BoolOp .Or (b::rest) pos) wc):PW X (.BoolOp .Or (a::b::rest) pos) (tOr tA wc):=by
 intro o pins s n H Q I h;refine isTrue_or (thn (g pins s n H _ I h) λc r #[e,t,N]=>?_);cases c with
 | true=>exact#[e,t,N]
 | false=>exact hb o pins r n e Q t N
theorem A0O (g:PT X a tA):PT X (.UnaryOp .Not a pos) (A2h tA):=by intro pins s t H Q I h;exact isTrue_not (g pins s t H (λc e=>Q (!c) e) I h)
def xB (ta tb:TE):TE:=λt H Q=>ta t H λx e=>∃c,x = .bl c/\if c=av then tb t e Q else Q (.bl ay) e
def A2i (ta tb:TE):TE:=λt H Q=>ta t H λx e=>∃c,x = .bl c/\if c=av then Q (.bl av) e else tb t e Q
def xC (ta:TE):TE:=λt H Q=>ta t H λx e=>∃c,x = .bl c/\Q (.bl (!c)) e
theorem A0P {f} {t:TE}(h:PE X a t):PE X (.BoolOp f [a] pos) t:=λpins s e H Q I G=>BoolOp_one (h pins s e H Q I G)
theorem A0Q (g:PE X a ta) (hb:PE X (.BoolOp .And (b::rest) pos) tb):PE X (.BoolOp .And (a::b::rest) pos) (xB ta tb):=by
 intro pins s n H Q I h;refine BoolOp_and (thn (g pins s n H _ I h) λv r #[x,e,t,o,N]=>?_);obtain⟨c,rfl,N⟩:=N;cases o;refine cN ?_;cases c with
 | true=>exact hb pins r n e Q t N
 | false=>exact#[.bl ay,e,t,rfl,N]
theorem A2j (g:PE X a ta) (hb:PE X (.BoolOp .Or (b::rest) pos) tb):PE X (.BoolOp .Or (a::b::rest) pos) (A2i ta tb):=by
 intro pins s n H Q I h;refine BoolOp_or (thn (g pins s n H _ I h) λv r #[x,e,t,o,N]=>?_);obtain⟨c,rfl,N⟩:=N;cases o;refine cN ?_;cases c with
 | false=>exact hb pins r n e Q t N
 | true=>exact#[.bl av,e,t,rfl,N]
theorem A0R (g:PE X a ta):PE X (.UnaryOp .Not a pos) (xC ta):=by intro pins s o H Q I h;refine UnaryOp_ (thn (g pins s o H _ I h) λv r #[x,e,t,n,N]=>?_);obtain⟨c,rfl,N⟩:=N;cases n;exact not_of (cN #[.bl (!c),e,t,rfl,N])
def tIf (t:TT) (ta tb:TE):TE:=λe H Q=>t e H λc n=>if c=av then ta e n Q else tb e n Q
theorem jZ {c:bn}(hc:PT X c tA) (g:PE X a ta) (hb:PE X b tb):PE X (.IfExp c a b pos) (tIf tA ta tb):=by
 intro pins s e H Q I h;refine wpAny_IfExp (thn (hc pins s e H _ I h) λd r #[t,n,N]=>?_);cases d with
 | true=>exact g pins r e t Q n N
 | false=>exact hb pins r e t Q n N
end
def SqL (K:Frg) (H:Hp) (a:Addr) (xs:List V):Prop:=
 Rd H a (.lst xs) \/∃(o:cr) (y:Array aw) (n:Nat),K.lookup a=am o/\o.cls = .type "list" /\ o.dict=ap/\o.data = .seq y n/\y.size<=aB/\Vals xs y.toList
def SqT (K:Frg) (H:Hp) (a:Addr) (xs:List V):Prop:=
 Rd H a (.tup xs) \/∃(o:cr) (y:Array aw) (n:Nat),K.lookup a=am o/\o.cls = .type "tuple" /\ o.data = .seq y n/\y.size<=aB/\Vals xs y.toList
def A3x:aw->Option V
 | .none=>am .non
 | .bool b=>am (.bl b)
 | .int i _=>am (.int i)
 | .str x _=>am (.str x)
 | .bytes b _=>am (.byt b)
 | .float b _=>am (.flt b)
 | .ref a=>am (.ref a)
 | .type n=>am (.ty n)
 | _=>ap
theorem RelV.abs (r:RelV x u):A3x u=am x:=by
 cases x with
 | non=>cases r;rfl
 | bl _=>cases r;rfl
 | int _=>obtain⟨t,rfl⟩:=r;rfl
 | str _=>obtain⟨t,rfl⟩:=r;rfl
 | byt _=>obtain⟨t,rfl⟩:=r;rfl
 | flt _=>obtain⟨t,rfl⟩:=r;rfl
 | ref _=>cases r;rfl
 | ty _=>cases r;rfl
theorem RelV.inj (r:RelV x u) (q:RelV y u):x=y:=Option.some.inj (r.abs.symm.trans q.abs)
theorem Vals.inj:∀{xs ys:List V}{k:List aw},Vals xs k->Vals ys k->xs=ys
 | _,_,_,.nil,.nil=>rfl
 | _,_,_,.cons r t,.cons J X=>by rw[r.inj J,Vals.inj t X]
section
variable {X:Cx}{pins:List (Addr×cr)}{σ:St}{H:Hp}{s:ax}{a:Addr}{xs ys:List V}
theorem SqL.of {K:Frg}(h:H a=am (.lst xs)):SqL K H a xs:=.inl (.inl h)
theorem Inv.list (I:Inv X pins σ H s) (h:SqL X.K H a xs):∃y:List aw,Vals xs y/\PlainL s.heap a y.toArray/\xs.length<=sizeLine:=by
 rcases h with h | ⟨o,y,n,hk,hc,hd,hs,t,r⟩
 . obtain⟨z,y,n,r,e⟩:=h.ok I.hok;exact#[y,r,#[_,n,e,rfl,rfl,rfl],z]
 . refine#[y.toList,r,#[o,n,I.kIn a o hk,hc,hd,by simpa using hs],?_];have e:=r.length;simp only[a4W] at e;lia
theorem Inv.tuple (I:Inv X pins σ H s) (h:SqT X.K H a xs):∃y:List aw,Vals xs y/\IsTup s.heap a y.toArray/\xs.length<=sizeLine:=by
 rcases h with h | ⟨o,y,n,hk,hc,hs,t,r⟩
 . obtain⟨z,y,r,p⟩:=h.ok I.hok;exact#[y,r,p,z]
 . refine#[y.toList,r,#[o,I.kIn a o hk,hc,n,by simpa using hs],?_];have e:=r.length;simp only[a4W] at e;lia
theorem Inv.list_inj (I:Inv X pins σ H s) (h:SqL X.K H a xs) (h':SqL X.K H a ys):xs=ys:=by
 obtain⟨y,r,⟨o,n,e,_,_,d⟩,_⟩:=I.list h;obtain⟨its',J,⟨N,i,e',_,_,t⟩,_⟩:=I.list h';rw[e] at e';cases e';rw[d] at t;injection t with z _;have:y=its':=by simpa using congrArg Array.toList z
 subst this;exact r.inj J
theorem Inv.tuple_inj (I:Inv X pins σ H s) (h:SqT X.K H a xs) (h':SqT X.K H a ys):xs=ys:=by
 obtain⟨y,r,⟨o,e,_,n,d⟩,_⟩:=I.tuple h;obtain⟨its',J,⟨N,e',_,i,t⟩,_⟩:=I.tuple h';rw[e] at e';cases e';rw[d] at t;injection t with z _;have:y=its':=by simpa using congrArg Array.toList z
 subst this;exact r.inj J
end
abbrev Cx.wish (X:Cx) (E:aw->ax->Prop):Cx:={ X with xe:=E }
abbrev Cx.nox (X:Cx):Cx:=X.wish λ_ _=>False
theorem Cx.Ok.wish {X:Cx}(ok:X.Ok) (E:aw->ax->Prop):(X.wish E).Ok:=#[ok.mod,ok.kind,ok.glob,ok.blt,ok.above,ok.inj,ok.has,ok.cab,ok.hd,ok.frames,ok.stk,ok.exf,ok.bs,ok.bsz,ok.noex,ok.exfs,ok.funs,ok.frf]
theorem Cx.Ok.unwish {X:Cx}(ok:(X.wish E).Ok):X.Ok:=#[ok.mod,ok.kind,ok.glob,ok.blt,ok.above,ok.inj,ok.has,ok.cab,ok.hd,ok.frames,ok.stk,ok.exf,ok.bs,ok.bsz,ok.noex,ok.exfs,ok.funs,ok.frf]
section
variable {X:Cx}{pins:List (Addr×cr)}{σ:St}{H:Hp}{s:ax}{E:aw->ax->Prop}
theorem Inv.wish (I:Inv X pins σ H s) (E:aw->ax->Prop):Inv (X.wish E) pins σ H s:=#[I.ok.wish E,I.os,I.bare,I.base,I.loc,I.cell,I.free,I.freeC,I.pin,I.hok,I.len]
theorem Inv.unwish (I:Inv (X.wish E) pins σ H s):Inv X pins σ H s:=#[I.ok.unwish,I.os,I.bare,I.base,I.loc,I.cell,I.free,I.freeC,I.pin,I.hok,I.len]
theorem SP.unwish (h:SP (X.wish E) pins D f s'):SP X pins D f s':=by
 cases f with
 | next=>obtain⟨b,H',I,q⟩:=h;exact#[b,H',I.unwish,q]
 | brk=>obtain⟨b,H',I,q⟩:=h;exact#[b,H',I.unwish,q]
 | cont=>obtain⟨b,H',I,q⟩:=h;exact#[b,H',I.unwish,q]
 | ret u=>obtain⟨v,b,H',I,r,q⟩:=h;exact#[v,b,H',I.unwish,r,q]
theorem PSs.nox {st:List ew}(h:PSs X.nox st t):PSs X st t:=λpins s σ H D I G=>
 bc (h pins s σ H D (I.wish _) G) (λ_ _ q=>q.unwish) λ_ _ z=>a6W z
end
section
variable {X:Cx}{st:ew}{rest:List ew}{t u:TS}{e:bn}{te:TE}{pos:eH}
def xD:TS:=λD n H=>D.nx n H
def k6 (t u:TS):TS:=λD n H=>t { D with nx:=u D } n H
theorem rP:PSs X [] xD:=λ_ _ n H _ I h=>eN #[n,H,I,h]
theorem PH (h1:PS X st t) (o:PSs X rest u):PSs X (st::rest) (k6 t u):=by
 intro pins s i H D I h;refine wpAny_execs_cons (thn (h1 pins s i H { D with nx:=u D } I h) λf r q=>?_);cases f with
 | next=> obtain⟨b,H',n,q⟩:=q;exact o pins r b H' D n q
 | ret v=>exact q
 | brk=>exact q
 | cont=>exact q
theorem LV (h1:PS X st t):PSs X [st] t:=by
 intro pins s n H D I h;refine wpAny_execs_cons (thn (h1 pins s n H D I h) λf r q=>?_);cases f with
 | next=>exact eN q
 | ret v=>exact q
 | brk=>exact q
 | cont=>exact q
theorem Inv.quiet {n:St}(I:Inv X pins n H s):interactive X.env=false:=by simp[interactive,I.ok.kind]
def k7 (te:TE):TS:=λD n H=>te n H λ_ o=>D.nx n o
theorem rQ (z:PE X e te) (hs:gj e ap pos.line X.env=pure false:=by rfl):PS X (.Expr e pos) (k7 te):=by intro pins s n H D I h;exact wpAny_Expr_any (thn (z pins s n H _ I h) λv m #[x,o,i,r,N]=>#[n,o,i,N]) I.quiet hs
def A0S (te:TE):TS:=λD n H=>te n H D.rt
theorem A0T (z:PE X e te):PS X (.Return (am e) pos) (A0S te):=by intro pins s n H D I h;exact wpAny_Return_some (thn (z pins s n H _ I h) λv m #[x,o,i,r,N]=>#[x,n,o,i,r,N])
def A0U (c:TT) (t u:TS):TS:=λD n H=>c n H λb o=>if b=av then t D n o else u D n o
theorem A2k {c:bn}{a b:List ew}{m:TT}(hc:PT X c m) (g:PSs X a t) (hb:PSs X b u):PS X (.If c a b pos) (A0U m t u):=by
 intro pins s n H D I h;refine wpAny_If (thn (hc pins s n H _ I h) λd r #[o,i,N]=>?_);cases d with
 | true=>exact g pins r n o D i N
 | false=>exact hb pins r n o D i N
end
abbrev TG:=V->St->Hp->(St->Hp->Prop)->Prop
abbrev TGs:=List V->St->Hp->(St->Hp->Prop)->Prop
def PG (X:Cx) (target:bn) (t:TG):Prop:=∀(pins:List (Addr×cr)) (s:ax) (e:St) (H:Hp) (v:V) (u:aw) (Q:St->Hp->Prop),Inv X pins e H s->RelV v u->t v e H Q ->
   wpAny (model X.prog X.w) X.A (h7 target X.env u) (λ_ s'=>∃b H',Inv X pins b H' s'/\Q b H') X.xe s
def PGs (X:Cx) (ts:List bn) (t:TGs):Prop:=∀(pins:List (Addr×cr)) (s:ax) (e:St) (H:Hp) (n:List V) (k:List aw) (Q:St->Hp->Prop),Inv X pins e H s->Vals n k->t n e H Q ->
   wpAny (model X.prog X.w) X.A (assignInOrder ((dg ts X.env).map (·.2)) k) (λ_ s'=>∃b H',Inv X pins b H' s'/\Q b H') X.xe s
abbrev A0V:=V->V->V->Hp->(Hp->Prop)->Prop
def A2l (X:Cx) (t:A0V):Prop:=∀(pins:List (Addr×cr)) (s:ax) (r:St) (H:Hp) (o i v:V) (n e u:aw) (Q:Hp->Prop),Inv X pins r H s->RelV o n->RelV i e->RelV v u->t o i v H Q ->
   wpAny (model X.prog X.w) X.A (setItem n e u) (λ_ s'=>∃H',Inv X pins r H' s'/\Q H') X.xe s
abbrev TIp:=V->V->Hp->VK->Prop
def PIp (X:Cx) (f:Operator) (t:TIp):Prop:=∀(pins:List (Addr×cr)) (s:ax) (e:St) (H:Hp) (x y:V) (v u:aw) (Q:VK),Inv X pins e H s->RelV x v->RelV y u->t x y H Q ->
   wpAny (model X.prog X.w) X.A (inplaceOp f v u) (EP X pins e Q) X.xe s
section
variable {X:Cx}{pos:eH}
def PJ (i:Nat):TG:=λv e H Q=>Q (e.set i (am v)) H
theorem UG {i:Nat}{x:Str}(hN:X.N.Nodup) (hi:X.N[i]?=am x) (hx:Loc X.env.scope x) (t:X.fn x=av\/X.env.scope.names.lookup x=am .local:=by first | exact .inl rfl | exact .inr rfl | assumption):PG X (.Name x pos) (PJ i):=by intro pins s n H v u Q I r h;exact wpAny_assign_Name (J5 I hN hi hx r (λs' e=>#[_,H,e,h]) t)
def A0W:TGs:=λn e H Q=>n=[]/\Q e H
def cH (t:TG) (u:TGs):TGs:=λn e H Q=>∃v r,n=v::r/\t v e H λb H'=>u r b H' Q
theorem rR:PGs X [] A0W:=by intro pins s t H n k Q I r h;obtain⟨e,h⟩:=h;subst e;cases r;exact assignInOrder_nil #[t,H,I,h]
theorem k8 {e:bn}{es:List bn}{t:TG}{u:TGs}(h1:PG X e t) (m:PGs X es u) (hs:(dg (e::es) X.env).map (·.2)=h7 e X.env::(dg es X.env).map (·.2):=by rfl):PGs X (e::es) (cH t u):=by
 intro pins s c H g k Q I r h;obtain⟨v,f,j,h⟩:=h;subst j;cases r with
 | cons r p=> rw[hs];refine assignInOrder_cons (thn (h1 pins s c H _ _ _ I r h) λ_ b #[n,o,i,N]=>?_);exact m pins b n o _ _ Q i p N
def rS (K:Frg) (n:Nat) (t:TGs):TG:=λv o H Q=>∃a e,v = .ref a/\SqT K H a e/\e.length=n/\t e o H Q
theorem k9 {es:List bn}{k:Nat}{t:TGs}{n:Nat}(hc:X.calm=av) (h:PGs X es t) (hn:(dg es X.env).length=n:=by rfl) (D:(dg es X.env).findIdx? (·.1)=none:=by rfl):PG X (.Tuple es k pos) (rS X.K n t):=by intro pins s m H v u Q I r G;obtain⟨a,q,j,hq,f,G⟩:=G;subst j;cases r;obtain⟨y,i,g,x⟩:=I.tuple hq;refine assign_Tuple_tuple (I.ok.hd hc) g (by simp[hn,<-f,i.length]) D λc hx=>?_;have p:Inv X pins m H { s with heap:=c }:=I.kept (t':=s.toks) λb o e=>hx b o (zC (zM e)) e;exact h pins _ m H q _ Q p (by simpa using i) G
def A2m (to x:TE) (t:A0V):TG:=λv e H Q=>to e H λo n=>x e n λi c=>t o i v c λm=>Q e m
theorem A0X {o i:bn}{to p:TE}{t:A0V}(ho:PE X o to) (hi:PE X i p) (hs:A2l X t) (k:∀v,h7 (.Subscript o i pos) X.env v=(do
     let e <- holding [v] (eval o X.env);let n <- holding [v,e] (eval i X.env)
     standAt pos
     holding [v,e,n] (setItem e n v)
     release [v,e,n] []):=by intro _;rfl):PG X (.Subscript o i pos) (A2m to p t):=by intro pins s m H v u Q I r h;rw[k];refine zZ (bq (thn (ho pins s m H _ I h) λe T #[x,b,g,q,N]=>?_));refine zZ (bq (thn (hi pins T m b _ g N) λn O #[y,c,j,z,J]=>?_));refine zZ (bt (zZ (bq (thn (hs pins O m c x y v e n u _ j q z r J) λ_ S #[f,M,G]=>?_))));exact wpAny_release #[m,f,M,G]
def rT (n:TE) (g:TG):TS:=λD e H=>n e H λx t=>g x e t D.nx
theorem ZQ {n e:bn}{t:TE}{g:TG}(z:PE X e t) (hg:PG X n g) (hs:swapsWithSole [n] e pos.line X.env=pure false:=by rfl) (G:swappedStores [n] e X.env=pure none:=by rfl)
   (h1:(dg [n] X.env).map (·.2)=[h7 n X.env]:=by rfl):PS X (.Assign [n] e pos) (rT t g):=by intro pins s o H D I h;refine wpAny_Assign_stores (thn (z pins s o H _ I h) λv p #[x,i,r,m,N]=>?_) hs G;rw[h1];exact thn (hg pins p o i x v _ r m N) λ_ b q=>q
theorem A0Y {i:Nat}{x:Str}{e:bn}{t:TE}{pos':eH}(hN:X.N.Nodup) (hi:X.N[i]?=am x) (hx:Loc X.env.scope x) (z:PE X e t) (hs:gj e (am (.Name x pos')) pos.line X.env=pure false:=by rfl) (r:X.fn x=av\/X.env.scope.names.lookup x=am .local:=by first | exact .inl rfl | exact .inr rfl | assumption) :
   PS X (.Assign [.Name x pos'] e pos) (rT t (PJ i)):=by intro pins s b H D I h;refine wpAny_Assign_Name (thn (z pins s b H _ I h) λv f #[y,n,o,p,m]=>?_) hs;exact J5 o hN hi hx p (λg c=>#[_,n,c,m]) r
def A2n (i j:Nat) (T:TA):TS:=λD e H=>T e H λn t=>∃v w,n=[v,w]/\D.nx ((e.set i (am v)).set j (am w)) t
theorem PK {i j:Nat}{x y:Str}{a b:bn}{T:TA}{m z pt:eH}{n k2 pt2} (hc:X.calm=av) (hN:X.N.Nodup) (hi:X.N[i]?=am x) (L:X.N[j]?=am y) (B:i≠j) (hx:X.env.scope.names.lookup x=am .local) (hy:X.env.scope.names.lookup y=am .local) (J:PA X [a,b] T) (Q:swappedStores [.Tuple [.Name x m,.Name y z] n pt] (.Tuple [a,b] k2 pt2) X.env=pure (am [x,y])) (hs:swapsWithSole [.Tuple [.Name x m,.Name y z] n pt] (.Tuple [a,b] k2 pt2) pos.line X.env=pure false:=by rfl) :
   PS X (.Assign [.Tuple [.Name x m,.Name y z] n pt] (.Tuple [a,b] k2 pt2) pos) (A2n i j T):=by
 intro pins s g H D I h;rw[exec_Assign_arm];refine zZ (bt ?_);rw[hs];refine zZ (zY ?_);rw[if_neg (by decide)];refine zZ (Tuple_ (thn (J _ pins s g H _ I h) λus r #[vs,f,k,r1,c]=>?_));obtain⟨v,w,G,c⟩:=c;subst G;obtain⟨t,O,rfl,rv,Y⟩:∃t O,us=[t,O]/\RelV v t/\RelV w O:=by
   cases r1 with
   | cons p q=>
     cases q with
     | cons Z q'=> cases q';exact#[_,_,rfl,p,Z]
 refine xL ?_ (by show 2<=aB;decide);have u:Inv X pins g f { r with heap:=r.heap.push { cls:=.type "tuple", data:=.seq [t,O].toArray } }:=k.kept (t':=r.toks) λb o e=>zW _ e;rw[Q];refine zZ (zY ?_);show wpAny (model X.prog X.w) X.A (do rule "assign.swapped-stores";let items <- unpackItems (.ref r.heap.objs.size) 2 ap;assignInOrder [λv=>bindName X.env y v,λv=>bindName X.env x v] items.reverse;pure Flow.next) _ _ _;refine zZ (dc (zZ (unpackItems_tuple (items:=(y9 [t,O])) (I.ok.hd hc) (IsTup.new r.heap _) λh' pq=>?_)));have M:=u.kept (h':=h') (t':=r.toks) λb o e=>pq b o (zC (zM e)) e;show wpAny _ _ (assignInOrder [λv=>bindName X.env y v,λv=>bindName X.env x v] [O,t] >>= λ_=>pure Flow.next) _ _ _;refine zZ (assignInOrder_cons (wpAny_bindName (J5 M hN L (.inl hy) Y (λs2 S=>?_) (.inr hy))));refine assignInOrder_cons (wpAny_bindName (J5 S hN hi (.inl hx) rv (λs3 U=>assignInOrder_nil (zY ?_)) (.inr hx)));rw[List.set_comm _ _ (a4K B)] at U;exact#[_,f,U,c]
def A2o (i:Nat) (n:TE) (o:TIp):TS:=λD e H=>∃x,e[i]?=am (am x)/\n e H λy t=>o x y t λz c=>D.nx (e.set i (am z)) c
theorem UH {i:Nat}{x:Str}{e:bn}{o:TE}{f:Operator}{p:TIp}{pos':eH}(hN:X.N.Nodup) (hi:X.N[i]?=am x) (hx:Loc X.env.scope x) (S:PE X e o) (ho:PIp X f p) (B:X.fn x=av\/X.env.scope.names.lookup x=am .local:=by first | exact .inl rfl | exact .inr rfl | assumption) :
   PS X (.AugAssign (.Name x pos') f e pos) (A2o i o p):=by
 intro pins s b H D I h;obtain⟨v,O,h⟩:=h;obtain⟨m,hn,G⟩:=I.loc;have Z:Vis X.env.scope x:=by rcases hx with k | k;exact .inl k;exact .inr (.inl k)
 obtain⟨u,r,l⟩:=G i x v hi O Z;refine wpAny_AugAssign_Name ?_;have n:wpAny (model X.prog X.w) X.A (eval e X.env) (λw Q=>wpAny (model X.prog X.w) X.A (inplaceOp f u w) (λr t=>wpAny (model X.prog X.w) X.A (storeName X.env x r) (λ_=>SP X pins D .next) X.xe t) X.xe Q) X.xe s:=by refine thn (S pins s b H _ I h) λw s1 #[y,g,q,r1,U]=>?_;refine thn (ho pins s1 b g v y u w _ q r r1 U) λz s2 #[zv,j,T,r2,Y]=>?_;exact J5 T hN hi hx r2 (λs3 M=>#[_,j,M,Y]) B
 rcases l with ⟨hk,J⟩ | ⟨hk,c,hc,L⟩
 . exact wpAny_loadName_local I.ok.kind hk hn J n
 . rcases hk with hk | hk;. exact wpAny_loadName_cell I.ok.kind hk hc L n
   . rcases hx with k | k;. have:X.env.scope.names.lookup x=am .free:=hk;rw[k] at this;cases this
     . have:X.env.scope.names.lookup x=am .free:=hk;rw[k] at this;cases this
def ipI (f:Int->Int->Int):TIp:=λx y H Q=>∃i j,x = .int i/\y = .int j/\Q (.int (f i j)) H
theorem A0Z:PIp X .Add (ipI λi j=>i+j):=by intro pins s p H x y v u Q I o r h;obtain⟨i,j,e,n,q⟩:=h;subst e;subst n;obtain⟨t,rfl⟩:=o;obtain⟨m,rfl⟩:=r;exact iadd_int #[.int _,H,I.tok _,#[_,rfl],q]
def kA (c:TT) (i:TS):TS:=λD e H=>∃W:Nat->St->Hp->Prop,(∃m,W m e H)/\∀m e H,W m e H ->
 c e H λb n=>if b=av then ∃N:St->Hp->Prop,(∀t H',N t H'->∃o,o < m/\W o t H')/\i { D with nx:=N,ct:=N,bk:=D.nx } e n else D.nx e n
theorem WP {c:bn}{body:List ew}{x:TT}{u:TS}(hp:PassesOwn (model X.prog X.w) X.A X.env X.xe) (hc:PT X c x) (hb:PSs X body u):PS X (.While c body [] pos) (kA x u):=by
 intro pins s L H D I h;obtain⟨W,⟨z,S⟩,turn⟩:=h;refine wpAny_While (codeAny_whileLoop (λn s'=>∃o H',Inv X pins o H' s'/\W n o H') ?_ z #[L,H,I,S]);rintro n T ⟨t,j,y,B⟩;refine eg hp (thn (hc pins T t j _ y (turn n t j B)) λb O #[k,q,J]=>?_);cases b with
 | true=>
   obtain⟨N,hN,J⟩:=J;rw[if_pos rfl];refine eg hp (thn (hb pins O t k _ q J) λf Q G=>?_);cases f with
   | next=> obtain⟨e,m,M,p⟩:=G;obtain⟨r,i,g⟩:=hN e m p;exact#[r,i,e,m,M,g]
   | cont=> obtain⟨e,m,M,p⟩:=G;obtain⟨r,i,g⟩:=hN e m p;exact#[r,i,e,m,M,g]
   | brk=>exact G
   | ret v=>exact G
 | false=> rw[if_neg nft];exact eN #[t,k,q,J]
end
structure It where
 go:Nat->Hp->Prop
 yld:Nat->Hp->V->Hp->Prop
 stop:Nat->Hp->Prop
def LX (X:Cx) (pins:List (Addr×cr)) (H:Hp) (b:Addr):Prop:=
 H b=ap/\b≠X.env.locals/\b∉X.fs/\(b∈X.ex\/X.s₀.heap.objs.size<=b)/\(∀x c,X.env.cells.lookup x=am c->c≠b)/\∀p∈X.pn++pins,p.1≠b
theorem Inv.fpOk {X:Cx}{pins:List (Addr×cr)}{t:St}{H H':Hp}{s:ax}{b:Addr}(I:Inv X pins t H s) (hb:s.heap.objs.size<=b) (hn:H' b=ap):LX X pins H' b:=by
 refine#[hn,a9Q (zP I.lt hb),I.nofs hb,.inr (zN I.sz hb),λx c e z=>?_,λp hp z=>?_];. obtain⟨v,q⟩:=I.cell x c e;exact absurd (zP q.lt (by rw[z];exact hb)) (yF _)
 . exact absurd (zP (zM (I.pin p hp).1) (by rw[z];exact hb)) (yF _)
structure Turn (P:bh) (w:bd) (K:Frg) (tg:bn) (J:It) (fp:List Addr) (it:Addr) (tn:Nat->ca->Prop):Prop where
 mem:it∈fp
 obj:∀i h,tn i h->∀b∈fp,∃o,h.get? b=am o/\∀v,o.data≠.cell v
 keep:∀i h h',tn i h->(∀b∈fp,∀o,h.get? b=am o->h'.get? b=am o)->tn i h'
 item:∀(X:Cx),X.prog=P->X.w=w->X.K=K->X.calm=av->∀(i:Nat) (pins:List (Addr×cr)) (s:ax) (σ:St) (H:Hp) (E:aw->ax->Prop),Inv X pins σ H s->(∀b∈fp,LX X pins H b)->tn i s.heap->J.go i H ->
   wpAny (model P w) X.A (pyNext (.ref it)) (λr s1=>∃u,r=am u /\
     wpAny (model P w) X.A (letOwnedTupleGo tg (.ref it) u) (λ_ s2=>∃x H',Inv X pins σ H' s2/\RelV x u/\J.yld i H x H'/\tn (i+1) s2.heap/\∀b∈fp,H' b=ap) E s1) E s
 done:∀(X:Cx),X.prog=P->X.w=w->X.K=K->X.calm=av->∀(i:Nat) (pins:List (Addr×cr)) (s:ax) (σ:St) (H:Hp) (E:aw->ax->Prop),Inv X pins σ H s->(∀b∈fp,LX X pins H b)->tn i s.heap->J.stop i H ->
   wpAny (model P w) X.A (pyNext (.ref it)) (λr s1=>r=ap/\Inv X pins σ H s1) E s
 self:∀(A:bv) (i:Nat) (s:ax) (Q:aw->ax->Prop) (E:aw->ax->Prop),tn i s.heap->Q (.ref it) s->wpAny (model P w) A (pyIter (.ref it)) Q E s
abbrev TI:=St->Hp->(It->Hp->Prop)->Prop
def PIE (X:Cx) (pins:List (Addr×cr)) (t:St) (n:bn) (R:It->Hp->Prop) (Q:aw) (e:ax):Prop:=∃(U:Addr) (o:List Addr) (M:Nat->ca->Prop) (J:It) (H':Hp),Q = .ref U/\Inv X pins t H' e/\Turn X.prog X.w X.K n J o U M/\M 0 e.heap/\(∀b∈o,LX X pins H' b)/\R J H'
def PI (X:Cx) (n iter:bn) (U:TI):Prop:=∀(pins:List (Addr×cr)) (s:ax) (e:St) (H:Hp) (R:It->Hp->Prop),Inv X pins e H s->U e H R ->
   wpAny (model X.prog X.w) X.A (eval iter X.env) (λv r=>wpAny (model X.prog X.w) X.A (pyIter v) (PIE X pins e n R) X.xe r) X.xe s
theorem WQ (ho:s.heap.get? it=am o) (hc:o.cls = .type n) (hd:o.data = .fields vs) (hn:["enumerate","zip","dict_itemiterator","dict_reverseitemiterator","odict_iterator","itertools.zip_longest","itertools.pairwise"].contains n=ay) (e:Q () s):wpAny M A (letOwnedTupleGo t (.ref it) u) Q E s:=by
 unfold letOwnedTupleGo;cases t <;> first
   | exact zY e
   | (cases u <;> first
       | exact zY e
       | (refine zZ (wpAny_load ho ?_)
          rw[hc,hd];show wpAny M A (if (["enumerate","zip","dict_itemiterator","dict_reverseitemiterator","odict_iterator","itertools.zip_longest","itertools.pairwise"].contains n&&vs[0]?==am (dZl _))=av then _ else _) Q E s;rw[if_neg (by intro h;rw[hn,Bool.false_and] at h;cases h)];exact zY e))
def Itl (K:Frg) (a:Addr):It:=#[λi H=>∃t x,SqL K H a t/\t[i]?=am x,λi H x H'=>H'=H/\∀t,SqL K H a t->t[i]?=am x,λi H=>∃t,SqL K H a t/\t.length<=i]
def Itt (K:Frg) (a:Addr):It:=#[λi H=>∃t x,SqT K H a t/\t[i]?=am x,λi H x H'=>H'=H/\∀t,SqT K H a t->t[i]?=am x,λi H=>∃t,SqT K H a t/\t.length<=i]
def Itr (I:Int) (n:Nat):It:=#[λi _=>i < n,λi H x H'=>H'=H/\x = .int (I+i),λi _=>n<=i]
theorem fQ {P:bh}{w:bd}{K:Frg}{tg:bn}(a it:Addr):Turn P w K tg (Itl K a) [it] it (λi h=>h.IsListIter it a i) where
 mem:=by simp
 obj:=λi h st b hb=>by
   have e:b=it:=by simpa using hb
   subst e;obtain⟨o,e,c,d⟩:=st;exact⟨o,e,λv z=>by rw[d] at z;cases z⟩
 keep:=λi h h' st k=>st.at λo e=>k it (by simp) o e
 item:=by intro X hP hw hK hc i pins s σ H E I hf st hg;subst hP hw hK;obtain⟨xs,x,hq,hx⟩:=hg;obtain⟨aa,rv,p,hz⟩:=I.list hq;obtain⟨u,hu,ru⟩:=rv.get hx;obtain⟨f0,f1,f2,f3,f4,f5⟩:=hf it (by simp);refine wpAny_pyNext_list_item st p.isList (x:=u) (by simpa using hu) λh' dz sb=>?_;have I1:Inv X pins σ H { s with heap:=h' }:=I.turned (t':=s.toks) (λb o hb e=>(sb.2 b hb).trans e) f0 f1 f3 f4 f5;obtain⟨o,e,c,d⟩:=id dz;exact#[u,rfl,WQ (s:={ s with heap:=h' }) e c d (by decide) #[x,H,I1,ru,#[rfl,λys hy=>by rw[I.list_inj hy hq];exact hx],dz,λb hb=>(hf b hb).1]]
 done:=by intro X hP hw hK hc i pins s σ H E I hf st hg;subst hP hw hK;obtain⟨xs,hq,hx⟩:=hg;obtain⟨aa,rv,p,hz⟩:=I.list hq;obtain⟨f0,f1,f2,f3,f4,f5⟩:=hf it (by simp);have hl:=rv.length;exact wpAny_pyNext_list_end (I.ok.hd hc) st p.isList (by simp;lia) λh' eb=>#[rfl,I.turned (t':=s.toks) (λb o hb e=>eb b o hb e) f0 f1 f3 f4 f5]
 self:=λ_ _ _ _ _ st h=>wpAny_pyIter_listiter st h
theorem ZR {P:bh}{w:bd}{K:Frg}{tg:bn}(a it:Addr):Turn P w K tg (Itt K a) [it] it (λi h=>h.IsTupleIter it a i) where
 mem:=by simp
 obj:=λi h st b hb=>by
   have e:b=it:=by simpa using hb
   subst e;obtain⟨o,e,c,d⟩:=st;exact⟨o,e,λv z=>by rw[d] at z;cases z⟩
 keep:=λi h h' st k=>st.at λo e=>k it (by simp) o e
 item:=by intro X hP hw hK hc i pins s σ H E I hf st hg;subst hP hw hK;obtain⟨xs,x,hq,hx⟩:=hg;obtain⟨aa,rv,p,hz⟩:=I.tuple hq;obtain⟨u,hu,ru⟩:=rv.get hx;obtain⟨f0,f1,f2,f3,f4,f5⟩:=hf it (by simp);refine wpAny_pyNext_tuple_item st (show s.heap.IsTuple a aa.toArray from p) (x:=u) (by simpa using hu) λh' dz sb=>?_;have I1:Inv X pins σ H { s with heap:=h' }:=I.turned (t':=s.toks) (λb o hb e=>(sb.2 b hb).trans e) f0 f1 f3 f4 f5;obtain⟨o,e,c,d⟩:=id dz;exact#[u,rfl,WQ (s:={ s with heap:=h' }) e c d (by decide) #[x,H,I1,ru,#[rfl,λys hy=>by rw[I.tuple_inj hy hq];exact hx],dz,λb hb=>(hf b hb).1]]
 done:=by intro X hP hw hK hc i pins s σ H E I hf st hg;subst hP hw hK;obtain⟨xs,hq,hx⟩:=hg;obtain⟨aa,rv,p,hz⟩:=I.tuple hq;obtain⟨f0,f1,f2,f3,f4,f5⟩:=hf it (by simp);have hl:=rv.length;exact wpAny_pyNext_tuple_end (I.ok.hd hc) st (show s.heap.IsTuple a aa.toArray from p) (by simp;lia) λh' eb=>#[rfl,I.turned (t':=s.toks) (λb o hb e=>eb b o hb e) f0 f1 f3 f4 f5]
 self:=λ_ _ _ _ _ st h=>wpAny_pyIter_tupleiter st h
theorem ZS {P:bh}{w:bd}{K:Frg}{tg:bn}(it:Addr) (lo:Int) (n:Nat):Turn P w K tg (Itr lo n) [it] it (λi h=>IsRangeIter h it (lo+(i:Nat)*1) ((n:Int) - (i:Nat)) 1) where
 mem:=by simp
 obj:=λi h st b hb=>by
   have e:b=it:=by simpa using hb
   subst e;exact⟨_,st,λv z=>by have z':Data.fields _=Data.cell v:=z;cases z'⟩
 keep:=λi h h' st k=>k it (by simp) _ st
 item:=by intro X hP hw hK hc i pins s σ H E I hf st hg;subst hP hw hK;obtain⟨f0,f1,f2,f3,f4,f5⟩:=hf it (by simp);have W:=Walks.range (prog:=X.prog) (w:=X.w) (I.ok.hd hc) it lo 1 n;refine W.item i s _ _ hg st λv h' tk hv dz kk=>?_;obtain⟨t,rfl⟩:=hv;have I1:Inv X pins σ H { s with heap:=h',toks:=tk }:=I.turned (λb o hb e=>kk b o (by simpa using hb) e) f0 f1 f3 f4 f5;refine#[_,rfl,WQ (s:={ s with heap:=h',toks:=tk }) (n:= "range_iterator") dz rfl rfl (by decide) #[.int (lo+i),H,I1,#[t,?_],#[rfl,rfl],dz,λb hb=>(hf b hb).1]];rw[Int.mul_one]
 done:=by intro X hP hw hK hc i pins s σ H E I hf st hg;subst hP hw hK;obtain⟨f0,f1,f2,f3,f4,f5⟩:=hf it (by simp);exact wpAny_pyNext_range_end (I.ok.hd hc) st (by have:n<=i:=hg;lia) λh' eb=>#[rfl,I.turned (t':=s.toks) (λb o hb e=>eb b o hb e) f0 f1 f3 f4 f5]
 self:=λ_ _ _ _ _ st h=>wpAny_pyIter_rangeiter st h
section
variable {X:Cx}{tg:bn}
theorem kB {r:St}(I:Inv X pins r H s) (h1 : -(2 ^ 62)<=n) (m:n < 2 ^ 62) (p : -(2 ^ 62)<=hi) (c:hi < 2 ^ 62) (q:R (Itr n (hi - n).toNat) H):wpAny (model X.prog X.w) X.A (pyIter (.ref s.heap.objs.size)) (PIE X pins r tg R) E { s with heap:=s.heap.push { cls:=.type "range", data:=.fields (y9 [.int n t,.int hi u,.int 1 v]) },toks:=tk }:=by
 refine wpAny_pyIter_range (IsRange.new ..) (small_one h1 m p c) ?_;have i:Inv X pins r H { s with heap:=s.heap.push { cls:=.type "range", data:=.fields (y9 [.int n t,.int hi u,.int 1 v]) },toks:=tk }:=I.kept λb o e=>zW _ e;refine#[(s.heap.push { cls:=.type "range", data:=.fields (y9 [.int n t,.int hi u,.int 1 v]) }).objs.size,[(s.heap.push { cls:=.type "range", data:=.fields (y9 [.int n t,.int hi u,.int 1 v]) }).objs.size],_,_,H,rfl,
   i.kept (t':=tk) λb o e=>zW _ e,ZS _ n (hi - n).toNat,?_,λb hb=>?_,q]
 . have j:n+((0:Nat):Int)*1=n:=by simp
   have h:(((hi - n).toNat:Nat):Int) - ((0:Nat):Int)=Builtin.Range.rangeSize n hi 1:=by rw[rangeSize_one];split <;> lia
   show IsRangeIter _ _ (n+((0:Nat):Int)*1) ((((hi - n).toNat:Nat):Int) - ((0:Nat):Int)) 1;rw[j,h];exact yZ _ rfl
 . have e:b=(s.heap.push { cls:=.type "range", data:=.fields (y9 [.int n t,.int hi u,.int 1 v]) }).objs.size:=by simpa using hb
   subst e;exact i.fpOk (zR _) (i.hok.fresh (zR _))
def xE (T:TA):TI:=λt H R=>T t H λn e=>∃j:Int,n=[.int j]/\-(2 ^ 62)<=j/\j < 2 ^ 62/\R (Itr 0 j.toNat) e
theorem fR {a:bn}{T:TA}{p pos:eH}(hg:Gl X "range") (o:X.mg "range"=ap) (g:PA X [a] T) (hs:starEach [a] X.env=[(ay,eval a X.env)]:=by rfl):PI X tg (.Call (.Name "range" p) [a] [] pos) (xE T):=by
 intro pins s m H R I h;refine Call_ (HY I hg o boot_range (xG (thn (g pos pins s m H _ I h) λk c #[f,b,n,i,N]=>?_) hs rfl));obtain⟨j,e,N,J,q⟩:=N;subst e;cases i with
 | cons r Q=> cases Q;obtain⟨t,rfl⟩:=r;exact call_range_1 (kB n (by lia) (by lia) N J (by simpa using q))
def A0a (U:TI) (g:TG) (r:TS):TS:=λD e H=>U e H λJ o=>∃W:Nat->Nat->St->Hp->Prop,(∃m,W 0 m e o)/\∀i m e H,W i m e H ->(J.stop i H/\D.nx e H)\/(J.go i H/\∃N:St->Hp->Prop,(∀b H',N b H'->∃n,n < m/\W (i+1) n b H')/\∀x H',J.yld i H x H'->g x e H' λt c=>r { D with nx:=N,ct:=N,bk:=D.nx } t c)
def PL (e:List Addr) (h:ca):List (Addr×cr):=e.filterMap λb=>(h.get? b).map λo=>(b,o)
theorem E4 (hb:b∈t) (e:h.get? b=am o):(b,o)∈PL t h:=List.mem_filterMap.mpr #[b,hb,by rw[e];rfl]
theorem fS (hp:p∈PL t h):p.1∈t/\h.get? p.1=am p.2:=by
 obtain⟨b,hb,e⟩:=List.mem_filterMap.mp hp;cases q:h.get? b with
 | none=>rw[q] at e;cases e
 | some o=> rw[q] at e;have e':(b,o)=p:=Option.some.inj e;subst e';exact#[hb,q]
theorem Inv.pinned {n:St}(I:Inv X pins n H s) (i:∀b∈t,LX X pins H b) (ho:∀b∈t,∃o,s.heap.get? b=am o/\∀v,o.data≠.cell v):Inv X (pins++PL t s.heap) n H s:=
 I.pins_of λp hp=>(yW.mp hp).elim (λz=>I.pin p (zB _ z)) λz=>by obtain⟨hb,e⟩:=fS z;obtain⟨J,u,L,_⟩:=i p.1 hb;obtain⟨o,e',d⟩:=ho p.1 hb;rw[e] at e';cases e';exact#[e,J,u,L,d]
theorem Inv.unpinned {e:St}(I:Inv X (pins++t) e H s):Inv X pins e H s:=I.pins_of λp hp=>I.pin p (zB _ (zA _ hp))
theorem kC {iter:bn}{body:List ew}{wi:TI}{g:TG}{tb:TS}{pos:eH}(hp:PassesOwn (model X.prog X.w) X.A X.env X.xe) (hc:X.calm=av) (hi:PI X tg iter wi) (hg:PG X tg g) (hb:PSs X body tb) (hs:∀x,bw iter X.env x=pure x:=by intro _;rfl):PS X (.For tg iter body [] pos) (A0a wi g tb):=by
 intro pins s σ H D I h;refine wpAny_For (thn (hi pins s σ H _ I h) λv s1 h1=>thn h1 λCi s2 h2=>?_) hs;obtain⟨it,q,tn,J,H2,e,I2,T,gv,U,W,⟨m0,w0⟩,turn⟩:=h2;subst e;have stat:∀{H':Hp},(∀b∈q,H' b=ap)->∀b∈q,LX X pins H' b:=λhn b hb=>#[hn b hb,(U b hb).2]
 refine codeAny_forLoop_any (λn s'=>∃i c H',Inv X pins c H' s'/\tn i s'.heap/\(∀b∈q,H' b=ap)/\W i n c H') ?_ m0 #[0,σ,H2,I2,gv,λb hb=>(U b hb).1,w0];rintro n Z ⟨i,j,z,Q,Y,G,w3⟩;rcases turn i n j z w3 with ⟨stop,qn⟩ | ⟨go,N,hN,step⟩
 . refine eg hp (thn (T.done X rfl rfl rfl hc i pins Z j z X.xe Q (stat G) Y stop) λr s4 #[hr,I4]=>?_);subst hr;exact eN #[j,z,I4,qn]
 . refine eg hp (thn (T.item X rfl rfl rfl hc i pins Z j z X.xe Q (stat G) Y go) λr s4 #[u,hr,h4]=>?_);subst hr;refine eg hp (thn h4 λ_ s5 #[x,L,I5,r5,y5,O,zj]=>?_);have Dw:=I5.pinned (stat zj) (T.obj _ _ O);refine eg hp (thn (hg _ s5 j L x u _ Dw r5 (step x L y5)) λ_ s6 #[B,H6,I6,q6]=>?_);refine eg hp (thn (hb _ s6 B H6 _ I6 q6) λf S k=>?_);have again:∀{t:St}{M:Hp},Inv X (pins++PL q s5.heap) t M S->N t M->∃m,m < n/\∃i c H',Inv X pins c H' S/\tn i S.heap/\(∀b∈q,H' b=ap)/\W i m c H':=λ{t M} p y=>by obtain⟨m',hm,w7⟩:=hN t M y;refine#[m',hm,i+1,t,M,p.unpinned,T.keep _ _ _ O λb hb o e=>(p.pin (b,o) (zB _ (zB _ (E4 hb e)))).1,λb hb=>?_,w7];obtain⟨o,e,d⟩:=T.obj _ _ O b hb;exact(p.pin (b,o) (zB _ (zB _ (E4 hb e)))).2.1
   cases f with
   | next=>obtain⟨t,M,p,y⟩:=k;exact again p y
   | cont=>obtain⟨t,M,p,y⟩:=k;exact again p y
   | brk=>obtain⟨t,M,p,k⟩:=k;exact#[t,M,p.unpinned,k]
   | ret v=>obtain⟨x7,t,M,p,r7,k⟩:=k;exact#[x7,t,M,p.unpinned,r7,k]
end
abbrev R2:=V->V->Hp->VK->Prop
def OpR (X:Cx) (f:aw->aw->Sem aw) (r:R2):Prop:=∀(pins:List (Addr×cr)) (s:ax) (e:St) (H:Hp) (x y:V) (v u:aw) (Q:VK),Inv X pins e H s->RelV x v->RelV y u->r x y H Q ->
   wpAny (model X.prog X.w) X.A (f v u) (EP X pins e Q) X.xe s
def UnR (X:Cx) (f:aw->Sem aw) (r:V->Hp->VK->Prop):Prop:=∀(pins:List (Addr×cr)) (s:ax) (e:St) (H:Hp) (x:V) (v:aw) (Q:VK),Inv X pins e H s->RelV x v->r x H Q ->
   wpAny (model X.prog X.w) X.A (f v) (EP X pins e Q) X.xe s
def C7 (X:Cx) (f:aw) (r:List V->Hp->VK->Prop):Prop:=∀(pins:List (Addr×cr)) (s:ax) (e:St) (H:Hp) (t:List V) (k:List aw) (Q:VK),Inv X pins e H s->Vals t k->r t H Q ->
   wpAny (model X.prog X.w) X.A (call f k) (EP X pins e Q) X.xe s
def tOp (r:R2) (T n:TE):TE:=λe H Q=>T e H λx t=>n e t λy c=>r x y c Q
def tUn (r:V->Hp->VK->Prop) (T:TE):TE:=λt H Q=>T t H λx e=>r x e Q
def rI (C:Int->Int->Prop) (g:Int->Int->V):R2:=λx y H Q=>∃i j,x = .int i/\y = .int j/\C i j/\Q (g i j) H
def rI0 (g:Int->Int->V):R2:=λx y H Q=>∃i j,x = .int i/\y = .int j/\Q (g i j) H
def rU (g:Int->V):V->Hp->VK->Prop:=λx H Q=>∃i,x = .int i/\Q (g i) H
section
variable {X:Cx}{a b c:bn}{ta tb tc:TE}{pos:eH}
theorem A0b (g:PE X a ta) (hb:PE X b tb) {pins:List (Addr×cr)}{s:ax}{t:St}{H:Hp}{R:V->V->Hp->Prop}(I:Inv X pins t H s) (h:ta t H λx r=>tb t r λy e=>R x y e) {Q:aw->ax->Prop}{f:aw->aw->Sem aw} (j:∀v u i x y e,Inv X pins t e i->RelV x v->RelV y u->R x y e->wpAny (model X.prog X.w) X.A (f v u) Q X.xe i) :
   wpAny (model X.prog X.w) X.A (eval a X.env) (λv n=>wpAny (model X.prog X.w) X.A (eval b X.env) (λu o=>wpAny (model X.prog X.w) X.A (f v u) Q X.xe o) X.xe n) X.xe s:=by refine thn (g pins s t H _ I h) λv z #[x,r,m,k,N]=>?_;refine thn (hb pins z t r _ m N) λu i #[y,e,p,q,J]=>?_;exact j v u i x y e p k q J
theorem J6 {f:Operator}{r:R2}(ho:OpR X (dh f) r) (g:PE X a ta) (hb:PE X b tb):PE X (.BinOp a f b pos) (tOp r ta tb):=by intro pins s o H Q I h;exact wpAny_BinOp (A0b g hb I h λv u n x y e t L Z q=>ho pins n o e x y v u Q t L Z q)
theorem A2p {f:UnaryOp}{r:V->Hp->VK->Prop}(ho:UnR X (unaryOp f) r) (g:PE X a ta):PE X (.UnaryOp f a pos) (tUn r ta):=by intro pins s e H Q I h;exact UnaryOp_ (thn (g pins s e H _ I h) λv i #[x,t,n,o,N]=>ho pins i e t x v Q n o N)
theorem opI {g:Int->Int->Int} (rule:∀(i j:Int) (t u:Tok) (s:ax) (Q:aw->ax->Prop) (E:aw->ax->Prop),C i j->Q (.int (g i j) s.toks) { s with toks:=s.toks+1 }->wpAny (model X.prog X.w) X.A (f (.int i t) (.int j u)) Q E s) :
   OpR X f (rI C λi j=>.int (g i j)):=by intro pins s n H x y v u Q I L Z h;obtain⟨i,j,rfl,rfl,hc,q⟩:=h;obtain⟨t,rfl⟩:=L;obtain⟨e,rfl⟩:=Z;exact rule i j t e s _ _ hc #[.int (g i j),H,I.tok _,#[_,rfl],q]
theorem A0c {g:Int->Int->Int} (rule:∀(i j:Int) (t u:Tok) (s:ax) (Q:aw->ax->Prop) (E:aw->ax->Prop),Q (.int (g i j) s.toks) { s with toks:=s.toks+1 }->wpAny (model X.prog X.w) X.A (f (.int i t) (.int j u)) Q E s) :
   OpR X f (rI0 λi j=>.int (g i j)):=by intro pins s n H x y v u Q I L Z h;obtain⟨i,j,rfl,rfl,q⟩:=h;obtain⟨t,rfl⟩:=L;obtain⟨e,rfl⟩:=Z;exact rule i j t e s _ _ #[.int (g i j),H,I.tok _,#[_,rfl],q]
theorem rV {g:Int->Int->Bool} (rule:∀(i j:Int) (t u:Tok) (s:ax) (Q:aw->ax->Prop) (E:aw->ax->Prop),Q (.bool (g i j)) s->wpAny (model X.prog X.w) X.A (f (.int i t) (.int j u)) Q E s) :
   OpR X f (rI0 λi j=>.bl (g i j)):=by intro pins s n H x y v u Q I L Z h;obtain⟨i,j,rfl,rfl,q⟩:=h;obtain⟨t,rfl⟩:=L;obtain⟨e,rfl⟩:=Z;exact rule i j t e s _ _ #[.bl (g i j),H,I,rfl,q]
def A2q (i j:Int):Prop:=0 < j/\j < 1073741824
def fT (i j:Int):Prop:=0<=j/\j<=1000000/\i.natAbs < 2 ^ 64
def CMul (i j:Int):Prop:=(-(2 ^ 64) < i/\i < 2 ^ 64)\/(-(2 ^ 64) < j/\j < 2 ^ 64)
theorem CMul.ok (h:CMul i j):IntMulOk i j:=by
 rcases h with ⟨h1,e⟩ | ⟨h1,e⟩
 . exact .of_left (intBits_le_64 h1 e)
 . exact .of_right (intBits_le_64 h1 e)
theorem ZT (k:Nat):(0:Int)<=2 ^ k:=by rw[two_pow_cast];exact a5Z _
theorem A0d:OpR X (dh .Add) (rI0 λi j=>.int (i+j)):=A0c λ_ _ _ _ _ _ _ q=>add_int q
theorem A0e:OpR X (dh .Sub) (rI0 λi j=>.int (i - j)):=A0c λ_ _ _ _ _ _ _ q=>sub_int q
theorem A0f:OpR X (dh .Mod) (rI (λ_ j=>0 < j) λi j=>.int (i % j)):=opI λi j _ _ _ _ _ hc q=>by have h1:(0:Int) < j:=hc;exact mod_int' (by lia) (by rw[Int.fmod_eq_emod_of_nonneg i (by lia)];exact q)
theorem A0g:OpR X (dh .Pow) (rI fT λi j=>.int (i ^ j.toNat)):=opI λ_ _ _ _ _ _ _ hc q=>pow_int_small hc.1 hc.2.1 hc.2.2 q
theorem A0h:OpR X (dh .LShift) (rI fT λi j=>.int (i*2 ^ j.toNat)):=opI λ_ _ _ _ _ _ _ hc q=>lshift_int_small hc.1 hc.2.1 hc.2.2 q
theorem A0i:OpR X (dh .RShift) (rI (λ_ j=>0<=j) λi j=>.int (i/2 ^ j.toNat)):=opI λi j _ _ _ _ _ hc q=>
 rshift_int hc (by rw[b8K i (ZT _)];exact q)
theorem A0j:OpR X (dh .BitAnd) (rI0 λi j=>.int (Builtin.bitAnd i j)):=A0c λ_ _ _ _ _ _ _ q=>and_int q
theorem unI {g:Int->Int} (rule:∀(i:Int) (t:Tok) (s:ax) (Q:aw->ax->Prop) (E:aw->ax->Prop),Q (.int (g i) s.toks) { s with toks:=s.toks+1 }->wpAny (model X.prog X.w) X.A (f (.int i t)) Q E s) :
   UnR X f (rU λi=>.int (g i)):=by intro pins s e H x v Q I L h;obtain⟨i,rfl,q⟩:=h;obtain⟨t,rfl⟩:=L;exact rule i t s _ _ #[.int (g i),H,I.tok _,#[_,rfl],q]
theorem A0k:UnR X (unaryOp .USub) (rU λi=>.int (-i)):=unI λ_ _ _ _ _ q=>neg_int q
theorem PM {n:St}(I:Inv X pins n H s) (q:Q (.bl k) H) (e:k=t):EP X pins n Q (.bool t) s:=by subst e;exact#[.bl k,H,I,rfl,q]
theorem A2r:OpR X (bj .Lt) (rI0 λi j=>.bl (decide (i < j))):=rV λ_ _ _ _ _ _ _ q=>lt_int q
theorem SM:OpR X (bj .LtE) (rI0 λi j=>.bl (decide (i<=j))):=rV λ_ _ _ _ _ _ _ q=>le_int q
theorem xK:OpR X (bj .Gt) (rI0 λi j=>.bl (decide (j < i))):=rV λ_ _ _ _ _ _ _ q=>gt_int q
theorem xO:OpR X (bj .GtE) (rI0 λi j=>.bl (decide (j<=i))):=rV λ_ _ _ _ _ _ _ q=>ge_int q
theorem fU:OpR X (bj .Lt) (λx y H Q=>∃i j,x = .str i/\y = .str j/\Q (.bl (decide (i.cps.toList < j.cps.toList))) H):=by intro pins s n H x y v u Q I L Z h;obtain⟨i,j,rfl,rfl,q⟩:=h;obtain⟨t,rfl⟩:=L;obtain⟨e,rfl⟩:=Z;exact lt_str (PM I q rfl)
theorem fV:OpR X (bj .In) (λx y H Q=>∃i j,x = .str i/\y = .str j/\Q (.bl (!(a4Q j i 0 j.length 1).isEmpty)) H):=by intro pins s n H x y v u Q I L Z h;obtain⟨i,j,rfl,rfl,q⟩:=h;obtain⟨t,rfl⟩:=L;obtain⟨e,rfl⟩:=Z;exact in_str (PM I q rfl)
theorem A0l:OpR X (bj .Is) (λx y H Q=>y = .non/\Q (.bl (decide (x = .non))) H):=by
 intro pins s e H x y v u Q I L Z h;obtain⟨rfl,q⟩:=h;cases Z;refine is_none_gen (PM I q ?_);cases x <;> first
   | (cases L;rfl)
   | (obtain⟨t,rfl⟩:=L;rfl)
theorem rW:OpR X (bj .IsNot) (λx y H Q=>y = .non/\Q (.bl (!decide (x = .non))) H):=by
 intro pins s e H x y v u Q I L Z h;obtain⟨rfl,q⟩:=h;cases Z;refine isnot_none_gen (PM I q ?_);cases x <;> first
   | (cases L;rfl)
   | (obtain⟨t,rfl⟩:=L;rfl)
theorem UI:OpR X (bj .NotIn) (λx y H Q=>∃i j,x = .str i/\y = .str j/\Q (.bl (!(!(a4Q j i 0 j.length 1).isEmpty))) H):=by intro pins s n H x y v u Q I L Z h;obtain⟨i,j,rfl,rfl,q⟩:=h;obtain⟨t,rfl⟩:=L;obtain⟨e,rfl⟩:=Z;exact notIn_str (PM I q rfl)
theorem OpR.or (h:OpR X f r) (h':OpR X f J):OpR X f (λx y H Q=>r x y H Q\/J x y H Q):=by
 intro pins s e H x y v u Q I L Z q;rcases q with q | q;. exact h pins s e H x y v u Q I L Z q
 . exact h' pins s e H x y v u Q I L Z q
theorem CQ (b:bn) {f:CmpOp}(h:f≠.In:=by decide) (t:f≠.NotIn:=by decide):fw f b=false:=by
 have j:(f==CmpOp.In)=false:=by cases f <;> first | rfl | exact absurd rfl h
 have e:(f==CmpOp.NotIn)=false:=by cases f <;> first | rfl | exact absurd rfl t
 cases b <;> simp[fw,j,e]
theorem G6 {f:CmpOp}{r:R2}(ho:OpR X (bj f) r) (g:PE X a ta) (hb:PE X b tb) (n:fw f b=ay):PE X (.Compare a [f] [b] pos) (tOp r ta tb):=by intro pins s i H Q I h;exact wpAny_Compare1 (A0b g hb I h λv u o x y e t L Z q=>ho pins o i e x y v u Q t L Z q) n
def kD (t:TE):TT:=λe H Q=>t e H λx H'=>∃k,x = .bl k/\Q k H'
theorem CZ {f:CmpOp}{r:R2}(ho:OpR X (bj f) r) (g:PE X a ta) (hb:PE X b tb) (j:fw f b=ay):PT X (.Compare a [f] [b] pos) (kD (tOp r ta tb)):=by
 intro pins s t H Q I h;refine wpAny_isTrue_Compare1 (thn (g pins s t H _ I h) λv S #[x,n,i,q,N]=>thn (hb pins S t n _ i N) λu D #[y,o,p,T,J]=>
   thn (ho pins D t o x y v u _ p q T J) λc B #[z,m,M,O,k,e,G]=>?_) j;subst e;cases O;exact cN #[m,M,G]
def ZU (r J:R2) (ta tb tc:TE):TE:=λe H Q=>ta e H λx t=>tb e t λy n=>r x y n λz m=>∃k,z = .bl k /\(if k=av then tc e m λv o=>J y v o Q else Q (.bl ay) m)
theorem kE {f O:CmpOp}{r J:R2}(ho:OpR X (bj f) r) (T:OpR X (bj O) J) (N:PE X a ta) (hb:PE X b tb) (hc:PE X c tc) (S:lastMarks [f,O] [b,c]=false:=by with_unfolding_all rfl):PE X (.Compare a [f,O] [b,c] pos) (ZU r J ta tb tc):=by
 intro pins s t H Q I h;refine Compare_chain (thn (N pins s t H _ I h) λv s1 #[x,o,g,U,D]=>chain_link (thn (hb pins s1 t o _ g D) λu s2 #[y,i,j,n,B]=>
   thn (ho pins s2 t i x y v u _ j U n B) λd s3 #[z,m,M,Y,k,e,G]=>?_)) S;subst e;cases Y;refine cN ?_;cases k with
 | false=>exact ite_ff #[.bl ay,m,M,rfl,G]
 | true=>exact ite_tt (chain_last (thn (hc pins s3 t m _ M G) λw' s4 #[z',p,q,Z,L]=>T pins s4 t p y z' u w' Q q n Z L))
theorem WR {f O:CmpOp}{r J:R2}(ho:OpR X (bj f) r) (N:OpR X (bj O) J) (D:PE X a ta) (hb:PE X b tb) (hc:PE X c tc) (B:lastMarks [f,O] [b,c]=false:=by with_unfolding_all rfl):PT X (.Compare a [f,O] [b,c] pos) (kD (ZU r J ta tb tc)):=by
 intro pins s t H Q I h;refine isTrue_chain (thn (D pins s t H _ I h) λv s1 #[x,o,j,r1,Y]=>test_link (thn (hb pins s1 t o _ j Y) λu s2 #[y,i,q,n,Z]=>
   thn (ho pins s2 t i x y v u _ q r1 n Z) λd s3 #[z,m,M,r3,k,e,G]=>?_)) B;subst e;cases r3;refine cN ?_;cases k with
 | false=> obtain⟨k',e',L⟩:=G;cases e';exact ite_ff #[m,M,L]
 | true=> refine ite_tt (test_last (thn (hc pins s3 t m _ M G) λw' s4 #[z',p,T,r4,q4]=>thn (N pins s4 t p y z' u w' _ T n r4 q4) λd' s5 #[z2,g,U,r5,k2,S,q5]=>?_));subst S;cases r5;exact cN #[g,U,q5]
theorem PN:(aB:Nat) < 2 ^ 63:=by rw[c3];decide
theorem ZV:OpR X (dh .Add) (λx y H Q=>∃i j,x = .str i/\y = .str j/\i.length+j.length<=aB/\Q (.str (i++j)) H):=by intro pins s r H x y v u Q I L Z h;obtain⟨i,j,rfl,rfl,e,q⟩:=h;obtain⟨t,rfl⟩:=L;obtain⟨n,rfl⟩:=Z;exact add_str (λn o=>#[.str (i++j),H,I.tok _,#[_,rfl],q]) e
theorem J7 (r:Vals [x] k):∃u,k=[u]/\RelV x u:=by
 cases r with
 | cons e t=>cases t;exact#[_,rfl,e]
theorem cI (r:Vals [x,y] k):∃u v,k=[u,v]/\RelV x u/\RelV y v:=by
 cases r with
 | cons e t=>
   cases t with
   | cons n o=>cases o;exact#[_,_,rfl,e,n]
theorem kF:C7 X (.builtin "abs") (λxs H Q=>∃i,xs=[.int i]/\Q (.int (if i < 0 then -i else i)) H):=by intro pins s n H xs k Q I r h;obtain⟨i,rfl,q⟩:=h;obtain⟨u,rfl,t,rfl⟩:=J7 r;exact call_abs_int λu e=>#[.int (if i < 0 then -i else i),H,I.tok _,#[_,rfl],q]
theorem fW (hc:X.calm=av):C7 X (.builtin "max") (λxs H Q=>∃i j,xs=[.int i,.int j]/\Q (.int (if j > i then j else i)) H):=by
 intro pins s f H xs m Q I r h;obtain⟨i,j,rfl,q⟩:=h;obtain⟨u,v,rfl,⟨t,rfl⟩,⟨n,rfl⟩⟩:=cI r;refine max_two_ints (I.ok.hd hc) λp o k=>#[_,H,I.kept k,?_,q]
 by_cases e:j > i;. rw[if_pos e,if_pos e];exact#[_,rfl]
 . rw[if_neg e,if_neg e];exact#[_,rfl]
theorem fX (hc:X.calm=av):C7 X (.builtin "min") (λxs H Q=>∃i j,xs=[.int i,.int j]/\Q (.int (if j < i then j else i)) H):=by
 intro pins s f H xs m Q I r h;obtain⟨i,j,rfl,q⟩:=h;obtain⟨u,v,rfl,⟨t,rfl⟩,⟨n,rfl⟩⟩:=cI r;refine min_two_ints (I.ok.hd hc) λp o k=>#[_,H,I.kept k,?_,q]
 by_cases e:j < i;. rw[if_pos e,if_pos e];exact#[_,rfl]
 . rw[if_neg e,if_neg e];exact#[_,rfl]
def kG (K:Frg) (x:V) (H:Hp) (n:Nat):Prop:=
 match x with
 | .str y=>y.length<=aB/\n=y.length
 | .byt y=>y.size<=aB/\n=y.size
 | .ref p=>(∃t,SqL K H p t/\n=t.length)\/∃t,SqT K H p t/\n=t.length
 | _=>False
theorem kH:C7 X (.builtin "len") (λxs H Q=>∃x n,xs=[x]/\kG X.K x H n/\Q (.int n) H):=by
 intro pins s j H xs k Q I r h;obtain⟨x,n,rfl,e,q⟩:=h;obtain⟨u,rfl,L⟩:=J7 r;have g:=PN;have hs:aB=16777216:=c3;cases x with
 | str y=> obtain⟨t,rfl⟩:=L;obtain⟨hy,e'⟩:y.length<=aB/\n=y.length:=e;subst e';exact len_str (by lia) #[.int _,H,I.tok _,#[_,rfl],q]
 | byt y=> obtain⟨t,rfl⟩:=L;obtain⟨hy,e'⟩:y.size<=aB/\n=y.size:=e;subst e';exact PySem.W.len_bytes (by lia) #[.int _,H,I.tok _,#[_,rfl],q]
 | ref p=>
   cases L;have e':(∃xs,SqL X.K H p xs/\n=xs.length)\/∃xs,SqT X.K H p xs/\n=xs.length:=e;rcases e' with ⟨xs,hx,e'⟩ | ⟨xs,hx,e'⟩
   . subst e';obtain⟨m,J,i,f⟩:=I.list hx;have o:=J.length;exact Calls.call_len_list i.isList (by simp only[zJ];lia) #[.int xs.length,H,I.tok _,#[_,by simp only[zJ];rw[o]],q]
   . subst e';obtain⟨m,J,i,f⟩:=I.tuple hx;have o:=J.length;exact len_tuple i (by simp only[zJ];lia) #[.int xs.length,H,I.tok _,#[_,by simp only[zJ];rw[o]],q]
 | _=>exact(show False from e).elim
theorem WS:C7 X (.builtin "divmod") (λxs H Q=>∃i j,xs=[.int i,.int j]/\A2q i j/\∀p,H p=ap->Q (.ref p) (upd H p (.tup [.int (i/j),.int (i % j)]))):=by intro pins s f H xs k Q I r h;obtain⟨i,j,rfl,⟨h1,n⟩,q⟩:=h;obtain⟨u,v,rfl,⟨t,rfl⟩,⟨m,rfl⟩⟩:=cI r;refine divmod_int (by lia) ?_ (.inl (PyProof.noPylong_small (by lia)));rw[b8K i (by lia),Int.fmod_eq_emod_of_nonneg i (by lia)];have hn:H s.heap.objs.size=none:=I.hok.fresh (zR _);refine#[.ref s.heap.objs.size,_,?_,rfl,q _ hn];refine I.laid (λb o e=>zW _ e) (zR _) #[by simp only[yR,a6J];rw[c3];decide,[.int (i/j) s.toks,.int (i % j) (s.toks+1)],.cons #[_,rfl] (.cons #[_,rfl] .nil),?_];exact#[_,yZ s.heap rfl,rfl,0,rfl]
end
structure ObjM (h:ca) (x dx C:Addr) (mA:Str->Option aw):Prop where
 obj:h.get? x=am (PySem.W.instObj C dx)
 ns:h.Ns1 dx mA
 ne:dx≠x
theorem fY {h:ca}(n:h.Ns1 D i):∃m,h.get? D=am m/\∀name,PySem.W.lookIn name m=am (i name):=by
 obtain⟨o,M,Z,ho,hd,hk,_,r⟩:=n;refine#[o,ho,λname=>?_];have e:=r name;unfold nsFind findBy at e;rw[<-Array.find?_toList] at e;unfold PySem.W.lookIn;rw[hd];dsimp only;split;. rename_i y q;rw[q] at e;exact congrArg am e
 . rename_i q;rw[q] at e;have a:M.toList.any (·.refKey)=false:=by rw[List.any_eq_false];intro y hy;obtain⟨z,t,p⟩:=hk y (Array.mem_toList_iff.mp hy);simp[DictEntry.refKey,p]
   have N:¬M.toList.any (·.refKey)=true:=by rw[a];exact nft
   rw[if_neg N];exact congrArg am e
theorem ObjM.look (I:ObjM h x D C e):∃m,PySem.W.InstAt h x (PySem.W.instObj C D) C (am m)/\∀name,PySem.W.lookIn name m=am (e name):=
 let #[m,ho,t]:=fY I.ns
 #[m,#[I.obj,rfl,rfl,ho],t]
theorem RelO.some_of (r:RelO (am v) o):∃u,o=am u/\RelV v u:=by
 cases o with
 | none=>exact(show False from r).elim
 | some u=>exact#[u,rfl,r]
section
theorem rX (hok:HOk P w H h) (e:H a=am (.ins C dx fs)):∃t,ObjM h a dx C t/\(∀f,RelO (fs.lookup f) (t f))/\PySem.Within t (fs.map (·.1))/\fs.length<=1000/\H dx=am (.own a):=by
 obtain⟨d,z,o,y,t,n,r,q⟩:=(show ObjOk P w H h a (.ins C dx fs) from hok a _ e)
 exact#[t,#[y,n,o],r,q,z,d]
end
structure Cls (K:Frg) (C:Addr):Prop where
 pg:PySem.W.plainGet K C Str.empty=av
 hd:PySem.W.hasDictIn K C=av
 po:PySem.W.plainOver K C=av
 sa:a8K K (.ref C) "__setattr__"=am (am (.builtin "object.__setattr__"))
theorem Cls.get {K:Frg}(c:Cls K C) (f:Str):PySem.W.plainGet K C f=true:=c.pg
section
variable {X:Cx}{pins:List (Addr×cr)}{σ:St}{H:Hp}{s:ax}{A:bv}{E:aw->ax->Prop}{Q:aw->ax->Prop}{c:aw}{b:Bool}
inductive TyOf (K:Frg) (H:Hp):V->aw->Prop where
 | non:TyOf K H .non (.type "NoneType")
 | bl (x:Bool):TyOf K H (.bl x) (.type "bool")
 | int (i:Int):TyOf K H (.int i) (.type "int")
 | str (x:Str):TyOf K H (.str x) (.type "str")
 | flt (x:UInt64):TyOf K H (.flt x) (.type "float")
 | lst {a:Addr}{xs:List V}(e:H a=am (.lst xs)):TyOf K H (.ref a) (.type "list")
 | frz {a:Addr}{o:cr}{xs:List V}(e:H a=am (.frz o (.lst xs))):TyOf K H (.ref a) (.type "list")
 | tup {a:Addr}{xs:List V}(e:H a=am (.tup xs)):TyOf K H (.ref a) (.type "tuple")
 | dK {a:Addr}{kvs:List (Key×V)}(e:H a=am (.dK kvs)):TyOf K H (.ref a) (.type "dict")
 | dT {a:Addr}{kvs:List (List Key×V)}(e:H a=am (.dT kvs)):TyOf K H (.ref a) (.type "dict")
 | ins {a C dx:Addr}{fs:List (Str×V)}(e:H a=am (.ins C dx fs)) (cl:Cls K C) (ha:a8K K (.ref C) "__class__"=am (am (.builtin "object.__class__"))) (hn:PySem.W.specialIn K (.builtin "object.__class__") "__get__"=am (am (.builtin "getset_descriptor.__get__"))) (htk:PySem.W.takesIn K (.builtin "object.__class__")=am av) (hm:PySem.W.mroIn K C (.type "object")=am av):TyOf K H (.ref a) (.ref C)
theorem GV (I:Inv X pins σ H s) (L:RelV x u) (ty:TyOf X.K H x t) (e:PySem.W.kitOne X.K t c=am b) (h:∀tk,Q (.bool b) { s with toks:=tk }) :
   wpAny (model X.prog X.w) A (call (.builtin "isinstance") [u,c]) Q E s:=by
 cases ty with
 | non=>cases (show u=a0V from L);exact a3K PySem.W.kitx_none I.kIn a8Z e (λz=>nomatch z) h
 | bl y=>cases (show u=Value.bool y from L);exact a3K PySem.W.kitx_bool I.kIn a8Z e (λz=>nomatch z) h
 | int i=>obtain⟨t,q⟩:=(show ∃t,u=c0V i t from L);cases q;exact a3K PySem.W.kitx_int I.kIn a8Z e (λz=>nomatch z) h
 | str y=>obtain⟨t,q⟩:=(show ∃t,u=c0W y t from L);cases q;exact a3K PySem.W.kitx_str I.kIn a8Z e (λz=>nomatch z) h
 | flt y=>obtain⟨t,q⟩:=(show ∃t,u=Value.float y t from L);cases q;exact a3K PySem.W.kitx_float I.kIn a8Z e (λz=>nomatch z) h
 | @lst a m r=>
   cases (show u=a0X a from L);obtain⟨_,_,n,_,h1⟩:=(show ObjOk X.prog X.w H s.heap a (.lst m) from I.hok a _ r)
   exact a3K PySem.W.kitx_list I.kIn #[_,h1,rfl] e (λz=>nomatch z) h
 | @frz a v m r=>
   cases (show u=a0X a from L);obtain⟨_,_,_,n,_,h1⟩:=(show ObjOk X.prog X.w H s.heap a (.frz v (.lst m)) from I.hok a _ r)
   exact a3K PySem.W.kitx_list I.kIn #[_,h1,rfl] e (λz=>nomatch z) h
 | @tup a m r=>
   cases (show u=a0X a from L);obtain⟨_,_,_,p⟩:=(show ObjOk X.prog X.w H s.heap a (.tup m) from I.hok a _ r)
   obtain⟨o,h1,f,_⟩:=p;exact a3K PySem.W.kitx_tuple I.kIn #[o,h1,f] e (λz=>nomatch z) h
 | @dK a kvs r=>
   cases (show u=a0X a from L);obtain⟨_,_,S,_,p⟩:=(show ObjOk X.prog X.w H s.heap a (.dK kvs) from I.hok a _ r)
   obtain⟨o,M,Z,h1,f,_⟩:=p;exact a3K PySem.W.kitx_dict I.kIn #[o,h1,f.1] e (λz=>nomatch z) h
 | @dT a kvs r=>
   cases (show u=a0X a from L);obtain⟨_,_,m,_,o,M,Z,h1,f,_⟩:=(show ObjOk X.prog X.w H s.heap a (.dT kvs) from I.hok a _ r)
   exact a3K PySem.W.kitx_dict I.kIn #[o,h1,f.1] e (λz=>nomatch z) h
 | @ins a C D fs r g j hn htk k=> cases (show u=a0X a from L);obtain⟨T,O,_⟩:=rX I.hok r;obtain⟨N,J,_⟩:=O.look;exact a3K (PySem.W.kitx_own (g.get _) g.hd j hn htk k) I.kIn J e (λz=>nomatch z) h
end
structure Room (k:Nat) (A:bv):Prop where
 hd:A.handled=ap
 dp:A.depth+3*k+5 < recursionLimit
 un:A.units+16*k+200 < ef
theorem Room.mono (r:Room k A) (h:j<=k):Room j A:=#[r.hd,by have:=r.dp;lia,by have:=r.un;lia]
theorem Room.deeper (r:Room (k+1) A) (env:im):Room k (A.deeper env):=#[r.hd,by have:=r.dp;show A.depth+1+3*k+5 < _;lia,by have:=r.un;show A.units+3+16*k+200 < _;lia]
theorem PP {A:bv}:(A.under (.builtin "type.__call__" #[.ref C::k,S])).depth=A.depth+1:=by first | rfl | simp[Around.under,Code.weight,Code.isCreation,Code.isGuard,Code.isCaller,Code.frames,Code.isFrame,guardIds]
theorem PQ {A:bv}:(A.under (.builtin "type.__call__" #[.ref C::k,S])).units=A.units+1:=by first | rfl | simp[Around.under,Code.cUnits,Code.frames,Code.isFrame]
theorem Room.make (r:Room (k+1) A) (C:Addr) (e:List aw) (S:List (Str×aw)):Room k (A.under (.builtin "type.__call__" #[.ref C::e,S])):=#[r.hd,by have:=r.dp;rw[PP];lia,by have:=r.un;rw[PQ];lia]
theorem Room.depth (r:Room k A):A.depth < recursionLimit:=by have:=r.dp;lia
theorem Room.units (r:Room k A):A.units+64 < cLine:=by have:=r.un;lia
def A0m:TA:=λ_ H Q=>Q [] H
def WT (T:TE) (L:TA):TA:=λe H Q=>T e H λx t=>L e t λn c=>Q (x::n) c
section
variable {X:Cx}{e:bn}{es:List bn}{te:TE}{t:TA}{pos:eH}
theorem kI:PA X [] A0m:=λ_ _ _ _ H Q I h=>Calls.spliced_nil #[[],H,I,.nil,h]
theorem UJ (g:PE X e te) (hr:PA X es t) (hs:starEach (e::es) X.env=(ay,eval e X.env)::starEach es X.env:=by rfl):PA X (e::es) (WT te t):=by intro pos pins s n H Q I h;rw[hs];show wpAny _ _ (spliced ((ay,eval e X.env)::backTo pos (starEach es X.env))) _ _ s;refine xN (thn (g pins s n H _ I h) λu b #[x,o,i,m,N]=>?_);exact thn (hr pos pins b n o _ i N) λk j #[f,c,r,p,J]=>#[x::f,c,r,.cons m p,J]
def A0n (t:TA):TE:=λi H Q=>t i H λo n=>o.length<=aB/\∀p,n p=ap->Q (.ref p) (upd n p (.tup o))
def A0o (t:TA):TE:=λi H Q=>t i H λo n=>o.length<=aB/\∀p,n p=ap->Q (.ref p) (upd n p (.lst o))
theorem kJ {B} (h:PA X es t):PE X (.Tuple es B pos) (A0n t):=by intro pins s c H Q I hq;refine wpAny_Tuple_spliced (thn (h pos pins s c H _ I hq) λk n #[p,o,i,r,z,q]=>#[by rw[<-r.length];exact z,?_]);have m:o n.heap.objs.size=none:=i.hok.fresh (zR _);refine#[.ref n.heap.objs.size,upd o n.heap.objs.size (.tup p),i.laid (t':=n.toks) (λb u e=>zW _ e) (zR _) ?_,rfl,q _ m];exact#[z,k,r,#[_,yZ _ rfl,rfl,_,rfl]]
theorem A0p (h:PA X es t):PE X (.List es pos) (A0o t):=by intro pins s c H Q I hq;refine wpAny_List_spliced (thn (h pos pins s c H _ I hq) λk n #[p,o,i,r,z,q]=>#[by rw[<-r.length];exact z,?_]);have m:o n.heap.objs.size=none:=i.hok.fresh (zR _);refine#[.ref n.heap.objs.size,upd o n.heap.objs.size (.lst p),i.laid (t':=n.toks) (λb u e=>zW _ e) (zR _) ?_,rfl,q _ m];exact#[z,k,0,r,yZ _ rfl]
end
abbrev Sp:=List V->Hp->VK->XK->Prop
abbrev CXT:=List im->Hp->ax->XK->aw->ax->Prop
structure Env0 (P:bh) (w:bd) (K:Frg) (mg:Str->Option aw) (base:ca) (A:bv) (outer:List im) (s:ax) (H:Hp):Prop where
 frames:A.frames=am outer
 mod:Mod K mg base
 bs:∀b o,base.get? b=am o->s.heap.get? b=am o/\H b=ap
 bsz:base.objs.size<=s.heap.objs.size
 funs:s.heap.FunFrames base outer
 frf:∀b∈frs outer,H b=ap
 hok:HOk P w H s.heap
 bare:g0 s.gens
def CE (outer:List im) (P:bh) (w:bd) (H:Hp) (s:ax) (Q:VK) (u:aw) (s':ax):Prop:=∃v H',s'.os=s.os/\g0 s'.gens/\Un (frs outer) [] H H' s.heap s'.heap/\HOk P w H' s'.heap/\RelV v u/\Q v H'
def CR (CX:CXT) (outer:List im) (P:bh) (w:bd) (H:Hp) (s:ax) (Q:VK) (E:XK) (r:Result) (s':ax):Prop:=
 match r with
 | .ok (.ret u)=>CE outer P w H s Q u s'
 | .ok _=>False
 | .error e=>CX outer H s E e s'
structure FnOk (P:bh) (w:bd) (K:Frg) (mg:Str->Option aw) (base:ca) (CX:CXT) (k:Nat) (f:Addr) (fd:ee) (ps:List Str) (sp:Sp):Prop where
 len:∀vs H Q E,sp vs H Q E->vs.length=ps.length
 run:∀(A:bv) (outer:List im) (s:ax) (H:Hp) (args:Args) (us:List aw) (vs:List V) (Q:VK) (E:XK),Room k A->Env0 P w K mg base A outer s H->BindsTo s fd args (ps.zip us)->Vals vs us->sp vs H Q E ->
   codeAny (model P w) A (.call (.ref f) args) (CR CX outer P w H s Q E) s
theorem Env0.make {K:Frg}(e:Env0 P w K mg base A outer s H) (C:Addr) (k:List aw) (S:List (Str×aw)) :
   Env0 P w K mg base (A.under (.builtin "type.__call__" #[.ref C::k,S])) outer s H:=#[by first | exact e.frames | (simpa [Around.under,Code.envs,Code.isFrame,pushEnvs] using e.frames),e.mod,e.bs,e.bsz,e.funs,e.frf,e.hok,e.bare]
section
variable {X:Cx}{pins:List (Addr×cr)}{σ:St}{H:Hp}{s s':ax}
theorem Inv.env0 (I:Inv X pins σ H s):Env0 X.prog X.w X.K X.mg X.base X.A X.stack s H:=#[I.ok.frames,I.ok.mod,I.bs,zN I.ok.bsz I.sz,I.stack,I.stkFree,I.hok,I.bare]
theorem Inv.after (I:Inv X pins σ H s) (h:CE X.stack X.prog X.w H s Q u s'):EP X pins σ Q u s':=by obtain⟨v,H',n,bare,un,hok,r,q⟩:=h;obtain⟨o,g,d,t,e⟩:=s';obtain rfl:e=s.os:=n;exact#[v,H',I.call (h':=o) (g':=g) (d':=d) (t':=t) (ch:=[]) un hok bare (λb z=>absurd z (by simp)),r,q]
end
def cJ (sp:Sp) (o:List V) (E:XK) (t:TA):TE:=λi H Q=>t i H λn e=>sp (n++o) e Q E
def Binds (K:Frg) (e:ee) (ps:List Str) (ds:List aw):Prop:=∀(s:ax) (k:List aw),K.In s.heap->(k++ds).length=ps.length->BindsTo s e #[k,[]] (ps.zip (k++ds))
theorem Binds.all {K:Frg}(h:∀k:List aw,k.length=ps.length->bindArgs e #[k,[]]=pure (ps.zip k)):Binds K e ps []:=λs k _ m=>by rw[a2Q] at m ⊢;exact .of_eq (h k m)
def ZW (CX:CXT) (X:Cx) (E:XK):Prop:=∀(pins:List (Addr×cr)) (t:St) (H:Hp) (s:ax) (e:aw) (s':ax),Inv X pins t H s->CX X.stack H s E e s'->X.xe e s'
section
theorem A0q {i:St}(F:FnOk X.prog X.w X.K X.mg X.base CX k f fd ps sp) (hr:Room k X.A) (hb:Binds X.K fd ps ds) (hd:Vals xj ds) (hx:ZW CX X E) (I:Inv X pins i H s) (r:Vals vs n) (h:sp (vs++xj) H Q E):wpAny (model X.prog X.w) X.A (call (.ref f) n) (EP X pins i Q) X.xe s:=by
 have b:Vals (vs++xj) (n++ds):=r.append hd;have g:(n++ds).length=ps.length:=by rw[<-b.length];exact F.len _ _ _ _ h
 refine wpAny_call (xM (F.run X.A X.stack s H #[n,[]] (n++ds) (vs++xj) Q E hr I.env0 (hb s n I.kIn g) b h) λr s' hq=>?_);cases r with
 | error e=>exact hx pins i H s e s' I hq
 | ok c=>
   cases c with
   | ret u=>exact I.after hq
   | next=>exact a6W hq
   | brk=>exact a6W hq
   | cont=>exact a6W hq
theorem rY{X:Cx}{CX:CXT}{k:Nat}{f:Addr}{fd:ee}{ps:List Str}{sp:Sp}{xj:List V}{ds:List aw}{E:XK}{x:Str}{p:eH}{pos:eH}{e:bn}{es:List bn}{t:TA} (F:FnOk X.prog X.w X.K X.mg X.base CX k f fd ps sp) (hr:Room k X.A) (hg:Gl X x) (c:X.mg x=am (.ref f)) (hk:a3W X.K (.ref f)=av) (hb:Binds X.K fd ps ds) (hd:Vals xj ds) (hx:ZW CX X E) (g:PA X (e::es) t) (i:(x==("__debug__":Str))=false:=by decide) (z:starEach (e::es) X.env=(ay,eval e X.env)::starEach es X.env:=by rfl) (b:(backTo pos (starEach es X.env)).any (·.1)=false:=by rfl) :
   PE X (.Call (.Name x p) (e::es) [] pos) (cJ sp xj E t):=by intro pins s j H Q I h;refine c0 (G5 I hg c ?_ i);refine b6K (h₀:=X.base) I.ok.mod.kin hk (thn (g pos pins s j H _ I h) λy v #[T,u,n,r,q]=>#[n.kIn,?_]) z b;exact A0q F hr hb hd hx n r q
end
structure FnScope (N P:List Str) (sc:fc):Prop where
 kind:sc.kind = .function
 co:sc.isCoroutine=ay
 gen:sc.isGenerator=ay
 nd:N.Nodup
 pre:N.take P.length=P
 par:∀x∈P,sc.names.lookup x=am .local\/sc.names.lookup x=am .cell
 nofree:∀y∈sc.names,y.2≠.free
theorem SN {ga:Str->Option ek}:∀{binds:List (Str×aw)}{m:Str->Option aw},(∀v,(x,v)∉binds)->bindL ga binds m x=m x
 | [],_,_=>rfl
 | (n,v)::r,m,h=>by
   unfold bindL;rw[SN λw G=>h w (yV _ G)];split
   . have:x≠n:=by rintro rfl;exact h v a0Z
     simp[this]
   . rfl
theorem SO {ga:Str->Option ek}:∀{binds:List (Str×aw)}{m:Str->Option aw},(∀v,(x,v)∉binds)->bindC ga binds m x=m x
 | [],_,_=>rfl
 | (n,v)::r,m,h=>by
   unfold bindC;rw[SO λw G=>h w (yV _ G)];split;. rfl
   . have:x≠n:=by rintro rfl;exact h v a0Z
     simp[this]
theorem SQ {ga:Str->Option ek}:∀{P:List Str}{vs:List aw}{i:Nat}{m:Str->Option aw},P.Nodup->P[i]?=am x->vs[i]?=am v->ga x=am .local ->
   bindL ga (P.zip vs) m x=am v
 | [],_,_,_,_,h,_,_=>by simp at h
 | _::_,[],_,_,_,_,h,_=>by simp at h
 | p::P,w::vs,0,m,nd,h1,e,hk=>by simp at h1 e;subst h1;subst e;show bindL ga ((p,w)::P.zip vs) m p=_;unfold bindL;rw[SN λv t=>(xU.mp nd).1 (b3J t).1,if_pos hk];simp
 | p::P,w::vs,i+1,m,nd,h1,e,hk=>by show bindL ga ((p,w)::P.zip vs) m x=_;unfold bindL;exact SQ (i:=i) (xU.mp nd).2 (by simpa using h1) (by simpa using e) hk
theorem SR {ga:Str->Option ek}:∀{P:List Str}{vs:List aw}{i:Nat}{m:Str->Option aw},P.Nodup->P[i]?=am x->vs[i]?=am v->ga x≠am .local ->
   bindC ga (P.zip vs) m x=am v
 | [],_,_,_,_,h,_,_=>by simp at h
 | _::_,[],_,_,_,_,h,_=>by simp at h
 | p::P,w::vs,0,m,nd,h1,e,hk=>by simp at h1 e;subst h1;subst e;show bindC ga ((p,w)::P.zip vs) m p=_;unfold bindC;rw[SO λv t=>(xU.mp nd).1 (b3J t).1,if_neg hk];simp
 | p::P,w::vs,i+1,m,nd,h1,e,hk=>by show bindC ga ((p,w)::P.zip vs) m x=_;unfold bindC;exact SR (i:=i) (xU.mp nd).2 (by simpa using h1) (by simpa using e) hk
def start (N:List Str) (vs:List V):St:=vs.map am++b2V (N.length - vs.length) ap
def IA (CX:CXT) (P:bh) (w:bd) (K:Frg) (mg:Str->Option aw) (base:ca) (N:List Str) (qual:Str) (scope:fc) (f:Addr) (cd:aw) (A:bv) (outer:List im) (s:ax) (H:Hp) (E:XK):Cx where
 prog:=P
 w:=w
 K:=K
 mg:=mg
 base:=base
 A:=A.deeper (gc qual scope s.heap.objs.size f cd)
 N:=N
 s₀:=s
 H₀:=H
 env:=gc qual scope s.heap.objs.size f cd
 outer:=outer
 stack:=gc qual scope s.heap.objs.size f cd::outer
 ex:=[]
 calm:=av
 fn:=λ_=>av
 pn:=[]
 xe:=λe s'=>wpAny (model P w) (A.deeper (gc qual scope s.heap.objs.size f cd)) (leaving (gc qual scope s.heap.objs.size f cd) e) (λ_ ye=>CX outer H s E e ye) (λe' ye=>CX outer H s E e' ye) s'
theorem WU {y:fc}(h:y.names.lookup x=am .cell):∃c,(cellsFrom n y.names []).lookup x=am c:=by have q:=b9X y.names n [] (.inl h);exact xX.mp q
theorem SS {K:Frg} (S:FnScope N ps scope) (hd:A.handled=ap) (O:Env0 P w K mg base A outer s H) (D:vs.length=ps.length) (r:Vals vs m) (x:InCallC s s.heap.objs.size (bindL (gc qual scope s.heap.objs.size f cd).kindOf (ps.zip m) λ_=>ap) (cellsFrom (s.heap.objs.size+1) scope.names []) (bindC (gc qual scope s.heap.objs.size f cd).kindOf (ps.zip m) λ_=>ap) g) :
   Inv (IA CX P w K mg base N qual scope f cd A outer s H E) [] (start N vs) H g:=by
 have I:ps.length<=N.length:=by have:=congrArg b9J S.pre;rw[a1X] at this;lia
 obtain⟨h1,B,rfl,hk⟩:=x.done;have o:∀b:Addr,b∉(IA CX P w K mg base N qual scope f cd A outer s H E).ex:=λb z=>absurd (show b∈([]:List Addr) from z) (by simp);refine#[#[O.mod,S.kind,rfl,rfl,zR _,λy z c h1 t=>?_,λy hy=>?_,λy c _ h=>?_,λ_=>hd,Around.frames_deeper O.frames,.inr #[rfl,rfl],λb z=>absurd z (o b),O.bs,O.bsz,λb _ _=>o b,λb z=>absurd z (o b),O.funs,O.frf],
   rfl,O.bare,Un.kept hk,#[_,x.toInCall.ns,λi y v h1 t M=>?_],λy c h=>#[_,x.cell y c h],O.hok.fresh (zR _),λy c h=>?_,λp hp=>absurd (show p∈([]:List (Addr×cr)) from hp) (by simp),O.hok.kept hk,?_]
 . exact name_of_addr x.apart (a5W h1) (a5W t)
 . have hy:scope.names.lookup y=am .cell\/scope.names.lookup y=am .free:=hy;rcases hy with hy | hy;. exact WU hy
   . exact absurd rfl (S.nofree _ (a5W hy))
 . exact xQ (x.above y c (a5W h))
 . have hi:i < vs.length:=by
     unfold start at t;by_cases hi:i < vs.length;. exact hi
     . rw[yP (by simpa using hi)] at t;rw[List.getElem?_replicate] at t;split at t <;> cases t
   have j:vs[i]?=am v:=by
     unfold start at t;rw[yQ (by simpa using hi),zF] at t;cases e:vs[i]? with
     | none=>rw[e] at t;cases t
     | some a=>rw[e] at t;cases t;rfl
   obtain⟨u,hu,T⟩:=r.get j;have hp:ps[i]?=am y:=by rw[<-S.pre,List.getElem?_take_of_lt (by lia)];exact h1
   have Y:ps.Nodup:=by rw[<-S.pre];exact S.nd.sublist (List.take_sublist _ _)
   refine#[u,T,?_];rcases S.par y (yN hp) with k | k;. exact .inl #[k,SQ Y hp hu k]
   . obtain⟨c,e⟩:=WU (n:=s.heap.objs.size+1) k;refine .inr #[.inl k,c,e,?_];have q:=x.cell y c e;rw[SR Y hp hu (by show scope.names.lookup y≠_;rw[k];decide)] at q;exact q
 . exact O.hok.fresh (xQ (x.above y c (a5W h)))
 . unfold start;show _=N.length;rw[yY,zX,List.length_replicate];lia
theorem xS {CX:CXT}{P:bh}{w:bd}{K:Frg}{mg:Str->Option aw}{base:ca}{k:Nat}{f:Addr}{name qual:Str}{params:Arguments}{body:List ew}{scope:fc}{p kV doc z cdv ct U:aw}{c X:Option Addr} {osl:Array (Option aw)}{N ps:List Str}{sp:Sp}(L:K.lookup f=am #[U,X,.func (a5Q name qual params body scope p kV doc z c cdv ct),osl]) (T:a9K K cdv qual=av) (S:FnScope N ps scope) (len:∀vs H Q E,sp vs H Q E->vs.length=ps.length) (h:∀(A:bv) (outer:List im) (s:ax) (H:Hp) (vs:List V) (Q:VK) (E:XK),Room k (A.deeper (gc qual scope s.heap.objs.size f cdv))->sp vs H Q E ->∃t,PSs (IA CX P w K mg base N qual scope f cdv A outer s H E) body t/\t { nx:=λ_ H'=>Q .non H',rt:=Q } (start N vs) H) :
   FnOk P w K mg base CX (k+1) f (a5Q name qual params body scope p kV doc z c cdv ct) ps sp:=by
 refine#[len,λA outer s H args Z vs Q E hr O hb r D=>?_];have B:=len _ _ _ _ D;have KX:K.In s.heap:=O.mod.kin.keeps λb o e=>(O.bs b o e).1;have lim:s.heap.NoLimit:=O.mod.nolimit.keeps λb o e=>(O.bs b o e).1;have Y:∀y∈ps.zip Z,scope.names.lookup y.1=am .local\/(scope.names.lookup y.1=am .cell/\((cellsFrom (s.heap.objs.size+1) scope.names []).lookup y.1).isSome=av):=λ#[n,v] hy=>by
   rcases S.par n (b3J hy).1 with q | q;. exact .inl q
   . exact .inr #[q,b9X _ _ _ (.inl q)]
 refine codeAny_call_function hr.depth (KX _ _ L) rfl S.co S.gen rfl (PySem.W.codeRec_of KX T) (hb _ _ _ _ ?_);refine wpAny_newFunctionEnv_cells S.kind Y λenv M g x=>?_;subst M;refine#[lim.keeps x.toInCall.keep,codeAny_func ?_];obtain⟨t,G,hq⟩:=h A outer s H vs Q E (hr.deeper _) D;have I:Inv (IA CX P w K mg base N qual scope f cdv A outer s H E) [] (start N vs) H g:=SS S hr.hd O B r x;refine bc (G [] g (start N vs) H _ I hq) (λj s' hs=>?_) λe s' hs=>hs;have fin:∀{i:St}{H':Hp}{v:V}{u:aw},Inv (IA CX P w K mg base N qual scope f cdv A outer s H E) [] i H' s'->RelV v u->Q v H'->CE outer P w H s Q u s':=
   λ{i H' v u} J m q=>#[v,H',J.os,J.bare,J.base,J.hok,m,q]
 cases j with
 | ret u=> obtain⟨v,i,H',J,m,q⟩:=hs;exact fin J m q
 | next=> obtain⟨i,H',J,q⟩:=hs;exact fin (v:=V.non) (u:=a0V) J rfl q
 | brk=> obtain⟨_,_,_,q⟩:=hs;exact a6W q
 | cont=> obtain⟨_,_,_,q⟩:=hs;exact a6W q
section
variable {X:Cx}{x:Str}{p pos:eH}{e:bn}{es:List bn}{t:TA}{id T:String}{r:List V->Hp->VK->Prop}
def tCB (r:List V->Hp->VK->Prop) (t:TA):TE:=λi H Q=>t i H λo n=>r o n Q
theorem DO (hc:C7 X (.builtin id) r) (hg:Gl X x) (c:X.mg x=ap) (f:gg x=am (.builtin id)) (g:PA X (e::es) t) (hn:x ≠ "__name__" := by decide) (m:(x==("__debug__":Str))=false:=by decide)
   (z:starEach (e::es) X.env=(ay,eval e X.env)::starEach es X.env:=by rfl) (b:(backTo pos (starEach es X.env)).any (·.1)=false:=by rfl):PE X (.Call (.Name x p) (e::es) [] pos) (tCB r t):=by intro pins s n H Q I h;refine c0 (HY I hg c f ?_ hn m);exact PyProof.Rows.callWith_builtin1 (thn (g pos pins s n H _ I h) λq k #[u,o,i,j,N]=>hc pins k n o u q Q i j N) z b
theorem fZ (hc:C7 X (.type T) r) (hg:Gl X x) (c:X.mg x=ap) (f:gg x=am (.type T)) (g:PA X (e::es) t) (hn:x ≠ "__name__" := by decide) (m:(x==("__debug__":Str))=false:=by decide)
   (z:starEach (e::es) X.env=(ay,eval e X.env)::starEach es X.env:=by rfl) (b:(backTo pos (starEach es X.env)).any (·.1)=false:=by rfl):PE X (.Call (.Name x p) (e::es) [] pos) (tCB r t):=by intro pins s n H Q I h;refine c0 (HY I hg c f ?_ hn m);exact xG (thn (g pos pins s n H _ I h) λq k #[u,o,i,j,N]=>hc pins k n o u q Q i j N) z b
end
end L2
namespace HT
open PySem PyProof.Rows
section
def sIx (n d:Nat):Option Int->Nat
 | none=>d
 | some v=>if v < 0 then (v+(n:Int)).toNat else min v.toNat n
theorem sIx_nat (n d k:Nat):sIx n d (am (k:Int))=min k n:=by show(if (k:Int) < 0 then ((k:Int)+(n:Int)).toNat else min (k:Int).toNat n)=min k n;rw[if_neg (by lia),a2W]
theorem A0r (n d:Nat) (hd:d<=n) (o:Option Int):sIx n d o<=n:=by
 cases o with
 | none=>exact hd
 | some v=>
   show(if v < 0 then (v+(n:Int)).toNat else min v.toNat n)<=n;by_cases e:v < 0;. rw[if_pos e];lia
   . rw[if_neg e];exact Nat.min_le_right _ _
theorem cK (v:Int) (n d:Nat):(if v < 0 then max (v+(n:Int)) 0 else min v (n:Int))=((sIx n d (am v):Nat):Int):=by
 show(if v < 0 then max (v+(n:Int)) 0 else min v (n:Int))=(((if v < 0 then (v+(n:Int)).toNat else min v.toNat n):Nat):Int);by_cases e:v < 0;. simp only[if_pos e];lia
 . simp only[if_neg e];lia
theorem ZX (I hi:Option Int) (n:Nat):b5W I hi 1 (n:Int)=(((sIx n 0 I:Nat):Int),((sIx n n hi:Nat):Int)):=by
 have h1:¬((1:Int) < 0):=by lia
 unfold b5W;simp only[h1,if_false];refine Prod.ext ?_ ?_
 . cases I with
   | none=>rfl
   | some v=>exact cK v n 0
 . cases hi with
   | none=>rfl
   | some v=>exact cK v n n
theorem ZY (i j:Nat):b0K (i:Int) (j:Int) 1=j - i:=by
 unfold b0K;have h1:(1:Int) > 0:=by lia
 simp only[h1,if_true,Int.ediv_one];split <;> lia
theorem PR (p:iD v o) (h:Q o s):wpAny (model prog w) A (Builtin.Slice.slicePartIndex v) Q E s:=by
 cases p with
 | none=>exact slicePart_none h
 | int i t=>exact slicePart_int h
theorem GW {n:Nat}(hs:s.heap.IsSliceOf sl e L .none) (t:iD e I) (o:iD L hi) (h:Q (((sIx n 0 I:Nat):Int),1,sIx n n hi - sIx n 0 I) s):wpAny (model prog w) A (Builtin.Slice.sliceApplied (.ref sl) (pure (n:Int))) Q E s:=by obtain⟨r,S,i,y⟩:=id hs;unfold Builtin.Slice.sliceApplied Builtin.Slice.sliceFields;refine zZ (zZ (bf S y (x:=e) rfl (zZ (bf S y (x:=L) rfl (zZ (bf S y (x:=.none) rfl (zY ?_)))))));refine zZ (slicePart_none ?_);show wpAny _ _ (if ((1:Int)==0)=av then _ else _) _ _ s;rw[if_neg (by decide)];refine zZ (PR t (zZ (PR o (zZ (zY ?_)))));show wpAny _ _ (match b5W I hi 1 (n:Int) with | (I,hi)=>pure (I,(1:Int),b0K I hi 1)) _ _ s;rw[ZX I hi n];show wpAny _ _ (pure (((sIx n 0 I:Nat):Int),(1:Int),b0K ((sIx n 0 I:Nat):Int) ((sIx n n hi:Nat):Int) 1)) _ _ s;rw[ZY];exact zY h
theorem kK (xs:Array aw) (i k:Nat):((a0K k).filterMap λ(m:Nat)=>xs[((i:Int)+(m:Int)*1).toNat]?).toArray=((xs.toList.drop i).take k).toArray:=by
 have e:(λ(m:Nat)=>xs[((i:Int)+(m:Int)*1).toNat]?)=λm=>xs[i+m]?:=by
   funext m;have:((i:Int)+(m:Int)*1).toNat=i+m:=by lia
   rw[this]
 rw[e];have:=pick_run xs i k;rw[List.filterMap_map] at this;have h:((λx=>xs[x]?)∘λx=>i+x)=λm=>xs[i+m]?:=rfl;rw[h] at this;rw[this]
theorem getItem_tuple_cut (u:IsTup s.heap t items) (hs:s.heap.IsSliceOf sl e L .none) (i:iD e I) (y:iD L hi) (G:¬(sIx items.size 0 I=0/\sIx items.size items.size hi=items.size)) (h:Q (.ref s.heap.objs.size) { s with heap:=s.heap.push { cls:=.type "tuple", data:=.seq ((items.toList.drop (sIx items.size 0 I)).take (sIx items.size items.size hi - sIx items.size 0 I)).toArray } }) (hsz:items.size<=aB):wpAny (model prog w) A (gy (.ref t) (.ref sl)) Q E s:=by
 have U:sizeOk (.seq ((items.toList.drop (sIx items.size 0 I)).take (sIx items.size items.size hi - sIx items.size 0 I)).toArray):=by show((items.toList.drop (sIx items.size 0 I)).take (sIx items.size items.size hi - sIx items.size 0 I)).toArray.size<=aB;rw[zJ,a1X,b3X,a4W];lia
 have b:sIx items.size items.size hi<=items.size:=A0r _ _ (zR _) hi;obtain⟨o,S,n,p⟩:=id hs;have N:s.TypeIs (.ref sl) "slice" := #[o,S,n]
 unfold gy;try with_reducible refine bq ?_
 first | refine zZ (zY ?_) | skip
 refine zZ (wpAny_sequenceKey u.typeIs (by decide) ?_);refine zZ (wpAny_callSpecial?_slot (name:=a0Q "__getitem__") u.typeIs a8Q (ce a8Q u.typeIs entry_tuple_getitem ?_ (args_tuple_getitem _ _)));show wpAny _ _ (Builtin.Tuple.tupleItemsOf (.ref t) >>= _) _ _ s;refine zZ (tupleItemsOf_ u ?_);refine zZ (hY N ?_);rw[if_pos (by decide)];refine zZ (GW hs i y ?_);have r:¬((((sIx items.size 0 I:Nat):Int)==0&&(1:Int)==1&&(sIx items.size items.size hi - sIx items.size 0 I)==items.size)=av):=by intro q;rw[a1Z,a1Z] at q;have c:((sIx items.size 0 I:Nat):Int)=0:=eq_of_beq q.1.1;have J:sIx items.size items.size hi - sIx items.size 0 I=items.size:=eq_of_beq q.2;exact G #[by lia,by lia]
 show wpAny _ _ (if (((sIx items.size 0 I:Nat):Int)==0&&(1:Int)==1&&(sIx items.size items.size hi - sIx items.size 0 I)==items.size)=av then _ else _) _ _ s;rw[if_neg r,kK];first
   | exact zZ (m:=b1Q _) (xL (zY #[_,rfl,zY h]) U)
   | exact zZ (m:=b1Q _) (xL (zZ (zY (zY #[_,rfl,zY h]))) U)
   | exact zZ (zZ (m:=b1Q _) (xL (zY (zY #[_,rfl,zY h])) U))
   | exact zZ (zZ (m:=b1Q _) (xL (zY #[_,rfl,zY h]) U))
end
end HT
namespace L2
open PySem PySem.Spec PyProof.Rows
abbrev TO:=St->Hp->(Option Int->Hp->Prop)->Prop
def PO (X:Cx) (e:Option bn) (t:TO):Prop:=∀(pins:List (Addr×cr)) (s:ax) (n:St) (H:Hp) (Q:Option Int->Hp->Prop),Inv X pins n H s->t n H Q ->
   wpAny (model X.prog X.w) X.A (evalPart e X.env) (λu s'=>∃o H',Inv X pins n H' s'/\iD u o/\Q o H') X.xe s
def cL:TO:=λ_ H Q=>Q ap H
def xV (t:TE):TO:=λn H Q=>t n H λx e=>∃i,x = .int i/\Q (am i) e
section
variable {X:Cx}{e:bn}{te:TE}{lo hi:Option bn}{tl th:TO}{pos p2:eH}
theorem rZ:PO X ap cL:=by intro pins s t H Q I h;rw[evalPart_none];exact zY #[ap,H,I,.none,h]
theorem sC (h:PE X e te):PO X (am e) (xV te):=by intro pins s m H Q I G;rw[evalPart_some];refine thn (h pins s m H _ I G) λu p #[x,n,o,r,N]=>?_;obtain⟨i,rfl,q⟩:=N;obtain⟨t,rfl⟩:=r;exact#[am i,n,o,.int i t,q]
def SlR (X:Cx) (r:V->Option Int->Option Int->Hp->VK->Prop):Prop:=∀(pins:List (Addr×cr)) (s:ax) (n:St) (H:Hp) (x:V) (v t L:aw) (lo hi:Option Int) (sl:Addr) (Q:VK),Inv X pins n H s->RelV x v->s.heap.IsSliceOf sl t L .none->iD t lo->iD L hi->r x lo hi H Q ->∃T id,e5 (.type T) "__getitem__"=pure (am (.builtin id))/\s.TypeIs v T/\wpAny (model X.prog X.w) X.A (gy v (.ref sl)) (EP X pins n Q) X.xe s
theorem SlR.or (h:SlR X r) (h':SlR X J):SlR X (λx lo hi H Q=>r x lo hi H Q\/J x lo hi H Q):=by
 intro pins s i H x v n o lo hi sl Q I L hs t y q;rcases q with q | q;. exact h pins s i H x v n o lo hi sl Q I L hs t y q
 . exact h' pins s i H x v n o lo hi sl Q I L hs t y q
def tSl (r:V->Option Int->Option Int->Hp->VK->Prop) (te:TE) (tl th:TO):TE:=λt H Q=>te t H λx n=>tl t n λl c=>th t c λu m=>r x l u m Q
theorem kL {r:V->Option Int->Option Int->Hp->VK->Prop}(hr:SlR X r) (z:PE X e te) (k:PO X lo tl) (hu:PO X hi th):PE X (.Subscript e (.Slice lo hi ap p2) pos) (tSl r te tl th):=by intro pins s n H Q I h;refine Subscript_ (thn (z pins s n H _ I h) λv B #[x,i,p,D,S]=>?_);refine wpAny_Slice (thn (k pins B n i _ p S) λo U #[l,c,f,N,J]=>thn (hu pins U n c _ f J) λL t #[u,m,M,O,G]=>?_);rw[evalPart_none];refine zY ?_;have g:Inv X pins n m { t with heap:=t.heap.push { cls:=.type "slice", data:=.fields (y9 [o,L,.none]) } }:=M.kept (t':=t.toks) λb Y q=>zW _ q;obtain⟨T,id,j,y,hg⟩:=hr pins { t with heap:=t.heap.push { cls:=.type "slice", data:=.fields (y9 [o,L,.none]) } } n m x v o L l u t.heap.objs.size Q g D (Heap.IsSliceOf.new ..) N O G;show wpAny (model X.prog X.w) X.A (subscriptTail e (.Slice lo hi ap p2) v (.ref t.heap.objs.size)) (EP X pins n Q) X.xe { t with heap:=t.heap.push { cls:=.type "slice", data:=.fields (y9 [o,L,.none]) } };exact tail_any (ops:=[.ref t.heap.objs.size,v]) y j hg (by with_unfolding_all rfl)
def KY (xs:List V) (lo hi:Option Int):List V:=(xs.drop (HT.sIx xs.length 0 lo)).take (HT.sIx xs.length xs.length hi - HT.sIx xs.length 0 lo)
theorem OF (xs:List V) (lo hi:Option Int):(KY xs lo hi).length<=xs.length:=by unfold KY;rw[a1X,b3X];lia
def A3y (K:Frg):V->Option Int->Option Int->Hp->VK->Prop:=λx lo hi H Q=>∃a t,x = .ref a/\SqT K H a t /\
 ¬(HT.sIx t.length 0 lo=0/\HT.sIx t.length t.length hi=t.length)/\∀p,H p=ap->Q (.ref p) (upd H p (.tup (KY t lo hi)))
theorem A0s:SlR X (A3y X.K):=by
 intro pins s j H x v f g lo hi sl Q I L hs m p h;obtain⟨a,t,rfl,hx,G,q⟩:=h;cases L;obtain⟨y,r,u,i⟩:=I.tuple hx;have n:y.toArray.size=t.length:=by rw[zJ];exact r.length.symm
 refine#["tuple", _,PyProof.Rows.slot_tuple_getitem.lookup,u.typeIs,?_];refine HT.getItem_tuple_cut u hs m p (by rw[n];exact G) ?_ (by rw[n];exact i);rw[n];refine#[.ref s.heap.objs.size,_,I.laid (t':=s.toks) (o:=.tup (KY t lo hi)) (λb c q=>zW _ q) (zR _) ?_,rfl,q _ (I.hok.fresh (zR _))];exact#[zN (OF t lo hi) i,_,(r.drop (HT.sIx t.length 0 lo)).take (HT.sIx t.length t.length hi - HT.sIx t.length 0 lo),IsTup.new _ _]
end
def ixN (n:Nat) (i:Int):Option Nat:=if 0<=i then (if i < n then am i.toNat else ap) else if -(n:Int)<=i then am (i+n).toNat else ap
def atI {S:Type}(xs:List S) (i:Int):Option S:=(ixN xs.length i).bind λj=>xs[j]?
theorem cM (h:ixN n i=am j):seqIndex? i n=am j/\j < n/\-(n:Int)<=i/\i < n:=by
 unfold ixN at h;by_cases h0:0<=i
 . rw[if_pos h0] at h;by_cases h1:i < n;. rw[if_pos h1] at h;have e:i.toNat=j:=Option.some.inj h;exact#[by rw[seqIndex_of h0 h1,e],by lia,by lia,h1]
   . rw[if_neg h1] at h;cases h
 . rw[if_neg h0] at h;by_cases h1 : -(n:Int)<=i;. rw[if_pos h1] at h;have e:(i+n).toNat=j:=Option.some.inj h;exact#[by rw[seqIndex_neg (by lia) h1,e],by lia,h1,by lia]
   . rw[if_neg h1] at h;cases h
theorem UK {v:S}(h:atI xs i=am v):∃j,seqIndex? i xs.length=am j/\xs[j]?=am v/\j < xs.length/\-(xs.length:Int)<=i/\i < xs.length:=by
 unfold atI at h;cases e:ixN xs.length i with
 | none=>rw[e] at h;cases h
 | some j=> rw[e] at h;obtain⟨h1,t,n,o⟩:=cM e;exact#[j,h1,h,t,n,o]
theorem AI {S:Type}{xs:List S}{j:Nat}{v:S}(h:xs[j]?=am v):atI xs (j:Int)=am v:=by
 have t:j < xs.length:=(yT.mp h).1;have e:ixN xs.length (j:Int)=am j:=by unfold ixN;rw[if_pos (by lia),if_pos (by lia)];simp
 unfold atI;rw[e];exact h
def sD (b:bn):Prop:=∀o i,subscripted b ay o i=operate [o,i] (gy o i)
def IxR (X:Cx) (r:R2):Prop:=∀(value slice:bn) (pins:List (Addr×cr)) (s:ax) (e:St) (H:Hp) (x y:V) (v u:aw) (Q:VK),Inv X pins e H s->RelV x v->RelV y u->r x y H Q ->
   subscripted slice ay v u=operate [v,u] (gy v u)->wpAny (model X.prog X.w) X.A (subscriptTail value slice v u) (EP X pins e Q) X.xe s
def MtR (X:Cx) (id:String) (r:V->List V->Hp->VK->Prop):Prop:=∀(pins:List (Addr×cr)) (s:ax) (e:St) (H:Hp) (x:V) (t:List V) (v:aw) (k:List aw) (Q:VK),Inv X pins e H s->RelV x v->Vals t k->r x t H Q ->
   wpAny (model X.prog X.w) X.A (call (.builtin id) (v::k)) (EP X pins e Q) X.xe s
section
variable {X:Cx}{a b:bn}{ta tb:TE}{pos:eH}
theorem IxR.or (h:IxR X r) (h':IxR X J):IxR X (λx y H Q=>r x y H Q\/J x y H Q):=by
 intro value slice pins s e H x y v u Q I L Z q hs;rcases q with q | q;. exact h value slice pins s e H x y v u Q I L Z q hs
 . exact h' value slice pins s e H x y v u Q I L Z q hs
theorem A2s {r:R2}(hr:IxR X r) (g:PE X a ta) (hb:PE X b tb) (hs:sD b):PE X (.Subscript a b pos) (tOp r ta tb):=by intro pins s n H Q I h;exact Subscript_ (A0b g hb I h λv u t x y c e L Z q=>hr a b pins t n c x y v u Q e L Z q (hs _ _))
def sE (K:Frg):R2:=λx y H Q=>∃p t i v,x = .ref p/\y = .int i/\SqL K H p t/\atI t i=am v/\Q v H
def A0t (K:Frg):R2:=λx y H Q=>∃p t i v,x = .ref p/\y = .int i/\SqT K H p t/\atI t i=am v/\Q v H
def A0u:R2:=λx y H Q=>∃z i c,x = .str z/\y = .int i/\z.length<=aB/\atI z.cps.toList i=am c/\Q (.str #[(y9 [c])]) H
theorem sF:IxR X (sE X.K):=by
 intro value slice pins s m H x y v u Q I L Z h hs;obtain⟨p,D,i,z,rfl,rfl,hq,T,q⟩:=h;cases L;obtain⟨t,rfl⟩:=Z;obtain⟨c,r,n,M⟩:=I.list hq;obtain⟨j,h1,f,S,g,k⟩:=UK T;obtain⟨w,o,O⟩:=r.get f;have N:=r.length;have hn:=PN;have fin:EP X pins m Q w s:=#[z,H,I,O,q]
 by_cases h0:0<=i
 . have e:i.toNat=j:=by rw[seqIndex_of h0 k] at h1;exact Option.some.inj h1
   exact item_listR n.isList h0 (by lia) (by rw[e];simpa using o) fin hs
 . have e:(i+(c.toArray.size:Int)).toNat=j:=by rw[seqIndex_neg (by lia) g] at h1;rw[zJ,<-N];exact Option.some.inj h1
   exact subscriptTail_builtinR (x:=w) n.isList.typeIs slot_list_getitem.lookup (wpAny_getItem_list_neg (Q:=λr s'=>r=w/\EP X pins m Q r s') n.isList (by lia) (by rw[zJ] <;> lia) (by lia) (by rw[e];simpa using o) #[rfl,fin]) hs
theorem A0v:IxR X (A0t X.K):=by
 intro value slice pins s n H x y v u Q I L Z h hs;obtain⟨p,M,i,z,rfl,rfl,hq,c,q⟩:=h;cases L;obtain⟨t,rfl⟩:=Z;obtain⟨k,r,e,S⟩:=I.tuple hq;obtain⟨j,h1,m,T,N,O⟩:=UK c;obtain⟨w,o,g⟩:=r.get m;have f:=r.length;have hn:=PN;have fin:EP X pins n Q w s:=#[z,H,I,g,q]
 exact subscriptTail_builtinR (x:=w) e.typeIs slot_tuple_getitem.lookup (getItem_tuple (j:=j) (Q:=λr s'=>r=w/\EP X pins n Q r s') e (by lia) (by lia) (by rw[zJ,<-f];exact h1) (by simpa using o) #[rfl,fin]) hs
theorem A0w:IxR X A0u:=by
 intro value slice pins s N H x y v u Q I L Z h hs;obtain⟨z,i,c,rfl,rfl,k,p,q⟩:=h;obtain⟨t,rfl⟩:=L;obtain⟨T,rfl⟩:=Z;obtain⟨j,h1,o,g,r,m⟩:=UK p;have f:z.cps.toList.length=z.length:=by simp[Str.length]
 rw[f] at h1 r m;have hn:=PN;exact tail_any (typeIs_str s z t) slot_str_getitem.lookup (getItem_str (c:=c) (by
   have e:decide (i < -(2 ^ 63:Int))=false:=decide_eq_false (by lia);have n:decide (i≥2 ^ 63)=false:=decide_eq_false (by lia);rw[e,n,Bool.or_false]) (by rw[h1];simpa using o) #[.str #[(y9 [c])],H,I.tok _,#[_,rfl],q]) hs
theorem ZZ (y:List aw) (n j:Nat) (u:aw):a5J (·.setIfInBounds j u) { cls:=.type "list", data:=.seq y.toArray n }={ cls:=.type "list", data:=.seq (y.set j u).toArray n }:=by simp[a5J]
theorem Inv.lst {pins:List (Addr×cr)}{t:St}{H:Hp}{s:ax}{p:Addr}{xs:List V}(I:Inv X pins t H s) (h:H p=am (.lst xs)) : ∃(y:List aw) (n:Nat),Vals xs y/\s.heap.get? p=am { cls:=.type "list", data:=.seq y.toArray n }/\xs.length<=sizeLine:=by obtain⟨z,y,n,r,e⟩:=I.hok p _ h;exact#[y,n,r,e,z]
theorem Inv.lstUpd {pins:List (Addr×cr)}{i:St}{H:Hp}{s:ax}{p:Addr}{xs ys:List V}{y its':List aw}{n z:Nat}{f:cr->cr}(I:Inv X pins i H s) (h:H p=am (.lst xs)) (ho:s.heap.get? p=am { cls:=.type "list", data:=.seq y.toArray n }) (o:f { cls:=.type "list", data:=.seq y.toArray n }={ cls:=.type "list", data:=.seq its'.toArray z }) (r:Vals ys its') (hz:ys.length<=aB) (t:Nat) :
   Inv X pins i (upd H p (.lst ys)) { s with heap:=s.heap.update p f,toks:=t }:=by
 have e:(s.heap.update p f).get? p=am { cls:=.type "list", data:=.seq its'.toArray z }:=by rw[a3Q f ho (by rw[o] <;> rfl),o]
 refine I.write (x:=p) (e:=p) (by rw[h];trivial) (.inl rfl) (λb u hb q=>(yC _ _ (a4K hb)).trans q) #[_,e] ?_;exact#[hz,its',z,r,e]
def yA:V->V->V->Hp->(Hp->Prop)->Prop:=λo i v H Q=>∃p t k j,o = .ref p/\i = .int k/\H p=am (.lst t)/\ixN t.length k=am j/\Q (upd H p (.lst (t.set j v)))
theorem kM:A2l X yA:=by
 intro pins s S H o i v B D u Q I T z N h;obtain⟨p,O,k,j,rfl,rfl,hp,g,q⟩:=h;cases T;obtain⟨t,rfl⟩:=z;obtain⟨y,n,r,ho,x⟩:=I.lst hp;obtain⟨h1,M,c,f⟩:=cM g;have m:=r.length;have hn:=PN;have e:Inv X pins S (upd H p (.lst (O.set j v))) { s with heap:=s.heap.update p (a5J (·.setIfInBounds j u)) }:=
   I.lstUpd hp ho (ZZ y n j u) (r.set N j) (by rw[List.length_set];exact x) s.toks;by_cases h0:0<=k
 . have hk:k.toNat=j:=by rw[seqIndex_of h0 f] at h1;exact Option.some.inj h1
   exact PySem.W.ki_setAt ho h0 (by lia) (by rw[zJ,<-m];exact f) (by rw[hk];exact#[_,e,q])
 . have hk:(k+(y.toArray.size:Int)).toNat=j:=by rw[seqIndex_neg (by lia) c] at h1;rw[zJ,<-m];exact Option.some.inj h1
   exact PySem.W.ki_setBack ho (by lia) (by rw[zJ,<-m];exact c) (by lia) (by rw[hk];exact#[_,e,q])
theorem UL (I hi:Option Int) (n:Nat):(fy I hi ap n).1=((HT.sIx n 0 I:Nat):Int)/\(fy I hi ap n).2.1=((HT.sIx n n hi:Nat):Int)/\(fy I hi ap n).2.2=1:=by
 refine#[?_,?_,rfl]
 . cases I with
   | none=>simp[fy,HT.sIx]
   | some i=>
     simp only[fy,HT.sIx,Option.getD_none,show(1:Int) > 0 by decide,if_true];by_cases h:i < 0;. simp only[h,if_true] <;> lia
     . simp only[h,if_false] <;> lia
 . cases hi with
   | none=>simp[fy,HT.sIx]
   | some i=>
     simp only[fy,HT.sIx,Option.getD_none,show(1:Int) > 0 by decide,if_true];by_cases h:i < 0;. simp only[h,if_true] <;> lia
     . simp only[h,if_false] <;> lia
theorem SA (y:List aw) (I hi:Option Int):slicePick y.toArray I hi ap=((y.drop (HT.sIx y.length 0 I)).take (HT.sIx y.length y.length hi - HT.sIx y.length 0 I)).toArray:=by obtain⟨h1,e,t⟩:=UL I hi y.toArray.size;unfold slicePick;rw[h1,e,t];simp only[sliceRange_one,pick_run,zJ] <;> rfl
def A0x (K:Frg):V->Option Int->Option Int->Hp->VK->Prop:=λx I hi H Q=>∃a t,x = .ref a/\SqL K H a t/\∀p,H p=ap->Q (.ref p) (upd H p (.lst (KY t I hi)))
theorem sG:SlR X (A0x X.K):=by intro pins s j H x v f g e hi sl Q I L hs m y h;obtain⟨a,t,rfl,hx,q⟩:=h;cases L;obtain⟨p,r,u,i⟩:=I.list hx;have n:=r.length;refine#["list", _,slot_list_getitem.lookup,u.isList.typeIs,?_];refine wpAny_getItem_list_slice u.isList hs m y .none (by simp) ?_ (by rw[zJ] <;> lia);rw[SA,<-n];refine#[.ref s.heap.objs.size,_,I.laid (t':=s.toks) (o:=.lst (KY t e hi)) (λb c q=>zW _ q) (zR _) ?_,rfl,q _ (I.hok.fresh (zR _))];exact#[zN (OF t e hi) i,_,0,(r.drop (HT.sIx t.length 0 e)).take (HT.sIx t.length t.length hi - HT.sIx t.length 0 e),yZ _ rfl]
def LY:V->Bool
 | .non=>av
 | .bl _=>av
 | .int _=>av
 | .str _=>av
 | _=>ay
def eqV:V->V->Bool
 | .non,.non=>av
 | .bl a,.bl b=>a==b
 | .bl a,.int b=>(if a then 1 else 0)==b
 | .int a,.bl b=>a==(if b then 1 else 0)
 | .int a,.int b=>a==b
 | .str a,.str b=>a==b
 | _,_=>ay
theorem A0y (Z:RelV y u) (L:RelV x v) (o:LY y=av) (n:LY x=av):SeqAt.EqAt A s u v (eqV y x):=by
 cases y with
 | non=>
   cases Z;cases x with
   | non=>cases L;exact SeqAt.EqAt.same _
   | bl b=>cases L;exact SeqAt.EqAt.none_bool b
   | int b=>obtain⟨t,rfl⟩:=L;exact SeqAt.EqAt.none_int b t
   | str b=>obtain⟨t,rfl⟩:=L;exact SeqAt.EqAt.none_str b t
   | _=>exact absurd (show ay=av from n) nft
 | bl a=>
   cases Z;cases x with
   | non=>cases L;exact SeqAt.EqAt.bool_none a
   | bl b=>cases L;exact SeqAt.EqAt.bool_bool a b
   | int b=>obtain⟨t,rfl⟩:=L;exact SeqAt.EqAt.bool_int a b t
   | str b=>obtain⟨t,rfl⟩:=L;exact SeqAt.EqAt.bool_str a b t
   | _=>exact absurd (show ay=av from n) nft
 | int a=>
   obtain⟨e,rfl⟩:=Z;cases x with
   | non=>cases L;exact SeqAt.EqAt.int_none a e
   | bl b=>cases L;exact SeqAt.EqAt.int_bool a e b
   | int b=>obtain⟨t,rfl⟩:=L;exact SeqAt.EqAt.int_int a e b t
   | str b=>obtain⟨t,rfl⟩:=L;exact SeqAt.EqAt.int_str a e b t
   | _=>exact absurd (show ay=av from n) nft
 | str a=>
   obtain⟨e,rfl⟩:=Z;cases x with
   | non=>cases L;exact SeqAt.EqAt.str_none a e
   | bl b=>cases L;exact SeqAt.EqAt.str_bool a e b
   | int b=>obtain⟨t,rfl⟩:=L;exact SeqAt.EqAt.str_int a e b t
   | str b=>obtain⟨t,rfl⟩:=L;exact SeqAt.EqAt.str_str a e b t
   | _=>exact absurd (show ay=av from n) nft
 | _=>exact absurd (show ay=av from o) nft
def eqU (x:V) (u:aw):Bool:=match u with
 | .none=>eqV .non x
 | .bool b=>eqV (.bl b) x
 | .int i _=>eqV (.int i) x
 | .str z _=>eqV (.str z) x
 | _=>ay
theorem kN (r:RelV y u) (f:LY y=av):eqU x u=eqV y x:=by
 cases y with
 | non=>cases r;rfl
 | bl b=>cases r;rfl
 | int i=>obtain⟨t,rfl⟩:=r;rfl
 | str z=>obtain⟨t,rfl⟩:=r;rfl
 | _=>exact absurd (show ay=av from f) nft
theorem LZ :∀{xs:List V}{k:List aw},Vals xs k->xs.all LY=av->k.any (eqU x)=xs.any λy=>eqV y x
 | _,_,.nil,_=>rfl
 | y::xs,u::k,.cons r t,f=>by rw[List.all_cons,a1Z] at f;rw[b3V,b3V,kN r f.1,LZ t f.2]
theorem J8 (L:RelV x v) (e:LY x=av):∀{xs:List V}{k:List aw},Vals xs k->xs.all LY=av->∀u∈k,SeqAt.EqAt A s u v (eqU x u)
 | _,_,.nil,_=>λu hu=>by cases hu
 | y::xs,u::k,.cons r t,f=>λN hu=>by
   rw[List.all_cons,a1Z] at f;rcases yX.mp hu with rfl | hu;. rw[kN r f.1];exact A0y r L f.1 e
   . exact J8 L e t f.2 N hu
def inV (x:V) (xs:List V):Bool:=xs.any λy=>eqV y x
def rIn (K:Frg) (neg:Bool):R2:=λx y H Q=>∃p t,y = .ref p/\(SqL K H p t\/SqT K H p t)/\LY x=av/\t.all LY=av/\Q (.bl (if neg then !inV x t else inV x t)) H
theorem g6:OpR X (bj .In) (rIn X.K ay):=by
 intro pins s m H x y v u Q I L Z h;obtain⟨p,i,rfl,hq,n,fs,q⟩:=h;cases Z;rcases hq with hq | hq;. obtain⟨e,r,t,o⟩:=I.list hq;refine SeqAt.in_listAt (eqU x) t.isList (λw G=>J8 L n r fs w (by simpa using G)) #[.bl _,H,I,rfl,?_];rw[show e.toArray.any (eqU x)=e.any (eqU x) by simp,LZ r fs];exact q
 . obtain⟨e,r,t,o⟩:=I.tuple hq;refine SeqAt.in_tupleAt (eqU x) t (λw G=>J8 L n r fs w (by simpa using G)) #[.bl _,H,I,rfl,?_];rw[show e.toArray.any (eqU x)=e.any (eqU x) by simp,LZ r fs];exact q
theorem UM:OpR X (bj .NotIn) (rIn X.K av):=by
 intro pins s m H x y v u Q I L Z h;obtain⟨p,i,rfl,hq,n,fs,q⟩:=h;cases Z;rcases hq with hq | hq;. obtain⟨e,r,t,o⟩:=I.list hq;refine SeqAt.notIn_listAt (eqU x) t.isList (λw G=>J8 L n r fs w (by simpa using G)) #[.bl _,H,I,rfl,?_];rw[show e.toArray.any (eqU x)=e.any (eqU x) by simp,LZ r fs];exact q
 . obtain⟨e,r,t,o⟩:=I.tuple hq;refine SeqAt.notIn_tupleAt (eqU x) t (λw G=>J8 L n r fs w (by simpa using G)) #[.bl _,H,I,rfl,?_];rw[show e.toArray.any (eqU x)=e.any (eqU x) by simp,LZ r fs];exact q
theorem SB:C7 X (.type "tuple") (λxs H Q=>∃p ys,xs=[.ref p]/\((SqL X.K H p ys/\∀l,H l=ap->Q (.ref l) (upd H l (.tup ys)))\/(SqT X.K H p ys/\Q (.ref p) H))):=by
 intro pins s c H xs k Q I r h;obtain⟨p,ys,rfl,h⟩:=h;obtain⟨u,rfl,L⟩:=J7 r;cases L;rcases h with ⟨hq,q⟩ | ⟨hq,q⟩
 . obtain⟨y,J,n,m⟩:=I.list hq;have j:=J.length;refine call_tuple_list n.isList (λt g=>?_) (by simp only[zJ] <;> lia);have i:Inv X pins c H { s with heap:=t }:=I.kept (t':=s.toks) g;have f:Inv X pins c (upd H t.objs.size (.tup ys)) { s with heap:=t.push { cls:=.type "tuple", data:=.seq y.toArray } }:=
     i.laid (t':=s.toks) (λb o e=>zW _ e) (zR _) (show ObjOk X.prog X.w _ _ _ (.tup ys) from #[m,y,J,IsTup.new _ _]);exact#[.ref t.objs.size,_,f,rfl,q _ (i.hok.fresh (zR _))]
 . obtain⟨y,J,n,m⟩:=I.tuple hq;exact call_tuple_same n #[.ref p,H,I,rfl,q]
def tyV (K:Frg) (T:String) (x:V) (H:Hp):Prop:=match x with
 | .str _=>T = "str"
 | .int _=>T = "int"
 | .ref p=>(T = "list" /\ ∃t,SqL K H p t)\/(T = "tuple" /\ ∃o,K.lookup p=am o/\o.cls = .type "tuple" /\ o.dict=ap) \/(T = "dict" /\ ((∃kvs,H p=am (.dK kvs))\/∃kvs,H p=am (.dT kvs)))\/(T = "set" /\ ∃S n,H p=am (.set S n))
 | _=>False
theorem A0z {g:St}(I:Inv X pins g H s) (r:RelV x v) (ty:tyV X.K T x H) :
   s.TypeIs v T/\∀a,v = .ref a->∃y,s.heap.get? a=am y/\y.dict=none:=by
 cases x with
 | str z=> obtain⟨t,rfl⟩:=r;cases (show T = "str" from ty);exact#[typeIs_str s z t,λ_ e=>nomatch e]
 | int i=> obtain⟨t,rfl⟩:=r;cases (show T = "int" from ty);exact#[typeIs_int s i t,λ_ e=>nomatch e]
 | ref p=>
   cases r;rcases ty with ⟨rfl,k,hq⟩ | ⟨rfl,o,hk,hc,hd⟩ | ⟨rfl,hk⟩ | ⟨rfl,S,n,hk⟩
   . obtain⟨j,_,m,_⟩:=I.list hq;refine#[m.isList.typeIs,λa e=>?_];cases e;obtain⟨o,n,e,c,hd,_⟩:=m;exact#[o,e,hd]
   . refine#[#[o,I.kIn p o hk,hc],λa e=>?_];cases e;exact#[o,I.kIn _ o hk,hd]
   . have z:∃o,s.heap.get? p=am o/\o.ExactDict:=by
       rcases hk with ⟨kvs,hk⟩ | ⟨kvs,hk⟩
       . obtain⟨_,_,_,_,o,_,_,e,f,_⟩:=I.hok p _ hk;exact#[o,e,f]
       . obtain⟨_,_,_,_,o,_,_,e,f,_⟩:=I.hok p _ hk;exact#[o,e,f]
     obtain⟨o,e,f⟩:=z;refine#[#[o,e,f.1],λa h=>?_];cases h;exact#[o,e,f.2.1]
   . obtain⟨o,_,_,_,e,f,_⟩:=I.hok p _ hk;refine#[#[o,e,f.1],λa h=>?_];cases h;exact#[o,e,f.2.1]
 | _=>exact a6W ty
def tBM (K:Frg) (T:String) (r:V->List V->Hp->VK->Prop) (to:TE) (t:TA):TE:=λn H Q=>to n H λx e=>tyV K T x e/\t n e λo c=>r x o c Q
variable {o e:bn}{es:List bn}{to:TE}{t:TA}{name:Str}{apos ag:eH}{T id:String}{r:V->List V->Hp->VK->Prop}
theorem A2t (q:PlainAttrs T) (slot:Slot T name id) (z:typeOf (.builtin id)=pure (.type "method_descriptor")) (k:MtR X id r) (ho:PE X o to) (j:PA X (e::es) t) (hbase:attributeBase o name X.env (eval o X.env)=eval o X.env:=by rfl)
   (M:((backTo ag (starEach (e::es) X.env)).all (λx=>!x.1)&&(backToKw ag (keywordEach [] X.env)).all (λx=>x.1.isSome)
     && decide ((e::es).length+([]:List Keyword).length+(if ([]:List Keyword).isEmpty then 0 else 1) < 30))=true:=by rfl)
   (D:(apos.endLine==ag.line)=true:=by rfl) (hs:starEach (e::es) X.env=(ay,eval e X.env)::starEach es X.env:=by rfl) (O:(backTo ag (starEach es X.env)).any (·.1)=false:=by rfl) :
   PE X (.Call (.Attribute o name apos) (e::es) [] ag) (tBM X.K T r to t):=by intro pins s n H Q I h;refine wpAny_Call_method_late hbase M D rfl (thn (ho pins s n H _ I h) λv y #[x,p,i,m,ty,N]=>?_);obtain⟨h1,g⟩:=A0z i m ty;refine#[T,id,q,slot,z,h1,g,?_];have hA:=j ag pins y n p _ i N;rw[hs] at hA ⊢;refine b9V (by show(ay||(backTo ag (starEach es X.env)).any (·.1))=ay;rw[O] <;> rfl) (Calls.evalArgs_plain ?_);exact thn hA λB S #[G,c,f,u,J]=>k pins S n c x G v B Q f m u J
end
def MtM (X:Cx) (id:String) (r:V->List V->Hp->VK->Prop):Prop:=∀(pins:List (Addr×cr)) (s:ax) (e:St) (H:Hp) (x:V) (t:List V) (v:aw) (k:List aw) (Q:VK),Inv X pins e H s->RelV x v->Vals t k->r x t H Q ->
   wpAny (model X.prog X.w) X.A (call (.builtin id) (v::k)) (EP X pins e Q) X.xe s
theorem Vals.one:∀{x:V}{k:List aw},Vals [x] k->∃u,k=[u]/\RelV x u
 | _,_,.cons r .nil=>#[_,rfl,r]
theorem Vals.eraseIdx:∀{xs:List V}{k:List aw}(i:Nat),Vals xs k->Vals (xs.eraseIdx i) (k.eraseIdx i)
 | _,_,_,.nil=>.nil
 | _,_,0,.cons _ t=>t
 | _,_,i+1,.cons r t=>.cons r (Vals.eraseIdx i t)
theorem SU {S:Type}:∀(l:List S) (i:Nat),(l.eraseIdx i).length<=l.length
 | [],_=>zR _
 | _::_,0=>a4V _
 | _::r,i+1=>Nat.succ_le_succ (SU r i)
section
variable {X:Cx}{pins:List (Addr×cr)}{σ:St}{H:Hp}{s:ax}{l b:Addr}{xs ys zs:List V}
theorem Inv.lset {y:List aw}(I:Inv X pins σ H s) (hH:H l=am (.lst xs)) (e:s.heap.get? l=am { cls:=.type "list", data:=.seq y.toArray n }) (t:f y.toArray=its'.toArray) (o:Vals ys its') (hz:ys.length<=aB) :
   Inv X pins σ (upd H l (.lst ys)) { s with heap:=s.heap.update l (a5J f),toks:=t' }:=by have q:=PySem.IsL.update e f;rw[t] at q;refine I.write (x:=l) (e:=l) (by rw[hH];exact trivial) (.inl rfl) (λM u hb hu=>(yC s.heap (a5J f) (a4K hb)).trans hu) #[_,q] ?_;exact#[hz,its',_,o,q]
theorem Inv.lnew (I:Inv X pins σ H s) (e:Vals ys y) (hz:ys.length<=aB) :
   Inv X pins σ (upd H s.heap.objs.size (.lst ys)) { s with heap:=s.heap.push { cls:=.type "list", data:=.seq y.toArray },toks:=t' }:=
 I.laid (λ_ _ q=>zW _ q) (zR _) #[hz,y,0,e,yZ _ rfl]
theorem Inv.fresh (I:Inv X pins σ H s):H s.heap.objs.size=none:=I.hok.fresh (zR _)
theorem Inv.lstM (I:Inv X pins σ H s) (hH:H l=am (.lst xs)):xs.length<=aB/\∃(y:List aw) (n:Nat),Vals xs y/\xs.length=y.length/\s.heap.get? l=am { cls:=.type "list", data:=.seq y.toArray n }:=by obtain⟨z,y,n,r,e⟩:=I.hok l _ hH;exact#[z,y,n,r,r.length,e]
theorem kP (h:n<=aB):b1J n=false:=by unfold b1J;exact decide_eq_false (by lia)
end
section
def UN:V->List V->Hp->VK->Prop:=λx n H Q=>∃l t y,x = .ref l/\n=[y]/\H l=am (.lst t)/\t.length < aB/\Q .non (upd H l (.lst (t++[y])))
theorem NB:MtM X "list.append" UN:=by intro pins s f H x b v k Q I L i h;obtain⟨l,c,y,rfl,rfl,hH,p,q⟩:=h;cases L;obtain⟨u,rfl,o⟩:=i.one;obtain⟨z,t,n,r,m,e⟩:=I.lstM hH;refine call_meets F.slot_list_append #[_,e,rfl] F.entry_list_append (F.args_list_append_2 _ _) (PySem.list_append l t.toArray n u (by rw[zJ];lia)) #[e,?_];refine#[.non,_,I.lset (its':=t++[u]) hH e (by simp) (r.append (.cons o .nil)) ?_,rfl,q];rw[yY,a8V];lia
def a6:V->List V->Hp->VK->Prop:=λx n H Q=>∃l t i k y,x = .ref l/\n=[.int i]/\H l=am (.lst t)/\-(2 ^ 63)<=i/\i < 2 ^ 63/\seqIndex? i t.length=am k/\t[k]?=am y/\Q y (upd H l (.lst (t.eraseIdx k)))
theorem kQ:MtM X "list.pop" a6:=by
 intro pins s N H x T v g Q I L c h;obtain⟨l,f,i,k,y,rfl,rfl,hH,h1,m,hk,hy,q⟩:=h;cases L;obtain⟨u,rfl,b⟩:=c.one;obtain⟨t,rfl⟩:=b;obtain⟨z,o,n,r,p,e⟩:=I.lstM hH;obtain⟨w,G,j⟩:=r.get hy;refine call_meets F.slot_list_pop #[_,e,rfl] F.entry_list_pop (F.args_list_pop_2 _ _) (MeetsSeq.list_pop_at l o.toArray n i t k w (fitsIndex_both h1 m) (by rw[zJ,<-p];exact hk) (by rw[<-a8W];exact G) (by rw[zJ];lia)) #[e,?_];refine#[y,_,I.lset (its':=o.eraseIdx k) hH e ?_ (r.eraseIdx k) ?_,j,q];. show o.toArray.eraseIdxIfInBounds k=(o.eraseIdx k).toArray;rw[List.eraseIdxIfInBounds_toArray]
 . have:=SU f k;lia
end
section
variable {κ:Type}[DecidableEq κ]
def GY (kvs:List (κ×V)) (k:κ):Option V:=(kvs.find? λkv=>decide (kv.1=k)).map (·.2)
def EZ (kvs:List (κ×V)) (k:κ) (v:V):List (κ×V):=
 if (kvs.any λkv=>decide (kv.1=k))=av then kvs.map (λkv=>if kv.1=k then (kv.1,v) else kv) else kvs++[(k,v)]
def M0 (kvs:List (κ×V)) (k:κ):List (κ×V):=kvs.filter λkv=>decide (kv.1≠k)
theorem MA {k:κ}(e:p.1=k):GY (p::r) k=am p.2:=by simp[GY,b1Z,e]
theorem J9 {k:κ}(e:¬p.1=k):GY (p::r) k=GY r k:=by simp[GY,b1Z,e]
theorem WV (k:κ):∀kvs:List (κ×V),(kvs.any λkv=>decide (kv.1=k))=(GY kvs k).isSome
 | []=>rfl
 | p::r=>by
   rw[b3V];by_cases e:p.1=k;. simp only[MA e,decide_eq_true e,Bool.true_or,Option.isSome_some]
   . rw[J9 e,decide_eq_false e,Bool.false_or];exact WV k r
theorem G7 (kvs:List (κ×V)) (k:κ) (v:V):(EZ kvs k v).length<=kvs.length+1:=by
 unfold EZ;split;. rw[zX];lia
 . rw[yY,yR,a6J];lia
theorem RelO.isSome_eq (r:RelO o u):o.isSome=u.isSome:=by
 cases o with
 | none=>cases u with
   | none=>rfl
   | some _=>exact(show False from r).elim
 | some _=>cases u with
   | none=>exact(show False from r).elim
   | some _=>rfl
theorem RelO.getD (r:RelO o u) (e:RelV d d'):RelV (o.getD d) (u.getD d'):=by
 cases o with
 | none=>cases u with
   | none=>exact e
   | some _=>exact(show False from r).elim
 | some _=>cases u with
   | none=>exact(show False from r).elim
   | some _=>exact r
theorem KV.val (r:KV kvs vs) (k:κ):RelO (GY kvs k) (gt vs k):=by
 unfold KV at r;induction r with
 | nil=>exact a8Z
 | @cons p q Q n h t i=>
   obtain⟨h1,o⟩:=h;by_cases e:p.1=k
   . have e':q.1=k:=h1.symm.trans e;have b:gt (q::n) k=am q.2:=by simp[gt,b1Z,e']
     rw[MA e,b];exact o
   . have e':¬q.1=k:=λz=>e (h1.trans z);have b:gt (q::n) k=gt n k:=by simp[gt,b1Z,e']
     rw[J9 e,b];exact i
theorem KV.any (r:KV kvs vs) (k:κ):(kvs.any λkv=>decide (kv.1=k))=vs.any λkv=>decide (kv.1=k):=by
 unfold KV at r;induction r with
 | nil=>rfl
 | cons h t e=>rw[b3V,b3V,e,h.1]
theorem KV.repl (r:KV kvs vs) (k:κ) (Z:RelV y u) :
   KV (kvs.map λkv=>if kv.1=k then (kv.1,y) else kv) (vs.map λkv=>if kv.1=k then (kv.1,u) else kv):=by
 unfold KV at r ⊢;induction r with
 | nil=>exact .nil
 | @cons p q Q i h t o=>
   rw[zI,zI];refine .cons ?_ o;obtain⟨h1,n⟩:=h;by_cases e:p.1=k;. rw[if_pos e,if_pos (h1.symm.trans e)];exact#[h1,Z]
   . rw[if_neg e,if_neg (λz=>e (h1.trans z))];exact#[h1,n]
theorem KV.put (r:KV kvs vs) (k:κ) (Z:RelV y u):KV (EZ kvs k y) (stored vs k u):=by
 unfold EZ stored;rw[r.any k];by_cases e:(vs.any λkv=>decide (kv.1=k))=av;. rw[if_pos e,if_pos e];exact r.repl k Z
 . rw[if_neg e,if_neg e];exact Paired.snoc r #[rfl,Z]
theorem KV.drop (r:KV kvs vs) (k:κ):KV (M0 kvs k) (without vs k):=by
 unfold KV at r ⊢;unfold M0 without;induction r with
 | nil=>exact .nil
 | @cons p q Q i h t n=>
   obtain⟨h1,o⟩:=h;rw[a6V,a6V];by_cases e:p.1=k
   . have a:¬decide (p.1≠k)=true:=by simp[e]
     have b:¬decide (q.1≠k)=true:=by simp[h1.symm.trans e]
     rw[if_neg a,if_neg b];exact n
   . have e':¬q.1=k:=λz=>e (h1.trans z);have a:decide (p.1≠k)=true:=by simp[e]
     have b:decide (q.1≠k)=true:=by simp[e']
     rw[if_pos a,if_pos b];exact .cons #[h1,o] n
theorem KV.length {kvs:List (κ×V)}(r:KV kvs vs):kvs.length=vs.length:=Paired.length r
theorem WW (kvs:List (κ×V)) (k:κ):(M0 kvs k).length<=kvs.length:=yJ _ _
end
theorem KH (r:RelV (kV k) u):(AT P w).is k u=true:=by
 cases k with
 | inl i=>obtain⟨t,e⟩:=(show ∃t,u=c0V i t from r);subst e;exact WM P w i t
 | inr x=>obtain⟨t,e⟩:=(show ∃t,u=c0W x t from r);subst e;exact OE P w x t
theorem SV :∀{ks:List Key}{e:List aw},Vals (ks.map kV) e->ItemsAre (AT P w) ks e
 | [],_,r=>by rw[b8J] at r;cases r;exact .nil
 | k::ks,_,r=>by
   rw[zI] at r;cases r with
   | cons h t=>exact .cons (KH h) (SV t)
abbrev KT (H:Hp):List (List Key×V)->List (List Key×Addr×aw)->Prop:=Paired λp q=>p.1=q.1/\H q.2.1=am (.tup (p.1.map kV))/\RelV p.2 q.2.2
theorem KT.val (r:KT H kvs xs) (k:List Key):RelO (GY kvs k) ((atKey xs k).map (·.2)):=by
 induction r with
 | nil=>exact a8Z
 | @cons p q Q n h t i=>
   obtain⟨h1,_,o⟩:=h;by_cases e:p.1=k
   . have e':q.1=k:=h1.symm.trans e;have b:atKey (q::n) k=am q.2:=by simp[atKey,b1Z,e']
     rw[MA e,b];exact o
   . have e':¬q.1=k:=λz=>e (h1.trans z);have b:atKey (q::n) k=atKey n k:=by simp[atKey,b1Z,e']
     rw[J9 e,b];exact i
theorem KT.repl (r:KT H kvs xs) (k:List Key) (Z:RelV y u) :
   KT H (kvs.map λkv=>if kv.1=k then (kv.1,y) else kv) (xs.map (putAt k u)):=by
 induction r with
 | nil=>exact .nil
 | @cons p q Q m h t i=>
   rw[zI,zI];refine .cons ?_ i;obtain⟨h1,n,o⟩:=h;unfold putAt;by_cases e:p.1=k;. rw[if_pos e,if_pos (h1.symm.trans e)];exact#[h1,n,Z]
   . rw[if_neg e,if_neg (λz=>e (h1.trans z))];exact#[h1,n,o]
theorem KT.put (r:KT H kvs xs) (k:List Key) (hb:H b=am (.tup (k.map kV))) (Z:RelV y u) :
   KT H (EZ kvs k y) (storedH xs k b u):=by
 have e:(kvs.any λkv=>decide (kv.1=k))=(atKey xs k).isSome:=by rw[WV,(r.val k).isSome_eq,a1J]
 unfold EZ storedH;rw[e];by_cases q:(atKey xs k).isSome=av;. rw[if_pos q,if_pos q];exact r.repl k Z
 . rw[if_neg q,if_neg q];exact Paired.snoc r #[rfl,hb,Z]
theorem KT.keeps (r:KT H kvs xs) (u:∀b ys,H b=am (.tup ys)->H' b=am (.tup ys)):KT H' kvs xs:=
 Paired.mapP r λ_ _ z=>#[z.1,u _ _ z.2.1,z.2.2]
section
theorem yE (ok:HOk P w H h) (e:Rd H a u):ObjOk P w H h a u:=e.ok ok
theorem GZ (ok:HOk P w H h) (e:Rd H a (.dK kvs)):kvs.length<=aB/\(a==da)=ay/\∃vs,KV kvs vs/\h.DictOf (AT P w) a vs:=
 show ObjOk P w H h a (.dK kvs) from yE ok e
theorem WX (ok:HOk P w H h) (e:H a=am (.dK kvs)):kvs.length<=aB/\(a==da)=ay/\∃vs,KV kvs vs/\h.DictOf (AT P w) a vs:=GZ ok (.inl e)
theorem PU (ok:HOk P w H h) (e:H a=am (.tup (ks.map kV))):(tupleKind (AT P w)).is h ks a:=by
 obtain⟨_,y,r,o,h1,t,n,i⟩:=(show ObjOk P w H h a (.tup (ks.map kV)) from ok a _ e)
 exact#[o,y.toArray,n,h1,t,i,by simpa using SV r]
theorem SW (ok:HOk P w H h) (e:Rd H a (.dT kvs)):kvs.length<=aB/\(a==da)=ay /\∃xs,KT H kvs xs/\h.DictOfH (tupleKind (AT P w)) a xs:=by
 obtain⟨z,y,xs,r,o,M,Z,h1,n,i,b,v⟩:=(show ObjOk P w H h a (.dT kvs) from yE ok e)
 refine#[z,y,xs,r,o,M,Z,h1,n,i,b,λx hx=>?_,v];have all:∀{l:List (List Key×V)}{m:List (List Key×Addr×aw)},KT H l m->∀x∈m,(tupleKind (AT P w)).is h x.1 x.2.1:=by
   intro l m q;induction q with
   | nil=>intro x hx;exact nomatch hx
   | @cons p q Q f hq t c=>
     intro x hx;rcases yX.mp hx with e | hx;. subst e;exact PU ok (by rw[<-hq.1];exact hq.2.1)
     . exact c x hx
 exact all r x hx
theorem A2u (ok:HOk P w H h) (e:H a=am (.dT kvs)):kvs.length<=aB/\(a==da)=ay /\∃xs,KT H kvs xs/\h.DictOfH (tupleKind (AT P w)) a xs:=SW ok (.inl e)
end
def a7 (H:Hp) (a:Addr) (y:V) (r:Option V):Prop:=(∃kvs k,Rd H a (.dK kvs)/\y=kV k/\r=GY kvs k)\/∃kvs k b,Rd H a (.dT kvs)/\y = .ref b/\H b=am (.tup (k.map kV))/\r=GY kvs k
def A2v (H:Hp) (a:Addr) (y v:V) (H':Hp):Prop:=(∃kvs k,H a=am (.dK kvs)/\y=kV k/\kvs.length < aB/\H'=upd H a (.dK (EZ kvs k v))) \/∃kvs k b,H a=am (.dT kvs)/\y = .ref b/\H b=am (.tup (k.map kV))/\kvs.length < aB/\H'=upd H a (.dT (EZ kvs k v))
section
variable {X:Cx}{pins:List (Addr×cr)}{σ:St}{H:Hp}{s:ax}{a:Addr}{y v:V}{u r:aw}{o:Option V}{A:bv}{E:aw->ax->Prop}
theorem Inv.big (I:Inv X pins σ H s):da < s.heap.objs.size:=by have h:bb < s.heap.objs.size:=(I.mod.glob.keeps I.bk).lt;exact xP (by decide) h
theorem g9 (hu:A.units+1 < ef) (I:Inv X pins σ H s) (g:a7 H a y (am v)) (Z:RelV y u) (h:∀t s',Inv X pins σ H s'->RelV v t->Q t s') :
   wpAny (model X.prog X.w) A (gy (.ref a) u) Q E s:=by
 rcases g with ⟨kvs,k,e,q,l⟩ | ⟨kvs,k,b,e,q,n,l⟩
 . subst q;obtain⟨z,hd,i,rel,Y⟩:=GZ I.hok e;obtain⟨t,G,j⟩:=RelO.some_of (v:=v) (o:=gt i k) (by rw[l];exact rel.val k);exact wpAny_getItem_of (KH Z) Y.mapOf G (h t _ (I.tok _) j)
 . subst q;cases (show u=a0X b from Z);obtain⟨z,hd,m,rel,Y⟩:=SW I.hok e;obtain⟨t,G,j⟩:=RelO.some_of (v:=v) (o:=(atKey m k).map (·.2)) (by rw[l];exact rel.val k);obtain⟨p,hp,hp2⟩:=Option.map_eq_some_iff.mp G;refine wpAny_getItem_heap (gr hu) (PU I.hok n) Y hp ?_;rw[hp2];exact h t _ (I.tok _) j
theorem A3z (hu:A.units+1 < ef) (I:Inv X pins σ H s) (g:a7 H a y o) (Z:RelV y u) (h:∀s',Inv X pins σ H s'->Q (.bool o.isSome) s') :
   wpAny (model X.prog X.w) A (bj .In u (.ref a)) Q E s:=by
 rcases g with ⟨kvs,k,e,t,l⟩ | ⟨kvs,k,b,e,t,n,l⟩
 . subst t;obtain⟨z,hd,i,rel,Y⟩:=GZ I.hok e;refine wpAny_in_of (KH Z) hd Y.mapOf ?_;rw[<-(rel.val k).isSome_eq,<-l];exact h _ (I.tok _)
 . subst t;cases (show u=a0X b from Z);obtain⟨z,hd,m,rel,Y⟩:=SW I.hok e;refine wpAny_in_heap (gr hu) (PU I.hok n) hd Y ?_;have q:=(rel.val k).isSome_eq;rw[a1J] at q;rw[<-q,<-l];exact h _ (I.tok _)
theorem sH (hu:A.units+1 < ef) (I:Inv X pins σ H s) (g:a7 H a y o) (Z:RelV y u) (h:∀s',Inv X pins σ H s'->Q (.bool (!o.isSome)) s') :
   wpAny (model X.prog X.w) A (bj .NotIn u (.ref a)) Q E s:=by
 rcases g with ⟨kvs,k,e,t,l⟩ | ⟨kvs,k,b,e,t,n,l⟩
 . subst t;obtain⟨z,hd,i,rel,Y⟩:=GZ I.hok e;refine wpAny_notIn_of (KH Z) hd Y.mapOf ?_;rw[<-(rel.val k).isSome_eq,<-l];exact h _ (I.tok _)
 . subst t;cases (show u=a0X b from Z);obtain⟨z,hd,m,rel,Y⟩:=SW I.hok e;refine wpAny_notIn_heap (gr hu) (PU I.hok n) hd Y ?_;have q:=(rel.val k).isSome_eq;rw[a1J] at q;rw[<-q,<-l];exact h _ (I.tok _)
theorem JX (I:Inv X pins σ H s) (i:Mut (H a)) (hs:Heap.SameBut a s.heap h') (n:∃q,h'.get? a=am q) (new:ObjOk X.prog X.w (upd H a t) h' a t) :
   Inv X pins σ (upd H a t) { s with heap:=h',toks:=t' }:=
 I.write (x:=a) (e:=a) i (.inl rfl) (λb q hb z=>(hs.2 b hb).trans z) n new
theorem PV (z:kvs.length<=aB) (hd:(a==da)=ay) (rel:KV kvs vs) (dd:h'.DictOf (AT P w) a vs) :
   ObjOk P w H' h' a (.dK kvs):=#[z,hd,vs,rel,dd]
theorem gA (hu:A.units+1 < ef) (I:Inv X pins σ H s) (g:A2v H a y v H') (Z:RelV y u) (x:RelV v r) (h:∀s',Inv X pins σ H' s'->Q () s') :
   wpAny (model X.prog X.w) A (setItem (.ref a) u r) Q E s:=by
 rcases g with ⟨kvs,k,e,i,l,n⟩ | ⟨kvs,k,b,e,i,f,l,n⟩
 . subst i n;obtain⟨z,hd,J,rel,Y⟩:=WX I.hok e;have p:J.length<=sizeLine:=by rw[<-rel.length];exact z
   have m:(EZ kvs k v).length<=sizeLine:=by have:=G7 kvs k v;lia
   refine wpAny_setItem_pairs (hsz:=p) (KH Z) Y λj t hs=>h _ ?_;have G:∃q,j.get? a=am q:=let #[q,_,_,hq,_]:=t;#[q,hq];exact JX I (by rw[e];exact a8Z) hs G (PV m hd (rel.put k x) t)
 . subst i n;cases (show u=a0X b from Z);obtain⟨z,hd,L,rel,Y⟩:=A2u I.hok e;have p:L.length<=sizeLine:=by rw[<-Paired.length rel];exact z
   have m:(EZ kvs k v).length<=sizeLine:=by have:=G7 kvs k v;lia
   refine wpAny_setItem_heap (hsz:=p) (gr hu) (PU I.hok f) Y λj t hs=>h _ ?_;obtain⟨q,M,T,hq,N,O,S,_,B⟩:=t;refine JX I (by rw[e];exact a8Z) hs #[q,hq] #[m,hd,_,(rel.put k f x).keeps λc U D=>?_,q,M,T,hq,N,O,S,B];rw[AG (A2e D e (λz=>nomatch z))];exact D
end
section
variable {X:Cx}{pins:List (Addr×cr)}{σ:St}{H:Hp}{s:ax}{a:Addr}{kvs:List (Key×V)}{k:Key}{u:aw}{A:bv}{E:aw->ax->Prop}
theorem gB (I:Inv X pins σ H s) (e:H a=am (.dK kvs)) (Z:RelV (kV k) u) (l:(GY kvs k).isSome=av) (h:∀s',Inv X pins σ (upd H a (.dK (M0 kvs k))) s'->Q () s') :
   wpAny (model X.prog X.w) A (delItem (.ref a) u) Q E s:=by
 obtain⟨z,hd,o,rel,Y⟩:=WX I.hok e;refine wpAny_delItem_slot Y.typeIs (by decide) PySem.F.slot_dict_delitem
   (call_meetsIn PySem.F.slot_dict_delitem Y.typeIs PySem.F.entry_dict_delitem (PySem.F.args_dict_delitem_2 _ _) (meets_dict_delitem_pairs (AT X.prog X.w) a (KH Z)) #[o,Y,by rw[<-rel.length];exact z,by rw[<-(rel.val k).isSome_eq];exact l,λp t hs=>h _ ?_]);have n:∃q,p.get? a=am q:=let #[q,_,_,hq,_]:=t;#[q,hq];exact JX I (by rw[e];exact a8Z) hs n (PV (zN (WW kvs k) z) hd (rel.drop k) t)
theorem A2w (I:Inv X pins σ H s) (e:H a=am (.dK kvs)) (Z:RelV (kV k) u) (l:GY kvs k=am v) (r:more=[]\/∃x,more=[x]) (h:∀n s',Inv X pins σ (upd H a (.dK (M0 kvs k))) s'->RelV v n->Q n s'):wpAny (model X.prog X.w) A (call (.builtin "dict.pop") (.ref a::u::more)) Q E s:=by
 obtain⟨z,hd,p,rel,Y⟩:=WX I.hok e;obtain⟨n,G,j⟩:=RelO.some_of (v:=v) (o:=gt p k) (by rw[<-l];exact rel.val k);have hp:(keyPart u).isSome=true:=by
   cases k with
   | inl i=>obtain⟨t,q⟩:=(show ∃t,u=c0V i t from Z);subst q;rfl
   | inr x=>obtain⟨t,q⟩:=(show ∃t,u=c0W x t from Z);subst q;rfl
 have g:argsOk "dict.pop" #[.ref a::u::more,[]]:=by
   rcases r with q | ⟨x,q⟩
   . subst q;exact PySem.F.args_dict_pop_2 _ _
   . subst q;exact PySem.F.args_dict_pop_3 _ _ _
 refine call_meetsIn PySem.F.slot_dict_pop Y.typeIs PySem.F.entry_dict_pop g (meets_dict_pop_there (AT X.prog X.w) a (KH Z) more r hp) #[p,n,Y,by rw[<-rel.length];exact z,G,λb m hs=>h n _ ?_ j];have c:∃q,b.get? a=am q:=let #[q,_,_,hq,_]:=m;#[q,hq];exact JX I (by rw[e];exact a8Z) hs c (PV (zN (WW kvs k) z) hd (rel.drop k) m)
end
def A2x (i:bn):Prop:=∀v e,subscripted i ay v e=operate [v,e] (gy v e)
theorem sI {id:String} (p:e5 (.type T) "__getitem__"=pure (am (.builtin id))) (hs:A2x slice) (h:wpAny (model prog w) A (eval value env) (λo v=>wpAny (model prog w) A (eval slice env) (λi e=>e.TypeIs o T/\wpAny (model prog w) A (gy o i) Q E e) E v) E s) :
   wpAny (model prog w) A (eval (.Subscript value slice pos) env) Q E s:=by
 refine Subscript_ (bc h (λo v j=>bc j (λi e t=>?_) λ_ _ x=>x) λ_ _ x=>x);obtain⟨u,t⟩:=t;unfold subscriptTail;refine zZ ?_;rw[getitemInPython_of_ne u.not_modules];refine zZ (wpAny_specialOf u p ?_);have fin:wpAny (model prog w) A (subscripted slice ay o i) (λr n=>wpAny (model prog w) A (letTemporaryGo value o r >>= λ_=>pure r) Q E n) E e:=by rw[hs o i];exact wpAny_operating (bc t (λr n m=>zZ (wpAny_letTemporaryGo (zY m))) λ_ _ x=>x)
 first
   | exact zY (zZ fin)
   | exact zZ (zY (zZ fin))
   | exact zZ fin
theorem WY {t:St}(I:Inv X pins t H s) (g:a7 H a y o):s.TypeIs (.ref a) "dict" := by
 rcases g with ⟨kvs,k,e,_,_⟩ | ⟨kvs,k,b,e,_,_,_⟩
 . obtain⟨_,_,n,_,Y⟩:=GZ I.hok e;exact Y.typeIs
 . obtain⟨_,_,i,_,Y⟩:=SW I.hok e;exact Y.typeIs
def kR (U ty:TE):TE:=λe H Q=>U e H λx t=>ty e t λy c=>∃a v,x = .ref a/\a7 c a y (am v)/\Q v c
def A2y (ty U:TE):TE:=λe H Q=>ty e H λy t=>U e t λx c=>∃a o,x = .ref a/\a7 c a y o/\Q (.bl o.isSome) c
def cO (ty U:TE):TE:=λe H Q=>ty e H λy t=>U e t λx c=>∃a o,x = .ref a/\a7 c a y o/\Q (.bl (!o.isSome)) c
def yK (U ty n:TE):TS:=λD e H=>n e H λv t=>U e t λx c=>ty e c λy m=>∃a b,x = .ref a/\A2v m a y v b/\D.nx e b
def yO (U ty:TE):TS:=λD e H=>U e H λx t=>ty e t λy c=>∃a kvs k,x = .ref a/\c a=am (.dK kvs)/\y=kV k/\(GY kvs k).isSome=av/\D.nx e (upd c a (.dK (M0 kvs k)))
section
variable {X:Cx}{o i e value:bn}{pos pos' jp:eH}{td ty tv:TE}
theorem DQ (hu:X.A.units+1 < ef) (ho:PE X o td) (hi:PE X i ty) (hs:A2x i):PE X (.Subscript o i pos) (kR td ty):=by intro pins s t H Q I h;refine sI PySem.F.slot_dict_getitem.lookup hs (thn (ho pins s t H _ I h) λu p #[x,n,m,L,N]=>thn (hi pins p t n _ m N) λb k #[y,r,c,Z,a,v,f,g,J]=>?_);subst f;obtain rfl:u=a0X a:=L;exact#[WY c g,g9 hu c g Z λz q M j=>#[v,r,M,j,J]]
theorem kS (hu:X.A.units+1 < ef) (hi:PE X i ty) (ho:PE X o td):PC X .In i o (A2y ty td):=by intro pins s t H Q I h;refine thn (hi pins s t H _ I h) λb p #[y,n,r,Z,N]=>thn (ho pins p t n _ r N) λu j #[x,c,m,L,a,v,f,g,J]=>?_;subst f;obtain rfl:u=a0X a:=L;exact A3z hu m g Z λk M=>#[.bl v.isSome,c,M,rfl,J]
theorem SX (hu:X.A.units+1 < ef) (hi:PE X i ty) (ho:PE X o td):PC X .NotIn i o (cO ty td):=by intro pins s t H Q I h;refine thn (hi pins s t H _ I h) λb p #[y,n,r,Z,N]=>thn (ho pins p t n _ r N) λu j #[x,c,m,L,a,v,f,g,J]=>?_;subst f;obtain rfl:u=a0X a:=L;exact sH hu m g Z λk M=>#[.bl (!v.isSome),c,M,rfl,J]
theorem P0 (hu:X.A.units+1 < ef) (ho:PE X o td) (hi:PE X i ty) (k:PE X value tv) (hs:gj value (am (.Subscript o i pos')) pos.line X.env=pure ay) :
   PS X (.Assign [.Subscript o i pos'] value pos) (yK td ty tv):=by intro pins s t H D I h;refine wpAny_Assign_Subscript (thn (k pins s t H _ I h) λr z #[v,n,m,q,N]=>thn (ho pins z t n _ m N) λu T #[x,c,p,L,J]=>thn (hi pins T t c _ p J) λS B #[y,O,M,Z,a,b,j,g,G]=>?_) hs;subst j;obtain rfl:u=a0X a:=L;exact gA hu M g Z q λQ f=>#[t,b,f,G]
theorem sJ (ho:PE X o td) (hi:PE X i ty):PS X (.Delete [.Subscript o i jp] pos) (yO td ty):=by intro pins s t H D I h;refine wpAny_Delete (wpAny_deleteEach_cons (wpAny_delete_Subscript (thn (ho pins s t H _ I h) λu m #[x,n,r,L,N]=>thn (hi pins m t n _ r N) λb g #[y,p,c,Z,a,kvs,k,f,e,q,l,J]=>?_)));subst f q;obtain rfl:u=a0X a:=L;exact gB c e Z l λj M=>wpAny_deleteEach_nil #[t,_,M,J]
end
theorem PX (h:ca) (hb:da < h.objs.size):ObjOk P w H (h.push { cls:=.type "dict", data:=.dict #[] }) h.objs.size (.dK []):=#[xR _,beq_eq_false_iff_ne.mpr (a4K (zC hb)),[],.nil,Heap.DictOf.new h]
def kT:TE:=λ_ H Q=>∀p,H p=ap->Q (.ref p) (upd H p (.dK []))
section
variable {X:Cx}{pos:eH}
theorem kU:PE X (.Dict [] [] pos) kT:=λpins s e H Q I h=>
 wpAny_Dict_empty #[.ref s.heap.objs.size,_,I.laid (a:=s.heap.objs.size) (o:=.dK []) (t':=s.toks) (λ_ _ q=>zW _ q) (zR _) (PX s.heap I.big),rfl,h _ (I.hok.fresh (zR _))]
end
def UO:List (TE×TE)->St->Hp->(List (V×V)->Hp->Prop)->Prop
 | [],_,H,Q=>Q [] H
 | (o,i)::r,e,H,Q=>o e H λx t=>i e t λy c=>UO r e c λn m=>Q ((x,y)::n) m
abbrev VV:List (V×V)->List (aw×aw)->Prop:=Paired λp q=>RelV p.1 q.1/\RelV p.2 q.2
def PPs (X:Cx) (pos:eH) (keys:List (Option bn)) (values:List bn) (n:List (TE×TE)):Prop:=∀(pins:List (Addr×cr)) (s:ax) (e:St) (H:Hp) (Q:List (V×V)->Hp->Prop),Inv X pins e H s->UO n e H Q ->
   wpAny (model X.prog X.w) X.A (evalPairs (pairTrees keys values X.env pos)) (λo s'=>∃t H',Inv X pins e H' s'/\VV t o/\Q t H') X.xe s
theorem sK {X:Cx}{pos:eH}:PPs X pos [] [] []:=λpins s e H Q I h=>pairTrees_nil_walk #[[],H,I,.nil,h]
theorem WZ {X:Cx}{pos:eH}{k v:bn}{ks:List (Option bn)}{vs:List bn}{tk n:TE}{t:List (TE×TE)}(hk:PE X k tk) (p:PE X v n) (hr:PPs X pos ks vs t) :
   PPs X pos (am k::ks) (v::vs) ((tk,n)::t):=λpins s e H Q I h=>
 pairTrees_cons_walk (thn (hk pins s e H _ I h) λu f #[x,o,i,L,N]=>thn (p pins f e o _ i N) λq g #[y,c,r,Z,J]=>
   thn (hr pins g e c _ r J) λT j #[b,m,M,rel,G]=>#[(x,y)::b,m,M,.cons #[L,Z] rel,G])
def JA (kvs more:List (Key×V)):List (Key×V):=more.foldl (λacc kv=>EZ acc kv.1 kv.2) kvs
theorem KV.merge:∀{more:List (Key×V)}{n:List (Key×aw)}{kvs:List (Key×V)}{vs:List (Key×aw)},KV more n->KV kvs vs->KV (JA kvs more) (merged vs n):=by
 intro more n kvs vs r;unfold KV at r;induction r generalizing kvs vs with
 | nil=>intro q;exact q
 | @cons p q Q m h t o=>
   intro i;have e:KV (EZ kvs p.1 p.2) (stored vs q.1 q.2):=by have:=i.put p.1 h.2;rw[<-h.1];exact this
   exact o e
theorem KI:∀(more kvs:List (Key×V)),(JA kvs more).length<=kvs.length+more.length
 | [],kvs=>by show kvs.length<=kvs.length+0;lia
 | p::r,kvs=>by have h1:=KI r (EZ kvs p.1 p.2);have e:=G7 kvs p.1 p.2;show(JA (EZ kvs p.1 p.2) r).length<=_;rw[yR];lia
theorem PY :∀{kvs:List (Key×V)}{T:List (aw×aw)},VV (kvs.map λkv=>(kV kv.1,kv.2)) T->∃e,Carries (AT P w) T e/\KV kvs e
 | [],_,r=>by rw[b8J] at r;cases r;exact#[[],a8Z,.nil]
 | p::kvs,_,r=>by
   rw[zI] at r;cases r with
   | @cons a b as bs h t=> obtain⟨e,c,q⟩:=PY (P:=P) (w:=w) t;obtain⟨k,n⟩:=b;exact#[(p.1,n)::e,#[KH h.1,rfl,c],.cons #[rfl,h.2] q]
def yS (X:List (TE×TE)):TE:=λt H Q=>∀p,H p=ap->UO X t (upd H p (.dK [])) λe c=>c p=am (.dK [])/\∃kvs:List (Key×V),e=kvs.map (λkv=>(kV kv.1,kv.2))/\kvs.length<=15/\Q (.ref p) (upd c p (.dK (JA [] kvs)))
theorem sL {X:Cx}{pos:eH}{keys:List (Option bn)}{values:List bn}{i:List (TE×TE)}(h:PPs X pos keys values i) (O:keys.all (·.isSome)=av) (b:keys.length=values.length) (h0:keys≠[]) (m:keys.length<=15):PE X (.Dict keys values pos) (yS i):=by
 intro pins s u H Q I q;have hn:=I.hok.fresh (zR s.heap.objs.size);have r:=I.laid (a:=s.heap.objs.size) (o:=.dK []) (h':=s.heap.push { cls:=.type "dict", data:=.dict #[] }) (t':=s.toks) (λ_ _ q=>zW _ q) (zR _) (PX s.heap I.big);refine wpAny_Dict_walk (knd:=AT X.prog X.w) O b h0 m (thn (h pins _ u _ _ r (q _ hn)) λS N #[T,v,t,rel,e,kvs,Z,y,J]=>?_);subst Z;obtain⟨k,c,j⟩:=PY (P:=X.prog) (w:=X.w) rel;obtain⟨z,hd,x,g,Y⟩:=WX t.hok e;cases g;refine#[k,c,Y,λh' n hs=>#[.ref s.heap.objs.size,_,?_,rfl,J]];have f:(JA [] kvs).length<=sizeLine:=by have h1:=KI kvs [];rw[a6J] at h1;rw[c3];lia
 have p:∃q,h'.get? s.heap.objs.size=am q:=let #[q,_,_,hq,_]:=n;#[q,hq];exact JX t (by rw[e];exact a8Z) hs p (PV f hd (j.merge .nil) n)
structure M1 (X:Cx) (o:bn) (m:Str) (apos:eH) (e:bn) (ag:eH):Prop where
 base:attributeBase o m X.env (eval o X.env)=eval o X.env
 few:((backTo ag (starEach [e] X.env)).all (λx=>!x.1)&&(backToKw ag (keywordEach [] X.env)).all (λx=>x.1.isSome)
   && decide (([e]:List bn).length+([]:List Keyword).length+(if ([]:List Keyword).isEmpty then 0 else 1) < 30))=av
 line:(apos.endLine==ag.line)=av
 trees:backTo ag (starEach [e] X.env)=[(ay,eval e X.env)]
def IsD (H:Hp) (a:Addr):Prop:=(∃kvs,Rd H a (.dK kvs))\/∃kvs,Rd H a (.dT kvs)
theorem A00 {n:St}(I:Inv X pins n H s) (d:IsD H a) :
   s.TypeIs (.ref a) "dict" /\ (∀b,a0X a = .ref b->∃y,s.heap.get? b=am y/\y.dict=ap)/\(a==da)=false:=by
 rcases d with ⟨kvs,e⟩ | ⟨kvs,e⟩
 . obtain⟨_,hd,o,_,Y⟩:=GZ I.hok e;refine#[Y.typeIs,λb q=>?_,hd];cases q;obtain⟨y,_,_,h1,t,_⟩:=Y;exact#[y,h1,t.2.1]
 . obtain⟨_,hd,i,_,Y⟩:=SW I.hok e;refine#[Y.typeIs,λb q=>?_,hd];cases q;obtain⟨y,_,_,h1,t,_⟩:=Y;exact#[y,h1,t.2.1]
def kW (U ty:TE):TE:=λt H Q=>U t H λx e=>∃a,x = .ref a/\IsD e a/\ty t e λy c=>∃kvs k v,c a=am (.dK kvs)/\y=kV k/\GY kvs k=am v/\Q v (upd c a (.dK (M0 kvs k)))
section
variable {X:Cx}{o e f:bn}{apos ag:eH}{td ty tx:TE}
theorem X0 (ho:PE X o td) (z:PE X e ty) (m:M1 X o "pop" apos e ag):PE X (.Call (.Attribute o "pop" apos) [e] [] ag) (kW td ty):=by intro pins s n H Q I h;refine wpAny_Call_method m.base m.few m.line PySem.F.plainAttrs_dict PySem.F.slot_dict_pop PySem.F.type_dict_pop (thn (ho pins s n H _ I h) λu b #[x,i,t,L,a,p,d,N]=>?_);subst p;obtain rfl:u=a0X a:=L;obtain⟨g,T,_⟩:=A00 t d;refine#[g,T,?_];rw[m.trees];refine b9V rfl (Calls.evalArgs_plain (xN (thn (z pins b n i _ t N) λS D #[y,O,c,Z,kvs,k,v,r,q,l,J]=>Calls.spliced_nil ?_)));subst q;exact A2w c r Z l (.inl rfl) λG B M j=>#[v,_,M,j,J]
end
end L2
namespace Att
open PySem PySem.W PySem.Calls PyProof.Rows
theorem OX :∀(ns:List Int) (vs:List aw),WellAll P h vs (ns.map WData.int)->IntsAre vs ns:=by
 intro ns;induction ns with
 | nil=> intro vs w;rw[b8J] at w;cases w;exact .nil
 | cons n ns e=>
   intro vs w;rw[zI] at w;cases w with
   | cons a b=> cases a;exact .cons _ _ (e _ b)
theorem script_of {l:OpenLaw}(hn:l.most=am n)  (t:l.row.toRowW.claim.pre args=av) (o:WellAll P h vals args) : ∃a vs ns,vals=[a0X a]/\args=[WData.list (ns.map WData.int)]/\h.get? a=am { cls:=.type "list", data:=.seq vs.toArray }/\IntsAre vs ns/\ns.length<=n:=by
 have X:WShape.hasAll [] args [.list .int]=true:=(pre_splitW t).1;have hc:l.pre.holds [] { args:=args }=true:=(pre_splitW t).2;obtain⟨d,r,rfl,h1,m⟩:=hasAllW_cons X;obtain rfl:=hasAllW_nil m;obtain⟨f,rfl,p⟩:=hasW_list h1;obtain⟨ns,rfl⟩:=items_int p;have i:ns.length<=n:=by
   unfold OpenLaw.pre at hc;have e:(WTm.not (.lt (.lit (.int (n:Int))) (.len (.arg 0)))).holds [] { args:=[.list (ns.map .int)] }=true:=by have e:=(holds_andW hc).1;rw[hn] at e;exact e
   have v:=condW_of e (w_not (w_lt w_lit (w_len_list (w_arg rfl))));rw[zX] at v;refine Nat.le_of_not_lt λq=>?_;have b:(n:Int) < ((ns.length:Nat):Int):=by lia
   first
     | (rw[decide_eq_true b] at v;exact absurd v (by decide))
     | (simp at v;lia)
 cases o with
 | cons S c=>
   cases c;cases S with
   | list ho O=>exact#[_,_,ns,rfl,rfl,ho,OX ns _ O,i]
theorem post_true (l:OpenLaw) (args:List WData):l.row.toRowW.claim.post args (.bool av) args=true:=
 postW_of (r:=l.row.toRowW) (X:=(av==av)) (show WShape.has [] (.bool av) .bool=av by first | rfl | decide | simp[WShape.has,WShape.arms,WShape.armsAll])
   (show(WTm.eq .res (.lit (.bool av))).value [] { args:=args,res:=am (.bool av),after:=args }=am (.bool (av==av)) from w_eq_bool (w_res rfl) w_lit) rfl
end Att
namespace L2
open PySem PySem.Spec PyProof.Rows
theorem SY:∀{vs:List aw}{ns:List Int},IntsAre vs ns->Vals (ns.map V.int) vs
 | _,_,.nil=>.nil
 | _,_,.cons n t h=>.cons #[t,rfl] (SY h)
def A01 (H:Hp):Prop:=∀b,H b=ap\/∃o t,H b=am (.frz o (.lst t))
theorem kX {K:Frg} (KX:K.In t.heap) (O:t.heap.Ns bb mg) (hb:t.heap.Ns builtinsNs c) (L:∀x:Str,x ≠ "__name__" -> c x=gg x) (B:t.heap.NoLimit) (hg:t.gens=#[]) (g:t.heap.get? a=am { cls:=.type "list", data:=.seq vs.toArray }) (hi:IntsAre vs ns) (T:ns.length<=aB) (hr:Room k callerA) (F:∀base:ca,K.In base->base.Ns bb mg->FnOk P w K mg base CX k p y [x] sp) (D:∀(s:ax) (u:aw),BindsTo s y #[[u],[]] [(x,u)]) (jn:∀H:Hp,A01 H->SqL K H a (ns.map V.int)->sp [.ref a] H (λv _=>v = .bl av) λ_ _ _=>False) (G:∀H e s',CX [] H t (λ_ _ _=>False) e s'->False) :
   codeAny (model P w) callerA (.call (.ref p) #[[.ref a],[]]) (λr s'=>r = .ok (.ret (.bool av))/\OldK t.heap s'.heap/\s'.os=t.os/\g0 s'.gens) t:=by
 have I:=SY hi;have J:=hi.length;have core:∀H:Hp,A01 H->SqL K H a (ns.map V.int)->HOk P w H t.heap->(∀b,H b≠ap->b=a)->(H a≠ap->K.lookup a=ap) ->
     codeAny (model P w) callerA (.call (.ref p) #[[.ref a],[]]) (λr s'=>r = .ok (.ret (.bool av))/\OldK t.heap s'.heap/\s'.os=t.os/\g0 s'.gens) t:=by
   intro H hO hS hok hA hK;have N:∀{b:Addr}{o:cr},t.heap.get? b=am o->H b=ap->(UE t.heap H).get? b=am o:=λe n=>jX e n;have S:∀{b:Addr}{o:cr}{M:Array DictEntry}{Z:Nat},t.heap.get? b=am o->o.data = .dict M Z->H b=none:=λ{b o M Z} e d=>by
     cases q:H b with
     | none=>rfl
     | some u=> have e':b=a:=hA b (by rw[q];simp);subst e';rw[g] at e;cases e;have Q:Data.seq vs.toArray _=Data.dict M Z:=d;cases Q
   have Y:∀{b:Addr}{m:Str->Option aw},t.heap.Ns b m->(UE t.heap H).Ns b m:=λ{b m} #[o,M,Z,e,d,r]=>#[o,M,Z,N e (S e d),d,r]
   have f:K.In (UE t.heap H):=λb o e=>N (KX b o e) (by
     cases q:H b with
     | none=>rfl
     | some u=> have e':b=a:=hA b (by rw[q];simp);subst e';rw[hK (by rw[q];simp)] at e;cases e);have hM:Mod K mg (UE t.heap H):=#[f,Y O,#[c,Y hb,L],let #[mc,h1,h2]:=B;#[mc,Y h1,h2]]
   have U:Env0 P w K mg (UE t.heap H) callerA [] t H:=#[rfl,hM,λb o e=>rO e,Nat.le_of_eq (fL _ _),trivial,λb hb=>absurd (show b∈([]:List Addr) from hb) (by simp),hok,.of_eq hg]
   refine xM ((F _ f (Y O)).run callerA [] t H #[[.ref a],[]] [.ref a] [.ref a] _ _ hr U (D t (.ref a)) (.cons rfl .nil) (jn H hO hS)) λr s' h=>?_;cases r with
   | error e=>exact(G H e s' h).elim
   | ok fl=>
     cases fl with
     | next=>exact a6W h
     | brk=>exact a6W h
     | cont=>exact a6W h
     | ret u=>
       obtain⟨v,H',os,bare,un,yg,r',q⟩:=h;have q':v = .bl true:=q;subst q';obtain rfl:u=Value.bool true:=r';refine#[rfl,OldK.of_keep λb o e=>?_,os,bare];cases q:H b with
       | none=>exact un.keep b o e q (by intro z;exact absurd (show b∈([]:List Addr) from z) (by simp)) (by simp)
       | some u=>
         rcases hO b with z | ⟨ob,xs,z⟩
         . rw[q] at z;cases z
         . have z2:=un.frzs b ob _ z;obtain⟨j,_⟩:=hok b _ z;obtain⟨X,_⟩:=yg b _ z2;rw[e] at j;cases j;exact X
 cases hk:K.lookup a with
 | some o=> have e:=KX a o hk;rw[g] at e;cases e;refine core (λ_=>ap) (λ_=>.inl rfl) (.inr #[_,vs.toArray,_,hk,rfl,rfl,rfl,by rw[zJ,J];exact T,by simpa using I]) (λb u z=>by have i:(ap:Option HO)=am u:=z;cases i) (λb z=>absurd rfl z) λz=>absurd rfl z
 | none=>
   refine core (λb=>if b=a then am (.frz { cls:=.type "list", data:=.seq vs.toArray } (.lst (ns.map V.int))) else ap) (λb=>?_) (.inl (.inr #[{ cls:=.type "list", data:=.seq vs.toArray },if_pos rfl])) (λb u z=>?_) (λb z=>?_) λ_=>hk
   . by_cases hb:b=a;. exact .inr #[_,_,if_pos hb]
     . exact .inl (if_neg hb)
   . by_cases hb:b=a;. have i:=(if_pos hb).symm.trans z;cases i;subst hb;exact#[g,by rw[zX];exact T,vs,_,I,g]
     . have i:=(if_neg hb).symm.trans z;cases i
   . by_cases hb:b=a;. exact hb
     . exact absurd (if_neg hb) z
def DU (s:ew):Arguments:=match s with
 | .FunctionDef _ a _ _ _ _ _ _ _ _=>a
 | _=>{ posonlyargs:=[],args:=[],vararg:=ap,kwonlyargs:=[],kw_defaults:=[],kwarg:=ap,defaults:=[] }
def BB (s:ew):List Stmt:=match s with
 | .FunctionDef _ _ b _ _ _ _ _ _ _=>b
 | _=>[]
def AB (s:ew):Scope:=match s with
 | .FunctionDef _ _ _ _ _ _ y _ _ _=>y
 | _=>{ kind:=.function,names:=[],isGenerator:=ay,isCoroutine:=ay }
abbrev CX0:CXT:=λ_ _ _ _ _ _=>False
abbrev E0:XK:=λ_ _ _=>False
theorem A2z :ZW CX0 X E0:=λ_ _ _ _ _ _ _ h=>h.elim
structure Fun (K:Frg) (x qual:Str) (st:ew) (f:Addr) (fd:ee):Prop where
 ex:∃(oc:aw) (od:Option Addr) (kV doc pm:aw) (an:Option Addr) (cdv ct:aw) (osl:Array (Option aw)),
   fd=a5Q x qual (DU st) (BB st) (AB st) .none kV doc pm an cdv ct/\K.lookup f=am #[oc,od,.func fd,osl]/\a9K K cdv qual=av
 kp:a3W K (.ref f)=av
section
variable {P:bh}{w:bd}{K:Frg}{mg:Str->Option aw}{base:ca}
theorem Fun.ok {st:ew}(F:Fun K x qual st f e) (S:FnScope N ps (AB st)) (len:∀vs H Q E,sp vs H Q E->vs.length=ps.length) (n:∀(cdv:aw) (A:bv) (outer:List im) (s:ax) (H:Hp) (vs:List V) (Q:VK) (E:XK),Room k (A.deeper (gc qual (AB st) s.heap.objs.size f cdv))->sp vs H Q E ->∃t,PSs (IA CX0 P w K mg base N qual (AB st) f cdv A outer s H E).nox (BB st) t/\t { nx:=λ_ H'=>Q .non H',rt:=Q } (start N vs) H):FnOk P w K mg base CX0 (k+1) f e ps sp:=by obtain⟨u,m,kV,doc,z,c,cdv,I,osl,rfl,o,i⟩:=F.ex;refine xS o i S len λA outer s H vs Q E hr D=>?_;obtain⟨t,h,q⟩:=n cdv A outer s H vs Q E hr D;exact#[t,h.nox,q]
theorem Fun.binds {st:ew}(F:Fun K x qual st f e) (h:∀(kV doc z:aw) (c:Option Addr) (cdv ct:aw) (k:List aw),k.length=ps.length->bindArgs (a5Q x qual (DU st) (BB st) (AB st) .none kV doc z c cdv ct) #[k,[]]=pure (ps.zip k)):Binds K e ps []:=by obtain⟨u,m,kV,doc,z,c,cdv,ct,osl,rfl,t,i⟩:=F.ex;exact .all (h kV doc z c cdv ct)
theorem a8 {x qual:Str}{st:ew}{f:Addr}{u:aw}{m e:Option Addr}{osl:Array (Option aw)}{kV doc z cdv ct:aw}(l:K.lookup f=am #[u,m,.func (a5Q x qual (DU st) (BB st) (AB st) .none kV doc z e cdv ct),osl]) (c:a9K K cdv qual=av) (k:a3W K (.ref f)=av):Fun K x qual st f (a5Q x qual (DU st) (BB st) (AB st) .none kV doc z e cdv ct):=#[#[u,m,kV,doc,z,e,cdv,ct,osl,rfl,l,c],k]
end
section
variable {X:Cx}
theorem pv (i:Nat) {x:Str}{pos:eH}(hN:X.N[i]?=am x:=by rfl) (t:Vis X.env.scope x:=by first | exact Or.inl rfl | exact Or.inr (Or.inl rfl) | exact Or.inr (Or.inr rfl)) (hd:(x==("__debug__":Str))=false:=by decide)
   (e:(x==("__classdict__":Str))=false:=by decide):PE X (.Name x pos) (WO i):=jY hN t hd e
end
theorem kY {A:Prop}(h:B):if ay=av then A else B:=by rw[if_neg nft];exact h
theorem gC {A:Prop}(h:A):if av=av then A else B:=by rw[if_pos rfl];exact h
theorem sM {A:Prop}[Decidable c] (h1:c->A) (e:¬c->B):if c then A else B:=by
 by_cases h:c;. rw[if_pos h];exact h1 h
 . rw[if_neg h];exact e h
end L2
namespace L2
open PySem PySem.Spec PyProof.Rows
def ND (cells:List (Str×Addr)):List (Str×ek)->List (Str×Addr)->List (Str×Addr)
 | [],D=>D
 | (n,k)::r,D=>ND cells r (if k==.free then (match cells.lookup n with | some c=>(n,c)::D | none=>D) else D)
theorem UP (env:im):∀(names:List (Str×ek)) (cs:List (Str×Addr)),(∀y∈names,y.2 = .free->∃c,env.cells.lookup y.1=am c) ->(forIn (m:=Sem) names cs λx r=>do
     let (name,kind):=x
     if (kind==.free)=av then do let c <- cellOf env name;pure (b3Z ((name,c)::r)) else pure (b3Z r))=pure (ND env.cells names cs)
 | [],cs,_=>rfl
 | (n,k)::r,cs,h=>by
   have hr:∀y∈r,y.2 = .free->∃c,env.cells.lookup y.1=am c:=λy hy=>h y (yV _ hy);rw[List.forIn_cons];by_cases hk:(k==a7W)=av;. obtain⟨c,hc⟩:=h (n,k) a0Z (by simpa using hk);have i:env.cells.lookup n=am c:=hc;simp only[hk,if_true,cellOf,i,ND];exact UP env r _ hr
   . simp only[hk,if_false,ND];exact UP env r _ hr
theorem sO (h:∀y∈scope.names,y.2 = .free->∃c,env.cells.lookup y.1=am c):closureFor scope env=pure (ND env.cells scope.names []):=by
 have e:=UP env scope.names [] h;have t:closureFor scope env=((forIn (m:=Sem) scope.names ([]:List (Str×Addr)) λx r=>do
     let (name,kind):=x
     if (kind==.free)=av then do let c <- cellOf env name;pure (b3Z ((name,c)::r)) else pure (b3Z r)) >>= λr=>pure r):=rfl;rw[t,e];rfl
theorem X1 :∀{names:List (Str×ek)}{cs:List (Str×Addr)},(∀p∈cs,cells.lookup p.1=am p.2)->∀p∈ND cells names cs,cells.lookup p.1=am p.2
 | [],_,h=>h
 | (n,k)::r,cs,h=>by
   refine X1 (names:=r) ?_;split
   . cases e:cells.lookup n with
     | none=>exact h
     | some c=>
       intro p hp;rcases yX.mp hp with rfl | hp;. exact e
       . exact h p hp
   . exact h
theorem SZ :∀{names:List (Str×ek)}{cs:List (Str×Addr)}{p:Str×Addr},p∈cs->p∈ND cells names cs
 | [],_,_,h=>h
 | (n,k)::r,cs,p,h=>by
   refine SZ (names:=r) ?_;split
   . cases e:cells.lookup n with
     | none=>exact h
     | some c=>exact yV _ h
   . exact h
theorem X2 (hc:cells.lookup x=am c):∀{names:List (Str×ek)}{cs:List (Str×Addr)},(x,a7W)∈names->(x,c)∈ND cells names cs
 | [],_,h=>absurd h (by simp)
 | (n,k)::r,cs,h=>by
   rcases yX.mp h with e | h;. cases e;refine SZ (names:=r) ?_;simp[hc]
   . exact X2 hc (names:=r) h
theorem PZ {S:Type}:∀{l:List (Str×S)}{x:Str}{c:S},(x,c)∈l->∃t,l.lookup x=am t
 | [],_,_,h=>absurd h (by simp)
 | (n,k)::r,x,c,h=>by
   rw[a3V];cases e:x==n with
   | true=>exact#[k,rfl]
   | false=>
     rcases yX.mp h with e' | h;. cases e';simp at e
     . exact PZ h
theorem CF (h:(ND cells names []).lookup x=am c):cells.lookup x=am c:=
 X1 (names:=names) (cs:=[]) (by simp) (x,c) (a5W h)
structure CSc (X:Cx) (scope:fc) (NC:List Str) (fr:List (Option Nat)):Prop where
 kind:scope.kind = .function
 nocell:∀y∈scope.names,y.2≠.cell
 names:∀y∈scope.names,y.2 = .local->scope.names.lookup y.1=am .local
 free:∀y∈scope.names,y.2 = .free->X.env.kindOf y.1=am .cell\/X.env.kindOf y.1=am .free
 len:fr.length=NC.length
 slot:∀(i j:Nat) (x:Str),NC[i]?=am x->fr[i]?=am (am j)->X.N[j]?=am x/\scope.names.lookup x=am .free/\Vis X.env.scope x/\X.env.kindOf x≠am .local
def capt (e:List (Option Nat)) (t:St):St:=e.map λo=>o.bind λj=>(t[j]?).join
def AU (X:Cx) (scope:fc) (NC:List Str) (C:Addr) (s:ax) (H:Hp) (ex:List Addr) (pn:List (Addr×cr)):Cx where
 prog:=X.prog
 w:=X.w
 K:=X.K
 mg:=X.mg
 base:=X.base
 A:=X.A
 N:=NC
 s₀:=s
 H₀:=H
 env:=compEnvC scope (ND X.env.cells scope.names []) C X.env
 outer:=X.stack
 stack:=X.stack
 ex:=ex
 fn:=λ_=>ay
 calm:=X.calm
 pn:=pn
 xe:=λ_ _=>False
theorem KJ {scope:fc}{env:im}{x:Str}:∀{names:List (Str×ek)},((names.map λ(n,k)=>if (k==a7W&&env.scope.kind==.function&&env.kindOf n==am .cell) then (n,NameKind.cell) else (n,k)).lookup x=am .cell \/(names.map λ(n,k)=>if (k==a7W&&env.scope.kind==.function&&env.kindOf n==am .cell) then (n,NameKind.cell) else (n,k)).lookup x=am .free) ->(∀y∈names,y.2≠.cell)->(x,a7W)∈names
 | [],h,_=>by simp at h
 | (n,k)::r,h,hn=>by
   have t:=@KJ scope env x r;have J:∀y∈r,y.2≠.cell:=λy hy=>hn y (yV _ hy);have hk:=hn (n,k) a0Z;simp only[zI] at h;by_cases hc:(k==a7W&&env.scope.kind==.function&&env.kindOf n==am .cell)=av
   . simp only[hc,if_true,a3V] at h;cases hx:x==n with
     | true=>
       have e:x=n:=by simpa using hx
       have o:k = .free:=by simp at hc;exact hc.1.1
       subst e o;exact a0Z
     | false=> simp only[hx] at h;exact yV _ (t h J)
   . simp only[hc,a3V] at h;cases hx:x==n with
     | true=>
       have e:x=n:=by simpa using hx
       subst e;simp[a3V] at h;rcases h with h | h;. exact absurd h hk
       . subst h;exact a0Z
     | false=> simp[a3V,hx] at h;exact yV _ (t (by simpa using h) J)
section
theorem CSc.has (S:CSc X scope NC fr) (ok:X.Ok):∀y∈scope.names,y.2 = .free->∃c,X.env.cells.lookup y.1=am c:=λy hy e=>ok.has y.1 (S.free y hy e)
theorem CSc.cells (S:CSc X scope NC fr) (ok:X.Ok) (h:(x,a7W)∈scope.names):∃c,(ND X.env.cells scope.names []).lookup x=am c/\X.env.cells.lookup x=am c:=by obtain⟨c,hc⟩:=S.has ok _ h rfl;have i:X.env.cells.lookup x=am c:=hc;obtain⟨e,p⟩:=PZ (X2 i h (cs:=[]));have:=CF p;rw[i] at this;cases this;exact#[_,p,i]
theorem UQ (hn:∀y∈scope.names,y.2 = .local->scope.names.lookup y.1=am .local) (h:(x,a7W)∈scope.names) (m:scope.names.lookup x≠am .free->False):(relabel scope env).names.lookup x=am .cell\/(relabel scope env).names.lookup x=am .free:=by
 have o:scope.names.lookup x=am .free:=by
   cases e:scope.names.lookup x with
   | none=>exact(m (by rw[e];intro z;cases z)).elim
   | some k=>
     cases k <;> first
       | rfl
       | exact(m (by rw[e];intro z;cases z)).elim
 have t:∀(names:List (Str×ek)),names.lookup x=am .free ->((names.map λ(n,k)=>if (k==a7W&&env.scope.kind==.function&&env.kindOf n==am .cell) then (n,NameKind.cell) else (n,k)).lookup x=am .cell \/(names.map λ(n,k)=>if (k==a7W&&env.scope.kind==.function&&env.kindOf n==am .cell) then (n,NameKind.cell) else (n,k)).lookup x=am .free):=by
   intro names;induction names with
   | nil=>intro h;simp at h
   | cons y r i=>
     obtain⟨n,k⟩:=y;intro h;rw[a3V] at h;simp only[zI];cases hx:x==n with
     | true=>
       simp only[hx] at h;cases h;split;. left;simp[a3V,hx]
       . right;simp[a3V,hx]
     | false=>
       simp only[hx] at h;have:=i h;split;. simpa [a3V,hx] using this
       . simpa [a3V,hx] using this
 exact t scope.names o
end
end L2
namespace L2
open PySem PySem.Spec PyProof.Rows
theorem AL {t:Sem S}(h:wpAny M A t Q (λ_ _=>False) s):wpAny M A t Q E s:=
 bc h (λ_ _ q=>q) λ_ _ f=>f.elim
def KZ (ifs:List bn) (env:im):Sem Bool:=forIn ifs av λc r=>if r=av then do let ok <- isTrue c env (eval c env);pure (b3Z ok) else pure (b3Z r)
def UR (prog:bh) (w:bd) (A:bv) (c target:bn) (ifs:List bn) (tl:im->Addr->(ax->Prop)->ax->Prop):Prop:=∀(U D:Addr) (env:im) (R:Result->ax->Prop) (I:Nat->ax->Prop),(∀n s,I n s->wpAny (model prog w) A (pyNext (.ref U)) (λr e=>match r with
     | none=>R (.ok .next) e
     | some v=>wpAny (model prog w) A (letOwnedTupleGo target (.ref U) v) (λ_ k=>wpAny (model prog w) A (h7 target env v) (λ_ Q=>
         wpAny (model prog w) A (KZ ifs env) (λok t=>if ok=av then tl env D (λs'=>∃m,m < n/\I m s') t else ∃m,m < n/\I m t) (λ_ _=>False) Q) (λ_ _=>False) k) (λ_ _=>False) e) (λ_ _=>False) s) ->
   ∀n s,I n s->codeAny (model prog w) A (.compLoop c 0 (.ref U) (.ref D) env) R s
def tlL (prog:bh) (w:bd) (A:bv) (elt:bn):im->Addr->(ax->Prop)->ax->Prop:=λenv D P s=>wpAny (model prog w) A (eval elt env) (λx e=>wpAny (model prog w) A (call (.builtin "list.append") [.ref D,x]) (λ_ t=>P t) (λ_ _=>False) e) (λ_ _=>False) s
theorem sP :UR prog w A (.ListComp elt [#[target,iter,ifs,0]] scope pos) target ifs (tlL prog w A elt):=by
 intro U D env R I turn n s h;refine codeAny_loop rfl I (λn s hI=>?_) n h;show wpAny _ A ((compTurn (.ListComp elt [#[target,iter,ifs,0]] scope pos) 0 (.ref U) (.ref D) env).onRaise (λx=>do gl x env;theTreesLotGoes x)) _ _ s;refine wpAny_noted ?_;rw[compTurn_list];refine zZ (bt (zZ (bc (AL (turn n s hI)) (λr o j=>?_) λ_ _ p=>p)));cases r with
 | none=>exact zY j
 | some v=>
   refine zZ (bc (AL j) (λ_ k e=>?_) λ_ _ p=>p);refine zZ (bc (AL e) (λ_ i Q=>zZ (bc (AL Q) (λok b t=>?_) λ_ _ p=>p)) λ_ _ p=>p);cases ok with
   | false=>exact zY #[rfl,t]
   | true=> exact zZ (zZ (bc (AL t) (λx c m=>zZ (bc (AL m) (λ_ f Y=>zY (zY #[rfl,Y])) λ_ _ p=>p)) λ_ _ p=>p))
def PTs (X:Cx) (ifs:List bn) (t:TT):Prop:=∀(pins:List (Addr×cr)) (s:ax) (e:St) (H:Hp) (Q:Bool->Hp->Prop),Inv X pins e H s->t e H Q->wpAny (model X.prog X.w) X.A (KZ ifs X.env) (TP X pins e Q) X.xe s
def sQ:TT:=λ_ H Q=>Q av H
theorem cP {X:Cx}:PTs X [] sQ:=λ_ _ _ H _ I h=>wpAny_tests_nil #[H,I,h]
theorem sR {X:Cx}{c:bn}{t:TT}(h:PT X c t):PTs X [c] t:=λpins s e H Q I q=>wpAny_tests_one (h pins s e H Q I q)
def OG (f:List (Option Nat)) (U:TI) (g:TG) (q:TT) (k:TE):TE:=λn H Q=>U n H λJ o=>∀D,o D=ap->∃W:Nat->Nat->List V->Hp->Prop,(∃m,W 0 m [] (upd o D (.lst []))) /\∀i m h t,W i m h t->t D=am (.lst h)/\((J.stop i t/\Q (.ref D) t)\/(J.go i t/\∀x r,J.yld i t x r->g x (capt f n) r λe j=>
   (∀(i:Nat) v,(capt f n)[i]?=am (am v)->e[i]?=am (am v))/\q e j λc p=>if c=av then k e p λy S=>∃G,S D=am (.lst G)/\G.length < aB/\∃b,b < m/\W (i+1) b (G++[y]) (upd S D (.lst (G++[y])))
     else ∃G b,b < m/\W (i+1) b G p))
section
variable {X:Cx}{scope:fc}{NC:List Str}{fr:List (Option Nat)}{pins:List (Addr×cr)}{σ:St}{H:Hp}{s:ax}
theorem a9 {f:List Addr}(S:CSc X scope NC fr) (I:Inv X pins σ H s) (Z:∀b∈f,LX X pins H b) (B:∀b∈f,b < s.heap.objs.size) (pz:h1.Ns s.heap.objs.size m) (hk:∀b o,s.heap.get? b=am o->h1.get? b=am o) :
   Inv (AU X scope NC s.heap.objs.size s H f (X.pn++pins)) [] (capt fr σ) H { s with heap:=h1,toks:=tk }:=by
 have n:Inv X pins σ H { s with heap:=h1,toks:=tk }:=I.kept hk;have N:∀b,b≠X.env.locals->b∉X.fs->b∉frs X.stack:=λb h1 T z=>(yX.mp (I.stkSub b z)).elim h1 T;refine#[#[I.ok.mod,S.kind,I.ok.glob,I.ok.blt,zR _,λx y c h1 T=>I.ok.inj x y c (CF h1) (CF T),λx hx=>?_,λx c h=>absurd h (by intro z;cases z),I.ok.hd,I.ok.frames,.inl rfl,λb hb=>?_,I.bs,zN I.ok.bsz I.sz,λb o e hb=>?_,λb hb=>?_,I.stack,I.stkFree],
   rfl,I.bare,Un.kept hk,#[m,pz,λi x v G t e3=>?_],λx c e=>n.cell x c (CF e),I.hok.fresh (zR _),λx c e=>n.freeC x c (CF e),λp hp=>?_,n.hok,?_]
 . have pq:=KJ (scope:=scope) (env:=X.env) (x:=x) (names:=scope.names) hx S.nocell;obtain⟨c,h,_⟩:=S.cells I.ok pq;exact#[c,h]
 . exact#[zC (B b hb),λx c e=>(Z b hb).2.2.2.2.1 x c (CF e)]
 . rcases (Z b hb).2.2.2.1 with z | z;. exact I.ok.noex b o e z
   . exact absurd (zP (zM e) (zN I.ok.bsz z)) (yF _)
 . exact N b (Z b hb).2.1 (Z b hb).2.2.1
 . have D:∃j,fr[i]?=am (am j)/\σ[j]?=am (am v):=by
     unfold capt at t;rw[zF] at t;cases O:fr[i]? with
     | none=>rw[O] at t;cases t
     | some o=>
       rw[O] at t;cases o with
       | none=>cases t
       | some j=>
         refine#[j,rfl,?_];have t:((σ[j]?).join)=am v:=Option.some.inj t;cases hs:σ[j]? with
         | none=>rw[hs] at t;cases t
         | some q=>rw[hs] at t;cases q with
           | none=>cases t
           | some v'=>cases t;rfl
   obtain⟨j,L,Q⟩:=D;obtain⟨U,g,Y,g4⟩:=S.slot i j x G L;obtain⟨m',cw,lh⟩:=n.loc;obtain⟨u,r,l⟩:=lh j x v U Q Y;rcases l with ⟨k,_⟩ | ⟨k,c,hc,ja⟩
   . exact absurd k g4
   . obtain⟨c',q1,J⟩:=S.cells I.ok (a5W g);rw[hc] at J;cases J;exact#[u,r,.inr #[UQ S.names (a5W g) (λz=>z g),c,q1,ja]]
 . have M:p∈X.pn++pins:=by rw[a2Q] at hp;exact hp
   obtain⟨p1,p2,p3,p4,p5⟩:=n.pin p M;exact#[p1,p2,zC (zM (I.pin p M).1),N _ p3 p4,p5]
 . unfold capt;rw[zX];exact S.len
def z0 (fr:List (Option Nat)) (U:TI) (g:TG) (h:TT) {Y:Type}(y0:Y) (at_:Y->HO) (el:Addr->Nat->(Nat->Y->Hp->Prop)->St->Hp->Prop):TE:=λσ H Q=>U σ H λJ n=>∀D,n D=ap->∃W:Nat->Nat->Y->Hp->Prop,(∃m,W 0 m y0 (upd n D (at_ y0))) /\∀i m f t,W i m f t->t D=am (at_ f)/\((J.stop i t/\Q (.ref D) t)\/(J.go i t/\∀x o,J.yld i t x o->g x (capt fr σ) o λe p=>
   (∀(i:Nat) v,(capt fr σ)[i]?=am (am v)->e[i]?=am (am v))/\h e p λc r=>if c=av then el D m (W (i+1)) e r else ∃G b,b < m/\W (i+1) b G r))
def A02 (X:Cx) (pins:List (Addr×cr)) (σ:St) (use:Option (aw->Sem Unit)) (Q:VK) (QQ:aw->ax->Prop):Prop:=∀(D C:Addr) (H':Hp) (s':ax) (m:Str->Option aw) (t:cr),Inv X (pins++[(C,t)]) σ H' s'->s'.heap.Ns C m->Q (.ref D) H' ->(∀(q:List (Addr×cr)) (e:St) (c:Hp) (n:ax) (o:ca),Inv X (pins++[(C,t)]) e c n->Heap.SameBut C n.heap o->Inv X pins e c { n with heap:=o }) ->
     s'.heap.get? C=am t ->
     match use with
     | none=>∀p,Heap.SameBut C s'.heap p->QQ (.ref D) { s' with heap:=p }
     | some u=>wpAny (model X.prog X.w) X.A (u (.ref D)) (λ_ I=>∃m,I.heap.Ns C m/\∀p,Heap.SameBut C I.heap p->QQ .none { I with heap:=p }) X.xe s'
theorem NE {L iter tg:bn}{ifs:List bn}{ag:eH}{wi:TI}{g:TG}{tt:TT}{Y:Type}{y0:Y}{at_:Y->HO}{Ty:String}{dt:Data}{mk:Sem aw}{tl:im->Addr->(ax->Prop)->ax->Prop}{el:Addr->Nat->(Nat->Y->Hp->Prop)->St->Hp->Prop}{use:Option (aw->Sem Unit)}{Q:VK}{QQ:aw->ax->Prop} {gs:List Comprehension}(vw:clausesOf L=#[tg,iter,ifs,0]::gs) (zk:mk=newObj (.type Ty) dt ap) (hsz:sizeOk dt) (Cn:∀(H:Hp) (h:ca),da < h.objs.size->ObjOk X.prog X.w H (h.push { cls:=.type Ty,dict:=ap,data:=dt }) h.objs.size (at_ y0)) (Le:UR X.prog X.w X.A L tg ifs tl) (bx:∀{it acc:aw}{env:im}{R:Result->ax->Prop}{s:ax},codeAny (model X.prog X.w) X.A (.compLoop L 0 it acc env) R s->wpAny (model X.prog X.w) X.A (pyIter it) (λAm s'=>codeAny (model X.prog X.w) X.A (.compLoop L 0 Am acc env) R s') (notedBy (model X.prog X.w) X.A env λx s'=>R (.error x) s') s->codeAny (model X.prog X.w) X.A (.compStart L 0 it acc env) R s) (hc:X.calm=av) (S:CSc X scope NC fr) (hi:PI X tg iter wi) (hb:∀(C:Addr) (s:ax) (H:Hp) (ex:List Addr) (pn:List (Addr×cr)),PG (AU X scope NC C s H ex pn) tg g/\PTs (AU X scope NC C s H ex pn) ifs tt/\∀(vy:List (Addr×cr)) (s':ax) (σ:St) (H':Hp) (D:Addr) (n:Nat) (W:Nat->Y->Hp->Prop) (P:ax->Prop),Inv (AU X scope NC C s H ex pn) vy σ H' s'->el D n W σ H'->(∀m y N t,m < n->W m y N->Inv (AU X scope NC C s H ex pn) vy σ N t->P t)->tl (AU X scope NC C s H ex pn).env D P s') (I:Inv X pins σ H s) (h:z0 fr wi g tt y0 at_ el σ H Q) (fin:A02 X pins σ use Q QQ) (hs:∀x,bw iter X.env x=pure x) :
   wpAny (model X.prog X.w) X.A (g8 L scope X.env ag mk ay (eval iter X.env) use) QQ X.xe s:=by
 refine wpAny_comprehension_free (use:=use) vw hs (sO (S.has I.ok)) S.kind S.names (thn (hi pins s σ H _ I h) λv s1 h1=>thn h1 λCi t h2=>?_);obtain⟨it,j,tn,J,N,e,I2,T,gv,f2,hq⟩:=h2;subst e;have Lf:N t.heap.objs.size=none:=I2.hok.fresh (zR _);obtain⟨W,⟨m0,w0⟩,turn⟩:=hq t.heap.objs.size Lf;rw[zk];refine xL (hd:=hsz) (wpAny_newFunctionEnv S.nocell (by intro y hy;simp at hy) (λk wg wj=>?_) S.kind);dsimp only at wg wj ⊢;generalize hs3:({ t with heap:=t.heap.push { cls:=.type Ty,dict:=ap,data:=dt } }:ax)=M;have Co:t.heap.push { cls:=.type Ty,dict:=ap,data:=dt }=M.heap:=by rw[<-hs3]
 have B:Inv X pins σ (upd N t.heap.objs.size (at_ y0)) M:=by rw[<-hs3];refine I2.laid (t':=t.toks) (λb u e=>zW _ e) (zR _) ?_;exact Cn _ _ I2.big
 rw[Co] at wg wj ⊢;have Lg:M.heap.objs.size=t.heap.objs.size+1:=by rw[<-Co,a9Z]
 have Gw:∀b∈j,b < t.heap.objs.size:=λb hb=>by obtain⟨o,e,_⟩:=T.obj _ _ gv b hb;exact zM e
 have Gx:∀b∈j,b < M.heap.objs.size:=λb hb=>by rw[Lg];exact b9Z (Gw b hb)
 have U:∀b∈j,LX X pins (upd N t.heap.objs.size (at_ y0)) b:=λb hb=>#[by rw[AG (zC (Gw b hb))];exact(f2 b hb).1,(f2 b hb).2]
 have tw:∀b o,M.heap.get? b=am o->k.get? b=am o:=λb o e=>wj.extBut b o (zC (zM e)) (zW _ e);generalize hC:M.heap.objs.size=C at wg wj ⊢;have I0:Inv (AU X scope NC C M (upd N t.heap.objs.size (at_ y0)) j (X.pn++pins)) [] (capt fr σ) (upd N t.heap.objs.size (at_ y0)) { t with heap:=k,toks:=t.toks+([]:List (Str×aw)).length }:=by have:=a9 (tk:=t.toks+([]:List (Str×aw)).length) (h1:=k) S B U Gx (hC▸wg) tw;rw[hC] at this;rw[<-hs3] at this;rw[<-hs3];exact this
 obtain⟨Gy,Cp,Gz⟩:=hb C M (upd N t.heap.objs.size (at_ y0)) j (X.pn++pins);generalize hX':AU X scope NC C M (upd N t.heap.objs.size (at_ y0)) j (X.pn++pins)=f at I0 Gy Cp Gz;have eP:f.prog=X.prog:=by rw[<-hX'];rfl
 have eW:f.w=X.w:=by rw[<-hX'];rfl
 have eK:f.K=X.K:=by rw[<-hX'];rfl
 have eA:f.A=X.A:=by rw[<-hX'];rfl
 have eE:f.env=compEnvC scope (ND X.env.cells scope.names []) C X.env:=by rw[<-hX'];rfl
 have eX:f.xe=λ_ _=>False:=by rw[<-hX'];rfl
 have ec:f.calm=true:=by rw[<-hX'];exact hc
 have stat:∀{H':Hp},(∀b∈j,H' b=ap)->∀b∈j,LX f [] H' b:=λ{H'} hn b hb=>by obtain⟨q1,q2,q3,q4,q5,q6⟩:=U b hb;rw[<-hX'];exact#[hn b hb,by show b≠C;rw[<-hC];exact zC (Gx b hb),λz=>(yX.mp (B.stkSub b z)).elim q2 q3,.inl hb,λx c e=>q5 x c (CF e),λp hp=>q6 p (by rw[a2Q] at hp;exact hp)]
 have ends:∀(i m:Nat) (G:Y) (H':Hp) (s':ax),Inv f [] (capt fr σ) H' s'->Q (.ref t.heap.objs.size) H' ->
     compPost (model X.prog X.w) X.A X.xe use QQ (.ref t.heap.objs.size) C (.ok .next) s':=by
   intro i m G H' s' O q';have eC:f.env.locals=C:=by rw[eE];rfl
   obtain⟨mC,Cq,_⟩:=O.loc;rw[eC] at Cq;have Lh:H' C=none:=by have:=O.free;rw[eC] at this;exact this
   have un:Un (frs X.stack) j (upd N t.heap.objs.size (at_ y0)) H' M.heap s'.heap:=by have:=O.base;rw[<-hX'] at this;exact this
   have Dx:s'.os=M.os:=by have:=O.os;rw[<-hX'] at this;exact this
   have yg:HOk X.prog X.w H' s'.heap:=by have:=O.hok;rw[eP,eW] at this;exact this
   have An:Inv X pins σ H' s':=B.call' (ch:=j) Dx un yg O.bare λb hb=>#[(U b hb).2.2.2.1,(U b hb).2.1,(U b hb).2.2.2.2.1,(U b hb).2.2.2.2.2]
   have C1:C≠X.env.locals:=by rw[<-hC];exact a9Q B.lt
   have C2:C∉X.fs:=by rw[<-hC];exact B.nofs (zR _)
   have C3:X.s₀.heap.objs.size<=C:=by rw[<-hC];exact B.sz
   have C4:∀x c,X.env.cells.lookup x=am c->c≠C:=λx c e z=>by obtain⟨v,q⟩:=B.cell x c e;rw[z,<-hC] at q;exact absurd q.lt (yF _)
   have C5:∀p∈X.pn++pins,p.1≠C:=λp hp z=>by have:=zM (B.pin p hp).1;rw[z,<-hC] at this;exact absurd this (yF _)
   obtain⟨oC,Pr,Pt,zl,Li,Pu⟩:=id Cq;have Ec:Inv X (pins++[(C,oC)]) σ H' s':=An.pins_of λp hp=>(yW.mp hp).elim (λz=>An.pin p (zB _ z)) λz=>by
     have e:p=(C,oC):=by simpa using z
     subst e;exact⟨zl,Lh,C1,C2,λv z=>by rw[Li] at z;cases z⟩
   have res:=fin t.heap.objs.size C H' s' mC oC Ec Cq q' (λ_ σ2 H3 s4 h4 I4 sb=>by have J4:Inv X pins σ2 H3 s4:=I4.unpinned;have Lj:H3 C=none:=(I4.pin (C,oC) (zB _ (zB _ (by simp)))).2.1;exact J4.turned (t':=s4.toks) (it:=C) (λb o hb e=>sb.extBut b o hb e) Lj C1 (.inr C3) C4 C5) zl;cases use with
   | none=>exact#[mC,Cq,res]
   | some u=>exact res
 have loop:∀s':ax,s'={ t with heap:=k,toks:=t.toks+([]:List (Str×aw)).length } ->
     codeAny (model X.prog X.w) X.A (.compLoop L 0 (.ref it) (.ref t.heap.objs.size) (compEnvC scope (ND X.env.cells scope.names []) C X.env)) (compPost (model X.prog X.w) X.A X.xe use QQ (.ref t.heap.objs.size) C) s':=by
   rintro s' rfl;refine Le _ _ _ _ (λn s'=>∃i G H',Inv f [] (capt fr σ) H' s'/\tn i s'.heap/\(∀b∈j,H' b=ap)/\W i n G H') ?_ m0 _ #[0,y0,_,I0,T.keep _ _ _ gv (λb hb o e=>tw b o (by rw[<-Co];exact zW _ e)),λb hb=>(U b hb).1,w0];rintro n s5 ⟨i,G,H5,I5,jb,zj,w5⟩;obtain⟨hD5,Ao⟩:=turn i n G H5 w5;rcases Ao with ⟨stop,qn⟩ | ⟨go,step⟩
   . have:=T.done f eP eW eK ec i [] s5 (capt fr σ) H5 (λ_ _=>False) I5 (stat zj) jb stop;rw[eA] at this;refine thn this ?_;rintro r s6 ⟨hr,I6⟩;subst hr;exact ends i n G H5 s6 I6 qn
   . have:=T.item f eP eW eK ec i [] s5 (capt fr σ) H5 (λ_ _=>False) I5 (stat zj) jb go;rw[eA] at this;refine thn this ?_;rintro r s6 ⟨u,hr,h6⟩;subst hr;refine thn h6 ?_;rintro _ s7 ⟨x,H7,I7,r7,y7,xk,Lk⟩;have Ll:=I7.pinned (stat Lk) (T.obj _ _ xk);have Ap:=Gy _ s7 (capt fr σ) H7 x u _ Ll r7 (step x H7 y7);rw[eP,eW,eA,eE,eX] at Ap;refine thn Ap ?_;rintro _ s8 ⟨Z,H8,I8,Ed,q8⟩;have Aq:=Cp _ s8 Z H8 _ I8 q8;rw[eP,eW,eA,eE,eX] at Aq;refine thn Aq ?_;rintro ok s9 ⟨H9,I9,q9⟩;have weak:∀{H':Hp}{s':ax},Inv f ([]++PL j s7.heap) Z H' s'->Inv f [] (capt fr σ) H' s'/\tn (i+1) s'.heap/\∀b∈j,H' b=none:=λ{H' s'} O=>by refine#[O.unpinned.weak (by rw[O.len];rw[I0.len]) Ed,T.keep _ _ _ xk λb hb o e=>(O.pin (b,o) (zB _ (zB _ (E4 hb e)))).1,λb hb=>?_];obtain⟨o,e,d⟩:=T.obj _ _ xk b hb;exact(O.pin (b,o) (zB _ (zB _ (E4 hb e)))).2.1
     cases ok with
     | false=> rw[if_neg nft] at q9;obtain⟨cu,m',wl,w'⟩:=q9;obtain⟨a1,a2,a3⟩:=weak I9;exact#[m',wl,i+1,cu,H9,a1,a2,a3,w']
     | true=>
       rw[if_pos rfl] at q9;have Cr:=Gz _ s9 Z H9 _ n (W (i+1)) (λs'=>∃Ar,Ar < n/\∃i G H',Inv f [] (capt fr σ) H' s'/\tn i s'.heap/\(∀b∈j,H' b=ap)/\W i Ar G H') I9 q9 λm y N t hm w' O=>by obtain⟨a1,a2,a3⟩:=weak O;exact#[m,hm,i+1,y,N,a1,a2,a3,w']
       rw[eE] at Cr;exact Cr
 refine bx (loop _ rfl) (T.self _ 0 _ _ _ ?_ (loop _ rfl));exact T.keep _ _ _ gv (λb hb o e=>tw b o (by rw[<-Co];exact zW _ e))
theorem X3 (hc:X.calm=av) (S:CSc X scope NC fr) (hi:PI X t iter U) (hb:∀(C:Addr) (s:ax) (H:Hp) (f:List Addr) (pn:List (Addr×cr)),PG (AU X scope NC C s H f pn) t g/\PTs (AU X scope NC C s H f pn) ifs r/\PE (AU X scope NC C s H f pn) elt e) (I:Inv X pins σ H s) (h:OG fr U g r e σ H Q) (fin:A02 X pins σ use Q QQ) (hs:∀x,bw iter X.env x=pure x) :
   wpAny (model X.prog X.w) X.A (g8 (.ListComp elt [#[t,iter,ifs,0]] scope pos) scope X.env L (newList []) ay (eval iter X.env) use) QQ X.xe s:=by refine NE (y0:=[]) (at_:=.lst) (Ty:= "list") (dt:=.seq #[]) (tl:=tlL X.prog X.w X.A elt) (el:=λD m W o T=>e o T λy i=>∃G,i D=am (.lst G)/\G.length < aB/\∃b,b < m/\W b (G++[y]) (upd i D (.lst (G++[y])))) rfl rfl (by size_fits) (λH h _=>#[xR _,[],0,.nil,yZ _ rfl]) sP codeAny_compStart_list hc S hi (λC s H f pn=>#[(hb C s H f pn).1,(hb C s H f pn).2.1,λvy s' σ H' D n W P I q k=>?_]) I h fin hs;refine thn ((hb C s H f pn).2.2 _ s' σ H' _ I q) ?_;rintro y c ⟨p,j,u,J,G,hD,hsz,b,O,N⟩;exact thn (NB _ c σ j (.ref D) [p] (.ref D) [y] (λ_ H'=>∃b,b < n/\W b (G++[p]) H') u rfl (.cons J .nil) #[_,G,p,rfl,rfl,hD,hsz,b,O,N]) (by rintro _ Y ⟨_,Z,v,_,B,M,z⟩;exact k _ _ _ _ M z v)
end
end L2
namespace L2
open PySem PySem.Spec PyProof.Rows
section
variable {X:Cx}{scope:fc}{NC:List Str}{fr:List (Option Nat)}{elt iter tg:bn}{ifs:List bn}{pos:eH}{wi:TI}{g:TG}{tt:TT}{te:TE}
theorem sS (hc:X.calm=av) (S:CSc X scope NC fr) (hi:PI X tg iter wi) (hb:∀(C:Addr) (s:ax) (H:Hp) (f:List Addr) (pn:List (Addr×cr)),PG (AU X scope NC C s H f pn) tg g/\PTs (AU X scope NC C s H f pn) ifs tt/\PE (AU X scope NC C s H f pn) elt te) (hs:∀x,bw iter X.env x=pure x:=by intro _;rfl):PE X (.ListComp elt [#[tg,iter,ifs,0]] scope pos) (OG fr wi g tt te):=by intro pins s n H Q I h;rw[eval_ListComp];refine X3 (use:=ap) (Q:=Q) hc S hi hb I h (λD C H' s' m o e hn q back _ p t=>?_) hs;exact#[.ref D,H',back pins n H' s' p e t,rfl,q]
theorem sU {i:Nat}{x:Str}{z j:eH}(hc:X.calm=av) (hN:X.N.Nodup) (zm:X.N[i]?=am x) (hx:Loc X.env.scope x) (S:CSc X scope NC fr) (hi:PI X tg iter wi) (hb:∀(C:Addr) (s:ax) (H:Hp) (f:List Addr) (pn:List (Addr×cr)),PG (AU X scope NC C s H f pn) tg g/\PTs (AU X scope NC C s H f pn) ifs tt/\PE (AU X scope NC C s H f pn) elt te) (U:gj (.ListComp elt [#[tg,iter,ifs,0]] scope pos) (am (.Name x z)) j.line X.env=pure av) (O:X.fn x=av\/X.env.scope.names.lookup x=am .local:=by first | exact .inl rfl | exact .inr rfl | assumption)
   (hs:∀x,bw iter X.env x=pure x:=by intro _;rfl) :
   PS X (.Assign [.Name x z] (.ListComp elt [#[tg,iter,ifs,0]] scope pos) j) (λD e H=>OG fr wi g tt te e H λv H'=>D.nx (e.set i (am v)) H'):=by intro pins s e H D I h;rw[exec_Assign_Name_used _ _ _ _ U];refine zZ (bt (zZ ?_));show wpAny _ X.A (do let _ <- g8 (.ListComp elt [#[tg,iter,ifs,0]] scope pos) scope X.env _ (newList []) ay (eval iter X.env) (am (h7 (.Name x z) X.env))) _ _ s;refine zZ (thn (X3 (use:=am (h7 (.Name x z) X.env)) (Q:=λv H'=>D.nx (e.set i (am v)) H') (QQ:=λ_ s'=>∃b H',Inv X pins b H' s'/\D.nx b H') hc S hi hb I h (λA C H' s' m n u hn q back Y=>?_) hs) λ_ s' hq=>zY (zY hq));have y:=UG (X:=X) (pos:=z) hN zm hx O (pins++[(C,n)]) s' e H' (.ref A) (.ref A) (λb H'=>D.nx b H') u rfl q;refine thn y ?_;rintro _ p ⟨t,c,o,J⟩;have k:p.heap.get? C=am n:=(o.pin (C,n) (zB _ (zB _ (by simp)))).1;obtain⟨o',M,Z,r,G,B⟩:=hn;rw[Y] at r;cases r;exact#[m,#[_,M,Z,k,G,B],λT L=>#[t,c,back pins t c p T o L,J]]
end
def Its (x:Str):It:=#[λi _=>i < x.cps.size,λi H v H'=>H'=H/\∃c,x.cps[i]?=am c/\v = .str #[(y9 [c])],λi _=>i=x.cps.size]
theorem X4 {P:bh}{w:bd}{K:Frg}{tg:bn}(it:Addr) (ty:String) (x:Str) (t:Tok) (Aj:["enumerate","zip","dict_itemiterator","dict_reverseitemiterator","odict_iterator","itertools.zip_longest","itertools.pairwise"].contains ty=ay) (W:∀A:bv,A.handled=ap->Walks P w A it [it] [it] x.cps.size (SignAt x) (λi h=>h.IsStrIter it ty x t i)) (Au:∀(A:bv) (i:Nat) (s:ax) (Q:aw->ax->Prop) (E:aw->ax->Prop),s.heap.IsStrIter it ty x t i->Q (.ref it) s->wpAny (model P w) A (pyIter (.ref it)) Q E s) :
   Turn P w K tg (Its x) [it] it (λi h=>h.IsStrIter it ty x t i) where
 mem:=by simp
 obj:=λi h st b hb=>by
   have e:b=it:=by simpa using hb
   subst e;obtain⟨o,e,c,d⟩:=st;exact⟨o,e,λv z=>by rw[d] at z;cases z⟩
 keep:=λi h h' st k=>by obtain⟨o,e,r⟩:=st;exact#[o,k it (by simp) o e,r]
 item:=by intro X hP hw hK hc i pins s σ H E I hf st hg;subst hP hw hK;obtain⟨f0,f1,f2,f3,f4,f5⟩:=hf it (by simp);refine(W X.A (I.ok.hd hc)).item i s _ _ hg st λv h' tk hv dz kk=>?_;obtain⟨c,u,Em,rfl⟩:=hv;have I1:Inv X pins σ H { s with heap:=h',toks:=tk }:=I.turned (λb o hb e=>kk b o (by simpa using hb) e) f0 f1 f3 f4 f5;obtain⟨o,e,c',d⟩:=id dz;exact#[_,rfl,WQ (s:={ s with heap:=h',toks:=tk }) e c' d Aj #[.str #[(y9 [c])],H,I1,#[u,rfl],#[rfl,c,Em,rfl],dz,λb hb=>(hf b hb).1]]
 done:=by intro X hP hw hK hc i pins s σ H E I hf st hg;subst hP hw hK;obtain⟨f0,f1,f2,f3,f4,f5⟩:=hf it (by simp);have hi:i=x.cps.size:=hg;subst hi;refine(W X.A (I.ok.hd hc)).done s _ _ st λh' tk kk=>#[rfl,I.turned (λb o hb e=>kk b o (by simpa using hb) e) f0 f1 f3 f4 f5]
 self:=Au
theorem US (bs:List Bool):(a0K bs.length).all (λi=>(bs[i]?).getD ay)=bs.all id:=by
 rw[a4J,b0X,b0X];constructor;. intro h b hb;obtain⟨i,hi,rfl⟩:=List.mem_iff_getElem.mp hb;have:=h i (by simpa using hi);simpa [hi] using this
 . intro h i hi;have hi:i < bs.length:=by simpa using hi
   have:=h bs[i] (a3J hi);simpa [hi] using this
section
variable {X:Cx}
theorem sV {bs:List Bool}{y:List aw}(r:Vals (bs.map V.bl) y) {i:Nat}{v:aw}(h:y.toArray[i]?=am v):v = .bool ((bs[i]?).getD ay):=by
 have p:y[i]?=am v:=by simpa using h
 have m:i < y.length:=(yT.mp p).1;have e:=r.length;rw[zX] at e;have hb:(bs.map V.bl)[i]?=am (V.bl bs[i]):=by rw[zF];simp[show i < bs.length by omega]
 obtain⟨u,hu,t⟩:=r.get hb;rw[p] at hu;cases hu;simp[show i < bs.length by omega];exact t
def A4A (X:Cx):List V->Hp->VK->Prop:=λt H Q=>∃(p:Addr) (bs:List Bool),t=[.ref p]/\SqL X.K H p (bs.map V.bl)/\Q (.bl (bs.all id)) H
theorem kZ (hc:X.calm=av):C7 X (.builtin "all") (A4A X):=by
 intro pins s M H S O Q I r h;obtain⟨p,bs,rfl,hp,q⟩:=h;obtain⟨u,rfl,k⟩:=J7 r;cases k;obtain⟨y,f,t,N⟩:=I.list hp;have g:p≠s.heap.objs.size:=by obtain⟨o,n,e,_⟩:=t;exact zC (zM e)
 have m:=f.length;rw[zX] at m;refine call_all_walk (wpAny_pyIter_list t.isList ?_);refine#[s.heap.objs.size,_,_,_,_,_,λi=>(bs[i]?).getD ay,rfl,Walks.list (show X.A.in1.handled=ap from I.ok.hd hc) s.heap.objs.size p g y.toArray,#[#[_,yZ _ rfl,rfl,rfl],?_],λi v s' z G j hq=>?_,λT x hk=>?_];. obtain⟨o,n,e,c,d,Y⟩:=t;exact#[o,zW _ e,c,n,Y]
 . rw[sV f j];exact cN hq
 . refine#[.bl (bs.all id),H,?_,?_,q];. exact I.kept (t':=x) λb o e=>hk b o (by simp;exact zC (zM e)) (zW _ e)
   . rw[zJ,<-m,US];rfl
def A03:V->Option Int->Option Int->Hp->VK->Prop:=λx I hi H Q=>∃y,x = .str y/\y.length<=aB/\Q (.str (b0Z y I hi)) H
theorem A04:SlR X A03:=by
 intro pins s g H x v c f b hi sl Q I L hs p r h;obtain⟨y,rfl,e,q⟩:=h;obtain⟨t,rfl⟩:=L;refine#["str", _,F.slot_str_getitem.lookup,typeIs_str _ _ _,?_];cases p with
 | none=>
   cases r with
   | none=>exact fb (l:=ap) (u:=ap) (st:=ap) hs rfl (io #[zN (Txt.slice_le y _ _) e,λn k=>#[.str _,H,I.tok _,#[_,rfl],q]])
   | int j o=>exact fb (l:=ap) (u:=am (j,o)) (st:=ap) hs rfl (io #[zN (Txt.slice_le y _ _) e,λn k=>#[.str _,H,I.tok _,#[_,rfl],q]])
 | int i m=>
   cases r with
   | none=>exact fb (l:=am (i,m)) (u:=ap) (st:=ap) hs rfl (io #[zN (Txt.slice_le y _ _) e,λn k=>#[.str _,H,I.tok _,#[_,rfl],q]])
   | int j o=>exact fb (l:=am (i,m)) (u:=am (j,o)) (st:=ap) hs rfl (io #[zN (Txt.slice_le y _ _) e,λn k=>#[.str _,H,I.tok _,#[_,rfl],q]])
theorem P3:∀{ys:List Str}{e:List aw},Vals (ys.map V.str) e->StrsAre e ys
 | [],_,.nil=>.nil
 | y::r,_,.cons h t=>by obtain⟨n,rfl⟩:=h;exact .cons y n (P3 t)
def l0 (K:Frg):V->List V->Hp->VK->Prop:=λx t H Q=>∃(y:Str) (p:Addr) (f:List Str),x = .str y/\t=[.ref p]/\SqL K H p (f.map V.str)/\(f.map (·.length)).sum+f.length*y.length<=16777216/\Q (.str (Txt.join y f)) H
theorem sW:MtR X "str.join" (l0 X.K):=by intro pins s j H x f v c Q I L i h;obtain⟨y,p,g,rfl,rfl,hp,e,q⟩:=h;obtain⟨t,rfl⟩:=L;obtain⟨u,rfl,o⟩:=J7 i;cases o;obtain⟨m,r,n,_⟩:=I.list hp;exact join_list n.isList (by simpa using P3 r) e λb k=>#[.str _,H,I.tok _,#[_,rfl],q]
def z6 (K:Frg):R2:=λx y H Q=>∃a b t f,x = .ref a/\y = .ref b/\SqL K H a t/\SqL K H b f/\t.length+f.length<=aB/\∀p,H p=ap->Q (.ref p) (upd H p (.lst (t++f)))
theorem sY:OpR X (dh .Add) (z6 X.K):=by
 intro pins s g H x y v u Q I L Z h;obtain⟨l,b,O,D,rfl,rfl,hH,hB,N,q⟩:=h;cases L;cases Z;obtain⟨e,r,c,T⟩:=I.list hH;obtain⟨t,i,M,S⟩:=I.list hB;have k:=r.length;have z:=i.length;obtain⟨⟨cls,Y,data,sl⟩,n,ho,hc,_,hd⟩:=c;obtain⟨⟨j,f,data2,B⟩,p,o,hc2,_,hd2⟩:=M;dsimp only at hc hd hc2 hd2;subst hc hd hc2 hd2;have m:e.toArray++t.toArray=(e++t).toArray:=by simp
 have fin:EP X pins g Q (.ref s.heap.objs.size) { s with heap:=s.heap.push { cls:=.type "list", data:=.seq (e.toArray++t.toArray) } }:=by rw[m];exact#[.ref _,_,I.lnew (t':=s.toks) (r.append i) (by rw[yY];omega),rfl,q _ I.fresh]
 exact concat_meets #[_,ho,rfl] #[_,o,rfl] noFill_list_add seq_list_add PySem.F.slot_list_add PySem.F.entry_list_add (PySem.F.args_list_add_2 _ _) (list_addW l b e.toArray t.toArray n p Y f sl B (by rw[zJ,zJ];omega)) #[ho,o,fin]
def l6 (i j:Int):Prop:=0 < j/\j < 2 ^ 64
theorem l7:OpR X (dh .FloorDiv) (rI l6 λi j=>.int (i/j)):=opI λi j _ _ _ _ _ hc q=>by
 have h1:(0:Int) < j:=hc.1;have e:j.natAbs.log2 < 9000:=by
   have h0:j.natAbs≠0:=by omega
   have:j.natAbs < 2 ^ 64:=by have:=hc.2;omega
   exact zP ((Nat.log2_lt h0).mpr this) (by decide)
 exact floordiv_int (by omega) (by rw[b8K i (by omega)];exact q) (.inl (PyProof.noPylong_of_log2 e))
end
end L2
namespace L2
open PySem PySem.Spec PyProof.Rows
def A3A:Key->PyData
 | .inl i=>.int i
 | .inr x=>.str x
def LW (K:Frg) (H:Hp) (W:Addr->Prop) (a:Addr) (xs:List V):Prop:=(¬W a/\Rd H a (.lst xs))\/∃(o:cr) (y:Array aw) (n:Nat),K.lookup a=am o/\o.cls = .type "list" /\ o.dict=ap/\o.data = .seq y n/\y.size<=aB/\Vals xs y.toList
def TW (K:Frg) (H:Hp) (W:Addr->Prop) (a:Addr) (xs:List V):Prop:=(¬W a/\Rd H a (.tup xs))\/∃(o:cr) (y:Array aw) (n:Nat),K.lookup a=am o/\o.cls = .type "tuple" /\ o.data = .seq y n/\y.size<=aB/\Vals xs y.toList
theorem LW.sq {K:Frg}(h:LW K H W a xs):SqL K H a xs:=h.elim (λz=>.inl z.2) .inr
theorem TW.sq {K:Frg}(h:TW K H W a xs):SqT K H a xs:=h.elim (λz=>.inl z.2) .inr
mutual
def DV (K:Frg) (H:Hp) (W:Addr->Prop):PyData->V->Prop
 | .none,v=>v = .non
 | .bool b,v=>v = .bl b
 | .int i,v=>v = .int i
 | .str x,v=>v = .str x
 | .list ds,v=>∃a n,v = .ref a/\LW K H W a n/\DVs K H W ds n
 | .tuple ds,v=>∃a n,v = .ref a/\TW K H W a n/\DVs K H W ds n
 | .dict kvs,v=>∃a g,v = .ref a/\¬W a/\Rd H a (.dK g)/\DKV K H W kvs g
def DVs (K:Frg) (H:Hp) (W:Addr->Prop):List PyData->List V->Prop
 | [],n=>n=[]
 | d::ds,n=>∃v r,n=v::r/\DV K H W d v/\DVs K H W ds r
def DKV (K:Frg) (H:Hp) (W:Addr->Prop):List (PyData×PyData)->List (Key×V)->Prop
 | [],n=>n=[]
 | (k,d)::ds,n=>∃e v r,n=(e,v)::r/\k=A3A e/\DV K H W d v/\DKV K H W ds r
end
structure Grow (K:Frg) (W W':Addr->Prop) (H H':Hp):Prop where
 keep:∀b o,H b=am o->¬W b->H' b=am o\/∃ks ob,o = .dK ks/\H' b=am (.frz ob o)
 new:∀b,W' b->W b\/H b=ap
theorem Grow.refl {K:Frg}:Grow K W W H H:=#[λ_ _ h _=>.inl h,λ_ h=>.inl h]
section
variable {K:Frg}{W W' W2:Addr->Prop}{H H' H2:Hp}
theorem Rd.grow (g:Grow K W W' H H') (nw:¬W a) (h:Rd H a o):Rd H' a o:=by
 rcases h with h | ⟨N,h⟩
 . rcases g.keep _ _ h nw with e | ⟨t,y,_,e⟩
   . exact .inl e
   . exact .inr #[y,e]
 . rcases g.keep _ _ h nw with e | ⟨t,y,e,_⟩
   . exact .inr #[N,e]
   . cases e
theorem Grow.kept (g:Grow K W W' H H') (h:H a=am o) (nw:¬W a) (n:∀ks,o≠.dK ks):H' a=am o:=(g.keep a o h nw).elim id (by rintro⟨ks,_,e,_⟩;exact absurd e (n ks))
theorem Rd.ne_none (h:Rd H a o):H a≠none:=by rcases h with h | ⟨N,h⟩ <;> rw[h] <;> simp
theorem Rd.nw (g:Grow K W W' H H') (nw:¬W a) (h:Rd H a o):¬W' a:=λw=>by
 rcases g.new a w with z | z;. exact nw z
 . exact Rd.ne_none h z
theorem LW.grow (g:Grow K W W' H H') (h:LW K H W a xs):LW K H' W' a xs:=h.elim (λz=>.inl #[z.2.nw g z.1,z.2.grow g z.1]) .inr
theorem TW.grow (g:Grow K W W' H H') (h:TW K H W a xs):TW K H' W' a xs:=h.elim (λz=>.inl #[z.2.nw g z.1,z.2.grow g z.1]) .inr
mutual
theorem DV.grow (g:Grow K W W' H H'):∀{d:PyData}{v:V},DV K H W d v->DV K H' W' d v
 | .none,v,h=>by unfold DV at h ⊢;exact h
 | .bool b,v,h=>by unfold DV at h ⊢;exact h
 | .int i,v,h=>by unfold DV at h ⊢;exact h
 | .str x,v,h=>by unfold DV at h ⊢;exact h
 | .list ds,v,h=>by unfold DV at h ⊢;obtain⟨a,n,e,hs,hd⟩:=h;exact#[a,n,e,hs.grow g,DVs.grow g hd]
 | .tuple ds,v,h=>by unfold DV at h ⊢;obtain⟨a,n,e,hs,hd⟩:=h;exact#[a,n,e,hs.grow g,DVs.grow g hd]
 | .dict kvs,v,h=>by unfold DV at h ⊢;obtain⟨a,n,e,nw,hs,hd⟩:=h;exact#[a,n,e,hs.nw g nw,hs.grow g nw,DKV.grow g hd]
theorem DVs.grow (g:Grow K W W' H H'):∀{ds:List PyData}{vs:List V},DVs K H W ds vs->DVs K H' W' ds vs
 | [],vs,h=>by unfold DVs at h ⊢;exact h
 | d::ds,vs,h=>by unfold DVs at h ⊢;obtain⟨v,r,e,h1,t⟩:=h;exact#[v,r,e,DV.grow g h1,DVs.grow g t]
theorem DKV.grow (g:Grow K W W' H H'):∀{ds:List (PyData×PyData)}{vs:List (Key×V)},DKV K H W ds vs->DKV K H' W' ds vs
 | [],vs,h=>by unfold DKV at h ⊢;exact h
 | (k,d)::ds,vs,h=>by unfold DKV at h ⊢;obtain⟨o,v,r,e,t,h1,n⟩:=h;exact#[o,v,r,e,t,DV.grow g h1,DKV.grow g n]
end
theorem Grow.trans (a:Grow K W W' H H') (b:Grow K W' W2 H' H2):Grow K W W2 H H2:=by
 refine#[λx o h nw=>?_,λx w=>?_]
 . have t:¬W' x:=λw=>by
     rcases a.new x w with z | z;. exact nw z
     . rw[h] at z;cases z
   rcases a.keep x o h nw with e | ⟨i,y,j,n⟩
   . exact b.keep x o e t
   . exact .inr #[i,y,j,b.kept n t λ_ z=>nomatch z]
 . rcases b.new x w with z | z1;. exact a.new x z
   . by_cases hx:W x;. exact .inl hx
     . refine .inr ?_;cases e:H x with
       | none=>rfl
       | some o=> rcases a.keep x o e hx with q | ⟨_,_,_,q⟩ <;> (rw[q] at z1;cases z1)
theorem DVs.length:∀{ds:List PyData}{vs:List V},DVs K H W ds vs->vs.length=ds.length
 | [],vs,h=>by unfold DVs at h;subst h;rfl
 | d::ds,vs,h=>by unfold DVs at h;obtain⟨v,r,e,h1,t⟩:=h;subst e;simp[DVs.length t]
theorem DVs.get:∀{ds:List PyData}{vs:List V}{i:Nat}{v:V},DVs K H W ds vs->vs[i]?=am v->∃d,ds[i]?=am d/\DV K H W d v
 | [],vs,i,v,h,e=>by unfold DVs at h;subst h;simp at e
 | d::ds,vs,i,v,h,e=>by
   unfold DVs at h;obtain⟨u,r,e',h1,t⟩:=h;subst e';cases i with
   | zero=>simp at e;subst e;exact#[d,rfl,h1]
   | succ i=>simpa using DVs.get t (by simpa using e)
theorem DVs.get':∀{ds:List PyData}{vs:List V}{i:Nat}{d:PyData},DVs K H W ds vs->ds[i]?=am d->∃v,vs[i]?=am v/\DV K H W d v
 | [],vs,i,v,h,e=>by simp at e
 | d::ds,vs,i,v,h,e=>by
   unfold DVs at h;obtain⟨u,r,e',h1,t⟩:=h;subst e';cases i with
   | zero=>simp at e;subst e;exact#[u,rfl,h1]
   | succ i=>simpa using DVs.get' t (by simpa using e)
theorem DVs.nil:DVs K H W [] []:=by unfold DVs;rfl
theorem DVs.cons {d:PyData}{v:V}{ds:List PyData}{vs:List V}(h:DV K H W d v) (t:DVs K H W ds vs):DVs K H W (d::ds) (v::vs):=by unfold DVs;exact#[v,vs,rfl,h,t]
theorem DVs.append:∀{ds es:List PyData}{vs k:List V},DVs K H W ds vs->DVs K H W es k->DVs K H W (ds++es) (vs++k)
 | [],es,vs,k,h,t=>by unfold DVs at h;subst h;exact t
 | d::ds,es,vs,k,h,t=>by unfold DVs at h;obtain⟨u,r,e',h1,e⟩:=h;subst e';exact DVs.cons h1 (DVs.append e t)
theorem DVs.set:∀{ds:List PyData}{vs:List V}{d:PyData}{v:V}(i:Nat),DVs K H W ds vs->DV K H W d v->DVs K H W (ds.set i d) (vs.set i v)
 | [],vs,d,v,i,h,t=>by unfold DVs at h;subst h;exact DVs.nil
 | e::ds,vs,d,v,i,h,t=>by
   unfold DVs at h;obtain⟨u,r,e',h1,n⟩:=h;subst e';cases i with
   | zero=>exact DVs.cons t n
   | succ i=>exact DVs.cons h1 (DVs.set i n t)
theorem DVs.drop:∀{ds:List PyData}{vs:List V}(i:Nat),DVs K H W ds vs->DVs K H W (ds.drop i) (vs.drop i)
 | ds,vs,0,h=>h
 | [],vs,i+1,h=>by unfold DVs at h;subst h;exact DVs.nil
 | e::ds,vs,i+1,h=>by unfold DVs at h;obtain⟨u,r,e',h1,t⟩:=h;subst e';exact DVs.drop i t
theorem DVs.take:∀{ds:List PyData}{vs:List V}(i:Nat),DVs K H W ds vs->DVs K H W (ds.take i) (vs.take i)
 | ds,vs,0,h=>DVs.nil
 | [],vs,i+1,h=>by unfold DVs at h;subst h;exact DVs.nil
 | e::ds,vs,i+1,h=>by unfold DVs at h;obtain⟨u,r,e',h1,t⟩:=h;subst e';exact DVs.cons h1 (DVs.take i t)
theorem T0:∀{bs:List Bool}{vs:List V},DVs K H W (bs.map PyData.bool) vs->vs=bs.map V.bl
 | [],vs,h=>by unfold DVs at h;exact h
 | b::bs,vs,h=>by simp only[zI] at h;unfold DVs at h;obtain⟨u,r,e',h1,e⟩:=h;unfold DV at h1;subst e' h1;rw[T0 e];rfl
theorem MB:∀{bs:List Str}{vs:List V},DVs K H W (bs.map a0J) vs->vs=bs.map V.str
 | [],vs,h=>by unfold DVs at h;exact h
 | b::bs,vs,h=>by simp only[zI] at h;unfold DVs at h;obtain⟨u,r,e',h1,e⟩:=h;unfold DV at h1;subst e' h1;rw[MB e];rfl
end
section
variable {X:Cx}{pins:List (Addr×cr)}{σ:St}{H:Hp}{s:ax}{W:Addr->Prop}
mutual
theorem DV.reads (I:Inv X pins σ H s):∀{d:PyData}{v:V}{u:aw},d.canLay0=av->DV X.K H W d v->RelV v u->∃as,PySem.Reads s.heap u d as
 | .none,v,u,c,h,r=>by unfold DV at h;subst h;cases r;exact#[_,.none]
 | .bool b,v,u,c,h,r=>by unfold DV at h;subst h;cases r;exact#[_,.bool b]
 | .int i,v,u,c,h,r=>by unfold DV at h;subst h;obtain⟨t,rfl⟩:=r;exact#[_,.int i t]
 | .str x,v,u,c,h,r=>by unfold DV at h;subst h;obtain⟨t,rfl⟩:=r;exact#[_,.str x t]
 | .list ds,v,u,c,h,r=>by unfold DV at h;obtain⟨a,p,rfl,hs,hd⟩:=h;cases r;obtain⟨y,m,⟨o,n,e,hc,_,Y⟩,_⟩:=I.list hs.sq;obtain⟨as,q⟩:=DVs.reads I (by simpa [PyData.canLay0] using c) hd m;exact#[_,.list e hc Y (by simpa using q)]
 | .tuple ds,v,u,c,h,r=>by unfold DV at h;obtain⟨a,p,rfl,hs,hd⟩:=h;cases r;obtain⟨y,m,⟨o,e,hc,n,Y⟩,_⟩:=I.tuple hs.sq;obtain⟨as,q⟩:=DVs.reads I (by simpa [PyData.canLay0] using c) hd m;exact#[_,.tuple e hc Y (by simpa using q)]
 | .dict kvs,v,u,c,h,r=>by simp[PyData.canLay0] at c
theorem DVs.reads (I:Inv X pins σ H s):∀{ds:List PyData}{vs:List V}{k:List aw},b4V ds=av->DVs X.K H W ds vs->Vals vs k->∃as,PySem.ReadsAll s.heap k ds as
 | [],vs,k,c,h,r=>by unfold DVs at h;subst h;cases r;exact#[_,.nil]
 | d::ds,vs,k,c,h,r=>by
   unfold DVs at h;obtain⟨v,q,rfl,h1,e⟩:=h;cases r with
   | cons t n=> simp[b4V] at c;obtain⟨as,N⟩:=DV.reads I c.1 h1 t;obtain⟨bs,J⟩:=DVs.reads I c.2 e n;exact#[_,.cons N J]
end
def UT (K:Frg) (neg:Bool):R2:=λx y H Q=>∃(W:Addr->Prop) (e c:PyData),DV K H W e x/\DV K H W c y/\zH e=av/\zH c=av/\Q (.bl (if neg then !a0W e c else a0W e c)) H
theorem l8 (hu:X.A.units+64 < ef):OpR X (bj .Eq) (UT X.K ay):=by intro pins s σ H x y v u Q I L Z h;obtain⟨W,i,c,h1,t,r,e,q⟩:=h;obtain⟨as,n⟩:=h1.reads I (zG r) L;obtain⟨bs,o⟩:=t.reads I (zG e) Z;exact PySem.SeqAt.compareEq_shaped n o r e hu #[.bl _,H,I,rfl,q]
theorem l9 (hu:X.A.units+64 < ef):OpR X (bj .NotEq) (UT X.K av):=by intro pins s σ H x y v u Q I L Z h;obtain⟨W,i,c,h1,t,r,e,q⟩:=h;obtain⟨as,n⟩:=h1.reads I (zG r) L;obtain⟨bs,o⟩:=t.reads I (zG e) Z;exact PySem.SeqAt.compareNe_shaped n o r e hu #[.bl _,H,I,rfl,q]
end
end L2
namespace DL
open PySem PySem.Spec L2
abbrev St:=L2.St
set_option genInjectivity true
inductive MO where
 | l (ds:List PyData)
 | d (kvs:List (PyData×PyData))
 | t (kvs:List (List Key×PyData))
 | x (C:Addr) (fs:List (Str×PyData))
 | r (as:List Addr)
abbrev Own:=Addr->Option MO
def Own.W (M:Own):Addr->Prop:=λa=>M a≠ap
def Own.put (M:Own) (a:Addr) (o:MO):Own:=λb=>if b=a then am o else M b
def Own.del (M:Own) (a:Addr):Own:=λb=>if b=a then ap else M b
def Own.Sub (M N:Own):Prop:=∀a o,M a=am o->N a=am o
theorem zU {M:Own}:M.put a o a=am o:=by unfold Own.put;rw[if_pos rfl]
theorem yH {M:Own}(h:b≠a):M.put a o b=M b:=by unfold Own.put;rw[if_neg h]
theorem yI {M:Own}:(M.put a o).put a N=M.put a N:=by funext b;unfold Own.put;by_cases h:b=a <;> simp[h]
theorem Own.put_comm {M:Own}(h:a≠b):(M.put a o).put b N=(M.put b N).put a o:=by
 funext c;unfold Own.put;by_cases h1:c=b;. subst h1;simp[a4K h]
 . simp[h1]
theorem yG {M:Own}(h:M a=ap):(M.put a o).del a=M:=by
 funext b;unfold Own.put Own.del;by_cases e:b=a;. subst e;simp[h]
 . simp[e]
theorem Own.put_self {M:Own}(h:M a=am o):M.put a o=M:=by
 funext b;unfold Own.put;by_cases e:b=a;. subst e;simp[h]
 . simp[e]
theorem Own.del_put_ne {M:Own}(h:a≠b):(M.put a o).del b=(M.del b).put a o:=by
 funext c;unfold Own.put Own.del;by_cases h1:c=b;. subst h1;simp[a4K h]
 . simp[h1]
theorem zT (M:Own):M.Sub M:=λ_ _ h=>h
theorem Own.Sub.put {M:Own}(h:M.Sub N) (n:M a=ap):M.Sub (N.put a o):=λb x e=>by rw[yH (by rintro rfl;rw[n] at e;cases e)];exact h b x e
inductive DS where
 | d (x:PyData)
 | loc (a:Addr)
 | ty (n:String)
 | tl (ds:List PyData) (a:Addr)
def SI (K:Frg) (H:Hp) (M:Own):DS->V->Prop
 | .d x,v=>DV K H M.W x v
 | .loc a,v=>v = .ref a
 | .ty n,v=>v = .ty n
 | .tl ds a,v=>∃b e,v = .ref b/\TW K H M.W b (e++[.ref a])/\DVs K H M.W ds e
def SIs (K:Frg) (H:Hp) (M:Own):List DS->List V->Prop
 | [],n=>n=[]
 | d::ds,n=>∃v r,n=v::r/\SI K H M d v/\SIs K H M ds r
def XI (K:Frg) (H:Hp) (W:Addr->Prop):Option Addr->List (Str×PyData)->Prop
 | none,[]=>True
 | some d,[(n,x)]=>∃v,¬W d/\H d=am (.xd [(n,v)])/\DV K H W x v
 | _,_=>False
theorem XI.grow (g:Grow K W e H H') (h:XI K H W dd fs):XI K H' e dd fs:=by
 unfold XI at h ⊢;split at h;. trivial
 . obtain⟨v,nw,a,b⟩:=h;exact#[v,λz=>(g.new _ z).elim nw λq=>by(rw[a] at q;cases q),g.kept a nw (λ_ z=>nomatch z),b.grow g]
 . exact h.elim
def exK (a C:Addr) (dd:Option Addr):HO:=.ext λh=>∃o n,h.get? a=am o/\o.cls = .ref C/\o.dict=dd/\o.data = .fields n
def DTV (K:Frg) (H:Hp) (W:Addr->Prop) (kvs:List (List Key×PyData)) (ks:List (List Key×V)):Prop:=ks.map (·.1)=kvs.map (·.1)/\DVs K H W (kvs.map (·.2)) (ks.map (·.2))
theorem DTV.grow (g:Grow K W b H H') (h:DTV K H W kvs ks):DTV K H' b kvs ks:=#[h.1,h.2.grow g]
structure RefL (K:Frg) (H:Hp) (W:Addr->Prop) (as:List Addr) (vs:List V):Prop where
 eq:vs=as.map V.ref
theorem RefL.grow (h:RefL K H W as vs) (_:Grow K W b H H'):RefL K H' b as vs:=#[h.eq]
def OA1 (K:Frg) (H:Hp) (M:Own) (a:Addr):MO->Prop
 | .r as=>∃n,H a=am (.lst n)/\RefL K H M.W as n
 | .x C fs=>∃Y,H a=am (exK a C Y)/\XI K H M.W Y fs
 | .l ds=>∃n,H a=am (.lst n)/\DVs K H M.W ds n
 | .d kvs=>∃e,H a=am (.dK e)/\DKV K H M.W kvs e
 | .t kvs=>∃e,H a=am (.dT e)/\DTV K H M.W kvs e
def OA (K:Frg) (H:Hp) (M:Own):Prop:=∀a o,M a=am o->OA1 K H M a o
structure Step (K:Frg) (M M':Own) (H H':Hp):Prop where
 grow:Grow K M.W M'.W H H'
structure Rel (K:Frg) (M:Own) (ρ:List (Option DS)) (σ:St) (H:Hp):Prop where
 own:OA K H M
 len:ρ.length=σ.length
 slot:∀(i:Nat) x,ρ[i]?=am (am x)->∃v,σ[i]?=am (am v)/\SI K H M x v
section
theorem Step.refl:Step K M M H H:=#[Grow.refl]
theorem Step.trans (a:Step K M M' H H') (b:Step K M' M2 H' H2):Step K M M2 H H2:=#[a.grow.trans b.grow]
theorem SI.step (st:Step K M M' H H'):∀{x:DS}{v:V},SI K H M x v->SI K H' M' x v
 | .d _,_,h=>DV.grow st.grow h
 | .loc _,_,h=>h
 | .ty _,_,h=>h
 | .tl _ _,_,#[b,n,e,h1,t]=>#[b,n,e,h1.grow st.grow,t.grow st.grow]
theorem Rel.step (R:Rel K M ρ σ H) (q:OA K H' M') (st:Step K M M' H H'):Rel K M' ρ σ H':=#[q,R.len,λi x e=>let #[v,h1,t]:=R.slot i x e;#[v,h1,t.step st]]
theorem Rel.set (R:Rel K M ρ σ H) (h:SI K H M x v) (i:Nat):Rel K M (ρ.set i (am x)) (σ.set i (am v)) H:=by
 refine#[R.own,by rw[List.length_set,List.length_set];exact R.len,λj y e=>?_];rw[List.getElem?_set] at e ⊢;by_cases g:i=j
 . rw[if_pos g] at e ⊢;subst g;by_cases m:i < ρ.length;. rw[if_pos m] at e;cases e;rw[if_pos (by rw[<-R.len];exact m)];exact#[v,rfl,h]
   . rw[if_neg m] at e;cases e
 . rw[if_neg g] at e ⊢;exact R.slot j y e
theorem OA.none (t:OA K H M) (h:H p=b9Q):M p=b9Q:=by
 cases e:M p with
 | none=>rfl
 | some o=> have:=t p o e;cases o <;> (obtain⟨n,q,_⟩:=this;rw[h] at q;cases q)
theorem B6 (W:Addr->Prop) (h:H p=b9Q):Grow K W W H (upd H p o):=#[λb u e _=>.inl (by rw[AG (B1 e h)];exact e),λ_ w=>.inl w]
theorem OA.grow (t:OA K H M) (g:Grow K M.W M.W H H') (hk:∀a o,M a=am o->H' a=H a):OA K H' M:=λa o e=>by have q:=t a o e;cases o <;> (obtain⟨n,N,J⟩:=q;exact#[n,by rw[hk a _ e];exact N,J.grow g])
theorem OA.new (q:OA K H M) (h:H p=b9Q):OA K (upd H p o) M:=q.grow (B6 _ h) λa x e=>by rw[AG (by rintro rfl;rw[q.none h] at e;cases e)]
theorem MC (n:OA K H M) (h:H p=b9Q) (hd:DVs K H M.W ds vs) :
   OA K (upd H p (.lst vs)) (M.put p (.l ds))/\Step K M (M.put p (.l ds)) H (upd H p (.lst vs)):=by
 have T:=n.none h;have g:Grow K M.W (M.put p (.l ds)).W H (upd H p (.lst vs)):=#[λb u e _=>.inl (by rw[AG (B1 e h)];exact e),λb w=>by
   by_cases hb:b=p;. subst hb;exact .inr h
   . left;unfold Own.W at w ⊢;rw[yH hb] at w;exact w]
 refine#[λa o e=>?_,#[g]]
 . by_cases t:a=p;. subst t;rw[zU] at e;cases e;exact#[vs,AE,hd.grow g]
   . rw[yH t] at e;have q:=n a o e;cases o <;> (obtain⟨vs,N,J⟩:=q;exact#[vs,by rw[AG t];exact N,J.grow g])
theorem E5 (i:OA K H M) (h:M p=am o) (hd:DVs K H M.W t vs') :
   OA K (upd H p (.lst vs')) (M.put p (.l t))/\Step K M (M.put p (.l t)) H (upd H p (.lst vs')):=by
 have G:∀b,(M.put p (.l t)).W b->M.W b:=λb w=>by
   unfold Own.W at w ⊢;by_cases hb:b=p;. subst hb;rw[h];simp
   . rw[yH hb] at w;exact w
 have g:Grow K M.W (M.put p (.l t)).W H (upd H p (.lst vs')):=#[λb u e nw=>.inl (by
   rw[AG (by rintro rfl;exact nw (by unfold Own.W;rw[h];simp))];exact e),λb w=>.inl (G b w)]
 refine#[λa o e=>?_,#[g]]
 . by_cases n:a=p;. subst n;rw[zU] at e;cases e;exact#[vs',AE,hd.grow g]
   . rw[yH n] at e;have q:=i a o e;cases o <;> (obtain⟨r,N,J⟩:=q;exact#[r,by rw[AG n];exact N,J.grow g])
theorem B7{K:Frg}{M:Own}{M':Own}{H:Hp} (hs:M'.Sub M):Grow K M.W M'.W H H:=#[λ_ _ e _=>.inl e,λb w=>.inl (by
 unfold Own.W at w ⊢;cases e:M' b with
 | none=>exact absurd e w
 | some o=>rw[hs b o e];simp)]
theorem OA.sub (t:OA K H M) (hs:M'.Sub M):OA K H M':=λa o e=>by have q:=t a o (hs a o e);cases o <;> (obtain⟨n,N,J⟩:=q;exact#[n,N,J.grow (B7 hs)])
theorem SI.sub (hs:M'.Sub M):∀{x:DS}{v:V},SI K H M x v->SI K H M' x v
 | .d _,_,h=>DV.grow (B7 hs) h
 | .loc _,_,h=>h
 | .ty _,_,h=>h
 | .tl _ _,_,#[b,n,e,h1,t]=>#[b,n,e,h1.grow (B7 hs),t.grow (B7 hs)]
end
def DE (K:Frg) (t:TE) (n:List (Option DS)) (M:Own) (Q:DS->Own->Prop):Prop:=∀(e:St) (H:Hp) (QQ:VK),Rel K M n e H->(∀v H' x i,OA K H' i->SI K H' i x v->Step K M i H H'->Q x i->QQ v H')->t e H QQ
def DT (K:Frg) (t:TT) (n:List (Option DS)) (M:Own) (Q:Bool->Own->Prop):Prop:=∀(e:St) (H:Hp) (QQ:Bool->Hp->Prop),Rel K M n e H->(∀b H' i,OA K H' i->Step K M i H H'->Q b i->QQ b H')->t e H QQ
def DA (K:Frg) (t:TA) (r:List (Option DS)) (M:Own) (Q:List DS->Own->Prop):Prop:=∀(o:St) (H:Hp) (QQ:List V->Hp->Prop),Rel K M r o H->(∀n H' e i,OA K H' i->SIs K H' i e n->Step K M i H H'->Q e i->QQ n H')->t o H QQ
def DP (K:Frg) (t:TO) (n:List (Option DS)) (M:Own) (Q:Option Int->Own->Prop):Prop:=∀(e:St) (H:Hp) (QQ:Option Int->Hp->Prop),Rel K M n e H->(∀b H' i,OA K H' i->Step K M i H H'->Q b i->QQ b H')->t e H QQ
set_option genInjectivity false
structure EndsD where
 nx:List (Option DS)->Own->Prop
 rt:DS->Own->Prop
 bk:List (Option DS)->Own->Prop:=λ_ _=>False
 ct:List (Option DS)->Own->Prop:=λ_ _=>False
def DSt (K:Frg) (t:TS) (n:List (Option DS)) (M:Own) (D:EndsD):Prop:=∀(e:St) (H:Hp) (E:Ends),Rel K M n e H->(∀S i b H',Rel K i S b H'->Step K M i H H'->D.nx S i->E.nx b H')->(∀v H' x i,OA K H' i->SI K H' i x v->Step K M i H H'->D.rt x i->E.rt v H') ->(∀S i b H',Rel K i S b H'->Step K M i H H'->D.bk S i->E.bk b H')->(∀S i b H',Rel K i S b H'->Step K M i H H'->D.ct S i->E.ct b H')->t E e H
def D1 (K:Frg) (r:V->Hp->VK->Prop) (x:DS) (M:Own) (Q:DS->Own->Prop):Prop:=∀(H:Hp) (v:V) (QQ:VK),OA K H M->SI K H M x v->(∀w H' z i,OA K H' i->SI K H' i z w->Step K M i H H'->Q z i->QQ w H')->r v H QQ
def D2 (K:Frg) (r:R2) (x y:DS) (M:Own) (Q:DS->Own->Prop):Prop:=∀(H:Hp) (v u:V) (QQ:VK),OA K H M->SI K H M x v->SI K H M y u->(∀w H' z i,OA K H' i->SI K H' i z w->Step K M i H H'->Q z i->QQ w H')->r v u H QQ
def DR (K:Frg) (r:List V->Hp->VK->Prop) (xs:List DS) (M:Own) (Q:DS->Own->Prop):Prop:=∀(H:Hp) (n:List V) (QQ:VK),OA K H M->SIs K H M xs n->(∀w H' z i,OA K H' i->SI K H' i z w->Step K M i H H'->Q z i->QQ w H')->r n H QQ
def DM (K:Frg) (r:V->List V->Hp->VK->Prop) (x:DS) (xs:List DS) (M:Own) (Q:DS->Own->Prop):Prop:=∀(H:Hp) (v:V) (n:List V) (QQ:VK),OA K H M->SI K H M x v->SIs K H M xs n->(∀w H' z i,OA K H' i->SI K H' i z w->Step K M i H H'->Q z i->QQ w H')->r v n H QQ
def DSl (K:Frg) (r:V->Option Int->Option Int->Hp->VK->Prop) (x:DS) (I hi:Option Int) (M:Own) (Q:DS->Own->Prop):Prop:=∀(H:Hp) (v:V) (QQ:VK),OA K H M->SI K H M x v->(∀w H' z i,OA K H' i->SI K H' i z w->Step K M i H H'->Q z i->QQ w H')->r v I hi H QQ
def DTy (K:Frg) (T:String) (x:DS) (M:Own):Prop:=∀(H:Hp) (v:V),OA K H M->SI K H M x v->tyV K T v H
section
variable {K:Frg}{ρ:List (Option DS)}{M:Own}{Q:DS->Own->Prop}{QB:Bool->Own->Prop}{ta tb tc:TE}{tA wc:TT}{r r':R2}
theorem UU (h:DE K t ρ M Q) (hq:∀x i,Q x i->e x i):DE K t ρ M e:=λn H QQ R k=>h n H QQ R λv H' x i a b c q=>k v H' x i a b c (hq x i q)
theorem A05 (e:ρ[i]?=am (am x)) (h:Q x M):DE K (WO i) ρ M Q:=λn H QQ R k=>by obtain⟨v,h1,t⟩:=R.slot i x e;exact#[v,h1,k v H x M R.own t Step.refl h]
theorem A06 (h:Q (.d (.int i)) M):DE K (tC (.int i)) ρ M Q:=λe H QQ R k=>k _ H (.d (.int i)) M R.own (by unfold SI DV;rfl) Step.refl h
theorem A3B (h:Q (.d (.bool i)) M):DE K (tC (.bl i)) ρ M Q:=λe H QQ R k=>k _ H (.d (.bool i)) M R.own (by unfold SI DV;rfl) Step.refl h
theorem A07 (h:Q (.d (.str i)) M):DE K (tC (.str i)) ρ M Q:=λe H QQ R k=>k _ H (.d (.str i)) M R.own (by unfold SI DV;rfl) Step.refl h
theorem A08 (h:Q (.d .none) M):DE K (tC .non) ρ M Q:=λe H QQ R k=>k _ H (.d .none) M R.own (by unfold SI DV;rfl) Step.refl h
theorem A3C (h:Q (.ty n) M):DE K (tC (.ty n)) ρ M Q:=λe H QQ R k=>k _ H (.ty n) M R.own rfl Step.refl h
theorem A3D (h:DE K ta ρ M λx M1=>DE K tb ρ M1 λy T=>D2 K r x y T Q):DE K (tOp r ta tb) ρ M Q:=λn H QQ R k=>
 h n H _ R λv o x M1 O g e h1=>h1 n o _ (R.step O e) λu c y T b j t p=>p c v u QQ b (g.step t) j λw m z i f N I q=>k w m z i f N ((e.trans t).trans I) q
theorem A3E {r:V->Hp->VK->Prop}(h:DE K ta ρ M λx M1=>D1 K r x M1 Q):DE K (tUn r ta) ρ M Q:=λb H QQ R k=>
 h b H _ R λv e x M1 O o p h1=>h1 e v QQ O o λw m z t n i y q=>k w m z t n i (p.trans y) q
theorem lA (h:DE K ta ρ M λx M1=>DE K tb ρ M1 λy T=>D2 K r x y T λz e=>∃c,z = .d (.bool c)/\if c=av then DE K tc ρ e (λw p=>D2 K r' y w p Q) else Q (.d (.bool ay)) e) :
   DE K (ZU r r' ta tb tc) ρ M Q:=λi H QQ R k=>
 h i H _ R λv N x M1 J Z t h1=>h1 i N _ (R.step J t) λu O y T L f n B=>B O v u _ L (Z.step n) f λw m z e b g o q=>by
   obtain⟨c,rfl,q⟩:=q;unfold SI DV at g;refine#[c,g,?_];cases c with
   | false=> rw[if_neg nft] at q ⊢;exact k _ m _ e b (by unfold SI DV;rfl) ((t.trans n).trans o) q
   | true=> rw[if_pos rfl] at q ⊢;exact q i m _ (R.step b ((t.trans n).trans o)) λw4 I z4 p U s4 j G=>G I u w4 QQ U (f.step (o.trans j)) s4 λw5 S z5 D X s5 t5 Y=>k w5 S z5 D X s5 ((((t.trans n).trans o).trans j).trans t5) Y
theorem sZ (h:DE K ta ρ M λx M1=>∃c,x = .d (.bool c)/\QB c M1):DT K (kD ta) ρ M QB:=λo H QQ R k=>
 h o H _ R λv t x M1 O e n h1=>by obtain⟨c,rfl,q⟩:=h1;unfold SI DV at e;exact#[c,e,k c t M1 O n q]
theorem A4B (h:DE K ta ρ M λx M1=>∃c,x = .d (.bool c)/\QB c M1):DT K (L2.tB ta) ρ M QB:=λo H QQ R k=>
 h o H _ R λv t x M1 O e n h1=>by obtain⟨c,rfl,q⟩:=h1;unfold SI DV at e;exact#[c,e,k c t M1 O n q]
theorem A09 (h:DT K tA ρ M λc M1=>if c=av then DT K wc ρ M1 QB else QB ay M1):DT K (A2g tA wc) ρ M QB:=λt H QQ R k=>
 h t H _ R λc e M1 O x h1=>by
   cases c with
   | false=>rw[if_neg nft] at h1 ⊢;exact k _ e M1 O x h1
   | true=>rw[if_pos rfl] at h1 ⊢;exact h1 t e QQ (R.step O x) λb n T o i q=>k b n T o (x.trans i) q
theorem A3F (h:DT K tA ρ M λc M1=>if c=av then QB av M1 else DT K wc ρ M1 QB):DT K (tOr tA wc) ρ M QB:=λt H QQ R k=>
 h t H _ R λc e M1 O x h1=>by
   cases c with
   | true=>rw[if_pos rfl] at h1 ⊢;exact k _ e M1 O x h1
   | false=>rw[if_neg nft] at h1 ⊢;exact h1 t e QQ (R.step O x) λb n T o i q=>k b n T o (x.trans i) q
theorem A1A (h:DT K tA ρ M λc M1=>QB (!c) M1):DT K (A2h tA) ρ M QB:=λt H QQ R k=>h t H _ R λc e M1 O x h1=>k _ e M1 O x h1
theorem A1B (h:QB av M):DT K sQ ρ M QB:=λe H QQ R k=>k av H M R.own Step.refl h
theorem A1C (h:DE K ta ρ M λx M1=>∃c,x = .d (.bool c)/\if c=av then DE K tb ρ M1 Q else Q (.d (.bool ay)) M1):DE K (xB ta tb) ρ M Q:=λo H QQ R k=>
 h o H _ R λv t x M1 O n e h1=>by
   obtain⟨c,rfl,q⟩:=h1;unfold SI DV at n;refine#[c,n,?_];cases c with
   | false=>rw[if_neg nft] at q ⊢;exact k _ t _ M1 O (by unfold SI DV;rfl) e q
   | true=>rw[if_pos rfl] at q ⊢;exact q o t QQ (R.step O e) λw i z T m p b q=>k w i z T m p (e.trans b) q
theorem A3G (h:DE K ta ρ M λx M1=>∃c,x = .d (.bool c)/\if c=av then Q (.d (.bool av)) M1 else DE K tb ρ M1 Q):DE K (A2i ta tb) ρ M Q:=λo H QQ R k=>
 h o H _ R λv t x M1 O n e h1=>by
   obtain⟨c,rfl,q⟩:=h1;unfold SI DV at n;refine#[c,n,?_];cases c with
   | true=>rw[if_pos rfl] at q ⊢;exact k _ t _ M1 O (by unfold SI DV;rfl) e q
   | false=>rw[if_neg nft] at q ⊢;exact q o t QQ (R.step O e) λw i z T m p b q=>k w i z T m p (e.trans b) q
theorem A1D (h:DE K ta ρ M λx M1=>∃c,x = .d (.bool c)/\Q (.d (.bool (!c))) M1):DE K (xC ta) ρ M Q:=λo H QQ R k=>
 h o H _ R λv t x M1 O e n h1=>by obtain⟨c,rfl,q⟩:=h1;unfold SI DV at e;exact#[c,e,k _ t _ M1 O (by unfold SI DV;rfl) n q]
theorem A3H (h:DT K tA ρ M λc M1=>if c=av then DE K ta ρ M1 Q else DE K tb ρ M1 Q):DE K (tIf tA ta tb) ρ M Q:=λi H QQ R k=>
 h i H _ R λc m M1 O x h1=>by
   cases c with
   | true=>rw[if_pos rfl] at h1 ⊢;exact h1 i m QQ (R.step O x) λw e z T t n o q=>k w e z T t n (x.trans o) q
   | false=>rw[if_neg nft] at h1 ⊢;exact h1 i m QQ (R.step O x) λw e z T t n o q=>k w e z T t n (x.trans o) q
variable {QL:List DS->Own->Prop}{tl:TA}
theorem lB (h:QL [] M):DA K A0m ρ M QL:=λe H QQ R k=>k [] H [] M R.own rfl Step.refl h
theorem t7 (h:DE K ta ρ M λx M1=>DA K tl ρ M1 λxs T=>QL (x::xs) T):DA K (WT ta tl) ρ M QL:=λo H QQ R k=>
 h o H _ R λv i x M1 O p e h1=>h1 o i _ (R.step O e) λn c xs T m b t q=>k (v::n) c (x::xs) T m #[v,n,rfl,p.step t,b] (e.trans t) q
def SD:List DS->Option (List PyData)
 | []=>am []
 | .d x::r=>match SD r with
   | some l=>am (x::l)
   | none=>ap
 | .loc _::_=>ap
 | .ty _::_=>ap
 | .tl _ _::_=>ap
theorem SIs.data :∀{xs:List DS}{ds:List PyData}{vs:List V},SD xs=am ds->SIs K H M xs vs->DVs K H M.W ds vs
 | [],ds,vs,e,h=>by cases e;cases h;exact DVs.nil
 | .d x::r,ds,vs,e,#[v,q,n,h1,o]=>by
   cases t:SD r with
   | none=>rw[SD,t] at e;cases e
   | some i=> rw[SD,t] at e;cases e;subst n;exact DVs.cons h1 (SIs.data t o)
 | .loc _::_,ds,vs,e,_=>by cases e
 | .ty _::_,ds,vs,e,_=>by cases e
 | .tl _ _::_,ds,vs,e,_=>by cases e
theorem SIs.length :∀{xs:List DS}{vs:List V},SIs K H M xs vs->vs.length=xs.length
 | [],vs,h=>by cases h;rfl
 | _::r,vs,#[v,q,e,h1,t]=>by subst e;simp[SIs.length t]
theorem A1E (h:DA K tl ρ M λxs M1=>∃ds,SD xs=am ds/\ds.length<=aB/\Q (.d (.tuple ds)) M1):DE K (A0n tl) ρ M Q:=λm H QQ R k=>
 h m H _ R λn t xs M1 O i x h1=>by obtain⟨ds,e,o,q⟩:=h1;have hd:=i.data e;refine#[by rw[hd.length];exact o,λp hp=>?_];have g:Grow K M1.W M1.W t (upd t p (.tup n)):=B6 _ hp;refine k _ _ (.d (.tuple ds)) M1 (O.new hp) ?_ (x.trans #[g]) q;unfold SI DV;exact#[p,n,rfl,.inl #[λw=>w (O.none hp),.inl AE],hd.grow g]
theorem JB (h:DA K tl ρ M λxs M1=>∃ds,SD xs=am ds/\ds.length<=aB/\Q (.d (.list ds)) M1):DE K (A0o tl) ρ M Q:=λm H QQ R k=>
 h m H _ R λn t xs M1 O i x h1=>by obtain⟨ds,e,o,q⟩:=h1;have hd:=i.data e;refine#[by rw[hd.length];exact o,λp hp=>?_];have g:Grow K M1.W M1.W t (upd t p (.lst n)):=B6 _ hp;refine k _ _ (.d (.list ds)) M1 (O.new hp) ?_ (x.trans #[g]) q;unfold SI DV;exact#[p,n,rfl,.inl #[λw=>w (O.none hp),.inl AE],hd.grow g]
theorem F9 (h:DA K tl ρ M λxs M1=>∃ds,SD xs=am ds/\ds.length<=aB/\∀p,M1 p=ap->Q (.loc p) (M1.put p (.l ds))):DE K (A0o tl) ρ M Q:=λo H QQ R k=>
 h o H _ R λm i xs M1 O n x h1=>by obtain⟨ds,e,t,q⟩:=h1;have hd:=n.data e;refine#[by rw[hd.length];exact t,λp hp=>?_];obtain⟨a,b⟩:=MC O hp hd;exact k _ _ (.loc p) _ a rfl (x.trans b) (q p (O.none hp))
theorem A3I {r:List V->Hp->VK->Prop}(h:DA K tl ρ M λxs M1=>DR K r xs M1 Q):DE K (tCB r tl) ρ M Q:=λp H QQ R k=>
 h p H _ R λm e xs M1 O n x h1=>h1 e m QQ O n λw c z T t o i q=>k w c z T t o (x.trans i) q
structure FSp where
 pre:List DS->Own->Prop
 post:List DS->Own->DS->Own->Prop
def spD (K:Frg) (n:Nat) (S:FSp):Sp:=λe H Q _=>∃t M,t.length=n/\OA K H M/\SIs K H M t e/\S.pre t M/\∀x i v H',S.post t M x i->Step K M i H H'->OA K H' i->SI K H' i x v->Q v H'
theorem cQ :∀vs H Q E,spD K n S vs H Q E->vs.length=n:=by rintro vs H Q E ⟨t,M,m,_,h,_⟩;rw[h.length,m]
theorem t8 (h:DA K tl ρ M λxs M1=>xs.length=n/\S.pre xs M1/\∀x i,S.post xs M1 x i->Q x i):DE K (cJ (spD K n S) [] E tl) ρ M Q:=λf H QQ R k=>
 h f H _ R λc e xs M1 O o b Y=>by obtain⟨h0,h1,t⟩:=Y;show spD K n S (c++[]) e QQ E;rw[a2Q];exact#[xs,M1,h0,O,o,h1,λx i v H' p m q X=>k v H' x i q X (b.trans m) (t x i p)]
theorem MD {r:V->List V->Hp->VK->Prop}(h:DE K ta ρ M λx M1=>DTy K T x M1/\DA K tl ρ M1 λxs t=>DM K r x xs t Q):DE K (tBM K T r ta tl) ρ M Q:=λm H QQ R k=>
 h m H _ R (by rintro v e x M1 O n o ⟨h0,h1⟩;exact#[h0 e v O n,h1 m e _ (R.step O o) λI c xs t g u i f=>f c v I QQ g (n.step i) u λw p z b j y N q=>k w p z b j y ((o.trans i).trans N) q])
theorem t9 (h:QP ap M):DP K cL ρ M QP:=λe H QQ R k=>k _ H M R.own Step.refl h
theorem tD (h:DE K ta ρ M λx M1=>∃i,x = .d (.int i)/\QP (am i) M1):DP K (xV ta) ρ M QP:=λo H QQ R k=>
 h o H _ R λv t x M1 O e n h1=>by obtain⟨i,rfl,q⟩:=h1;unfold SI DV at e;exact#[i,e,k _ t M1 O n q]
theorem A3J {r:V->Option Int->Option Int->Hp->VK->Prop}{tl:TO}(h:DE K ta ρ M λx M1=>DP K tl ρ M1 λI T=>DP K S ρ T λhi o=>DSl K r x I hi o Q):DE K (tSl r ta tl S) ρ M Q:=λn H QQ R k=>
 h n H _ R λv i x M1 O D e h1=>h1 n i _ (R.step O e) λI c T j t f=>f n c _ (R.step j (e.trans t)) λhi m o u y g=>g m v QQ u (D.step (t.trans y)) λw b z p N B G q=>k w b z p N B (((e.trans t).trans y).trans G) q
theorem cS (h:D.nx ρ M):DSt K xD ρ M D:=λe H E R B _ _ _=>B ρ M e H R Step.refl h
theorem lC (h:DE K ta ρ M D.rt):DSt K (A0S ta) ρ M D:=λn H E R _ e _ _=>h n H E.rt R λv H' x i a b c q=>e v H' x i a b c q
theorem cT (h:DE K ta ρ M λ_ M1=>D.nx ρ M1):DSt K (k7 ta) ρ M D:=λe H E R B _ _ _=>h e H _ R λv H' x i a b c q=>B ρ i e H' (R.step a c) c q
theorem lD (h:DE K ta ρ M λx M1=>D.nx (ρ.set i (am x)) M1):DSt K (rT ta (PJ i)) ρ M D:=λn H E R B _ _ _=>
 h n H _ R λv H' x e a b c q=>B _ e _ H' ((R.step a c).set b i) c q
theorem cU (h:DE K ta ρ M λx M1=>D.nx (ρ.set i (am x)) M1):DSt K (λD e H=>ta e H λv H'=>D.nx (e.set i (am v)) H') ρ M D:=λe H E R B _ _ _=>
 h e H _ R λv H' x n a b c q=>B _ n _ H' ((R.step a c).set b i) c q
theorem aA (h:DSt K t ρ M { D with nx:=λn M1=>DSt K u n M1 D }):DSt K (k6 t u) ρ M D:=λv H E R B m N p=>by refine h v H { E with nx:=λo H'=>u E o H' } R (λn M1 i j k x q=>?_) m N p;exact q i j E k (λa b c d e f g=>B a b c d e (x.trans f) g) (λa b c d e f g q=>m a b c d e f (x.trans g) q) (λa b c d e f g=>N a b c d e (x.trans f) g) (λa b c d e f g=>p a b c d e (x.trans f) g)
theorem A3K (h:DT K tA ρ M λc M1=>if c=av then DSt K t ρ M1 D else DSt K u ρ M1 D):DSt K (A0U tA t u) ρ M D:=λn H E R B m N p=>
 h n H _ R λc o M1 O x h1=>by
   have i:∀{w:TS},DSt K w ρ M1 D->w E n o:=λq=>q n o E (R.step O x) (λa b c d e f g=>B a b c d e (x.trans f) g) (λa b c d e f g q=>m a b c d e f (x.trans g) q) (λa b c d e f g=>N a b c d e (x.trans f) g) (λa b c d e f g=>p a b c d e (x.trans f) g);cases c with
   | true=>rw[if_pos rfl] at h1 ⊢;exact i h1
   | false=>rw[if_neg nft] at h1 ⊢;exact i h1
theorem tE (h:DSt K t ρ M D) (h1:∀S i,D.nx S i->n.nx S i) (o:∀x i,D.rt x i->n.rt x i) (m:∀S i,D.bk S i->n.bk S i) (p:∀S i,D.ct S i->n.ct S i):DSt K t ρ M n:=
 λv H E R B j N k=>h v H E R (λa b c d e f g=>B a b c d e f (h1 _ _ g)) (λa b c d e f g q=>j a b c d e f g (o _ _ q)) (λa b c d e f g=>N a b c d e f (m _ _ g)) (λa b c d e f g=>k a b c d e f (p _ _ g))
theorem H0 (e:ρ[i]?=am (am (.loc a))) (m:M a=am (.l ds)) (h:DSt K t (ρ.set i (am (.d (.list ds)))) (M.del a) D):DSt K t ρ M D:=λp H E R B O I S=>by
 have hs:(M.del a).Sub M:=λb o q=>by
   unfold Own.del at q;by_cases hb:b=a;. rw[if_pos hb] at q;cases q
   . rw[if_neg hb] at q;exact q
 have n:Step K M (M.del a) H H:=#[B7 hs]
 obtain⟨v,k,T⟩:=R.slot i _ e;obtain⟨L,G,J⟩:=R.own a _ m;have z:Rel K (M.del a) ρ p H:=R.step (R.own.sub hs) n;have R2:=z.set (x:=.d (.list ds)) (v:=v) (by
   unfold SI DV;refine#[a,L,T,.inl #[λw=>w (by unfold Own.del;rw[if_pos rfl]),.inl G],J.grow (B7 hs)]) i;have N:p.set i (am v)=p:=by
   apply b2X;intro j;rw[List.getElem?_set];by_cases y:i=j
   . subst y;rw[if_pos rfl,k];split;. rfl
     . rename_i U;rw[a6K (by lia)] at k;cases k
   . rw[if_neg y]
 rw[N] at R2;exact h p H E R2 (λa b c d e f g=>B a b c d e (n.trans f) g) (λa b c d e f g q=>O a b c d e f (n.trans g) q) (λa b c d e f g=>I a b c d e (n.trans f) g) (λa b c d e f g=>S a b c d e (n.trans f) g)
end
end DL
namespace DL
open PySem PySem.Spec L2
section
theorem BC (h:SI K H M (.d (.int i)) v):v = .int i:=by unfold SI DV at h;exact h
theorem A3L (h:SI K H M (.d (.bool i)) v):v = .bl i:=by unfold SI DV at h;exact h
theorem BD (h:SI K H M (.d (.str i)) v):v = .str i:=by unfold SI DV at h;exact h
theorem lE (h:SI K H M (.d .none) v):v = .non:=by unfold SI DV at h;exact h
theorem BR :SI K H M (.d (.int i)) (.int i):=by unfold SI DV;rfl
theorem AN :SI K H M (.d (.bool i)) (.bl i):=by unfold SI DV;rfl
theorem HA :SI K H M (.d (.str i)) (.str i):=by unfold SI DV;rfl
theorem A3M {g:Int->Int->Int}(q:Q (.d (.int (g i j))) M):D2 K (rI0 λi j=>.int (g i j)) (.d (.int i)) (.d (.int j)) M Q:=λH v u QQ e r t k=>by rw[BC r,BC t];exact#[i,j,rfl,rfl,k _ H _ M e BR Step.refl q]
theorem A3N {g:Int->Int->Bool}(q:Q (.d (.bool (g i j))) M):D2 K (rI0 λi j=>.bl (g i j)) (.d (.int i)) (.d (.int j)) M Q:=λH v u QQ e r t k=>by rw[BC r,BC t];exact#[i,j,rfl,rfl,k _ H _ M e AN Step.refl q]
theorem T2 {g:Int->Int->Int}(c:C i j) (q:Q (.d (.int (g i j))) M):D2 K (rI C λi j=>.int (g i j)) (.d (.int i)) (.d (.int j)) M Q:=λH v u QQ e r t k=>by rw[BC r,BC t];exact#[i,j,rfl,rfl,c,k _ H _ M e BR Step.refl q]
theorem A4C {g:Int->Int}(q:Q (.d (.int (g i))) M):D1 K (rU λi=>.int (g i)) (.d (.int i)) M Q:=λH v QQ e r k=>by rw[BC r];exact#[i,rfl,k _ H _ M e BR Step.refl q]
theorem tF (hz:i.length+j.length<=aB) (q:Q (.d (.str (i++j))) M) :
   D2 K (λx y H Q=>∃i j,x = .str i/\y = .str j/\i.length+j.length<=aB/\Q (.str (i++j)) H) (.d (.str i)) (.d (.str j)) M Q:=λH v u QQ e r t k=>by rw[BD r,BD t];exact#[i,j,rfl,rfl,hz,k _ H _ M e HA Step.refl q]
theorem A1F (q:Q (.d (.bool (!(a4Q j i 0 j.length 1).isEmpty))) M) :
   D2 K (λx y H Q=>∃i j,x = .str i/\y = .str j/\Q (.bl (!(a4Q j i 0 j.length 1).isEmpty)) H) (.d (.str i)) (.d (.str j)) M Q:=λH v u QQ e r t k=>by rw[BD r,BD t];exact#[i,j,rfl,rfl,k _ H _ M e AN Step.refl q]
theorem A1G (q:Q (.d (.bool (decide (i.cps.toList < j.cps.toList)))) M) :
   D2 K (λx y H Q=>∃i j,x = .str i/\y = .str j/\Q (.bl (decide (i.cps.toList < j.cps.toList))) H) (.d (.str i)) (.d (.str j)) M Q:=λH v u QQ e r t k=>by rw[BD r,BD t];exact#[i,j,rfl,rfl,k _ H _ M e AN Step.refl q]
theorem CG {neg:Bool}(g:zH a=av) (hb:zH b=av) (q:Q (.d (.bool (if neg then !a0W a b else a0W a b))) M):D2 K (UT K neg) (.d a) (.d b) M Q:=λH v u QQ e r t k=>
 #[M.W,a,b,r,t,g,hb,k _ H _ M e AN Step.refl q]
theorem lG (x:Str) (ys:List Str):inV (.str x) (ys.map V.str)=decide (x∈ys):=by
 unfold inV;rw[a4J,b6Q,decide_eq_true_iff];constructor
 . rintro⟨y,hy,e⟩;obtain⟨z,t,rfl⟩:=zL.mp hy;have:z=x:=by simpa [eqV] using e
   subst this;exact t
 . intro h;exact#[.str x,zL.mpr #[x,h,rfl],by simp[eqV]]
theorem aC (h:DVs K H W ds vs) (e:atI ds i=am d):∃v,atI vs i=am v/\DV K H W d v:=by
 unfold atI at e ⊢;rw[h.length];cases hx:ixN ds.length i with
 | none=>rw[hx] at e;cases e
 | some j=>rw[hx] at e;simpa using h.get' (by simpa using e)
theorem A1H (e:atI ds i=am d) (q:Q (.d d) M):D2 K (sE K) (.d (.list ds)) (.d (.int i)) M Q:=λH v u QQ n r o k=>by rw[BC o];unfold SI DV at r;obtain⟨a,p,rfl,m,hd⟩:=r;obtain⟨w,h1,t⟩:=aC hd e;exact#[a,p,i,w,rfl,rfl,m.sq,h1,k _ H (.d d) M n t Step.refl q]
theorem A1I (e:atI ds i=am d) (q:Q (.d d) M):D2 K (A0t K) (.d (.tuple ds)) (.d (.int i)) M Q:=λH v u QQ n r o k=>by rw[BC o];unfold SI DV at r;obtain⟨a,p,rfl,m,hd⟩:=r;obtain⟨w,h1,t⟩:=aC hd e;exact#[a,p,i,w,rfl,rfl,m.sq,h1,k _ H (.d d) M n t Step.refl q]
theorem A1J (m:M a=am (.l ds)) (e:atI ds i=am d) (q:Q (.d d) M):D2 K (sE K) (.loc a) (.d (.int i)) M Q:=λH v u QQ t r o k=>by rw[BC o];unfold SI at r;subst r;obtain⟨p,h0,hd⟩:=t a _ m;obtain⟨w,h1,n⟩:=aC hd e;exact#[a,p,i,w,rfl,rfl,SqL.of h0,h1,k _ H (.d d) M t n Step.refl q]
theorem A1K (hz:z.length<=aB) (e:atI z.cps.toList i=am c) (q:Q (.d (.str #[(y9 [c])])) M):D2 K A0u (.d (.str z)) (.d (.int i)) M Q:=λH v u QQ t r n k=>by rw[BC n,BD r];exact#[z,i,c,rfl,rfl,hz,e,k _ H _ M t HA Step.refl q]
theorem F0 {J:R2}(h:D2 K r x y M Q):D2 K (λx y H Q=>r x y H Q\/J x y H Q) x y M Q:=λH v u QQ q e t k=>.inl (h H v u QQ q e t k)
theorem GK {r:R2}(h:D2 K J x y M Q):D2 K (λx y H Q=>r x y H Q\/J x y H Q) x y M Q:=λH v u QQ q e t k=>.inr (h H v u QQ q e t k)
theorem A1L (hz:as.length+bs.length<=aB) (q:Q (.d (.list (as++bs))) M):D2 K (λx y H Q=>∃a b xs ys,x = .ref a/\y = .ref b/\SqL K H a xs/\SqL K H b ys/\xs.length+ys.length<=aB/\∀p,H p=ap->Q (.ref p) (upd H p (.lst (xs++ys)))) (.d (.list as)) (.d (.list bs)) M Q:=λH v u QQ e r t k=>by unfold SI DV at r t;obtain⟨a,o,rfl,m,hd⟩:=r;obtain⟨b,n,rfl,i,hd2⟩:=t;refine#[a,b,o,n,rfl,rfl,m.sq,i.sq,by rw[hd.length,hd2.length];exact hz,λp hp=>?_];have g:Grow K M.W M.W H (upd H p (.lst (o++n))):=B6 _ hp;refine k _ _ (.d (.list (as++bs))) M (e.new hp) ?_ #[g] q;unfold SI DV;exact#[p,_,rfl,.inl #[λw=>w (e.none hp),.inl AE],(hd.append hd2).grow g]
theorem tG (hz:z.length<=aB) (q:Q (.d (.int z.length)) M):DR K (λxs H Q=>∃x n,xs=[x]/\kG K x H n/\Q (.int (n:Nat)) H) [.d (.str z)] M Q:=λH o QQ t s k=>by obtain⟨v,r,rfl,h1,e⟩:=s;cases e;rw[BD h1];exact#[_,_,rfl,#[hz,rfl],k _ H _ M t BR Step.refl q]
theorem tH (q:Q (.d (.int ds.length)) M):DR K (λxs H Q=>∃x n,xs=[x]/\kG K x H n/\Q (.int (n:Nat)) H) [.d (.list ds)] M Q:=λH e QQ o s k=>by obtain⟨v,r,rfl,h1,t⟩:=s;cases t;unfold SI DV at h1;obtain⟨a,e,rfl,m,hd⟩:=h1;exact#[_,_,rfl,.inl #[e,m.sq,rfl],k _ H (.d (.int ds.length)) M o (by rw[hd.length];exact BR) Step.refl q]
theorem tI (q:Q (.d (.int ds.length)) M):DR K (λxs H Q=>∃x n,xs=[x]/\kG K x H n/\Q (.int (n:Nat)) H) [.d (.tuple ds)] M Q:=λH e QQ o s k=>by obtain⟨v,r,rfl,h1,t⟩:=s;cases t;unfold SI DV at h1;obtain⟨a,e,rfl,m,hd⟩:=h1;exact#[_,_,rfl,.inr #[e,m.sq,rfl],k _ H (.d (.int ds.length)) M o (by rw[hd.length];exact BR) Step.refl q]
theorem A1M (q:Q (.d (.int (if i < 0 then -i else i))) M):DR K (λxs H Q=>∃i,xs=[.int i]/\Q (.int (if i < 0 then -i else i)) H) [.d (.int i)] M Q:=λH n QQ t s k=>by obtain⟨v,r,rfl,h1,e⟩:=s;cases e;rw[BC h1];exact#[_,rfl,k _ H _ M t BR Step.refl q]
theorem A1N {bs:List Bool}(q:Q (.d (.bool (bs.all id))) M):DR K (λxs H Q=>∃(p:Addr) (bs:List Bool),xs=[.ref p]/\SqL K H p (bs.map V.bl)/\Q (.bl (bs.all id)) H) [.d (.list (bs.map .bool))] M Q:=λH n QQ t s k=>by obtain⟨v,r,rfl,h1,e⟩:=s;cases e;unfold SI DV at h1;obtain⟨a,n,rfl,m,hd⟩:=h1;rw[T0 hd] at m;exact#[a,bs,rfl,m.sq,k _ H _ M t AN Step.refl q]
theorem UV :DTy K "str" (.d (.str z)) M:=λH v _ s=>by rw[BD s];exact rfl
theorem IB (m:M a=am (.l ds)):DTy K "list" (.loc a) M:=λH v q s=>by unfold SI at s;subst s;obtain⟨n,h0,hd⟩:=q a _ m;exact .inl #[rfl,n,SqL.of h0]
theorem cV (hz:(ys.map (·.length)).sum+ys.length*y.length<=16777216) (q:Q (.d (.str (Txt.join y ys))) M):DM K (l0 K) (.d (.str y)) [.d (.list (ys.map .str))] M Q:=λH v p QQ t n o k=>by obtain⟨u,r,rfl,h1,e⟩:=o;cases e;rw[BD n];unfold SI DV at h1;obtain⟨a,i,rfl,m,hd⟩:=h1;rw[MB hd] at m;exact#[y,a,ys,rfl,rfl,m.sq,hz,k _ H _ M t HA Step.refl q]
theorem FD (m:M a=am (.l ds)) (hz:ds.length < aB) (q:Q (.d .none) (M.put a (.l (ds++[d])))):DM K UN (.loc a) [.d d] M Q:=λH v p QQ e t o k=>by obtain⟨u,r,rfl,h1,n⟩:=o;cases n;unfold SI at t;subst t;obtain⟨i,h0,hd⟩:=e a _ m;obtain⟨x,y⟩:=E5 e m (hd.append (DVs.cons h1 DVs.nil));exact#[a,i,u,rfl,rfl,h0,by rw[hd.length];exact hz,k _ _ (.d .none) _ x (by unfold SI DV;rfl) y q]
theorem tJ (hz:z.length<=aB) (q:Q (.d (.str (b0Z z I hi))) M):DSl K A03 (.d (.str z)) I hi M Q:=λH v QQ e r k=>by rw[BD r];exact#[z,rfl,hz,k _ H _ M e HA Step.refl q]
def GL (xs:List PyData) (I hi:Option Int):List PyData:=(xs.drop (HT.sIx xs.length 0 I)).take (HT.sIx xs.length xs.length hi - HT.sIx xs.length 0 I)
theorem lH (q:Q (.d (.list (GL ds I hi))) M):DSl K (A0x K) (.d (.list ds)) I hi M Q:=λH v QQ e r k=>by
 unfold SI DV at r;obtain⟨a,n,rfl,m,hd⟩:=r;refine#[a,n,rfl,m.sq,λp hp=>?_];have g:Grow K M.W M.W H (upd H p (.lst (KY n I hi))):=B6 _ hp;have key:DVs K H M.W (GL ds I hi) (KY n I hi):=by unfold GL KY;rw[hd.length];exact(hd.drop _).take _
 refine k _ _ (.d (.list (GL ds I hi))) M (e.new hp) ?_ #[g] q;unfold SI DV;exact#[p,_,rfl,.inl #[λw=>w (e.none hp),.inl AE],key.grow g]
end
end DL
namespace DL
open PySem PySem.Spec L2
structure WD (K:Frg) (J:It) (ds:List PyData) (H1:Hp) (M1:Own):Prop where
 go:∀(i:Nat) H' M',i < ds.length->OA K H' M'->Step K M1 M' H1 H'->J.go i H'
 stop:∀H' M',OA K H' M'->Step K M1 M' H1 H'->J.stop ds.length H'
 yld:∀(i:Nat) H' M' x H2,OA K H' M'->Step K M1 M' H1 H'->i < ds.length->J.yld i H' x H2->OA K H2 M'/\Step K M' M' H' H2/\∃d,ds[i]?=am d/\DV K H2 M'.W d x
def DI (K:Frg) (U:TI) (n:List (Option DS)) (M:Own) (Q:List PyData->Own->Prop):Prop:=∀(t:St) (H:Hp) (R:It->Hp->Prop),Rel K M n t H->(∀J ds e M1,OA K e M1->Step K M M1 H e->WD K J ds e M1->Q ds M1->R J e)->U t H R
def DG (K:Frg) (g:TG) (d:PyData) (t:List (Option DS)) (M:Own) (P:List (Option DS)->Own->Prop):Prop:=∀(e:St) (H:Hp) (v:V) (QQ:St->Hp->Prop),Rel K M t e H->DV K H M.W d v->(∀S i b H',Rel K i S b H'->Step K M i H H'->P S i->QQ b H')->g v e H QQ
def JC (g:TG) (T:List Nat):Prop:=∀(v:V) (t:St) (H:Hp) (QQ:St->Hp->Prop),g v t H (λe c=>(∀i,i∉T->e[i]?=t[i]?)->QQ e c)->g v t H QQ
section
variable {K:Frg}{ρ:List (Option DS)}{M:Own}{D:EndsD}{tl:TE}{tb:TS}{i:Nat}{QI:List PyData->Own->Prop}{g:TG}{wi:TI}
def CU (z:Str):List PyData:=z.cps.toList.map λc=>.str #[(y9 [c])]
def FI (I:Int) (n:Nat):List PyData:=(a0K n).map λ(i:Nat)=>.int (I+i)
theorem JY (h:DA K T ρ M λxs M1=>∃j:Int,xs=[.d (.int j)]/\-(2 ^ 62)<=j/\j < 2 ^ 62/\QI (FI 0 j.toNat) M1):DI K (xE T) ρ M QI:=λN H R X k=>
 h N H _ X λS b xs M1 O u z Y=>by
   obtain⟨j,e,h1,c,q⟩:=Y;subst e;obtain⟨v,r,rfl,m,f⟩:=u;cases f;rw[show v = .int j by unfold SI DV at m;exact m];have t:(FI 0 j.toNat).length=j.toNat:=by simp[FI]
   refine#[j,rfl,h1,c,k _ (FI 0 j.toNat) b M1 O z #[λi H' o hi n p=>?_,λH' o n p=>?_,λi H' o x I n p hi y=>?_] q];. show i < j.toNat;rw[<-t];exact hi
   . show j.toNat<=(FI 0 j.toNat).length;rw[t];exact zR _
   . obtain⟨rfl,rfl⟩:=y;refine#[n,Step.refl,.int (0+i),?_,by unfold DV;rfl];unfold FI;rw[zF];rw[t] at hi;simp[hi]
theorem tK (h:P (ρ.set i (am (.d d))) M):DG K (PJ i) d ρ M P:=λe H v QQ R T k=>k _ M _ H (R.set (x:=.d d) T i) Step.refl h
theorem BK (i:Nat):JC (PJ i) [i]:=λv t H QQ h=>h λj e=>by rw[b6X (by rintro rfl;exact e (by simp))]
abbrev EndsD.turn (D:EndsD) (P:List (Option DS)->Own->Prop):EndsD:={ nx:=P,ct:=P,bk:=D.nx,rt:=D.rt }
theorem F3 (h:DI K wi ρ M λds M1=>∃P:Nat->List (Option DS)->Own->Prop,P 0 ρ M1/\(∀k d S t,ds[k]?=am d->P k S t->DG K g d S t λn T=>DSt K tb n T (D.turn (P (k+1))))/\∀S t,P ds.length S t->D.nx S t) :
   DSt K (A0a wi g tb) ρ M D:=λσ H E R X k2 k3 k4=>
 h σ H _ R λJ ds Q M1 o1 I G Lo=>by
   obtain⟨P,p0,pt,pe⟩:=Lo;refine#[λi m o H'=>m=ds.length - i/\i<=ds.length/\∃S t,Rel K t S o H'/\Step K M1 t Q H'/\P i S t,#[_,rfl,xR _,ρ,M1,R.step o1 I,Step.refl,p0],?_];rintro i m o H' ⟨rfl,hi,S,t,j,z,p⟩;by_cases B:i < ds.length;. refine .inr #[G.go i H' t B j.own z,λN f=>∃n T,Rel K T n N f/\Step K M1 T Q f/\P (i+1) n T,(by rintro N f ⟨n,T,a,b,c⟩;exact#[ds.length - (i+1),by omega,rfl,B,n,T,a,b,c]),λx f y=>?_];obtain⟨Y,Z,d,e1,e2⟩:=G.yld i H' t x f j.own z B y;refine pt i d S t e1 p o f x _ (j.step Y Z) e2 λρ3 M3 L H3 R3 ff b3=>?_;have O:=(z.trans Z).trans ff;exact b3 L H3 _ R3 (λr m s v u U q=>#[r,m,u,O.trans U,q]) (λw v x m a b c q=>k2 w v x m a b (I.trans (O.trans c)) q) (λr m s v u U q=>X r m s v u (I.trans (O.trans U)) q) (λr m s v u U q=>#[r,m,u,O.trans U,q])
   . have e:i=ds.length:=by omega
     subst e;exact .inl #[G.stop H' t j.own z,X S t o H' j (I.trans z) (pe S t p)]
def G8 (e:List (Option Nat)) (ρ:List (Option DS)):List (Option DS):=e.map λo=>o.bind λj=>(ρ[j]?).join
theorem FE {t:List (Option Nat)}{S:Type}{ρ:List (Option S)}{i:Nat}{x:S}(h:(t.map λo=>o.bind λj=>(ρ[j]?).join)[i]?=am (am x)):∃j,t[i]?=am (am j)/\ρ[j]?=am (am x):=by
 rw[zF] at h;cases n:t[i]? with
 | none=>rw[n] at h;cases h
 | some o=>
   rw[n] at h;cases o with
   | none=>cases h
   | some j=>
     refine#[j,rfl,?_];have e:((ρ[j]?).join)=am x:=Option.some.inj h;cases hs:ρ[j]? with
     | none=>rw[hs] at e;cases e
     | some q=>rw[hs] at e;cases q with
       | none=>cases e
       | some r=>cases e;rfl
theorem Rel.capt (R:Rel K M ρ n H):Rel K M (G8 t ρ) (L2.capt t n) H:=by refine#[R.own,by unfold G8 L2.capt;rw[zX,zX],λi x e=>?_];obtain⟨j,o,h⟩:=FE e;obtain⟨v,h1,r⟩:=R.slot j x h;refine#[v,?_,r];unfold L2.capt;rw[zF,o];simp[h1]
theorem P4 (ho:JC g T) (hT:∀i∈T,∀j,u[i]?≠am (am j)) (h:DI K wi ρ M λds M1=>ds.length < aB/\∀D,M1 D=ap->∃P:Nat->List PyData->Own->Prop,P 0 [] (M1.put D (.l []))/\(∀k acc t,P k acc t->t D=am (.l acc)/\acc.length<=k) /\(∀k d acc t,ds[k]?=am d->P k acc t->DG K g d (G8 u ρ) t λL M2=>DT K tt L M2 λc Z=>if c=av then DE K te L Z λy M4=>∃r,y = .d r/\M4 D=am (.l acc)/\P (k+1) (acc++[r]) (M4.put D (.l (acc++[r]))) else P (k+1) acc Z) /\∀acc t,P ds.length acc t->Q (.d (.list acc)) (t.del D)) :
   DE K (OG u wi g tt te) ρ M Q:=λσ H QQ R k=>
 h σ H _ R λJ ds H1 M1 o1 t1 wd Lp=>by
   obtain⟨hsz,hq⟩:=Lp;intro A hA;obtain⟨P,p0,pa,pt,pe⟩:=hq A (o1.none hA);obtain⟨oA,sA⟩:=MC o1 hA (DVs.nil (K:=K) (H:=H1) (W:=M1.W));refine#[λi m ys n=>m=ds.length - i/\i<=ds.length/\n A=am (.lst ys)/\∃acc t,OA K n t/\Step K M1 t H1 n/\P i acc t,#[_,rfl,xR _,AE,[],_,oA,sA,p0],?_];rintro i m ys n ⟨rfl,hi,wt,acc,t,I,v,p⟩;refine#[wt,?_];have yj:∀{N:Own},(N.del A).Sub N:=λ{N} b o q=>by
     unfold Own.del at q;by_cases hb:b=A;. rw[if_pos hb] at q;cases q
     . rw[if_neg hb] at q;exact q
   by_cases X:i < ds.length
   . refine .inr #[wd.go i n t X I v,λx Y y=>?_];obtain⟨yl,ff,d,e1,e2⟩:=wd.yld i n t x Y I v X y;have Rc:Rel K t (G8 u ρ) (L2.capt u σ) Y:=((R.step o1 t1).step yl (v.trans ff)).capt;refine ho _ _ _ _ (pt i d acc t e1 p (L2.capt u σ) Y x _ Rc e2 λρ3 Z U H4 R3 gu b3 hext=>#[λi' v' lj=>?_,?_]);. obtain⟨j,f1,f2⟩:=FE lj;rw[hext i' λf=>hT i' f j f1];exact lj
     . refine b3 U H4 _ R3 λc H5 M5 o5 jb O=>?_;have sx:=((v.trans ff).trans gu).trans jb;cases c with
       | false=> rw[if_neg nft] at O ⊢;obtain⟨f,_⟩:=pa _ _ _ O;obtain⟨G,S,B⟩:=o5 A _ f;exact#[G,ds.length - (i+1),by omega,rfl,X,S,acc,M5,o5,sx,O]
       | true=> rw[if_pos rfl] at O ⊢;refine O U H5 _ (R3.step o5 jb) λy H6 z M6 o6 s6 om h6=>?_;obtain⟨r,rfl,f,p'⟩:=h6;obtain⟨G,S,B⟩:=o6 A _ f;obtain⟨w1,w2⟩:=E5 o6 f (B.append (DVs.cons s6 DVs.nil));have ac:acc.length<=i:=(pa _ _ _ p).2;exact#[G,S,by rw[B.length];omega,ds.length - (i+1),by omega,rfl,X,AE,_,_,w1,(sx.trans om).trans w2,p']
   . have e:i=ds.length:=by omega
     subst e;refine .inl #[wd.stop n t I v,?_];obtain⟨f,_⟩:=pa _ _ _ p;obtain⟨G,S,B⟩:=I A _ f;have bx:Step K t (t.del A) n n:=#[B7 yj]
     refine k _ n (.d (.list acc)) (t.del A) (I.sub yj) ?_ ((t1.trans v).trans bx) (pe acc t p);unfold SI DV;exact#[A,G,rfl,.inl #[λw=>w (by unfold Own.del;rw[if_pos rfl]),.inl S],B.grow (B7 yj)]
theorem BY (ho:JC g T) (hT:∀i∈T,∀j,m[i]?≠am (am j)) (h:DI K wi ρ M λds M1=>ds.length < aB/\∃(c:PyData->Bool) (f:PyData->PyData),(∀d∈ds,∀e,DG K g d (G8 m ρ) e λp o=>o=e/\DT K L p o λb r=>r=e/\b=c d/\(c d=av->DE K I p r λy O=>y = .d (f d)/\O=e))/\Q (.d (.list ((ds.filter c).map f))) M1) :
   DE K (OG m wi g L I) ρ M Q:=by
 refine P4 ho hT λu H R Rl k=>h u H R Rl λJ ds X M1 o1 t1 wd q=>k J ds X M1 o1 t1 wd ?_;obtain⟨hsz,c,f,he,q⟩:=q;refine#[hsz,λA hA=>#[λk acc e=>acc=((ds.take k).filter c).map f/\e=M1.put A (.l acc),#[by simp,rfl],λk acc e #[n,t]=>#[by rw[t];exact zU,?_],λk d acc e hd #[n,t]=>?_,λacc e #[n,t]=>?_]];. rw[n,zX];exact zN (yJ _ _) (by rw[a1X];omega)
 . have hm:d∈ds:=yN hd;intro u H v QQ R dv kk;refine he d hm e u H v QQ R dv λS o x H' R' st ww7=>kk S o x H' R' st λN Y QQ2 R2 k2=>?_;obtain⟨eM,q2⟩:=ww7;refine q2 N Y QQ2 R2 λb Z r o3 ff Lq=>k2 b Z r o3 ff ?_;obtain⟨U,z,q3⟩:=Lq;have G:(ds.take (k+1)).filter c=(ds.take k).filter c++(if c d then [d] else []):=hX c ds k d hd;cases hb:c d with
   | false=> rw[hb] at z;subst z;refine L2.kY #[?_,by rw[U,t]];rw[G,hb,n];simp
   | true=>
     rw[hb] at z;subst z;refine L2.gC ?_;refine UU (q3 hb) λy O #[ey,B]=>#[f d,ey,by rw[B,t];exact zU,?_,by rw[B,t,yI]]
     rw[G,hb,n];simp
 . rw[t,yG hA,n,a1Q];exact q
end
def L4 (N:List Str) (xs:List DS):List (Option DS):=xs.map am++b2V (N.length - xs.length) ap
section
theorem SIs.get :∀{xs:List DS}{vs:List V}{i:Nat}{x:DS},SIs K H M xs vs->xs[i]?=am x->∃v,vs[i]?=am v/\SI K H M x v
 | [],_,_,_,_,e=>by simp at e
 | d::ds,vs,i,x,#[v,r,e',h1,t],e=>by
   subst e';cases i with
   | zero=>simp at e;subst e;exact#[v,rfl,h1]
   | succ i=>simpa using SIs.get t (by simpa using e)
theorem T3 (n:OA K H M) (h:SIs K H M xs vs):Rel K M (L4 N xs) (L2.start N vs) H:=by
 have m:=h.length;refine#[n,by unfold L4 L2.start;simp[m],λi x e=>?_];unfold L4 at e;by_cases hi:i < xs.length
 . rw[yQ (by simpa using hi),zF] at e;cases q:xs[i]? with
   | none=>rw[q] at e;cases e
   | some y=> rw[q] at e;cases e;obtain⟨v,h1,t⟩:=h.get q;refine#[v,?_,t];unfold L2.start;rw[yQ (by rw[zX,m];exact hi),zF,h1];rfl
 . rw[yP (by simpa using hi),List.getElem?_replicate] at e;split at e <;> cases e
theorem fnD (F:Fun K x qual st f e) (g:FnScope N ps (AB st)) (n:∀(cdv:aw) (A:bv) (outer:List im) (s:ax) (H:Hp) (E:XK),Room k (A.deeper (xJ qual (AB st) s.heap.objs.size f cdv)) ->∃t,PSs (IA CX0 P w K mg base N qual (AB st) f cdv A outer s H E).nox (BB st) t/\∀xs M,xs.length=ps.length->S.pre xs M->DSt K t (L4 N xs) M { nx:=λ_ M1=>∃T:Own,T.Sub M1/\S.post xs M (.d .none) T,rt:=λy M1=>∃T:Own,T.Sub M1/\S.post xs M y T }) :
   FnOk P w K mg base CX0 (k+1) f e ps (spD K ps.length S):=by
 refine F.ok g cQ λcdv A outer s H i Q E hr h=>?_;obtain⟨t,u,hq⟩:=n cdv A outer s H E hr;obtain⟨xs,M,m,q,X,pre,post⟩:=h;refine#[t,u,hq xs M m pre (L2.start N i) H _ (T3 q X) ?_ ?_ (λ_ _ _ _ _ _ z=>z.elim) (λ_ _ _ _ _ _ z=>z.elim)];. rintro b M1 c H' R st ⟨T,hs,p⟩;exact post (.d .none) T .non H' p (st.trans #[B7 hs]) (R.own.sub hs) (by unfold SI DV;rfl)
 . rintro v H' y M1 o r st ⟨T,hs,p⟩;exact post y T v H' p (st.trans #[B7 hs]) (o.sub hs) (r.sub hs)
end
end DL
namespace L2
open PySem PySem.Spec PyProof.Rows
section
variable {X:Cx}{tg:bn}
def X5 (K:Frg):R2:=λx y H Q=>(rI0 λi j=>.int (i+j)) x y H Q\/((∃i j,x = .str i/\y = .str j/\i.length+j.length<=aB/\Q (.str (i++j)) H)\/z6 K x y H Q)
theorem tL:OpR X (dh .Add) (X5 X.K):=A0d.or (ZV.or sY)
def OY (K:Frg):R2:=λx y H Q=>sE K x y H Q\/(A0t K x y H Q\/A0u x y H Q)
theorem A1O:IxR X (OY X.K):=sF.or (A0v.or A0w)
def tM (K:Frg):V->Option Int->Option Int->Hp->VK->Prop:=λx I hi H Q=>A0x K x I hi H Q\/A03 x I hi H Q
theorem A1P:SlR X (tM X.K):=sG.or A04
def A1Q:R2:=λx y H Q=>(rI0 λi j=>.bl (decide (i < j))) x y H Q\/∃i j,x = .str i/\y = .str j/\Q (.bl (decide (i.cps.toList < j.cps.toList))) H
theorem lI:OpR X (bj .Lt) A1Q:=A2r.or fU
def tN (K:Frg):R2:=λx y H Q=>(∃i j,x = .str i/\y = .str j/\Q (.bl (!(a4Q j i 0 j.length 1).isEmpty)) H)\/rIn K ay x y H Q
theorem A1R:OpR X (bj .In) (tN X.K):=fV.or g6
def UW (K:Frg):R2:=λx y H Q=>(∃i j,x = .str i/\y = .str j/\Q (.bl (!(!(a4Q j i 0 j.length 1).isEmpty))) H)\/rIn K av x y H Q
theorem gD:OpR X (bj .NotIn) (UW X.K):=UI.or UM
def lJ (K:Frg) (tl:TE):TI:=λn H R=>tl n H λx e=>(∃a,x = .ref a/\(∃t,SqL K e a t)/\R (Itl K a) e)\/(∃a,x = .ref a/\(∃t,SqT K e a t)/\R (Itt K a) e)\/∃y,x = .str y/\R (Its y) e
theorem A1S (k:PE X l tl):PI X tg l (lJ X.K tl):=by
 intro pins s O H R I h;refine thn (k pins s O H _ I h) ?_;rintro v r ⟨x,i,n,c,N⟩;have m:∀b∈[r.heap.objs.size],LX X pins i b:=λb hb=>by
   have e:b=r.heap.objs.size:=by simpa using hb
   subst e;exact n.fpOk (zR _) (n.hok.fresh (zR _))
 rcases N with ⟨a,e,⟨T,hq⟩,q⟩ | ⟨a,e,⟨T,hq⟩,q⟩ | ⟨y,e,q⟩
 . subst e;cases c;obtain⟨g,z,p,u⟩:=n.list hq;refine wpAny_pyIter_list p.isList ?_;exact#[r.heap.objs.size,[r.heap.objs.size],_,_,i,rfl,n.kept (t':=r.toks) λb o e=>zW _ e,fQ a _,#[_,yZ _ rfl,rfl,rfl],m,q]
 . subst e;cases c;obtain⟨g,z,p,u⟩:=n.tuple hq;refine gm (show r.heap.IsTuple a g.toArray from p) ?_;exact#[r.heap.objs.size,[r.heap.objs.size],_,_,i,rfl,n.kept (t':=r.toks) λb o e=>zW _ e,ZR a _,#[_,yZ _ rfl,rfl,rfl],m,q]
 . subst e;obtain⟨t,rfl⟩:=c;cases j:y.cps.all (· < 128)
   . exact wpAny_pyIter_wide j #[r.heap.objs.size,[r.heap.objs.size],_,_,i,rfl,n.kept (t':=r.toks) λb o e=>zW _ e,
       X4 r.heap.objs.size "str_iterator" y t (by decide) (λA hA=>Walks.strWide hA _ y t) (λ_ _ _ _ _ f h=>wpAny_pyIter_striter_wide f h),#[_,yZ _ rfl,rfl,rfl],m,q]
   . exact wpAny_pyIter_ascii j #[r.heap.objs.size,[r.heap.objs.size],_,_,i,rfl,n.kept (t':=r.toks) λb o e=>zW _ e,
       X4 r.heap.objs.size "str_ascii_iterator" y t (by decide) (λA hA=>Walks.strAscii hA _ y t) (λ_ _ _ _ _ f h=>wpAny_pyIter_striter_ascii f h),#[_,yZ _ rfl,rfl,rfl],m,q]
end
def lK:ek->Bool | .free=>av | _=>ay
def lL:ek->Bool | .cell=>av | _=>ay
def cW:ek->Bool | .local=>av | _=>ay
def lM (c:fc) (ON:List Str) (scope:fc) (NC:List Str) (e:List (Option Nat)):Bool:=(match scope.kind with | .function=>av | _=>ay)&&scope.names.all (λy=>!lL y.2) &&
 scope.names.all (λy=>!cW y.2||(match scope.names.lookup y.1 with | some .local=>av | _=>ay)) &&
 scope.names.all (λy=>!lK y.2||(match c.names.lookup y.1 with | some .cell=>av | some .free=>av | _=>ay)) &&
 e.length==NC.length &&
 (a0K NC.length).all λi=>match e[i]?,NC[i]? with
   | some (am j),am x=>ON[j]?==am x&&(match scope.names.lookup x with | some .free=>av | _=>ay)&&(match c.names.lookup x with | some .cell=>av | some .free=>av | _=>ay)
   | _,_=>av
theorem CSc.of (h:lM c ON scope NC n=av) (e:X.env.scope=c) (r:X.N=ON):CSc X scope NC n:=by
 subst e r;unfold lM at h;simp only[a1Z,b0X,List.mem_range,beq_iff_eq] at h;obtain⟨⟨⟨⟨⟨h1,p⟩,f⟩,g⟩,v⟩,q⟩:=h;refine#[?_,λy hy e=>?_,λy hy e=>?_,λy hy e=>?_,v,λi j x t o=>?_];. cases hk:scope.kind <;> rw[hk] at h1 <;> simp at h1 ⊢
 . have:=p y hy;rw[e] at this;simp[lL] at this
 . have:=f y hy;rw[e] at this;simp only[cW,Bool.not_true,Bool.false_or] at this;cases m:scope.names.lookup y.1 with
   | none=>rw[m] at this;cases this
   | some k=>rw[m] at this;cases k <;> first | rfl | cases this
 . have:=g y hy;rw[e] at this;simp only[lK,Bool.not_true,Bool.false_or] at this;cases m:X.env.scope.names.lookup y.1 with
   | none=>rw[m] at this;cases this
   | some k=>
     rw[m] at this;cases k <;> first
       | exact .inl m
       | exact .inr m
       | cases this
 . have hi:i < NC.length:=(yT.mp t).1;have:=q i hi;rw[t,o] at this;simp only[a1Z,beq_iff_eq] at this;obtain⟨⟨u,J⟩,G⟩:=this;refine#[u,?_,?_]
   . cases m:scope.names.lookup x with
     | none=>rw[m] at J;cases J
     | some k=>rw[m] at J;cases k <;> first | rfl | cases J
   . cases m:X.env.scope.names.lookup x with
     | none=>rw[m] at G;cases G
     | some k=>
       rw[m] at G;cases k <;> first
         | exact⟨.inr (.inl m),λz=>by have b:X.env.scope.names.lookup x=am .local:=z;rw[m] at b;cases b⟩
         | exact⟨.inr (.inr m),λz=>by have b:X.env.scope.names.lookup x=am .local:=z;rw[m] at b;cases b⟩
         | cases G
end L2
namespace DL
open PySem PySem.Spec L2
section
theorem lN (q:Q (.d (.int (i+j))) M):D2 K (X5 K) (.d (.int i)) (.d (.int j)) M Q:=F0 (A3M q)
theorem lO (hz:i.length+j.length<=aB) (q:Q (.d (.str (i++j))) M):D2 K (X5 K) (.d (.str i)) (.d (.str j)) M Q:=GK (F0 (tF hz q))
theorem lP (hz:a.length+b.length<=aB) (q:Q (.d (.list (a++b))) M):D2 K (X5 K) (.d (.list a)) (.d (.list b)) M Q:=GK (GK (A1L hz q))
theorem AV (e:atI ds i=am d) (q:Q (.d d) M):D2 K (OY K) (.d (.list ds)) (.d (.int i)) M Q:=F0 (A1H e q)
theorem UX (m:M a=am (.l ds)) (e:atI ds i=am d) (q:Q (.d d) M):D2 K (OY K) (.loc a) (.d (.int i)) M Q:=F0 (A1J m e q)
theorem AQ (e:atI ds i=am d) (q:Q (.d d) M):D2 K (OY K) (.d (.tuple ds)) (.d (.int i)) M Q:=GK (F0 (A1I e q))
theorem UY (hz:z.length<=aB) (e:atI z.cps.toList i=am c) (q:Q (.d (.str #[(y9 [c])])) M):D2 K (OY K) (.d (.str z)) (.d (.int i)) M Q:=GK (GK (A1K hz e q))
theorem lQ (hz:z.length<=aB) (q:Q (.d (.str (b0Z z I hi))) M):DSl K (tM K) (.d (.str z)) I hi M Q:=λH v QQ e r k=>.inr (tJ hz q H v QQ e r k)
theorem gE (q:Q (.d (.list (GL ds I hi))) M):DSl K (tM K) (.d (.list ds)) I hi M Q:=λH v QQ e r k=>.inl (lH q H v QQ e r k)
theorem tP (q:Q (.d (.bool (decide (i < j)))) M):D2 K A1Q (.d (.int i)) (.d (.int j)) M Q:=F0 (A3N q)
theorem tQ (q:Q (.d (.bool (decide (i.cps.toList < j.cps.toList)))) M):D2 K A1Q (.d (.str i)) (.d (.str j)) M Q:=GK (A1G q)
theorem tR (q:Q (.d (.bool (!(a4Q j i 0 j.length 1).isEmpty))) M):D2 K (tN K) (.d (.str i)) (.d (.str j)) M Q:=F0 (A1F q)
theorem HB (h:DE K tl ρ M λx M1=>∃ds,x = .d (.list ds)/\QI ds M1):DI K (lJ K tl) ρ M QI:=λg H R X k=>
 h g H _ X λv b x M1 O p f Y=>by
   obtain⟨ds,e,q⟩:=Y;subst e;unfold SI DV at p;obtain⟨a,n,rfl,m,hd⟩:=p;refine .inl #[a,rfl,#[n,m.sq],k _ ds b M1 O f #[λi H' r hi o t=>?_,λH' r o t=>?_,λi H' r x u o t hi y=>?_] q];. exact#[n,n[i]'(by rw[hd.length];exact hi),(m.grow t.grow).sq,by simp[hd.length,hi]]
   . exact#[n,(m.grow t.grow).sq,by rw[hd.length];exact zR _]
   . obtain⟨rfl,y⟩:=y;obtain⟨d,j,c⟩:=hd.get (y n (m.grow t.grow).sq);exact#[o,Step.refl,d,j,c.grow t.grow]
theorem BE (h:DE K tl ρ M λx M1=>∃ds,x = .d (.tuple ds)/\QI ds M1):DI K (lJ K tl) ρ M QI:=λg H R X k=>
 h g H _ X λv b x M1 O p f Z=>by
   obtain⟨ds,e,q⟩:=Z;subst e;unfold SI DV at p;obtain⟨a,n,rfl,m,hd⟩:=p;refine .inr (.inl #[a,rfl,#[n,m.sq],k _ ds b M1 O f #[λi H' r hi o t=>?_,λH' r o t=>?_,λi H' r x u o t hi y=>?_] q]);. exact#[n,n[i]'(by rw[hd.length];exact hi),(m.grow t.grow).sq,by simp[hd.length,hi]]
   . exact#[n,(m.grow t.grow).sq,by rw[hd.length];exact zR _]
   . obtain⟨rfl,y⟩:=y;obtain⟨d,j,c⟩:=hd.get (y n (m.grow t.grow).sq);exact#[o,Step.refl,d,j,c.grow t.grow]
theorem tS (h:DE K tl ρ M λx M1=>∃z,x = .d (.str z)/\QI (CU z) M1):DI K (lJ K tl) ρ M QI:=λg H R X k=>
 h g H _ X λv b x M1 O r f p=>by
   obtain⟨z,e,q⟩:=p;subst e;have o:(CU z).length=z.cps.size:=by simp[CU]
   rw[show v = .str z by unfold SI DV at r;exact r];refine .inr (.inr #[z,rfl,k _ (CU z) b M1 O f #[λi H' n hi t m=>?_,λH' n t m=>?_,λi H' n x u t m hi y=>?_] q]);. show i < z.cps.size;rw[<-o];exact hi
   . exact o
   . obtain⟨rfl,c,j,rfl⟩:=y;exact#[t,Step.refl,.str #[(y9 [c])],by unfold CU;rw[zF];simp[j],by unfold DV;rfl]
def tyD:PyData->String
 | .none => "NoneType"
 | .bool _ => "bool"
 | .int _ => "int"
 | .str _ => "str"
 | .list _ => "list"
 | .tuple _ => "tuple"
 | .dict _ => "dict"
end
end DL
namespace L2
open PySem PySem.Spec PyProof.Rows
section
def lR (K:Frg):List V->Hp->VK->Prop:=λt H Q=>∃(x:V) (T:String) (d:PyData) (W:Addr->Prop) (b:Bool),t=[x,.ty T]/\DV K H W d x/\PySem.W.kitOne K (.type (DL.tyD d)) (.type T)=am b/\Q (.bl b) H
theorem gF:C7 X (.builtin "isinstance") (lR X.K):=by
 intro pins s v H M S Q I r h;obtain⟨x,T,d,W,b,rfl,t,e,q⟩:=h;obtain⟨u,O,rfl,p,G⟩:=cI r;cases G;have fin:∀f,EP X pins v Q (.bool b) { s with toks:=f }:=λf=>#[.bl b,H,I.tok _,rfl,q]
 cases d with
 | none=>unfold DV at t;subst t;exact GV I p (TyOf.non) e fin
 | bool y=>unfold DV at t;subst t;exact GV I p (TyOf.bl _) e fin
 | int i=>unfold DV at t;subst t;exact GV I p (TyOf.int _) e fin
 | str y=>unfold DV at t;subst t;exact GV I p (TyOf.str _) e fin
 | list ds=> unfold DV at t;obtain⟨a,g,rfl,m,_⟩:=t;cases p;obtain⟨j,k,⟨o,n,h1,c,_,_⟩,_⟩:=I.list m.sq;exact a3K PySem.W.kitx_list I.kIn #[o,h1,c] e (λz=>nomatch z) fin
 | tuple ds=> unfold DV at t;obtain⟨a,g,rfl,m,_⟩:=t;cases p;obtain⟨j,k,⟨o,h1,c,_⟩,_⟩:=I.tuple m.sq;exact a3K PySem.W.kitx_tuple I.kIn #[o,h1,c] e (λz=>nomatch z) fin
 | dict kvs=>
   unfold DV at t;obtain⟨a,g,rfl,_,m,_⟩:=t;rcases m with m | ⟨N,m⟩
   . exact GV I p (TyOf.dK m) e fin
   . cases p;obtain⟨_,_,vs',_,Y⟩:=GZ I.hok (.inr #[N,m]);exact a3K PySem.W.kitx_dict I.kIn Y.typeIs e (λz=>nomatch z) fin
end
end L2
namespace DL
open PySem PySem.Spec L2
section
theorem lS{K:Frg}{M:Own}{Q:DS->Own->Prop} (e:PySem.W.kitOne K (.type (tyD d)) (.type T)=am b) (q:Q (.d (.bool b)) M):DR K (lR K) [.d d,.ty T] M Q:=λH p QQ o s k=>by obtain⟨v,r,rfl,h1,i,m,rfl,t,n⟩:=s;cases n;rw[show i = .ty T from t];exact#[v,T,d,M.W,b,rfl,h1,e,k _ H _ M o AN Step.refl q]
theorem Q0 (n:OA K H M) (h:H p=b9Q) (hd:DKV K H M.W kvs ks) :
   OA K (upd H p (.dK ks)) (M.put p (.d kvs))/\Step K M (M.put p (.d kvs)) H (upd H p (.dK ks)):=by
 have T:=n.none h;have g:Grow K M.W (M.put p (.d kvs)).W H (upd H p (.dK ks)):=#[λb u e _=>.inl (by rw[AG (B1 e h)];exact e),λb w=>by
   by_cases hb:b=p;. subst hb;exact .inr h
   . left;unfold Own.W at w ⊢;rw[yH hb] at w;exact w]
 refine#[λa o e=>?_,#[g]];by_cases t:a=p;. subst t;rw[zU] at e;cases e;exact#[ks,AE,hd.grow g]
 . rw[yH t] at e;have q:=n a o e;cases o <;> (obtain⟨i,N,J⟩:=q;exact#[i,by rw[AG t];exact N,J.grow g])
theorem FJ (n:OA K H M) (h:M p=am o) (hd:DKV K H M.W kvs ks) :
   OA K (upd H p (.dK ks)) (M.put p (.d kvs))/\Step K M (M.put p (.d kvs)) H (upd H p (.dK ks)):=by
 have G:∀b,(M.put p (.d kvs)).W b->M.W b:=λb w=>by
   unfold Own.W at w ⊢;by_cases hb:b=p;. subst hb;rw[h];simp
   . rw[yH hb] at w;exact w
 have g:Grow K M.W (M.put p (.d kvs)).W H (upd H p (.dK ks)):=#[λb u e nw=>.inl (by
   rw[AG (by rintro rfl;exact nw (by unfold Own.W;rw[h];simp))];exact e),λb w=>.inl (G b w)]
 refine#[λa o e=>?_,#[g]];by_cases t:a=p;. subst t;rw[zU] at e;cases e;exact#[ks,AE,hd.grow g]
 . rw[yH t] at e;have q:=n a o e;cases o <;> (obtain⟨i,N,J⟩:=q;exact#[i,by rw[AG t];exact N,J.grow g])
end
structure Has (P:bh) (w:bd) (K:Frg) (mg:Str->Option aw) (base:ca) (x:Str) (k:Nat) (ps:List Str) (S:FSp):Prop where
 ex:∃f fd,FnOk P w K mg base CX0 k f fd ps (spD K ps.length S)/\mg x=am (.ref f)/\a3W K (.ref f)=av/\Binds K fd ps []
theorem lU {X:Cx}{x:Str}{k:Nat}{ps:List Str}{S:FSp}{e:bn}{es:List bn}{t:TA}{p pos:eH}(h:Has X.prog X.w X.K X.mg X.base x k ps S) (hr:Room k X.A) (hg:Gl X x) (g:PA X (e::es) t) (i:(x==("__debug__":Str))=false:=by decide) (z:starEach (e::es) X.env=(ay,eval e X.env)::starEach es X.env:=by rfl) (n:(backTo pos (starEach es X.env)).any (·.1)=false:=by rfl) :
   PE X (.Call (.Name x p) (e::es) [] pos) (cJ (spD X.K ps.length S) [] E0 t):=by obtain⟨f,r,F,o,hk,hb⟩:=h.ex;exact rY F hr hg o hk hb .nil A2z g i z n
theorem tT {X:Cx}{x z:Str}{pos:eH}(hg:Gl X x) (h:∃t,X.mg x=am (.str z t)) (hd:(x==("__debug__":Str))=false:=by decide):PE X (.Name x pos) (tC (.str z)):=by obtain⟨t,h⟩:=h;exact UF hg h #[t,rfl] hd
theorem tU {X:Cx}{x:Str}{z:Int}{pos:eH}(hg:Gl X x) (h:∃t,X.mg x=am (.int z t)) (hd:(x==("__debug__":Str))=false:=by decide):PE X (.Name x pos) (tC (.int z)):=by obtain⟨t,h⟩:=h;exact UF hg h #[t,rfl] hd
section
variable {X:Cx}{K:Frg}
theorem kIx (h:X.K=K):IxR X (OY K):=h▸A1O
theorem kIn (h:X.K=K):OpR X (bj .In) (tN K):=h▸A1R
theorem A1T (h:X.K=K):OpR X (bj .NotIn) (UW K):=h▸gD
theorem kEq (h:X.K=K) (hu:X.A.units+64 < ef):OpR X (bj .Eq) (UT K ay):=h▸l8 hu
theorem kNe (h:X.K=K) (hu:X.A.units+64 < ef):OpR X (bj .NotEq) (UT K av):=h▸l9 hu
def lV (K:Frg):List V->Hp->VK->Prop:=λt H Q=>∃x n,t=[x]/\kG K x H n/\Q (.int (n:Nat)) H
def z7 (K:Frg):List V->Hp->VK->Prop:=λt H Q=>∃(p:Addr) (bs:List Bool),t=[.ref p]/\SqL K H p (bs.map V.bl)/\Q (.bl (bs.all id)) H
def A3O:List V->Hp->VK->Prop:=λt H Q=>∃i,t=[.int i]/\Q (.int (if i < 0 then -i else i)) H
theorem A4D (h:X.K=K):C7 X (.builtin "len") (lV K):=h▸kH
theorem A4E (h:X.K=K) (hc:X.calm=av):C7 X (.builtin "all") (z7 K):=h▸kZ hc
theorem A4F (_:X.K=K):C7 X (.builtin "abs") A3O:=kF
theorem A4G (h:X.K=K):C7 X (.builtin "isinstance") (lR K):=h▸gF
theorem A3P (h:X.K=K):MtR X "str.join" (l0 K):=h▸sW
theorem A3Q {n l:bn}{tl:TE}(h:X.K=K) (m:PE X l tl):PI X n l (lJ K tl):=h▸A1S m
theorem z8 {P:bh}{w:bd}{mg:Str->Option aw}{base:ca}{x:Str}{k:Nat}{ps:List Str}{S:FSp}{e:bn}{es:List bn}{t:TA}{p pos:eH}(hK:X.K=K) (m:X.prog=P) (G:X.w=w) (o:X.mg=mg) (L:X.base=base) (h:Has P w K mg base x k ps S) (hr:Room k X.A) (hg:Gl X x) (g:PA X (e::es) t) (i:(x==("__debug__":Str))=false:=by decide) (z:starEach (e::es) X.env=(ay,eval e X.env)::starEach es X.env:=by rfl) (n:(backTo pos (starEach es X.env)).any (·.1)=false:=by rfl) :
   PE X (.Call (.Name x p) (e::es) [] pos) (cJ (spD K ps.length S) [] E0 t):=by subst hK m G o L;exact lU h hr hg g i z n
variable {o e:bn}{es:List bn}{to:TE}{t:TA}{name:Str}{apos ag:eH}{T id:String}{r:V->List V->Hp->VK->Prop}
theorem kBm (h:X.K=K) (Q:PlainAttrs T) (slot:Slot T name id) (z:typeOf (.builtin id)=pure (.type "method_descriptor")) (n:MtR X id r) (ho:PE X o to) (g:PA X (e::es) t) (hbase:attributeBase o name X.env (eval o X.env)=eval o X.env:=by rfl)
   (M:((backTo ag (starEach (e::es) X.env)).all (λx=>!x.1)&&(backToKw ag (keywordEach [] X.env)).all (λx=>x.1.isSome)
     && decide ((e::es).length+([]:List Keyword).length+(if ([]:List Keyword).isEmpty then 0 else 1) < 30))=true:=by rfl)
   (i:(apos.endLine==ag.line)=true:=by rfl) (hs:starEach (e::es) X.env=(ay,eval e X.env)::starEach es X.env:=by rfl) (O:(backTo ag (starEach es X.env)).any (·.1)=false:=by rfl) :
   PE X (.Call (.Attribute o name apos) (e::es) [] ag) (tBM K T r to t):=h▸A2t Q slot z n ho g hbase M i hs O
end
section
theorem UZ (hz:z.length<=aB) (q:Q (.d (.int z.length)) M):DR K (lV K) [.d (.str z)] M Q:=tG hz q
theorem IC (q:Q (.d (.int ds.length)) M):DR K (lV K) [.d (.list ds)] M Q:=tH q
theorem JZ (q:Q (.d (.int ds.length)) M):DR K (lV K) [.d (.tuple ds)] M Q:=tI q
theorem A1U (q:Q (.d (.int (if i < 0 then -i else i))) M):DR K A3O [.d (.int i)] M Q:=A1M q
theorem lW {bs:List Bool}(q:Q (.d (.bool (bs.all id))) M):DR K (z7 K) [.d (.list (bs.map .bool))] M Q:=A1N q
end
end DL
namespace L2
open PySem PySem.Spec PyProof.Rows
section
theorem cX:∀{e:List aw}{ss:List Str},StrsAre e ss->Vals (ss.map V.str) e
 | _,_,.nil=>.nil
 | _,_,.cons y t r=>.cons #[t,rfl] (cX r)
def lX (K:Frg):List V->Hp->VK->Prop:=λt H Q=>∃(p:Addr) (x:List Str),t=[.ref p]/\SqL K H p (x.map V.str)/\x.length < 64/\∀(e:List Str) (q:Addr),e.Perm x->sortedS e=av->H q=ap->Q (.ref q) (upd H q (.lst (e.map V.str)))
theorem aD:C7 X (.builtin "sorted") (lX X.K):=by intro pins s M H S N Q I r h;obtain⟨p,T,rfl,hp,O,q⟩:=h;obtain⟨u,rfl,v⟩:=J7 r;cases v;obtain⟨y,i,k,x⟩:=I.list hp;have hS:=P3 i;have c:=i.length;rw[zX] at c;refine sorted_strs k.isList hS (by lia) λout t h1 n f=>?_;obtain⟨e,g⟩:=sortedAll_at s.heap y out;have hn:H (s.heap.objs.size+1)=none:=I.hok.fresh (a4V _);have m:=n.length_eq;refine#[.ref (s.heap.objs.size+1),_,I.laid (t':=s.toks) (o:=.lst (t.map V.str)) (λb o z=>sortedAll_old z) (a4V _) ?_,rfl,q t _ n f hn];refine#[by rw[zX,m];exact zN (xQ O) (by decide),out.toList,e,cX h1,?_];have j:=g;simpa [cE] using j
end
end L2
namespace DL
open PySem PySem.Spec L2
section
variable {X:Cx}{K:Frg}
def X6 (K:Frg):List V->Hp->VK->Prop:=λt H Q=>∃p f,t=[.ref p]/\((SqL K H p f/\∀l,H l=ap->Q (.ref l) (upd H l (.tup f)))\/(SqT K H p f/\Q (.ref p) H))
theorem A1V (h:X.K=K):C7 X (.type "tuple") (X6 K):=h▸SB
end
section
theorem G9 (q:Q (.d (.tuple ds)) M):DR K (X6 K) [.d (.list ds)] M Q:=λH n QQ e s k=>by obtain⟨v,r,rfl,h1,t⟩:=s;cases t;unfold SI DV at h1;obtain⟨a,n,rfl,m,hd⟩:=h1;refine#[a,n,rfl,.inl #[m.sq,λp hp=>?_]];have g:Grow K M.W M.W H (upd H p (.tup n)):=B6 _ hp;refine k _ _ (.d (.tuple ds)) M (e.new hp) ?_ #[g] q;unfold SI DV;exact#[p,n,rfl,.inl #[λw=>w (e.none hp),.inl AE],hd.grow g]
theorem JD :∀{bs:List Str},DVs K H W (bs.map a0J) (bs.map V.str)
 | []=>DVs.nil
 | b::bs=>DVs.cons (by unfold DV;rfl) JD
theorem V0 (m:M a=am (.l ds)) (q:Q (.d (.int ds.length)) M):DR K (lV K) [.loc a] M Q:=λH n QQ e s k=>by obtain⟨v,r,rfl,h1,t⟩:=s;cases t;unfold SI at h1;subst h1;obtain⟨n,h0,hd⟩:=e a _ m;exact#[_,_,rfl,.inl #[n,SqL.of h0,rfl],k _ H (.d (.int ds.length)) M e (by rw[hd.length];exact BR) Step.refl q]
def DW:PyData->Bool | .none=>av | _=>ay
theorem A1W (q:Q (.d (.bool (DW d))) M):D2 K (λx y H Q=>y = .non/\Q (.bl (decide (x = .non))) H) (.d d) (.d .none) M Q:=λH v u QQ e r t k=>by
 refine#[lE t,k _ H (.d (.bool (DW d))) M e ?_ Step.refl q];cases d <;> unfold SI DV at r;. rw[r];exact AN
 . rw[r];exact AN
 . rw[r];exact AN
 . rw[r];exact AN
 . obtain⟨a,_,rfl,_⟩:=r;exact AN
 . obtain⟨a,_,rfl,_⟩:=r;exact AN
 . obtain⟨a,_,rfl,_⟩:=r;exact AN
theorem tV (q:Q (.d (.bool (!DW d))) M):D2 K (λx y H Q=>y = .non/\Q (.bl (!decide (x = .non))) H) (.d d) (.d .none) M Q:=λH v u QQ e r t k=>by
 refine#[lE t,k _ H (.d (.bool (!DW d))) M e ?_ Step.refl q];cases d <;> unfold SI DV at r;. rw[r];exact AN
 . rw[r];exact AN
 . rw[r];exact AN
 . rw[r];exact AN
 . obtain⟨a,_,rfl,_⟩:=r;exact AN
 . obtain⟨a,_,rfl,_⟩:=r;exact AN
 . obtain⟨a,_,rfl,_⟩:=r;exact AN
end
def DGs (K:Frg) (g:TGs) (ds:List PyData) (t:List (Option DS)) (M:Own) (P:List (Option DS)->Own->Prop):Prop:=∀(e:St) (H:Hp) (n:List V) (QQ:St->Hp->Prop),Rel K M t e H->DVs K H M.W ds n->(∀S i b H',Rel K i S b H'->Step K M i H H'->P S i->QQ b H')->g n e H QQ
section
theorem tW (h:P ρ M):DGs K A0W [] ρ M P:=λe H n QQ R hd k=>by unfold DVs at hd;subst hd;exact#[rfl,k ρ M e H R Step.refl h]
theorem lY (h:DGs K g ds (ρ.set i (am (.d d))) M P):DGs K (cH (PJ i) g) (d::ds) ρ M P:=λt H n QQ R hd k=>by unfold DVs at hd;obtain⟨v,r,rfl,h1,e⟩:=hd;exact#[v,r,rfl,h (t.set i (am v)) H r QQ (R.set (x:=.d d) h1 i) e k]
theorem A1X (hn:ds.length=n) (h:DGs K g ds ρ M P):DG K (rS K n g) (.tuple ds) ρ M P:=λt H v QQ R T k=>by unfold DV at T;obtain⟨a,e,rfl,m,hd⟩:=T;exact#[a,e,rfl,m.sq,by rw[hd.length];exact hn,h t H e QQ R hd k]
def tX (g:TGs) (T:List Nat):Prop:=(∀(n:List V) (e:St) (H:Hp) (Q o:St->Hp->Prop),(∀a b,Q a b->o a b)->g n e H Q->g n e H o) /\(∀(n:List V) (e:St) (H:Hp) (QQ:St->Hp->Prop),g n e H QQ->g n e H λt c=>(∀i,i∉T->t[i]?=e[i]?)/\QQ t c)
theorem V1:tX A0W []:=#[(by rintro n t H Q o m ⟨e,h⟩;exact#[e,m _ _ h]),by rintro n t H QQ ⟨e,h⟩;exact#[e,λ_ _=>rfl,h]]
theorem D0 (hg:tX g T):tX (cH (PJ i) g) (i::T):=by refine#[(by rintro b n H Q o m ⟨v,r,e,h⟩;exact#[v,r,e,hg.1 r _ H Q o m h]),λb n H QQ #[v,r,e,h]=>#[v,r,e,?_]];refine hg.1 r _ H _ _ (λc f #[h1,p]=>#[λj t=>?_,p]) (hg.2 r (n.set i (am v)) H QQ h);rw[h1 j λz=>t (yV _ z),b6X (by rintro rfl;exact t a0Z)]
theorem V2 (hg:tX g T):JC (rS K n g) T:=λv o H QQ #[a,t,e,hs,m,h]=>
 #[a,t,e,hs,m,hg.1 t o H _ _ (by rintro r c ⟨h1,i⟩;exact i h1) (hg.2 t o H _ h)]
end
end DL
namespace L2
open PySem PySem.Spec PyProof.Rows
section
variable {X:Cx}{pins:List (Addr×cr)}{σ:St}{H:Hp}{s:ax}{h':ca}
theorem Inv.turnedT {ch:List Addr}{T:Addr}{ys:List V}{t':Nat}(I:Inv X pins σ H s) (k:∀b o,b∉ch->s.heap.get? b=am o->h'.get? b=am o) (hn:∀b∈ch,H b=ap) (i:∀b∈ch,(b∈X.ex\/X.s₀.heap.objs.size<=b)/\b≠X.env.locals/\(∀x c,X.env.cells.lookup x=am c->c≠b)/\∀p∈X.pn++pins,p.1≠b) (f:s.heap.objs.size<=T) (new:ObjOk X.prog X.w (upd H T (.tup ys)) h' T (.tup ys)):Inv X pins σ (upd H T (.tup ys)) { s with heap:=h',toks:=t' }:=by
 have t:H T=none:=I.hok.fresh f;have g:∀b u,H b=am u->b∉ch:=λb u e z=>by rw[hn b z] at e;cases e
 refine I.step (g':=s.gens) (d':=s.drawn) (ch:=ch) i (λb o _ _ hc e _=>k b o hc e) (λb o _ _ hc e _=>#[o.slots,k b o hc e]) (λb o hc e n=>?_) (λb o hc e=>#[o,k b o hc e]) (λb j e=>?_) (λb o u e=>?_) (λb Q e=>#[#[],?_]) (λm h=>?_) (λb u e=>?_) I.bare;. rw[AG (zC (zP (zM e) f))];exact n
 . rw[AG (B1 e t)];exact e
 . rw[AG (B1 e t)];exact e
 . rw[AG (B1 e t),e];simp
 . obtain⟨o,M,Z,ho,r⟩:=h;exact#[o,M,Z,k _ o (λz=>(i _ z).2.1 rfl) ho,r]
 . by_cases hb:b=T;. subst hb;rw[AE] at e;cases e;exact new
   . rw[AG hb] at e;refine(I.hok b u e).stay (λc v hc q=>k c v ?_ q) (λc q=>by rw[AG (B1 q t)];exact q) λc j q=>by rw[AG (B1 q t)];exact q
     rcases hc with z | z;. rw[z];exact g b u e
     . exact g c _ z
theorem Inv.turnedL {ch:List Addr}(I:Inv X pins σ H s) (k:∀b o,b∉ch->s.heap.get? b=am o->h'.get? b=am o) (hn:∀b∈ch,H b=ap) (t:∀b∈ch,(b∈X.ex\/X.s₀.heap.objs.size<=b)/\b≠X.env.locals/\(∀x c,X.env.cells.lookup x=am c->c≠b)/\∀p∈X.pn++pins,p.1≠b):Inv X pins σ H { s with heap:=h',toks:=t' }:=by
 have i:∀b u,H b=am u->b∉ch:=λb u e z=>by rw[hn b z] at e;cases e
 refine I.step (g':=s.gens) (d':=s.drawn) (ch:=ch) t (λb o _ _ hc e _=>k b o hc e) (λb o _ _ hc e _=>#[o.slots,k b o hc e]) (λb o hc e n=>n) (λb o hc e=>#[o,k b o hc e]) (λb g e=>e) (λb o u e=>e) (λb Q e=>#[#[],by rw[e];simp]) (λm f=>?_) (λb u e=>?_) I.bare;. obtain⟨o,M,Z,ho,r⟩:=f;exact#[o,M,Z,k _ o (λz=>(t _ z).2.1 rfl) ho,r]
 . refine(I.hok b u e).stay (λc v hc q=>k c v ?_ q) (λc q=>q) λc g q=>q;rcases hc with z | z;. rw[z];exact i b u e
   . exact i c _ z
end
end L2
namespace DL
open PySem PySem.Spec L2
section
def X7 (as bs:List PyData):List PyData:=(as.zip bs).map λp=>.tuple [p.1,p.2]
end
end DL
namespace HT
open PySem PySem.Spec PyProof.Rows
section
theorem getItem_tuple_whole (u:IsTup s.heap t items) (hs:s.heap.IsSliceOf sl e L .none) (i:iD e I) (y:iD L hi) (G:sIx items.size 0 I=0/\sIx items.size items.size hi=items.size) (h:Q (.ref t) s):wpAny (model prog w) A (gy (.ref t) (.ref sl)) Q E s:=by
 obtain⟨o,S,n,p⟩:=id hs;have N:s.TypeIs (.ref sl) "slice" := #[o,S,n]
 unfold gy;try with_reducible refine bq ?_
 first | refine zZ (zY ?_) | skip
 refine zZ (wpAny_sequenceKey u.typeIs (by decide) ?_);refine zZ (wpAny_callSpecial?_slot (name:=a0Q "__getitem__") u.typeIs a8Q (ce a8Q u.typeIs entry_tuple_getitem ?_ (args_tuple_getitem _ _)));show wpAny _ _ (Builtin.Tuple.tupleItemsOf (.ref t) >>= _) _ _ s;refine zZ (tupleItemsOf_ u ?_);refine zZ (hY N ?_);rw[if_pos (by decide)];refine zZ (GW hs i y ?_);have r:((((sIx items.size 0 I:Nat):Int)==0&&(1:Int)==1&&(sIx items.size items.size hi - sIx items.size 0 I)==items.size)=av):=by rw[G.1,G.2];simp
 show wpAny _ _ (if (((sIx items.size 0 I:Nat):Int)==0&&(1:Int)==1&&(sIx items.size items.size hi - sIx items.size 0 I)==items.size)=av then _ else _) _ _ s;rw[if_pos r];refine zZ (m:=Builtin.Tuple.tupleIsExact _) (zZ (hY u.typeIs (zY ?_)));show wpAny _ _ (if av=av then _ else _) _ _ s;rw[if_pos rfl];first
   | exact zZ (dc (zZ (zY #[_,rfl,zY h])))
   | exact zZ (dc (zY #[_,rfl,zY h]))
   | exact zZ (dc (zZ (zY (zY #[_,rfl,zY h]))))
end
end HT
namespace L2
open PySem PySem.Spec PyProof.Rows
section
def z9 (K:Frg):V->Option Int->Option Int->Hp->VK->Prop:=λx I hi H Q=>∃a t,x = .ref a/\SqT K H a t/\(KY t I hi=t->Q (.ref a) H)/\∀p,H p=ap->Q (.ref p) (upd H p (.tup (KY t I hi)))
theorem tY:SlR X (z9 X.K):=by
 intro pins s p H x v i m e hi sl Q I L hs n y h;obtain⟨a,t,rfl,hx,N,J⟩:=h;cases L;obtain⟨o,r,u,b⟩:=I.tuple hx;have q:o.toArray.size=t.length:=by rw[zJ];exact r.length.symm
 by_cases G:HT.sIx t.length 0 e=0/\HT.sIx t.length t.length hi=t.length;. refine#["tuple", _,PyProof.Rows.slot_tuple_getitem.lookup,u.typeIs,?_];refine HT.getItem_tuple_whole u hs n y (by rw[q];exact G) #[.ref a,H,I,rfl,N ?_];unfold KY;rw[G.1,G.2];simp
 . exact A0s pins s p H (.ref a) (.ref a) i m e hi sl Q I rfl hs n y #[a,t,rfl,hx,G,J]
def aE (K:Frg):R2:=λx y H Q=>∃a b t f,x = .ref a/\y = .ref b/\SqT K H a t/\SqT K H b f/\t.length+f.length<=aB /\(t=[]->Q (.ref b) H)/\(f=[]->Q (.ref a) H)/\(∀p,H p=ap->Q (.ref p) (upd H p (.tup (t++f))))
theorem lZ:OpR X (dh .Add) (aE X.K):=by
 intro pins s σ H x y v u Q I L Z h;obtain⟨t,b,k,z,rfl,rfl,hx,hy,S,M,D,J⟩:=h;cases L;cases Z;obtain⟨i,r,O,_⟩:=I.tuple hx;obtain⟨m,g,hb,_⟩:=I.tuple hy;have e1:=r.length;have e2:=g.length;obtain⟨⟨cls,Y,data,sl⟩,ho,hc,n,hd⟩:=id O;obtain⟨⟨U,j,data2,B⟩,p,hc2,f,hd2⟩:=id hb;dsimp only at hc hd hc2 hd2;subst hc hd hc2 hd2;have e:i.toArray++m.toArray=(i++m).toArray:=by simp
 by_cases c:i=[]
 . have N:k=[]:=by cases r with | nil=>rfl | cons _ _=>cases c
   exact concat_meets #[_,ho,rfl] #[_,p,rfl] et ft a7Z a7X (a6Z _ _) (tuple_addW0 t b i.toArray m.toArray n f Y j sl B (by simp[c])) #[ho,p,#[.ref b,H,I,rfl,M N]]
 . by_cases G:m=[]
   . have T:z=[]:=by cases g with | nil=>rfl | cons _ _=>cases G
     exact concat_meets #[_,ho,rfl] #[_,p,rfl] et ft a7Z a7X (a6Z _ _) (tuple_addW1 t b i.toArray m.toArray n f Y j sl B (by simpa using c) (by simp[G])) #[ho,p,#[.ref t,H,I,rfl,D T]]
   . refine concat_meets #[_,ho,rfl] #[_,p,rfl] et ft a7Z a7X (a6Z _ _) (tuple_addW2 t b i.toArray m.toArray n f Y j sl B (by simpa using c) (by simpa using G) (by rw[zJ,zJ];lia)) #[ho,p,?_];rw[e];refine#[.ref s.heap.objs.size,_,I.laid (t':=s.toks) (o:=.tup (k++z)) (λb ob q=>zW _ q) (zR _) ?_,rfl,J _ I.fresh];exact#[by rw[yY];exact S,i++m,r.append g,IsTup.new _ _]
end
end L2
namespace DL
open PySem PySem.Spec L2
section
variable {X:Cx}{K:Frg}
def X8 (K:Frg):R2:=λx y H Q=>X5 K x y H Q\/aE K x y H Q
theorem A3R (h:X.K=K):OpR X (dh .Add) (X8 K):=h▸tL.or lZ
def tZ (K:Frg):V->Option Int->Option Int->Hp->VK->Prop:=λx I hi H Q=>tM K x I hi H Q\/z9 K x I hi H Q
theorem A4H (h:X.K=K):SlR X (tZ K):=h▸A1P.or tY
end
section
theorem m5 (q:Q (.d (.int (i+j))) M):D2 K (X8 K) (.d (.int i)) (.d (.int j)) M Q:=F0 (lN q)
theorem Q1 (hz:i.length+j.length<=aB) (q:Q (.d (.str (i++j))) M):D2 K (X8 K) (.d (.str i)) (.d (.str j)) M Q:=F0 (lO hz q)
theorem ME (hz:a.length+b.length<=aB) (q:Q (.d (.list (a++b))) M):D2 K (X8 K) (.d (.list a)) (.d (.list b)) M Q:=F0 (lP hz q)
theorem EK (hz:as.length+bs.length<=aB) (q:Q (.d (.tuple (as++bs))) M):D2 K (X8 K) (.d (.tuple as)) (.d (.tuple bs)) M Q:=GK λH v u QQ t r n k=>by
 have h:=r;have m:=n;unfold SI DV at r n;obtain⟨a,i,rfl,c,hd⟩:=r;obtain⟨b,o,rfl,f,hd2⟩:=n;refine#[a,b,i,o,rfl,rfl,c.sq,f.sq,by rw[hd.length,hd2.length];exact hz,λe=>?_,λe=>?_,λp hp=>?_]
 . have:as=[]:=by have:=hd.length;rw[e] at this;exact List.length_eq_zero_iff.mp this.symm
   subst this;exact k _ H (.d (.tuple ([]++bs))) M t m Step.refl q
 . have:bs=[]:=by have:=hd2.length;rw[e] at this;exact List.length_eq_zero_iff.mp this.symm
   subst this;rw[a2Q] at q;exact k _ H (.d (.tuple as)) M t h Step.refl q
 . have g:Grow K M.W M.W H (upd H p (.tup (i++o))):=B6 _ hp;refine k _ _ (.d (.tuple (as++bs))) M (t.new hp) ?_ #[g] q;unfold SI DV;exact#[p,_,rfl,.inl #[λw=>w (t.none hp),.inl AE],(hd.append hd2).grow g]
theorem X9 (hz:z.length<=aB) (q:Q (.d (.str (b0Z z I hi))) M):DSl K (tZ K) (.d (.str z)) I hi M Q:=λH v QQ e r k=>.inl (lQ hz q H v QQ e r k)
theorem gG (q:Q (.d (.list (GL ds I hi))) M):DSl K (tZ K) (.d (.list ds)) I hi M Q:=λH v QQ e r k=>.inl (gE q H v QQ e r k)
theorem MF (q:Q (.d (.tuple (GL ds I hi))) M):DSl K (tZ K) (.d (.tuple ds)) I hi M Q:=λH v QQ t r k=>.inr (by
 have o:=r;unfold SI DV at r;obtain⟨a,n,rfl,m,hd⟩:=r;have key:DVs K H M.W (GL ds I hi) (KY n I hi):=by unfold GL KY;rw[hd.length];exact(hd.drop _).take _
 refine#[a,n,rfl,m.sq,λe=>?_,λp hp=>?_];. refine k _ H (.d (.tuple (GL ds I hi))) M t ?_ Step.refl q;unfold SI DV;exact#[a,n,rfl,m,by rw[<-e];rw[e] at key;rw[e];exact key]
 . have g:Grow K M.W M.W H (upd H p (.tup (KY n I hi))):=B6 _ hp;refine k _ _ (.d (.tuple (GL ds I hi))) M (t.new hp) ?_ #[g] q;unfold SI DV;exact#[p,_,rfl,.inl #[λw=>w (t.none hp),.inl AE],key.grow g])
end
theorem aF {X:Cx}{K:Frg}{pos:eH}{es:List bn}{k:Nat}{t:TGs}{n:Nat}(hK:X.K=K) (hc:X.calm=av) (h:PGs X es t) (hn:(dg es X.env).length=n:=by rfl) (D:(dg es X.env).findIdx? (·.1)=none:=by rfl):PG X (.Tuple es k pos) (rS K n t):=hK▸k9 hc h hn D
end DL
namespace DL
open PySem PySem.Spec L2
def fn1 (pre:PyData->Prop) (f:PyData->PyData):FSp:=#[λt _=>∃d,t=[.d d]/\pre d,λt M y i=>∀d,t=[.d d]->y = .d (f d)/\i=M]
theorem CV {Q:DS->Own->Prop}(p:pre d) (q:Q (.d (f d)) M):[DS.d d].length=1/\(fn1 pre f).pre [.d d] M/\∀x i,(fn1 pre f).post [.d d] M x i->Q x i:=#[rfl,#[d,rfl,p],λx i h=>by obtain⟨rfl,rfl⟩:=h d rfl;exact q]
def FK (c:Nat):Bool:=decide (97<=c)&&decide (c<=122)
def NF:PyData->Bool | .int _=>av | _=>ay
def CN:PyData->Bool | .str z=>decide (1<=z.cps.size)&&decide (z.cps.size<=8)&&z.cps.toList.all FK | _=>ay
def L5:PyData->Bool | .int i=>decide (0<=i)&&decide (i<=999) | _=>ay
def okS (z:Str):Prop:=z.cps.size<=5000/\∀c∈z.cps.toList,c < 128
def okD:PyData->Prop | .str z=>okS z | _=>True
def L6:FSp:=fn1 (λ_=>True) λd=>.bool (NF d)
def T4:FSp:=fn1 okD λd=>.bool (CN d)
def Q2:FSp:=fn1 (λ_=>True) λd=>.bool (L5 d)
def MG (d:PyData) (I hi:Int):Bool:=match d with | .int i=>decide (I<=i)&&decide (i<=hi) | _=>ay
def GA:FSp:=#[λt _=>∃(d:PyData) (I hi:Int),t=[.d d,.d (.int I),.d (.int hi)],λt M y i=>∀(d:PyData) (I hi:Int),t=[.d d,.d (.int I),.d (.int hi)]->y = .d (.bool (MG d I hi))/\i=M]
theorem XA {Q:DS->Own->Prop}(q:Q (.d (.bool (MG d I hi))) M):[DS.d d,.d (.int I),.d (.int hi)].length=3/\GA.pre [.d d,.d (.int I),.d (.int hi)] M/\∀x i,GA.post [.d d,.d (.int I),.d (.int hi)] M x i->Q x i:=#[rfl,#[d,I,hi,rfl],λx i h=>by obtain⟨rfl,rfl⟩:=h d I hi rfl;exact q]
theorem V3 (d:PyData):MG d 0 999=L5 d:=by cases d <;> rfl
theorem aG:∀c:Nat,c < 128->(!(a4Q (a0Q "abcdefghijklmnopqrstuvwxyz") #[(y9 [c])] 0 (a0Q "abcdefghijklmnopqrstuvwxyz").length 1).isEmpty)=FK c:=by decide +kernel
def u0:PyData->Bool | .str z=>z.cps.toList.all FK | _=>ay
theorem gH (z:Str):((CU z).filter λ_=>av).map (λd=>PyData.bool (u0 d))=(z.cps.toList.map FK).map .bool:=by rw[List.filter_eq_self.mpr (by simp)];unfold CU;rw[zD,zD];apply yM;intro c hc;simp[u0]
theorem aH (l:List Nat) (f:Nat->Bool):(l.map f).all id=l.all f:=by simp
section
theorem V4 (P:List (Option DS)->Own->Prop) (h:DSt K t ρ M { D with nx:=P }) (n:∀e M1,P e M1->DSt K u e M1 D):DSt K (k6 t u) ρ M D:=
 aA (tE h (λS i p=>n S i p) (λ_ _ q=>q) (λ_ _ q=>q) (λ_ _ q=>q))
end
def CW (z:Str):Prop:=1<=z.cps.size/\z.cps.size<=8/\∀c∈z.cps.toList,FK c=av
theorem p64:(2:Int) ^ 64=18446744073709551616:=by decide
theorem JE (h1 : -1000000000000000 < i) (e:i < 1000000000000000):CMul i j:=by refine .inl #[?_,?_] <;> rw[p64] <;> lia
theorem m7 (h1 : -1000000000000000 < j) (e:j < 1000000000000000):CMul i j:=by refine .inr #[?_,?_] <;> rw[p64] <;> lia
theorem A4I {M:Own}{a:Addr}{ds:List PyData}{k:Int}{j:Nat}{F:Addr->List PyData->Nat->Prop}(m:M a=am (.l ds)) (e:ixN ds.length k=am j) (q:F a ds j) : ∃N t o n,DS.loc a = .loc N/\DS.d (.int k) = .d (.int o)/\M N=am (.l t)/\ixN t.length o=am n/\F N t n:=#[a,ds,k,j,rfl,rfl,m,e,q]
theorem A4J {Q:List PyData->Prop}(e:SD xs=am ds) (h:ds.length<=aB) (q:Q ds):∃ds,SD xs=am ds/\ds.length<=aB/\Q ds:=#[ds,e,h,q]
theorem u3 {x:Str}(h:x.cps.toList=y.cps.toList):x=y:=by obtain⟨⟨a⟩⟩:=x;obtain⟨⟨b⟩⟩:=y;simp at h;subst h;rfl
theorem Q3:∀(cs:List Nat) (acc:Array Nat),((cs.map λc=>(#[(y9 [c])]:Str)).foldl (λacc p=>acc++(a0Q "").cps++p.cps) acc)=acc++cs.toArray
 | [],acc=>by simp
 | c::cs,acc=>by
   rw[zI,b3W,Q3 cs];have e:(a0Q "").cps=#[]:=by decide +kernel
   rw[e];apply Array.ext';simp
theorem aI (cs:List Nat):Txt.join (a0Q "") (cs.map λc=>(#[(y9 [c])]:Str))=#[cs.toArray]:=by
 unfold Txt.join Builtin.Str.glued;cases cs with
 | nil=>rfl
 | cons c cs=> simp only[zI,List.drop_succ_cons,List.drop_zero,List.headD_cons];rw[Q3];congr 1;apply Array.ext';simp
theorem m8 (n len:Nat):b0Q ap (am (n:Int)) 1 len=a0K (min n len):=by
 unfold b0Q sliceRange;have h1:¬((n:Int) < 0):=by lia
 have e:max 0 (min (n:Int) (len:Int))=((min n len:Nat):Int):=by lia
 simp only[show(1:Int) > 0 by decide,if_true,h1,if_false,e];have t:(if (0:Int) < ((min n len:Nat):Int) then (((min n len:Nat):Int) - 0+1 - 1)/1 else 0).toNat=min n len:=by
   split;. rw[Int.ediv_one];lia
   . lia
 rw[t];apply b2X;intro i;rw[zF];by_cases h:i < min n len;. simp[xZ h]
 . simp[a6K (show(a0K (min n len)).length<=i by simp;lia)]
theorem gI (l:List Nat) (a:Array Nat) (m:Nat) (h:a.toList=l):(a0K m).filterMap (λi=>a[i]?)=l.take m:=by
 induction m with
 | zero=>simp
 | succ m t=>
   rw[List.range_succ,List.filterMap_append,t,a2K];have e:a[m]?=l[m]?:=by rw[<-h];simp
   simp only[a2V,List.filterMap_nil,e];cases l[m]? <;> simp
theorem aJ (z:Str) (n:Nat):(b0Z z ap (am (n:Int))).cps.toList=z.cps.toList.take n:=by
 unfold b0Z;rw[m8];have m:z.length=z.cps.toList.length:=by simp[Str.length]
 split;. rename_i h;simp only[xY,beq_self_eq_true,b9W,beq_iff_eq] at h;rw[b5X (by rw[<-m];lia)]
 . show(List.filterMap _ _).toArray.toList=_;rw[gI z.cps.toList z.cps _ rfl,List.toList_toArray,m,List.take_eq_take_iff];lia
theorem GM (x y:Str):(x++y).cps.toList=x.cps.toList++y.cps.toList:=by show(x.cps++y.cps).toList=_;simp
theorem aK (x y:Str):(x++y).length=x.length+y.length:=by show(x.cps++y.cps).size=_;simp[Str.length]
theorem XB:(a0Q "abcdefghijklmnopqrstuvwxyz").length=26:=by decide +kernel
theorem T5:∀cs:List Nat,((cs.map λc=>(#[(y9 [c])]:Str)).map (·.length)).sum=cs.length
 | []=>rfl
 | c::cs=>by rw[zI,zI,a2J,T5 cs];show 1+cs.length=cs.length+1;lia
theorem flt (l:List PyData):l.filter (λ_=>av)=l:=List.filter_eq_self.mpr (by simp)
theorem gJ (z:Str) (l u:Option Int) (h:z.length<=n):(b0Z z l u).length<=n:=zN (Txt.slice_le z l u) h
theorem m9 (h:FK c=av):c < 128:=by unfold FK at h;simp at h;lia
theorem T6 (s:Str):CN (.str s)=(decide (1<=s.cps.size)&&decide (s.cps.size<=8)&&s.cps.toList.all FK):=rfl
theorem T7 (s:Str):s.cps.size=s.cps.toList.length:=by simp
theorem mB (h:CW z):okD (.str z):=#[by have:=h.2.1;lia,λc hc=>m9 (h.2.2 c hc)]
end DL
namespace DL
open PySem PySem.Spec L2
def sl (a b:Str):Bool:=b1V a.cps.toList b.cps.toList
theorem T8:∀a:List Nat,b1V a a=ay
 | []=>rfl
 | a::r=>by simp[b1V,T8 r]
theorem XD:∀a b c:List Nat,b1V a b=av->b1V b c=av->b1V a c=av
 | [],[],_,h,_=>by cases h
 | [],_::_,[],_,h=>by cases h
 | [],_::_,_::_,_,_=>rfl
 | _::_,[],_,h,_=>by cases h
 | _::_,_::_,[],_,h=>by cases h
 | a::r,b::t,c::u,h1,e=>by
   simp only[b1V,Bool.or_eq_true,decide_eq_true_eq,a1Z,beq_iff_eq] at h1 e ⊢;rcases h1 with h1 | ⟨rfl,h1⟩
   . rcases e with e | ⟨rfl,e⟩
     . exact .inl (xP h1 e)
     . exact .inl h1
   . rcases e with e | ⟨rfl,e⟩
     . exact .inl e
     . exact .inr #[rfl,XD r t u h1 e]
theorem XE:∀a b:List Nat,b1V a b=ay->b1V b a=ay->a=b
 | [],[],_,_=>rfl
 | [],_::_,h,_=>by cases h
 | _::_,[],_,h=>by cases h
 | a::r,b::t,h1,n=>by
   simp only[b1V,Bool.or_eq_false_iff,decide_eq_false_iff_not,Bool.and_eq_false_iff] at h1 n;have e:a=b:=by lia
   subst e;simp at h1 n;rw[XE r t h1 n]
theorem T9 (a:Str):sl a a=false:=T8 _
theorem MH (h1:sl a b=av) (e:sl b c=av):sl a c=true:=XD _ _ _ h1 e
theorem FL (h1:sl a b=ay) (e:sl b a=ay):a=b:=u3 (XE _ _ h1 e)
theorem Q4 (h:sl a b=av):sl b a=false:=by
 cases e:sl b a with
 | false=>rfl
 | true=>have:=MH h e;rw[T9] at this;cases this
theorem A3S (a b:Str):decide (a.cps.toList < b.cps.toList)=sl a b:=PyProof.Rows.lt_meets a b
def Ris (ss:List Str):Prop:=ss.Pairwise λa b=>sl a b=av
theorem TB:∀ss:List Str,xF ss=av->ss.Pairwise λa b=>sl b a=ay
 | [],_=>.nil
 | a::r,h=>by
   have key:∀(r:List Str) (p:Str),PyProof.Rows.risingS p r=av->(p::r).Pairwise λa b=>sl b a=false:=by
     intro r;induction r with
     | nil=>intro p _;simp
     | cons x r i=>
       intro p h;unfold PyProof.Rows.risingS at h;simp only[a1Z,Bool.not_eq_true'] at h;have n:=i x h.2;refine List.pairwise_cons.mpr #[λc hc=>?_,n];have hx:sl x p=false:=h.1;rcases yX.mp hc with rfl | hc;. exact hx
       . have o:sl c x=false:=(List.pairwise_cons.mp n).1 c hc;cases e:sl c p with
         | false=>rfl
         | true=>
           cases t:sl x c with
           | true=>have:=MH t e;rw[hx] at this;cases this
           | false=>have:=FL o t;subst this;rw[hx] at e;cases e
   exact key r a h
theorem aL (h:xF ss=av) (nd:ss.Nodup):Ris ss:=by
 unfold Ris;have h1:=TB ss h;refine(List.Pairwise.and h1 nd).imp λ{a b} Y=>?_;obtain⟨x,y⟩:=Y;cases e:sl a b with
 | true=>rfl
 | false=>exact absurd (FL e x) y
theorem Ris.nodup (h:Ris ss):ss.Nodup:=h.imp λ{a b} q=>by rintro rfl;rw[T9] at q;cases q
theorem FF (h1:d.canLay0=av) (e:d.depth<=64):zH d=true:=by unfold zH;rw[h1,decide_eq_true e];rfl
theorem NG (h:∀d∈ds,d.canLay0=av):b4V ds=true:=by
 induction ds with
 | nil=>rfl
 | cons d r e=>rw[b4V,h d a0Z,e λx hx=>h x (yV _ hx)];rfl
theorem NH (h:∀d∈ds,d.depth<=n):a4Z ds<=n:=by
 induction ds with
 | nil=>simp[a4Z]
 | cons d r e=> have h1:=h d a0Z;have t:=e λx hx=>h x (yV _ hx);simp only[a4Z];lia
theorem FM (h:CW z):PyData.strOk z=true:=by unfold PyData.strOk;rw[Array.all_eq_true'];intro c hc;have:=m9 (h.2.2 c (by simpa using hc));simp;lia
end DL
namespace DL
open PySem PySem.Spec L2
theorem sIx_nat (n d k:Nat):HT.sIx n d (am (k:Int))=min k n:=HT.sIx_nat n d k
theorem mD (xs:List PyData) (k:Nat):GL xs (am (k:Int)) ap=xs.drop k:=by
 unfold GL;rw[sIx_nat];show(xs.drop (min k xs.length)).take (xs.length - min k xs.length)=_;rw[b5X (by rw[b3X];lia)];by_cases h:k<=xs.length;. rw[Nat.min_eq_left h]
 . rw[Nat.min_eq_right (by lia),a7K (zR _),a7K (by lia)]
theorem A1Y (xs:List PyData) (k:Nat):GL xs ap (am (k:Int))=xs.take k:=by unfold GL;rw[sIx_nat];show(xs.drop 0).take (min k xs.length - 0)=_;rw[List.drop_zero,Nat.sub_zero,List.take_eq_take_iff];lia
theorem cY (xs:List PyData) (a b:Nat):GL xs (am (a:Int)) (am (b:Int))=(xs.take b).drop a:=by
 unfold GL;rw[sIx_nat,sIx_nat,List.drop_take];by_cases h:a<=xs.length;. rw[Nat.min_eq_left h,List.take_eq_take_iff,b3X];lia
 . rw[a7K (show xs.length<=min a xs.length by lia),a7K (show xs.length<=a by lia)];simp
def fn2 (pre:PyData->PyData->Prop) (f:PyData->PyData->PyData):FSp:=#[λt _=>∃a b,t=[.d a,.d b]/\pre a b,λt M y i=>∀a b,t=[.d a,.d b]->y = .d (f a b)/\i=M]
theorem mE {Q:DS->Own->Prop}(p:pre a b) (q:Q (.d (f a b)) M):[DS.d a,.d b].length=2/\(fn2 pre f).pre [.d a,.d b] M/\∀x i,(fn2 pre f).post [.d a,.d b] M x i->Q x i:=#[rfl,#[a,b,rfl,p],λx i h=>by obtain⟨rfl,rfl⟩:=h a b rfl;exact q]
def A4K:PyData->PyData | .tuple (a::_)=>a | d=>d
def mF:PyData->Str | .str z=>z | _=>#[#[]]
def nm0 (d:PyData):Str:=mF (A4K d)
abbrev Th:=Str×Int×Int
def thD (t:Th):PyData:=.tuple [.str t.1,.int t.2.1,.int t.2.2]
def wD (w:List Th):PyData:=.tuple (w.map thD)
theorem TC (h:CN d=av):∃z,d = .str z/\CW z:=by
 cases d with
 | str z=> rw[T6] at h;simp only[a1Z,decide_eq_true_eq,b0X] at h;exact#[z,rfl,h.1.1,h.1.2,h.2]
 | _=>cases h
theorem mG (h:CW z):CN (.str z)=true:=by rw[T6,decide_eq_true h.1,decide_eq_true h.2.1,List.all_eq_true.mpr h.2.2];rfl
theorem u4 (w:List Th):(w.map thD).map nm0=w.map (·.1):=by rw[zD];rfl
end DL
namespace DL
open PySem PySem.Spec L2
section
theorem CJ (ho:JC g T) (hT:∀i∈T,∀j,m[i]?≠am (am j)) (h:DI K wi ρ M λds M1=>ds.length < aB/\∃(c:PyData->Bool) (f:PyData->PyData),(∀d∈ds,∀A acc e,M1 A=ap->e=M1.put A (.l acc)->DG K g d (G8 m ρ) e λp o=>o=e/\DT K G p o λb r=>r=e/\b=c d/\(c d=av->DE K I p r λy O=>y = .d (f d)/\O=e))/\Q (.d (.list ((ds.filter c).map f))) M1) :
   DE K (OG m wi g G I) ρ M Q:=by
 refine P4 ho hT λu H R Rl k=>h u H R Rl λJ ds U M1 o1 t1 wd q=>k J ds U M1 o1 t1 wd ?_;obtain⟨hsz,c,f,he,q⟩:=q;refine#[hsz,λA hA=>#[λk acc e=>acc=((ds.take k).filter c).map f/\e=M1.put A (.l acc),#[by simp,rfl],λk acc e #[n,t]=>#[by rw[t];exact zU,?_],λk d acc e hd #[n,t]=>?_,λacc e #[n,t]=>?_]];. rw[n,zX];exact zN (yJ _ _) (by rw[a1X];lia)
 . have hm:d∈ds:=yN hd;intro u H v QQ R dv kk;refine he d hm A acc e hA t u H v QQ R dv λS o x H' Z st dm=>kk S o x H' Z st λN X QQ2 R2 k2=>?_;obtain⟨eM,q2⟩:=dm;refine q2 N X QQ2 R2 λb Y r o3 ff ua=>k2 b Y r o3 ff ?_;obtain⟨L,z,q3⟩:=ua;have D:(ds.take (k+1)).filter c=(ds.take k).filter c++(if c d then [d] else []):=hX c ds k d hd;cases hb:c d with
   | false=> rw[hb] at z;subst z;refine L2.kY #[?_,by rw[L,t]];rw[D,hb,n];simp
   | true=>
     rw[hb] at z;subst z;refine L2.gC ?_;refine UU (q3 hb) λy O #[ey,B]=>#[f d,ey,by rw[B,t];exact zU,?_,by rw[B,t,yI]]
     rw[D,hb,n];simp
 . rw[t,yG hA,n,a1Q];exact q
end
theorem OH {as:List Str}(h:as.map a0J=bs.map a0J):as=bs:=by have:=congrArg (List.map mF) h;rw[zD,zD] at this;simpa [show(mF∘a0J)=id from rfl] using this
theorem NI (h:DE K o e M λx M1=>∃d,x = .d d/\DG K g d e M1 D.nx):DSt K (rT o g) e M D:=λi H E R B _ _ _=>
 h i H _ R λv H' x m a b c q=>by obtain⟨d,rfl,q⟩:=q;exact q i H' v _ (R.step a c) b λt T n r R2 Z p=>B t T n r R2 (c.trans Z) p
theorem mH {X:Cx}:MtR X "list.append" UN:=NB
end DL
namespace L2
open PySem PySem.Spec PyProof.Rows
def EntS (w:bd):List DictEntry->List (Str×Str)->Prop
 | [],[]=>True
 | e::M,kv::r=>e.hash=hashStr w kv.1/\(∃t,e.key = .str kv.1 t)/\(∃t,e.val = .str kv.2 t)/\EntS w M r
 | _,_=>False
def GDict (w:bd) (K:Frg) (a:Addr) (kvs:List (Str×Str)):Prop:=(a==da)=ay/\(kvs.map (·.1)).Nodup/\∃M Z,K.lookup a=am { cls:=.type "dict", data:=.dict M Z }/\EntS w M.toList kvs
theorem EntS.pairs :∀{es:List DictEntry}{kvs:List (Str×Str)},EntS w es kvs->∃vs:List (Key×aw),Pairs (AT P w) es vs/\KV (kvs.map λkv=>((a1W kv.1:Key),V.str kv.2)) vs/\vs.map (·.1)=kvs.map (λkv=>(a1W kv.1:Key))/\∀e∈es,∃k,(AT P w).is k e.key=av/\e.hash=(AT P w).hash k
 | [],[],_=>#[[],.nil,.nil,rfl,by simp]
 | e::es,kv::r,#[h1,#[t,n],#[X,o],i]=>by
   obtain⟨vs,a,b,c,d⟩:=EntS.pairs (P:=P) i;have hk:(AT P w).is (a1W kv.1) e.key=true:=by rw[n];exact OE P w kv.1 t
   refine#[(a1W kv.1,e.val)::vs,.cons hk rfl a,.cons #[rfl,#[X,o]] b,by rw[zI,zI,c],λx hx=>?_];rcases yX.mp hx with rfl | hx;. exact#[_,hk,h1]
   . exact d x hx
section
variable {X:Cx}{pins:List (Addr×cr)}{σ:St}{H:Hp}{s:ax}
theorem GDict.at (g:GDict X.w X.K a kvs) (I:Inv X pins σ H s):∃vs,KV (kvs.map λkv=>((a1W kv.1:Key),V.str kv.2)) vs/\s.heap.DictOf (AT X.prog X.w) a vs:=by
 obtain⟨_,nd,M,Z,hk,z⟩:=g;obtain⟨vs,D,t,f,n⟩:=z.pairs (P:=X.prog);refine#[vs,t,_,M,Z,I.kIn a _ hk,#[rfl,rfl,rfl],rfl,λe z=>n e (by simpa using z),D,?_];rw[f];have:kvs.map (λkv=>(a1W kv.1:Key))=(kvs.map (·.1)).map a1W:=by rw[zD];rfl
 rw[this];unfold List.Nodup;rw[b2Q];exact nd.imp λ{a b} q e=>q (by injection e)
def zE (kvs:List (Str×Str)) (ty:TE):TE:=λσ H Q=>ty σ H λy e=>∃k:Str,y = .str k/\Q (((kvs.lookup k).map V.str).getD .non) e
theorem XF (kvs:List (Str×Str)) (k:Str):GY (kvs.map λkv=>((a1W kv.1:Key),V.str kv.2)) (a1W k)=(kvs.lookup k).map V.str:=by
 induction kvs with
 | nil=>rfl
 | cons kv r t=>
   obtain⟨a,b⟩:=kv;unfold GY at t ⊢;rw[zI,b1Z,a3V];by_cases h:a=k;. subst h;simp
   . have h1:decide ((a1W a:Key)=a1W k)=false:=decide_eq_false λe=>h (by injection e);have n:(k==a)=false:=by simpa using λe=>h e.symm
     simp only[h1,n];exact t
theorem u5 {x:Str}{p apos L:eH}{e:bn}{ty:TE}{kvs:List (Str×Str)}(hg:Gl X x) (t:∃a,X.mg x=am (.ref a)/\GDict X.w X.K a kvs) (j:PE X e ty) (m:M1 X (.Name x p) "get" apos e L) (hd:(x==("__debug__":Str))=false:=by decide) :
   PE X (.Call (.Attribute (.Name x p) "get" apos) [e] [] L) (zE kvs ty):=by
 obtain⟨a,t,g⟩:=t;intro pins s σ H Q I h;refine wpAny_Call_method m.base m.few m.line PySem.F.plainAttrs_dict PySem.F.slot_dict_get PySem.F.type_dict_get (G5 I hg t ?_ hd);obtain⟨N,rel,Y⟩:=g.at I;refine#[Y.typeIs,λb q=>?_,?_];. cases q;obtain⟨u,_,_,h1,f,_⟩:=Y;exact#[u,h1,f.2.1]
 rw[m.trees];refine b9V rfl (Calls.evalArgs_plain (xN (thn (j pins s σ H _ I h) λv T i=>Calls.spliced_nil ?_)));obtain⟨y,o,c,Z,k,r,J⟩:=i;subst r;obtain⟨vs',n,z⟩:=g.at c;refine call_meetsIn PySem.F.slot_dict_get z.typeIs PySem.F.entry_dict_get (PySem.F.args_dict_get_2 _ _) (meets_dict_get (AT X.prog X.w) a (KH (k:=a1W k) Z) g.1) #[_,z.mapOf,?_];refine#[_,o,c.tok _,?_,J];have:=(n.val (a1W k)).getD (show RelV .non .none from rfl);rw[XF] at this;exact this
end
end L2
namespace DL
open PySem PySem.Spec L2
section
def gK:Option Str->PyData | some z=>.str z | none=>.none
theorem u6 (h:DE K ty ρ M λy M1=>∃k,y = .d (.str k)/\Q (.d (gK (kvs.lookup k))) M1):DE K (zE kvs ty) ρ M Q:=λo H QQ R k=>
 h o H _ R λv t x M1 O r n h1=>by
   obtain⟨z,rfl,q⟩:=h1;refine#[z,BD r,?_];cases e:kvs.lookup z with
   | none=>rw[e] at q;exact k _ t (.d .none) M1 O (by unfold SI DV;rfl) n q
   | some y=>rw[e] at q;exact k _ t (.d (.str y)) M1 O HA n q
theorem cZ (hg:Gl X x) (e:X.mg x=am (.ref a)) (hd:(x==("__debug__":Str))=false:=by decide):PE X (.Name x pos) (tC (.ref a)):=UF hg e rfl hd
theorem mI {neg:Bool}{ys:List Str}(q:Q (.d (.bool (if neg then !decide (x∈ys) else decide (x∈ys)))) M):D2 K (rIn K neg) (.d (.str x)) (.d (.tuple (ys.map .str))) M Q:=λH v u QQ n r t k=>by rw[BD r];unfold SI DV at t;obtain⟨a,o,rfl,m,hd⟩:=t;have e:=MB hd;subst e;exact#[a,_,rfl,.inr m.sq,rfl,by simp[LY],k _ H (.d (.bool (if neg then !decide (x∈ys) else decide (x∈ys)))) M n (by rw[lG];exact AN) Step.refl q]
theorem d0 {ys:List Str}(q:Q (.d (.bool (decide (x∈ys)))) M):D2 K (tN K) (.d (.str x)) (.d (.tuple (ys.map .str))) M Q:=GK (mI (neg:=ay) q)
theorem MI {ys:List Str}(q:Q (.d (.bool (!decide (x∈ys)))) M):D2 K (UW K) (.d (.str x)) (.d (.tuple (ys.map .str))) M Q:=GK (mI (neg:=av) q)
end
end DL
namespace L2
open PySem PySem.Spec PyProof.Rows
section
def V5:V->List V->Hp->VK->Prop:=λv n H Q=>∃x y,v = .str x/\n=[.str y]/\Q (.bl (Txt.startswith x y)) H
theorem gL:MtR X "str.startswith" V5:=by intro pins s i H x o v k Q I L e h;obtain⟨y,z,rfl,rfl,q⟩:=h;obtain⟨t,rfl⟩:=L;obtain⟨u,rfl,n,rfl⟩:=J7 e;exact SC.startswith #[.bl _,H,I,rfl,q]
def A3T (z:Str) (n:Int):Str:=if (n==1||z.length==0)=av then z else #[(b2V n.toNat z.cps).foldl (·++·) #[]]
def mJ:R2:=λx y H Q=>(rI (λi j=>IntMulOk i j) λi j=>.int (i*j)) x y H Q\/∃z n,x = .str z/\y = .int n/\1<=n/\n<=8/\z.length<=1000/\Q (.str (A3T z n)) H
theorem XG (a:Array Nat):∀(n:Nat) (b:Array Nat),(List.foldl (λB h=>B++h) b (b2V n a)).size=b.size+n*a.size
 | 0,b=>by simp
 | n+1,b=>by rw[List.replicate_succ,b3W,XG a n,Array.size_append,Nat.succ_mul];lia
theorem u7:OpR X (dh .Mult) mJ:=by
 intro pins s f H x y v u Q I L Z h;rcases h with h | ⟨z,n,rfl,rfl,h1,p,r,q⟩
 . exact(opI (C:=λi j=>IntMulOk i j) λ_ _ _ _ _ _ _ hc q=>mul_int q hc) pins s f H x y v u Q I L Z h
 . obtain⟨t,rfl⟩:=L;obtain⟨g,rfl⟩:=Z;have hp:(2:Int) ^ 63=9223372036854775808:=by decide
   refine P.mul_str ?_ (λ_ _=>?_) (λ_ _=>?_) ?_;. rw[decide_eq_false (Int.not_lt.mpr (Int.le_trans (by decide) h1)),decide_eq_false (Int.not_le.mpr (Int.lt_of_le_of_lt p (by decide)))];rfl
   . rw[hp];have b:(1000:Int)<=(9223372036854775808 - 1)/n:=Int.le_ediv_of_mul_le (Int.lt_of_lt_of_le (by decide) h1) (Int.le_trans (Int.mul_le_mul_of_nonneg_left p (by decide)) (by decide));exact λhc=>absurd (Int.lt_of_le_of_lt b hc) (Int.not_lt.mpr (Int.ofNat_le.mpr r))
   . have m:z.length*n.toNat<=1000*1000:=Nat.mul_le_mul r (by lia);unfold Builtin.Str.tooLong;rw[decide_eq_false];exact λhc=>absurd (zP hc m) (by decide)
   . rw[if_neg (by lia)];have o:=q;unfold A3T at o;split;. rename_i e;rw[if_pos e] at o;exact#[.str z,H,I,#[_,rfl],o]
     . rename_i e;rw[if_neg e] at o;refine#[?_,#[.str _,H,I.tok _,#[_,rfl],o]];show(List.foldl (λB c=>B++c) #[] (b2V n.toNat z.cps)).size<=aB;rw[XG];have m:(#[]:Array Nat).size+n.toNat*z.cps.size<=8*1000:=by rw[show(#[]:Array Nat).size=0 from rfl,Nat.zero_add];exact Nat.mul_le_mul (by lia) r
       exact zN m (by decide)
end
end L2
namespace DL
open PySem PySem.Spec L2
section
variable {X:Cx}{K:Frg}
theorem XH (_:X.K=K):MtR X "str.startswith" V5:=gL
theorem A1Z (_:X.K=K):OpR X (dh .Mult) mJ:=u7
def A3U:List V->Hp->VK->Prop:=λt H Q=>∃i j,t=[.int i,.int j]/\Q (.int (if j > i then j else i)) H
def A3V:List V->Hp->VK->Prop:=λt H Q=>∃i j,t=[.int i,.int j]/\Q (.int (if j < i then j else i)) H
def dA:List V->Hp->VK->Prop:=λt H Q=>∃i j,t=[.int i,.int j]/\A2q i j/\∀p,H p=ap->Q (.ref p) (upd H p (.tup [.int (i/j),.int (i % j)]))
theorem A4L (_:X.K=K) (hc:X.calm=av):C7 X (.builtin "max") A3U:=fW hc
theorem A4M (_:X.K=K) (hc:X.calm=av):C7 X (.builtin "min") A3V:=fX hc
theorem u8 (_:X.K=K):C7 X (.builtin "divmod") dA:=WS
end
section
theorem gN (q:Q (.d (.bool (Txt.startswith x y))) M):DM K V5 (.d (.str x)) [.d (.str y)] M Q:=λH v i QQ t n o k=>by obtain⟨u,r,rfl,h1,e⟩:=o;cases e;rw[BD n,BD h1];exact#[x,y,rfl,rfl,k _ H _ M t AN Step.refl q]
theorem L7 (c:IntMulOk i j) (q:Q (.d (.int (i*j))) M):D2 K mJ (.d (.int i)) (.d (.int j)) M Q:=λH v u QQ e r t k=>by rw[BC r,BC t];exact .inl #[i,j,rfl,rfl,c,k _ H _ M e BR Step.refl q]
theorem A1a (q:Q (.d (.int (if j > i then j else i))) M):DR K A3U [.d (.int i),.d (.int j)] M Q:=λH p QQ n s k=>by obtain⟨v,r,rfl,h1,m,o,rfl,e,t⟩:=s;cases t;rw[BC h1,BC e];exact#[i,j,rfl,k _ H _ M n BR Step.refl q]
theorem A1b (q:Q (.d (.int (if j < i then j else i))) M):DR K A3V [.d (.int i),.d (.int j)] M Q:=λH p QQ n s k=>by obtain⟨v,r,rfl,h1,m,o,rfl,e,t⟩:=s;cases t;rw[BC h1,BC e];exact#[i,j,rfl,k _ H _ M n BR Step.refl q]
theorem gQ (h0:0 < j) (h:j < 1073741824) (q:Q (.d (.tuple [.int (i/j),.int (i % j)])) M):DR K dA [.d (.int i),.d (.int j)] M Q:=λH b QQ e s k=>by obtain⟨v,r,rfl,h1,m,o,rfl,t,n⟩:=s;cases n;rw[BC h1,BC t];refine#[i,j,rfl,#[h0,h],λp hp=>?_];have g:Grow K M.W M.W H (upd H p (.tup [.int (i/j),.int (i % j)])):=B6 _ hp;refine k _ _ (.d (.tuple [.int (i/j),.int (i % j)])) M (e.new hp) ?_ #[g] q;unfold SI DV;exact#[p,_,rfl,.inl #[λw=>w (e.none hp),.inl AE],DVs.cons (by unfold DV;rfl) (DVs.cons (by unfold DV;rfl) DVs.nil)]
theorem mK  (h:DE K to ρ M λo M1=>DE K O ρ M1 λi T=>∃a xs k j,o = .loc a/\i = .d (.int k)/\T a=am (.l xs)/\ixN xs.length k=am j/\DGs K g ds ρ (T.put a (.l (xs.set j d))) P) :
   DGs K (cH (A2m to O yA) g) (d::ds) ρ M P:=λn H I QQ R hd kk=>by unfold DVs at hd;obtain⟨v,r,rfl,h1,U⟩:=hd;refine#[v,r,rfl,h n H _ R λw D y T o2 s2 x X=>X n D _ (R.step o2 x) λu H3 z M3 f s3 N Y=>?_];obtain⟨a,xs,k,j,rfl,rfl,m,Z,q⟩:=Y;rw[BC s3];have e:=s2.step N;unfold SI at e;subst e;obtain⟨I,h0,G⟩:=f a _ m;have c:=x.trans N;obtain⟨p1,p2⟩:=E5 f m (G.set j (DV.grow c.grow h1));have t:=c.trans p2;exact#[a,I,k,j,rfl,rfl,h0,by rw[G.length];exact Z,q n _ r _ (R.step p1 t) (DVs.grow t.grow U) λS B b H' J L p=>kk S B b H' J (t.trans L) p]
end
end DL
namespace L2
open PySem PySem.Spec PyProof.Rows PySem.W
theorem V6 {ns:List Int}(h:WData.layableAll [WData.list (ns.map WData.int)]=av):∀i∈ns,xI i<=2 ^ 20:=by
 have h1:WData.weightAll (ns.map WData.int)<=2 ^ 20:=by
   have h0:WData.layable (WData.list (ns.map WData.int))=true:=by unfold WData.layableAll at h;simpa using h
   unfold WData.layable at h0;rw[a1Z] at h0;exact of_decide_eq_true h0.2
 intro i hi;refine zN ?_ h1;clear h h1;induction ns with
 | nil=>cases hi
 | cons n r e=>
   rw[zI];show _<=WData.weight (.int n)+1+WData.weightAll (r.map WData.int);rcases yX.mp hi with rfl | hi;. have:WData.weight (.int i)=xI i:=rfl;lia
   . have:=e hi;lia
theorem mL {l:PySem.W.OpenLaw}{n k:Nat}{q:bh}{loose:List Str}{XP:(Str->Option aw)->ca->Prop}{YP:bd->ca->Prop}{d:DefRec}{K:fi->Frg}{CX:bd->CXT}{sp:bd->Sp}{x:Str} (hn:l.most=am n) (J:n<=aB) (z:d.params.defaults=[]) (hr:Room k callerA) (B:∀(w:bd) (h:ca),YP w h->(K w.params).In h) (F:∀(w:bd) (mg:Str->Option aw) (m:Addr) (h:ca),(K w.params).In h->h.Ns bb mg->mg d.name=am (.ref m) ->∃p:ee,(∀(s:ax) (u:aw),BindsTo s p #[[u],[]] [(x,u)]) /\∀base:ca,(K w.params).In base->base.Ns bb mg->FnOk l.prog w (K w.params) mg base (CX w) k m p [x] (sp w)) (X:∀(w:bd) (H:Hp) (a:Addr) (ns:List Int),ns.length<=n->(∀i∈ns,xI i<=2 ^ 20)->A01 H->SqL (K w.params) H a (ns.map V.int)->sp w [.ref a] H (λv _=>v = .bl av) λ_ _ _=>False) (S:∀(w:bd) (H:Hp) (s:ax) (e:aw) (s':ax),CX w [] H s (λ_ _ _=>False) e s'->False) :
   PySem.W.WalkO q loose XP YP l.row.toRowW d [] (λf vs=>PySem.call f vs):=by
 intro w j t mg mb G Y m o pm cd doc O kV ho hd gz hD Z hg args vals as we N Pw y Px;have M:O = .none:=Dflts.none hD z;subst M;have D:kV = .none:=Dflts.noKw hD;subst D;obtain⟨a,vs,ns,rfl,rfl,L,Q,c⟩:=Att.script_of hn we y;have I:=V6 N;refine enter_call (xM (R:=λr s'=>r = .ok (.ret (.bool av))/\OldK t.heap s'.heap/\s'.os=t.os/\g0 s'.gens) ?_ λr s' hq=>?_);. have KX:=B w _ Y;obtain⟨p,hb,hF⟩:=F w mg m _ KX G.T.g Z;exact kX KX G.T.g G.T.b G.T.builtins G.T.nolimit hg L Q (zN c J) hr hF hb (λH hO hS=>X w H a ns c I hO hS) λH e s'=>S w H t e s'
 . have h1:=hq.1;subst h1;exact#[.inl #[.bool av,.bool av,[],rfl,λ_=>rfl,.bool av,Att.post_true l _,λ_=>#[a7V,λ_ U=>(nomatch U)]],hq.2.1,hq.2.2.1,hq.2.2.2]
end L2
namespace DL
open PySem PySem.Spec L2
theorem aM (i m:Nat) (a:Array Nat):((a0K m).map (i+·)).filterMap (λj=>a[j]?)=(a.toList.drop i).take m:=by
 induction m with
 | zero=>simp
 | succ m t=>
   rw[List.range_succ,xH,List.filterMap_append,t,a2K];have e:a[i+m]?=(a.toList.drop i)[m]?:=by rw[List.getElem?_drop];simp
   simp only[zI,b8J,a2V,List.filterMap_nil,e];cases (a.toList.drop i)[m]? <;> simp
theorem A1c (n len:Nat):max 0 (min (n:Int) (len:Int))=((min n len:Nat):Int):=by
 rcases Nat.le_total n len with h | h;. rw[Nat.min_eq_left h,Int.min_eq_left (Int.ofNat_le.mpr h),Int.max_eq_right (a5Z _)]
 . rw[Nat.min_eq_right h,Int.min_eq_right (Int.ofNat_le.mpr h),Int.max_eq_right (a5Z _)]
theorem A1d (a b:Nat):(if (a:Int) < (b:Int) then ((b:Int) - (a:Int)+1 - 1)/1 else 0).toNat=b - a:=by
 split;. rw[Int.ediv_one];lia
 . lia
theorem mM (n len:Nat):b0Q (am (n:Int)) ap 1 len=(a0K (len - min n len)).map (min n len+·):=by unfold b0Q sliceRange;have h1:¬((n:Int) < 0):=Int.not_lt.mpr (a5Z n);have e:=A1c n len;simp only[show(1:Int) > 0 by decide,if_true,h1,if_false,e];have t:(if ((min n len:Nat):Int) < (len:Int) then ((len:Int) - ((min n len:Nat):Int)+1 - 1)/1 else 0).toNat=len - min n len:=A1d _ _;rw[t];apply yM;intro i hi;lia
theorem aN (z:Str) (n:Nat):(b0Z z (am (n:Int)) ap).cps.toList=z.cps.toList.drop n:=by
 unfold b0Z;rw[mM];have m:z.length=z.cps.toList.length:=by simp[Str.length]
 split
 . rename_i h;rw[a1Z] at h;have h:=eq_of_beq h.2;rw[zX,xY] at h;have h0:n=0\/z.cps.toList.length=0:=by rw[m] at h;lia
   rcases h0 with rfl | h0;. simp
   . rw[List.length_eq_zero_iff.mp h0];simp
 . show(List.filterMap _ _).toArray.toList=_;rw[aM,List.toList_toArray,m];by_cases h:n<=z.cps.toList.length;. rw[Nat.min_eq_left h,b5X (by rw[b3X];exact zR _)]
   . rw[Nat.min_eq_right (by lia),a7K (zR _),a7K (by lia)];simp
def A4N (z:Str):Prop:=∀c∈z.cps.toList,FK c=av
theorem XJ (h:A4N z) (h1:1<=z.cps.toList.length) (e:z.cps.toList.length<=8):CW z:=#[by rw[T7];exact h1,by rw[T7];exact e,h]
end DL
namespace L2
open PySem PySem.Spec PyProof.Rows
abbrev FN (F:List Addr) (S:ca->Prop):Prop:=∀h p:ca,S h->(∀c∈F,∀o,h.get? c=am o->p.get? c=am o)->S p
abbrev NxI (P:bh) (w:bd) (A:bv) (i:Addr) (S L:ca->Prop) (R:aw->Prop):Prop:=∀(s:ax) (Q:aw->ax->Prop) (E:aw->ax->Prop),S s.heap->(∀p t x,R x->L p->Heap.SameBut i s.heap p->Q x { s with heap:=p,toks:=t })->wpAny (model P w) A (a2Z (.ref i)) Q E s
abbrev NxE (P:bh) (w:bd) (A:bv) (i:Addr) (S:ca->Prop):Prop:=∀(s:ax) (Q:aw->ax->Prop) (E:aw->ax->Prop),S s.heap->(∀p e,Heap.ExtBut i s.heap p->(∃o,p.get? e=am o/\o.cls = .type "StopIteration")->E (.ref e) { s with heap:=p })->wpAny (model P w) A (a2Z (.ref i)) Q E s
structure ZAp (z TI TO i1 i2:Addr) (F1 F2:List Addr):Prop where
 tz:TO≠z
 az:i1≠z
 bz:i2≠z
 ta:TO≠i1
 tb:TO≠i2
 ab:i1≠i2
 f1:∀c∈F1,c≠z/\c≠TO/\c≠i2
 f2:∀c∈F2,c≠z/\c≠TO/\c≠i1
section
variable {prog:bh}{w:bd}{A:bv}{E:aw->ax->Prop}{s:ax}{z TI TO i1 i2:Addr}{F1 F2:List Addr}{S1 sk S2 vz:ca->Prop}{R1 R2:aw->Prop}{a b:aw}
theorem gR {Q:aw->ax->Prop}(D:ZAp z TI TO i1 i2 F1 F2) (t1:FN F1 S1) (X:FN F1 sk) (t2:FN F2 S2) (zo:FN F2 vz) (n1:NxI prog w A i1 S1 sk R1) (n2:NxI prog w A i2 S2 vz R2) (hz:ge s.heap z TI TO .none) (yp:ed s.heap TI (.ref i1) (.ref i2)) (zp:ed s.heap TO a b) (h1:S1 s.heap) (h2:S2 s.heap) (l1:∀h,sk h->i1 < h.objs.size) (l2:∀h,vz h->i2 < h.objs.size) (hQ:∀h' tk x y,R1 x->R2 y->ge h' z TI TO (dZl s.heap.objs.size)->ed h' TO x y->sk h'->vz h'->ed h' s.heap.objs.size x y->h'.objs.size=s.heap.objs.size+1 ->(∀c o,c≠z->c≠TO->c≠i1->c≠i2->s.heap.get? c=am o->h'.get? c=am o)->Q (.ref s.heap.objs.size) { s with heap:=h',toks:=tk }) :
   wpAny (model prog w) A (Builtin.«zip.__next__» #[[.ref z],[]]) (λfin s'=>∃v,fin = .done (.ret v)/\Q v s') E s:=by
 show wpAny _ _ (iv (.ref z) 2 >>= _) _ _ _;refine zZ (bf hz rfl (x:=.bool ay) rfl ?_);show wpAny _ _ (iv (.ref z) 3 >>= _) _ _ _;refine zZ (bf hz rfl (x:=.ref TI) rfl ?_);refine zZ (c4 yp rfl ?_);show wpAny _ _ (a3X (.ref z) >>= _) _ _ _;refine zZ ?_;unfold a3X;refine zZ (bf hz rfl (x:=.none) rfl (zY ?_));simp only[if_true];refine zZ (dc ?_);refine zZ (bf hz rfl (x:=.ref TO) rfl ?_);refine zZ (db hz (by simp) λg1 k N=>?_);replace k:ge g1 z TI TO .ellipsis:=k;refine zZ ?_;simp only[List.forIn_cons,List.forIn_nil,List.zipIdx_cons,List.zipIdx_nil];refine zZ (zZ (fk ?_));show wpAny _ _ (a2Z (.ref i1) >>= _) _ _ _;refine zZ (n1 _ _ _ (t1 _ _ h1 λc hc o e=>N.extBut _ _ (D.f1 c hc).1 e) λg2 k2 x rx x2 J=>zY ?_);have O:ed g2 TO a b:=J.extBut _ _ D.ta (N.extBut _ _ D.tz zp);refine zZ (c4 O rfl ?_);refine zZ (ix O λg3 p G=>?_);replace p:ed g3 TO x b:=p;refine zZ (wpAny_letGo (zY ?_));refine zZ (zZ (fk ?_));show wpAny _ _ (a2Z (.ref i2) >>= _) _ _ _;refine zZ (n2 _ _ _ (t2 _ _ h2 λc hc o e=>G.extBut _ _ (D.f2 c hc).2.1 (J.extBut _ _ (D.f2 c hc).2.2 (N.extBut _ _ (D.f2 c hc).1 e))) λg4 k4 y ry x4 n=>zY ?_);have I:ed g4 TO x b:=n.extBut _ _ D.tb p;refine zZ (c4 I rfl ?_);refine zZ (ix I λt i T=>?_);replace i:ed t TO x y:=i;refine zZ (wpAny_letGo (zY (zY ?_)));refine zZ (c4 i rfl ?_);refine zZ (wpAny_newTuple ?_);have hsz:t.objs.size=s.heap.objs.size:=by rw[T.1,n.1,G.1,J.1,N.1]
 have L:ge t z TI TO .ellipsis:=T.extBut _ _ D.tz.symm (n.extBut _ _ D.bz.symm (G.extBut _ _ D.tz.symm (J.extBut _ _ D.az.symm k)));have k5:∀c o,c≠z->c≠TO->c≠i1->c≠i2->s.heap.get? c=am o->t.get? c=am o:=λc o Y Z S m e=>T.extBut _ _ Z (n.extBut _ _ m (G.extBut _ _ Z (J.extBut _ _ S (N.extBut _ _ Y e))));have Lu:sk t:=X _ _ x2 λc hc o e=>T.extBut _ _ (D.f1 c hc).2.1 (n.extBut _ _ (D.f1 c hc).2.2 (G.extBut _ _ (D.f1 c hc).2.1 e));have Lv:vz t:=zo _ _ x4 λc hc o e=>T.extBut _ _ (D.f2 c hc).2.1 e;have u:z < t.objs.size:=zM L;show wpAny _ _ (b7J (.ref z) (.ref t.objs.size) >>= _) _ _ _;refine zZ ?_;unfold b7J;have y6:ge (t.push { cls:=.type "tuple", data:=.seq (y9 [x,y]) }) z TI TO .ellipsis:=zW _ L;refine zZ (db y6 (by simp) λg7 q g=>?_);replace q:ge g7 z TI TO (dZl t.objs.size):=q;refine db q (by simp) λU f j=>?_;replace f:ge U z TI TO (dZl t.objs.size):=f;have r:∀c o,c≠z->t.get? c=am o->U.get? c=am o:=λc o Y e=>j.extBut _ _ Y (g.extBut _ _ Y (zW _ e));have M:ed U t.objs.size x y:=j.extBut _ _ (a9Q u) (g.extBut _ _ (a9Q u) (yZ _ rfl));have B:U.objs.size=t.objs.size+1:=by rw[j.1,g.1,a9Z]
 rw[hsz] at f M B;refine zY #[_,rfl,?_];show Q (.ref t.objs.size) _;rw[hsz];exact hQ U _ x y rx ry f (r _ _ D.tz i) (X _ _ Lu λc hc o e=>r c o (D.f1 c hc).1 e) (zo _ _ Lv λc hc o e=>r c o (D.f2 c hc).1 e) M B λc o Y Z S m e=>r c o Y (k5 c o Y Z S m e)
theorem gS (D:ZAp z TI TO i1 i2 F1 F2) (j:FN F1 S1) (n1:NxE prog w A i1 S1) (hz:ge s.heap z TI TO .none) (k:ed s.heap TI (.ref i1) (.ref i2)) (q:ed s.heap TO a b) (h1:S1 s.heap) (hE:∀h' e tk,(∀c o,c≠z->c≠TO->c≠i1->c≠i2->s.heap.get? c=am o->h'.get? c=am o)->(∃o,h'.get? e=am o/\o.cls = .type "StopIteration")->E (.ref e) { s with heap:=h',toks:=tk }) :
   wpAny (model prog w) A (Builtin.«zip.__next__» #[[.ref z],[]]) Q E s:=by
 show wpAny _ _ (iv (.ref z) 2 >>= _) _ _ _;refine zZ (bf hz rfl (x:=.bool ay) rfl ?_);show wpAny _ _ (iv (.ref z) 3 >>= _) _ _ _;refine zZ (bf hz rfl (x:=.ref TI) rfl ?_);refine zZ (c4 k rfl ?_);show wpAny _ _ (a3X (.ref z) >>= _) _ _ _;refine zZ ?_;unfold a3X;refine zZ (bf hz rfl (x:=.none) rfl (zY ?_));simp only[if_true];refine zZ (dc ?_);refine zZ (bf hz rfl (x:=.ref TO) rfl ?_);refine zZ (db hz (by simp) λn p N=>?_);replace p:ge n z TI TO .ellipsis:=p;refine zZ ?_;simp only[List.forIn_cons,List.forIn_nil,List.zipIdx_cons,List.zipIdx_nil];refine zZ (zZ (fk ?_));show wpAny _ _ (a2Z (.ref i1) >>= _) _ _ _;refine zZ (n1 _ _ _ (j _ _ h1 λc hc o e=>N.extBut _ _ (D.f1 c hc).1 e) λi e J r=>?_);obtain⟨f,X,t⟩:=r;have g:ge i z TI TO .ellipsis:=J _ _ D.az.symm p;have h:e≠z:=λx=>by subst x;rw[g] at X;cases X;simp at t
 exact db g (by simp) λm _ G=>hE m e _ (λc o Y _ S _ x=>G.extBut _ _ Y (J _ _ S (N.extBut _ _ Y x))) #[f,G.extBut _ _ h X,t]
theorem gT (D:ZAp z TI TO i1 i2 F1 F2) (O:FN F1 S1) (I:FN F2 S2) (n1:NxI prog w A i1 S1 sk R1) (v:NxE prog w A i2 S2) (hz:ge s.heap z TI TO .none) (M:ed s.heap TI (.ref i1) (.ref i2)) (B:ed s.heap TO a b) (h1:S1 s.heap) (k:S2 s.heap) (hE:∀h' e tk,(∀c o,c≠z->c≠TO->c≠i1->c≠i2->s.heap.get? c=am o->h'.get? c=am o)->(∃o,h'.get? e=am o/\o.cls = .type "StopIteration")->E (.ref e) { s with heap:=h',toks:=tk }) :
   wpAny (model prog w) A (Builtin.«zip.__next__» #[[.ref z],[]]) Q E s:=by
 show wpAny _ _ (iv (.ref z) 2 >>= _) _ _ _;refine zZ (bf hz rfl (x:=.bool ay) rfl ?_);show wpAny _ _ (iv (.ref z) 3 >>= _) _ _ _;refine zZ (bf hz rfl (x:=.ref TI) rfl ?_);refine zZ (c4 M rfl ?_);show wpAny _ _ (a3X (.ref z) >>= _) _ _ _;refine zZ ?_;unfold a3X;refine zZ (bf hz rfl (x:=.none) rfl (zY ?_));simp only[if_true];refine zZ (dc ?_);refine zZ (bf hz rfl (x:=.ref TO) rfl ?_);refine zZ (db hz (by simp) λm p N=>?_);replace p:ge m z TI TO .ellipsis:=p;refine zZ ?_;simp only[List.forIn_cons,List.forIn_nil,List.zipIdx_cons,List.zipIdx_nil];refine zZ (zZ (fk ?_));show wpAny _ _ (a2Z (.ref i1) >>= _) _ _ _;refine zZ (n1 _ _ _ (O _ _ h1 λc hc o e=>N.extBut _ _ (D.f1 c hc).1 e) λf U x rx x2 J=>zY ?_);have n:ed f TO a b:=J.extBut _ _ D.ta (N.extBut _ _ D.tz B);refine zZ (c4 n rfl ?_);refine zZ (ix n λL p3 G=>?_);refine zZ (wpAny_letGo (zY ?_));refine zZ (zZ (fk ?_));show wpAny _ _ (a2Z (.ref i2) >>= _) _ _ _;refine zZ (v _ _ _ (I _ _ k λc hc o e=>G.extBut _ _ (D.f2 c hc).2.1 (J.extBut _ _ (D.f2 c hc).2.2 (N.extBut _ _ (D.f2 c hc).1 e))) λg e i q=>?_);obtain⟨y,X,t⟩:=q;have u:ge g z TI TO .ellipsis:=i _ _ D.bz.symm (G.extBut _ _ D.tz.symm (J.extBut _ _ D.az.symm p));have h:e≠z:=λx=>by subst x;rw[u] at X;cases X;simp at t
 exact db u (by simp) λj _ T=>hE j e _ (λc o Y Z S r x=>T.extBut _ _ Y (i _ _ r (G.extBut _ _ Z (J.extBut _ _ S (N.extBut _ _ Y x))))) #[y,T.extBut _ _ h X,t]
theorem gU (D:ZAp z TI TO i1 i2 F1 F2) (v:FN F1 S1) (U:FN F1 sk) (T:FN F2 S2) (O:FN F2 vz) (n1:∀A:bv,NxI prog w A i1 S1 sk R1) (q:∀A:bv,NxI prog w A i2 S2 vz R2) (hz:ge s.heap z TI TO .none) (N:ed s.heap TI (.ref i1) (.ref i2)) (I:ed s.heap TO a b) (h1:S1 s.heap) (i:S2 s.heap) (m:∀h,sk h->i1 < h.objs.size) (p:∀h,vz h->i2 < h.objs.size) (r:∀h' tk x y,R1 x->R2 y->ge h' z TI TO (dZl s.heap.objs.size)->ed h' TO x y->sk h'->vz h'->ed h' s.heap.objs.size x y->h'.objs.size=s.heap.objs.size+1 ->(∀c o,c≠z->c≠TO->c≠i1->c≠i2->s.heap.get? c=am o->h'.get? c=am o)->Q (am (.ref s.heap.objs.size)) { s with heap:=h',toks:=tk }) :
   wpAny (model prog w) A (pyNext (.ref z)) Q E s:=by
 have u:s.TypeIs (.ref z) "zip" := #[_,hz,rfl]
 unfold pyNext;exact zZ (wpAny_attempt (wpAny_callSpecial?_slot (name:=a0Q "__next__") u F.slot_zip_next (ce F.slot_zip_next u F.entry_zip_next (gR D v U T O (n1 _) (q _) hz N I h1 i m p λh' tk x y k e t M j n f B g=>zY (r h' tk x y k e t M j n f B g)) (F.args_zip_next_1 _))))
theorem gV (hh:A.handled=ap) (hz:ge s.heap z TI TO .none) (h:∀(n:Fin->ax->Prop) (G:aw->ax->Prop),(∀h' e tk,(∀c o,c≠z->c≠TO->c≠i1->c≠i2->s.heap.get? c=am o->h'.get? c=am o)->(∃o,h'.get? e=am o/\o.cls = .type "StopIteration")->G (.ref e) { s with heap:=h',toks:=tk }) ->∀t:bv,t.handled=ap->wpAny (model prog w) t (Builtin.«zip.__next__» #[[.ref z],[]]) n G s) (i:∀h' tk,(∀c o,c≠z->c≠TO->c≠i1->c≠i2->s.heap.get? c=am o->h'.get? c=am o)->Q ap { s with heap:=h',toks:=tk }):wpAny (model prog w) A (pyNext (.ref z)) Q E s:=by
 have u:s.TypeIs (.ref z) "zip" := #[_,hz,rfl]
 unfold pyNext;refine zZ (wpAny_attempt (wpAny_callSpecial?_slot (name:=a0Q "__next__") u F.slot_zip_next (ce F.slot_zip_next u F.entry_zip_next (h _ _ (λh' e tk hk r=>?_) _ ?_) (F.args_zip_next_1 _))));. obtain⟨o,ho,hc⟩:=r;refine zZ (wpAny_isInstance (T:= "StopIteration") (b:=av) #[o,ho,hc] isSubtype_stop ?_);exact zY (i _ _ hk)
 . exact hh
end
end L2
namespace L2
open PySem PySem.Spec PyProof.Rows
section
variable {prog:bh}{w:bd}{A:bv}{E:aw->ax->Prop}{s:ax}
theorem mN (hx:x.cps[k]?=am c):NxI prog w A i (λh=>h.IsStrIter i "str_ascii_iterator" x t k) (λh=>h.IsStrIter i "str_ascii_iterator" x t (k+1)) (λv=>RelV (.str #[(y9 [c])]) v):=
 λs Q E hit e=>wpAny_nextOf_ascii_item hit hx λp a b=>e p _ _ #[_,rfl] a b
theorem gW (hh:A.handled=ap) (hx:x.cps[k]?=ap):NxE prog w A i (λh=>h.IsStrIter i "str_ascii_iterator" x t k):=
 λs Q E hit hE=>wpAny_nextOf_ascii_end hh hit hx hE
theorem mO (e:t≠i) (hx:items[k]?=am y):NxI prog w A i (λh=>h.IsTupleIter i t k/\h.IsTuple t items) (λh=>h.IsTupleIter i t (k+1)/\h.IsTuple t items) (λv=>v=y):=λs Q E hS n=>by obtain⟨hit,u⟩:=hS;obtain⟨o,ho,hc,hd⟩:=id hit;obtain⟨p,X,c,m,r⟩:=id u;unfold a2Z;refine zZ (wpAny_callSpecial?_slot (name:=a0Q "__next__") hit.typeIs a6Q (ce a6Q hit.typeIs b8Q ?_ (b7Z _)));show wpAny _ _ (iv (.ref i) 0 >>= _) _ _ s;refine zZ (bf ho hd (x:=.ref t) rfl ?_);show wpAny _ _ (if (a0X t==a0V)=av then _ else _) _ _ s;rw[if_neg (show ¬((a0X t==a0V)=av) from nft)];show wpAny _ _ (iv (.ref i) 1 >>= _) _ _ s;refine zZ (bf ho hd (x:=.int k 0) rfl ?_);show wpAny _ _ (seqItems? (.ref t) >>= _) _ _ s;refine zZ (c4 X r ?_);simp only[a2W,hx];refine zZ (dV ho hd (by simp) (zY #[y,rfl,zY (n _ s.toks y rfl #[?_,u.extBut (b5Z ..).extBut e] (b5Z ..))]));exact#[_,a3Q _ ho (Obj.isFreed_of_fields (b0V hd _)),(Obj.cls_mapFields ..).trans hc,by rw[b0V hd];simp[dZl]]
abbrev Q5 (v:aw) (o:cr) (Pre:ca->Prop):Prop:=∀(prog:bh) (w:bd) (A:bv) (E:aw->ax->Prop) (s:ax) (Q:aw->ax->Prop),Pre s.heap->Q (.ref s.heap.objs.size) { s with heap:=s.heap.push o }->wpAny (model prog w) A (pyIter v) Q E s
theorem gX (g:x.cps.all (· < 128)=av):Q5 (.str x t) { cls:=.type "str_ascii_iterator", data:=.fields (y9 [.str x t,.int 0 0]) } (λ_=>True):=λprog w A E s Q _ e=>wpAny_pyIter_ascii g e
theorem u9 :Q5 (.ref t) { cls:=.type "tuple_iterator", data:=.fields (y9 [.ref t,.int 0 0]) } (λh=>h.IsTuple t items):=λprog w A E s Q u e=>gm u e
abbrev zH1 (h:ca) (O:cr):Heap:=h.push O
abbrev zH2 (h:ca) (O e:cr):Heap:=(zH1 h O).push e
abbrev zH3 (h:ca) (O e:cr):Heap:=(zH2 h O e).push { cls:=.type "tuple", data:=.seq (y9 [.ref h.objs.size,.ref (zH1 h O).objs.size]) }
abbrev zH4 (h:ca) (O e:cr):Heap:=(zH3 h O e).push { cls:=.type "tuple", data:=.seq (y9 [.none,.none]) }
abbrev zH5 (h:ca) (O e:cr):Heap:=(zH4 h O e).push { cls:=.type "zip", data:=.fields (y9 [.none,.bool ay,.bool ay,.ref (zH2 h O e).objs.size,.ref (zH3 h O e).objs.size]) }
theorem aO (n1:Q5 J O Y) (i:Q5 t e k) (Z:∀h o,k h->k (h.push o)) :
   Meets (Builtin.«zip.__new__» #[[.type "zip", J,t],[]]) (λ_ R s=>Y s.heap/\k s.heap/\R (.ok (.ret (.ref (zH4 s.heap O e).objs.size))) { s with heap:=zH5 s.heap O e }):=
 .of_wp λprog w A R s h=>by
   obtain⟨hp,g,d,p,m⟩:=s;obtain⟨D,n,h⟩:=h;have r:=sub_zip;have X:k (hp.push O):=Z _ _ n
   wp_walk using n1 _ _ _ _ _ _ D,i _ _ _ _ _ _ X
   exact#[_,rfl,h]
theorem gY (n1:Q5 J O Y) (g:Q5 m e k) (b:∀h o,k h->k (h.push o)) (u:O.isFreed=ay) (L:e.isFreed=ay) (h1:Y s.heap) (f:k s.heap) (h:∀h',ge h' (s.heap.objs.size+4) (s.heap.objs.size+2) (s.heap.objs.size+3) .none->ed h' (s.heap.objs.size+2) (.ref s.heap.objs.size) (.ref (s.heap.objs.size+1)) ->
     ed h' (s.heap.objs.size+3) .none .none->h'.get? s.heap.objs.size=am O->h'.get? (s.heap.objs.size+1)=am e->(∀c o,s.heap.get? c=am o->h'.get? c=am o)->Q (.ref (s.heap.objs.size+4)) { s with heap:=h' }) :
   wpAny (model prog w) A (call (.type "zip") [J,m]) Q E s:=by
 refine callType_new F.called_zip (by decide) (F.typeCall_zip_2 _ _) (F.newCall_zip_2 _ _) (λobj=>F.args_object_init_3 obj _ _) F.entry_zip_new (aO n1 g b) #[h1,f,?_];have z1:(zH1 s.heap O).objs.size=s.heap.objs.size+1:=a9Z ..;have n:(zH2 s.heap O e).objs.size=s.heap.objs.size+2:=by rw[a9Z,z1]
 have Z:(zH3 s.heap O e).objs.size=s.heap.objs.size+3:=by rw[a9Z,n]
 have p:(zH4 s.heap O e).objs.size=s.heap.objs.size+4:=by rw[a9Z,Z]
 have t:(zH5 s.heap O e).get? (zH4 s.heap O e).objs.size=am _:=yZ _ rfl;have B:(zH5 s.heap O e).get? (zH3 s.heap O e).objs.size=am _:=zW _ (yZ _ rfl);have r:(zH5 s.heap O e).get? (zH2 s.heap O e).objs.size=am _:=zW _ (zW _ (yZ _ rfl));have i:(zH5 s.heap O e).get? (zH1 s.heap O).objs.size=am e:=zW _ (zW _ (zW _ (yZ _ L)));have j:(zH5 s.heap O e).get? s.heap.objs.size=am O:=zW _ (zW _ (zW _ (zW _ (yZ _ u))));show _/\_;rw[n,Z,p] at t;rw[z1,n] at r;rw[Z] at B;rw[z1] at i;rw[p];exact#[#[_,t,rfl],h _ t r B j i λc o x=>zW _ (zW _ (zW _ (zW _ (zW _ x))))]
end
section
theorem Q6{X:Cx}{pins:List (Addr×cr)}{σ:St}{H:Hp}{s:ax} (I:Inv X pins σ H s) (t:LX X pins H z) (h:SqT X.K H a xs):a≠z:=by
 rintro rfl;rcases h with h | ⟨o,y,n,hk,_⟩
 . rcases h with h | ⟨N,h⟩ <;> rw[t.1] at h <;> cases h
 . have e:=I.ok.mod.kin a o hk;rcases t.2.2.2.1 with z | z;. exact I.ok.noex a o e z
   . exact absurd (zP (zM e) (zN I.ok.bsz z)) (yF _)
end
end L2
namespace L2
open PySem PySem.Spec PyProof.Rows
section
variable {X:Cx}
def A3W:R2:=λx y H Q=>(y = .non/\Q (.bl (decide (x = .non))) H)\/∃a b:Bool,x = .bl a/\y = .bl b/\Q (.bl (a==b)) H
theorem mP:OpR X (bj .Is) A3W:=by
 intro pins s e H x y v u Q I L Z h;rcases h with h | ⟨a,b,rfl,rfl,q⟩
 . exact A0l pins s e H x y v u Q I L Z h
 . cases L;cases Z;refine wpAny_is_plain rfl #[.bl (a==b),H,I,?_,q];cases a <;> cases b <;> rfl
def zK:R2:=λx y H Q=>(y = .non/\Q (.bl (!decide (x = .non))) H)\/∃a b:Bool,x = .bl a/\y = .bl b/\Q (.bl (!(a==b))) H
theorem dB:OpR X (bj .IsNot) zK:=by
 intro pins s e H x y v u Q I L Z h;rcases h with h | ⟨a,b,rfl,rfl,q⟩
 . exact rW pins s e H x y v u Q I L Z h
 . cases L;cases Z;refine wpAny_isNot_plain rfl #[.bl (!(a==b)),H,I,?_,q];cases a <;> cases b <;> rfl
end
end L2
namespace DL
open PySem PySem.Spec L2
section
variable {K:Frg}{ρ:List (Option DS)}{M:Own}{Q:DS->Own->Prop}{QI:List PyData->Own->Prop}
theorem ID (q:Q (.d (.bool (DW d))) M):D2 K A3W (.d d) (.d .none) M Q:=F0 (A1W q)
theorem mQ (q:Q (.d (.bool (!DW d))) M):D2 K zK (.d d) (.d .none) M Q:=F0 (tV q)
def DPs (K:Frg) (X:List (TE×TE)) (ρ:List (Option DS)) (M:Own) (Q:List (Str×PyData)->Own->Prop):Prop:=∀(t:St) (H:Hp) (QQ:List (V×V)->Hp->Prop),Rel K M ρ t H->(∀e H' u i,OA K H' i->(∃n,DVs K H' i.W (u.map (·.2)) n/\e=(u.map λk=>V.str k.1).zip n)->Step K M i H H'->Q u i->QQ e H')->UO X t H QQ
theorem uA {Q:List (Str×PyData)->Own->Prop}(h:Q [] M):DPs K [] ρ M Q:=λe H QQ R k=>k [] H [] M R.own #[[],DVs.nil,rfl] Step.refl h
theorem XN {Q:List (Str×PyData)->Own->Prop}(h:DE K tk ρ M λx M1=>∃k,x = .d (.str k)/\DE K p ρ M1 λy T=>∃d,y = .d d/\DPs K X ρ T λt e=>Q ((k,d)::t) e):DPs K ((tk,p)::X) ρ M Q:=λi H QQ R j=>
 h i H _ R λv b x M1 O I o h1=>by obtain⟨k,rfl,h1⟩:=h1;refine h1 i b _ (R.step O o) λu c y T z S r n=>?_;obtain⟨d,rfl,n⟩:=n;refine n i c _ (R.step z (o.trans r)) ?_;rintro G f t e N ⟨B,D,g⟩ m q;refine j _ f ((k,d)::t) e N #[u::B,DVs.cons (DV.grow m.grow S) D,?_] ((o.trans r).trans m) q;rw[BD I,g];rfl
theorem OI:∀(kvs acc:List (Key×V)),((acc++kvs).map (·.1)).Nodup->JA acc kvs=acc++kvs
 | [],acc,_=>by simp[JA]
 | kv::r,acc,h=>by
   have h1:(acc.any λx=>decide (x.1=kv.1))=false:=by rw[List.any_eq_false];intro x hx;rw[xH,List.nodup_append] at h;have:=h.2.2 x.1 (zL.mpr #[x,hx,rfl]) kv.1 (by simp);simpa using this
   show JA (EZ acc kv.1 kv.2) r=_;have e:EZ acc kv.1 kv.2=acc++[kv]:=by unfold EZ;rw[h1];rfl
   rw[e,OI r (acc++[kv]) (by rw[b5J];exact h)];simp
theorem mR :∀{u:List (Str×PyData)}{vs:List V},DVs K H W (u.map (·.2)) vs->DKV K H W (u.map λk=>(.str k.1,k.2)) ((u.map λk=>(a1W k.1:Key)).zip vs)
 | [],vs,h=>by unfold DKV;rfl
 | (k,d)::r,vs,h=>by rw[zI] at h;unfold DVs at h;obtain⟨v,J,rfl,h1,e⟩:=h;rw[zI];unfold DKV;exact#[a1W k,v,_,rfl,rfl,h1,mR e]
theorem XO:∀(u:List (Str×PyData)) (vs:List V),vs.length=u.length->(u.map λk=>V.str k.1).zip vs=((u.map λk=>(a1W k.1:Key)).zip vs).map λkv=>(kV kv.1,kv.2)
 | [],vs,_=>by simp
 | a::r,[],h=>by cases h
 | a::r,v::vs,h=>by rw[zI,zI,b8Z,b8Z,zI,XO r vs (by simpa using h)];rfl
end
end DL
namespace L2
open PySem PySem.Spec PyProof.Rows
section
theorem XQ (t:l≠it):∀(n i:Nat) (s:ax) (Q:List aw->ax->Prop),s.heap.IsListIter it l i->s.heap.IsList l y->i+n<=y.size ->(∀h',h'.IsListIter it l (i+n)->Heap.SameBut it s.heap h'->Q ((y.toList.drop i).take n) { s with heap:=h' })->wpAny (model prog w) A (draw (.ref it) n) Q E s
 | 0,i,s,Q,hit,_,_,e=>by show wpAny _ _ (pure []) Q E s;exact zY (by simpa using e s.heap hit (Heap.SameBut.refl ..))
 | n+1,i,s,Q,hit,m,hle,e=>by
   have o:i < y.size:=by lia
   show wpAny _ _ (pyNext (.ref it) >>= _) Q E s;refine zZ (wpAny_pyNext_list_item hit m (x:=y[i]) (by simp[o]) λc b N=>?_);refine zZ (bq (XQ t n (i+1) _ _ b (m.extBut N.extBut t) (by lia) λp k J=>zY ?_));have hd:y.toList.drop i=y[i]::y.toList.drop (i+1):=by simp[List.drop_eq_getElem_cons,o]
   have r:=e p (by rw[show i+(n+1)=i+1+n by lia];exact k) (N.trans J);rw[hd,List.take_succ_cons] at r;exact r
theorem aP (hh:A.handled=ap) (m:s.heap.IsList l y) (n:∀h',Heap.ExtBut s.heap.objs.size s.heap h'->Q y.toList { s with heap:=h' }):wpAny (model prog w) A (unpackItems (.ref l) y.size ap) Q E s:=by
 have t:l≠s.heap.objs.size:=by obtain⟨o,ho,_⟩:=m;exact zC (zM ho)
 unfold unpackItems;refine zZ ?_;unfold notIterableAtAll;refine zZ (wpAny_specialOf m.typeIs F.slot_list_iter.lookup ?_);refine zY ?_;simp only[b4Q,if_false];refine zZ (bq (wpAny_pyIter_list m ?_));refine zZ (bq (XQ t y.size 0 _ _ #[_,yZ _ rfl,rfl,rfl] (m.push _) (by lia) λr i N=>?_));rw[show List.take y.size (List.drop 0 y.toList)=y.toList by rw[List.drop_zero];exact b5X (by simp),if_neg (by simp)];refine zZ (bq (wpAny_pyNext_list_end hh i ((m.push _).extBut N.extBut t) (by simp) λx h=>?_));simp only[Option.isSome_none,b4Q,if_false];exact zY (n x λb o hb e=>h b o hb (N.extBut b o hb (zW _ e)))
end
section
def mS (K:Frg) (n:Nat) (t:TGs):TG:=λv o H Q=>∃a e,v = .ref a/\(SqT K H a e\/SqL K H a e)/\e.length=n/\t e o H Q
theorem uB{X:Cx}{pos:eH} {es:List bn}{k:Nat}{t:TGs}{n:Nat}(hc:X.calm=av) (h:PGs X es t) (hn:(dg es X.env).length=n:=by rfl) (D:(dg es X.env).findIdx? (·.1)=none:=by rfl):PG X (.Tuple es k pos) (mS X.K n t):=by
 intro pins s i H v u Q I r G;obtain⟨a,c,j,hq,m,G⟩:=G;rcases hq with hq | hq;. exact k9 hc h hn D pins s i H v u Q I r #[a,c,j,hq,m,G]
 . subst j;cases r;obtain⟨y,p,q,x⟩:=I.list hq;rw[arm_assign_Tuple];refine zZ (bt ?_);unfold unpack;rw[show(dg es X.env).length=y.toArray.size by simp[hn,<-m,p.length],D];refine zZ (bq (aP (I.ok.hd hc) q.isList λg hx=>?_));have f:Inv X pins i H { s with heap:=g }:=I.kept (t':=s.toks) λb o e=>hx b o (zC (zM e)) e;exact h pins _ i H c _ Q f (by simpa using p) G
end
end L2
namespace DL
open PySem PySem.Spec L2
theorem mT {X:Cx}{K:Frg}{pos:eH}{es:List bn}{k:Nat}{t:TGs}{n:Nat}(hK:X.K=K) (hc:X.calm=av) (h:PGs X es t) (hn:(dg es X.env).length=n:=by rfl) (D:(dg es X.env).findIdx? (·.1)=none:=by rfl):PG X (.Tuple es k pos) (mS K n t):=hK▸uB hc h hn D
section
theorem uC (hn:ds.length=n) (h:DGs K g ds ρ M P):DG K (mS K n g) (.tuple ds) ρ M P:=λt H v QQ R T k=>by unfold DV at T;obtain⟨a,e,rfl,m,hd⟩:=T;exact#[a,e,rfl,.inl m.sq,by rw[hd.length];exact hn,h t H e QQ R hd k]
end
end DL
namespace L2
open PySem PySem.Spec PyProof.Rows PySem.W
section
variable {n:Nat}{lt:Nat->Nat->Bool}
def Good (n:Nat) (lt:Nat->Nat->Bool) {S:Type}(P:S->Prop):KasT S->Prop
 | .ret a=>P a
 | .ask i j k=>i < n/\j < n/\i≠j/\Good n lt P (k (lt i j))
theorem Good.mono {P:S->Prop}(h:∀a,P a->Q a):∀{t:KasT S},Good n lt P t->Good n lt Q t
 | .ret _,g=>h _ g
 | .ask _ _ _,#[a,b,c,g]=>#[a,b,c,Good.mono h g]
theorem Good.bind {P:L->Prop}:∀{t:KasT S},Good n lt (λa=>Good n lt P (f a)) t->Good n lt P (t.bind f)
 | .ret _,g=>g
 | .ask _ _ _,#[a,b,c,g]=>#[a,b,c,Good.bind g]
theorem Good.wp {P:S->Prop} (hc:∀i j (C:Bool->ax->Prop),i < n->j < n->i≠j->C (lt i j) s->cmp i j C s) (hq:∀a,P a->Q a s):∀{t:KasT S},Good n lt P t->t.kasWp cmp Q s
 | .ret a,g=>hq a g
 | .ask i j k,#[a,b,c,g]=>hc i j _ a b c (Good.wp hc hq g)
structure Strict (n:Nat) (lt:Nat->Nat->Bool):Prop where
 irr:∀i,lt i i=ay
 tr:∀i j k,lt i j=av->lt j k=av->lt i k=av
 tot:∀i j,i < n->j < n->i≠j->lt i j=av\/lt j i=av
def Pm (n:Nat) (p:Array Nat):Prop:=p.toList.Perm (a0K n)
theorem Pm.size (h:Pm n p):p.size=n:=by have:=h.length_eq;simpa using this
theorem Pm.bel (h:Pm n p) (hi:i < n):p.getD i 0 < n:=by
 have hs:i < p.size:=by rw[h.size];exact hi
 have:p[i]∈a0K n:=h.mem_iff.mp (by simp);simp only[Array.getD,hs,dite_true];exact List.mem_range.mp this
theorem A1e {l:List Nat}(nd:l.Nodup) {i j:Nat}{hi:i < l.length}{t:j < l.length}(e:l[i]=l[j]):i=j:=by
 rcases b5K i j with h | h | h;. exact absurd e (List.pairwise_iff_getElem.mp nd i j hi t h)
 . exact h
 . exact absurd e.symm (List.pairwise_iff_getElem.mp nd j i t hi h)
theorem Pm.inj (h:Pm n p) (hi:i < n) (o:j < n) (g:i≠j):p.getD i 0≠p.getD j 0:=by
 have t:i < p.size:=by rw[h.size];exact hi
 have x:j < p.size:=by rw[h.size];exact o
 simp only[Array.getD,t,x,dite_true];have nd:p.toList.Nodup:=h.nodup_iff.mpr List.nodup_range;intro e;have e':p.toList[i]'(by simpa using t)=p.toList[j]'(by simpa using x):=by simpa using e
 exact g (A1e nd e')
def Up (lt:Nat->Nat->Bool) (p:Array Nat) (k:Nat):Prop:=∀i j,i < j->j < k->lt (p.getD i 0) (p.getD j 0)=av
def Dn (lt:Nat->Nat->Bool) (p:Array Nat) (k:Nat):Prop:=∀i j,i < j->j < k->lt (p.getD j 0) (p.getD i 0)=av
theorem Q7 (S:Strict n lt) (hp:Pm n p):∀(f m:Nat),1<=m->m+f<=n->Up lt p m ->
   Good n lt (λr=>m<=r/\r<=m+f/\Up lt p r/\(r=m+f\/lt (p.getD r 0) (p.getD (r - 1) 0)=av)) (kas_asc p f m)
 | 0,m,h1,o,t=>#[zR _,zR _,t,.inl rfl]
 | f+1,m,h1,o,t=>by
   unfold kas_asc;refine#[hp.bel (by lia),hp.bel (by lia),hp.inj (by lia) (by lia) (by lia),?_];cases hc:lt (p.getD m 0) (p.getD (m - 1) 0) with
   | true=>exact#[zR _,by lia,t,.inr hc]
   | false=>
     have Y:lt (p.getD (m - 1) 0) (p.getD m 0)=true:=(S.tot _ _ (hp.bel (by lia)) (hp.bel (by lia)) (hp.inj (i:=m - 1) (j:=m) (by lia) (by lia) (by lia))).elim id λz=>by rw[hc] at z;cases z
     dsimp only;rw[if_neg nft];refine(Q7 S hp f (m+1) (by lia) (by lia) λi j g h=>?_).mono (by rintro r ⟨a,b,c,d⟩;exact#[by lia,by lia,c,d.elim (λz=>.inl (by lia)) .inr]);by_cases hjm:j < m;. exact t i j g hjm
     . have e:j=m:=by lia
       subst e;by_cases hi:i=j - 1;. subst hi;exact Y
       . exact S.tr _ _ _ (t i (j - 1) (by lia) (by lia)) Y
theorem TD (S:Strict n lt) (hp:Pm n p):∀(f m:Nat),1<=m->m+f<=n->Dn lt p m ->
   Good n lt (λr=>r.1=p/\r.2.2=0/\m<=r.2.1/\r.2.1<=m+f/\Dn lt p r.2.1) (kas_desc f p m 0)
 | 0,m,h1,o,t=>#[rfl,rfl,zR _,zR _,t]
 | f+1,m,h1,o,t=>by
   unfold kas_desc;refine#[hp.bel (by lia),hp.bel (by lia),hp.inj (by lia) (by lia) (by lia),?_];cases hc:lt (p.getD m 0) (p.getD (m - 1) 0) with
   | true=>
     dsimp only;rw[if_pos rfl,if_neg (yF 0)];refine(TD S hp f (m+1) (by lia) (by lia) λi j g h=>?_).mono (by rintro r ⟨a,b,c,d,e⟩;exact#[a,b,by lia,by lia,e]);by_cases hjm:j < m;. exact t i j g hjm
     . have e:j=m:=by lia
       subst e;by_cases hi:i=j - 1;. subst hi;exact hc
       . exact S.tr _ _ _ hc (t i (j - 1) (by lia) (by lia))
   | false=>
     have Y:lt (p.getD (m - 1) 0) (p.getD m 0)=true:=(S.tot _ _ (hp.bel (by lia)) (hp.bel (by lia)) (hp.inj (i:=m - 1) (j:=m) (by lia) (by lia) (by lia))).elim id λz=>by rw[hc] at z;cases z
     dsimp only;rw[if_neg nft];refine#[hp.bel (by lia),hp.bel (by lia),hp.inj (by lia) (by lia) (by lia),?_];dsimp only;rw[Y,if_pos rfl];exact#[rfl,rfl,zR _,(show m<=_ by lia),t]
theorem P5 {S:Type}{xs ys:Array S}{i j:Nat}{d:S}(h:xs[i]?=ys[j]?):xs.getD i d=ys.getD j d:=by rw[b6J,b6J,h]
theorem mU (hp:Pm n p) (i j:Nat):Pm n (kas_rev p i j):=(Array.perm_iff_toList_perm.mp (mirror_perm _ _ _ _)).trans hp
theorem aQ (S:Strict n lt) (hp:Pm n p) (h1:1<=m) (t:m<=n) (o:Dn lt p m) :
   Good n lt (λr=>1<=r.1/\r.1<=n/\Pm n r.2/\Up lt r.2 r.1) (kas_tail3 m n p):=by
 unfold kas_tail3;refine Good.bind ((Q7 S (mU hp 0 m) (n - m) m h1 (by lia) λi j g h=>?_).mono (by rintro r ⟨a,b,c,_⟩;exact#[by lia,by lia,mU hp 0 m,c]));have f:m<=p.size:=by rw[hp.size];exact t
 have e:∀k,k < m->(kas_rev p 0 m).getD k 0=p.getD (m - 1 - k) 0:=λk hk=>by refine P5 ?_;unfold kas_rev;rw[getElem?_mirror_all (i:=0) f k,if_pos #[xR _,hk],Nat.zero_add]
 rw[e i (by lia),e j (by lia)];exact o _ _ (by lia) (by lia)
theorem SE (S:Strict n lt) (hp:Pm n p) (o:m+1<=n) (t:Dn lt p (m+1)) :
   Good n lt (λr=>1<=r.1/\r.1<=n/\Pm n r.2/\Up lt r.2 r.1) (kas_descPart m n p):=by unfold kas_descPart;refine Good.bind ((TD S hp (n - (m+1)) (m+1) (by lia) (by lia) t).mono λr Y=>?_);obtain⟨a,b,c,d,e⟩:=Y;rw[b,if_neg (yF 0),a];exact aQ S hp (by lia) (by lia) e
theorem aR (S:Strict n lt) (hp:Pm n p) (f:1<=n) :
   Good n lt (λr=>1<=r.1/\r.1<=n/\Pm n r.2/\Up lt r.2 r.1) (kas_count n p):=by
 unfold kas_count;refine Good.bind ((Q7 S hp (n - 1) 1 (zR _) (by lia) λi j g m=>by lia).mono λr Z=>?_);obtain⟨a,b,c,d⟩:=Z;by_cases hr:r=n;. subst hr;rw[if_pos (by simp)];exact#[a,zR _,hp,c]
 . rw[if_neg (by simpa using hr)];have t:lt (p.getD r 0) (p.getD (r - 1) 0)=true:=d.resolve_left (by lia);by_cases h1:r > 1;. rw[if_pos h1];refine#[hp.bel (by lia),hp.bel (by lia),hp.inj (by lia) (by lia) (by lia),?_];dsimp only;rw[c 0 (r - 1) (by lia) (by lia),if_pos rfl];exact#[a,by lia,hp,c]
   . rw[if_neg h1];have e:r=1:=by lia
     subst e;refine SE S hp (by lia) λi j g m=>?_;have o:i=0:=by lia
     have h:j=1:=by lia
     subst o h;exact t
theorem L8 (S:Strict n lt) (hp:Pm n p) (hk:k < n) (hu:Up lt p k):∀(f l r:Nat),l<=r->r<=k->r - l<=f ->(∀i,i < l->lt (p.getD i 0) (p.getD k 0)=av)->(∀i,r<=i->i < k->lt (p.getD k 0) (p.getD i 0)=av) ->
   Good n lt (λx=>x<=k/\(∀i,i < x->lt (p.getD i 0) (p.getD k 0)=av)/\∀i,x<=i->i < k->lt (p.getD k 0) (p.getD i 0)=av) (kas_place p k f l r)
 | 0,l,r,h1,g,y,b,v=>by unfold kas_place;exact#[by lia,b,λi hi t=>v i (by lia) t]
 | f+1,l,r,h1,g,y,b,v=>by
   unfold kas_place;by_cases hge:l≥r;. rw[if_pos hge];exact#[by lia,b,λi hi t=>v i (by lia) t]
   . rw[if_neg hge];have q:l<=(l+r)/2/\(l+r)/2 < r:=by lia
     generalize (l+r)/2=m at q ⊢;obtain⟨u,h⟩:=q;have c:m < k:=zP h g;have o:m < n:=xP c hk;refine#[hp.bel hk,hp.bel o,hp.inj hk o (a9Q c),?_];cases hc:lt (p.getD k 0) (p.getD m 0) with
     | true=>
       dsimp only;rw[if_pos rfl];refine L8 S hp hk hu f l m u (xQ c) (by lia) b λi hi t=>?_;by_cases e:i=m;. subst e;exact hc
       . exact S.tr _ _ _ hc (hu _ _ (Nat.lt_of_le_of_ne hi (a4K e)) t)
     | false=>
       dsimp only;rw[if_neg nft];have Y:lt (p.getD m 0) (p.getD k 0)=true:=(S.tot _ _ (hp.bel o) (hp.bel hk) (hp.inj (i:=m) (j:=k) o hk (zC c))).elim id λz=>by rw[hc] at z;cases z
       refine L8 S hp hk hu f (m+1) r h g (by lia) (λi hi=>?_) v;by_cases e:i=m;. subst e;exact Y
       . exact S.tr _ _ _ (hu _ _ (by lia) (by lia)) Y
theorem XR (S:Strict n lt):∀(f:Nat) {p:Array Nat}{k:Nat},Pm n p->k+f=n->Up lt p k->Good n lt (λq=>Pm n q/\Up lt q n) (kas_bin f p k)
 | 0,p,k,hp,h1,h=>by
   have e:k=n:=by lia
   subst e;exact#[hp,h]
 | f+1,p,k,hp,h1,h=>by
   unfold kas_bin;refine Good.bind ((L8 S hp (by lia) h k 0 k (xR _) (zR _) (by lia) (λi hi=>by lia) λi hi hk=>by lia).mono λx N=>?_);obtain⟨hx,a,b⟩:=N;have O:k < p.size:=by rw[hp.size];lia
   refine XR S f ((Array.perm_iff_toList_perm.mp (bubble_perm _ _ _)).trans hp) (by lia) λi j o I=>?_;have e:∀q,(bubble p k (k - x)).getD q 0=if q=x then p.getD k 0 else if x < q/\q<=k then p.getD (q - 1) 0 else p.getD q 0:=λq=>by
     have:=getElem?_bubble O (k - x) (by lia) q;rw[show k - (k - x)=x by lia] at this;by_cases Y:q=x;. rw[if_pos Y] at this ⊢;exact P5 this
     . rw[if_neg Y] at this ⊢;by_cases Z:x < q/\q<=k;. rw[if_pos Z] at this ⊢;exact P5 this
       . rw[if_neg Z] at this ⊢;exact P5 this
   obtain⟨g,hg⟩:∃g:Nat->Nat,∀i,p.getD i 0=g i:=#[_,λ_=>rfl]
   have u:∀i j,i < j->j < k->lt (g i) (g j)=true:=λi j x y=>by rw[<-hg,<-hg];exact h i j x y
   rw[e,e];simp only[hg] at a b ⊢;clear e;rcases b5K j x with hj' | hj' | hj';. have hi':i < x:=xP o hj';rw[if_neg (zC hi'),if_neg (λz=>Nat.lt_asymm z.1 hi'),if_neg (zC hj'),if_neg (λz=>Nat.lt_asymm z.1 hj')];exact u _ _ o (zP hj' hx)
   . subst hj';rw[if_neg (zC o),if_neg (λz=>Nat.lt_asymm z.1 o),if_pos rfl];exact a _ o
   . obtain⟨t,rfl⟩:∃t,j=t+1:=#[j - 1,by lia]
     have r:t < k:=Nat.lt_of_succ_le (Nat.le_of_lt_succ I);have T:x<=t:=Nat.le_of_lt_succ hj';rw[if_neg (a9Q hj') (c:=t+1=x),if_pos (c:=x < t+1/\t+1<=k) #[hj',r],Nat.add_sub_cancel];rcases b5K i x with hi' | hi' | hi';. rw[if_neg (zC hi'),if_neg (λz=>Nat.lt_asymm z.1 hi')];exact u _ _ (zP hi' T) r
     . rw[if_pos hi'];exact b _ T r
     . obtain⟨m,rfl⟩:∃m,i=m+1:=#[i - 1,by lia]
       have v:m < t:=Nat.lt_of_succ_lt_succ o;rw[if_neg (a9Q hi'),if_pos (c:=x < m+1/\m+1<=k) #[hi',xP v r],Nat.add_sub_cancel];exact u _ _ v r
theorem gZ (S:Strict n lt) (h1:1<=n):Good n lt (λq=>Pm n q/\Up lt q n) (kas_sort n):=by
 unfold kas_sort;refine Good.bind ((aR S (show Pm n _ from .refl _) h1).mono λr Y=>?_);obtain⟨a,b,c,d⟩:=Y;have e:max r.1 1=r.1:=by lia
 rw[e];by_cases hr:r.1 < n;. rw[if_pos hr];exact XR S _ c (by lia) d
 . rw[if_neg hr];have e:r.1=n:=by lia
   rw[e] at d;exact#[c,d]
end
end L2
namespace L2
open PySem PySem.Spec PyProof.Rows PySem.W
def TupsN (h:ca) (vs:List aw) (ns:List Str):Prop:=
 vs.length=ns.length/\∀(i:Nat) (v:aw) (M:Str),vs[i]?=am v->ns[i]?=am M->∃(a:Addr) (o:cr) (e:Array aw) (k:Nat) (t:Tok),v=a0X a/\h.get? a=am o/\o.cls = .type "tuple" /\ o.data = .seq e k/\e[0]?=am (.str M t)
theorem TupsN.keep (t:TupsN h vs ns) (hk:∀b o,o.cls = .type "tuple" -> h.get? b=am o->h'.get? b=am o):TupsN h' vs ns:=#[t.1,λi v M j n=>let #[a,o,c,k,X,h1,r,e,m,p]:=t.2 i v M j n;#[a,o,c,k,X,h1,hk a o e r,e,m,p]]
theorem TupsN.kat :∀{vs:List aw}{ns:List Str},TupsN h vs ns->∃fs,KatTups h vs fs/\fs.length=ns.length/\∀v∈fs,∃x t,v=c0W x t
 | [],[],_=>#[[],trivial,rfl,λv n=>nomatch n]
 | [],_::_,t=>by have:=t.1;simp at this
 | _::_,[],t=>by have:=t.1;simp at this
 | v::vs,M::ns,t=>by obtain⟨a,o,f,k,X,rfl,m,p,b,c⟩:=t.2 0 v M rfl rfl;obtain⟨fs,N,J,G⟩:=TupsN.kat (vs:=vs) (ns:=ns) #[by have:=t.1;simpa using this,λi v M j r=>t.2 (i+1) v M (by simpa using j) (by simpa using r)];exact#[_,KatTups.cons m p b c N,by simp[J],λv n=>(yX.mp n).elim (λe=>#[_,_,e]) (G v)]
section
theorem mV (t:TupsN s.heap vs ns) (nd:ns.Nodup) (hi:i < ns.length) (m:j < ns.length) (G:i≠j) (h:C (decide ((ns.getD i "").cps.toList < (ns.getD j "").cps.toList)) s) :
   kas_ask prog w A (tuples' av) vs i j C s:=by
 unfold kas_ask;have X:=t.1;have g:vs[i]?=am (vs.getD i a0V):=by rw[yU,zV (by lia)];rfl
 have x:vs[j]?=am (vs.getD j a0V):=by rw[yU,zV (by lia)];rfl
 have J:ns[i]?=am (ns.getD i ""):=by rw[yU,zV hi];rfl
 have L:ns[j]?=am (ns.getD j ""):=by rw[yU,zV m];rfl
 have I:ns.getD i "" ≠ ns.getD j "" := λe=>by
   rw[yU,yU,zV hi,zV m] at e;rcases Nat.lt_or_gt_of_ne G with q | q;. exact List.pairwise_iff_getElem.mp nd i j hi m q e
   . exact List.pairwise_iff_getElem.mp nd j i m hi q e.symm
 generalize vs.getD i a0V=v at g ⊢;generalize vs.getD j a0V=u at x ⊢;obtain⟨a,o,c,k,y,rfl,T,Q,N,O⟩:=t.2 i v _ g J;obtain⟨b,Z,f,Y,z,rfl,S,U,M,D⟩:=t.2 j u _ x L;refine kat_lt T N S M ?_;have B:c.toList[0]?=am (.str (ns.getD i "") y):=by rw[a8W];exact O
 have p:f.toList[0]?=am (.str (ns.getD j "") z):=by rw[a8W];exact D
 obtain⟨xr,hx⟩:∃r,c.toList = .str (ns.getD i "") y::r:=by
   cases n:c.toList with
   | nil=>rw[n] at B;cases B
   | cons q r=>rw[n] at B;cases B;exact#[r,rfl]
 obtain⟨yr,hy⟩:∃r,f.toList = .str (ns.getD j "") z::r:=by
   cases n:f.toList with
   | nil=>rw[n] at p;cases p
   | cons q r=>rw[n] at p;cases p;exact#[r,rfl]
 rw[hx,hy,b8Z];refine kat_cons (wpAny_eqBool_str ?_);rw[decide_eq_false I];refine kat_no ?_;show wpAny (model prog w) A (oneLt' av _ _) C (λ_ _=>False) s;exact oneLt_str h
theorem Q8 (ho:s.heap.get? a=am (cE "list" vs.toArray n)) (t:TupsN s.heap vs ns) (nd:ns.Nodup) (U:vs.length < 64) (h:∀p:List Nat,p.Perm (a0K vs.length)->(∀i j,i < j->j < vs.length->(ns.getD (p.getD i 0) "").cps.toList < (ns.getD (p.getD j 0) "").cps.toList) ->
     P (.done (.ret .none)) { s with heap:=sortedHeap s.heap a vs (p.map λi=>vs.getD i a0V).toArray }) :
   wpAny (model prog w) A (Builtin.«list.sort» #[[.ref a],[]]) P E s:=by
 have ha:a < s.heap.objs.size:=zM ho;rw[list_sort_plain];refine zZ (listItems_at ho rfl ?_);refine zZ (listUpdate_at ho rfl ?_ (by rw[zJ,c3];lia) (xR _));obtain⟨N,I⟩:∃N,(s.heap.update a (a5J λ_=>(#[]:Array aw))).get? a=am (cE "list" #[] N):=#[_,get?_update_seq ho (λ_=>#[])]
 refine zZ (seqEpoch_at I rfl (zZ (wpAny_newTuple ?_ (by show vs.length<=_;rw[c3];lia))));refine zZ (g5 (bq ?_) (xR _));have hsz:vs.toArray.size=vs.length:=zJ ..;have D:∀b o,o.cls = .type "tuple" -> s.heap.get? b=am o->(((s.heap.update a (a5J λ_=>(#[]:Array aw))).push (cE "tuple" vs.toArray 0)).push (cE "list" #[] 0)).get? b=am o:=λb o hc q=>by
   have hb:b≠a:=λe=>by subst e;rw[ho] at q;cases q;exact absurd hc (show ¬(Value.type "list"=Value.type "tuple") by decide)
   refine zW _ (zW _ ?_);rw[yB _ _ _ _ hb];exact q
 have Z:(((s.heap.update a (a5J λ_=>(#[]:Array aw))).push (cE "tuple" vs.toArray 0)).push (cE "list" #[] 0)).get? a=am (cE "list" #[] N):=zW _ (zW _ I);show wpAny (model prog w) A _ P E { s with heap:=((s.heap.update a (a5J λ_=>(#[]:Array aw))).push (cE "tuple" vs.toArray 0)).push (cE "list" #[] 0) };dsimp only;by_cases f:vs.toArray.size < 2
 . rw[if_pos f,if_pos f];refine zZ (zY ?_);rw[StateT.run_pure];refine zZ (zY (zZ (seqEpoch_at Z rfl ?_)));have X:(arrOf (SortSt.mk' general' (vs.toArray.zip vs.toArray) #[] 7 ap)).map (·.2)=vs.toArray:=by show(vs.toArray.zip vs.toArray).map (·.2)=vs.toArray;apply Array.toList_inj.mp;rw[Array.toList_map,Array.toList_zip];exact List.map_snd_zip (zR _)
   rw[X];refine zZ (listUpdate_at Z rfl ?_ (xR _) (by rw[zJ,c3];lia));simp only[bne_self_eq_false,b4Q,if_false];have:=h (a0K vs.length) (.refl _) (λi j g r=>by lia);have Y:(a0K vs.length).map (λi=>vs.getD i a0V)=vs:=by
     apply b2X;intro i;rw[zF];by_cases hi:i < vs.length;. rw[xZ hi];simp[hi]
     . rw[a6K (by simp;lia),a6K (by lia)];rfl
   rw[Y] at this;exact zY this
 . rw[if_neg f,if_neg f];have zq:2<=vs.length:=by lia
   have M:=t.keep D;obtain⟨fs,q1,q2,q3⟩:=M.kat;refine zZ (kat_kind (T:=.type "str") q1 (by have:=t.1;lia) (λv hv=>?_) rfl ?_);. obtain⟨x,tt,rfl⟩:=q3 v hv;exact Looks.of_pure rfl
   have hn:vs.length=ns.length:=t.1;have S:Strict vs.length (λi j=>decide (i < vs.length)&&(decide (j < vs.length)&&decide ((ns.getD i "").cps.toList < (ns.getD j "").cps.toList))):=by
     refine#[λi=>?_,λi j k a b=>?_,λi j hi r g=>?_];. simp[List.lt_irrefl]
     . simp only[a1Z,decide_eq_true_eq] at a b ⊢;exact#[a.1,b.2.1,List.lt_trans a.2.2 b.2.2]
     . simp only[a1Z,decide_eq_true_eq,hi,r,true_and];have L:(ns.getD i "").cps.toList≠(ns.getD j "").cps.toList:=λe=>by
         have e':ns.getD i ""=ns.getD j "" := by generalize ns.getD i ""=x at e;generalize ns.getD j ""=y at e;obtain⟨⟨x⟩⟩:=x;obtain⟨⟨y⟩⟩:=y;simp at e;rw[e]
         rw[yU,yU,zV (by lia),zV (by lia)] at e';rcases Nat.lt_or_gt_of_ne g with q | q;. exact List.pairwise_iff_getElem.mp nd i j (by lia) (by lia) q e'
         . exact List.pairwise_iff_getElem.mp nd j i (by lia) (by lia) q e'.symm
       by_cases c:(ns.getD i "").cps.toList < (ns.getD j "").cps.toList;. exact .inl c
       . refine .inr ?_;rcases List.le_iff_lt_or_eq.mp (List.not_lt.mp c) with z | z;. exact z
         . exact absurd z.symm L
   refine zZ (bc (kat_run (ks:=vs) (G:=λp s'=>s'={ s with heap:=((s.heap.update a (a5J λ_=>(#[]:Array aw))).push (cE "tuple" vs.toArray 0)).push (cE "list" #[] 0) }/\Pm vs.length p/\Up _ p vs.length) (Q:=λm s'=>s'={ s with heap:=((s.heap.update a (a5J λ_=>(#[]:Array aw))).push (cE "tuple" vs.toArray 0)).push (cE "list" #[] 0) }/\failedOf m=ap/\∃p:Array Nat,Pm vs.length p/\Up _ p vs.length/\(arrOf m).map (·.2)=List.toArray (p.toList.map λi=>vs.getD i a0V))
     rfl zq U (λp m s' a1 B J u=>#[u.1,J,p,u.2.1,u.2.2,kat_snds rfl B]) ((gZ S (by lia)).wp (λi j C hi r g hC=>?_) λp hp=>#[rfl,hp.1,hp.2])) ?_ λ_ _ e=>e)
   . refine mV M nd (by lia) (by lia) g ?_;simp only[hi,r,decide_true,b9W] at hC;exact hC
   . rintro⟨⟨⟩,m⟩ s' ⟨rfl,hf,p,hp,hu,hm⟩;dsimp only;refine zZ (seqEpoch_at Z rfl ?_);rw[hm];refine zZ (listUpdate_at Z rfl ?_ (xR _) (by
       have z:=hp.length_eq;simp only[xY,a4W] at z;simp only[zJ,zX,a4W];rw[c3];lia));rw[hf];simp only[bne_self_eq_false,b4Q,if_false];refine zY (h p.toList hp λi j g r=>?_);have:=hu i j g r;simp only[a1Z,decide_eq_true_eq] at this;have O:∀k,p.toList.getD k 0=p.getD k 0:=λk=>by rw[yU,b6J,a8W]
     rw[O,O];exact this.2.2
theorem OJ (m:s.heap.IsList l vs.toArray\/s.heap.IsTuple l vs.toArray) (h:Q vs { s with heap:=(s.heap.push (cE "list" #[] 0)).update s.heap.objs.size (a5J (·++vs.toArray)) }) (hsz:vs.length<=aB) :
   wpAny (model prog w) A (collect (.ref l)) Q E s:=by
 rcases m with m | ⟨o,ho,hc,n,hd⟩
 . exact collect_list m h hsz
 unfold collect;refine zZ (wpAny_runValue (codeAny_builtin entry_proto_collect' ?_));show wpAny _ _ (do again (.builtin "list.__iadd__" #[[<-newList [],.ref l],[]])) _ _ s;refine zZ (g5 (zY #[Code.quiet_builtin _ (by decide +kernel),codeAny_builtin entry_list_iadd' ?_]));show wpAny _ _ (Builtin.List.listExtendWith (.ref s.heap.objs.size) (.ref l) (.ref s.heap.objs.size)) _ _ { s with heap:=s.heap.push (cE "list" #[] 0) };unfold Builtin.List.listExtendWith;have f:(s.heap.push (cE "list" #[] 0)).get? l=am o:=zW _ ho;refine zZ (hY (T:= "tuple") #[o,f,hc] ?_);have u:(Value.type "tuple" == Value.type "tuple")=true:=by rfl
 rw[if_pos (by rw[u];simp)];refine zZ (listItems_at f hd ?_);refine zZ (listItems_at (xs:=#[]) (n:=0) (yZ _ rfl) rfl ?_);rw[if_neg (by simp)];refine zZ (listUpdate_at (xs:=#[]) (n:=0) (yZ _ rfl) rfl ?_ (xR _) (by show(#[]++vs.toArray).size<=aB+1;simp only[Array.size_append,zJ,a6J];lia));refine zY ?_;show wpAny (model prog w) A (do
     let o <- load s.heap.objs.size
     match o.data with
     | .seq xs _=>pure xs.toList
     | _=>unsupported "internal:collect") Q E { s with heap:=(s.heap.push (cE "list" #[] 0)).update s.heap.objs.size (a5J (·++vs.toArray)) };refine zZ (wpAny_load (get?_update_seq (yZ _ rfl) _) ?_);show wpAny _ _ (pure ((#[]:Array aw)++vs.toArray).toList) Q E _;rw[show((#[]:Array aw)++vs.toArray).toList=vs by simp];exact zY h
theorem XS (c:s.heap.IsList l vs.toArray\/s.heap.IsTuple l vs.toArray) (t:TupsN s.heap vs ns) (nd:ns.Nodup) (O:vs.length < 64) (h:∀p:List Nat,p.Perm (a0K vs.length)->(∀i j,i < j->j < vs.length->(ns.getD (p.getD i 0) "").cps.toList < (ns.getD (p.getD j 0) "").cps.toList) ->
     Q (.ref (s.heap.objs.size+1)) { s with heap:=sortedAll s.heap vs (p.map λi=>vs.getD i a0V).toArray }) :
   wpAny (model prog w) A (call (.builtin "sorted") [.ref l]) Q E s:=by
 refine b8X kind_sorted plain_sorted entry_sorted (args_sorted1 _) ?_;unfold Builtin.«sorted»;refine zZ (m:=checkCount "sorted" 1 1 _) (zY (zZ (OJ c (zZ (g5 ?_ (by rw[c3];lia))) (by rw[c3];lia))));generalize hH:(s.heap.push (cE "list" #[] 0)).update s.heap.objs.size (a5J (·++vs.toArray))=e;have hsz:e.objs.size=s.heap.objs.size+1:=by rw[<-hH,Heap.size_update,size_push']
 have old:∀b o,s.heap.get? b=am o->(e.push (cE "list" vs.toArray 0)).get? b=am o:=λb o q=>by refine zW _ ?_;rw[<-hH,yB _ _ _ _ (zC (zM q))];exact zW _ q
 have n:(e.push (cE "list" vs.toArray 0)).get? (s.heap.objs.size+1)=am (cE "list" vs.toArray 0):=by rw[<-hsz];exact yZ _ rfl
 show wpAny _ _ _ _ _ { s with heap:=e.push (cE "list" vs.toArray 0) };rw[hsz];refine zZ (bq (ce slot_list_sort #[_,n,rfl] entry_list_sort (Q8 n (t.keep λb o _ q=>old b o q) nd O λp r g=>#[_,rfl,?_]) (args_list_sort _)));have:=h p r g;unfold sortedAll at this;rw[hH] at this;exact zY #[_,rfl,this]
theorem XT{prog:bh}{w:bd}{A:bv}{E:aw->ax->Prop}{s:ax} {ss:List Str}(hh:A.handled=ap) (hd:(d==da)=ay) (dd:s.heap.DictOf (AT prog w) d kvs) (hk:kvs.map (·.1)=ss.map a1W) (B:ss.length < 64) (h:∀(h1 h':ca) (tk:Nat) (out:List aw) (e:Nat) (p:List Str),(∀b o,s.heap.get? b=am o->h1.get? b=am o)->(∀b o,h1.get? b=am o->h'.get? b=am o)->h'.get? h1.objs.size=am (cE "list" out.toArray e)->StrsAre out p->p.Perm ss->sortedS p=av->Q (.ref h1.objs.size) { s with heap:=h',toks:=tk }) :
   wpAny (model prog w) A (call (.builtin "sorted") [.ref d]) Q E s:=by
 refine b8X kind_sorted plain_sorted entry_sorted (args_sorted1 _) ?_;obtain⟨ep,wu⟩:=dd.dictAt;have T:kvs.length=ss.length:=by have:=congrArg b9J hk;simpa using this
 unfold Builtin.«sorted»;refine zZ (m:=checkCount "sorted" 1 1 _) (zY (zZ (kdu_collect (A:=A.in1) (kdl_dict (kvs:=kvs) (ep:=ep) hd) hh wu (by rw[T,c3];lia) λh' tk acc hold G=>?_)));have g:acc.toList.length=ss.length:=by rw[a4W,G.1,T]
 have hS:StrsAre acc.toList ss:=by
   have U:∀(r:List aw) (n:List Str),r.length=n.length->(∀(i:Nat) v x,r[i]?=am v->n[i]?=am x->∃t,v=c0W x t)->StrsAre r n:=by
     intro r;induction r with
     | nil=>intro n c _;cases n with
       | nil=>exact .nil
       | cons _ _=>simp at c
     | cons v r ih=>intro n c I;cases n with
       | nil=>simp at c
       | cons x n=> obtain⟨t,rfl⟩:=I 0 v x rfl rfl;exact .cons x t (ih n (by simpa using c) λi v x j f=>I (i+1) v x (by simpa using j) (by simpa using f))
   refine U _ _ g λi v x j f=>?_;obtain⟨k,y,J,L⟩:=G.2 i v (by rw[<-a8W];exact j);have O:(kvs.map (·.1))[i]?=am k:=by rw[zF,J];rfl
   rw[hk,zF,f] at O;cases O;have D:OD (.inr x) v=true:=L;rcases B5 D with ⟨i,t,e,_⟩ | ⟨z,t,e,e'⟩
   . cases e
   . cases e;exact#[t,e']
 refine zZ (g5 ?_ (by rw[g,c3];lia));have u:(h'.push (cE "list" acc.toList.toArray 0)).get? h'.objs.size=am (cE "list" acc.toList.toArray 0):=yZ _ rfl;show wpAny _ _ _ _ _ { s with heap:=h'.push (cE "list" acc.toList.toArray 0),toks:=tk };refine zZ (bq (ce (s:={ s with heap:=h'.push (cE "list" acc.toList.toArray 0),toks:=tk }) slot_list_sort #[_,u,rfl] entry_list_sort (list_sort_treeK strKind_oneLt u hS.keysOf (λS M rest e=>keyKind_strs (by rw[<-e];exact hS)) (by rw[g];exact B) λN hp hs=>#[_,rfl,?_]) (args_list_sort _)));obtain⟨p,h1,X,Y⟩:=sorted_out_str hS hp hs;obtain⟨e,Z⟩:=sortedHeap_at (out:=(arrOf N).map (·.2)) u;refine zY #[_,rfl,h h' _ tk ((arrOf N).map (·.2)).toList e p hold (λb o q=>?_) (by rw[Array.toArray_toList];exact Z) h1 X Y];have lt:b < h'.objs.size:=zM q;rw[sortedHeap_old (zC lt) (by rw[size_push'];exact b9Z lt)];exact zW _ q
end
end L2
namespace L2
open PySem PySem.Spec PyProof.Rows
def tlD (prog:bh) (w:bd) (A:bv) (n i:bn):im->Addr->(ax->Prop)->ax->Prop:=λenv D P s=>wpAny (model prog w) A (eval n env) (λkv e=>wpAny (model prog w) A (eval i env) (λo t=>wpAny (model prog w) A (dictSet D kv o) (λ_ j=>P j) (λ_ _=>False) t) (λ_ _=>False) e) (λ_ _=>False) s
theorem uD :UR prog w A (.DictComp i b [#[target,iter,ifs,0]] scope pos) target ifs (tlD prog w A i b):=by
 intro U D env R I turn n s h;refine codeAny_loop rfl I (λn s hI=>?_) n h;show wpAny _ A ((compTurn (.DictComp i b [#[target,iter,ifs,0]] scope pos) 0 (.ref U) (.ref D) env).onRaise (λx=>do gl x env;theTreesLotGoes x)) _ _ s;refine wpAny_noted ?_;rw[compTurn_dict];refine zZ (bt (zZ (bc (AL (turn n s hI)) (λr c j=>?_) λ_ _ p=>p)));cases r with
 | none=>exact zY j
 | some v=>
   refine zZ (bc (AL j) (λ_ k e=>?_) λ_ _ p=>p);refine zZ (bc (AL e) (λ_ f Q=>zZ (bc (AL Q) (λok g t=>?_) λ_ _ p=>p)) λ_ _ p=>p);cases ok with
   | false=>exact zY #[rfl,t]
   | true=> exact zZ (zZ (bc (AL t) (λkv q m=>zZ (bq (bc (AL m) (λz u Y=>zZ (bt (bq (bc (AL Y) (λ_ y o=>zY #[rfl,o]) λ_ _ p=>p)))) λ_ _ p=>p))) λ_ _ p=>p))
theorem A1f {n:St} (I:Inv X pins n H s) (e:H a=am (.dK kvs)) (l:kvs.length < aB) (Z:RelV (kV k) u) (b:RelV v r) (h:∀s',Inv X pins n (upd H a (.dK (EZ kvs k v))) s'->Q () s'):wpAny (model X.prog X.w) A (dictSet a u r) Q E s:=by
 obtain⟨z,hd,c,rel,Y⟩:=WX I.hok e;have i:c.length<=sizeLine:=by rw[<-rel.length];exact z
 have m:(EZ kvs k v).length<=sizeLine:=by have:=G7 kvs k v;lia
 refine wpAny_dictSet_pairs (hsz:=i) (KH Z) Y λp t hs=>h _ ?_;have o:∃q,p.get? a=am q:=let #[q,_,_,hq,_]:=t;#[q,hq];exact JX I (by rw[e];exact a8Z) hs o (PV m hd (rel.put k b) t)
def Q9 (f:List (Option Nat)) (U:TI) (g:TG) (q:TT) (tk u:TE):TE:=λn H Q=>U n H λJ o=>∀D,o D=ap->∃W:Nat->Nat->List (Key×V)->Hp->Prop,(∃m,W 0 m [] (upd o D (.dK []))) /\∀i m h t,W i m h t->t D=am (.dK h)/\((J.stop i t/\Q (.ref D) t)\/(J.go i t/\∀x r,J.yld i t x r->g x (capt f n) r λe j=>
   (∀(i:Nat) v,(capt f n)[i]?=am (am v)->e[i]?=am (am v))/\q e j λc p=>if c=av then tk e p λx S=>u e S λy M=>∃G k,x=kV k/\M D=am (.dK G)/\G.length < aB/\∃b,b < m/\W (i+1) b (EZ G k y) (upd M D (.dK (EZ G k y)))
     else ∃G b,b < m/\W (i+1) b G p))
section
variable {X:Cx}{scope:fc}{NC:List Str}{fr:List (Option Nat)}{pins:List (Addr×cr)}{σ:St}{H:Hp}{s:ax}
theorem TF  (hc:X.calm=av) (S:CSc X scope NC fr) (hi:PI X i iter U) (hb:∀(C:Addr) (s:ax) (H:Hp) (f:List Addr) (pn:List (Addr×cr)),PG (AU X scope NC C s H f pn) i g/\PTs (AU X scope NC C s H f pn) ifs c/\PE (AU X scope NC C s H f pn) o tk/\PE (AU X scope NC C s H f pn) p r) (I:Inv X pins σ H s) (hu:X.A.units+1 < ef) (h:Q9 fr U g c tk r σ H Q) (fin:A02 X pins σ use Q QQ) (hs:∀x,bw iter X.env x=pure x) :
   wpAny (model X.prog X.w) X.A (g8 (.DictComp o p [#[i,iter,ifs,0]] scope pos) scope X.env Y newDict ay (eval iter X.env) use) QQ X.xe s:=by refine NE (y0:=[]) (at_:=.dK) (Ty:= "dict") (dt:=.dict #[]) (tl:=tlD X.prog X.w X.A o p) (el:=λD m W e T=>tk e T λx N=>r e N λy M=>∃G k,x=kV k/\M D=am (.dK G)/\G.length < aB/\∃t,t < m/\W t (EZ G k y) (upd M D (.dK (EZ G k y)))) rfl rfl (by size_fits) (λH h b=>PX h b) uD codeAny_compStart_dict hc S hi (λC s H f pn=>#[(hb C s H f pn).1,(hb C s H f pn).2.1,λvy s' σ H' D n W P I q k=>?_]) I h fin hs;refine thn ((hb C s H f pn).2.2.1 _ s' σ H' _ I q) λyk j #[kv,u,v,J,L]=>thn ((hb C s H f pn).2.2.2 _ j σ u _ v L) ?_;rintro yv Cs ⟨vv,Lm,z,B,G,kk,Z,hD,hsz,t,wl,w'⟩;subst Z;exact A1f (X:=AU X scope NC C s H f pn) z hD hsz J B λs' O=>k t _ _ _ wl w' O
theorem mW {e i iter n:bn}{ifs:List bn}{pos:eH}{U:TI}{g:TG}{t:TT}{tk o:TE}(hc:X.calm=av) (hu:X.A.units+1 < ef) (S:CSc X scope NC fr) (hi:PI X n iter U) (hb:∀(C:Addr) (s:ax) (H:Hp) (f:List Addr) (pn:List (Addr×cr)),PG (AU X scope NC C s H f pn) n g/\PTs (AU X scope NC C s H f pn) ifs t/\PE (AU X scope NC C s H f pn) e tk/\PE (AU X scope NC C s H f pn) i o) (hs:∀x,bw iter X.env x=pure x:=by intro _;rfl):PE X (.DictComp e i [#[n,iter,ifs,0]] scope pos) (Q9 fr U g t tk o):=by intro pins s σ H Q I h;rw[arm_eval_DictComp];refine TF (use:=ap) (Q:=Q) hc S hi hb I hu h (λD C H' s' m c r hn q back _ p b=>?_) hs;exact#[.ref D,H',back pins σ H' s' p r b,rfl,q]
end
end L2
namespace L2
open PySem PySem.Spec PyProof.Rows PySem.W
def mX (K:Frg):List V->Hp->VK->Prop:=λn H Q=>∃(p:Addr) (M:List (Addr×Str×List V)),n=[.ref p]/\(SqL K H p (M.map λe=>V.ref e.1)\/SqT K H p (M.map λe=>V.ref e.1))/\(∀e∈M,SqT K H e.1 (.str e.2.1::e.2.2))/\(M.map λe=>e.2.1).Nodup/\M.length < 64 /\∀(t:List (Addr×Str×List V)) (q:Addr),t.Perm M->t.Pairwise (λx y=>x.2.1.cps.toList < y.2.1.cps.toList)->H q=ap->Q (.ref q) (upd H q (.lst (t.map λe=>V.ref e.1)))
def mY:List V->Hp->VK->Prop:=λt H Q=>∃(p:Addr) (kvs:List (Key×V)) (x:List Str),t=[.ref p]/\Rd H p (.dK kvs)/\kvs.map (·.1)=x.map a1W/\x.length < 64 /\∀(e:List Str) (q:Addr),e.Perm x->sortedS e=av->H q=ap->Q (.ref q) (upd H q (.lst (e.map V.str)))
def aS (K:Frg):List V->Hp->VK->Prop:=λt H Q=>lX K t H Q\/mX K t H Q\/mY t H Q
section
theorem TJ:∀{es:List (Addr×Str×List V)}{y:List aw},Vals (es.map λe=>V.ref e.1) y->y=es.map λe=>a0X e.1
 | [],_,.nil=>rfl
 | _::_,_,.cons r t=>by rw[TJ t];cases r;rfl
theorem TK:∀{es:List (Addr×Str×List V)},Vals (es.map λe=>V.ref e.1) (es.map λe=>a0X e.1)
 | []=>.nil
 | _::_=>.cons rfl TK
theorem aT:C7 X (.builtin "sorted") (mX X.K):=by
 intro pins s σ H xs us Q I r h;obtain⟨p,M,rfl,hp,ht,nd,J,q⟩:=h;obtain⟨u,rfl,ru⟩:=J7 r;cases ru;obtain⟨c,O,N⟩:∃c:List aw,Vals (M.map λe=>V.ref e.1) c/\(s.heap.IsList p c.toArray\/s.heap.IsTuple p c.toArray):=by
   rcases hp with hp | hp;. obtain⟨c,O,N,_⟩:=I.list hp;exact#[c,O,.inl N.isList]
   . obtain⟨c,O,N,_⟩:=I.tuple hp;exact#[c,O,.inr N]
 have ei:=TJ O;subst ei;have tn:TupsN s.heap (M.map λe=>a0X e.1) (M.map λe=>e.2.1):=by
   refine#[by simp,λi v nm T D=>?_];rw[zF] at T D;cases f:M[i]? with
   | none=>rw[f] at T;cases T
   | some e=>
     rw[f] at T D;cases T;cases D;obtain⟨js,rj,⟨o,ho,hc,n,hd⟩,_⟩:=I.tuple (ht e (yN f));cases rj with
     | cons r0 _=> obtain⟨t,rfl⟩:=r0;exact#[e.1,o,_,n,t,rfl,ho,hc,hd,by simp]
 refine XS N tn nd (by simpa using J) λz h1 L=>?_;simp only[zX] at h1 L;obtain⟨e,f⟩:=sortedAll_at s.heap (M.map λe=>a0X e.1) (z.map λi=>(M.map λe=>a0X e.1).getD i a0V).toArray;have hn:H (s.heap.objs.size+1)=none:=I.hok.fresh (a4V _);obtain⟨m,S⟩:∃m:List (Addr×Str×List V),m=z.filterMap λi=>M[i]?:=#[_,rfl]
 have B:∀i∈z,i < M.length:=λi hi=>List.mem_range.mp (h1.mem_iff.mp hi);have G:∀(l:List Nat),(∀i∈l,i < M.length)->(l.filterMap λi=>M[i]?)=l.attach.map λi=>M.getD i.1 (0, "", []):=λl=>by
   intro Y;induction l with
   | nil=>rfl
   | cons a l ih=> have U:=Y a (by simp);rw[a2V,zV U];simp only[List.attach_cons,zI,zD];rw[ih λi hi=>Y i (yV _ hi)];simp[yU,zV U]
 have Z:m=z.map λi=>M.getD i (0, "", []):=by rw[S,G z B];simp
 have perm:m.Perm M:=by
   rw[S];refine(h1.filterMap _).trans ?_;rw[show((a0K M.length).filterMap λi=>M[i]?)=M from ?_];apply b2X;intro i;have:((a0K M.length).filterMap λi=>M[i]?)=(a0K M.length).map λi=>M.getD i (0, "", []):=by rw[G _ λi hi=>List.mem_range.mp hi];simp
   rw[this,zF];by_cases hi:i < M.length;. rw[xZ hi];simp[hi]
   . rw[a6K (by simp;lia),a6K (by lia)];rfl
 have outs:(z.map λi=>(M.map λe=>a0X e.1).getD i a0V)=m.map λe=>a0X e.1:=by rw[Z,zD];apply yM;intro i hi;have hi:=B i hi;simp[yU,zF,zV hi]
 have Ma:z.length=M.length:=by have:=h1.length_eq;simpa using this
 have srt:m.Pairwise (λx y=>x.2.1.cps.toList < y.2.1.cps.toList):=by
   rw[Z,b2Q,List.pairwise_iff_getElem];intro i j hi hj be;have:=L i j be (by lia);have g:∀k (hk:k < z.length),(M.map λe=>e.2.1).getD (z.getD k 0) (a0Q "")=(M.getD z[k] (0, "", [])).2.1:=λk hk=>by have Ez:=B z[k] (a3J hk);rw[yU (l:=z),zV hk];simp[yU,zF,zV Ez]
   rw[g i hi,g j hj] at this;exact this
 rw[outs] at f ⊢;refine#[.ref (s.heap.objs.size+1),_,I.laid (t':=s.toks) (o:=.lst (m.map λe=>V.ref e.1)) (λb o eb=>sortedAll_old eb) (a4V _) ?_,rfl,q m _ perm srt hn];refine#[by rw[zX,perm.length_eq];exact zN (xQ J) (by decide),m.map λe=>a0X e.1,e,TK,?_];have S:=f;simpa [cE] using S
theorem aU (hc:X.calm=av):C7 X (.builtin "sorted") mY:=by
 intro pins s v H N T Q I r h;obtain⟨p,kvs,x,rfl,hp,hk,O,q⟩:=h;obtain⟨u,rfl,y⟩:=J7 r;cases y;obtain⟨z,hd,k,rel,Y⟩:=GZ I.hok hp;have f:k.map (·.1)=x.map a1W:=by
   rw[<-hk];clear hk Y z hp q;unfold KV at rel;induction rel with
   | nil=>rfl
   | cons h t g=>simp[h.1,g]
 refine XT (I.ok.hd hc) hd Y f O λh1 h' m out e i B j ho hS b c=>?_;have n:Inv X pins v H { s with heap:=h1,toks:=m }:=I.kept B;have hn:H h1.objs.size=none:=n.hok.fresh (zR _);refine#[.ref h1.objs.size,_,n.laid (t':=m) (o:=.lst (i.map V.str)) (h':=h') j (zR _) ?_,rfl,q i _ b c hn];refine#[by rw[zX,b.length_eq];exact zN (xQ O) (by decide),out,e,cX hS,?_];simpa [cE] using ho
theorem aV (hc:X.calm=av):C7 X (.builtin "sorted") (aS X.K):=by
 intro pins s e H t k Q I r h;rcases h with h | h | h;. exact aD pins s e H t k Q I r h
 . exact aT pins s e H t k Q I r h
 . exact aU hc pins s e H t k Q I r h
end
end L2
namespace DL
open PySem PySem.Spec L2
def AF (ts:List (Str×PyData)):List (PyData×PyData):=ts.map λt=>(a0J t.1,t.2)
def IE (ts:List (Str×PyData)) (k:Str) (d:PyData):List (Str×PyData):=
 if (ts.any λt=>decide (t.1=k))=av then ts.map (λt=>if t.1=k then (t.1,d) else t) else ts++[(k,d)]
def TL (ts:List (Str×PyData)) (k:Str):List (Str×PyData):=ts.filter λt=>decide (t.1≠k)
def BS:List (Str×PyData)->Str->Option PyData
 | [],_=>ap
 | t::r,k=>if t.1=k then am t.2 else BS r k
section
theorem C8 :DKV K H W (AF (t::ts)) ks↔∃v r,ks=(a1W t.1,v)::r/\DV K H W t.2 v/\DKV K H W (AF ts) r:=by
 unfold AF;rw[zI];constructor
 . intro h;unfold DKV at h;obtain⟨k,v,r,e,o,h1,n⟩:=h;cases k with
   | inl i=>cases o
   | inr x=>
     have m:t.1=x:=by simpa [A3A] using o
     subst m;exact#[v,r,e,h1,n]
 . rintro⟨v,r,e,h1,n⟩;unfold DKV;exact#[a1W t.1,v,r,e,rfl,h1,n]
theorem EF :DKV K H W (AF []) ks↔ks=[]:=by unfold AF;simp only[b8J];unfold DKV;exact Iff.rfl
theorem XU:∀{ts:List (Str×PyData)}{ks:List (Key×V)},DKV K H W (AF ts) ks->ks.map (·.1)=(ts.map (·.1)).map a1W
 | [],ks,h=>by rw[EF.mp h];rfl
 | t::ts,ks,h=>by obtain⟨v,r,rfl,_,e⟩:=C8.mp h;simp[XU e]
theorem dC :∀{ts:List (Str×PyData)}{ks:List (Key×V)},DKV K H W (AF ts) ks->(ks.any λkv=>decide (kv.1=a1W k))=ts.any λt=>decide (t.1=k)
 | [],ks,h=>by rw[EF.mp h];rfl
 | t::ts,ks,h=>by
   obtain⟨v,r,rfl,_,n⟩:=C8.mp h;rw[b3V,b3V,dC n];congr 1;by_cases e:t.1=k;. rw[decide_eq_true e,decide_eq_true (by rw[e])]
   . rw[decide_eq_false e,decide_eq_false λq=>e (by injection q)]
theorem QA (hd:DV K H W d v):∀{ts:List (Str×PyData)}{ks:List (Key×V)},DKV K H W (AF ts) ks ->
   DKV K H W (AF (ts.map λt=>if t.1=k then (t.1,d) else t)) (ks.map λkv=>if kv.1=a1W k then (kv.1,v) else kv)
 | [],ks,h=>by rw[EF.mp h];exact EF.mpr rfl
 | t::ts,ks,h=>by
   obtain⟨u,r,rfl,h1,n⟩:=C8.mp h;rw[zI,zI];by_cases e:t.1=k;. rw[if_pos e,if_pos (by rw[e])];exact C8.mpr #[v,_,rfl,hd,QA hd n]
   . rw[if_neg e,if_neg λq=>e (by injection q)];exact C8.mpr #[u,_,rfl,h1,QA hd n]
theorem XV (hd:DV K H W d v):∀{ts:List (Str×PyData)}{ks:List (Key×V)},DKV K H W (AF ts) ks->DKV K H W (AF (ts++[(k,d)])) (ks++[(a1W k,v)])
 | [],ks,h=>by rw[EF.mp h];exact C8.mpr #[v,[],rfl,hd,EF.mpr rfl]
 | t::ts,ks,h=>by obtain⟨u,r,rfl,h1,e⟩:=C8.mp h;exact C8.mpr #[u,_,rfl,h1,XV hd e]
theorem dD (h:DKV K H W (AF ts) ks) (hd:DV K H W d v):DKV K H W (AF (IE ts k d)) (EZ ks (a1W k) v):=by
 unfold IE EZ;rw[dC h];by_cases c:(ts.any λt=>decide (t.1=k))=av;. rw[if_pos c,if_pos c];exact QA hd h
 . rw[if_neg c,if_neg c];exact XV hd h
theorem QC :∀{ts:List (Str×PyData)}{ks:List (Key×V)},DKV K H W (AF ts) ks->DKV K H W (AF (TL ts k)) (M0 ks (a1W k))
 | [],ks,h=>by rw[EF.mp h];exact EF.mpr rfl
 | t::ts,ks,h=>by
   obtain⟨u,r,rfl,h1,o⟩:=C8.mp h;have n:=QC (k:=k) o;unfold TL M0 at n ⊢;by_cases e:t.1=k;. rw[a6V,a6V,if_neg (by simp[e]),if_neg (by simp[e])];exact n
   . rw[a6V,a6V,if_pos (by simpa using e),if_pos (by simp;exact e)];exact C8.mpr #[u,_,rfl,h1,n]
theorem EL :∀{ts:List (Str×PyData)}{ks:List (Key×V)},DKV K H W (AF ts) ks->(∃d v,BS ts k=am d/\GY ks (a1W k)=am v/\DV K H W d v)\/(BS ts k=ap/\GY ks (a1W k)=ap)
 | [],ks,h=>by rw[EF.mp h];exact .inr #[rfl,rfl]
 | t::ts,ks,h=>by
   obtain⟨u,r,rfl,h1,o⟩:=C8.mp h;by_cases e:t.1=k;. exact .inl #[t.2,u,by simp[BS,e],MA (by rw[e]),h1]
   . have e':¬(a1W t.1:Key)=a1W k:=λq=>e (by injection q);rcases EL (k:=k) o with ⟨d,v,n,g,T⟩ | ⟨n,g⟩
     . exact .inl #[d,v,by simp[BS,e,n],by rw[J9 (p:=(a1W t.1,u)) e'];exact g,T]
     . exact .inr #[by simp[BS,e,n],by rw[J9 (p:=(a1W t.1,u)) e'];exact g]
theorem GB:∀{kvs:List (PyData×PyData)}{ks:List (Key×V)},DKV K H W kvs ks->ks.length=kvs.length
 | [],ks,h=>by unfold DKV at h;subst h;rfl
 | (k,d)::r,ks,h=>by unfold DKV at h;obtain⟨_,_,_,rfl,_,_,e⟩:=h;simp[GB e]
end
section
theorem CH (h:DE K td ρ M λx M1=>DE K ty ρ M1 λy T=>∃(a:Addr) (ts:List (Str×PyData)) (k:Str) (d:PyData),x = .loc a/\y = .d (.str k)/\T a=am (.d (AF ts))/\BS ts k=am d/\Q (.d d) T):DE K (kR td ty) ρ M Q:=λo H QQ R z=>
 h o H _ R λv i x M1 O r t h1=>h1 o i _ (R.step O t) λu c y T e I S f=>by
   obtain⟨a,ts,k,d,rfl,rfl,m,l,q⟩:=f;unfold SI at r;subst r;rw[BD I];obtain⟨N,j,b⟩:=e a _ m;rcases EL (k:=k) b with ⟨G,B,n,g,p⟩ | ⟨n,g⟩
   . rw[l] at n;cases n;exact#[a,B,rfl,.inl #[N,a1W k,.inl j,rfl,g.symm],z _ c (.d d) T e p (t.trans S) q]
   . rw[l] at n;cases n
theorem HC (h:DE K td ρ M λx M1=>DE K ty ρ M1 λy T=>∃(ts:List (Str×PyData)) (k:Str) (d:PyData),x = .d (.dict (AF ts))/\y = .d (.str k)/\BS ts k=am d/\Q (.d d) T):DE K (kR td ty) ρ M Q:=λi H QQ R f=>
 h i H _ R λv r x M1 O I e h1=>h1 i r _ (R.step O e) λu c y T N S t b=>by
   obtain⟨ts,k,d,rfl,rfl,l,q⟩:=b;have o:=I.step t;unfold SI DV at o;obtain⟨a,z,rfl,nw,j,p⟩:=o;rw[BD S];rcases EL (k:=k) p with ⟨G,B,n,g,m⟩ | ⟨n,g⟩
   . rw[l] at n;cases n;exact#[a,B,rfl,.inl #[z,a1W k,j,rfl,g.symm],f _ c (.d d) T N m (e.trans t) q]
   . rw[l] at n;cases n
theorem dE (h:DE K ty ρ M λy M1=>DE K td ρ M1 λx T=>∃(a:Addr) (ts:List (Str×PyData)) (k:Str),x = .loc a/\y = .d (.str k)/\T a=am (.d (AF ts))/\Q (.d (.bool (BS ts k).isSome)) T):DE K (A2y ty td) ρ M Q:=λr H QQ R z=>
 h r H _ R λv p x M1 O N i h1=>h1 r p _ (R.step O i) λu c y T t o I f=>by
   obtain⟨a,ts,k,rfl,rfl,m,q⟩:=f;unfold SI at o;subst o;rw[BD N];obtain⟨e,j,b⟩:=t a _ m;refine#[a,GY e (a1W k),rfl,.inl #[e,a1W k,.inl j,rfl,rfl],z _ c _ T t ?_ (i.trans I) q];rcases EL (k:=k) b with ⟨B,G,n,g,S⟩ | ⟨n,g⟩
   . rw[n,g];exact AN
   . rw[n,g];exact AN
theorem DY (h:DE K tv ρ M λz M1=>DE K td ρ M1 λx T=>DE K ty ρ T λy e=>∃(a:Addr) (ts:List (Str×PyData)) (k:Str) (d:PyData),z = .d d/\x = .loc a/\y = .d (.str k)/\e a=am (.d (AF ts))/\ts.length < aB/\D.nx ρ (e.put a (.d (AF (IE ts k d))))):DSt K (yK td ty tv) ρ M D:=λt H E R J k2 k3 k4=>
 h t H _ R λv g z M1 L Y n h1=>h1 t g _ (R.step L n) λu j x T U b o S=>S t j _ (R.step U (n.trans o)) λyv N y e p Z c B=>by
   obtain⟨a,ts,k,d,rfl,rfl,rfl,m,G,q⟩:=B;unfold SI at b;subst b;rw[BD Z];obtain⟨r,I,i⟩:=p a _ m;have hd:DV K N e.W d v:=DV.grow (o.trans c).grow Y;obtain⟨X,t4⟩:=FJ p m (dD (k:=k) i hd);have O:r.length < sizeLine:=by rw[GB i];unfold AF;rw[zX];exact G
   have f:=((n.trans o).trans c).trans t4;exact#[a,_,rfl,.inl #[r,a1W k,I,rfl,O,rfl],J ρ _ t _ (R.step X f) f q]
theorem dF (h:DE K td ρ M λx M1=>DE K ty ρ M1 λy T=>∃(a:Addr) (ts:List (Str×PyData)) (k:Str),x = .loc a/\y = .d (.str k)/\T a=am (.d (AF ts))/\(BS ts k).isSome=av/\D.nx ρ (T.put a (.d (AF (TL ts k))))):DSt K (yO td ty) ρ M D:=λe H E R B U X Y=>
 h e H _ R λv b x M1 O r i h1=>h1 e b _ (R.step O i) λu G y T o N I c=>by
   obtain⟨a,ts,k,rfl,rfl,m,l,q⟩:=c;unfold SI at r;subst r;rw[BD N];obtain⟨f,j,t⟩:=o a _ m;obtain⟨z,S⟩:=FJ o m (QC (k:=k) t);have p:=(i.trans I).trans S;refine#[a,f,a1W k,rfl,j,rfl,?_,B ρ _ e _ (R.step z p) p q];rcases EL (k:=k) t with ⟨L,Z,n,g,J⟩ | ⟨n,g⟩
   . rw[g];rfl
   . rw[n] at l;cases l
theorem V7 (h:DE K td ρ M λx M1=>∃(a:Addr) (I:List (Str×PyData)),x = .loc a/\M1 a=am (.d (AF I))/\DE K ty ρ M1 λy T=>∃(ts:List (Str×PyData)) (k:Str) (d:PyData),y = .d (.str k)/\T a=am (.d (AF ts))/\BS ts k=am d/\Q (.d d) (T.put a (.d (AF (TL ts k))))):DE K (kW td ty) ρ M Q:=λp H QQ R S=>
 h p H _ R λv b x M1 O r o h1=>by
   obtain⟨a,I,rfl,G,h1⟩:=h1;unfold SI at r;subst r;obtain⟨c,j,_⟩:=O a _ G;refine#[a,rfl,.inl #[c,.inl j],h1 p b _ (R.step O o) λu Y y T t L U N=>?_];obtain⟨ts,k,d,rfl,m,l,q⟩:=N;rw[BD L];obtain⟨B,z,e⟩:=t a _ m;rcases EL (k:=k) e with ⟨Z,X,n,g,f⟩ | ⟨n,g⟩
   . rw[l] at n;cases n;obtain⟨J,i⟩:=FJ t m (QC (k:=k) e);exact#[B,a1W k,X,z,rfl,g,S _ _ (.d d) _ J (DV.grow i.grow f) ((o.trans U).trans i) q]
   . rw[l] at n;cases n
theorem mZ (m:M a=am (.d (AF ts))) (O:ts.length < 64) (q:∀ss:List Str,ss.Perm (ts.map (·.1))->xF ss=av->Q (.d (.list (ss.map .str))) M):DR K (aS K) [.loc a] M Q:=λH c QQ t s k=>by obtain⟨v,r,rfl,h1,n⟩:=s;cases n;unfold SI at h1;subst h1;obtain⟨b,j,h⟩:=t a _ m;refine .inr (.inr #[a,b,ts.map (·.1),rfl,.inl j,XU h,by rw[zX];exact O,λe p o i hp=>?_]);have g:Grow K M.W M.W H (upd H p (.lst (e.map V.str))):=B6 _ hp;refine k _ _ (.d (.list (e.map .str))) M (t.new hp) ?_ #[g] (q e o i);unfold SI DV;exact#[p,_,rfl,.inl #[λw=>w (t.none hp),.inl AE],JD]
end
end DL
namespace DL
open PySem PySem.Spec L2
section
variable {X:Cx}{K:Frg}
theorem A1g (h:X.K=K) (hc:X.calm=av):C7 X (.builtin "sorted") (aS K):=h▸aV hc
end
section
theorem n4 (h:k∉ts.map (·.1)):IE ts k d=ts++[(k,d)]:=by unfold IE;rw[if_neg];intro e;obtain⟨t,u,e⟩:=List.any_eq_true.mp e;exact h (zL.mpr #[t,u,by simpa using e])
def JF (f:PyData->Str) (w:PyData->PyData) (ds:List PyData):List (Str×PyData):=ds.foldl (λo d=>IE o (f d) (w d)) []
theorem aW :JF f w (ds++[d])=IE (JF f w ds) (f d) (w d):=a6X ..
theorem h8 :(JF f w ds).length<=ds.length:=by
 have t:∀(ds:List PyData) (o:List (Str×PyData)),(ds.foldl (λo d=>IE o (f d) (w d)) o).length<=o.length+ds.length:=λds=>by
   induction ds with
   | nil=>exact λo=>zR _
   | cons d r e=>
     intro o;refine zN (e _) ?_;have:(IE o (f d) (w d)).length<=o.length+1:=by unfold IE;split <;> simp
     show(IE o (f d) (w d)).length+_<=_;rw[yR];lia
 exact zN (t ds []) (by simp)
theorem n5 (nd:(ds.map f).Nodup):JF f w ds=ds.map λd=>(f d,w d):=by
 have t:∀(ds:List PyData) (o:List (Str×PyData)),(o.map (·.1)++ds.map f).Nodup->ds.foldl (λo d=>IE o (f d) (w d)) o=o++ds.map λd=>(f d,w d):=λds=>by
   induction ds with
   | nil=>intro o _;simp
   | cons d r e=> intro o h;rw[b3W,n4 (λq=>(List.nodup_append.mp h).2.2 _ q _ a0Z rfl),e _ (by simpa using h)];simp
 exact t ds [] nd
theorem TM (ho:JC g T) (hT:∀i∈T,∀j,q[i]?≠am (am j)) (h:DI K wi ρ M λds M1=>ds.length < aB/\∃(c:PyData->Bool) (f:PyData->Str) (w:PyData->PyData),(∀d∈ds,∀v,DG K g d (G8 q ρ) v λo M2=>M2=v/\DT K tt o M2 λb B=>B=v/\b=c d/\(c d=av->DE K tk o B λy M4=>y = .d (.str (f d))/\M4=v/\DE K tv o M4 λz M5=>z = .d (w d)/\M5=v)) /\∀p,M1 p=ap->Q (.loc p) (M1.put p (.d (AF (JF f w (ds.filter c)))))) :
   DE K (Q9 q wi g tt tk tv) ρ M Q:=λσ H QQ R k=>
 h σ H _ R λJ ds H1 M1 U t1 Z dm=>by
   obtain⟨hsz,c,f,w,he,hq⟩:=dm;intro A hA;obtain⟨oA,sA⟩:=Q0 (kvs:=[]) (ks:=[]) U hA (by unfold DKV;rfl);have hM:=U.none hA;let acc:Nat->List (Str×PyData):=λi=>JF f w ((ds.take i).filter c);refine#[λi m ys t=>m=ds.length - i/\i<=ds.length/\t A=am (.dK ys)/\OA K t (M1.put A (.d (AF (acc i))))/\Step K M1 (M1.put A (.d (AF (acc i)))) H1 t,#[_,rfl,xR _,AE,oA,sA],?_];rintro i m ys t ⟨rfl,hi,wt,S,u⟩;refine#[wt,?_];by_cases N:i < ds.length
   . refine .inr #[Z.go i t _ N S u,λx D y=>?_];obtain⟨yl,ff,d,e1,e2⟩:=Z.yld i t _ x D S u N y;have Rc:Rel K (M1.put A (.d (AF (acc i)))) (G8 q ρ) (L2.capt q σ) D:=((R.step U t1).step yl (u.trans ff)).capt;have ts:(ds.take (i+1)).filter c=(ds.take i).filter c++(if c d then [d] else []):=hX c ds i d e1;refine ho _ _ _ _ (he d (yN e1) _ (L2.capt q σ) D x _ Rc e2 λρ3 B r H4 G gu #[eM,b3] hext=>#[λi' v' lj=>?_,?_]);. obtain⟨j,f1,f2⟩:=FE lj;rw[hext i' λhm=>hT i' hm j f1];exact lj
     . subst eM;refine b3 r H4 _ G ?_;rintro b H5 M5 I L ⟨E_,O,h5⟩;subst E_;have sx:=((u.trans ff).trans gu).trans L;cases hb:c d with
       | false=>
         rw[hb] at O;subst O;rw[if_neg nft];obtain⟨ks,X,Y⟩:=I A _ zU;have n:acc (i+1)=acc i:=by show JF f w ((ds.take (i+1)).filter c)=_;rw[ts,hb];simp[acc]
         refine#[ks,ds.length - (i+1),by lia,rfl,N,X,?_,?_];. rw[n];exact I
         . rw[n];exact sx
       | true=>
         rw[hb] at O;subst O;rw[if_pos rfl];refine h5 hb r H5 _ (G.step I L) ?_;rintro y H6 z M6 o6 s6 om ⟨ez,Mc,h6⟩;subst ez Mc;refine h6 r H6 _ ((G.step I L).step o6 om) ?_;rintro y2 H7 z2 M7 o7 s7 xk ⟨Md,Me⟩;subst Md Me;obtain⟨ks,X,Y⟩:=o7 A _ zU;obtain⟨w1,w2⟩:=FJ o7 zU (dD (k:=f d) Y s7);have n:acc (i+1)=IE (acc i) (f d) (w d):=by show JF f w ((ds.take (i+1)).filter c)=_;rw[ts,hb,if_pos rfl,aW]
         have ac:ks.length < sizeLine:=by rw[GB Y];unfold AF;rw[zX];refine zQ (zN h8 (zN (yJ _ _) ?_)) hsz;rw[a1X];lia
         rw[yI] at w1 w2;refine#[ks,a1W (f d),BD s6,X,ac,ds.length - (i+1),by lia,rfl,N,AE,?_,?_];. rw[n];exact w1
         . rw[n];exact((sx.trans om).trans xk).trans w2
   . have e:i=ds.length:=by lia
     subst e;refine .inl #[Z.stop t _ S u,k _ t (.loc A) _ S rfl (t1.trans u) ?_];have:=hq A hM;have n:acc ds.length=JF f w (ds.filter c):=by show JF f w ((ds.take ds.length).filter c)=_;rw[a1Q]
     rw[n];exact this
theorem QD (ho:JC g T) (O:∀i∈T,∀j,n[i]?≠am (am j)) (h:DI K wi ρ M λds M1=>ds.length < aB/\∃(c:PyData->Bool) (f:PyData->Str) (w:PyData->PyData),((ds.filter c).map f).Nodup /\(∀d∈ds,∀t,DG K g d (G8 n ρ) t λe o=>o=t/\DT K u e o λb r=>r=t/\b=c d/\(c d=av->DE K tk e r λy m=>y = .d (.str (f d))/\m=t/\DE K v e m λz N=>z = .d (w d)/\N=t)) /\∀p,M1 p=ap->Q (.loc p) (M1.put p (.d (AF ((ds.filter c).map λd=>(f d,w d)))))) :
   DE K (Q9 n wi g u tk v) ρ M Q:=TM ho O λB H QQ R k=>h B H QQ R (by rintro J ds x M1 I S D ⟨a,c,f,w,nd,b,q⟩;exact k J ds x M1 I S D #[a,c,f,w,b,λp hp=>by rw[n5 nd];exact q p hp])
theorem n6 (h:DA K T ρ M λxs M1=>∃x y,xs=[x,y]/\D.nx ((ρ.set i (am x)).set j (am y)) M1):DSt K (A2n i j T) ρ M D:=λb H E R B _ _ _=>
 h b H _ R λc t xs M1 O n e h1=>by obtain⟨x,y,rfl,q⟩:=h1;obtain⟨v,r,rfl,f,o⟩:=n;obtain⟨w,J,rfl,p,m⟩:=o;cases m;exact#[v,w,rfl,B _ M1 _ t (((R.step O e).set f i).set p j) e q]
end
end DL
namespace DL
open PySem PySem.Spec L2
set_option genInjectivity true
inductive Deed where
 | put (x:Str) (p k:Int) | take (x:Str) | move (x:Str) (p:Int) | count (x:Str) (k:Int) | name (x y:Str) | split (x y:Str) (p k:Int) | join (x y:Str)
def Deed.d:Deed->PyData
 | .put x p k=>.tuple [.str (a0Q "put"),.str x,.int p,.int k]
 | .take x=>.tuple [.str (a0Q "take"),.str x]
 | .move x p=>.tuple [.str (a0Q "move"),.str x,.int p]
 | .count x k=>.tuple [.str (a0Q "count"),.str x,.int k]
 | .name x y=>.tuple [.str (a0Q "name"),.str x,.str y]
 | .split x y p k=>.tuple [.str (a0Q "split"),.str x,.str y,.int p,.int k]
 | .join x y=>.tuple [.str (a0Q "join"),.str x,.str y]
def Deed.names:Deed->List Str
 | .put x _ _=>[x] | .take x=>[x] | .move x _=>[x] | .count x _=>[x] | .name x y=>[x,y] | .split x y _ _=>[x,y] | .join x y=>[x,y]
def Deed.ok (D:Deed):Prop:=∀x∈D.names,CW x
def HD:List (Str×Str):=[("put","npk"),("take","n"),("move","np"),("count","nk"),("name","nn"),("split","nnpk"),("join","nn")]
def QE:PyData->PyData | .str z=>gK (HD.lookup z) | _=>.none
def XW (z:Str):Bool:=z == "name" || z == "split" || z == "join"
def QF:PyData->PyData | .tuple (.str w::r)=>.tuple (r.take (if XW w then 2 else 1)) | d=>d
theorem n8 (h:HD.lookup w=am f):(w = "put" /\ f = "npk")\/(w = "take" /\ f = "n")\/(w = "move" /\ f = "np")\/(w = "count" /\ f = "nk")\/(w = "name" /\ f = "nn")\/(w = "split" /\ f = "nnpk")\/(w = "join" /\ f = "nn"):=by
 unfold HD at h;simp only[a3V,List.lookup_nil] at h;split at h;. rename_i e;exact .inl #[eq_of_beq e,by injection h with h;exact h.symm]
 split at h;. rename_i e;exact .inr (.inl #[eq_of_beq e,by injection h with h;exact h.symm])
 split at h;. rename_i e;exact .inr (.inr (.inl #[eq_of_beq e,by injection h with h;exact h.symm]))
 split at h;. rename_i e;exact .inr (.inr (.inr (.inl #[eq_of_beq e,by injection h with h;exact h.symm])))
 split at h;. rename_i e;exact .inr (.inr (.inr (.inr (.inl #[eq_of_beq e,by injection h with h;exact h.symm]))))
 split at h;. rename_i e;exact .inr (.inr (.inr (.inr (.inr (.inl #[eq_of_beq e,by injection h with h;exact h.symm])))))
 split at h;. rename_i e;exact .inr (.inr (.inr (.inr (.inr (.inr #[eq_of_beq e,by injection h with h;exact h.symm])))))
 cases h
theorem QG (h:HD.lookup w=am f):f.cps.all (· < 128)=av/\f.cps.size<=4/\Txt.startswith f (a0Q "nn")=XW w/\(XW w=av->2<=f.cps.size/\f.cps[0]?=am 110/\f.cps[1]?=am 110)/\1<=f.cps.size:=by rcases n8 h with ⟨rfl,rfl⟩ | ⟨rfl,rfl⟩ | ⟨rfl,rfl⟩ | ⟨rfl,rfl⟩ | ⟨rfl,rfl⟩ | ⟨rfl,rfl⟩ | ⟨rfl,rfl⟩ <;> decide +kernel
def n9 (d:PyData):Prop:=∃w f r,d = .tuple (.str w::r)/\HD.lookup w=am f
theorem nA (D:Deed):n9 D.d:=by cases D <;> exact#[_,_,_,rfl,rfl]
theorem nB (D:Deed):QF D.d = .tuple (D.names.map .str):=by cases D <;> rfl
def aX (d:PyData):Prop:=∃D:Deed,d=D.d/\D.ok
def NJ:FSp:=fn1 (λ_=>True) QE
def L9:FSp:=fn1 n9 QF
def EM (o:MO):Prop:=∃v:Int,o = .l [.int v]
def CI:FSp:=#[λt M=>∃p size o,t=[.loc p,.d (.int size)]/\M p=am o/\EM o/\0 < size/\size < 1073741824,
 λt M y i=>∀p size,t=[.loc p,.d (.int size)]->∃v o,y = .d (.int v)/\0<=v/\v < size/\EM o/\i=M.put p o]
theorem B9 {Q:DS->Own->Prop}(m:M p=am o) (ho:EM o) (h0:0 < size) (h1:size < 1073741824) (q:∀v N,0<=v->v < size->EM N->Q (.d (.int v)) (M.put p N)) :
   [DS.loc p,.d (.int size)].length=2/\CI.pre [.loc p,.d (.int size)] M/\∀x i,CI.post [.loc p,.d (.int size)] M x i->Q x i:=
 #[rfl,#[p,size,o,rfl,m,ho,h0,h1],λx i h=>by obtain⟨v,N,rfl,e,t,n,rfl⟩:=h p size rfl;exact q v N e t n]
theorem BZ (h:CW z):zH (.str z)=true:=FF (FM h) (by simp[a3Z])
def Deed.word:Deed->Str
 | .put .. => "put" | .take .. => "take" | .move .. => "move" | .count .. => "count" | .name .. => "name" | .split .. => "split" | .join .. => "join"
def Deed.fst:Deed->Str
 | .put x _ _=>x | .take x=>x | .move x _=>x | .count x _=>x | .name x _=>x | .split x _ _ _=>x | .join x _=>x
def Deed.rest:Deed->List PyData
 | .put _ p k=>[.int p,.int k] | .take _=>[] | .move _ p=>[.int p] | .count _ k=>[.int k] | .name _ y=>[.str y] | .split _ y p k=>[.str y,.int p,.int k] | .join _ y=>[.str y]
theorem Deed.d_eq (D:Deed):D.d = .tuple (.str D.word::.str D.fst::D.rest):=by cases D <;> rfl
theorem Deed.word_ok (D:Deed):zH (.str D.word)=true:=by cases D <;> (simp only[Deed.word];decide +kernel)
theorem MJ (a b:Str):a0W (.str a) (.str b)=(a==b):=by simp[a0W]
def XX:FSp:=#[λt M=>∃e:List Int,t=[.d (.list (e.map .int))]/\e.length<=63/\∀i∈e,xI i<=2 ^ 20,λt M y n=>y = .d (.bool av)]
theorem nodup_range {f:Nat->Str}(h:∀i j,i < N->j < N->f i=f j->i=j):((a0K N).map f).Nodup:=by unfold List.Nodup;rw[b2Q];exact(List.nodup_range (n:=N)).imp_of_mem λ{a b} g hb t e=>t (h a b (List.mem_range.mp g) (List.mem_range.mp hb) e)
end DL
namespace DL
open PySem PySem.Spec L2
def MK:PyData->PyData->Bool
 | .str s,p=>if s == "n" then CN p else if s == "p" then L5 p else NF p
 | _,p=>NF p
def nC:FSp:=fn2 (λa b=>∃c:Nat,a = .str #[(y9 [c])]/\c < 128/\okD b) λa b=>.bool (MK a b)
def IF (f:Str) (r:List PyData):Bool:=((CU f).zip r).all λp=>MK p.1 p.2
def B3:List PyData->Bool
 | .str w::r=>match HD.lookup w with
   | some f=>(r.length==f.cps.size)&&IF f r&&(!XW w||!a0W (r.getD 0 .none) (r.getD 1 .none))
   | none=>ay
 | _=>ay
def dG:PyData->Bool | .tuple ds=>B3 ds | _=>ay
def okP:PyData->Prop | .tuple ds=>ds.length<=5000/\∀d∈ds,okD d | _=>True
def NK:FSp:=fn1 okP λd=>.bool (dG d)
def A3X:PyData->PyData | .tuple [a,b]=>.bool (MK a b) | d=>d
theorem nD (f:Str) (r:List PyData):((X7 (CU f) r).filter λ_=>av).map A3X=(((CU f).zip r).map λp=>MK p.1 p.2).map .bool:=by rw[flt];unfold X7;rw[zD,zD];rfl
theorem nE (h0:f.cps[0]?=am 110) (h1:f.cps[1]?=am 110) (h:IF f (a::b::r)=av):CN a=av/\CN b=true:=by
 unfold IF at h;rw[b0X] at h;have O:((CU f).zip (a::b::r))[0]?=am (.str #[(y9 [110])],a):=by rw[b8W];exact#[by unfold CU;rw[zF];simp[h0],rfl]
 have j:((CU f).zip (a::b::r))[1]?=am (.str #[(y9 [110])],b):=by rw[b8W];exact#[by unfold CU;rw[zF];simp[h1],rfl]
 have q:∀d,MK (.str #[(y9 [110])]) d=CN d:=λd=>rfl;exact#[by rw[<-q];exact h _ (yN O),by rw[<-q];exact h _ (yN j)]
def XY:PyData->PyData
 | .tuple (.str w::r)=>if w == "put" then r.getD 0 .none else if w == "name" || w == "split" then r.getD 1 .none else .none
 | _=>.none
def TN:FSp:=fn1 aX XY
def Deed.isPut:Deed->Bool | .put ..=>av | _=>ay
def Deed.isNS:Deed->Bool | .name ..=>av | .split ..=>av | _=>ay
theorem nG (D:Deed):(D.word==a0Q "put")=D.isPut:=by cases D <;> (simp only[Deed.word,Deed.isPut];decide +kernel)
theorem A4O (w a b:Str):decide (w∈[a,b])=(w==a||w==b):=by rw[a4J];simp
theorem uE (D:Deed):(D.word==a0Q "name" || D.word==a0Q "split")=D.isNS:=by cases D <;> (simp only[Deed.word,Deed.isNS];decide +kernel)
theorem uF {D:Deed}(h:D.ok):zH (XY D.d)=true:=by
 cases D with
 | put x p k=>exact BZ (h x (by simp[Deed.names]))
 | name x y=>exact BZ (h y (by simp[Deed.names]))
 | split x y p k=>exact BZ (h y (by simp[Deed.names]))
 | _=>rfl
end DL
namespace DL
open PySem PySem.Spec L2
def pcD (p c:Int):PyData:=.tuple [.int p,.int c]
def tsD (ts:List Th):List (Str×PyData):=ts.map λt=>(t.1,pcD t.2.1 t.2.2)
def CD (ts:List Th) (k:Str) (p c:Int):List Th:=if (ts.any λt=>decide (t.1=k))=av then ts.map (λt=>if t.1=k then (t.1,p,c) else t) else ts++[(k,p,c)]
def BU (ts:List Th) (k:Str):List Th:=ts.filter λt=>decide (t.1≠k)
def AA:List Th->Str->Option (Int×Int)
 | [],_=>ap
 | t::r,k=>if t.1=k then am t.2 else AA r k
theorem EG (ts:List Th) (k:Str) (p c:Int):IE (tsD ts) k (pcD p c)=tsD (CD ts k p c):=by
 unfold IE CD tsD;have e:((ts.map λt=>(t.1,pcD t.2.1 t.2.2)).any λt=>decide (t.1=k))=ts.any λt=>decide (t.1=k):=by rw[List.any_map];rfl
 rw[e];split;. rw[zD,zD];apply yM;intro t _;show(if t.1=k then (t.1,pcD p c) else _)=_;simp only[b8V];split <;> rfl
 . simp
theorem JG (ts:List Th) (k:Str):TL (tsD ts) k=tsD (BU ts k):=by unfold TL BU tsD;rw[xT];rfl
theorem AO (k:Str):∀ts:List Th,BS (tsD ts) k=(AA ts k).map λv=>pcD v.1 v.2
 | []=>rfl
 | t::r=>by
   have e:=AO k r;unfold tsD at e ⊢;simp only[zI,BS,AA];split;. rfl
   . exact e
theorem CK :∀{ts:List Th}{v:Int×Int},AA ts k=am v->(k,v)∈ts
 | t::r,v,h=>by
   unfold AA at h;split at h;. rename_i e;cases h;subst e;exact a0Z
   . exact yV _ (CK h)
theorem FO :∀{ts:List Th},AA ts k=ap↔k∉ts.map (·.1)
 | []=>by simp[AA]
 | t::r=>by
   unfold AA;rw[zI,yX];split;. rename_i e;simp[e]
   . rename_i e;rw[FO];constructor;. intro h q;rcases q with q | q;exact e q.symm;exact h q
     . intro h q;exact h (.inr q)
theorem IG :(AA ts k).isSome=decide (k∈ts.map (·.1)):=by
 cases h:AA ts k with
 | none=>rw[decide_eq_false (FO.mp h)];rfl
 | some v=>rw[decide_eq_true (zL.mpr #[_,CK h,rfl])];rfl
theorem AX :∀{ts:List Th},(ts.map (·.1)).Nodup->t∈ts->AA ts t.1=am t.2
 | u::r,nd,h=>by
   unfold AA;rcases yX.mp h with rfl | h;. rw[if_pos rfl]
   . rw[zI,xU] at nd;rw[if_neg λe=>nd.1 (by rw[e];exact zL.mpr #[t,h,rfl])];exact AX nd.2 h
def aY (t:Th):List Th->List Th
 | []=>[t]
 | u::r=>if sl t.1 u.1=av then t::u::r else u::aY t r
def AZ:List Th->List Th
 | []=>[]
 | t::r=>aY t (AZ r)
theorem NL (t:Th):∀ts:List Th,(aY t ts).Perm (t::ts)
 | []=>.refl _
 | u::r=>by
   unfold aY;split;. exact .refl _
   . exact((NL t r).cons u).trans (.swap _ _ _)
theorem BG:∀ts:List Th,(AZ ts).Perm ts
 | []=>.refl _
 | t::r=>(NL t _).trans ((BG r).cons t)
theorem XZ (t:Th):∀{ts:List Th},Ris (ts.map (·.1))->t.1∉ts.map (·.1)->Ris ((aY t ts).map (·.1))
 | [],_,_=>by simp[aY,Ris]
 | u::r,h,hn=>by
   unfold aY;unfold Ris at h;rw[zI,a5X] at h;rw[zI,yX] at hn;split
   . rename_i e;unfold Ris;rw[zI,zI,a5X,a5X];refine#[λx hx=>?_,h];rcases yX.mp hx with rfl | hx;. exact e
     . exact MH e (h.1 x hx)
   . rename_i e;have e':sl t.1 u.1=false:=by simpa using e
     have n:sl u.1 t.1=true:=by
       cases hq:sl u.1 t.1 with
       | true=>rfl
       | false=>exact absurd (FL e' hq) λq=>hn (.inl q)
     unfold Ris;rw[zI,a5X];refine#[λx hx=>?_,XZ t h.2 λq=>hn (.inr q)];have:=((NL t r).map (·.1)).mem_iff.mp hx;rcases yX.mp this with rfl | hx;. exact n
     . exact h.1 x hx
theorem DZ:∀{ts:List Th},(ts.map (·.1)).Nodup->Ris ((AZ ts).map (·.1))
 | [],_=>a7V
 | t::r,nd=>by rw[zI,xU] at nd;exact XZ t (DZ nd.2) λq=>nd.1 (((BG r).map (·.1)).mem_iff.mp q)
theorem QH:∀{as bs:List Th},as.Perm bs->Ris (as.map (·.1))->Ris (bs.map (·.1))->as=bs
 | [],bs,p,_,_=>(List.nil_perm.mp p).symm
 | a::as,[],p,_,_=>by have:=p.length_eq;simp at this
 | a::as,b::bs,p,h1,t=>by
   unfold Ris at h1 t;rw[zI,a5X] at h1 t;have e:a=b:=by
     rcases yX.mp (p.mem_iff.mp (a0Z (a:=a) (l:=as))) with e | e;. exact e
     . rcases yX.mp (p.mem_iff.mpr (a0Z (a:=b) (l:=bs))) with e' | e';. exact e'.symm
       . have B:=h1.1 b.1 (zL.mpr #[b,e',rfl]);have h:=t.1 a.1 (zL.mpr #[a,e,rfl]);rw[Q4 B] at h;cases h
   subst e;rw[QH (List.Perm.cons_inv p) h1.2 t.2]
theorem TQ (p:as.Perm bs) (h:Ris (as.map (·.1))):as=AZ bs:=
 QH (p.trans (BG bs).symm) h (DZ ((p.map (·.1)).nodup_iff.mp h.nodup))
theorem h9 (h:Ris (w.map (·.1))):AZ w=w:=(TQ (.refl w) h).symm
def E6 (ts:List Th) (x:Str) (k:Int):List Th:=match AA ts x with | some v=>CD ts x v.1 (v.2+k) | none=>ts
def doT (ts:List Th):Deed->List Th
 | .put x p k=>CD ts x p k
 | .take x=>BU ts x
 | .move x p=>match AA ts x with | some v=>CD ts x p v.2 | none=>ts
 | .count x k=>E6 ts x k
 | .name x y=>match AA ts x with | some v=>CD (BU ts x) y v.1 v.2 | none=>ts
 | .split x y p k=>CD (E6 ts x (-k)) y p k
 | .join x y=>match AA ts y with | some v=>BU (E6 ts x v.2) y | none=>ts
def Deed.made:Deed->Option Str | .put x _ _=>am x | .name _ y=>am y | .split _ y _ _=>am y | _=>ap
def Deed.apart:Deed->Prop | .name x y=>x≠y | .split x y _ _=>x≠y | .join x y=>x≠y | _=>True
def Deed.placed:Deed->Prop | .put _ p _=>0<=p/\p<=999 | .move _ p=>0<=p/\p<=999 | .split _ _ p _=>0<=p/\p<=999 | _=>True
def Deed.real (D:Deed):Prop:=D.ok/\D.apart/\D.placed
theorem Y0 {D:Deed}(h:D.real):aX D.d:=#[D,rfl,h.1]
def AJ (ns:List Str) (D:Deed):Option Str:=D.names.find? λn=>decide (n∈ns)==decide (D.made=am n)
theorem EN (h:AJ ns D=ap):∀n∈D.names,(n∈ns)↔¬D.made=am n:=λn hn=>by have:=List.find?_eq_none.mp h n hn;by_cases h1:n∈ns <;> by_cases e:D.made=am n <;> simp_all
theorem uG (D:Deed):XY D.d=match D.made with | some x=>.str x | none=>.none:=by cases D <;> rfl
def BV (ts:List Th):Deed->Deed
 | .put x _ _=>.take x
 | .take x=>match AA ts x with | some v=>.put x v.1 v.2 | none=>.take x
 | .move x p=>match AA ts x with | some v=>.move x v.1 | none=>.move x p
 | .count x k=>.count x (-k)
 | .name x y=>.name y x
 | .split x y _ _=>.join x y
 | .join x y=>match AA ts y with | some v=>.split x y v.1 v.2 | none=>.join x y
abbrev tsO (ts:List Th):MO:=.d (AF (tsD ts))
def KK (ts:List Th):Prop:=(ts.map (·.1)).Nodup/\ts.length < 63
def E7:FSp:=#[λt M=>∃w:List Th,t=[.d (wD w)]/\KK w,λt M y i=>∀w:List Th,t=[.d (wD w)]->∃p,M p=ap/\y = .loc p/\i=M.put p (tsO w)]
def E1:FSp:=#[λt M=>∃(p:Addr) (o:List Th) (D:Deed),t=[.loc p,.d D.d]/\M p=am (tsO o)/\D.real/\AJ (o.map (·.1)) D=ap,λt M y i=>y = .d .none/\i=M]
def GC:FSp:=#[λt M=>∃(p:Addr) (o:List Th) (x:Str) (k:Int) (v:Int×Int),t=[.loc p,.d (.str x),.d (.int k)]/\M p=am (tsO o)/\AA o x=am v/\o.length < 64,
 λt M y i=>∀(p:Addr) (o:List Th) (x:Str) (k:Int),t=[.loc p,.d (.str x),.d (.int k)]->M p=am (tsO o)->y = .d .none/\i=M.put p (tsO (E6 o x k))]
def ML:FSp:=#[λt M=>∃(p:Addr) (o:List Th) (D:Deed),t=[.loc p,.d D.d]/\M p=am (tsO o)/\KK o/\D.real/\AJ (o.map (·.1)) D=ap,
 λt M y i=>∀(p:Addr) (o:List Th) (D:Deed),t=[.loc p,.d D.d]->M p=am (tsO o)->y = .d .none/\i=M.put p (tsO (doT o D))]
def goD (w:List Th) (D:Deed):Prop:=KK w/\D.real/\AJ (w.map (·.1)) D=ap
def V8:FSp:=#[λt M=>∃(w:List Th) (D:Deed),t=[.d (wD w),.d D.d]/\goD w D,λt M y i=>∀(w:List Th) (D:Deed),t=[.d (wD w),.d D.d]->y = .d (wD (AZ (doT w D)))/\i=M]
theorem uH (h:thD t=thD u):t=u:=by obtain⟨a,b,c⟩:=t;obtain⟨N,M,e⟩:=u;simp only[thD,PyData.tuple.injEq,List.cons.injEq,PyData.str.injEq,PyData.int.injEq,and_true] at h;obtain⟨rfl,rfl,rfl⟩:=h;rfl
theorem OK:∀{v w:List Th},v.map thD=w.map thD->v=w
 | [],[],_=>rfl
 | [],_::_,h=>by simp at h
 | _::_,[],h=>by simp at h
 | a::v,b::w,h=>by rw[zI,zI,List.cons.injEq] at h;rw[uH h.1,OK h.2]
theorem NM (h:wD v=wD w):v=w:=OK (by unfold wD at h;exact PyData.tuple.inj h)
theorem HE {D:Deed}(h:D.d=E.d):D=E:=by
 cases D <;> cases E <;> simp only[Deed.d,PyData.tuple.injEq,List.cons.injEq,PyData.str.injEq,PyData.int.injEq,and_true,true_and,reduceCtorEq,and_false,false_and,List.nil_eq] at h <;>
   first
   | (obtain⟨_,h⟩:=h;first | (obtain⟨rfl,rfl,rfl,rfl⟩:=h;rfl) | (obtain⟨rfl,rfl,rfl⟩:=h;rfl) | (obtain⟨rfl,rfl⟩:=h;rfl) | (subst h;rfl))
   | (obtain⟨rfl,rfl,rfl,rfl⟩:=h;rfl) | (obtain⟨rfl,rfl,rfl⟩:=h;rfl) | (obtain⟨rfl,rfl⟩:=h;rfl) | (subst h;rfl)
   | exact absurd h.1 (by decide +kernel)
theorem A1h (h:pcD a b=pcD c d):a=c/\b=d:=by simp only[pcD,PyData.tuple.injEq,List.cons.injEq,PyData.int.injEq,and_true] at h;exact h
theorem dH:∀{ts k:List Th},tsO ts=tsO k->ts=k:=by
 intro ts k h;have h:AF (tsD ts)=AF (tsD k):=by injection h
 unfold AF tsD at h;rw[zD,zD] at h;have o:∀(ts k:List Th),ts.map ((λt:Str×PyData=>(a0J t.1,t.2))∘λt:Th=>(t.1,pcD t.2.1 t.2.2))=k.map ((λt:Str×PyData=>(a0J t.1,t.2))∘λt:Th=>(t.1,pcD t.2.1 t.2.2))->ts=k:=by
   intro ts;induction ts with
   | nil=>intro k h;cases k with | nil=>rfl | cons _ _=>simp at h
   | cons t ts r=>
     intro k h;cases k with
     | nil=>simp at h
     | cons u k=> rw[zI,zI,List.cons.injEq] at h;obtain⟨h1,i⟩:=h;simp only[b8V,Prod.mk.injEq,PyData.str.injEq] at h1;obtain⟨j,n⟩:=h1;obtain⟨e,B⟩:=A1h n;rw[r k i];obtain⟨a,b,c⟩:=t;obtain⟨N,M,m⟩:=u;simp only at j e B;rw[j,e,B]
 exact o ts k h
section
variable {M:Own}{Q:DS->Own->Prop}
theorem GN (h:KK w) (q:∀p,M p=ap->Q (.loc p) (M.put p (tsO w))):[DS.d (wD w)].length=1/\E7.pre [.d (wD w)] M/\∀x i,E7.post [.d (wD w)] M x i->Q x i:=#[rfl,#[w,rfl,h],λx i h=>by obtain⟨p,h1,rfl,rfl⟩:=h w rfl;exact q p h1]
theorem Y1 (m:M p=am (tsO ts)) (hr:D.real) (g:AJ (ts.map (·.1)) D=ap) (q:Q (.d .none) M):[DS.loc p,.d D.d].length=2/\E1.pre [.loc p,.d D.d] M/\∀x i,E1.post [.loc p,.d D.d] M x i->Q x i:=#[rfl,#[p,ts,D,rfl,m,hr,g],λx i h=>by obtain⟨rfl,rfl⟩:=h;exact q]
theorem QJ (m:M p=am (tsO ts)) (e:AA ts x=am v) (hz:ts.length < 64) (q:Q (.d .none) (M.put p (tsO (E6 ts x k)))):[DS.loc p,.d (.str x),.d (.int k)].length=3/\GC.pre [.loc p,.d (.str x),.d (.int k)] M/\∀L i,GC.post [.loc p,.d (.str x),.d (.int k)] M L i->Q L i:=#[rfl,#[p,ts,x,k,v,rfl,m,e,hz],λL i h=>by obtain⟨rfl,rfl⟩:=h p ts x k rfl m;exact q]
theorem Y2 (m:M p=am (tsO ts)) (hc:KK ts) (hr:D.real) (g:AJ (ts.map (·.1)) D=ap) (q:Q (.d .none) (M.put p (tsO (doT ts D)))):[DS.loc p,.d D.d].length=2/\ML.pre [.loc p,.d D.d] M/\∀x i,ML.post [.loc p,.d D.d] M x i->Q x i:=#[rfl,#[p,ts,D,rfl,m,hc,hr,g],λx i h=>by obtain⟨rfl,rfl⟩:=h p ts D rfl m;exact q]
theorem hU (h:goD w D) (q:Q (.d (wD (AZ (doT w D)))) M):[DS.d (wD w),.d D.d].length=2/\V8.pre [.d (wD w),.d D.d] M/\∀x i,V8.post [.d (wD w),.d D.d] M x i->Q x i:=#[rfl,#[w,D,rfl,h],λx i h=>by obtain⟨rfl,rfl⟩:=h w D rfl;exact q]
end
end DL
namespace DL
open PySem PySem.Spec L2
theorem Y3 (ds:List PyData):(ds.filter λ_=>av)=ds:=List.filter_eq_self.mpr (by simp)
def A4P:PyData->PyData | .tuple [_,p,c]=>.tuple [p,c] | d=>d
theorem TR:∀{as bs:List Str},as.Perm bs->Ris as->Ris bs->as=bs
 | [],bs,p,_,_=>(List.nil_perm.mp p).symm
 | a::as,[],p,_,_=>by have:=p.length_eq;simp at this
 | a::as,b::bs,p,h1,t=>by
   unfold Ris at h1 t;rw[a5X] at h1 t;have e:a=b:=by
     rcases yX.mp (p.mem_iff.mp (a0Z (a:=a) (l:=as))) with e | e;. exact e
     . rcases yX.mp (p.mem_iff.mpr (a0Z (a:=b) (l:=bs))) with e' | e';. exact e'.symm
       . have B:=h1.1 b e';have h:=t.1 a e;rw[Q4 B] at h;cases h
   subst e;rw[TR (List.Perm.cons_inv p) h1.2 t.2]
def dI (ts:List Th):PyData->PyData
 | .str s=>match AA ts s with | some v=>.tuple [.str s,.int v.1,.int v.2] | none=>.none
 | d=>d
theorem hW (nd:(ts.map (·.1)).Nodup) (p:ss.Perm (ts.map (·.1))) (h:xF ss=av):(ss.map a0J).map (dI ts)=(AZ ts).map thD:=by have r:ss.Nodup:=p.nodup_iff.mpr nd;have e:ss=(AZ ts).map (·.1):=TR (p.trans ((BG ts).map (·.1)).symm) (aL h r) (DZ nd);rw[e,zD,zD];apply yM;intro t u;have:=AX nd ((BG ts).mem_iff.mp u);simp only[b8V,dI,this];rfl
def wT (s:String):PyData:=.str (a0Q s)
theorem A1i (a b c:PyData):B3 [wT "put", a,b,c]=(CN a&&(L5 b&&(NF c&&av))&&av):=rfl
theorem uI (a:PyData):B3 [wT "take", a]=(CN a&&av&&av):=rfl
theorem uJ (a b:PyData):B3 [wT "move", a,b]=(CN a&&(L5 b&&av)&&av):=rfl
theorem nH (a b:PyData):B3 [wT "count", a,b]=(CN a&&(NF b&&av)&&av):=rfl
theorem uK (a b:PyData):B3 [wT "name", a,b]=(CN a&&(CN b&&av)&&(!a0W a b)):=rfl
theorem uL (a b:PyData):B3 [wT "join", a,b]=(CN a&&(CN b&&av)&&(!a0W a b)):=rfl
theorem nI (a b c d:PyData):B3 [wT "split", a,b,c,d]=(CN a&&(CN b&&(L5 c&&(NF d&&av)))&&(!a0W a b)):=rfl
theorem uM {D:Deed}(h:D.real):dG D.d=true:=by
 obtain⟨h1,nd,e⟩:=h;have M:∀x∈D.names,CN (.str x)=true:=λx hx=>mG (h1 x hx);have r:∀x y:Str,x≠y->a0W (.str x) (.str y)=false:=λx y hn=>by simp[a0W,hn]
 have b:∀p:Int,0<=p/\p<=999->L5 (.int p)=true:=λp hp=>by show(decide (0<=p)&&decide (p<=999))=av;rw[decide_eq_true hp.1,decide_eq_true hp.2];rfl
 cases D with
 | put x p k=>show B3 [wT "put", .str x,.int p,.int k]=av;rw[A1i,M x (by simp[Deed.names]),b p e];rfl
 | take x=>show B3 [wT "take", .str x]=av;rw[uI,M x (by simp[Deed.names])];rfl
 | move x p=>show B3 [wT "move", .str x,.int p]=av;rw[uJ,M x (by simp[Deed.names]),b p e];rfl
 | count x k=>show B3 [wT "count", .str x,.int k]=av;rw[nH,M x (by simp[Deed.names])];rfl
 | name x y=>show B3 [wT "name", .str x,.str y]=av;rw[uK,M x (by simp[Deed.names]),M y (by simp[Deed.names]),r x y nd];rfl
 | split x y p k=>show B3 [wT "split", .str x,.str y,.int p,.int k]=av;rw[nI,M x (by simp[Deed.names]),M y (by simp[Deed.names]),r x y nd,b p e];rfl
 | join x y=>show B3 [wT "join", .str x,.str y]=av;rw[uL,M x (by simp[Deed.names]),M y (by simp[Deed.names]),r x y nd];rfl
theorem uN {D:Deed}(h:D.ok):okP D.d:=by
 have e:∀s:Str,(decide (s.cps.size<=5000)&&s.cps.toList.all (λc=>decide (c < 128)))=av->okD (.str s):=λs h=>by simp only[a1Z,decide_eq_true_eq,b0X] at h;exact h
 have u:∀x∈D.names,okD (.str x):=λx hx=>mB (h x hx);cases D <;> (refine#[by simp,?_];simp only[List.forall_mem_cons])
 . exact#[e _ (by decide +kernel),u _ (by simp[Deed.names]),trivial,trivial,by simp]
 . exact#[e _ (by decide +kernel),u _ (by simp[Deed.names]),by simp]
 . exact#[e _ (by decide +kernel),u _ (by simp[Deed.names]),trivial,by simp]
 . exact#[e _ (by decide +kernel),u _ (by simp[Deed.names]),trivial,by simp]
 . exact#[e _ (by decide +kernel),u _ (by simp[Deed.names]),u _ (by simp[Deed.names]),by simp]
 . exact#[e _ (by decide +kernel),u _ (by simp[Deed.names]),u _ (by simp[Deed.names]),trivial,trivial,by simp]
 . exact#[e _ (by decide +kernel),u _ (by simp[Deed.names]),u _ (by simp[Deed.names]),by simp]
theorem uO (D:Deed) (n:Str):a0W (.str n) (XY D.d)=decide (D.made=am n):=by
 rw[uG];cases h:D.made with
 | none=>simp[a0W]
 | some x=>simp only[a0W,Option.some.injEq];rw[a4J];simp;exact eq_comm
theorem i0 (a b:Bool):a0W (.bool a) (.bool b)=(a==b):=by cases a <;> cases b <;> rfl
theorem Y4 (h:x∈ts.map (·.1)):CD ts x p c=ts.map λt=>if t.1=x then (t.1,p,c) else t:=by unfold CD;obtain⟨t,u,e⟩:=zL.mp h;rw[if_pos (List.any_eq_true.mpr #[t,u,by simpa using e])]
theorem MM (h:x∉ts.map (·.1)):CD ts x p c=ts++[(x,p,c)]:=by unfold CD;rw[if_neg];intro e;obtain⟨t,u,e⟩:=List.any_eq_true.mp e;exact h (zL.mpr #[t,u,by simpa using e])
theorem LA (h:x∈ts.map (·.1)):(CD ts x p c).map (·.1)=ts.map (·.1):=by rw[Y4 h,zD];apply yM;intro t _;simp only[b8V];split <;> rfl
theorem BF (h:x∈ts.map (·.1)):∃v,AA ts x=am v:=by
 cases e:AA ts x with
 | none=>exact absurd h (FO.mp e)
 | some v=>exact#[v,rfl]
theorem dJ (h:AA ts x=am v):x∈ts.map (·.1):=zL.mpr #[_,CK h,rfl]
theorem E8 :(E6 ts x k).map (·.1)=ts.map (·.1):=by
 unfold E6;cases e:AA ts x with
 | none=>rfl
 | some v=>exact LA (dJ e)
theorem nJ :(E6 ts x k).length=ts.length:=by have:=congrArg b9J (E8 (ts:=ts) (x:=x) (k:=k));simpa using this
theorem IH {M:Own}{p p':Addr}{ts i:List Th}{D c:Deed}(m:M p=am (tsO ts)) (e:[DS.loc p,.d D.d]=[.loc p',.d c.d]) (b:M p'=am (tsO i)):p=p'/\ts=i/\D=c:=by simp only[List.cons.injEq,DS.loc.injEq,DS.d.injEq,and_true] at e;obtain⟨rfl,e⟩:=e;exact#[rfl,dH (Option.some.inj (m.symm.trans b)),HE e]
theorem II {D:Deed}(e:[DS.d (wD w),.d D.d]=[.d (wD v),.d c.d]):w=v/\D=c:=by simp only[List.cons.injEq,DS.d.injEq,and_true] at e;exact#[NM e.1,HE e.2]
theorem GD (h:ts.length < 64):(tsD ts).length < sizeLine:=by unfold tsD;rw[zX];exact zP h (by decide)
theorem EO (ts:List Th) (x:Str):(BU ts x).map (·.1)=(ts.map (·.1)).filter λn=>decide (n≠x):=by unfold BU;rw[xT];rfl
def V9 (ns:List Str):Deed->List Str
 | .put x _ _=>ns++[x]
 | .take x=>ns.filter λn=>decide (n≠x)
 | .move _ _=>ns
 | .count _ _=>ns
 | .name x y=>(ns.filter λn=>decide (n≠x))++[y]
 | .split _ y _ _=>ns++[y]
 | .join _ y=>ns.filter λn=>decide (n≠y)
theorem MN (g:AJ ns D=ap) (hn:n∈D.names) (e:D.made≠am n):n∈ns:=(EN g n hn).mpr e
theorem LB (g:AJ ns D=ap) (hn:n∈D.names) (e:D.made=am n):n∉ns:=λq=>(EN g n hn).mp q e
theorem NN (hr:D.real) (g:AJ (ts.map (·.1)) D=ap):(doT ts D).map (·.1)=V9 (ts.map (·.1)) D:=by
 cases D with
 | put x p k=> show(CD ts x p k).map (·.1)=_;rw[MM (LB g (by simp[Deed.names]) rfl),xH];rfl
 | take x=>exact EO ts x
 | move x p=> obtain⟨v,t⟩:=BF (MN g (n:=x) (by simp[Deed.names]) (by simp[Deed.made]));simp only[doT,t];exact LA (dJ t)
 | count x k=>exact E8
 | name x y=>
   obtain⟨v,t⟩:=BF (MN g (n:=x) (by simp[Deed.names]) (by simp[Deed.made];exact λe=>hr.2.1 e.symm));simp only[doT,t];have hy:y∉(BU ts x).map (·.1):=by rw[EO];intro q;exact LB g (n:=y) (by simp[Deed.names]) rfl (yL.mp q).1
   rw[MM hy,xH,EO];rfl
 | split x y p k=>
   show(CD (E6 ts x (-k)) y p k).map (·.1)=_;have hy:y∉(E6 ts x (-k)).map (·.1):=by rw[E8];exact LB g (n:=y) (by simp[Deed.names]) rfl
   rw[MM hy,xH,E8];rfl
 | join x y=> obtain⟨v,t⟩:=BF (MN g (n:=y) (by simp[Deed.names]) (by simp[Deed.made]));simp only[doT,t];rw[EO,E8];rfl
theorem VA (nd:ns.Nodup) (g:AJ ns D=ap):(V9 ns D).Nodup:=by
 have c:∀{l:List Str}{y:Str},l.Nodup->y∉l->(l++[y]).Nodup:=λ{l y} h1 t=>by rw[List.nodup_append];exact#[h1,by simp,λa g b hb e=>by simp at hb;subst hb;subst e;exact t g]
 cases D with
 | put x p k=>exact c nd (LB g (by simp[Deed.names]) rfl)
 | take x=>exact nd.sublist a7J
 | move x p=>exact nd
 | count x k=>exact nd
 | name x y=>exact c (nd.sublist a7J) λq=>LB g (n:=y) (by simp[Deed.names]) rfl (yL.mp q).1
 | split x y p k=>exact c nd (LB g (n:=y) (by simp[Deed.names]) rfl)
 | join x y=>exact nd.sublist a7J
theorem QK (ns:List Str) (D:Deed):(V9 ns D).length<=ns.length+1:=by cases D <;> simp only[V9,yY,yR,a6J];all_goals first | lia | exact zN (yJ _ _) (a4V _) | exact Nat.add_le_add_right (yJ _ _) 1
theorem NO (h:goD ts D):((doT ts D).map (·.1)).Nodup/\(doT ts D).length < 64:=by obtain⟨⟨nd,m⟩,hr,g⟩:=h;have e:=NN hr g;refine#[by rw[e];exact VA nd g,?_];have h1:=QK (ts.map (·.1)) D;have t:=congrArg b9J e;simp only[zX] at h1 t;lia
end DL
namespace DL
open PySem PySem.Spec L2
theorem EQ (ts:List Th) (x:Str) (p c:Int) (n:Str):AA (CD ts x p c) n=if n=x then am (p,c) else AA ts n:=by
 by_cases h:x∈ts.map (·.1)
 . rw[Y4 h];induction ts with
   | nil=>simp at h
   | cons t r o=>
     rw[zI];by_cases e:t.1=x
     . rw[if_pos e];unfold AA;by_cases D:n=x;. subst D;rw[if_pos e,if_pos rfl]
       . have j:¬t.1=n:=λq=>D (q.symm.trans e);rw[if_neg j,if_neg D,if_neg j];by_cases hr:x∈r.map (·.1);. rw[o hr,if_neg D]
         . have i:(r.map λt=>if t.1=x then (t.1,p,c) else t)=r:=by
             conv=>rhs;rw[<-b6V r]
             apply yM;intro u hu;rw[if_neg λq=>hr (by rw[<-q];exact zL.mpr #[u,hu,rfl])];rfl
           rw[i]
     . rw[if_neg e];have hr:x∈r.map (·.1):=by rw[zI,yX] at h;exact h.resolve_left λq=>e q.symm
       unfold AA;by_cases j:t.1=n;. rw[if_pos j,if_pos j,if_neg λq=>e (j.trans q)]
       . rw[if_neg j,if_neg j,o hr]
 . rw[MM h];have:∀ts:List Th,x∉ts.map (·.1)->AA (ts++[(x,p,c)]) n=if n=x then am (p,c) else AA ts n:=by
     intro ts;induction ts with
     | nil=>
       intro _;show(if x=n then _ else _)=_;by_cases e:n=x;. rw[if_pos e,if_pos e.symm]
       . rw[if_neg e,if_neg λq=>e q.symm]
     | cons t r o=>
       intro hx;rw[zI,yX] at hx;rw[List.cons_append];unfold AA;by_cases j:t.1=n;. rw[if_pos j,if_pos j,if_neg λq=>hx (.inl (j.trans q).symm)]
       . rw[if_neg j,if_neg j,o λq=>hx (.inr q)]
   exact this ts h
theorem HF (ts:List Th) (x n:Str):AA (BU ts x) n=if n=x then ap else AA ts n:=by
 induction ts with
 | nil=>show ap=_;split <;> rfl
 | cons t r o=>
   unfold BU at o ⊢;rw[a6V];by_cases e:t.1=x
   . rw[if_neg (by simp[e]),o];by_cases D:n=x;. rw[if_pos D,if_pos D]
     . rw[if_neg D,if_neg D]
       conv=>rhs;unfold AA
       rw[if_neg λq=>D (q.symm.trans e)]
   . rw[if_pos (by simpa using e)];unfold AA;rw[o];by_cases j:t.1=n;. rw[if_pos j,if_pos j,if_neg λq=>e (j.trans q)]
     . rw[if_neg j,if_neg j]
theorem QM (ts:List Th) (x:Str) (k:Int) (n:Str):AA (E6 ts x k) n=if n=x then (AA ts x).map λv=>(v.1,v.2+k) else AA ts n:=by
 unfold E6;cases h:AA ts x with
 | none=>
   by_cases e:n=x;. subst e;rw[if_pos rfl,h];rfl
   . rw[if_neg e]
 | some v=>rw[EQ];rfl
theorem MP (nd:(ts.map (·.1)).Nodup) :t∈ts↔AA ts t.1=am t.2:=#[λh=>AX nd h,λh=>CK h]
theorem i4 (n1:(as.map (·.1)).Nodup) (p:as.Perm bs) (n:Str):AA as n=AA bs n:=by
 have i:(bs.map (·.1)).Nodup:=(p.map (·.1)).nodup_iff.mp n1;cases h:AA as n with
 | none=>
   cases e:AA bs n with
   | none=>rfl
   | some v=>exact absurd (zL.mpr #[_,p.mem_iff.mpr (CK e),rfl]) (FO.mp h)
 | some v=>exact((MP i (t:=(n,v))).mp (p.mem_iff.mp (CK h))).symm
theorem i5 (n1:(as.map (·.1)).Nodup) (i:(bs.map (·.1)).Nodup) (h:∀n,AA as n=AA bs n):as.Perm bs:=by
 have nd:∀{l:List Th},(l.map (·.1)).Nodup->l.Nodup:=λ{l} h=>by unfold List.Nodup at h ⊢;rw[b2Q] at h;exact h.imp λ{a b} q e=>q (by rw[e])
 rw[a8X (nd n1) (nd i)];intro t;rw[MP n1,MP i,h]
theorem NP (nd:(ts.map (·.1)).Nodup) (G:Ris (w.map (·.1))) (h:∀n,AA ts n=AA w n):AZ ts=w:=(TQ (i5 G.nodup nd λn=>(h n).symm) G).symm
theorem ER (nd:(ts.map (·.1)).Nodup) (n:Str):AA (AZ ts) n=AA ts n:=
 i4 (((BG ts).map (·.1)).nodup_iff.mpr nd) (BG ts) n
def CO (w:List Th):Prop:=Ris (w.map (·.1))/\∀t∈w,CW t.1/\0<=t.2.1/\t.2.1<=999
theorem HG (h:CO w) (e:AA w x=am v):CW x/\0<=v.1/\v.1<=999:=h.2 _ (CK e)
theorem D3 {ts:List Th}{D:Deed}(hr:D.real) (g:AJ (ts.map (·.1)) D=ap) (n:Str) :
   AA (doT ts D) n=match D with
     | .put x p k=>if n=x then am (p,k) else AA ts n
     | .take x=>if n=x then ap else AA ts n
     | .move x p=>if n=x then (AA ts x).map λv=>(p,v.2) else AA ts n
     | .count x k=>if n=x then (AA ts x).map λv=>(v.1,v.2+k) else AA ts n
     | .name x y=>if n=y then AA ts x else if n=x then ap else AA ts n
     | .split x y p k=>if n=y then am (p,k) else if n=x then (AA ts x).map λv=>(v.1,v.2 + -k) else AA ts n
     | .join x y=>if n=y then ap else if n=x then (AA ts x).bind λv=>(AA ts y).map λu=>(v.1,v.2+u.2) else AA ts n:=by
 cases D with
 | put x p k=>exact EQ _ _ _ _ _
 | take x=>exact HF _ _ _
 | move x p=> obtain⟨v,t⟩:=BF (MN g (n:=x) (by simp[Deed.names]) (by simp[Deed.made]));simp only[doT,t];exact EQ _ _ _ _ _
 | count x k=>exact QM _ _ _ _
 | name x y=> obtain⟨v,t⟩:=BF (MN g (n:=x) (by simp[Deed.names]) (by simp[Deed.made];exact λe=>hr.2.1 e.symm));simp only[doT,t];rw[EQ,HF]
 | split x y p k=> show AA (CD (E6 ts x (-k)) y p k) n=_;rw[EQ,QM]
 | join x y=> obtain⟨v,t⟩:=BF (MN g (n:=x) (by simp[Deed.names]) (by simp[Deed.made]));obtain⟨u,hu⟩:=BF (MN g (n:=y) (by simp[Deed.names]) (by simp[Deed.made]));simp only[doT,hu];rw[HF,QM,t];rfl
theorem here (h:goD w D) (hn:n∈D.names) (e:D.made≠am n):∃v,AA w n=am v:=BF (MN h.2.2 hn e)
theorem A1j (h:goD w D) (hn:n∈D.names) (e:D.made=am n):AA w n=none:=FO.mpr (LB h.2.2 hn e)
theorem Y5 (h:∀n∈D.names,(n∈ns)↔¬D.made=am n):AJ ns D=none:=by unfold AJ;rw[List.find?_eq_none];intro n hn;have:=h n hn;by_cases h1:n∈ns <;> by_cases e:D.made=am n <;> simp_all
theorem BA :n∈ts.map (·.1)↔(AA ts n).isSome=true:=by rw[IG];simp
theorem nK (G:CO w) (hg:goD w D) (I:w.length < 60) :
   goD (AZ (doT w D)) (BV w D)/\AZ (doT (AZ (doT w D)) (BV w D))=w/\BV (AZ (doT w D)) (BV w D)=D/\CO (AZ (doT w D))/\(AZ (doT w D)).length<=w.length+1:=by
 have hr:=hg.2.1;have c:=hg.2.2;obtain⟨nd,_⟩:=NO hg;have L:∀n,AA (AZ (doT w D)) n=AA (doT w D) n:=ER nd;have f:((AZ (doT w D)).map (·.1)).Nodup:=((BG _).map (·.1)).nodup_iff.mpr nd;have q:(AZ (doT w D)).length<=w.length+1:=by rw[(BG _).length_eq];have h1:=QK (w.map (·.1)) D;have b:=congrArg b9J (NN hr c);simp only[zX] at h1 b;lia
 have T:CO (AZ (doT w D)):=by
   refine#[DZ nd,λt N=>?_];have hk:AA (doT w D) t.1=am t.2:=by rw[<-L];exact(MP f).mp N
   rw[D3 hr c] at hk;have old:∀{n:Str}{v:Int×Int},AA w n=am v->CW n/\0<=v.1/\v.1<=999:=λe=>HG G e;cases D with
   | put x p k=>
     dsimp only at hk;split at hk;. rename_i e;have hk:=Option.some.inj hk;rw[e,<-hk];exact#[hr.1 x (by simp[Deed.names]),hr.2.2.1,hr.2.2.2]
     . exact old hk
   | take x=>
     dsimp only at hk;split at hk;. cases hk
     . exact old hk
   | move x p=>
     dsimp only at hk;split at hk;. rename_i e;obtain⟨v,o,h⟩:=Option.map_eq_some_iff.mp hk;rw[e,<-h];exact#[(old o).1,hr.2.2.1,hr.2.2.2]
     . exact old hk
   | count x k=>
     dsimp only at hk;split at hk;. rename_i e;obtain⟨v,o,h⟩:=Option.map_eq_some_iff.mp hk;rw[e,<-h];exact#[(old o).1,(old o).2]
     . exact old hk
   | name x y=>
     dsimp only at hk;split at hk;. rename_i e;rw[e];exact#[hr.1 y (by simp[Deed.names]),(old hk).2]
     . split at hk;. cases hk
       . exact old hk
   | split x y p k=>
     dsimp only at hk;split at hk;. rename_i e;have hk:=Option.some.inj hk;rw[e,<-hk];exact#[hr.1 y (by simp[Deed.names]),hr.2.2.1,hr.2.2.2]
     . split at hk;. rename_i e;obtain⟨v,o,h⟩:=Option.map_eq_some_iff.mp hk;rw[e,<-h];exact#[(old o).1,(old o).2]
       . exact old hk
   | join x y=>
     dsimp only at hk;split at hk;. cases hk
     . split at hk;. rename_i e;obtain⟨v,o,h⟩:=Option.bind_eq_some_iff.mp hk;obtain⟨u,hu,j⟩:=Option.map_eq_some_iff.mp h;rw[e,<-j];exact#[(old o).1,(old o).2]
       . exact old hk
 have core:goD (AZ (doT w D)) (BV w D)/\(∀n,AA (doT (AZ (doT w D)) (BV w D)) n=AA w n)/\BV (AZ (doT w D)) (BV w D)=D:=by
   have O:KK (AZ (doT w D)):=#[f,by lia]
   have LD:∀n,AA (AZ (doT w D)) n=_:=λn=>(L n).trans (D3 hr c n);have mk:∀B:Deed,B.real->(∀n∈B.names,((AA (AZ (doT w D)) n).isSome=av)↔¬B.made=am n)->goD (AZ (doT w D)) B:=λB h1 b=>#[O,h1,Y5 λn hn=>BA.trans (b n hn)]
   cases D with
   | put x p k=>
     have hx:=A1j hg (n:=x) (by simp[Deed.names]) rfl;have g:goD (AZ (doT w (.put x p k))) (.take x):=mk (.take x) #[λn hn=>hr.1 n hn,trivial,trivial] λn hn=>by simp only[Deed.names,b0W] at hn;subst hn;rw[LD];simp[Deed.made]
     refine#[g,λn=>?_,?_]
     . show AA (doT (AZ (doT w (.put x p k))) (.take x)) n=_;rw[D3 g.2.1 g.2.2];dsimp only;rw[LD];dsimp only;by_cases e:n=x;. rw[if_pos e,e,hx]
       . rw[if_neg e,if_neg e]
     . have i:AA (AZ (doT w (.put x p k))) x=am (p,k):=by rw[LD];simp
       simp only[BV,i]
   | take x=>
     obtain⟨v,o⟩:=here hg (n:=x) (by simp[Deed.names]) (by simp[Deed.made]);have z:BV w (.take x) = .put x v.1 v.2:=by simp only[BV,o]
     rw[z];have g:goD (AZ (doT w (.take x))) (.put x v.1 v.2):=mk (.put x v.1 v.2) #[λn hn=>hr.1 n hn,trivial,(HG G o).2] λn hn=>by simp only[Deed.names,b0W] at hn;subst hn;rw[LD];simp[Deed.made]
     refine#[g,λn=>?_,rfl];rw[D3 g.2.1 g.2.2];dsimp only;rw[LD];dsimp only;by_cases e:n=x;. rw[if_pos e,e,o]
     . rw[if_neg e,if_neg e]
   | move x p=>
     obtain⟨v,o⟩:=here hg (n:=x) (by simp[Deed.names]) (by simp[Deed.made]);have z:BV w (.move x p) = .move x v.1:=by simp only[BV,o]
     rw[z];have i:AA (AZ (doT w (.move x p))) x=am (p,v.2):=by rw[LD];simp[o]
     have g:goD (AZ (doT w (.move x p))) (.move x v.1):=mk (.move x v.1) #[λn hn=>hr.1 n hn,trivial,(HG G o).2] λn hn=>by simp only[Deed.names,b0W] at hn;subst hn;rw[i];simp[Deed.made]
     refine#[g,λn=>?_,by simp only[BV,i]];rw[D3 g.2.1 g.2.2];dsimp only;rw[i];by_cases e:n=x;. rw[if_pos e,e,o];rfl
     . rw[if_neg e,LD];dsimp only;rw[if_neg e]
   | count x k=>
     obtain⟨v,o⟩:=here hg (n:=x) (by simp[Deed.names]) (by simp[Deed.made]);have z:BV w (.count x k) = .count x (-k):=rfl;rw[z];have i:AA (AZ (doT w (.count x k))) x=am (v.1,v.2+k):=by rw[LD];simp[o]
     have g:goD (AZ (doT w (.count x k))) (.count x (-k)):=mk (.count x (-k)) #[λn hn=>hr.1 n hn,trivial,trivial] λn hn=>by simp only[Deed.names,b0W] at hn;subst hn;rw[i];simp[Deed.made]
     refine#[g,λn=>?_,by simp only[BV,Int.neg_neg]];rw[D3 g.2.1 g.2.2];dsimp only;rw[i];by_cases e:n=x;. rw[if_pos e,e,o];show am (v.1,v.2+k + -k)=am v;rw[Int.add_neg_cancel_right]
     . rw[if_neg e,LD];dsimp only;rw[if_neg e]
   | name x y=>
     have r:x≠y:=hr.2.1;obtain⟨v,o⟩:=here hg (n:=x) (by simp[Deed.names]) (by simp[Deed.made];exact λe=>r e.symm);have hy:=A1j hg (n:=y) (by simp[Deed.names]) rfl;have z:BV w (.name x y) = .name y x:=rfl;rw[z];have m:AA (AZ (doT w (.name x y))) y=am v:=by rw[LD];simp[o]
     have i:AA (AZ (doT w (.name x y))) x=none:=by rw[LD];simp[r]
     have g:goD (AZ (doT w (.name x y))) (.name y x):=mk (.name y x) #[λn hn=>hr.1 n (by simp[Deed.names] at hn ⊢;exact hn.symm),λe=>r e.symm,trivial] λn hn=>by
       simp only[Deed.names,yX,xW,or_false] at hn;rcases hn with rfl | rfl;. rw[m];simp[Deed.made];exact r
       . rw[i];simp[Deed.made]
     refine#[g,λn=>?_,rfl];rw[D3 g.2.1 g.2.2];dsimp only;rw[m];by_cases e:n=x;. rw[if_pos e,e,o]
     . rw[if_neg e];by_cases h:n=y;. rw[if_pos h,h,hy]
       . rw[if_neg h,LD];dsimp only;rw[if_neg h,if_neg e]
   | split x y p k=>
     have r:x≠y:=hr.2.1;obtain⟨v,o⟩:=here hg (n:=x) (by simp[Deed.names]) (by simp[Deed.made];exact λe=>r e.symm);have hy:=A1j hg (n:=y) (by simp[Deed.names]) rfl;have z:BV w (.split x y p k) = .join x y:=rfl;rw[z];have m:AA (AZ (doT w (.split x y p k))) y=am (p,k):=by rw[LD];simp
     have i:AA (AZ (doT w (.split x y p k))) x=am (v.1,v.2 + -k):=by rw[LD];simp[r,o]
     have g:goD (AZ (doT w (.split x y p k))) (.join x y):=mk (.join x y) #[λn hn=>hr.1 n hn,r,trivial] λn hn=>by
       simp only[Deed.names,yX,xW,or_false] at hn;rcases hn with rfl | rfl;. rw[i];simp[Deed.made]
       . rw[m];simp[Deed.made]
     refine#[g,λn=>?_,by simp only[BV,m]];rw[D3 g.2.1 g.2.2];dsimp only;rw[i,m];by_cases e:n=y;. rw[if_pos e,e,hy]
     . rw[if_neg e];by_cases h:n=x;. rw[if_pos h,h,o];show am (v.1,v.2 + -k+k)=am v;rw[Int.neg_add_cancel_right]
       . rw[if_neg h,LD];dsimp only;rw[if_neg e,if_neg h]
   | join x y=>
     have r:x≠y:=hr.2.1;obtain⟨v,o⟩:=here hg (n:=x) (by simp[Deed.names]) (by simp[Deed.made]);obtain⟨u,hu⟩:=here hg (n:=y) (by simp[Deed.names]) (by simp[Deed.made]);have z:BV w (.join x y) = .split x y u.1 u.2:=by simp only[BV,hu]
     rw[z];have m:AA (AZ (doT w (.join x y))) y=none:=by rw[LD];simp
     have i:AA (AZ (doT w (.join x y))) x=am (v.1,v.2+u.2):=by rw[LD];simp[r,o,hu]
     have g:goD (AZ (doT w (.join x y))) (.split x y u.1 u.2):=mk (.split x y u.1 u.2) #[λn hn=>hr.1 n hn,r,(HG G hu).2] λn hn=>by
       simp only[Deed.names,yX,xW,or_false] at hn;rcases hn with rfl | rfl;. rw[i];simp[Deed.made];exact λe=>r e.symm
       . rw[m];simp[Deed.made]
     refine#[g,λn=>?_,rfl];rw[D3 g.2.1 g.2.2];dsimp only;rw[i];by_cases e:n=y;. rw[if_pos e,e,hu]
     . rw[if_neg e];by_cases h:n=x;. rw[if_pos h,h,o];show am (v.1,v.2+u.2 + -u.2)=am v;rw[Int.add_neg_cancel_right]
       . rw[if_neg h,LD];dsimp only;rw[if_neg e,if_neg h]
 obtain⟨Y,Z,S⟩:=core;exact#[Y,NP (NO Y).1 G.1 Z,S,T,q]
end DL
namespace DL
open PySem PySem.Spec L2
def GF (w:List Th) (D:Deed):List Th:=AZ (doT w D)
def CB:List Th->List Deed->Prop
 | _,[]=>True
 | w,D::r=>goD w D/\CB (GF w D) r
def JH:List Th->List Deed->List Th
 | w,[]=>w
 | w,D::r=>JH (GF w D) r
theorem Y6:∀{Ds:List Deed}{w:List Th}{D:Deed},JH w (Ds++[D])=GF (JH w Ds) D
 | [],_,_=>rfl
 | _::Ds,w,D=>Y6 (Ds:=Ds)
def AK (ys:List Str):Prop:=(∀z∈ys,CW z)/\ys.Nodup/\ys.length<=26
def VB (ys:List Str):PyData:=.list (ys.map .str)
theorem i6 (G:CO w) (hg:goD w D) (m:w.length < 60):CO (GF w D)/\(GF w D).length<=w.length+1:=by obtain⟨_,_,_,h1,e⟩:=nK G hg m;exact#[h1,e]
theorem nL (h:VB as=VB bs):as=bs:=OH (by unfold VB at h;exact PyData.list.inj h)
def wsF (w:List Th) (Ds:List Deed) (k:Nat):List Th:=JH w (Ds.take k)
theorem dL (h:Ds[k]?=am D):wsF w Ds (k+1)=GF (wsF w Ds k) D:=by unfold wsF;rw[a2K,h];exact Y6
theorem K0:∀{Ds:List Deed}{w:List Th}{k:Nat},CB w Ds->CO w->w.length+Ds.length < 60->k<=Ds.length->CO (wsF w Ds k)/\(wsF w Ds k).length<=w.length+k/\∀D,Ds[k]?=am D->goD (wsF w Ds k) D
 | [],w,k,_,t,_,hk=>by
   have e:k=0:=by simpa using hk
   subst e;exact#[t,zR _,λD h=>by simp at h]
 | D::r,w,0,hb,t,_,_=>#[t,zR _,λn h=>by simp at h;subst h;exact hb.1]
 | D::r,w,k+1,hb,t,m,hk=>by
   have v:w.length+r.length+1 < 60:=by simpa [Nat.add_assoc] using m
   obtain⟨u,L⟩:=i6 t hb.1 (by lia);obtain⟨a,b,c⟩:=K0 (Ds:=r) (w:=GF w D) (k:=k) hb.2 u (by lia) (by simpa using hk);have e:wsF w (D::r) (k+1)=wsF (GF w D) r k:=rfl;rw[e];exact#[a,by lia,λn h=>c n (by simpa using h)]
def bkF (w:List Th) (Ds:List Deed) (j:Nat):PyData:=match Ds[j]? with | some D=>(BV (wsF w Ds j) D).d | none=>.none
def bkL (w:List Th) (Ds:List Deed) (k:Nat):List PyData:=(a0K k).map (bkF w Ds)
theorem nM :bkL w Ds (k+1)=bkL w Ds k++[bkF w Ds k]:=by unfold bkL;rw[List.range_succ,xH];rfl
theorem uP :(bkL w Ds k).length=k:=by simp[bkL]
end DL
namespace L2
open PySem PySem.Spec PyProof.Rows
def A3Y:List Nat:=[0,1,2,3,4,5,6,7,8,9,10,11,12,13,14,15,16,17,18,19,20,21,22,23]
theorem nN :∀(l:List Str) (k n:Nat),(l.zip (List.range' k n)).lookup x=am i->k<=i/\l[i - k]?=am x
 | [],_,_,h=>by cases h
 | _::_,_,0,h=>by cases h
 | a::r,k,n+1,h=>by
   rw[List.range'_succ,b8Z,a3V] at h;split at h;. rename_i e;have h:=Option.some.inj h;subst h;rw[Nat.sub_self];exact#[zR _,by rw[eq_of_beq e];rfl]
   . obtain⟨h1,t⟩:=nN r (k+1) n h;refine#[by lia,?_];rw[show i - k=(i - (k+1))+1 by lia];exact t
theorem QN {l:List Str}(h:(l.zip A3Y).lookup x=am i):l[i]?=am x:=(nN l 0 24 h).2
theorem pvx {X:Cx}{i:Nat}{x:Str}{pos:eH}(h:(X.N.zip A3Y).lookup x=am i) (t:Vis X.env.scope x) (hd:(x==("__debug__":Str))=false:=by decide)
   (e:(x==("__classdict__":Str))=false:=by decide):PE X (.Name x pos) (WO i):=jY (QN h) t hd e
end L2
namespace DL
open PySem PySem.Spec L2
theorem nO (h:(zH (.str a)&&zH (.str b)&&(a0W (.str a) (.str b)==t))=av) (q:Q (.d (.bool t)) M):D2 K (UT K ay) (.d (.str a)) (.d (.str b)) M Q:=by simp only[a1Z,beq_iff_eq] at h;exact CG h.1.1 h.1.2 (by rw[if_neg nft,h.2];exact q)
end DL
namespace L2
open PySem PySem.Spec
def A3Z (scope:fc) (NC:List Str):Bool:=(NC.all λx=>(scope.names.lookup x).isSome)&&scope.names.all λy=>!(y.2==.local||y.2==.free||y.2==.cell)||y.1==a0Q ".0" || NC.contains y.1
theorem J2 {X:Cx}{scope:fc}{NC:List Str}{t:List (Option Nat)}{c:fc}{ON:List Str}(_:A3Z scope NC=av) (h:lM c ON scope NC t=av) (e:X.env.scope=c) (n:X.N=ON):CSc X scope NC t:=CSc.of h e n
end L2
namespace DL
open PySem PySem.Spec L2
section
theorem JI :∀{bs:List Int},DVs K H W (bs.map b4W) (bs.map V.int)
 | []=>DVs.nil
 | b::bs=>DVs.cons (by unfold DV;rfl) JI
end
end DL
namespace L2
open PySem PySem.Spec PyProof.Rows PySem.W
def Itd (I:Int) (n:Nat):It:=#[λi _=>i < n,λi H x H'=>H'=H/\x = .int (I - i),λi _=>n<=i]
theorem i7 {P:bh}{w:bd}{K:Frg}{tg:bn}(it:Addr) (lo:Int) (n:Nat):Turn P w K tg (Itd lo n) [it] it (λi h=>IsRangeIter h it (lo+(i:Nat)*(-1)) ((n:Int) - (i:Nat)) (-1)) where
 mem:=by simp
 obj:=λi h st b hb=>by
   have e:b=it:=by simpa using hb
   subst e;exact⟨_,st,λv z=>by have z':Data.fields _=Data.cell v:=z;cases z'⟩
 keep:=λi h h' st k=>k it (by simp) _ st
 item:=by intro X hP hw hK hc i pins s σ H E I hf st hg;subst hP hw hK;obtain⟨f0,f1,f2,f3,f4,f5⟩:=hf it (by simp);refine(Walks.range (prog:=X.prog) (w:=X.w) (I.ok.hd hc) it lo (-1) n).item i s _ _ hg st λv h' tk hv dz kk=>?_;obtain⟨t,rfl⟩:=hv;have I1:Inv X pins σ H { s with heap:=h',toks:=tk }:=I.turned (λb o hb e=>kk b o (by simpa using hb) e) f0 f1 f3 f4 f5;refine#[_,rfl,WQ (s:={ s with heap:=h',toks:=tk }) (n:= "range_iterator") dz rfl rfl (by decide) #[.int (lo - i),H,I1,#[t,?_],#[rfl,rfl],dz,λb hb=>(hf b hb).1]];rw[Int.mul_neg,Int.mul_one,Int.sub_eq_add_neg]
 done:=by intro X hP hw hK hc i pins s σ H E I hf st hg;subst hP hw hK;obtain⟨f0,f1,f2,f3,f4,f5⟩:=hf it (by simp);exact wpAny_pyNext_range_end (I.ok.hd hc) st (by have:n<=i:=hg;lia) λh' eb=>#[rfl,I.turned (t':=s.toks) (λb o hb e=>eb b o hb e) f0 f1 f3 f4 f5]
 self:=λ_ _ _ _ _ st h=>wpAny_pyIter_rangeiter st h
section
variable {X:Cx}{tg:bn}
theorem uQ {r:St}(I:Inv X pins r H s) (h1 : -(2 ^ 62)<=n) (m:n < 2 ^ 62) (p : -(2 ^ 62)<=hi) (c:hi < 2 ^ 62) (q:R (Itd n (n - hi).toNat) H):wpAny (model X.prog X.w) X.A (pyIter (.ref s.heap.objs.size)) (PIE X pins r tg R) E { s with heap:=s.heap.push { cls:=.type "range", data:=.fields (y9 [.int n t,.int hi u,.int (-1) v]) },toks:=tk }:=by
 refine wpAny_pyIter_range (IsRange.new ..) (small_down h1 m p c) ?_;have i:Inv X pins r H { s with heap:=s.heap.push { cls:=.type "range", data:=.fields (y9 [.int n t,.int hi u,.int (-1) v]) },toks:=tk }:=I.kept λb o e=>zW _ e;refine#[(s.heap.push { cls:=.type "range", data:=.fields (y9 [.int n t,.int hi u,.int (-1) v]) }).objs.size,[(s.heap.push { cls:=.type "range", data:=.fields (y9 [.int n t,.int hi u,.int (-1) v]) }).objs.size],_,_,H,rfl,
   i.kept (t':=tk) λb o e=>zW _ e,i7 _ n (n - hi).toNat,?_,λb hb=>?_,q]
 . show IsRangeIter _ _ (n+((0:Nat):Int)*(-1)) ((((n - hi).toNat:Nat):Int) - ((0:Nat):Int)) (-1);rw[show n+((0:Nat):Int)*(-1)=n by simp,show(((n - hi).toNat:Nat):Int) - ((0:Nat):Int)=Builtin.Range.rangeSize n hi (-1) by rw[rangeSize_downNat];simp];exact yZ _ rfl
 . have e:b=(s.heap.push { cls:=.type "range", data:=.fields (y9 [.int n t,.int hi u,.int (-1) v]) }).objs.size:=by simpa using hb
   subst e;exact i.fpOk (zR _) (i.hok.fresh (zR _))
def zO (T:TA):TI:=λt H R=>T t H λn e=>∃i j:Int,n=[.int i,.int j,.int (-1)]/\(-(2 ^ 62)<=i/\i < 2 ^ 62/\-(2 ^ 62)<=j/\j < 2 ^ 62)/\R (Itd i (i - j).toNat) e
theorem uR {a b c:bn}{T:TA}{p pos:eH}(hg:Gl X "range") (m:X.mg "range"=ap) (g:PA X [a,b,c] T) (hs:starEach [a,b,c] X.env=[(ay,eval a X.env),(ay,eval b X.env),(ay,eval c X.env)]:=by rfl) (n:starEach [b,c] X.env=[(ay,eval b X.env),(ay,eval c X.env)]:=by rfl) :
   PI X tg (.Call (.Name "range" p) [a,b,c] [] pos) (zO T):=by
 intro pins s x H R I h;refine Call_ (HY I hg m boot_range (xG (thn (g pos pins s x H _ I h) λM z #[D,y,o,u,N]=>?_) (by rw[hs,n]) (by rw[n];rfl)));obtain⟨i,j,e,⟨N,J,G,f⟩,q⟩:=N;subst e;cases u with
 | cons r Q=>cases Q with
   | cons k Q=>cases Q with
     | cons v Q=> cases Q;obtain⟨t,rfl⟩:=r;obtain⟨O,rfl⟩:=k;obtain⟨S,rfl⟩:=v;exact call_range_3 (by decide) (uQ o N J G f q)
end
end L2
namespace DL
open PySem PySem.Spec L2
section
def OL (I:Int) (n:Nat):List PyData:=(a0K n).map λ(i:Nat)=>.int (I - i)
theorem uS (h:DA K n ρ M λxs M1=>∃i j:Int,xs=[.d (.int i),.d (.int j),.d (.int (-1))]/\(-(2 ^ 62)<=i/\i < 2 ^ 62/\-(2 ^ 62)<=j/\j < 2 ^ 62)/\QI (OL i (i - j).toNat) M1):DI K (zO n) ρ M QI:=λN H R X k=>
 h N H _ X λJ o xs M1 O u z h1=>by
   obtain⟨i,j,rfl,hb,q⟩:=h1;obtain⟨v,r,rfl,m,B,S,rfl,g,G,D,rfl,p,b⟩:=u;cases b;rw[BC m,BC g,BC p];have e:(OL i (i - j).toNat).length=(i - j).toNat:=by simp[OL]
   refine#[i,j,rfl,hb,k _ (OL i (i - j).toNat) o M1 O z #[λt c T hi _ _=>?_,λc T _ _=>?_,λt c T x I f _ hi y=>?_] q];. show t < (i - j).toNat;rw[<-e];exact hi
   . show(i - j).toNat<=_;rw[e];exact zR _
   . obtain⟨rfl,rfl⟩:=y;rw[e] at hi;refine#[f,Step.refl,.int (i - t),?_,by unfold DV;rfl];unfold OL;rw[zF,xZ hi];rfl
end
end DL
namespace XC
open PySem PySem.Spec
def MQ (h:ca) (e:Addr) (cls:aw) (dd:Option Addr) (i:aw) (T:Option Addr) (r:aw):Prop:=∃p n,h.get? e=am p/\p.cls=cls/\p.dict=dd/\p.data = .fields n/\n[2]?=am i /\
   match T with
   | none=>n[1]?=am .none
   | some T=>n[1]?=am (.ref T)/\T≠e/\∃t o,h.get? T=am t/\t.data = .fields o/\o[3]?=am r
structure Moved (fs ch:List Addr) (h h':ca):Prop where
 keep:∀b o,h.get? b=am o->b∉fs->b∉ch->h'.get? b=am o
 slot:∀b o,h.get? b=am o->b∉ch->∃sl,h'.get? b=am { o with slots:=sl }
 there:∀b o,h.get? b=am o->∃o',h'.get? b=am o'
theorem Moved.refl (fs ch:List Addr) (h:ca):Moved fs ch h h:=#[λ_ _ e _ _=>e,λ_ o e _=>#[o.slots,e],λ_ o e=>#[o,e]]
theorem Moved.trans {fs ch:List Addr}{h h1 h2:ca}(a:Moved fs ch h h1) (b:Moved fs ch h1 h2):Moved fs ch h h2 where
 keep:=λc o e n m=>b.keep c o (a.keep c o e n m) n m
 slot:=λc o e m=>by obtain⟨sl,e1⟩:=a.slot c o e m;obtain⟨Af,e2⟩:=b.slot c _ e1 m;exact#[Af,e2]
 there:=λc o e=>by obtain⟨o',e1⟩:=a.there c o e;exact b.there c o' e1
theorem Moved.mono (a:Moved fs ch h h') (f:∀b∈fs,b∈S) (g:∀b∈ch,b∈t):Moved S t h h':=#[λb o e n m=>a.keep b o e (λz=>n (f b z)) λz=>m (g b z),λb o e m=>a.slot b o e λz=>m (g b z),a.there]
theorem Moved.drop (a:Moved fs ch h h') (g:∀b∈ch,b∈t\/h.get? b=ap):Moved fs t h h':=#[λb o e n m=>a.keep b o e n λz=>(g b z).elim m λq=>by(rw[q] at e;cases e),λb o e m=>a.slot b o e λz=>(g b z).elim m λq=>by(rw[q] at e;cases e),a.there]
theorem Moved.frames (a:Moved fs ch h h') (m:h.FunFrames base l) (hc:∀b∈ch,b∉l.filterMap (·.frame)):h'.FunFrames base l:=by
 induction l with
 | nil=>trivial
 | cons env rest n=> obtain⟨hk,⟨L,o,t,hn,ho,hd⟩,hr⟩:=m;obtain⟨sl,e⟩:=a.slot L o ho λz=>hc L z (by rw[a2V,t];exact .head _);exact#[hk,#[L,_,t,hn,e,hd],n hr λb z q=>hc b z (by rw[a2V,t];exact .tail _ q)]
theorem GG {o:cr}(f:Array aw->Array aw) (hd:o.data = .fields vs):(o.mapFields f).isFreed=false:=Obj.isFreed_of_fields (b0V hd f)
theorem nP {o:cr}(f:Array aw->Array aw) (hd:o.data = .fields vs):o.mapFields f={ o with data:=.fields (f vs) }:=by obtain⟨c,d,e,sl⟩:=o;cases hd;rfl
theorem E9 (f:Array aw->Array aw) (ho:h.get? a=am o) (hd:o.data = .fields vs) (fs:List Addr):Moved fs [a] h (h.update a (b2Z f)):=by
 have k:∀b u,h.get? b=am u->b∉[a]->(h.update a (b2Z f)).get? b=am u:=λb u e m=>by rw[yC _ _ (λz=>m (by simp[z]))];exact e
 refine#[λb u e _ m=>k b u e m,λb u e m=>#[u.slots,k b u e m],λb u e=>?_];by_cases q:b=a;. subst q;exact#[_,a3Q _ ho (GG f hd)]
 . exact#[u,k b u e (by simp[q])]
section
variable {M:Model}{A:bv}{E:aw->ax->Prop}{s:ax}{base:ca}{env:im}{outer:List im}{L e:Addr}{cls ar:aw}{dd:Option Addr}{T:Option Addr}
theorem HH {T:Addr}(x:MQ s.heap e cls dd ar (am T) t) (h:∀h',MQ h' e cls dd ar (am T) .none->Moved [] [T] s.heap h'->Q () { s with heap:=h' }):wpAny M A (setFlight (.ref e) ap) Q E s:=by obtain⟨p,m,z,hc,i,hd,h0,h1,u,b,o,r,N,n⟩:=x;unfold setFlight;refine zZ (bf z hd h1 ?_);rw[if_pos (show(a0X T != a0V)=av from by simp)];have hsz:3 < o.size:=(Array.getElem?_eq_some_iff.mp n).1;refine dV r N hsz (h _ #[p,m,?_,hc,i,hd,h0,h1,u,_,_,a3Q _ r (GG _ N),b0V N _,by simp[hsz]] (E9 _ r N []));rw[yC _ _ u];exact z
theorem Y7 (G:A.frames=am (env::outer)) (g:s.heap.FunFrames base (env::outer)) (N:env.frame=am L) (c:s.heap.get? e=am p) (hd:p.data = .fields vs) (hsz:1 < vs.size) (h0:vs[2]?=am ar) (h:∀h' U,MQ h' e p.cls p.dict ar (am U) (dZl L)->s.heap.get? U=ap->s.heap.objs.size<=U->Moved ((env::outer).filterMap (·.frame)) [e] s.heap h'->Q () { s with heap:=h' }) :
   wpAny M A (do let a <- frameOf env;let t <- entryPlaceOf L hadNext;let b <- EntryCells.newEntry head a .none (dZl L) .none t;setField (.ref e) 1 b) Q E s:=by
 have v:e∉(env::outer).filterMap (·.frame):=λO=>by obtain⟨_,o,ho,u⟩:=g.mem O;rw[c] at ho;injection ho with ho;subst ho;exact u vs hd
 refine zZ (wpAny_frameOf_fun G g N λj i=>?_);refine zZ (wpAny_entryPlaceOf λt x=>?_);unfold EntryCells.newEntry newFields;refine zZ (xL ?_ (x.sizeOk5 _ _ _ _ _));have m:j.get? e=am p:=(i.2.1 e v).trans c;generalize r:({ cls:=.type "traceback", dict:=ap,data:=.fields ([head,.ref L,.none,dZl L,.none]++(if t.isEmpty then b2V 6 a0V else t)).toArray }:cr)=y;have f:=zW (h:=j) y m;have k:j.objs.size≠e:=a9Q (zM m);refine dV f hd hsz (h _ j.objs.size #[_,_,a3Q _ f (GG _ hd),?_,?_,b0V hd _,?_,?_,k,y,([head,.ref L,.none,dZl L,.none]++(if t.isEmpty then b2V 6 a0V else t)).toArray,?_,?_,?_] ?_ ?_ ?_);. rw[nP _ hd]
 . rw[nP _ hd]
 . rw[Array.getElem?_setIfInBounds_ne (by decide)];exact h0
 . simp[hsz]
 . rw[yC _ _ (a4K k)];exact yZ j (by rw[<-r];rfl)
 . rw[<-r]
 . simp
 . rw[i.1];exact Heap.get?_none_of_le (zR _)
 . rw[i.1];exact zR _
 . have B:Moved ((env::outer).filterMap (·.frame)) [e] s.heap j:=#[λb o q n _=>(i.2.1 b n).trans q,λb o q _=>i.2.2 b o q,λb o q=>let #[sl,z]:=i.2.2 b o q;#[_,z]]
   have I:Moved ((env::outer).filterMap (·.frame)) [e] j (j.push y):=#[λb o q _ _=>zW _ q,λb o q _=>#[o.slots,zW _ q],λb o q=>#[o,zW _ q]]
   exact(B.trans I).trans (E9 _ f hd _)
theorem uT (G:A.frames=am (env::outer)) (m:s.heap.FunFrames base (env::outer)) (n:env.frame=am L) (x:MQ s.heap e cls dd ar T .none) (h:∀h' U,MQ h' e cls dd ar (am U) (dZl L)->s.heap.get? U=ap->s.heap.objs.size<=U->Moved ((env::outer).filterMap (·.frame)) (e::T.toList) s.heap h'->Q () { s with heap:=h' }) :
   wpAny M A (gl (.ref e) env) Q E s:=by
 obtain⟨y,O,t,hc,q,hd,h0,u⟩:=x;subst hc q;unfold gl;simp only[n];cases T with
 | none=> refine zZ (bf t hd u ?_);rw[if_neg (by decide)];exact Y7 G m n t hd (Array.getElem?_eq_some_iff.mp u).1 h0 λh' U a b c d=>h h' U a b c d
 | some T=>
   obtain⟨h1,j,v,k,r,N,i⟩:=u;refine zZ (bf t hd h1 ?_);rw[if_pos (show(a0X T != a0V)=av from by simp)];refine zZ (bf r N i ?_);rw[if_neg (show ¬((a0V==dZl L)=av) from by simp[dZl])];refine zZ (dV r N (Array.getElem?_eq_some_iff.mp i).1 ?_);have mv:=E9 (h:=s.heap) (·.setIfInBounds 3 a0V) r N ((env::outer).filterMap (·.frame));have f:T∉(env::outer).filterMap (·.frame):=λg=>by obtain⟨_,o,ho,p⟩:=m.mem g;rw[r] at ho;injection ho with ho;subst ho;exact p k N
   refine Y7 G (mv.frames m λb hb=>by(rw[b0W] at hb;subst hb;exact f)) n (by rw[yC _ _ j];exact t) hd (Array.getElem?_eq_some_iff.mp h1).1 h0 λh' U a b c d=>?_;have hsz:(s.heap.update T (b2Z (·.setIfInBounds 3 a0V))).objs.size=s.heap.objs.size:=Heap.size_after_update ..;rw[hsz] at c;refine h h' U a (Heap.get?_none_of_le c) c ((mv.mono (λ_ z=>z) λb z=>by simp at z;simp[z]).trans (d.mono (λ_ z=>z) λb z=>by simp at z;simp[z]))
theorem JJ (G:A.frames=am (env::outer)) (m:s.heap.FunFrames base (env::outer)) (n:env.frame=am L) (x:MQ s.heap e cls dd ar T t) (i:t = .none\/(T≠ap/\t=dZl L)) (h:∀h' U,MQ h' e cls dd ar (am U) (dZl L)->(T=am U\/s.heap.get? U=ap/\s.heap.objs.size<=U)->Moved ((env::outer).filterMap (·.frame)) (e::T.toList) s.heap h'->Q () { s with heap:=h' }) :
   wpAny M A (gl (.ref e) env) Q E s:=by
 rcases i with rfl | ⟨u,rfl⟩
 . exact uT G m n x λh' U a b c d=>h h' U a (.inr #[b,c]) d
 . cases T with
   | none=>exact absurd rfl u
   | some T=> obtain⟨f,q,z,hc,k,hd,h0,h1,g,p,j,r,N,o⟩:=id x;unfold gl;simp only[n];refine zZ (bf z hd h1 ?_);rw[if_pos (show(a0X T != a0V)=av from by simp)];refine zZ (bf r N o ?_);rw[if_pos (show(dZl L==dZl L)=av from by simp)];exact zY (h s.heap T x (.inl rfl) (Moved.refl ..))
theorem i8 (G:A.frames=am (env::outer)) (m:s.heap.FunFrames base (env::outer)) (i:env.frame=am L) (x:MQ s.heap e cls dd ar T t) (p:t = .none\/(T≠ap/\t=dZl L)) (h:∀h' U,MQ h' e cls dd ar (am U) .none->(T=am U\/s.heap.objs.size<=U)->Moved ((env::outer).filterMap (·.frame)) (e::T.toList) s.heap h'->Q () { s with heap:=h' }) :
   wpAny M A (leaving env (.ref e)) Q E s:=by
 unfold leaving;refine zZ (JJ G m i x p λh1 U B n1 O=>?_);refine HH (s:={ s with heap:=h1 }) B λn c r=>h n U c (n1.imp id λz=>z.2) ?_;have g:Moved ((env::outer).filterMap (·.frame)) (U::e::T.toList) s.heap h1:=O.mono (λ_ z=>z) λb z=>.tail _ z;have o:Moved ((env::outer).filterMap (·.frame)) (U::e::T.toList) h1 n:=r.mono (λ_ z=>absurd z (by simp)) λb z=>by simp at z;simp[z]
 refine(g.trans o).drop λb z=>(yX.mp z).elim (λq=>?_) λq=>.inl q;rcases n1 with n1 | n1;. left;rw[q,n1];simp
 . right;rw[q];exact n1.1
theorem QO {T f:Addr}(x:MQ s.heap e cls dd ar (am T) t) (h:∀h',MQ h' e cls dd ar (am T) (dZl f)->Moved [] [T] s.heap h'->Q () { s with heap:=h' }):wpAny M A (setFlight (.ref e) (am f)) Q E s:=by obtain⟨p,m,z,hc,i,hd,h0,h1,u,b,o,r,N,n⟩:=x;unfold setFlight;refine zZ (bf z hd h1 ?_);rw[if_pos (show(a0X T != a0V)=av from by simp)];have hsz:3 < o.size:=(Array.getElem?_eq_some_iff.mp n).1;refine dV r N hsz (h _ #[p,m,?_,hc,i,hd,h0,h1,u,_,_,a3Q _ r (GG _ N),b0V N _,by simp[hsz]] (E9 _ r N []));rw[yC _ _ u];exact z
end
end XC
namespace XC
open PySem PySem.Spec
abbrev Y8 (C t:Addr):Obj:={ cls:=.ref C,data:=.fields (y9 [.ref t,.none,.none,.none,.bool ay,.none]) }
abbrev MR (h:ca) (C:Addr) (rest:List aw):Heap:=(h.push { cls:=.type "tuple", data:=.seq rest.toArray }).push (Y8 C h.objs.size)
theorem D5 :∀b o,h.get? b=am o->(MR h C rest).get? b=am o:=λb o e=>zW _ (zW _ e)
theorem P6 :(MR h C rest).get? (h.objs.size+1)=am (Y8 C h.objs.size):=by heap_get
section
variable {prog:bh}{w:bd}{A:bv}{E:aw->ax->Prop}{h:ca}{g:Array GenState}{d:Drawn}{t:Nat}{os:en}
variable {nm q:Str}{C N:Addr}{bs bm Bl:List aw}{hdct:Bool}{sn:List Str}{sub:List aw}{ab:Bool}{col:Option Bool}{dd:Option Addr}{k0 k1 k2 k3 k5:Option aw}{B newId fg:String}{init:aw}
theorem Y9 (F:ib B newId fg Bl) (hB:bm.contains (.type B)=av) (hC:h.get? C=am (excClassObj nm q C N bs bm hdct sn sub ab col dd k0 k1 k2 k3 k5 newId)) (hq:Q () #[h,g,d,t,os]):wpAny M A (checkBuiltinCall newId #[.ref C::rest,[]]) Q E #[h,g,d,t,os]:=by
 have j:(a0X C::bm).contains (.type B)=true:=by rw[a1K,hB,Bool.or_true]
 have b:=F.noStar;simp only[checkBuiltinCall,F.newKind,F.newSplit,F.newRow];repeat (first | refine a0 hC ?_ | (refine br hC ?_;rw[j]) | refine wpAny_staticBase_exc hC ?_ | refine wpAny_madeBy_exc hC ?_ | simp only[bne_self_eq_false,b4Q,if_false] | wp_step)
 exact hq
theorem A3a (F:ib B newId fg Bl) (hB:bm.contains (.type B)=av) (hA:bm.contains (.type "AttributeError")=ay) (hN:bm.contains (.type "NameError")=ay)  (hC:h.get? C=am (excClassObj nm q C N bs bm hdct sn sub ab col dd k0 k1 k2 k3 k5 newId)) (hq:R (.ok (.ret (.ref (h.objs.size+1)))) #[MR h C rest,g,d,t,os]) (o:rest.length<=aB) :
   codeAny (model prog w) A (.builtin newId #[.ref C::rest,[]]) R #[h,g,d,t,os]:=by
 have c:=F.ends;have n:(a0X C::bm).contains (.type B)=true:=by rw[a1K,hB,Bool.or_true]
 have k:(a0X C::bm).contains (.type "AttributeError")=false:=by rw[a1K,hA];rfl
 have e:(a0X C::bm).contains (.type "NameError")=false:=by rw[a1K,hN];rfl
 refine codeAny_builtinAt F.entry ?_;unfold Builtin.«BaseException.__new__»;refine wpAt_bind ?_;show wpAt _ _ _ (stack >>= _) _ _ _;refine wpAt_bind (wpAt_stack λp below=>wpAt_of_wpAny ?_)
 wp_walk
 refine wpAt_of_wpAny ?_;rw[F.owner];repeat (first | with_reducible refine wpAny_madeHere_exc F.canon hC ?_ | with_reducible refine a0 hC ?_ | (with_reducible refine br hC ?_;first | rw[n] | rw[k] | rw[e]) | wp_step)
 show R _ _;rw[a9Z];exact hq
theorem YA (F:ib B newId fg Bl) (hB:bm.contains (.type B)=av) (hA:bm.contains (.type "AttributeError")=ay) (hN:bm.contains (.type "NameError")=ay)  (hC:h.get? C=am (excClassObj nm q C N bs bm hdct sn sub ab col dd k0 k1 k2 k3 k5 newId)) (hi:PySem.W.Looks (model prog w) h (e5 (.ref C) "__init__") (am init)) (hb:∀self:aw,PySem.W.Looks (model prog w) h (bindSpecial init self) (init,[self])) (hq:codeAny (model prog w) A (.call init #[.ref (h.objs.size+1)::rest,[]]) (λr s'=>match r with | .ok (.ret v)=>v = .none/\Q (.done (.ret (.ref (h.objs.size+1)))) s' | .ok _=>False | .error e=>E e s') #[MR h C rest,g,d,t,os]) (m:rest.length<=aB) :
   wpAny (model prog w) A (Builtin.«type.__call__» #[.ref C::rest,[]]) Q E #[h,g,d,t,os]:=by
 repeat (first | with_reducible refine a0 hC ?_ | with_reducible refine wpAny_madeBy_exc hC ?_ | wp_step)
 refine codeAny_call_builtin_code (Code.quiet_builtin _ F.quiet) (Y9 F hB hC ?_);refine A3a F hB hA hN hC ?_ m;show wpAny _ _ _ _ _ _;have n:(MR h C rest).get? C=_:=D5 _ _ hC;have i:(MR h C rest).get? (h.objs.size+1)=am (Y8 C h.objs.size):=P6;have o:(a0X C::bm).contains (.ref C)=true:=by simp
 unfold isInstance;repeat (first | with_reducible refine a0 i ?_ | (with_reducible refine br n ?_;rw[o]) | wp_step)
 show wpAny _ _ (e5 (.ref C) _) _ _ _;refine(hi.keeps D5).here (s:=#[MR h C rest,g,d,t,os]) ?_;refine bq (zZ (((hb _).keeps D5).here (s:=#[MR h C rest,g,d,t,os]) ?_));refine zZ (wpAny_call (xM hq λr s' z=>?_));rcases r with e | (v | _ | _ | _) <;> first | exact z | exact z.elim | skip
 obtain⟨rfl,z⟩:=z
 wp_walk
 exact z
theorem aZ (F:ib B newId fg Bl) (hB:bm.contains (.type B)=av) (hA:bm.contains (.type "AttributeError")=ay) (hN:bm.contains (.type "NameError")=ay)  (hC:h.get? C=am (excClassObj nm q C N bs bm hdct sn sub ab col dd k0 k1 k2 k3 k5 newId)) (hi:PySem.W.Looks (model prog w) h (e5 (.ref C) "__init__") (am init)) (hb:∀self:aw,PySem.W.Looks (model prog w) h (bindSpecial init self) (init,[self])) (hq:codeAny (model prog w) (A.under (.builtin "type.__call__" #[.ref C::rest,[]])) (.call init #[.ref (h.objs.size+1)::rest,[]]) (λr s'=>match r with | .ok (.ret v)=>v = .none/\Q (.ref (h.objs.size+1)) s' | .ok _=>False | .error e=>E e s') #[MR h C rest,g,d,t,os]) (n:rest.length<=aB) :
   wpAny (model prog w) A (call (.ref C) rest) Q E #[h,g,d,t,os]:=by
 have u:=tc_lookup;have L:=tc_bind (.ref C);have o:(#[h,g,d,t,os]:ax).TypeIs (.ref C) "type" := #[_,hC,rfl]
 refine wpAny_call (codeAny_of_tree ?_);show wpAny _ _ (callAny (.ref C) _) _ _ _;repeat (any_goals (first | assumption | with_reducible refine a0 hC ?_ | wp_step))
 refine#[rfl,?_];refine codeAny_call_builtin_at (Code.quiet_builtin _ (by decide +kernel)) entry_typeCall (wpAny_check_type_call_sub hC (YA F hB hA hN hC hi hb (xM hq λr s' z=>?_) n));rcases r with e | (v | _ | _ | _) <;> first | exact z | exact z.elim
theorem i9 (F:ib B newId fg Bl) (hB:bm.contains (.type B)=av)  (hC:h.get? C=am (excClassObj nm q C N bs bm hdct sn sub ab col dd k0 k1 k2 k3 k5 newId)) (hq:∀h' t',(∀b o,h.get? b=am o->h'.get? b=am o)->h'.get? (h.objs.size+1)=am (Y8 C t')->R (.ok (.ret .none)) #[h',g,d,t,os]) (r:rest.length<=aB) :
   codeAny (model prog w) A (.call (.builtin fg) #[.ref (h.objs.size+1)::rest,[]]) R #[MR h C rest,g,d,t,os]:=by
 have v:(MR h C rest).get? C=_:=D5 _ _ hC;have e:(MR h C rest).get? (h.objs.size+1)=am (Y8 C h.objs.size):=P6;have i:(a0X C::bm).contains (.type B)=true:=by rw[a1K,hB,Bool.or_true]
 have f:=F.noStar;refine codeAny_call_builtin F.init.plain F.initEntry ?_;simp only[checkBuiltinCall,F.initKind,F.initSplit,F.initRow];repeat (first | with_reducible refine a0 e ?_ | with_reducible refine a0 v ?_ | (with_reducible refine br v ?_;rw[i]) | wp_step)
 refine fk ?_;rw[show ∀(a b:String) (n:Nat),Bind.check #[.positional, "*", B,.self,[#["args", .varPos,ay]]] a b n (List.map (λx=>x.fst) ({ pos:=a0X (h.objs.size+1)::rest }:Args).kw)=pure () from
   λa b n=>check_star_args _ _ _ _ _ _];refine zY ?_
 wp_walk
 refine hq _ (h.objs.size+2) (λb o hb=>?_) ?_;. rw[yC _ _ (a9Q (b9Z (zM hb)))];exact zW _ (D5 _ _ hb)
 . rw[a3Q _ (zW _ e) rfl];simp only[a9Z];rfl
theorem TU (hbase:bm.contains (.type "BaseException")=av) (hh:A.handled=ap) (hx:wpAny (model prog w) A x (λv n=>∃e t D,v = .ref e/\n.heap.get? C=am (excClassObj nm q C N bs bm hdct sn sub ab col dd k0 k1 k2 k3 k5 newId) /\
     n.heap.get? e=am { cls:=.ref C,dict:=D,data:=.fields (y9 [.ref t,.none,.none,.none,.bool ay,.none]) }/\E (.ref e) n) E s) :
   wpAny (model prog w) A (raiseStmt env (am x) ap) Q E s:=by
 have o:(a0X C::bm).contains (.type "BaseException")=true:=by rw[a1K,hbase,Bool.or_true]
 unfold raiseStmt;refine zZ (bc hx (λv n j=>?_) λ_ _ x=>x);obtain⟨e,t,D,rfl,hC,z,hE⟩:=j;obtain⟨hp,g,d,i,os⟩:=n;repeat (first | with_reducible refine a0 z ?_ | with_reducible refine a0 hC ?_ | (with_reducible refine br hC ?_;rw[o]) | wp_step)
 exact wpAny_raiseNew_none hh hE
end
end XC
namespace XC
open PySem PySem.Spec PySem.W Builtin Builtin.ObjectAttr
section
theorem uU (X:K.In s.heap) (hx:s.heap.get? x=am o) (hc:o.cls = .ref C) (h:o.dict=ap) (p:o.data = .fields vs) (i:clsIn K C=am cd) (r:cd.mro.contains (.type "object")=av) (hp:∀self,refuseLoop self "__setattr__" cd.mro=pure ()) (B:takerIn K C name=am ap) (hh:cd.hasDict=av) (hq:∀h' Q D,s.heap.objs.size<=D->h'.get? x=am { o with dict:=am D }->h'.Ns1 D (λy=>if y=name then am v else ap)->(∀b u,b≠x->s.heap.get? b=am u->h'.get? b=am u) ->
     R (.ok (.ret .none)) { s with heap:=h',toks:=Q }) :
   codeAny (model prog w) A (.call (.builtin "object.__setattr__") #[[.ref x,.str name tk,v],[]]) R s:=by
 have SF:=PySem.F.store_object;have L:cd.mro.isEmpty=false:=by cases q:cd.mro with | nil=>rw[q] at r;cases r | cons _ _=>rfl
 have ty:Looks (model prog w) s.heap (typeOf (.ref x)) (.ref C):=(Looks.ld hx).andThen (by rw[hc];exact .now);have sub:Looks (model prog w) s.heap (isInstance (.ref x) (.type "object")) true:=ty.andThen (looks_mroIn X (by unfold mroIn;rw[i,Option.bind_some,if_neg (by rw[L];decide),r]));refine codeAny_call_builtin SF.slot.plain SF.entry (@check_slot (model prog w) _ _ s "object.__setattr__" "object" "__setattr__" (.ref x) [.str name tk,v] [] _ SF.kind SF.split sub (SF.args (.ref x) (.str name tk) v) ?_);obtain⟨attr,S,hr⟩:=Option.bind_eq_some_iff.mp B;have k:Looks (model prog w) s.heap (mroOf (.ref C)) cd.mro:=(looks_clsIn X i).andThen .now;have j:Looks (model prog w) s.heap (storeTaker? attr) none:=by
   cases attr with
   | none=>cases hr;exact .now
   | some a=> obtain⟨b,hb,e⟩:=Option.map_eq_some_iff.mp hr;refine(looks_takesIn X hb).andThen ?_;cases b <;> first | exact .now | cases e
 rw[osa_eq,refuse_eq];refine zZ (zZ (ty.here (zZ (k.here ?_))));rw[hp];refine zY (zZ (ty.here (zZ ((looks_findIn X S).here (zZ (j.here ?_))))));obtain⟨n,g,d,t,os⟩:=s;obtain⟨oc,od,Y,osl⟩:=o;dsimp only at hc h p hq;subst hc h p;have m:n.get? x=am #[.ref C,ap,.fields vs,osl]:=hx;refine zZ (zY (zZ (zZ (wpAny_loadPart m (zZ ((looks_clsIn X i).here ?_))))));rw[hh];have c:(n.push { cls:=.type "dict", data:=.dict #[] }).get? x=am #[.ref C,ap,.fields vs,osl]:=zW _ m;have f:x≠n.objs.size:=zC (zM m);refine zZ (wpAny_alloc' ?_);refine zZ (wpAny_update' c ?_);refine zY (a:=am n.objs.size) ?_;have z:((n.push { cls:=.type "dict", data:=.dict #[] }).update x λo=>{ cls:=o.cls,dict:=am n.objs.size,data:=o.data,slots:=o.slots }).get? n.objs.size
     = am { cls:=.type "dict", data:=.dict #[] }:=
   (yB _ _ _ _ f.symm).trans (Heap.get?_push_at rfl rfl);have G:((n.push { cls:=.type "dict", data:=.dict #[] }).update x λo=>{ cls:=o.cls,dict:=am n.objs.size,data:=o.data,slots:=o.slots }).Ns n.objs.size (λ_=>ap):=#[_,#[],_,z,rfl,λe M=>absurd M (by simp),λ_=>rfl]
 show wpAny _ _ (storeInDict n.objs.size (.str name tk) name v) _ _ _;unfold storeInDict newKeyGuard;refine zZ (zY (zZ (wpAny_nsSet1 (Heap.Ns1.of_empty G) λh' J hs=>?_)));obtain⟨oD,Z,U,T,N,O⟩:=J.count (Within.cons name v Within.nil);refine zZ (wpAny_lookBehind T (by rw[N];exact pastItsLine_dict (zN O (by rw[yR,a6J,c3];omega))) ?_);refine zY (hq h' _ n.objs.size (zR _) ?_ J λb u I hb=>?_);. exact(hs.2 x f).trans (a3Q _ c rfl)
 . exact(hs.2 b (zC (zM hb))).trans ((yB _ _ _ _ I).trans (zW _ hb))
theorem uV (X:K.In s.heap) (hx:s.heap.get? x=am o) (hc:o.cls = .ref C) (e:o.dict=ap) (p:o.data = .fields vs) (hs:findIn K (.ref C) "__setattr__"=am (am (.builtin "object.__setattr__"))) (i:clsIn K C=am cd) (t:cd.mro.contains (.type "object")=av) (hp:∀self,refuseLoop self "__setattr__" cd.mro=pure ()) (r:takerIn K C name=am ap) (hh:cd.hasDict=av) (hq:∀h' n D,s.heap.objs.size<=D->h'.get? x=am { o with dict:=am D }->h'.Ns1 D (λy=>if y=name then am v else ap)->(∀b u,b≠x->s.heap.get? b=am u->h'.get? b=am u) ->
     Q () { s with heap:=h',toks:=n }) :
   wpAny (model prog w) A (setAttr (.ref x) name v) Q E s:=by
 have J:InstAt s.heap x o C none:=#[hx,hc,by obtain⟨_,_,_,_⟩:=o;cases p;rfl,by rw[e];trivial]
 exact set_plain X J hs (uU (s:={ s with toks:=s.toks+1 }) X hx hc e p i t hp r hh λh' n D a b c d=>hq h' n D a b c d)
end
end XC
namespace XC
open PySem PySem.Spec L2
open PyProof.Rows (envOfC AllBare)
abbrev St:=L2.St
theorem TV (ok:HOk P w H h) (m:Moved fs ch h h') (t:∀b∈fs,H b=ap) (L:∀b∈ch,H b=ap):HOk P w H h':=λa o e=>by
 have r:∀b u,H b=am u->b∉fs/\b∉ch:=λb u q=>#[λz=>(by rw[t b z] at q;cases q),λz=>(by rw[L b z] at q;cases q)]
 refine(ok a o e).stay (λb u hb q=>?_) (λ_ q=>q) λ_ _ q=>q;rcases hb with rfl | hb;. exact m.keep b u q (r b o e).1 (r b o e).2
 . exact m.keep b u q (r b _ hb).1 (r b _ hb).2
def nQ (dd:Option Addr) (H:Hp):Prop:=∃d v,dd=am d/\H d=am (.xd [(a0Q "number", v)])
def CXE (P:bh) (w:bd):CXT:=λouter H s E e s'=>∃(a T:Addr) (cls:aw) (Y:Option Addr) (n:aw) (H':Hp),e = .ref a/\s'.os=s.os/\g0 s'.gens/\Un (frs outer) [] H H' s.heap s'.heap/\HOk P w H' s'.heap /\
 MQ s'.heap a cls Y n (am T) .none/\s.heap.objs.size<=a/\s.heap.objs.size<=T/\H' a=ap/\H' T=ap/\(n = .none\/nQ Y H')/\E cls Y H'
structure Loose (X:Cx) (H:Hp) (b:Addr):Prop where
 above:X.s₀.heap.objs.size<=b
 loc:b≠X.env.locals
 cel:∀x c,X.env.cells.lookup x=am c->c≠b
 fre:H b=ap
 pn:∀p∈X.pn,p.1≠b
theorem Loose.of {X:Cx}{pins:List (Addr×cr)}{t:St}{H H':Hp}{s:ax}{b:Addr}(I:Inv X pins t H s) (h:s.heap.objs.size<=b) (f:H' b=ap):Loose X H' b:=by
 refine#[zN I.sz h,λz=>?_,λx c e z=>?_,f,λp hp z=>?_];. have:=I.lt;rw[<-z] at this;exact absurd (zP this h) (yF _)
 . obtain⟨v,o,ho,_⟩:=I.cell x c e;have:=zM ho;rw[z] at this;exact absurd (zP this h) (yF _)
 . have:=zM (I.pin p (zA _ hp)).1;rw[z] at this;exact absurd (zP this h) (yF _)
def Fly (X:Cx) (R:St->XK) (e:aw) (s':ax):Prop:=∃(a:Addr) (T:Option Addr) (cls:aw) (Y:Option Addr) (o:aw) (i:St) (H:Hp) (n:aw),e = .ref a/\Inv X [] i H s'/\(MQ s'.heap a cls Y o T n/\(n = .none\/(T≠ap/\n=dZl X.env.locals)))/\Loose X H a/\(∀t,T=am t->Loose X H t)/\(o = .none\/nQ Y H)/\R i cls Y H
theorem VC {e:St}(I:Inv X pins e H s):Inv X [] e H s:=I.pins_of λp hp=>nomatch hp
theorem nR {n:St}(I:Inv (X.wish (Fly X R)) pins n H s) (h:CXE X.prog X.w X.stack H s (R n) e s'):Fly X R e s':=by obtain⟨a,T,cls,Y,i,H',rfl,c,bare,un,hok,x,h1,m,u,L,p,r⟩:=h;have o:=I.unwish;have J:Inv X pins n H' s':=o.call' (ch:=[]) c un hok bare λb z=>absurd z (by simp);exact#[a,am T,cls,Y,i,n,H',.none,rfl,VC J,#[x,.inl rfl],Loose.of o h1 u,λt e=>(by cases e;exact Loose.of o m L),p,r]
def VD (sp:Sp) (R:St->XK) (t:TA):TE:=λe H Q=>t e H λo n=>sp o n Q (R e)
theorem nS {X:Cx}{R:St->XK}{k:Nat}{f:Addr}{i:ee}{ps:List Str}{sp:Sp}{x:Str}{p pos:eH}{e:bn}{es:List bn}{t:TA}(F:FnOk X.prog X.w X.K X.mg X.base (CXE X.prog X.w) k f i ps sp) (hr:Room k X.A) (hg:Gl X x) (O:X.mg x=am (.ref f)) (hk:a3W X.K (.ref f)=av) (hb:Binds X.K i ps []) (z:PA (X.wish (Fly X R)) (e::es) t) (j:(x==("__debug__":Str))=false:=by decide) (T:starEach (e::es) X.env=(ay,eval e X.env)::starEach es X.env:=by rfl) (y:(backTo pos (starEach es X.env)).any (·.1)=false:=by rfl) :
   PE (X.wish (Fly X R)) (.Call (.Name x p) (e::es) [] pos) (VD sp R t):=by
 intro pins s c H Q I h;refine c0 (G5 (X:=X.wish (Fly X R)) I hg O ?_ j);refine b6K (h₀:=X.base) I.ok.mod.kin hk (thn (z pos pins s c H _ I h) λo m #[b,g,n,r,q]=>#[n.kIn,?_]) T y;have N:(o++[]).length=ps.length:=by rw[a2Q,<-r.length];exact F.len _ _ _ _ q
 have S:Vals b (o++[]):=by rw[a2Q];exact r
 refine wpAny_call (xM (F.run X.A X.stack m g #[o,[]] (o++[]) b Q (R c) hr n.env0 (hb m o n.kIn N) S q) λJ s' hq=>?_);cases J with
 | error e=>exact nR n hq
 | ok v=>
   cases v with
   | ret u=>exact n.after hq
   | next=>exact a6W hq
   | brk=>exact a6W hq
   | cont=>exact a6W hq
theorem BW {t:St}(I:Inv X pins t H s) (m:Moved (frs X.stack) ch s.heap h') (e:∀b∈ch,H b=ap/\X.s₀.heap.objs.size<=b/\b≠X.env.locals/\(∀x c,X.env.cells.lookup x=am c->c≠b)/\∀p∈X.pn++pins,p.1≠b) :
   Inv X pins t H { s with heap:=h' }:=by
 refine I.call' (s':={ s with heap:=h' }) (ch:=ch) rfl #[λb o q n f c=>m.keep b o q f c,λb o q n f c=>m.slot b o q c,λ_ _ _ n _=>n,λb o q _=>m.there b o q,λ_ _ q=>q,λ_ _ _ q=>q,λb Q q=>#[#[],by rw[q];simp]]
   (TV I.hok m I.stkFree λb hb=>(e b hb).1) I.bare λb hb=>#[.inr (e b hb).2.1,(e b hb).2.2]
theorem Loose.ch (l:Loose X H b):H b=ap/\X.s₀.heap.objs.size<=b/\b≠X.env.locals/\(∀x c,X.env.cells.lookup x=am c->c≠b)/\∀p∈X.pn++[],p.1≠b:=#[l.fre,l.above,l.loc,l.cel,λp hp=>l.pn p (by simpa using hp)]
theorem bA {X:Cx}{R:St->XK}(o:X.stack=X.env::X.outer) (G:X.env.frame=am X.env.locals):PassesOwn (model X.prog X.w) X.A X.env (Fly X R):=λe s' h=>by
 obtain⟨a,T,cls,Y,k,i,H,J,rfl,I,⟨x,S⟩,c,p,L,r⟩:=h;have u:X.A.frames=am (X.env::X.outer):=by rw[<-o];exact I.ok.frames
 have N:s'.heap.FunFrames X.base (X.env::X.outer):=by rw[<-o];exact I.stack
 refine JJ u N G x S λn U g O f=>?_;have B:(X.env::X.outer).filterMap (·.frame)=frs X.stack:=by rw[o];rfl
 rw[B] at f;have j:Inv X [] i H { s' with heap:=n }:=BW I f λb hb=>by
   rcases yX.mp hb with q | q;. rw[q];exact c.ch
   . exact(p b (by cases T with | none=>simp at q | some t=>simp at q;rw[q])).ch
 have m:Loose X H U:=O.elim (λz=>p U z) λz=>Loose.of I z.2 (I.hok.fresh z.2);obtain⟨Z,vs,y,hc,uc,hd,h0,h1,sr,_⟩:=id g;unfold cameBackBy;refine zZ (bf (s:={ s' with heap:=n }) y hd h1 ?_);rw[if_neg (by simp)];rw[G];refine QO (s:={ s' with heap:=n }) g λv D Q=>?_;have M:Inv X [] i H { s' with heap:=v }:=BW (s:={ s' with heap:=n }) (ch:=[U]) j (Q.mono (λb z=>absurd z (by simp)) λb z=>z) λb hb=>by
   have:b=U:=by simpa using hb
   rw[this];exact m.ch
 exact#[a,am U,cls,Y,k,i,H,_,rfl,M,#[D,.inr #[by simp,rfl]],c,λt e=>(by cases e;exact m),L,r]
section
theorem A1k  (h:Fly (IA (CXE P w) P w K mg base N qual scope f cd A outer s H E) (λ_=>E) e s'):(IA (CXE P w) P w K mg base N qual scope f cd A outer s H E).xe e s':=by
 obtain⟨a,T,cls,Y,y,σ,H',Z,rfl,I,⟨x,M⟩,X,i,O,r⟩:=h;have D:=I.stack;have v:=I.stkFree;refine i8 (base:=base) (env:=gc qual scope s.heap.objs.size f cd) (outer:=outer) (L:=s.heap.objs.size) I.ok.frames D rfl x M λh' U Q z m=>?_;have G:∀b∈(gc qual scope s.heap.objs.size f cd::outer).filterMap (·.frame),H' b=none:=v;have g:∀b∈a::T.toList,Loose (IA (CXE P w) P w K mg base N qual scope f cd A outer s H E) H' b:=λb hb=>by
   rcases yX.mp hb with q | q;. rw[q];exact X
   . exact i b (by cases T with | none=>simp at q | some t=>simp at q;rw[q])
 have j:∀b o,s.heap.get? b=am o->b∉a::T.toList:=λb o q hb=>absurd (zP (zM q) (g b hb).above) (yF _);have u:∀b o,s.heap.get? b=am o->b∉frs outer->b∉(gc qual scope s.heap.objs.size f cd::outer).filterMap (·.frame):=λb o q n hb=>by
   rcases yX.mp (show b∈s.heap.objs.size::frs outer from hb) with z | z;. rw[z] at q;exact absurd (zM q) (yF _)
   . exact n z
 have B:=I.base;have hok:=TV I.hok m G λb hb=>(g b hb).fre;have sz:=I.sz;have c:s.heap.objs.size<=U/\H' U=none:=by
   rcases z with z | z;. exact#[(i U z).above,(i U z).fre]
   . exact#[zN sz z,I.hok.fresh z]
 refine#[a,U,cls,Y,y,H',rfl,I.os,I.bare,#[λb o q n hb hx=>?_,λb o q n hb hx=>?_,B.free,λb o q hx=>?_,B.tups,B.frzs,B.tbls],hok,Q,X.above,c.1,X.fre,c.2,O,r];. exact m.keep b o (B.keep b o q n hb hx) (u b o q hb) (j b o q)
 . obtain⟨sl,p⟩:=B.slot b o q n hb hx;obtain⟨k,J⟩:=m.slot b _ p (j b o q);exact#[k,J]
 . obtain⟨S,p⟩:=B.there b o q hx;exact m.there b S p
theorem nT (h:PSs (X.wish E) st t) (hE:∀e s,E e s->X.xe e s):PSs X st t:=λpins s n H D I G=>
 bc (h pins s n H D (I.wish _) G) (λ_ _ q=>q.unwish) hE
theorem A4Q (F:Fun K x qual st f n) (S:FnScope N ps (AB st)) (len:∀vs H Q E,sp vs H Q E->vs.length=ps.length) (o:∀(cdv:aw) (A:bv) (outer:List im) (s:ax) (H:Hp) (vs:List V) (Q:VK) (E:XK),Room k (A.deeper (gc qual (AB st) s.heap.objs.size f cdv))->sp vs H Q E ->∃t,PSs ((IA (CXE P w) P w K mg base N qual (AB st) f cdv A outer s H E).wish (Fly (IA (CXE P w) P w K mg base N qual (AB st) f cdv A outer s H E) λ_=>E)) (BB st) t/\t { nx:=λ_ H'=>Q .non H',rt:=Q } (start N vs) H):FnOk P w K mg base (CXE P w) (k+1) f n ps sp:=by obtain⟨u,m,kV,doc,p,c,cdv,I,osl,rfl,r,i⟩:=F.ex;refine xS r i S len λA outer s H vs Q E hr D=>?_;obtain⟨t,h,q⟩:=o cdv A outer s H vs Q E hr D;exact#[t,nT h λe s' z=>A1k z,q]
end
end XC
namespace XC
open PySem PySem.Spec L2
open PyProof.Rows (envOfC AllBare)
abbrev bmV:List Value:=[.type "ValueError", .type "Exception", .type "BaseException", .type "object"]
structure XCls (K:Frg) (C S:Addr) (init:aw):Prop where
 lk:∃(nm q:Str) (N:Addr) (bs:List aw) (sn:List Str) (sub:List aw) (ab:Bool) (col:Option Bool) (dd:Option Addr) (k0 k1 k2 k3 k5:Option aw),K.lookup C=am (excClassObj nm q C N bs (.ref S::bmV) av sn sub ab col dd k0 k1 k2 k3 k5 "ValueError.__new__")
 init:a8K K (.ref C) "__init__"=am (am init)
 kp:a3W K (.ref C)=av
theorem P7 :(a0X S::bmV).contains (.type "ValueError")=true:=by rw[a1K];rfl
theorem VE :(a0X S::bmV).contains (.type "AttributeError")=false:=by rw[a1K];rfl
theorem VF :(a0X S::bmV).contains (.type "NameError")=false:=by rw[a1K];rfl
theorem MS :(a0X S::bmV).contains (.type "BaseException")=true:=by rw[a1K];rfl
section
variable {X:Cx}{R:St->XK}{C S f:Addr}{x:Str}{np ag pos:eH}
def dM (C:Addr) (R:St->XK):TS:=λ_ e H=>R e (.ref C) ap H
theorem iA (c:XCls X.K C S (.builtin "ValueError.__init__")) (hg:Gl X x) (j:X.mg x=am (.ref C)) (hh:X.A.handled=ap) (r:(x==("__debug__":Str))=false:=by decide) :
   PS (X.wish (Fly X R)) (.Raise (am (.Call (.Name x np) [] [] ag)) ap pos) (dM C R):=by
 intro pins s i H D I h;have F:=b6Z;obtain⟨nm,q,N,bs,sn,sub,ab,col,dd,k0,k1,k2,k3,k5,u⟩:=c.lk;have T:=I.unwish;have hC:=T.kIn _ _ u;rw[arm_exec_Raise];refine zZ (bt (TU (C:=C) (hbase:=MS (S:=S)) (hh:=hh) (nm:=nm) (q:=q) (N:=N) (bs:=bs) (hdct:=av) (sn:=sn) (sub:=sub) (ab:=ab) (col:=col) (dd:=dd) (k0:=k0) (k1:=k1) (k2:=k2) (k3:=k3) (k5:=k5) (newId:= "ValueError.__new__") ?_));refine zZ (thn (c0 (G5 I (X:=X.wish (Fly X R)) hg j (PySem.W.callWith_K0 (X:=T.kIn) c.kp (Q:=λv n=>∃e t m,v = .ref e/\n.heap.get? C=am (excClassObj nm q C N bs (.ref S::bmV) av sn sub ab col dd k0 k1 k2 k3 k5 "ValueError.__new__") /\
     n.heap.get? e=am { cls:=.ref C,dict:=m,data:=.fields (y9 [.ref t,.none,.none,.none,.bool ay,.none]) }/\Fly X R (.ref e) n) ?_) r)) λv z b=>zZ (bt (zY b)));obtain⟨hp,g,d,t,y⟩:=s;refine aZ F P7 VE VF hC (c0K T.kIn c.init) (λself=>PySem.W.Looks.of_pure (F.init.bind self)) (i9 F P7 hC (λp t' k o=>?_) (xR _)) (xR _);have J:Inv X pins i H #[p,g,d,t,y]:=T.kept (t':=t) k;have sz:hp.objs.size<=hp.objs.size+1:=a4V _;exact#[rfl,hp.objs.size+1,t',ap,rfl,k _ _ hC,o,hp.objs.size+1,ap,.ref C,ap,.none,i,H,.none,rfl,VC J,#[#[_,_,o,rfl,rfl,rfl,rfl,rfl],.inl rfl],Loose.of T sz (T.hok.fresh sz),λt e=>(by cases e),.inl rfl,h]
end
end XC
namespace XC
open PySem PySem.Spec L2
open PyProof.Rows (envOfC AllBare)
def xo (e C t:Addr) (D:Option Addr):HO:=.ext λh=>h.get? e=am { cls:=.ref C,dict:=D,data:=.fields (y9 [.ref t,.none,.none,.none,.bool ay,.none]) }
theorem nU (q:h.get? e=am { cls:=.ref C,dict:=D,data:=.fields (y9 [.ref t,.none,.none,.none,.bool ay,.none]) }):ObjOk P w H h e (xo e C t D):=#[q,#[_,q],λ_ _ a b=>b _ a]
structure XSet (K:Frg) (C:Addr) (fn:Str):Prop where
 sa:a8K K (.ref C) "__setattr__"=am (am (.builtin "object.__setattr__"))
 ta:PySem.W.takerIn K C fn=am ap
def sX (C:Addr) (fn:Str) (T i:TE):TS:=λD n H=>i n H λy o=>T n o λx c=>∃e t,x = .ref e/\c e=am (xo e C t ap) /\∀d,c d=ap->d≠e->D.nx n (upd (upd c d (.xd [(fn,y)])) e (xo e C t (am d)))
section
theorem nV{X:Cx}{pins:List (Addr×cr)}{σ:St}{H:Hp}{s:ax} {D:Addr}(I:Inv X pins σ H s) (r:H e=am (xo e C t ap)) (Z:RelV y u) (hd:s.heap.objs.size<=D) (N:h'.get? e=am { cls:=.ref C,dict:=am D,data:=.fields (y9 [.ref t,.none,.none,.none,.bool ay,.none]) }) (J:h'.Ns1 D (λz=>if z=fn then am u else ap)) (k:∀b o,b≠e->s.heap.get? b=am o->h'.get? b=am o):Inv X pins σ (upd (upd H D (.xd [(fn,y)])) e (xo e C t (am D))) { s with heap:=h',toks:=t' }:=by
 have p:H D=none:=I.hok.fresh hd;have T:D≠e:=λz=>by rw[z,r] at p;cases p
 have x:∀b o,s.heap.get? b=am o->b≠D:=λb o q z=>by rw[z] at q;exact absurd (zP (zM q) hd) (yF _)
 have same:∀b,b≠e->b≠D->upd (upd H D (.xd [(fn,y)])) e (xo e C t (am D)) b=H b:=λb h1 j=>by rw[AG h1,AG j]
 have L:∀b o,H b=am o->b≠D:=λb o q z=>by rw[z,p] at q;cases q
 refine I.un #[λb o q n _ _=>k b o (λz=>by rw[z,r] at n;cases n) q,λb o q n _ _=>#[o.slots,k b o (λz=>by rw[z,r] at n;cases n) q],λb o q n _=>?_,λb o q _=>?_,λb g q=>?_,λb o g q=>?_,λb Q q=>#[#[],?_]] λb o q=>?_;. rw[same b (λz=>by rw[z,r] at n;cases n) (x b o q)];exact n
 . by_cases z:b=e;. rw[z];exact#[_,N]
   . exact#[o,k b o z q]
 . rw[same b (λz=>by rw[z,r] at q;cases q) (L b _ q)];exact q
 . rw[same b (λz=>by rw[z,r] at q;cases q) (L b _ q)];exact q
 . rw[same b (λz=>by rw[z,r] at q;cases q) (L b _ q)];rw[q];simp
 . by_cases z:b=e;. subst z;rw[AE] at q;cases q;exact nU N
   . by_cases h:b=D
     . subst h;rw[AG z,AE] at q;cases q;refine#[_,J,λf=>?_];by_cases m:f=fn;. subst m;simp[List.lookup];exact Z
       . have:(f==fn)=false:=by simp[m]
         simp[List.lookup,this,m,RelO]
     . rw[same b z h] at q;refine(I.hok b o q).stay (λc v hc i=>k c v ?_ i) (λc i=>?_) λc g i=>?_
       . rcases hc with rfl | hc;. exact z
         . rintro rfl;rw[r] at hc;cases hc
       . rw[same c (λz=>by rw[z,r] at i;cases i) (L c _ i)];exact i
       . rw[same c (λz=>by rw[z,r] at i;cases i) (L c _ i)];exact i
theorem dN (c:XCls X.K C S init) (cs:XSet X.K C fn) (v:PE X o T) (O:PE X value p) (hs:gj value (am (.Attribute o fn pos')) pos.line X.env=pure ay) :
   PS X (.Assign [.Attribute o fn pos'] value pos) (sX C fn T p):=by
 intro pins s σ H D I h;refine plainObj_wpAny_Assign_Attribute (thn (O pins s σ H _ I h) λu U #[y,b,g,Z,q]=>thn (v pins U σ b _ g q) λJ s2 Y=>?_) hs;obtain⟨x,f,n,Q,e,t,k,r,L⟩:=Y;subst k;obtain rfl:J=a0X e:=Q;obtain⟨G,q,N,bs,sn,sub,M,col,dd,k0,k1,k2,k3,k5,B⟩:=c.lk;have hx:=(n.hok e _ r).1;refine uV (cd:={ name:=G,bases:=bs,mro:=.ref C::.ref S::bmV,ns:=N,qualname:=q,hasDict:=av,slotNames:=sn,subclasses:=sub,abstract:=M,collection:=col,hasDel:=ay }) n.kIn hx rfl rfl rfl cs.sa (by unfold PySem.W.clsIn;rw[B]) (by rw[a1K,a1K];rfl)
   (λself=>by show refuseLoop self "__setattr__" (.ref C::.ref S::bmV)=pure ();rw[refuseLoop_ref,refuseLoop_ref];exact PySem.F.store_ValueError.passes self) cs.ta rfl λh' yx i z1 z2 z3 z4=>?_;have m:f i=none:=n.hok.fresh z1;have j:i≠e:=λz=>by rw[z,r] at m;cases m
 exact#[σ,_,nV (t':=yx) n r Z z1 z2 z3 z4,L i m j]
end
def F4 (C:Addr) (fn:Str):Sp:=λn H Q _=>∃e v t,n=[.ref e,v]/\H e=am (xo e C t ap)/\∀d,H d=ap->d≠e->Q .non (upd (upd H d (.xd [(fn,v)])) e (xo e C t (am d)))
theorem QR {j:St}(I:Inv X pins j (upd H e (xo e C t D)) s) (hn:H e=ap) (v:X.s₀.heap.objs.size<=e):Inv X pins j H s:=by
 have B:=I.base;have h:∀b,b≠e->upd H e (xo e C t D) b=H b:=λb z=>AG z;have y:∀b o,X.s₀.heap.get? b=am o->b≠e:=λb o q z=>by rw[z] at q;exact absurd (zP (zM q) v) (yF _)
 have r:∀b,upd H e (xo e C t D) b=ap->H b=none:=λb q=>by
   by_cases z:b=e;. rw[z];exact hn
   . rw[h b z] at q;exact q
 have i:∀{b o},upd H e (xo e C t D) b=am o->o≠xo e C t D->H b=am o:=λ{b o} q N=>by
   by_cases z:b=e;. rw[z,AE] at q;cases q;exact absurd rfl N
   . rw[h b z] at q;exact q
 refine#[I.ok,I.os,I.bare,#[B.keep,B.slot,λb o q n hx=>r b (B.free b o q n hx),B.there,λb f q=>i (B.tups b f q) (by unfold xo;simp),λb o f q=>i (B.frzs b o f q) (by unfold xo;simp),λb Q q=>?_],I.loc,I.cell,r _ I.free,λx c q=>r _ (I.freeC x c q),λp hp=>?_,λb o q=>?_,I.len];. obtain⟨m,g⟩:=B.tbls b Q q;exact#[m,i g (by unfold xo;simp)]
 . obtain⟨k,u,T⟩:=I.pin p hp;exact#[k,r _ u,T]
 . have z:b≠e:=λz=>by rw[z,hn] at q;cases q
   have g:upd H e (xo e C t D) b=am o:=by rw[h b z];exact q
   exact(I.hok b o g).stay (λ_ _ _ a=>a) (λc a=>i a (by unfold xo;simp)) λc f a=>i a (by unfold xo;simp)
section
variable {X:Cx}{R:St->XK}{C S f:Addr}{x fn:Str}{np ag pos:eH}{arg:bn}{t:TA}{k:Nat}{fd:ee}{ps:List Str}
def VG (C:Addr) (fn:Str) (R:St->XK) (t:TA):TS:=λ_ n H=>t n H λo e=>∃v,o=[v]/\∀d,e d=ap->R n (.ref C) (am d) (upd e d (.xd [(fn,v)]))
theorem iB (c:XCls X.K C S (.ref f)) (wb:b5Q X.K (.ref f)=av) (F:FnOk X.prog X.w X.K X.mg X.base CX0 k f fd ps (F4 C fn)) (hb:Binds X.K fd ps []) (hr:Room (k+1) X.A) (hg:Gl X x) (hm:X.mg x=am (.ref C)) (ha:PA (X.wish (Fly X R)) [arg] t) (du:(x==("__debug__":Str))=false:=by decide) (he:starEach [arg] X.env=[(ay,eval arg X.env)]:=by rfl) :
   PS (X.wish (Fly X R)) (.Raise (am (.Call (.Name x np) [arg] [] ag)) ap pos) (VG C fn R t):=by
 intro pins s p H D I h;have FB:=b6Z;obtain⟨nm,q,N,bs,sn,sub,ab,col,dd,k0,k1,k2,k3,k5,L⟩:=c.lk;rw[arm_exec_Raise];refine zZ (bt (TU (C:=C) (hbase:=MS (S:=S)) (hh:=hr.hd) (nm:=nm) (q:=q) (N:=N) (bs:=bs) (hdct:=av) (sn:=sn) (sub:=sub) (ab:=ab) (col:=col) (dd:=dd) (k0:=k0) (k1:=k1) (k2:=k2) (k3:=k3) (k5:=k5) (newId:= "ValueError.__new__") ?_));refine zZ (thn (c0 (G5 I (X:=X.wish (Fly X R)) hg hm (b6K (h₀:=X.base) I.ok.mod.kin c.kp (Q:=λv o=>∃e t dx,v = .ref e/\o.heap.get? C=am (excClassObj nm q C N bs (.ref S::bmV) av sn sub ab col dd k0 k1 k2 k3 k5 "ValueError.__new__") /\
     o.heap.get? e=am { cls:=.ref C,dict:=dx,data:=.fields (y9 [.ref t,.none,.none,.none,.bool ay,.none]) }/\Fly X R (.ref e) o) (thn (ha ag pins s p H _ I h) λus s1 #[vs,i,O,r,v,ev,q1]=>#[O.kIn,?_]) he rfl) du)) λv s3 h3=>zZ (bt (zY h3)));subst ev;obtain⟨u,rfl,ru⟩:∃u,us=[u]/\RelV v u:=by cases r with | cons a b=>cases b;exact#[_,rfl,a]
 have T:=O.unwish;have hC:=T.kIn _ _ L;obtain⟨hp,g,d,U,os⟩:=s1;have kk:=D5 (h:=hp) (C:=C) (rest:=[u]);have wu:=P6 (h:=hp) (C:=C) (rest:=[u]);have m:Inv X pins p (upd i (hp.objs.size+1) (xo (hp.objs.size+1) C hp.objs.size ap)) #[MR hp C [u],g,d,U,os]:=T.laid (a:=hp.objs.size+1) (t':=U) kk (a4V _) (nU wu);have Fg:i (hp.objs.size+1)=none:=T.hok.fresh (a4V _);have r2:Vals [V.ref (hp.objs.size+1),v] [a0X (hp.objs.size+1),u]:=.cons rfl (.cons ru .nil);have G:F4 C fn [V.ref (hp.objs.size+1),v] (upd i (hp.objs.size+1) (xo (hp.objs.size+1) C hp.objs.size ap)) (λw y=>w = .non/\∃n,i n=ap/\n≠hp.objs.size+1/\y=upd (upd i n (.xd [(fn,v)])) (hp.objs.size+1) (xo (hp.objs.size+1) C hp.objs.size (am n))) (λ_ _ _=>False):=by refine#[_,v,hp.objs.size,rfl,AE,λn J B=>#[rfl,n,by rw[AG B] at J;exact J,B,?_]];funext b;unfold upd;by_cases z:b=hp.objs.size+1 <;> simp[z]
 have hl:([a0X (hp.objs.size+1),u]++[]).length=ps.length:=by have:=F.len _ _ _ _ G;simpa using this
 refine aZ FB P7 VE VF hC (c0K T.kIn c.init) (λself=>PySem.W.bind_fn T.kIn self (beq_iff_eq.mp wb)) (xM (F.run _ X.stack _ _ #[[a0X (hp.objs.size+1),u],[]] ([a0X (hp.objs.size+1),u]++[]) _ _ _ (hr.make C [u] []) (m.env0.make C [u] []) (hb _ [a0X (hp.objs.size+1),u] m.kIn hl) r2 G) λr' s' j=>?_) (by show 1<=aB;decide);rcases r' with e | (w | _ | _ | _) <;> first | exact j.elim | skip
 obtain⟨w',y,M,iy,rfl,n,Z,hd2,rfl⟩:=m.after j;have hx:=(M.hok _ _ AE).1;have Y:(upd i n (.xd [(fn,v)])) (hp.objs.size+1)=none:=by rw[AG (a4K hd2)];exact Fg
 have Cz:X.s₀.heap.objs.size<=hp.objs.size+1:=zN T.sz (a4V _);have I4:=QR M Y Cz;refine#[iy,hp.objs.size+1,hp.objs.size,am n,rfl,M.kIn _ _ L,hx,hp.objs.size+1,ap,.ref C,am n,.none,p,_,.none,rfl,VC I4,#[#[_,_,hx,rfl,rfl,rfl,rfl,rfl],.inl rfl],Loose.of T (a4V _) Y,λt e=>(by cases e),.inl rfl,q1 n Z]
end
end XC
namespace XC
open PySem PySem.Spec L2
open PyProof.Rows (envOfC AllBare)
def XM (K:Frg) (C D:Addr):Prop:=∀(prog:bh) (w:bd) (A:bv) (E:aw->ax->Prop) (s:ax) (e:Addr) (p:cr) (Q:Bool->ax->Prop),K.In s.heap->s.heap.get? e=am p->p.cls = .ref C->Q av s ->
 wpAny (model prog w) A (excMatches (.ref e) (.ref D)) Q E s
theorem uW (c:XCls K C S init):XM K C C:=λprog w A E s e p Q X z hc q=>by obtain⟨m,f,N,bs,h,sub,M,col,Y,u,B,o,i,r,n⟩:=c.lk;obtain⟨hp,g,d,t,b⟩:=s;exact wpAny_excMatches_sub_self (X _ _ n) z hc MS q
abbrev IJ (X:Cx) (a:Addr):Cx:={ X with A:=X.A.mark (am (.ref a)),calm:=ay,xe:=λ_ _=>False }
abbrev pinned (X:Cx) (pn:List (Addr×cr)):Cx:={ X with pn:=pn }
section
variable {X:Cx}{pins:List (Addr×cr)}{σ:St}{H:Hp}{s:ax}{a:Addr}
theorem QS (I:Inv X pins σ H s) (a:Addr):Inv (IJ X a) pins σ H s:=#[#[I.ok.mod,I.ok.kind,I.ok.glob,I.ok.blt,I.ok.above,I.ok.inj,I.ok.has,I.ok.cab,(λz=>nomatch z),I.ok.frames,I.ok.stk,I.ok.exf,I.ok.bs,I.ok.bsz,I.ok.noex,I.ok.exfs,I.ok.funs,I.ok.frf],I.os,I.bare,I.base,I.loc,I.cell,I.free,I.freeC,I.pin,I.hok,I.len]
theorem FP (ok:X.Ok) (I:Inv (IJ X a) pins σ H s):Inv X pins σ H s:=#[ok,I.os,I.bare,I.base,I.loc,I.cell,I.free,I.freeC,I.pin,I.hok,I.len]
theorem dO (I:Inv X pins σ H s):Inv (pinned X (X.pn++pins)) [] σ H s:=#[#[I.ok.mod,I.ok.kind,I.ok.glob,I.ok.blt,I.ok.above,I.ok.inj,I.ok.has,I.ok.cab,I.ok.hd,I.ok.frames,I.ok.stk,I.ok.exf,I.ok.bs,I.ok.bsz,I.ok.noex,I.ok.exfs,I.ok.funs,I.ok.frf],I.os,I.bare,I.base,I.loc,I.cell,I.free,I.freeC,λp hp=>I.pin p (by simpa using hp),I.hok,I.len]
theorem FG (ok:X.Ok) (I:Inv (pinned X (X.pn++pins)) [] σ H s):Inv X pins σ H s:=#[ok,I.os,I.bare,I.base,I.loc,I.cell,I.free,I.freeC,λp hp=>I.pin p (by simpa using hp),I.hok,I.len]
theorem YB (ok:X.Ok) (h:SP (pinned X (X.pn++pins)) [] D f s'):SP X pins D f s':=by
 cases f with
 | next=>obtain⟨b,H',I,q⟩:=h;exact#[b,H',FG ok I,q]
 | brk=>obtain⟨b,H',I,q⟩:=h;exact#[b,H',FG ok I,q]
 | cont=>obtain⟨b,H',I,q⟩:=h;exact#[b,H',FG ok I,q]
 | ret u=>obtain⟨v,b,H',I,r,q⟩:=h;exact#[v,b,H',FG ok I,r,q]
theorem iC (ok:X.Ok) (h:SP (IJ X a) pins D f s'):SP X pins D f s':=by
 cases f with
 | next=>obtain⟨b,H',I,q⟩:=h;exact#[b,H',FP ok I,q]
 | brk=>obtain⟨b,H',I,q⟩:=h;exact#[b,H',FP ok I,q]
 | cont=>obtain⟨b,H',I,q⟩:=h;exact#[b,H',FP ok I,q]
 | ret u=>obtain⟨v,b,H',I,r,q⟩:=h;exact#[v,b,H',FP ok I,r,q]
end
def nW (K:Frg) (D:Addr) (cls:aw):Prop:=∃C,cls = .ref C/\XM K C D
def A1l (K:Frg) (D:Addr) (e:(St->XK)->TS) (ts:TS):TS:=λc t H=>e (λb cls _ H'=>nW K D cls/\ts c b H') c t H
theorem A1m (j:X.stack=X.env::X.outer) (gk:X.env.frame=am X.env.locals) (hg:Gl X x) (hm:X.mg x=am (.ref D)) (hb:∀(pn:List (Addr×cr)) (R:St->XK),PSs ((pinned X pn).wish (Fly (pinned X pn) R)) body (Q R)) (hs:∀a,PSs (IJ X a) (m::B) ts) (du:(x==("__debug__":Str))=false:=by decide) :
   PS X (.Try body [.ExceptHandler (am (.Name x np)) ap (m::B) lp] [] [] pos) (A1l X.K D Q ts):=by
 intro pins s σ H y I h;have ok:=I.ok;refine wpAny_Try_except ?_;have bg:=hb (X.pn++pins) _ [] s σ H y ((dO I).wish _) h;refine bc bg (λf n q=>?_) λe n q=>?_
 . have g:=YB ok q.unwish;cases f with
   | next=>exact eN g
   | ret v=>exact g
   | brk=>exact g
   | cont=>exact g
 . obtain⟨a,T,cls,dd,ar,o,H',fl,rfl,J,⟨x1,qc⟩,la,G,lx,⟨C,rfl,xm⟩,r⟩:=q;have N:=FG ok J;have fr:X.A.frames=am (X.env::X.outer):=by rw[<-j];exact ok.frames
   have hl:n.heap.FunFrames X.base (X.env::X.outer):=by rw[<-j];exact N.stack
   refine JJ fr hl gk x1 qc λk U x2 n2 L=>?_;have yy:(X.env::X.outer).filterMap (·.frame)=frs X.stack:=by rw[j];rfl
   rw[yy] at L;have u:∀b,Loose (pinned X (X.pn++pins)) H' b->H' b=ap/\X.s₀.heap.objs.size<=b/\b≠X.env.locals/\(∀x c,X.env.cells.lookup x=am c->c≠b)/\∀p∈X.pn++pins,p.1≠b:=λb l=>#[l.fre,l.above,l.loc,l.cel,l.pn]
   have Z:Inv X pins o H' { n with heap:=k }:=BW N L λb hb=>by
     rcases yX.mp hb with q | q;. rw[q];exact u _ la
     . exact u _ (G b (by cases T with | none=>simp at q | some t=>simp at q;rw[q]))
   have S:=u _ (n2.elim (λz=>G U z) λz=>Loose.of (b:=U) J z.2 (J.hok.fresh z.2));refine HH (s:={ n with heap:=k }) x2 λi Y m3=>?_;have M:Inv X pins o H' { n with heap:=i }:=BW (s:={ n with heap:=k }) (ch:=[U]) Z (m3.mono (λb z=>absurd z (by simp)) λb z=>z) λb hb=>by
     have:b=U:=by simpa using hb
     rw[this];exact S
   have I4:=QS M a;refine wpAny_handleBy_cons (codeAny_handlers_test (G5 (X:=IJ X a) I4 hg hm ?_ du)) (by intro q;cases q);obtain⟨oe,vs,he,hc,_⟩:=id Y;refine xm _ _ _ _ { n with heap:=i } a oe _ M.kIn he hc (codeAny_handlers_suite ?_);refine HH (s:={ n with heap:=i }) Y λO x4 m4=>?_;have I5:Inv X pins o H' { n with heap:=O }:=BW (s:={ n with heap:=i }) (ch:=[U]) M (m4.mono (λb z=>absurd z (by simp)) λb z=>z) λb hb=>by
     have:b=U:=by simpa using hb
     rw[this];exact S
   refine bc (hs a pins { n with heap:=O } o H' y (QS I5 a) r) (λf s' q=>?_) λ_ _ z=>a6W z;exact iC ok q
end XC
namespace DL
open PySem PySem.Spec L2 XC
open PyProof.Rows (envOfC AllBare)
abbrev Rx:=L2.St->XK
theorem XI.sub {i:Own}(hs:i.Sub M) (h:XI K H M.W dd fs):XI K H i.W dd fs:=h.grow (B7 hs)
abbrev DXK:=List (Option DS)->aw->List (Str×PyData)->Own->Prop
def KX (K:Frg) (R:Rx) (M:Own) (H:Hp) (DX:DXK):Prop:=∀(S:List (Option DS)) (cls:aw) (fs:List (Str×PyData)) (i:Own) (b:St) (Y:Option Addr) (H':Hp),Rel K i S b H'->Step K M i H H'->XI K H' i.W Y fs->DX S cls fs i->R b cls Y H'
theorem KX.step {M1:Own}(k:KX K R M H DX) (t:Step K M M1 H n):KX K R M1 n DX:=λa b c d e f g h i j l=>k a b c d e f g h (t.trans i) j l
def DXt (K:Frg) (R:Rx) (t:TS) (n:List (Option DS)) (M:Own) (D:EndsD) (DX:DXK):Prop:=∀(e:St) (H:Hp) (E:Ends),Rel K M n e H->(∀S i b H',Rel K i S b H'->Step K M i H H'->D.nx S i->E.nx b H')->(∀v H' x i,OA K H' i->SI K H' i x v->Step K M i H H'->D.rt x i->E.rt v H') ->(∀S i b H',Rel K i S b H'->Step K M i H H'->D.bk S i->E.bk b H')->(∀S i b H',Rel K i S b H'->Step K M i H H'->D.ct S i->E.ct b H')->KX K R M H DX->t E e H
def DEx (K:Frg) (R:Rx) (t:TE) (n:List (Option DS)) (M:Own) (Q:DS->Own->Prop) (DX:DXK):Prop:=∀(e:St) (H:Hp) (QQ:VK),Rel K M n e H->(∀v H' x i,OA K H' i->SI K H' i x v->Step K M i H H'->Q x i->QQ v H')->KX K R M H DX->t e H QQ
set_option genInjectivity false
structure FSpX where
 pre:List DS->Own->Prop
 post:List DS->Own->DS->Own->Prop
 xpost:List DS->Own->aw->List (Str×PyData)->Own->Prop
def spX (K:Frg) (n:Nat) (S:FSpX):Sp:=λe H Q E=>∃t M,t.length=n/\OA K H M/\SIs K H M t e/\S.pre t M/\(∀x i v H',S.post t M x i->Step K M i H H'->OA K H' i->SI K H' i x v->Q v H') /\∀cls fs i Y H',S.xpost t M cls fs i->Step K M i H H'->OA K H' i->XI K H' i.W Y fs->E cls Y H'
section
theorem FA (h:DSt K t ρ M D):DXt K R t ρ M D DX:=λo H E X B e N n _=>h o H E X B e N n
theorem nX (h:DXt K R t ρ M { D with nx:=λn M1=>DXt K R u n M1 D DX } DX):DXt K R (k6 t u) ρ M D DX:=λk H E X B r N m S=>by refine h k H { E with nx:=λo H'=>u E o H' } X (λn M1 i p j x q=>?_) r N m S;exact q i p E j (λa b c d e f g=>B a b c d e (x.trans f) g) (λa b c d e f g q=>r a b c d e f (x.trans g) q) (λa b c d e f g=>N a b c d e (x.trans f) g) (λa b c d e f g=>m a b c d e (x.trans f) g) (S.step x)
theorem A3b (h:DT K tA ρ M λc M1=>if c=av then DXt K R t ρ M1 D DX else DXt K R u ρ M1 D DX):DXt K R (A0U tA t u) ρ M D DX:=λn H E X B r N m S=>
 h n H _ X λc o M1 O x h1=>by
   have i:∀{w:TS},DXt K R w ρ M1 D DX->w E n o:=λq=>q n o E (X.step O x) (λa b c d e f g=>B a b c d e (x.trans f) g) (λa b c d e f g q=>r a b c d e f (x.trans g) q) (λa b c d e f g=>N a b c d e (x.trans f) g) (λa b c d e f g=>m a b c d e (x.trans f) g) (S.step x);cases c with
   | true=>rw[if_pos rfl] at h1 ⊢;exact i h1
   | false=>rw[if_neg nft] at h1 ⊢;exact i h1
theorem nY (h:DI K wi ρ M λds M1=>∃P:Nat->List (Option DS)->Own->Prop,P 0 ρ M1/\(∀k d S n,ds[k]?=am d->P k S n->DG K g d S n λo T=>DXt K R tb o T (D.turn (P (k+1))) DX)/\∀S n,P ds.length S n->D.nx S n) :
   DXt K R (A0a wi g tb) ρ M D DX:=λσ H E Rl k1 k2 k3 k4 k5=>
 h σ H _ Rl λJ ds Z M1 o1 B X dm=>by
   obtain⟨P,p0,pt,pe⟩:=dm;refine#[λi m f H'=>m=ds.length - i/\i<=ds.length/\∃S n,Rel K n S f H'/\Step K M1 n Z H'/\P i S n,#[_,rfl,xR _,ρ,M1,Rl.step o1 B,Step.refl,p0],?_];rintro i m f H' ⟨rfl,hi,S,n,v,I,p⟩;by_cases L:i < ds.length;. refine .inr #[X.go i H' n L v.own I,λG j=>∃o T,Rel K T o G j/\Step K M1 T Z j/\P (i+1) o T,(by rintro G j ⟨o,T,a,b,c⟩;exact#[ds.length - (i+1),by omega,rfl,L,o,T,a,b,c]),λx j y=>?_];obtain⟨Eo,gv,d,e1,e2⟩:=X.yld i H' n x j v.own I L y;refine pt i d S n e1 p f j x _ (v.step Eo gv) e2 λρ3 M3 Y H3 R3 ff b3=>?_;have O:=(I.trans gv).trans ff;exact b3 Y H3 _ R3 (λr m s N z U q=>#[r,m,z,O.trans U,q]) (λw N x m a b c q=>k2 w N x m a b (B.trans (O.trans c)) q) (λr m s N z U q=>k1 r m s N z (B.trans (O.trans U)) q) (λr m s N z U q=>#[r,m,z,O.trans U,q]) (k5.step (B.trans O))
   . have e:i=ds.length:=by omega
     subst e;exact .inl #[X.stop H' n v.own I,k1 S n f H' v (B.trans I) (pe S n p)]
theorem iE (h:DA K tl ρ M λxs M1=>∃d,xs=[.d d]/\DX ρ (.ref C) [(fn,d)] M1):DXt K R (VG C fn R tl) ρ M D DX:=λn H E X _ _ _ _ S=>
 h n H _ X λm e xs M1 O o x Z=>by
   obtain⟨d,f,q⟩:=Z;subst f;obtain⟨v,r,rfl,i,rfl⟩:=o;refine#[v,rfl,λp hp=>?_];have g:Step K M1 M1 e (upd e p (.xd [(fn,v)])):=#[B6 _ hp]
   exact S ρ _ [(fn,d)] M1 n (am p) _ ((X.step O x).step (O.new hp) g) (x.trans g) #[v,λz=>z (O.none hp),AE,DV.grow g.grow i] q
theorem HI (h:DA K tl ρ M λxs M1=>xs.length=n/\S.pre xs M1/\(∀x i,S.post xs M1 x i->Q x i)/\∀cls fs i,S.xpost xs M1 cls fs i->DX ρ cls fs i):DEx K R (VD (spX K n S) R tl) ρ M Q DX:=λr H QQ X k c=>
 h r H _ X λz y xs M1 O f o #[h0,h1,m,b]=>
   #[xs,M1,h0,O,f,h1,λx i v H' p e q g=>k v H' x i q g (o.trans e) (m x i p),λcls fs i Y H' p e q j=>c ρ cls fs i r Y H' ((X.step O o).step q e) (o.trans e) j (b cls fs i p)]
theorem bB (h:DEx K R ta ρ M D.rt DX):DXt K R (A0S ta) ρ M D DX:=λn H E X _ e _ _ S=>h n H E.rt X (λv H' x i a b c q=>e v H' x i a b c q) S
theorem dP (h:DEx K R ta ρ M (λ_ M1=>D.nx ρ M1) DX):DXt K R (k7 ta) ρ M D DX:=λe H E X B _ _ _ S=>h e H _ X (λv H' x i a b c q=>B ρ i e H' (X.step a c) c q) S
theorem A1n {j:Rx->TS}(h:∀R,DXt K R (j R) ρ M D λS cls fs r=>nW K i cls/\DSt K ts S r D):DSt K (A1l K i j ts) ρ M D:=λx H E X B m N p=>by
 refine h _ x H E X B m N p λS cls fs r o Y H' k n _ #[v,q]=>#[v,?_]
 exact q o H' E k (λa b c d e f g=>B a b c d e (n.trans f) g) (λa b c d e f g q=>m a b c d e f (n.trans g) q) (λa b c d e f g=>N a b c d e (n.trans f) g) (λa b c d e f g=>p a b c d e (n.trans f) g)
end
section
variable {P:bh}{w:bd}{K:Frg}{mg:Str->Option aw}{base:ca}
theorem uX :∀vs H Q E,spX K n S vs H Q E->vs.length=n:=by rintro vs H Q E ⟨t,M,m,_,h,_⟩;rw[h.length,m]
theorem A4R (F:Fun K x qual st f n) (g:FnScope N ps (AB st)) (i:∀(cdv:aw) (A:bv) (outer:List im) (s:ax) (H:Hp) (E:XK),Room k (A.deeper (gc qual (AB st) s.heap.objs.size f cdv)) ->∃t,PSs ((IA (CXE P w) P w K mg base N qual (AB st) f cdv A outer s H E).wish (Fly (IA (CXE P w) P w K mg base N qual (AB st) f cdv A outer s H E) λ_=>E)) (BB st) t /\∀xs M,xs.length=ps.length->S.pre xs M->DXt K (λ_=>E) t (L4 N xs) M { nx:=λ_ M1=>∃T:Own,T.Sub M1/\S.post xs M (.d .none) T,rt:=λy M1=>∃T:Own,T.Sub M1/\S.post xs M y T } λ_ cls fs M1=>∃T:Own,T.Sub M1/\S.xpost xs M cls fs T) :
   FnOk P w K mg base (CXE P w) (k+1) f n ps (spX K ps.length S):=by
 refine A4Q F g uX λcdv A outer s H c Q E hr h=>?_;obtain⟨t,u,hq⟩:=i cdv A outer s H E hr;obtain⟨xs,M,m,q,X,pre,post,xpost⟩:=h;refine#[t,u,hq xs M m pre (L2.start N c) H _ (T3 q X) ?_ ?_ (λ_ _ _ _ _ _ z=>z.elim) (λ_ _ _ _ _ _ z=>z.elim) ?_];. rintro e M1 b H' R st ⟨T,hs,p⟩;exact post (.d .none) T .non H' p (st.trans #[B7 hs]) (R.own.sub hs) (by unfold SI DV;rfl)
 . rintro v H' y M1 o r st ⟨T,hs,p⟩;exact post y T v H' p (st.trans #[B7 hs]) (o.sub hs) (r.sub hs)
 . rintro e cls fs M1 b Y H' R st j ⟨T,hs,p⟩;exact xpost cls fs T Y H' p (st.trans #[B7 hs]) (R.own.sub hs) (j.sub hs)
structure HasX (P:bh) (w:bd) (K:Frg) (mg:Str->Option aw) (base:ca) (x:Str) (k:Nat) (ps:List Str) (S:FSpX):Prop where
 ex:∃f fd,FnOk P w K mg base (CXE P w) k f fd ps (spX K ps.length S)/\mg x=am (.ref f)/\a3W K (.ref f)=av/\Binds K fd ps []
theorem iF {X:Cx}{R:Rx}{x:Str}{k:Nat}{ps:List Str}{S:FSpX}{e:bn}{es:List bn}{t:TA}{p pos:eH}(h:HasX X.prog X.w X.K X.mg X.base x k ps S) (hr:Room k X.A) (hg:Gl X x) (g:PA (X.wish (Fly X R)) (e::es) t) (i:(x==("__debug__":Str))=false:=by decide) (z:starEach (e::es) X.env=(ay,eval e X.env)::starEach es X.env:=by rfl) (n:(backTo pos (starEach es X.env)).any (·.1)=false:=by rfl) :
   PE (X.wish (Fly X R)) (.Call (.Name x p) (e::es) [] pos) (VD (spX X.K ps.length S) R t):=by obtain⟨f,r,F,o,hk,hb⟩:=h.ex;exact nS F hr hg o hk hb g i z n
end
end DL
namespace DL
open PySem PySem.Spec L2 XC
def DAx (K:Frg) (R:Rx) (t:TA) (r:List (Option DS)) (M:Own) (Q:List DS->Own->Prop) (DX:DXK):Prop:=∀(o:St) (H:Hp) (QQ:List V->Hp->Prop),Rel K M r o H->(∀n H' e i,OA K H' i->SIs K H' i e n->Step K M i H H'->Q e i->QQ n H')->KX K R M H DX->t o H QQ
section
theorem nZ (h:DA K tl ρ M QL):DAx K R tl ρ M QL DX:=λe H QQ X k _=>h e H QQ X k
theorem o0 (h:DEx K R ta ρ M (λx M1=>DAx K R tl ρ M1 (λxs T=>QL (x::xs) T) DX) DX):DAx K R (WT ta tl) ρ M QL DX:=λo H QQ X k S=>
 h o H _ X (λv i x M1 O m e h1=>h1 o i _ (X.step O e) (λn c xs T r p t q=>k (v::n) c (x::xs) T r #[v,n,rfl,m.step t,p] (e.trans t) q) (S.step e)) S
end
end DL
namespace DL
open PySem PySem.Spec L2 XC
open PyProof.Rows (envOfC AllBare)
def dQ (k:Nat):ew->ew
 | .ClassDef _ _ _ b _ _ _ _ _ _ _=>b.getD k (.Pass #[0,0,0,0])
 | _=>.Pass #[0,0,0,0]
section
variable {P:bh}{w:bd}{K:Frg}{mg:Str->Option aw}{base:ca}
theorem A1o (X:Cx) (R:Rx) {x:Str}{k:Nat}{ps:List Str}{S:FSpX}{e:bn}{es:List bn}{t:TA}{p pos:eH}(hK:X.K=K) (m:X.prog=P) (G:X.w=w) (o:X.mg=mg) (L:X.base=base) (h:HasX P w K mg base x k ps S) (hr:Room k X.A) (hg:Gl X x) (g:PA (X.wish (Fly X R)) (e::es) t) (i:(x==("__debug__":Str))=false:=by decide) (z:starEach (e::es) X.env=(ay,eval e X.env)::starEach es X.env:=by rfl) (n:(backTo pos (starEach es X.env)).any (·.1)=false:=by rfl) :
   PE (X.wish (Fly X R)) (.Call (.Name x p) (e::es) [] pos) (VD (spX K ps.length S) R t):=by subst hK m G o L;exact iF h hr hg g i z n
structure HasR (P:bh) (w:bd) (K:Frg) (mg:Str->Option aw) (base:ca) (x fn:Str) (C S:Addr):Prop where
 ex:∃(f:Addr) (fd:ee) (ps:List Str),XCls K C S (.ref f)/\b5Q K (.ref f)=av/\FnOk P w K mg base CX0 1 f fd ps (F4 C fn)/\Binds K fd ps []/\mg x=am (.ref C)
theorem HasR.at (h:HasR P w K mg base x fn C S):mg x=am (.ref C):=let #[_,_,_,_,_,_,_,q]:=h.ex;q
theorem uY (X:Cx) (R:Rx) {x fn:Str}{C S:Addr}{arg:bn}{t:TA}{Y L pos:eH}(hK:X.K=K) (m:X.prog=P) (G:X.w=w) (o:X.mg=mg) (r:X.base=base) (h:HasR P w K mg base x fn C S) (hr:Room 2 X.A) (hg:Gl X x) (g:PA (X.wish (Fly X R)) [arg] t) (i:(x==("__debug__":Str))=false:=by decide) (z:starEach [arg] X.env=[(ay,eval arg X.env)]:=by rfl) :
   PS (X.wish (Fly X R)) (.Raise (am (.Call (.Name x Y) [arg] [] L)) ap pos) (VG C fn R t):=by subst hK m G o r;obtain⟨f,p,Q,c,e,F,hb,n⟩:=h.ex;exact iB c e F hb hr hg n g i z
structure HasN (K:Frg) (mg:Str->Option aw) (x:Str) (C S:Addr):Prop where
 c:XCls K C S (.builtin "ValueError.__init__")
 at_:mg x=am (.ref C)
theorem uZ (X:Cx) (R:Rx) {x:Str}{C S:Addr}{Y L pos:eH}(hK:X.K=K) (e:X.mg=mg) (h:HasN K mg x C S) (hh:X.A.handled=ap) (hg:Gl X x) (i:(x==("__debug__":Str))=false:=by decide) :
   PS (X.wish (Fly X R)) (.Raise (am (.Call (.Name x Y) [] [] L)) ap pos) (dM C R):=by subst hK e;exact iA h.c hg h.at_ hh i
theorem A4S (X:Cx) {D:Addr}{body:List ew}{m:ew}{h:List ew}{x:Str}{Y n pos:eH}{e:Rx->TS}{ts:TS}(hK:X.K=K) (q:X.stack=X.env::X.outer) (G:X.env.frame=am X.env.locals) (hg:Gl X x) (t:X.mg x=am (.ref D)) (hb:∀(pn:List (Addr×cr)) (R:Rx),PSs ((pinned X pn).wish (Fly (pinned X pn) R)) body (e R)) (hs:∀a,PSs (IJ X a) (m::h) ts) (i:(x==("__debug__":Str))=false:=by decide) :
   PS X (.Try body [.ExceptHandler (am (.Name x Y)) ap (m::h) n] [] [] pos) (A1l K D e ts):=by subst hK;exact A1m q G hg t hb hs i
theorem dR (F:Fun K "__init__" qual st f o) (g:FnScope ["self", pn] ["self", pn] (AB st)) (hb:BB st=[.Assign [.Attribute (.Name "self" D) fn i] (.Name pn n) I]) (c:XCls K C S (.ref f)) (cs:XSet K C fn) (nd:(["self", pn]:List Str).Nodup) (hs:∀env:im,gj (.Name pn n) (am (.Attribute (.Name "self" D) fn i)) I.line env=pure ay) (h0:∀X:Cx,X.N=(["self", pn]:List Str)->X.env.scope=AB st->PE X (.Name "self" D) (WO 0)) (h1:∀X:Cx,X.N=(["self", pn]:List Str)->X.env.scope=AB st->PE X (.Name pn n) (WO 1)):FnOk P w K mg base CX0 1 f o ["self", pn] (F4 C fn):=by refine F.ok g (by rintro m H Q E ⟨e,v,t,h,_⟩;rw[h];rfl) λcdv A outer s H m Q E hr Y=>?_;obtain⟨e,v,t,U,z,hq⟩:=Y;subst U;rw[hb];refine#[_,LV (dN (C:=C) (S:=S) (fn:=fn) c cs (h0 _ rfl rfl) (h1 _ rfl rfl) (hs _)),?_];exact#[v,rfl,.ref e,rfl,e,t,rfl,z,λd hd r=>hq d hd r]
end
end DL
namespace L2
open PySem PySem.Spec PyProof.Rows
def Itk (a:Addr) (o:cr) (ks:List (Key×V)):It:=#[λi H=>H a=am (.frz o (.dK ks))/\i < ks.length,λi H x H'=>H'=H/\∃k v,ks[i]?=am (k,v)/\x=kV k,λi H=>H a=am (.frz o (.dK ks))/\ks.length<=i]
theorem A1p {ks:List (Key×V)}{vs:List (Key×aw)}(r:KV ks vs) {i:Nat}{k:Key}{v:V}(e:ks[i]?=am (k,v)):∃u,vs[i]?=am (k,u):=by
 induction r generalizing i with
 | nil=>simp at e
 | cons h _ t=>
   cases i with
   | zero=>simp at e;obtain⟨h1,n⟩:=h;rw[e] at h1;exact#[_,by simp;exact Prod.ext h1.symm rfl]
   | succ i=>simpa using t (by simpa using e)
theorem v4 (h:OD k u=av):RelV (kV k) u:=by
 rcases B5 h with ⟨i,t,rfl,rfl⟩ | ⟨x,t,rfl,rfl⟩
 . exact#[t,rfl]
 . exact#[t,rfl]
theorem iG {P:bh}{w:bd}{K:Frg}{tg:bn}(a it:Addr) (o:cr) (ks:List (Key×V)) :
   Turn P w K tg (Itk a o ks) [it] it (λi h=>∃es ep,o.data = .dict es ep/\h.IsKeyIter it a i ks.length ep) where
 mem:=by simp
 obj:=λi h st b hb=>by
   have e:b=it:=by simpa using hb
   subst e;obtain⟨es,ep,_,o',e,c,d⟩:=st;exact⟨o',e,λv z=>by rw[d] at z;cases z⟩
 keep:=by rintro i h h' ⟨es,ep,q,st⟩ k;exact#[es,ep,q,st.at λo e=>k it (by simp) o e]
 item:=by
   intro X hP hw hK hc i pins s σ H E I hf #[es,ep,C_,st] #[hg,hi];subst hP hw hK;obtain⟨f0,f1,f2,f3,f4,f5⟩:=hf it (by simp);obtain⟨fh,_,Fh,vs,rel,o',fe,oh,dy,r⟩:=I.hok a _ hg;obtain rfl:o'=o:=Option.some.inj (dy.symm.trans fh);obtain⟨rfl,rfl⟩:fe=es/\oh=ep:=by have:=r.2.1.symm.trans C_;injection this with a b;exact#[a,b]
   have dat:s.heap.DictAt (AT X.prog X.w) a vs oh:=#[o',fe,dy,r]
   obtain⟨⟨k,v⟩,hk⟩:∃kv,ks[i]?=am kv:=#[ks[i],zV hi]
   obtain⟨u,hu⟩:=A1p rel hk;have hl:vs.length=ks.length:=rel.length.symm;refine wpAny_pyNext_dict_item (by rw[hl];exact st) dat hu λkey h' yd dz sb=>?_;rw[hl] at dz;have I1:Inv X pins σ H { s with heap:=h' }:=I.turned (t':=s.toks) (λb o hb e=>(sb.2 b hb).trans e) f0 f1 f3 f4 f5;exact#[key,rfl,letGo_keyiter (s':={ s with heap:=h' }) dz #[kV k,H,I1,v4 yd,#[rfl,k,v,hk,rfl],#[fe,oh,C_,dz],λb hb=>(hf b hb).1]]
 done:=by
   intro X hP hw hK hc i pins s σ H E I hf #[es,ep,C_,st] #[hg,hi];subst hP hw hK;obtain⟨f0,f1,f2,f3,f4,f5⟩:=hf it (by simp);obtain⟨fh,_,Fh,vs,rel,o',fe,oh,dy,r⟩:=I.hok a _ hg;obtain rfl:o'=o:=Option.some.inj (dy.symm.trans fh);obtain⟨rfl,rfl⟩:fe=es/\oh=ep:=by have:=r.2.1.symm.trans C_;injection this with a b;exact#[a,b]
   have dat:s.heap.DictAt (AT X.prog X.w) a vs oh:=#[o',fe,dy,r]
   have hl:vs.length=ks.length:=rel.length.symm;exact wpAny_pyNext_dict_end (I.ok.hd hc) (by rw[hl];exact st) dat (List.getElem?_eq_none_iff.mpr (by rw[hl];exact hi)) λh' eb=>#[rfl,I.turned (t':=s.toks) (λb o hb e=>eb b o hb e) f0 f1 f3 f4 f5]
 self:=by rintro _ _ _ _ _ ⟨_,_,_,st⟩ h;exact wpAny_pyIter_keyiter st h
section
variable {X:Cx}{tg:bn}{pins:List (Addr×cr)}{σ:St}{H:Hp}{s:ax}
theorem iH (I:Inv X pins σ H s) (e:H a=am (.dK ks)) (ho:s.heap.get? a=am o):Inv X pins σ (upd H a (.frz o (.dK ks))) s:=by
 have r:∀b u,H b=am u->(∀z,u≠.dK z)->b≠a:=λb u q n z=>by rw[z,e] at q;cases q;exact n _ rfl
 have J:=I.un (H':=upd H a (.frz o (.dK ks))) (h':=s.heap) (t':=s.toks) #[λ_ _ q _ _ _=>q,λb u q _ _ _=>#[u.slots,q],λb u _ n _=>by rw[AG (λz=>by rw[z,e] at n;cases n)];exact n,λb u q _=>#[u,q],
   λb i q=>by rw[AG (r b _ q λ_ z=>nomatch z)];exact q,λb u i q=>by rw[AG (r b _ q λ_ z=>nomatch z)];exact q,λb Q q=>#[#[],by rw[AG (r b _ q λ_ z=>nomatch z),q];simp]] λb u q=>?_
 . exact J
 . have t:∀{b u},ObjOk X.prog X.w H s.heap b u->ObjOk X.prog X.w (upd H a (.frz o (.dK ks))) s.heap b u:=λ{b u} x=>x.stay (λ_ _ _ q=>q) (λc q=>by rw[AG (r c _ q λ_ z=>nomatch z)];exact q) λc i q=>by rw[AG (r c _ q λ_ z=>nomatch z)];exact q
   by_cases z:b=a;. subst z;rw[AE] at q;cases q;exact#[ho,t (I.hok b _ e)]
   . rw[AG z] at q;exact t (I.hok b u q)
def zS (tl:TE):TI:=λσ H R=>tl σ H λx t=>∃a,x = .ref a/\((∃e,t a=am (.dK e)/\∀o,R (Itk a o e) (upd t a (.frz o (.dK e))))\/∃o e,t a=am (.frz o (.dK e))/\R (Itk a o e) t)
theorem v6 {l:bn}{tl:TE}(p:PE X l tl):PI X tg l (zS tl):=by
 intro pins s σ H R I h;refine thn (p pins s σ H _ I h) ?_;rintro v n ⟨x,D,m,S,a,z,O⟩;subst z;obtain rfl:v=a0X a:=S;have k:∀{c:Hp}{o:cr}{t:List (Key×V)},Inv X pins σ c n->c a=am (.frz o (.dK t))->R (Itk a o t) c->wpAny (model X.prog X.w) X.A (pyIter (.ref a)) (PIE X pins σ tg R) X.xe n:=λ{c o t} i e q=>by
   obtain⟨T,_,y,f,rel,N,j,G,g,r⟩:=i.hok a _ e;obtain rfl:N=o:=Option.some.inj (g.symm.trans T);have dat:n.heap.DictAt (AT X.prog X.w) a f G:=#[N,j,g,r]
   have p:f.length=t.length:=rel.length.symm;refine wpAny_pyIter_dict y dat ?_;rw[p];have M:Inv X pins σ c { n with heap:=n.heap.push { cls:=.type "dict_keyiterator", data:=.fields (y9 [.ref a,.int 0 0,.int t.length 0,.int G 0]) } }:=i.kept (t':=n.toks) λb u q=>zW _ q;refine#[n.heap.objs.size,[n.heap.objs.size],_,Itk a N t,c,rfl,M,iG a _ N t,#[j,G,r.2.1,_,yZ _ rfl,rfl,rfl],λb hb=>?_,q];have:b=n.heap.objs.size:=by simpa using hb
   rw[this];exact i.fpOk (zR _) (i.hok.fresh (zR _))
 rcases O with ⟨t,e,q⟩ | ⟨o,t,e,q⟩
 . obtain⟨_,_,f,_,o,B,Z,ho,_⟩:=m.hok a _ e;exact k (iH m e ho) AE (q o)
 . exact k m e q
end
end L2
namespace DL
open PySem PySem.Spec L2
abbrev OM (ts:List (Str×PyData)):List PyData:=ts.map λt=>.str t.1
section
theorem o8 :∀{ts:List (Str×PyData)}{ks:List (Key×V)}{i:Nat}{k:Key}{v:V},DKV K H W (AF ts) ks->ks[i]?=am (k,v)->∃u,ts[i]?=am u/\k=a1W u.1
 | [],ks,i,k,v,h,e=>by rw[EF.mp h] at e;simp at e
 | u::ts,ks,i,k,v,h,e=>by
   obtain⟨w,r,rfl,h1,n⟩:=C8.mp h;cases i with
   | zero=>simp at e;exact#[u,rfl,e.1.symm]
   | succ i=>simpa using o8 n (by simpa using e)
theorem v7 (h:DE K tl ρ M λx M1=>∃ts:List (Str×PyData),x = .d (.dict (AF ts))/\QI (OM ts) M1):DI K (zS tl) ρ M QI:=λG H R X k=>
 h G H _ X λv p x M1 O T N h1=>by
   obtain⟨ts,rfl,q⟩:=h1;unfold SI DV at T;obtain⟨a,n,rfl,nw,hr,hd⟩:=T;have j:n.length=ts.length:=by have:=GB hd;unfold AF at this;simpa using this
   have I:∀{c:Hp}{o:cr},c a=am (.frz o (.dK n))->WD K (Itk a o n) (OM ts) c M1:=λ{c o} e=>
     #[λi H' f hi r m=>#[m.grow.kept e nw (λ_ z=>nomatch z),by rw[j];simpa using hi],λH' f r m=>#[m.grow.kept e nw (λ_ z=>nomatch z),by rw[j];simp],λi H' f x J r m hi y=>by obtain⟨rfl,L,Z,B,rfl⟩:=y;obtain⟨u,hu,rfl⟩:=o8 hd B;refine#[r,Step.refl,.str u.1,?_,by unfold DV;rfl];rw[zF,hu];rfl]
   refine#[a,rfl,?_];rcases hr with e | ⟨o,e⟩
   . refine .inl #[n,e,λo=>?_];have g:Grow K M1.W M1.W p (upd p a (.frz o (.dK n))):=#[λb u e' U=>by
       by_cases z:b=a;. subst z;rw[e] at e';cases e';exact .inr #[n,o,rfl,AE]
       . exact .inl (by rw[AG z];exact e'),λb z=>.inl z]
     have r:OA K (upd p a (.frz o (.dK n))) M1:=O.grow g λb Y S=>by rw[AG];rintro rfl;exact nw (by unfold Own.W;rw[S];simp)
     exact k _ _ _ M1 r (N.trans #[g]) (I AE) q
   . exact .inr #[o,n,e,k _ _ _ M1 O N (I e) q]
theorem QT (e:ρ[i]?=am (am (.loc a))) (m:M a=am (.d kvs)) (h:DSt K t (ρ.set i (am (.d (.dict kvs)))) (M.del a) D):DSt K t ρ M D:=λr H E R B T N O=>by
 have hs:(M.del a).Sub M:=λb o q=>by
   unfold Own.del at q;by_cases hb:b=a;. rw[if_pos hb] at q;cases q
   . rw[if_neg hb] at q;exact q
 have n:Step K M (M.del a) H H:=#[B7 hs]
 obtain⟨v,p,y⟩:=R.slot i _ e;obtain⟨S,I,J⟩:=R.own a _ m;have u:Rel K (M.del a) ρ r H:=R.step (R.own.sub hs) n;have R2:=u.set (x:=.d (.dict kvs)) (v:=v) (by
   unfold SI DV;refine#[a,S,y,(λw=>w (by unfold Own.del;rw[if_pos rfl])),.inl I,J.grow (B7 hs)]) i;have z:r.set i (am v)=r:=by
   apply b2X;intro j;rw[List.getElem?_set];by_cases k:i=j
   . subst k;rw[if_pos rfl,p];split;. rfl
     . rename_i G;rw[a6K (by lia)] at p;cases p
   . rw[if_neg k]
 rw[z] at R2;exact h r H E R2 (λa b c d e f g=>B a b c d e (n.trans f) g) (λa b c d e f g q=>T a b c d e f (n.trans g) q) (λa b c d e f g=>N a b c d e (n.trans f) g) (λa b c d e f g=>O a b c d e (n.trans f) g)
end
end DL
namespace DL
open PySem PySem.Spec L2
section
def OO (as:List PyData):List PyData:=as.zipIdx.map λp=>.tuple [.int (p.2:Nat),p.1]
end
end DL
namespace DL
open PySem PySem.Spec L2
section
theorem oG (ho:JC g T) (hT:∀i∈T,∀j,u[i]?≠am (am j)) (h:DI K wi ρ M λds M1=>ds.length < aB/\∀D,M1 D=ap->∃P:Nat->List PyData->Own->Prop,P 0 [] (M1.put D (.l []))/\(∀k acc t,P k acc t->t D=am (.l acc)/\acc.length<=k) /\(∀k d acc t,ds[k]?=am d->P k acc t->DG K g d (G8 u ρ) t λS M2=>DT K tt S M2 λc Z=>if c=av then DE K te S Z λy M4=>∃r,y = .d r/\M4 D=am (.l acc)/\P (k+1) (acc++[r]) (M4.put D (.l (acc++[r]))) else P (k+1) acc Z) /\∀acc t,P ds.length acc t->Q (.loc D) t) :
   DE K (OG u wi g tt te) ρ M Q:=λσ H QQ R k=>
 h σ H _ R λJ ds H1 M1 o1 t1 wd dm=>by
   obtain⟨hsz,hq⟩:=dm;intro A hA;obtain⟨P,p0,pa,pt,pe⟩:=hq A (o1.none hA);obtain⟨oA,sA⟩:=MC o1 hA (DVs.nil (K:=K) (H:=H1) (W:=M1.W));refine#[λi m ys n=>m=ds.length - i/\i<=ds.length/\n A=am (.lst ys)/\∃acc t,OA K n t/\Step K M1 t H1 n/\P i acc t,#[_,rfl,xR _,AE,[],_,oA,sA,p0],?_];rintro i m ys n ⟨rfl,hi,wt,acc,t,I,v,p⟩;refine#[wt,?_];have yj:∀{N:Own},(N.del A).Sub N:=λ{N} b o q=>by
     unfold Own.del at q;by_cases hb:b=A;. rw[if_pos hb] at q;cases q
     . rw[if_neg hb] at q;exact q
   by_cases G:i < ds.length
   . refine .inr #[wd.go i n t G I v,λx Y y=>?_];obtain⟨yl,ff,d,e1,e2⟩:=wd.yld i n t x Y I v G y;have Rc:Rel K t (G8 u ρ) (L2.capt u σ) Y:=((R.step o1 t1).step yl (v.trans ff)).capt;refine ho _ _ _ _ (pt i d acc t e1 p (L2.capt u σ) Y x _ Rc e2 λρ3 Z B H4 R3 gu b3 hext=>#[λi' v' lj=>?_,?_]);. obtain⟨j,f1,f2⟩:=FE lj;rw[hext i' λf=>hT i' f j f1];exact lj
     . refine b3 B H4 _ R3 λc H5 M5 o5 jb O=>?_;have sx:=((v.trans ff).trans gu).trans jb;cases c with
       | false=> rw[if_neg nft] at O ⊢;obtain⟨f,_⟩:=pa _ _ _ O;obtain⟨X,L,U⟩:=o5 A _ f;exact#[X,ds.length - (i+1),by omega,rfl,G,L,acc,M5,o5,sx,O]
       | true=> rw[if_pos rfl] at O ⊢;refine O B H5 _ (R3.step o5 jb) λy H6 z M6 o6 s6 om h6=>?_;obtain⟨r,rfl,f,p'⟩:=h6;obtain⟨X,L,U⟩:=o6 A _ f;obtain⟨w1,w2⟩:=E5 o6 f (U.append (DVs.cons s6 DVs.nil));have ac:acc.length<=i:=(pa _ _ _ p).2;exact#[X,L,by rw[U.length];omega,ds.length - (i+1),by omega,rfl,G,AE,_,_,w1,(sx.trans om).trans w2,p']
   . have e:i=ds.length:=by omega
     subst e;refine .inl #[wd.stop n t I v,?_];obtain⟨f,_⟩:=pa _ _ _ p;obtain⟨X,L,U⟩:=I A _ f;exact k _ n (.loc A) t I rfl (t1.trans v) (pe acc t p)
end
end DL
namespace DL
open PySem PySem.Spec L2 XC
theorem HasX.calm (h:HasX P w K mg base x k ps S) (hp:∀xs M,L.pre xs M->S.pre xs M/\(∀y i,S.post xs M y i->L.post xs M y i)/\∀cls fs i,¬S.xpost xs M cls fs i):Has P w K mg base x k ps L:=by
 obtain⟨f,t,F,j,hk,hb⟩:=h.ex;refine#[f,t,#[cQ,λA outer s H args N O Q E hr c o u hs=>?_],j,hk,hb];obtain⟨xs,M,h0,T,X,pre,q⟩:=hs;obtain⟨n,m,p⟩:=hp xs M pre;refine xM (F.run A outer s H args N O Q (λ_ _ _=>False) hr c o u #[xs,M,h0,T,X,n,λy i v H' D=>q y i v H' (m y i D),λcls fs i Y H' D=>absurd D (p cls fs i)]) λr s' b=>?_;cases r with
 | ok z=>cases z <;> first | exact b | exact b.elim
 | error e=> obtain⟨_,_,_,_,_,_,_,_,_,_,_,_,_,_,_,_,_,g⟩:=b;exact g.elim
end DL
namespace DL
open PySem PySem.Spec L2 XC
theorem VH (a b:Int):a0W (.int a) (.int b)=decide (a=b):=by
 have:a0W (.int a) (.int b)=(a==b):=by simp[a0W]
 rw[this];rfl
end DL
namespace DL
open PySem PySem.Spec L2
theorem bC (h:CW t.1):zH (thD t)=true:=by
 refine FF ?_ ?_
 . exact NG (ds:=[.str t.1,.int t.2.1,.int t.2.2]) λd hd=>by
     simp only[yX,xW,or_false] at hd;rcases hd with rfl | rfl | rfl;. exact FM h
     . rfl
     . rfl
 . simp[thD,a3Z,a4Z]
theorem iI (h:CO w):zH (wD w)=true:=by
 refine FF (NG λd hd=>?_) ?_;. obtain⟨t,u,rfl⟩:=zL.mp hd;exact zG (bC (h.2 t u).1)
 . have:a4Z (w.map thD)<=3:=NH λd hd=>by obtain⟨t,u,rfl⟩:=zL.mp hd;simp[thD,a3Z,a4Z]
   simp only[wD,a3Z];lia
theorem QU (h:zH d=av):a0W d d=true:=PySem.SeqAt.eqv_refl _ (zG h)
end DL
namespace L2
open PySem PySem.Spec PyProof.Rows
section
theorem iJ (hh:A.handled=ap) (hx:items[k]?=ap):NxE prog w A i (λh=>h.IsTupleIter i t k/\h.IsTuple t items):=λs Q E hS hE=>by
 obtain⟨hit,u⟩:=hS;obtain⟨o,ho,hc,hd⟩:=id hit;obtain⟨v,X,c,n,e⟩:=id u;unfold a2Z;refine zZ (wpAny_callSpecial?_slot (name:=a0Q "__next__") hit.typeIs a6Q (ce a6Q hit.typeIs b8Q ?_ (b7Z _)));show wpAny _ _ (iv (.ref i) 0 >>= _) _ _ s;refine zZ (bf ho hd (x:=.ref t) rfl ?_);show wpAny _ _ (if (a0X t==a0V)=av then _ else _) _ _ s;rw[if_neg (show ¬((a0X t==a0V)=av) from nft)];show wpAny _ _ (iv (.ref i) 1 >>= _) _ _ s;refine zZ (bf ho hd (x:=.int k 0) rfl ?_);show wpAny _ _ (seqItems? (.ref t) >>= _) _ _ s;refine zZ (c4 X e ?_);simp only[a2W,hx];refine zZ (dc (zZ (dV ho hd (by simp) (zZ ?_))));simp only[newExc,newTuple];refine zZ (xL (zZ (m:=iz _ _) (fx (a:=a0V) (by first | rfl | (simp only[iz];rfl)) (xL ?_ (by size_fits)))) (by size_fits));simp only[raiseNew];refine zZ (wpAny_handled ?_);first | rw[show A.in1.handled=ap from hh] | rw[hh]
 exact zZ (zY (wpAny_throw (hE _ _ (((b5Z ..).extBut.push _).push _) #[_,yZ _ rfl,rfl])))
end
end L2
namespace L2
open PySem PySem.Spec PyProof.Rows
theorem LC:e5 (.type "tuple") (dunderI "add")=pure none:=by rw[typeLookup_type,builtinLookup_eq_fast];kernel_rfl
theorem LF {id:String}(e:s.TypeIs a T) (hb:s.TypeIs b T) (m:e5 (.type T) (dunderI "add")=pure ap) (t:fillsNumberSlot (.type T) "add"=pure ay) (hs:seqSlot? (.type T) "__add__"=pure (am (.builtin id))) (sl:Slot T "__add__" id) (D:entryFor table id=am B) (n:argsOk id #[[a,b],[]]) (g:Meets (B #[[a,b],[]]) S) (h:S A (wants Q E) s):wpAny (model prog w) A (inplaceOp .Add a b) Q E s:=
 wpAny_inplaceOp_concat e hb m t hs (call_meets sl e D n g h)
section
variable {X:Cx}
def A1q (K:Frg):R2:=λx y H Q=>ipI (λi j=>i+j) x y H Q\/aE K x y H Q
theorem bD {K:Frg}(hK:X.K=K):PIp X .Add (A1q K):=by
 subst hK;intro pins s U H x y v u Q I L Z h;rcases h with h | h;. exact A0Z pins s U H x y v u Q I L Z h
 obtain⟨t,b,k,z,rfl,rfl,hx,hy,S,M,D,J⟩:=h;cases L;cases Z;obtain⟨i,r,O,_⟩:=I.tuple hx;obtain⟨m,g,hb,_⟩:=I.tuple hy;have e1:=r.length;have e2:=g.length;obtain⟨⟨cls,Y,data,sl⟩,ho,hc,n,hd⟩:=id O;obtain⟨⟨Av,j,data2,B⟩,p,hc2,f,hd2⟩:=id hb;dsimp only at hc hd hc2 hd2;subst hc hd hc2 hd2;have e:i.toArray++m.toArray=(i++m).toArray:=by simp
 by_cases c:i=[]
 . have N:k=[]:=by cases r with | nil=>rfl | cons _ _=>cases c
   exact LF #[_,ho,rfl] #[_,p,rfl] LC et ft a7Z a7X (a6Z _ _) (tuple_addW0 t b i.toArray m.toArray n f Y j sl B (by simp[c])) #[ho,p,#[.ref b,H,I,rfl,M N]]
 . by_cases G:m=[]
   . have T:z=[]:=by cases g with | nil=>rfl | cons _ _=>cases G
     exact LF #[_,ho,rfl] #[_,p,rfl] LC et ft a7Z a7X (a6Z _ _) (tuple_addW1 t b i.toArray m.toArray n f Y j sl B (by simpa using c) (by simp[G])) #[ho,p,#[.ref t,H,I,rfl,D T]]
   . refine LF #[_,ho,rfl] #[_,p,rfl] LC et ft a7Z a7X (a6Z _ _) (tuple_addW2 t b i.toArray m.toArray n f Y j sl B (by simpa using c) (by simpa using G) (by rw[zJ,zJ];lia)) #[ho,p,?_];rw[e];refine#[.ref s.heap.objs.size,_,I.laid (t':=s.toks) (o:=.tup (k++z)) (λb ob q=>zW _ q) (zR _) ?_,rfl,J _ I.fresh];exact#[by rw[yY];exact S,i++m,r.append g,IsTup.new _ _]
end
end L2
namespace DL
open PySem PySem.Spec L2
section
theorem VI (h:∃x,ρ[i]?=am (am x)/\DE K n ρ M λy M1=>D2 K r x y M1 λz T=>D.nx (ρ.set i (am z)) T):DSt K (A2o i n r) ρ M D:=λg H E R B _ _ _=>by obtain⟨x,e,h⟩:=h;obtain⟨v,U,f⟩:=R.slot i x e;refine#[v,U,h g H _ R λu o y M1 O p t q=>?_];exact q o v u _ O (SI.step t f) p λz c w T m b k J=>B _ T _ c (((R.step O t).step m k).set b i) (t.trans k) J
theorem dS (q:Q (.d (.int (i+j))) M):D2 K (A1q K) (.d (.int i)) (.d (.int j)) M Q:=λH v u QQ t r e k=>by unfold SI DV at r e;subst r;subst e;exact .inl #[i,j,rfl,rfl,k _ H (.d (.int (i+j))) M t (by unfold SI DV;rfl) Step.refl q]
theorem v8 (hz:as.length+bs.length<=aB) (q:Q (.d (.tuple (as++bs))) M):D2 K (A1q K) (.d (.tuple as)) (.d (.tuple bs)) M Q:=λH v u QQ t r n k=>by
 have h:=r;have m:=n;unfold SI DV at r n;obtain⟨a,i,rfl,c,hd⟩:=r;obtain⟨b,o,rfl,f,hd2⟩:=n;refine .inr #[a,b,i,o,rfl,rfl,c.sq,f.sq,by rw[hd.length,hd2.length];exact hz,λe=>?_,λe=>?_,λp hp=>?_]
 . have:as=[]:=by have:=hd.length;rw[e] at this;exact List.length_eq_zero_iff.mp this.symm
   subst this;exact k _ H (.d (.tuple ([]++bs))) M t m Step.refl q
 . have:bs=[]:=by have:=hd2.length;rw[e] at this;exact List.length_eq_zero_iff.mp this.symm
   subst this;rw[a2Q] at q;exact k _ H (.d (.tuple as)) M t h Step.refl q
 . have g:Grow K M.W M.W H (upd H p (.tup (i++o))):=B6 _ hp;refine k _ _ (.d (.tuple (as++bs))) M (t.new hp) ?_ #[g] q;unfold SI DV;exact#[p,_,rfl,.inl #[λw=>w (t.none hp),.inl AE],(hd.append hd2).grow g]
theorem YC (P:Nat->List (Option DS)->Own->Prop) (Y:∃m,P m ρ M) (pt:∀m S i,P m S i->DT K N S i λc M1=>if c=av then DSt K z S M1 (D.turn λe T=>∃n,n < m/\P n e T) else D.nx S M1):DSt K (kA N z) ρ M D:=λX H E R B G L Q=>by
 obtain⟨J,Y⟩:=Y;refine#[λm t H'=>∃S i,Rel K i S t H'/\Step K M i H H'/\P m S i,#[J,ρ,M,R,Step.refl,Y],?_];rintro m t H' ⟨S,i,u,y,p⟩;refine pt m S i p t H' _ u λc v M1 O j q=>?_;cases c with
 | false=> rw[if_neg nft] at q ⊢;exact B S M1 t v (u.step O j) (y.trans j) q
 | true=> rw[if_pos rfl] at q ⊢;refine#[λg k=>∃e T,Rel K T e g k/\Step K M T H k/\∃n,n < m/\P n e T,(by rintro g k ⟨e,T,a,b,n,I,c⟩;exact#[n,I,e,T,a,b,c]),?_];have h:=y.trans j;exact q t v _ (u.step O j) (λr m s f o U q=>#[r,m,o,h.trans U,q]) (λw f x m a b c q=>G w f x m a b (h.trans c) q) (λr m s f o U q=>B r m s f o (h.trans U) q) (λr m s f o U q=>#[r,m,o,h.trans U,q])
end
end DL
namespace DL
open PySem PySem.Spec L2
theorem TX {S:Type}:∀(e:List S),(a0K e.length).filterMap (λi=>e[i]?)=e
 | []=>rfl
 | a::r=>by rw[yR,List.range_succ_eq_map,a2V];show a::((a0K r.length).map Nat.succ).filterMap (λi=>(a::r)[i]?)=_;rw[List.filterMap_map];exact congrArg (a::·) (TX r)
end DL
namespace L2
open PySem PySem.Spec PyProof.Rows
section
variable {X:Cx}
def bE (i j:Int):List V:=(a0K (j - i).toNat).map λk:Nat=>V.int (i+k)
def dU (t:TA):TE:=λo H Q=>t o H λn e=>∃i j:Int,n=[.int i,.int j]/\(-(2 ^ 40)<=i/\i < 2 ^ 40/\-(2 ^ 40)<=j/\j < 2 ^ 40)/\(j - i).toNat<=1000/\∀p,e p=ap->Q (.ref p) (upd e p (.lst (bE i j)))
theorem iK {a b:bn}{O:TA}{Y g pos mp:eH}(hh:X.A.handled=ap) (hg:Gl X "range") (hm:X.mg "range"=ap) (U:Gl X "list") (B:X.mg "list"=ap) (he:PA X [a,b] O) (hs:starEach [.Call (.Name "range" Y) [a,b] [] g] X.env=[(ay,eval (.Call (.Name "range" Y) [a,b] [] g) X.env)]:=by rfl) (D:starEach [a,b] X.env=[(ay,eval a X.env),(ay,eval b X.env)]:=by rfl) (M:starEach [b] X.env=[(ay,eval b X.env)]:=by rfl) :
   PE X (.Call (.Name "list" mp) [.Call (.Name "range" Y) [a,b] [] g] [] pos) (dU O):=by
 intro pins s y H Q I h;refine c0 (HY I U B PyProof.Rows.boot_list ?_);refine xG ?_ hs rfl;rw[hs];refine(show wpAny _ _ (spliced ((ay,eval (.Call (.Name "range" Y) [a,b] [] g) X.env)::backTo pos (starEach [] X.env))) _ _ _ from xN ?_);refine c0 (HY I hg hm boot_range ?_);refine xG (thn (he g pins s y H _ I h) λus p #[f,T,J,r1,q1]=>?_) (by rw[D,M]) (by rw[M];rfl);obtain⟨i,j,rfl,⟨b1,b2,b3,b4⟩,hn,q⟩:=q1;cases r1 with
 | cons r v=>
   cases v with
   | cons r' v=>
     cases v;obtain⟨t,rfl⟩:=r;obtain⟨t',rfl⟩:=r';refine call_range_2 ?_;refine(show wpAny _ _ (spliced []) _ _ _ from zY ?_);refine call_list_range (n:=(j - i).toNat) hh (IsRange.new ..) (small_one (by lia) (by lia) (by lia) (by lia)) (by rw[rangeSize_one];split <;> lia) (zN hn (by decide)) λh' S acc c hk ho G=>?_;have N:Inv X pins y T { p with heap:=p.heap.push { cls:=.type "range", data:=.fields (y9 [.int i t,.int j t',.int 1 p.toks]) },toks:=p.toks+1 }:=J.kept λb o e=>zW _ e;have hv:Vals (bE i j) acc.toList:=by
       have go:∀(f:List aw) (m:Nat) (k:Int),f.length=m->(∀n,n < m->∃t,f[n]?=am (c0V (k+(n:Nat)) t))->Vals ((a0K m).map λn:Nat=>V.int (k+n)) f:=by
         intro f;induction f with
         | nil=>intro m k e _;cases e;exact .nil
         | cons x r ih=>
           intro m k e hx;cases e;rw[yR,List.range_succ_eq_map,zI,zD];refine .cons ?_ ?_
           . obtain⟨t,u⟩:=hx 0 (by simp);have:x=c0V (k+((0:Nat):Int)) t:=by simpa using u
             rw[this];exact#[t,rfl]
           . have:=ih r.length (k+1) rfl λn hn=>by obtain⟨t,u⟩:=hx (n+1) (by simpa using hn);refine#[t,?_];rw[b3K] at u;rw[u];congr 2;lia
             have Z:((λn:Nat=>V.int (k+n))∘Nat.succ)=λn:Nat=>V.int (k+1+n):=by funext n;show V.int _=V.int _;congr 1;simp;lia
             rw[Z];exact this
       refine go acc.toList (j - i).toNat i (by rw[a4W];exact G.1) λn hn=>?_;have z:n < acc.size:=by rw[G.1];exact hn
       obtain⟨t,u⟩:=G.2 n acc[n] (b2W z);refine#[t,?_];rw[a8W,b2W z,u];simp
     have L:Inv X pins y (upd T (p.heap.push { cls:=.type "range", data:=.fields (y9 [.int i t,.int j t',.int 1 p.toks]) }).objs.size (.lst (bE i j))) { p with heap:=h',toks:=S }:=
       N.laid (t':=S) hk (zR _) (show ObjOk X.prog X.w _ _ _ (.lst _) from #[by unfold bE;rw[zX,xY];exact zN hn (by decide),acc.toList,c,hv,by simpa using ho]);exact#[.ref _,_,L,rfl,q _ (N.hok.fresh (zR _))]
end
end L2
namespace DL
open PySem PySem.Spec L2 XC
section
def iL (i j:Int):List PyData:=(a0K (j - i).toNat).map λk:Nat=>b4W (i+k)
end
end DL
namespace DL
open PySem PySem.Spec L2 XC
mutual
def plD:PyData->Bool
 | .int _=>av
 | .str _=>av
 | .tuple ds=>plAll ds
 | _=>ay
def plAll:List PyData->Bool
 | []=>av
 | d::r=>plD d&&plAll r
end
mutual
theorem bF:∀(a b:PyData),plD a=av->plD b=av->a0W a b=av->a=b
 | .int i,.int j,_,_,h=>by simp only[a0W,beq_iff_eq] at h;rw[h]
 | .str i,.str j,_,_,h=>by simp only[a0W,beq_iff_eq] at h;rw[h]
 | .tuple t,.tuple f,h1,e,h=>by simp only[a0W] at h;rw[eqv_plAll t f (by simpa [plD] using h1) (by simpa [plD] using e) h]
 | .int _,.str _,_,_,h=>by cases h
 | .int _,.tuple _,_,_,h=>by cases h
 | .str _,.int _,_,_,h=>by cases h
 | .str _,.tuple _,_,_,h=>by cases h
 | .tuple _,.int _,_,_,h=>by cases h
 | .tuple _,.str _,_,_,h=>by cases h
 | .none,_,h,_,_=>by cases h
 | .bool _,_,h,_,_=>by cases h
 | .list _,_,h,_,_=>by cases h
 | .dict _,_,h,_,_=>by cases h
 | _,.none,_,h,_=>by cases h
 | _,.bool _,_,h,_=>by cases h
 | _,.list _,_,h,_=>by cases h
 | _,.dict _,_,h,_=>by cases h
theorem eqv_plAll:∀(a b:List PyData),plAll a=av->plAll b=av->PyData.eqvAll a b=av->a=b
 | [],[],_,_,_=>rfl
 | x::t,y::f,h1,e,h=>by simp only[plAll,a1Z] at h1 e;simp only[PyData.eqvAll,a1Z] at h;rw[bF x y h1.1 e.1 h.1,eqv_plAll t f h1.2 e.2 h.2]
 | [],_::_,_,_,h=>by cases h
 | _::_,[],_,_,h=>by cases h
end
end DL
namespace DL
open PySem PySem.Spec L2 XC
theorem YD {ss:List Str}(h:∀s∈ss,CW s):zH (.tuple (ss.map .str))=true:=by
 refine FF (NG λd hd=>?_) ?_;. obtain⟨s,hs,rfl⟩:=zL.mp hd;exact FM (h s hs)
 . have:a4Z (ss.map .str)<=2:=NH λd hd=>by obtain⟨s,hs,rfl⟩:=zL.mp hd;simp[a3Z]
   simp only[a3Z];lia
end DL
namespace DL
open PySem PySem.Spec L2 XC
theorem oH (q:∀p,M p=ap->Q (.loc p) (M.put p (.d (AF [])))):DE K kT n M Q:=λo H QQ R k p hp=>by obtain⟨t,e⟩:=Q0 (kvs:=[]) (ks:=[]) R.own hp (by unfold DKV;rfl);exact k _ _ (.loc p) _ t (by unfold SI;rfl) e (q p (R.own.none hp))
end DL
namespace DL
open PySem PySem.Spec L2 XC
section
variable {M:Own}{Q:DS->Own->Prop}{ys:List Str}{w:List Th}{D:Deed}{p:Addr}{L:List Int}
def KL (x:Int):Nat:=97+(x % 26).toNat
theorem oI (v:Int):atI (a0Q "abcdefghijklmnopqrstuvwxyz").cps.toList (v % 26)=am (KL v):=by
 have h0:0<=v % 26:=b1K _ (by decide);have h1:v % 26 < 26:=a9X _ (by decide);unfold KL;generalize v % 26=m at h0 h1;obtain⟨n,rfl⟩:∃n:Nat,m=(n:Int):=#[m.toNat,by lia]
 have hn:n < 26:=by lia
 rw[a2W];refine AI ?_;have key:∀n:Fin 26,(a0Q "abcdefghijklmnopqrstuvwxyz").cps.toList[n.1]?=am (97+n.1):=by decide +kernel
 exact key #[n,hn]
theorem MT (x:Int):FK (KL x)=true:=by have h0:0<=x % 26:=b1K _ (by decide);have h1:x % 26 < 26:=a9X _ (by decide);unfold FK KL;rw[a1Z,decide_eq_true_iff,decide_eq_true_iff];lia
theorem oJ (o:(w.map (·.1)).Nodup) (h:w[k]?=am t):CD (w.take k) t.1 t.2.1 t.2.2=w.take (k+1):=by
 unfold CD;rw[if_neg λq=>?_,a2K,h];. rfl
 . obtain⟨s,hs,e⟩:=List.any_eq_true.mp q;have e:=of_decide_eq_true e;obtain⟨i,hi,rfl⟩:=List.mem_iff_getElem.mp hs;rw[a1X] at hi;rw[List.getElem_take] at e;obtain⟨hk,rfl⟩:=yT.mp h;have n:=List.pairwise_iff_getElem.mp o i k (by rw[zX];lia) (by rw[zX];exact hk) (by lia);rw[c0Q,c0Q] at n;exact n e
theorem A1r (h:tsO a=tsO b):a=b:=by
 have h1:AF (tsD a)=AF (tsD b):=MO.d.inj h;clear h;induction a generalizing b with
 | nil=>cases b with | nil=>rfl | cons _ _=>cases h1
 | cons x r n=>cases b with
   | nil=>cases h1
   | cons y s=> simp only[AF,tsD,pcD,zI,List.cons.injEq,Prod.mk.injEq,PyData.str.injEq,PyData.tuple.injEq,PyData.int.injEq,and_true] at h1;rw[n (b:=s) (by simpa [AF,tsD,pcD] using h1.2)];obtain⟨⟨j,e,t⟩,_⟩:=h1;obtain⟨B,o,i⟩:=x;obtain⟨m,g,k⟩:=y;simp only at j e t;rw[j,e,t]
def stT (ns:List Str):PyData->Bool | .str z=>decide (z∈ns) | _=>ay
def frT (ns:List Str) (d:PyData):Bool:=!stT ns d
theorem YE (ns l:List Str):((l.map a0J).filter (frT ns)).map id=(l.filter λz=>!decide (z∈ns)).map .str:=by rw[b6V,xT];rfl
set_option genInjectivity true
structure There (ys:List Str) (w:List Th):Prop where
 nd:(w.map (·.1)).Nodup
 sub:∀t∈w,t.1∈ys
def BL (ys:List Str) (D:Deed):Prop:=D.real/\∀x∈D.names,x∈ys
theorem oK (h:There ys w) (hg:goD w D) (hD:∀x∈D.names,x∈ys):There ys (doT w D):=by
 obtain⟨nd,m⟩:=NO hg;refine#[nd,λt u=>?_];have h1:t.1∈(doT w D).map (·.1):=zL.mpr #[t,u,rfl];rw[NN hg.2.1 hg.2.2] at h1;have G:∀z∈w.map (·.1),z∈ys:=λz e=>by obtain⟨s,hs,rfl⟩:=zL.mp e;exact h.sub s hs
 cases D with
 | put x p k=>rcases yW.mp h1 with q | q;exact G _ q;exact hD _ (by simpa [Deed.names] using q)
 | take x=>exact G _ (yL.mp h1).1
 | move x p=>exact G _ h1
 | count x k=>exact G _ h1
 | name x y=>rcases yW.mp h1 with q | q;exact G _ (yL.mp q).1;exact hD _ (by rw[List.mem_singleton.mp q];simp[Deed.names])
 | split x y p k=>rcases yW.mp h1 with q | q;exact G _ q;exact hD _ (by rw[List.mem_singleton.mp q];simp[Deed.names])
 | join x y=>exact G _ (yL.mp h1).1
theorem JK:∀{l ys:List Str},l.Nodup->(∀z∈l,z∈ys)->l.length<=ys.length
 | [],_,_,_=>xR _
 | a::r,ys,hn,hs=>by rw[xU] at hn;have g:=hs a (by simp);have:=JK (l:=r) (ys:=ys.erase a) hn.2 λz e=>(List.mem_erase_of_ne (by rintro rfl;exact hn.1 e)).mpr (hs z (yV _ e));rw[List.length_erase_of_mem g] at this;have:=List.length_pos_of_mem g;rw[yR];lia
theorem There.few (h:There ys w):w.length<=ys.length:=by
 have:=JK h.nd λz e=>by obtain⟨t,h1,rfl⟩:=zL.mp e;exact h.sub t h1
 rw[zX] at this;exact this
end
end DL
namespace DL
open PySem PySem.Spec L2
section
theorem HJ (h:DE K ty ρ M λy M1=>DE K td ρ M1 λx T=>∃(a:Addr) (ts:List (Str×PyData)) (k:Str),x = .loc a/\y = .d (.str k)/\T a=am (.d (AF ts))/\Q (.d (.bool (!(BS ts k).isSome))) T):DE K (cO ty td) ρ M Q:=λr H QQ R z=>
 h r H _ R λv p x M1 O N i h1=>h1 r p _ (R.step O i) λu c y T t o I f=>by
   obtain⟨a,ts,k,rfl,rfl,m,q⟩:=f;unfold SI at o;subst o;rw[BD N];obtain⟨e,j,b⟩:=t a _ m;refine#[a,GY e (a1W k),rfl,.inl #[e,a1W k,.inl j,rfl,rfl],z _ c _ T t ?_ (i.trans I) q];rcases EL (k:=k) b with ⟨D,B,n,g,S⟩ | ⟨n,g⟩
   . rw[n,g];exact AN
   . rw[n,g];exact AN
theorem iM (h:∀p,M p=ap->DPs K X ρ (M.put p (.d [])) λu M1=>M1 p=am (.d [])/\u.length<=15/\(u.map (·.1)).Nodup/\Q (.loc p) (M1.put p (.d (AF u)))):DE K (yS X) ρ M Q:=λx H QQ R k p hp=>by
 have f:=R.own.none hp;obtain⟨m,t⟩:=Q0 (kvs:=[]) (ks:=[]) R.own hp (by unfold DKV;rfl);refine h p f x _ _ (R.step m t) ?_;rintro O c u T r ⟨n,hd,e⟩ v g;obtain⟨i,z,nd,q⟩:=g;obtain⟨ks,N,J⟩:=r p _ i;unfold DKV at J;subst J;have o:n.length=u.length:=by rw[hd.length,zX]
 refine#[N,(u.map λk=>(a1W k.1:Key)).zip n,?_,by rw[List.length_zip,zX];lia,?_];. rw[e];exact XO u n o
 . have hk:(((u.map λk=>(a1W k.1:Key)).zip n).map (·.1)).Nodup:=by
     rw[List.map_fst_zip (by rw[zX,o];exact zR _)];have:u.map (λk=>(a1W k.1:Key))=(u.map (·.1)).map a1W:=by rw[zD];rfl
     rw[this];unfold List.Nodup;rw[b2Q];exact nd.imp λ{a b} q e=>q (by injection e)
   rw[OI _ [] (by simpa using hk),List.nil_append];obtain⟨j,y⟩:=FJ (kvs:=AF u) (ks:=(u.map λk:Str×PyData=>(a1W k.1:Key)).zip n) r i (show DKV K c T.W (AF u) _ from mR hd);exact k _ _ (.loc p) _ j rfl ((t.trans v).trans y) q
end
end DL
namespace L2
open PySem PySem.Spec PyProof.Rows
section
theorem VJ (c:s.heap.IsTuple l vs.toArray) (hS:StrsAre vs ss) (O:vs.length < 64) (h:∀(out:Array aw) (t:List Str),StrsAre out.toList t->t.Perm ss->sortedS t=av->Q (.ref (s.heap.objs.size+1)) { s with heap:=sortedAll s.heap vs out }) :
   wpAny (model prog w) A (call (.builtin "sorted") [.ref l]) Q E s:=by
 refine b8X kind_sorted plain_sorted entry_sorted (args_sorted1 _) ?_;unfold Builtin.«sorted»;refine zZ (m:=checkCount "sorted" 1 1 _) (zY ?_);refine zZ (OJ (.inr c) ?_ (by rw[c3];lia));refine zZ (g5 ?_ (by rw[c3];lia));have hsz:((s.heap.push (cE "list" #[] 0)).update s.heap.objs.size (a5J (·++vs.toArray))).objs.size=s.heap.objs.size+1:=by rw[Heap.size_update,size_push']
 have n:(((s.heap.push (cE "list" #[] 0)).update s.heap.objs.size (a5J (·++vs.toArray))).push (cE "list" vs.toArray 0)).get? (s.heap.objs.size+1)=am (cE "list" vs.toArray 0):=by rw[<-hsz];exact yZ _ rfl
 show wpAny _ _ _ _ _ { s with heap:=((s.heap.push (cE "list" #[] 0)).update s.heap.objs.size (a5J (·++vs.toArray))).push (cE "list" vs.toArray 0) };rw[hsz];refine zZ (bq (ce slot_list_sort #[_,n,rfl] entry_list_sort (list_sort_treeK strKind_oneLt n hS.keysOf (λo i rest e=>keyKind_strs (by rw[<-e];exact hS)) O λf r g=>#[_,rfl,?_]) (args_list_sort _)));obtain⟨t,h1,p,b⟩:=sorted_out_str hS r g;exact zY #[_,rfl,h _ t h1 p b]
end
section
def VL (K:Frg):List V->Hp->VK->Prop:=λt H Q=>∃(p:Addr) (x:List Str),t=[.ref p]/\SqT K H p (x.map V.str)/\x.length < 64/\∀(e:List Str) (q:Addr),e.Perm x->sortedS e=av->H q=ap->Q (.ref q) (upd H q (.lst (e.map V.str)))
theorem YF:C7 X (.builtin "sorted") (VL X.K):=by intro pins s M H S N Q I r h;obtain⟨p,T,rfl,hp,O,q⟩:=h;obtain⟨u,rfl,v⟩:=J7 r;cases v;obtain⟨y,i,k,x⟩:=I.tuple hp;have hS:=P3 i;have c:=i.length;rw[zX] at c;refine VJ k hS (by lia) λout t h1 n f=>?_;obtain⟨e,g⟩:=sortedAll_at s.heap y out;have hn:H (s.heap.objs.size+1)=none:=I.hok.fresh (a4V _);have m:=n.length_eq;refine#[.ref (s.heap.objs.size+1),_,I.laid (t':=s.toks) (o:=.lst (t.map V.str)) (λb o z=>sortedAll_old z) (a4V _) ?_,rfl,q t _ n f hn];refine#[by rw[zX,m];exact zN (xQ O) (by decide),out.toList,e,cX h1,?_];have j:=g;simpa [cE] using j
end
end L2
namespace DL
open PySem PySem.Spec L2
section
variable {X:Cx}{K:Frg}
theorem v9 (h:X.K=K):C7 X (.builtin "sorted") (VL K):=h▸YF
end
section
theorem iN (O:ss.length < 64) (q:∀e:List Str,e.Perm ss->xF e=av->Q (.d (.list (e.map .str))) M):DR K (VL K) [.d (.tuple (ss.map .str))] M Q:=λH o QQ t s k=>by obtain⟨v,r,rfl,h1,n⟩:=s;cases n;unfold SI DV at h1;obtain⟨a,o,rfl,m,hd⟩:=h1;rw[MB hd] at m;refine#[a,ss,rfl,m.sq,O,λe p hp hs hn=>?_];have g:Grow K M.W M.W H (upd H p (.lst (e.map V.str))):=B6 _ hn;refine k _ _ (.d (.list (e.map .str))) M (t.new hn) ?_ #[g] (q e hp hs);unfold SI DV;exact#[p,_,rfl,.inl #[λw=>w (t.none hn),.inl AE],JD]
end
end DL
namespace DL
open PySem PySem.Spec L2 XC
def bG (a:Str):List Str->List Str
 | []=>[a]
 | b::r=>if sl b a then b::bG a r else a::b::r
def BP:List Str->List Str
 | []=>[]
 | a::r=>bG a (BP r)
theorem NQ (a:Str):∀l:List Str,(bG a l).Perm (a::l)
 | []=>.refl _
 | b::r=>by
   unfold bG;split;. exact((NQ a r).cons b).trans (List.Perm.swap a b r)
   . exact .refl _
theorem AS:∀l:List Str,(BP l).Perm l
 | []=>.refl _
 | a::r=>(NQ a (BP r)).trans ((AS r).cons a)
abbrev Pl:=Sum Int Str
abbrev Ent:=Pl×List Str×Int
def plE:Pl->PyData | .inl p=>.int p | .inr n=>.str n
def AM (l:List Str):PyData:=.tuple (l.map .str)
def DK (e:Ent):PyData:=.tuple [plE e.1,AM e.2.1,.int e.2.2]
def lfE (t:Str×Ent):PyData:=.tuple [.str t.1,plE t.2.1,AM t.2.2.1,.int t.2.2.2]
structure Eff where
 st:List Str
 fr:List Str
 lf:List (Str×Ent)
def Eff.d (E:Eff):PyData:=.tuple [AM E.st,AM E.fr,.tuple (E.lf.map lfE)]
def efO (o:Option Eff):PyData:=match o with | some E=>E.d | none=>.none
def SH (ts:List (Str×Ent)):MO:=.d (AF (ts.map λt=>(t.1,DK t.2)))
def AC:List (Str×Ent)->Str->Option Ent
 | [],_=>ap
 | t::r,k=>if t.1=k then am t.2 else AC r k
section
variable {M:Own}{Q:DS->Own->Prop}
theorem dW :∀{l:List Str},l.Pairwise (λx y=>sl y x=ay)->(bG a l).Pairwise λx y=>sl y x=ay
 | [],_=>by simp[bG]
 | b::r,h=>by
   have t:=h;rw[a5X] at h;unfold bG;split
   . rename_i hb;rw[a5X];refine#[λy hy=>?_,dW h.2];rcases yX.mp ((NQ a r).mem_iff.mp hy) with rfl | q;. exact Q4 hb
     . exact h.1 y q
   . rename_i hb;rw[a5X];refine#[λy hy=>?_,t];have e:sl b a=false:=by simpa using hb
     rcases yX.mp hy with rfl | q;. exact e
     . cases hya:sl y a with
       | false=>rfl
       | true=>
         have S:=h.1 y q;exfalso;cases hby:sl b y with
         | true=>rw[MH hby hya] at e;cases e
         | false=>rw[FL hby S] at e;rw[e] at hya;cases hya
theorem K1:∀l:List Str,(BP l).Pairwise λx y=>sl y x=ay
 | []=>a7V
 | a::r=>dW (K1 r)
theorem dX (hp:ss.Perm l) (hs:xF ss=av):ss=BP l:=(hp.trans (AS l).symm).eq_of_pairwise (le:=λx y=>sl y x=ay) (λa b _ _ h1 e=>FL e h1) (TB _ hs) (K1 l)
theorem TY (h:a.Perm b):BP a=BP b:=((AS a).trans (h.trans (AS b).symm)).eq_of_pairwise (le:=λx y=>sl y x=ay) (λa b _ _ h1 e=>FL e h1) (K1 a) (K1 b)
theorem vA (h:l.Pairwise λx y=>sl y x=ay):BP l=l:=(AS l).eq_of_pairwise (le:=λx y=>sl y x=ay) (λa b _ _ h1 e=>FL e h1) (K1 l) h
def CS (ts:List (Str×Ent)) (n:Str):Bool:=(AC ts n).isSome
def B2 (one other:Eff):Bool:=(other.st.any λn=>decide (n∈one.st++one.fr)&&!CS one.lf n)||other.fr.any (CS one.lf)
def AR (one other:Eff):List Str:=one.st++other.st.filter λn=>!decide (n∈one.st++one.fr)
def CP (one other:Eff):List Str:=one.fr++other.fr.filter λn=>!decide (n∈one.st++one.fr)
def MU (n:Str):Str×Ent:=(n,.inr n,[n],0)
def BH (one other:Eff):List (Str×Ent):=one.lf++(other.st.filter λn=>!decide (n∈one.st++one.fr)).map MU
def AH (ts:List (Str×Ent)) (n:Str):Ent:=(AC ts n).getD (.inr n,[n],0)
def B8 (ts:List (Str×Ent)) (e:Ent):Ent:=(match e.1 with | .inl p=>.inl p | .inr n=>(AH ts n).1,BP (e.2.1.flatMap λn=>(AH ts n).2.1),e.2.2+(e.2.1.map λn=>(AH ts n).2.2).sum)
def BX (ts:List (Str×Ent)) (n:Str) (e:Ent):List (Str×Ent):=if CS ts n=av then ts.map (λt=>if t.1=n then (t.1,e) else t) else ts++[(n,e)]
def DD (one other:Eff):List (Str×Ent):=other.lf.foldl (λo t=>BX o t.1 (B8 (BH one other) t.2)) ((BH one other).filter λt=>!decide (t.1∈other.st))
def CY (ts:List (Str×Ent)):List (Str×Ent):=(BP (ts.map (·.1))).map λn=>(n,AH ts n)
def B4 (one other:Eff):Option Eff:=if B2 one other=av then ap else am #[BP (AR one other),BP (CP one other),CY (DD one other)]
def AD:Deed->Eff
 | .put x p k=>#[[],[x],[(x,.inl p,[],k)]]
 | .take x=>#[[x],[],[]]
 | .move x p=>#[[x],[],[(x,.inl p,[x],0)]]
 | .count x k=>#[[x],[],[(x,.inr x,[x],k)]]
 | .name x y=>#[[x],[y],[(y,.inr x,[x],0)]]
 | .split x y p k=>#[[x],[y],CY [(x,.inr x,[x],-k),(y,.inl p,[],k)]]
 | .join x y=>#[BP [x,y],[],[(x,.inr x,BP [x,y],0)]]
def B0 (Ds:List Deed):Option Eff:=Ds.foldl (λo D=>o.bind λE=>B4 E (AD D)) (am #[[],[],[]])
structure OkE (ys:List Str) (E:Eff):Prop where
 st:E.st.Nodup/\∀n∈E.st,n∈ys
 fr:E.fr.Nodup/\∀n∈E.fr,n∈ys
 apart:∀n∈E.st,n∉E.fr
 keys:(E.lf.map (·.1)).Nodup
 known:∀t∈E.lf,t.1∈E.st++E.fr
 from_:∀t∈E.lf,t.2.2.1.Nodup/\∀n∈t.2.2.1,n∈E.st
 place:∀t∈E.lf,∀n,t.2.1 = .inr n->n∈E.st
 dis:(E.lf.flatMap λt=>t.2.2.1).Nodup
def EA:FSp:=#[λt M=>∃l:List Str,t=[.d (AM l)]/\l.length < 64,λt M y i=>∀l:List Str,t=[.d (AM l)]->y = .d (AM (BP l))/\i=M]
theorem EH (h:l.length < 64) (q:Q (.d (AM (BP l))) M):[DS.d (AM l)].length=1/\EA.pre [.d (AM l)] M/\∀x i,EA.post [.d (AM l)] M x i->Q x i:=#[rfl,#[l,rfl,h],λx i o=>by obtain⟨rfl,rfl⟩:=o l rfl;exact q]
def IK:FSp:=#[λt M=>∃E:Eff,t=[.d E.d]/\(E.lf.map (·.1)).Nodup/\E.lf.length<=60,λt M y i=>∀E:Eff,t=[.d E.d]->∃p,M p=ap/\y = .loc p/\i=M.put p (SH E.lf)]
def clX (one other:Eff) (p:Addr):List DS:=[.d one.d,.loc p,.d other.d]
def HK:FSp:=#[λt M=>∃(f:List Str) (one other:Eff) (p:Addr),t=clX one other p/\M p=am (SH one.lf)/\OkE f one/\OkE f other/\AK f,λt M y i=>∀(one other:Eff) (p:Addr),t=clX one other p->y = .d (.bool (B2 one other))/\i=M]
def YG (ts:List (Str×Ent)):PyData:=.dict (AF (ts.map λt:Str×Ent=>(t.1,DK t.2)))
def taX (ts:List (Str×Ent)) (e:Ent):List DS:=[.d (YG ts),.d (plE e.1),.d (AM e.2.1),.d (.int e.2.2)]
def JL:FSp:=#[λt M=>∃(o:List (Str×Ent)) (e:Ent),t=taX o e/\(∀n∈e.2.1,CS o n=av)/\(∀n,e.1 = .inr n->CS o n=av)/\(e.2.1.flatMap λn=>(AH o n).2.1).length < 64,λt M y i=>∀(o:List (Str×Ent)) (e:Ent),t=taX o e->y = .d (DK (B8 o e))/\i=M]
def HL:FSp:=#[λt M=>∃D:Deed,t=[.d D.d]/\D.real,λt M y i=>∀D:Deed,t=[.d D.d]->y = .d (AD D).d/\i=M]
def IL:FSp:=#[λt M=>∃(f:List Str) (one other:Eff),t=[.d one.d,.d other.d]/\OkE f one/\OkE f other/\AK f,λt M y i=>∀one other:Eff,t=[.d one.d,.d other.d]->y = .d (efO (B4 one other))/\i=M]
def IM:FSp:=#[λt M=>∃(f:List Str) (B:List Deed),t=[.d (.tuple (B.map Deed.d))]/\AK f/\(∀D∈B,BL f D)/\B.length<=60,λt M y i=>∀B:List Deed,t=[.d (.tuple (B.map Deed.d))]->y = .d (efO (B0 B))/\i=M]
end
def nmE:PyData->Str | .tuple (.str n::_)=>n | _=>#[#[]]
def vlE:PyData->PyData | .tuple (_::r)=>.tuple r | d=>d
theorem VM (h:plE a=plE b):a=b:=by cases a <;> cases b <;> simp_all [plE]
theorem FQ (h:AM a=AM b):a=b:=OH (PyData.tuple.inj h)
theorem vB (h:lfE a=lfE b):a=b:=by obtain⟨n,p,f,k⟩:=a;obtain⟨z,j,o,i⟩:=b;simp only[lfE,PyData.tuple.injEq,List.cons.injEq,PyData.str.injEq,PyData.int.injEq,and_true] at h;obtain⟨rfl,e,t,rfl⟩:=h;obtain rfl:=VM e;obtain rfl:=FQ t;rfl
theorem NR {S:Type}{f:S->PyData}(e:∀{a b},f a=f b->a=b):∀{l r:List S},l.map f=r.map f->l=r
 | [],[],_=>rfl
 | [],_::_,h=>by cases h
 | _::_,[],h=>by cases h
 | a::l,b::r,h=>by simp only[zI,List.cons.injEq] at h;rw[e h.1,NR e h.2]
theorem FC {a:Eff}(h:a.d=b.d):a=b:=by obtain⟨s,f,l⟩:=a;obtain⟨s',n,q⟩:=b;simp only[Eff.d,PyData.tuple.injEq,List.cons.injEq,and_true] at h;obtain⟨h1,e,t⟩:=h;obtain rfl:=FQ h1;obtain rfl:=FQ e;obtain rfl:=NR vB t;rfl
theorem oM (h:DK a=DK b):a=b:=by obtain⟨p,f,k⟩:=a;obtain⟨j,n,o⟩:=b;simp only[DK,PyData.tuple.injEq,List.cons.injEq,PyData.int.injEq,and_true] at h;obtain⟨e,t,rfl⟩:=h;obtain rfl:=VM e;obtain rfl:=FQ t;rfl
theorem oN (h:SH a=SH b):a=b:=by
 have h1:AF (a.map λt=>(t.1,DK t.2))=AF (b.map λt=>(t.1,DK t.2)):=MO.d.inj h;clear h;induction a generalizing b with
 | nil=>cases b with | nil=>rfl | cons _ _=>cases h1
 | cons x r n=>cases b with
   | nil=>cases h1
   | cons y s=> simp only[AF,zI,List.cons.injEq,Prod.mk.injEq,PyData.str.injEq] at h1;rw[n (b:=s) (by simpa [AF] using h1.2)];obtain⟨B,o⟩:=x;obtain⟨p,g⟩:=y;obtain⟨⟨j,e⟩,_⟩:=h1;simp only at j e;rw[j,oM e]
theorem HM (n:Str):∀ts:List (Str×Ent),BS (ts.map λt=>(t.1,DK t.2)) n=(AC ts n).map DK
 | []=>rfl
 | t::r=>by
   show(if t.1=n then am (DK t.2) else BS (r.map λt=>(t.1,DK t.2)) n)=(if t.1=n then am t.2 else AC r n).map DK;split;. rfl
   . exact HM n r
theorem YH {E:Eff}{Q:DS->Own->Prop}(h:(E.lf.map (·.1)).Nodup) (m:E.lf.length<=60) (q:∀p,M p=ap->Q (.loc p) (M.put p (SH E.lf))):[DS.d E.d].length=1/\IK.pre [.d E.d] M/\∀x i,IK.post [.d E.d] M x i->Q x i:=#[rfl,#[E,rfl,h,m],λx i o=>by obtain⟨p,h1,rfl,rfl⟩:=o E rfl;exact q p h1]
theorem E3 {l:List Str}(hn:AK ys) (h:l.Nodup/\∀n∈l,n∈ys):l.length<=26:=zN (JK h.1 h.2) hn.2.2
theorem oO (hn:AK ys) (h:OkE ys E):E.lf.length<=52:=by
 have h1:=E3 hn h.st;have n:=E3 hn h.fr;have:=JK (ys:=E.st++E.fr) h.keys λz e=>by obtain⟨t,u,rfl⟩:=zL.mp e;exact h.known t u
 rw[zX,yY] at this;lia
def msT (T:List Str) (ts:List (Str×Ent)):PyData->Bool | .str n=>decide (n∈T)&&!CS ts n | _=>ay
def wyT (ts:List (Str×Ent)):PyData->Bool | .str n=>CS ts n | _=>ay
theorem A1s (T l:List Str) (ts:List (Str×Ent)):(((l.map a0J).filter (msT T ts)).map id).length=(l.filter λn=>decide (n∈T)&&!CS ts n).length:=by rw[b6V,xT,zX];rfl
theorem A1t (l:List Str) (ts:List (Str×Ent)):(((l.map a0J).filter (wyT ts)).map id).length=(l.filter (CS ts)).length:=by rw[b6V,xT,zX];rfl
theorem dY {S:Type}(p:S->Bool) (l:List S):decide ((0:Int) < ((l.filter p).length:Int))=l.any p:=by
 rw[a4J,decide_eq_true_iff,b6Q];constructor
 . intro h;have:0 < (l.filter p).length:=by lia
   obtain⟨a,g⟩:=List.exists_mem_of_length_pos this;exact#[a,yL.mp g]
 . rintro⟨a,h1,e⟩;have:=List.length_pos_of_mem (yL.mpr #[h1,e]);lia
theorem oP :n∈ts.map (·.1)->∃v,AC ts n=am v:=by
 induction ts with
 | nil=>intro h;cases h
 | cons t r o=>
   intro h;show ∃v,(if t.1=n then am t.2 else AC r n)=am v;by_cases e:t.1=n;. rw[if_pos e];exact#[_,rfl]
   . rw[if_neg e];rcases yX.mp h with q | q;. exact absurd q.symm e
     . exact o q
def oQ (ts:List (Str×Ent)):PyData->PyData | .str n=>lfE (n,AH ts n) | d=>d
theorem iO (ts:List (Str×Ent)) (ss:List Str):(ss.map a0J).map (oQ ts)=(ss.map λn=>(n,AH ts n)).map lfE:=by rw[zD,zD];rfl
theorem OkE.nil (ys:List Str):OkE ys #[[],[],[]]:=#[#[a7V,(λn h=>nomatch h)],#[a7V,(λn h=>nomatch h)],(λn h=>nomatch h),a7V,(λn h=>nomatch h),(λn h=>nomatch h),(λn h=>nomatch h),a7V]
theorem MV (h:B0 A=am E):B0 (A++[D])=B4 E (AD D):=by unfold B0 at h ⊢;rw[a6X,h];rfl
theorem iP (B:List Deed):B.foldl (λo D=>o.bind λE=>B4 E (AD D)) (ap:Option Eff)=none:=by
 induction B with
 | nil=>rfl
 | cons D r e=>exact e
theorem YI (h:B0 (Ds.take k)=ap):B0 Ds=none:=by have e:Ds=Ds.take k++Ds.drop k:=(b1X k Ds).symm;unfold B0 at h ⊢;rw[e,a6X,h];exact iP _
theorem dZ (h:efO a=efO b):a=b:=by
 cases a <;> cases b;. rfl
 . cases h
 . cases h
 . rw[FC h]
theorem DF {a:List Deed}(h:[DS.d (.tuple (a.map Deed.d))]=[.d (.tuple (b.map Deed.d))]):a=b:=by simp only[List.cons.injEq,DS.d.injEq,PyData.tuple.injEq,and_true] at h;exact NR HE h
theorem bH {Q:DS->Own->Prop}(h:D.real) (q:Q (.d (AD D).d) M):[DS.d D.d].length=1/\HL.pre [.d D.d] M/\∀x i,HL.post [.d D.d] M x i->Q x i:=#[rfl,#[D,rfl,h],λx i o=>by obtain⟨rfl,rfl⟩:=o D rfl;exact q]
theorem YJ {Q:DS->Own->Prop}(h1:OkE ys one) (e:OkE ys other) (hn:AK ys) (q:Q (.d (efO (B4 one other))) M):[DS.d one.d,.d other.d].length=2/\IL.pre [.d one.d,.d other.d] M/\∀x i,IL.post [.d one.d,.d other.d] M x i->Q x i:=#[rfl,#[ys,one,other,rfl,h1,e,hn],λx i o=>by obtain⟨rfl,rfl⟩:=o one other rfl;exact q]
theorem P8 (nd:(ts.map (·.1)).Nodup) (u:t∈ts):AC ts t.1=am t.2:=by
 induction ts with
 | nil=>cases u
 | cons a r n=>
   show(if a.1=t.1 then am a.2 else AC r t.1)=am t.2;rw[zI,xU] at nd;rcases yX.mp u with rfl | q;. rw[if_pos rfl]
   . rw[if_neg λe=>nd.1 (by rw[e];exact zL.mpr #[t,q,rfl])];exact n nd.2 q
theorem oR (nd:(ts.map (·.1)).Nodup) :t∈CY ts->t∈ts:=by intro h;obtain⟨n,hn,rfl⟩:=zL.mp h;have hn:=(AS _).mem_iff.mp hn;obtain⟨s,hs,rfl⟩:=zL.mp hn;have:=P8 nd hs;unfold AH;rw[this];exact hs
theorem HN (nd:(ts.map (·.1)).Nodup):(CY ts).Perm ts:=by
 have e:ts=(ts.map (·.1)).map λn=>(n,AH ts n):=by
   rw[zD];have:∀t∈ts,t=((λn=>(n,AH ts n))∘λt:Str×Ent=>t.1) t:=λt u=>by
     have h1:(t.1,AH ts t.1)∈CY ts:=zL.mpr #[t.1,(AS _).mem_iff.mpr (zL.mpr #[t,u,rfl]),rfl];have o:=oR nd h1;have key:∀{ts:List (Str×Ent)},(ts.map (·.1)).Nodup->∀{a b:Str×Ent},a∈ts->b∈ts->a.1=b.1->a=b:=by
       intro ts;induction ts with
       | nil=>intro _ a b g;cases g
       | cons c r m=>
         intro nd a b g hb i;rw[zI,xU] at nd;rcases yX.mp g with rfl | ha2 <;> rcases yX.mp hb with rfl | hb2;. rfl
         . exact absurd (show a.1∈r.map (·.1) from zL.mpr #[b,hb2,i.symm]) nd.1
         . exact absurd (show b.1∈r.map (·.1) from zL.mpr #[a,ha2,i]) nd.1
         . exact m nd.2 ha2 hb2 i
     exact key nd u o rfl
   conv=>lhs;rw[<-b6V ts]
   exact yM this
 conv=>rhs;rw[e]
 exact(AS _).map _
theorem OkE.deed (hn:AK ys) (h:BL ys D):OkE ys (AD D):=by
 have hx:=h.2;have b:=h.1.2.1;cases D with
 | put x p k=> have:=hx x (by simp[Deed.names]);refine#[#[by simp[AD],by simp[AD]],#[by simp[AD],by simpa [AD] using this],by simp[AD],by simp[AD],by simp[AD],by simp[AD],by simp[AD],by simp[AD]]
 | take x=> have:=hx x (by simp[Deed.names]);refine#[#[by simp[AD],by simpa [AD] using this],#[by simp[AD],by simp[AD]],by simp[AD],by simp[AD],by simp[AD],by simp[AD],by simp[AD],by simp[AD]]
 | move x p=> have:=hx x (by simp[Deed.names]);refine#[#[by simp[AD],by simpa [AD] using this],#[by simp[AD],by simp[AD]],by simp[AD],by simp[AD],by simp[AD],by simp[AD],by simp[AD],by simp[AD]]
 | count x k=> have:=hx x (by simp[Deed.names]);refine#[#[by simp[AD],by simpa [AD] using this],#[by simp[AD],by simp[AD]],by simp[AD],by simp[AD],by simp[AD],by simp[AD],by simp[AD],by simp[AD]]
 | name x y=> have h1:=hx x (by simp[Deed.names]);have i:=hx y (by simp[Deed.names]);have o:x≠y:=b;refine#[#[by simp[AD],by simpa [AD] using h1],#[by simp[AD],by simpa [AD] using i],by simpa [AD] using o,by simp[AD],by simp[AD],by simp[AD],by simp[AD],by simp[AD]]
 | split x y p k=>
   have h1:=hx x (by simp[Deed.names]);have i:=hx y (by simp[Deed.names]);have o:x≠y:=b;have nd:([(x,((.inr x,[x],-k):Ent)),(y,.inl p,[],k)].map (·.1)).Nodup:=by simpa using o
   have I:=HN nd;have m:∀t∈CY [(x,((.inr x,[x],-k):Ent)),(y,.inl p,[],k)],t=(x,.inr x,[x],-k)\/t=(y,.inl p,[],k):=λt u=>by simpa using I.mem_iff.mp u
   refine#[#[by simp[AD],by simpa [AD] using h1],#[by simp[AD],by simpa [AD] using i],by simpa [AD] using o,((I.map (·.1)).nodup_iff).mpr nd,λt u=>?_,λt u=>?_,λt u n e=>?_,?_];. rcases m t u with rfl | rfl <;> simp[AD]
   . rcases m t u with rfl | rfl <;> simp[AD]
   . rcases m t u with rfl | rfl <;> simp_all [AD]
   . exact((I.flatMap_right _).nodup_iff).mpr (by simp)
 | join x y=>
   have h1:=hx x (by simp[Deed.names]);have i:=hx y (by simp[Deed.names]);have o:x≠y:=b;have hp:=AS [x,y];have nd:(BP [x,y]).Nodup:=hp.nodup_iff.mpr (by simpa using o);have r:∀n,n∈BP [x,y]↔n=x\/n=y:=λn=>by rw[hp.mem_iff];simp
   refine#[#[nd,λn J=>?_],#[by simp[AD],by simp[AD]],by simp[AD],by simp[AD],by simp[AD,r],by simpa [AD] using nd,by simp[AD,r],by simpa [AD] using nd];rcases (r n).mp J with rfl | rfl;. exact h1
   . exact i
abbrev KF (ts:List (Str×Ent)):List (Str×PyData):=ts.map λt:Str×Ent=>(t.1,DK t.2)
theorem C0 :CS ts n=av↔n∈ts.map (·.1):=by
 induction ts with
 | nil=>simp[CS,AC]
 | cons t r o=>
   show((if t.1=n then am t.2 else AC r n).isSome=av)↔_;by_cases e:t.1=n;. rw[if_pos e];simp[e]
   . rw[if_neg e];rw[zI,yX,<-o];exact#[λh=>.inr h,λh=>h.elim (λq=>absurd q.symm e) id]
theorem e6 (ts:List (Str×Ent)) (n:Str) (e:Ent):IE (KF ts) n (DK e)=KF (BX ts n e):=by
 unfold IE BX KF;have h:((ts.map λt:Str×Ent=>(t.1,DK t.2)).any λt=>decide (t.1=n))=CS ts n:=by
   rw[a4J,C0,b6Q];constructor;. rintro⟨t,h1,i⟩;obtain⟨s,o,rfl⟩:=zL.mp h1;exact zL.mpr #[s,o,of_decide_eq_true i]
   . intro q;obtain⟨s,o,r⟩:=zL.mp q;exact#[_,zL.mpr #[s,o,rfl],decide_eq_true r]
 rw[h];split;. rw[zD,zD];refine yM λt u=>?_;show(if t.1=n then (t.1,DK e) else (t.1,DK t.2))=((if t.1=n then (t.1,e) else t).1,DK (if t.1=n then (t.1,e) else t).2);split <;> rfl
 . rw[xH];rfl
theorem iQ (h:n∉ts.map (·.1)):BX ts n e=ts++[(n,e)]:=by unfold BX;rw[if_neg λq=>h (C0.mp q)]
theorem vC (ts:List (Str×Ent)) (n:Str) (e:Ent):(BX ts n e).length<=ts.length+1:=by
 unfold BX;split;. rw[zX];lia
 . rw[yY];exact zR _
def NS (one:Eff) (l:List Str):List Str:=l.filter λn=>!decide (n∈one.st++one.fr)
theorem A1u :NS one one.st=[]:=List.filter_eq_nil_iff.mpr λn hn=>by simp[hn]
theorem JM (h1:OkE ys one) (e:OkE ys other) (hc:B2 one other=ay) (hn:n∈other.st):CS (BH one other) n=true:=by
 unfold B2 at hc;rw[Bool.or_eq_false_iff] at hc;have h:=List.any_eq_false.mp hc.1 n hn;rw[C0];unfold BH;rw[xH,yW];by_cases hk:n∈one.st++one.fr;. refine .inl (C0.mp ?_);rw[decide_eq_true hk,b9W] at h;simpa using h
 . refine .inr ?_;rw[zD];exact zL.mpr #[n,yL.mpr #[hn,by simp[hk]],rfl]
theorem MW (h1:OkE ys one) (o:OkE ys other):((BH one other).map (·.1)).Nodup:=by
 unfold BH;rw[xH];have e:((other.st.filter λn=>!decide (n∈one.st++one.fr)).map MU).map (·.1)=other.st.filter λn=>!decide (n∈one.st++one.fr):=by rw[zD];exact b6V _
 rw[e];refine List.nodup_append.mpr #[h1.keys,o.st.1.sublist a7J,λa g b hb q=>?_];subst q;obtain⟨t,u,rfl⟩:=zL.mp g;have:=(yL.mp hb).2;simp[h1.known t u] at this
theorem K2 {ts:List (Str×Ent)}(h:(ts.flatMap λt=>t.2.2.1).Nodup) (hs:s∈ts) (u:t∈ts) (o:s.1≠t.1):∀x∈s.2.2.1,∀y∈t.2.2.1,x≠y:=by
 have hp:=(List.pairwise_flatMap.mp h).2;obtain⟨i,hi,rfl⟩:=List.mem_iff_getElem.mp hs;obtain⟨j,n,rfl⟩:=List.mem_iff_getElem.mp u;rcases b5K i j with q | q | q;. exact List.pairwise_iff_getElem.mp hp i j hi n q
 . subst q;exact absurd rfl o
 . exact λx hx y hy e=>List.pairwise_iff_getElem.mp hp j i n hi q y hy x hx e.symm
theorem LG (h:CS ts n=av):(n,AH ts n)∈ts:=by
 induction ts with
 | nil=>cases h
 | cons a r t=>
   unfold AH;have p:(if a.1=n then am a.2 else AC r n).isSome=true:=h;show(n,(if a.1=n then am a.2 else AC r n).getD (.inr n,[n],0))∈a::r;by_cases e:a.1=n;. rw[if_pos e];subst e;exact a0Z
   . rw[if_neg e] at p ⊢;exact yV _ (t p)
theorem VN (hd:(ts.flatMap λt=>t.2.2.1).Nodup) {l:List Str}(m:l.Nodup) (hh:∀n∈l,CS ts n=av):(l.flatMap λn=>(AH ts n).2.1).Nodup:=by refine List.pairwise_flatMap.mpr #[λn hn=>(List.pairwise_flatMap.mp hd).1 _ (LG (hh n hn)),?_];refine List.pairwise_iff_getElem.mpr λi j hi h g=>?_;have e:=List.pairwise_iff_getElem.mp m i j hi h g;exact K2 hd (LG (hh _ (a3J hi))) (LG (hh _ (a3J h))) e
theorem e7 (h1:OkE ys one) (i:OkE ys other):((BH one other).flatMap λt=>t.2.2.1).Nodup:=by
 unfold BH;rw[a9W];have e:((other.st.filter λn=>!decide (n∈one.st++one.fr)).map MU).flatMap (λt=>t.2.2.1)=other.st.filter λn=>!decide (n∈one.st++one.fr):=by
   have o:∀l:List Str,(l.map MU).flatMap (λt=>t.2.2.1)=l:=by
     intro l;induction l with
     | nil=>rfl
     | cons a r m=>rw[zI,a9J,m];rfl
   exact o _
 rw[e];refine List.nodup_append.mpr #[h1.dis,i.st.1.sublist a7J,λa g b hb q=>?_];subst q;obtain⟨t,u,p⟩:=List.mem_flatMap.mp g;have hs:=(h1.from_ t u).2 a p;have:=(yL.mp hb).2;simp[hs] at this
theorem YK (h1:OkE ys one) (o:OkE ys other):∀t∈BH one other,∀n∈t.2.2.1,n∈AR one other:=λt u n hn=>by
 unfold BH at u;unfold AR;rcases yW.mp u with q | q;. exact zA _ ((h1.from_ t q).2 n hn)
 . obtain⟨z,e,rfl⟩:=zL.mp q;have:n=z:=by simpa [MU] using hn
   subst this;exact zB _ e
theorem oS (hn:AK ys) (h1:OkE ys one) (e:OkE ys other) (hc:B2 one other=ay) (u:t∈other.lf):(t.2.2.1.flatMap λn=>(AH (BH one other) n).2.1).length < 64:=by
 have i:∀n∈t.2.2.1,CS (BH one other) n=true:=λn J=>JM h1 e hc ((e.from_ t u).2 n J);have nd:=VN (e7 h1 e) (e.from_ t u).1 i;have:=E3 hn #[nd,λz o=>by
   obtain⟨n,J,o⟩:=List.mem_flatMap.mp o;have:=YK h1 e _ (LG (i n J)) z o;unfold AR at this;rcases yW.mp this with q | q;. exact h1.st.2 z q
   . exact e.st.2 z (yL.mp q).1];lia
theorem QV :(BX ts n e).map (·.1)=if CS ts n=av then ts.map (·.1) else ts.map (·.1)++[n]:=by
 unfold BX;split;. rw[zD];refine yM λt u=>?_;show(if t.1=n then (t.1,e) else t).1=t.1;split <;> rfl
 . rw[xH];rfl
theorem oU (h:(ts.map (·.1)).Nodup):((BX ts n e).map (·.1)).Nodup:=by
 rw[QV];split;. exact h
 . rename_i hn;refine List.nodup_append.mpr #[h,by simp,λa g b hb q=>?_];subst q;rw[List.mem_singleton.mp hb] at g;exact hn (C0.mpr g)
theorem HP (h1:OkE ys one) (n:OkE ys other):((DD one other).map (·.1)).Nodup:=by
 unfold DD;have e:∀(l o:List (Str×Ent)),(o.map (·.1)).Nodup->((l.foldl (λo t=>BX o t.1 (B8 (BH one other) t.2)) o).map (·.1)).Nodup:=by
   intro l;induction l with
   | nil=>intro o h;exact h
   | cons t r i=>intro o h;exact i _ (oU h)
 exact e _ _ ((MW h1 n).sublist (List.filter_sublist.map _))
theorem vD (h1:OkE ys one) (e:OkE ys other):∀n∈(DD one other).map (·.1),n∈ys:=by
 unfold DD;have i:∀(l o:List (Str×Ent)),(∀t∈l,t.1∈ys)->(∀n∈o.map (·.1),n∈ys)->∀n∈(l.foldl (λo t=>BX o t.1 (B8 (BH one other) t.2)) o).map (·.1),n∈ys:=by
   intro l;induction l with
   | nil=>intro o _ h;exact h
   | cons t r b=>
     intro o m h;refine b _ (λs hs=>m s (yV _ hs)) λn hn=>?_;have hn:n∈(BX o t.1 (B8 (BH one other) t.2)).map (·.1):=hn;rw[QV] at hn;split at hn;. exact h n hn
     . rcases yW.mp hn with q | q;. exact h n q
       . rw[List.mem_singleton.mp q];exact m t (by simp)
 refine i _ _ (λt u=>(yW.mp (e.known t u)).elim (e.st.2 _) (e.fr.2 _)) λn hn=>?_;have hn:=(List.filter_sublist.map _).subset hn;unfold BH at hn;rw[xH] at hn;rcases yW.mp hn with q | q;. obtain⟨t,u,rfl⟩:=zL.mp q;exact(yW.mp (h1.known t u)).elim (h1.st.2 _) (h1.fr.2 _)
 . rw[zD] at q;obtain⟨z,p,rfl⟩:=zL.mp q;exact e.st.2 z (yL.mp p).1
theorem iR (one other:Eff):NS one (AR one other)=other.st.filter λn=>!decide (n∈one.st++one.fr):=by unfold AR;rw[show NS one (one.st++other.st.filter λn=>!decide (n∈one.st++one.fr))=NS one one.st++NS one (other.st.filter λn=>!decide (n∈one.st++one.fr)) from List.filter_append ..,A1u,List.nil_append];unfold NS;rw[List.filter_filter];congr 1;funext n;simp
theorem MX (h1:OkE ys one) (t:OkE ys other):(AR one other).Nodup/\∀n∈AR one other,n∈ys:=by
 unfold AR;refine#[List.nodup_append.mpr #[h1.st.1,t.st.1.sublist a7J,λa g b hb e=>?_],λn hn=>?_];. subst e;have:=(yL.mp hb).2;simp[g] at this
 . rcases yW.mp hn with q | q;. exact h1.st.2 n q
   . exact t.st.2 n (yL.mp q).1
theorem e8 (h1:OkE ys one) (t:OkE ys other):(CP one other).Nodup/\∀n∈CP one other,n∈ys:=by
 unfold CP;refine#[List.nodup_append.mpr #[h1.fr.1,t.fr.1.sublist a7J,λa g b hb e=>?_],λn hn=>?_];. subst e;have:=(yL.mp hb).2;simp[g] at this
 . rcases yW.mp hn with q | q;. exact h1.fr.2 n q
   . exact t.fr.2 n (yL.mp q).1
theorem oV (h1:OkE ys one) (m:OkE ys other) (hk:(AR one other)[k]?=am n) (hn:n∉one.st++one.fr):n∉(one.lf++(NS one ((AR one other).take k)).map MU).map (·.1):=by
 rw[xH,yW];rintro (q | q);. obtain⟨t,u,rfl⟩:=zL.mp q;exact hn (h1.known t u)
 . rw[zD] at q;obtain⟨z,o,e⟩:=zL.mp q;have e:z=n:=e;subst e;have o:=(yL.mp o).1;obtain⟨i,hi,h⟩:=List.mem_iff_getElem.mp o;rw[a1X] at hi;rw[List.getElem_take] at h;obtain⟨f,r⟩:=yT.mp hk;have:=List.pairwise_iff_getElem.mp (MX h1 m).1 i k (by lia) f (by lia);exact this (h.trans r.symm)
theorem YL {l:List Str}(hk:l[k]?=am n):NS one (l.take (k+1))=NS one (l.take k)++(if decide (n∈one.st++one.fr)=av then [] else [n]):=by unfold NS;rw[a2K,hk,Option.toList_some,List.filter_append];congr 1;rw[a6V];cases decide (n∈one.st++one.fr) <;> rfl
def QW:PyData->Str | .str z=>z | _=>#[#[]]
def A3c (ts:List (Str×Ent)):PyData->PyData | .str z=>DK (AH ts z) | d=>d
theorem oW (nd:(ts.map (·.1)).Nodup) (l:List Str):(((OM (KF ts)).filter (frT l)).map λd=>(QW d,A3c ts d))=KF (ts.filter λt=>!decide (t.1∈l)):=by
 have e:OM (KF ts)=ts.map λt:Str×Ent=>a0J t.1:=by unfold OM KF;rw[zD];rfl
 rw[e,xT,zD];refine yM λt u=>?_;have u:=(yL.mp u).1;show(t.1,DK (AH ts t.1))=(t.1,DK t.2);unfold AH;rw[P8 nd u];rfl
theorem iS (nd:(ts.map (·.1)).Nodup) (l:List Str):(((OM (KF ts)).filter (frT l)).map QW).Nodup:=by
 have e:OM (KF ts)=ts.map λt:Str×Ent=>a0J t.1:=by unfold OM KF;rw[zD];rfl
 rw[e,xT,zD];exact(nd.sublist (List.filter_sublist.map _))
def MY (one other:Eff) (k:Nat):List (Str×Ent):=(other.lf.take k).foldl (λo t=>BX o t.1 (B8 (BH one other) t.2)) ((BH one other).filter λt=>!decide (t.1∈other.st))
theorem iT (one other:Eff) (k:Nat):(MY one other k).length<=(BH one other).length+k:=by
 unfold MY;have e:∀(l:List (Str×Ent)) (o:List (Str×Ent)),(l.foldl (λo t=>BX o t.1 (B8 (BH one other) t.2)) o).length<=o.length+l.length:=by
   intro l;induction l with
   | nil=>intro o;exact zR _
   | cons t r i=> intro o;have h1:=i (BX o t.1 (B8 (BH one other) t.2));have n:=vC o t.1 (B8 (BH one other) t.2);rw[b3W,yR];lia
 have h1:=e (other.lf.take k) ((BH one other).filter λt=>!decide (t.1∈other.st));have n:((BH one other).filter λt=>!decide (t.1∈other.st)).length<=(BH one other).length:=yJ _ _;have m:(other.lf.take k).length<=k:=List.length_take_le _ _;lia
theorem bI (h:other.lf[k]?=am t):MY one other (k+1)=BX (MY one other k) t.1 (B8 (BH one other) t.2):=by unfold MY;rw[a2K,h,Option.toList_some,a6X];rfl
theorem iU (one other:Eff):MY one other other.lf.length=DD one other:=by unfold MY DD;rw[a1Q]
theorem oX (hn:AK ys) (h1:OkE ys one) (e:OkE ys other) (hc:B2 one other=ay):(DD one other).length < 64:=by have:=E3 hn #[HP h1 e,vD h1 e];rw[zX] at this;lia
theorem vE (nd:(ts.map (·.1)).Nodup) :s∈BX ts n e↔(s∈ts/\s.1≠n)\/s=(n,e):=by
 unfold BX;split
 . rename_i h;have i:=C0.mp h;rw[zL];constructor
   . rintro⟨t,u,rfl⟩;by_cases q:t.1=n;. rw[if_pos q,q];exact .inr rfl
     . rw[if_neg q];exact .inl #[u,q]
   . rintro (⟨h1,o⟩ | rfl);. exact#[s,h1,if_neg o]
     . obtain⟨t,u,q⟩:=zL.mp i;exact#[t,u,by rw[if_pos q,q]]
 . rename_i h;rw[yW,b0W];constructor
   . rintro (q | q);. exact .inl #[q,λe=>h (C0.mpr (by rw[<-e];exact zL.mpr #[s,q,rfl]))]
     . exact .inr q
   . rintro (q | q);. exact .inl q.1
     . exact .inr q
theorem FR (h1:OkE ys one) (n:OkE ys other) :s∈DD one other↔(s∈BH one other/\s.1∉other.st/\s.1∉other.lf.map (·.1))\/∃t∈other.lf,s=(t.1,B8 (BH one other) t.2):=by
 unfold DD;have i:∀(l o:List (Str×Ent)),(l.map (·.1)).Nodup->(o.map (·.1)).Nodup->(s∈l.foldl (λo t=>BX o t.1 (B8 (BH one other) t.2)) o↔(s∈o/\s.1∉l.map (·.1))\/∃t∈l,s=(t.1,B8 (BH one other) t.2)):=by
   intro l;induction l with
   | nil=>intro o _ _;simp
   | cons a r p=>
     intro o m e;rw[zI,xU] at m;rw[b3W,p _ m.2 (oU e),vE e];constructor
     . rintro (⟨⟨N,J⟩ | rfl,G⟩ | ⟨t,u,rfl⟩);. exact .inl #[N,by rw[zI,yX];rintro (z | z);exact J z;exact G z]
       . exact .inr #[a,by simp,rfl]
       . exact .inr #[t,yV _ u,rfl]
     . rintro (⟨N,J⟩ | ⟨t,u,rfl⟩);. rw[zI,yX,not_or] at J;exact .inl #[.inl #[N,J.1],J.2]
       . rcases yX.mp u with rfl | q;. exact .inl #[.inr rfl,m.1]
         . exact .inr #[t,q,rfl]
 rw[i _ _ n.keys ((MW h1 n).sublist (List.filter_sublist.map _)),yL];constructor
 . rintro (⟨⟨N,J⟩,G⟩ | q);. exact .inl #[N,by simpa using J,G]
   . exact .inr q
 . rintro (⟨N,J,G⟩ | q);. exact .inl #[#[N,by simp[J]],G]
   . exact .inr q
theorem OkE.behind (hn:AK ys) (h1:OkE ys one) (o:OkE ys other) (h:B4 one other=am F):OkE ys F:=by
 unfold B4 at h;split at h;. cases h
 rename_i hc;have hc:B2 one other=false:=by simpa using hc
 have e:=(Option.some.inj h).symm;subst e;have g:=AS (AR one other);have S:=AS (CP one other);have D:=HP h1 o;have v:=HN D;have sN:=MX h1 o;have Q:=e8 h1 o;have M:∀t∈BH one other,t.1∈AR one other++CP one other/\∀n,t.2.1 = .inr n->n∈AR one other:=λt r=>by
   unfold BH at r;unfold AR CP;rcases yW.mp r with q | q
   . refine#[?_,λn J=>zA _ (h1.place t q n J)];rcases yW.mp (h1.known t q) with z | z;. exact zA _ (zA _ z)
     . exact zB _ (zA _ z)
   . obtain⟨z,Z,rfl⟩:=zL.mp q;refine#[zA _ (zB _ Z),λn J=>?_];have:z=n:=Sum.inr.inj J;subst this;exact zB _ Z
 have f:=e7 h1 o;have L:=YK h1 o;have G:∀t∈other.lf,∀n∈t.2.2.1,CS (BH one other) n=true:=λt r n J=>JM h1 o hc ((o.from_ t r).2 n J);have gv:∀n∈other.st++other.fr,n∈AR one other++CP one other:=λn J=>by
   unfold AR CP;by_cases hk:n∈one.st++one.fr
   . rcases yW.mp hk with z | z;. exact zA _ (zA _ z)
     . exact zB _ (zA _ z)
   . rcases yW.mp J with z | z;. exact zA _ (zB _ (yL.mpr #[z,by simp[hk]]))
     . exact zB _ (zB _ (yL.mpr #[z,by simp[hk]]))
 have Mu:∀n,n∈AR one other++CP one other->n∈BP (AR one other)++BP (CP one other):=λn J=>by
   rcases yW.mp J with z | z;. exact zA _ (g.mem_iff.mpr z)
   . exact zB _ (S.mem_iff.mpr z)
 have T:∀t∈other.lf,∀x∈(B8 (BH one other) t.2).2.1,∃m∈t.2.2.1,(m,AH (BH one other) m)∈BH one other/\x∈(AH (BH one other) m).2.1:=λt r x hx=>by have hx:x∈t.2.2.1.flatMap λn=>(AH (BH one other) n).2.1:=(AS _).mem_iff.mp hx;obtain⟨m,c,hx⟩:=List.mem_flatMap.mp hx;exact#[m,c,LG (G t r m c),hx]
 refine#[#[g.nodup_iff.mpr sN.1,λn J=>sN.2 n (g.mem_iff.mp J)],#[S.nodup_iff.mpr Q.1,λn J=>Q.2 n (S.mem_iff.mp J)],λn hs I=>?_,(v.map (·.1)).nodup_iff.mpr D,λs hs=>?_,λs hs=>?_,λs hs n e=>?_,?_]
 . have hs:=g.mem_iff.mp hs;have I:=S.mem_iff.mp I;unfold AR at hs;unfold CP at I;rcases yW.mp hs with a | a <;> rcases yW.mp I with b | b;. exact h1.apart n a b
   . have:=(yL.mp b).2;simp[a] at this
   . have:=(yL.mp a).2;simp[b] at this
   . exact o.apart n (yL.mp a).1 (yL.mp b).1
 . refine Mu _ ?_;rcases (FR h1 o).mp (v.mem_iff.mp hs) with q | ⟨t,r,rfl⟩
   . exact(M s q.1).1
   . exact gv _ (o.known t r)
 . rcases (FR h1 o).mp (v.mem_iff.mp hs) with q | ⟨t,r,rfl⟩
   . exact#[(List.pairwise_flatMap.mp f).1 s q.1,λn J=>g.mem_iff.mpr (L s q.1 n J)]
   . refine#[(AS _).nodup_iff.mpr (VN f (o.from_ t r).1 (G t r)),λn J=>?_];obtain⟨m,c,hb,hx⟩:=T t r n J;exact g.mem_iff.mpr (L _ hb n hx)
 . refine g.mem_iff.mpr ?_;rcases (FR h1 o).mp (v.mem_iff.mp hs) with q | ⟨t,r,rfl⟩
   . exact(M s q.1).2 n e
   . have e:(B8 (BH one other) t.2).1 = .inr n:=e;unfold B8 at e;cases hp:t.2.1 with
     | inl p=>rw[hp] at e;cases e
     | inr m=> rw[hp] at e;exact(M _ (LG (JM h1 o hc (o.place t r m hp)))).2 n e
 . refine((v.flatMap_right _).nodup_iff).mpr (List.pairwise_flatMap.mpr #[λs hs=>?_,?_])
   . rcases (FR h1 o).mp hs with q | ⟨t,r,rfl⟩
     . exact(List.pairwise_flatMap.mp f).1 s q.1
     . exact(AS _).nodup_iff.mpr (VN f (o.from_ t r).1 (G t r))
   . refine List.pairwise_iff_getElem.mpr λi j hi Y be=>?_;have O:(DD one other)[i].1≠(DD one other)[j].1:=by have:=List.pairwise_iff_getElem.mp D i j (by rw[zX];exact hi) (by rw[zX];exact Y) be;rw[c0Q,c0Q] at this;exact this
     have U:=(FR h1 o).mp (a3J hi);have hb:=(FR h1 o).mp (a3J Y);generalize (DD one other)[i]=s at O U;generalize (DD one other)[j]=u at O hb;intro x hx y hy;rcases U with q | ⟨t,r,rfl⟩ <;> rcases hb with B | ⟨X,N,rfl⟩
     . exact K2 f q.1 B.1 O x hx y hy
     . obtain⟨m,c,k,hy⟩:=T X N y hy;refine K2 f q.1 k (λe=>q.2.1 ?_) x hx y hy;have e:s.1=m:=e;rw[e];exact(o.from_ X N).2 m c
     . obtain⟨m,c,k,hx⟩:=T t r x hx;refine K2 f k B.1 (λe=>B.2.1 ?_) x hx y hy;have e:m=u.1:=e;rw[<-e];exact(o.from_ t r).2 m c
     . obtain⟨m,c,k,hx⟩:=T t r x hx;obtain⟨m',wl,Fj,hy⟩:=T X N y hy;exact K2 f k Fj (K2 o.dis r N O m c m' wl) x hx y hy
theorem OP {Q:DS->Own->Prop}(hn:AK ys) (h:∀D∈Ds,BL ys D) (m:Ds.length<=60) (q:Q (.d (efO (B0 Ds))) M):[DS.d (.tuple (Ds.map Deed.d))].length=1/\IM.pre [.d (.tuple (Ds.map Deed.d))] M/\∀x i,IM.post [.d (.tuple (Ds.map Deed.d))] M x i->Q x i:=#[rfl,#[ys,Ds,rfl,hn,h,m],λx i o=>by obtain⟨rfl,rfl⟩:=o Ds rfl;exact q]
theorem NT (hn:AK ys) (h:∀D∈Ds,BL ys D):∀E,B0 Ds=am E->OkE ys E:=by
 have t:∀k,k<=Ds.length->∀E,B0 (Ds.take k)=am E->OkE ys E:=by
   intro k;induction k with
   | zero=>intro _ E e;cases e;exact OkE.nil ys
   | succ k n=>
     intro hk E e;have hD:Ds[k]?=am Ds[k]:=zV hk;rw[a2K,hD,Option.toList_some] at e;cases hF:B0 (Ds.take k) with
     | none=>rw[show B0 (Ds.take k++[Ds[k]])=ap by unfold B0 at hF ⊢;rw[a6X,hF];rfl] at e;cases e
     | some F=> rw[MV hF] at e;exact OkE.behind hn (n (by lia) F hF) (OkE.deed hn (h _ (a3J hk))) e
 intro E e;exact t Ds.length (zR _) E (by rw[a1Q];exact e)
section
variable {ys:List Str}{A B C:Eff}
theorem QX {S L:Type}{f g:S->List L}:∀{l:List S},(∀x∈l,f x=g x)->l.flatMap f=l.flatMap g
 | [],_=>rfl
 | a::r,h=>by rw[a9J,a9J,h a (by simp),QX λx hx=>h x (yV _ hx)]
theorem BI (nd:(ts.map (·.1)).Nodup) :AC ts n=am e↔(n,e)∈ts:=by
 constructor
 . intro h;have o:CS ts n=true:=by unfold CS;rw[h];rfl
   have:=LG o;unfold AH at this;rw[h] at this;exact this
 . intro h;exact P8 nd h
theorem QY (nd:(ts.map (·.1)).Nodup) (h:(n,e)∈ts):AH ts n=e:=by unfold AH;rw[(BI nd).mpr h];rfl
theorem vF (h:n∉ts.map (·.1)):AH ts n=(.inr n,[n],0):=by
 unfold AH;cases e:AC ts n with
 | none=>rfl
 | some v=>exact absurd (C0.mp (by unfold CS;rw[e];rfl)) h
theorem QZ (hc:B2 A B=ay):(∀n∈B.st,n∈A.st++A.fr->n∈A.lf.map (·.1))/\∀n∈B.fr,n∉A.lf.map (·.1):=by
 unfold B2 at hc;rw[Bool.or_eq_false_iff] at hc;refine#[λn hn hk=>?_,λn hn hk=>?_];. have:=List.any_eq_false.mp hc.1 n hn;rw[decide_eq_true hk,b9W] at this;exact C0.mp (by simpa using this)
 . exact List.any_eq_false.mp hc.2 n hn (C0.mpr hk)
theorem iV:B2 A B=av↔∃n,(n∈B.st/\n∈A.st++A.fr/\n∉A.lf.map (·.1))\/(n∈B.fr/\n∈A.lf.map (·.1)):=by
 unfold B2;rw[Bool.or_eq_true,b6Q,b6Q];constructor
 . rintro (⟨n,h1,t⟩ | ⟨n,h1,t⟩);. rw[a1Z] at t;exact#[n,.inl ⟨h1,of_decide_eq_true t.1,λq=>by rw[C0.mpr q] at t;cases t.2⟩]
   . exact#[n,.inr #[h1,C0.mp t]]
 . rintro⟨n,⟨h1,t,o⟩ | ⟨h1,t⟩⟩
   . refine .inl #[n,h1,?_];rw[decide_eq_true t,b9W];cases e:CS A.lf n with
     | false=>rfl
     | true=>exact absurd (C0.mp e) o
   . exact .inr #[n,h1,C0.mpr t]
theorem e9 (h1:OkE ys A) (o:OkE ys B) (hc:B2 A B=ay) (n:m∈B.st):AH (BH A B) m=AH A.lf m:=by
 have bk:=MW h1 o;by_cases hk:m∈A.lf.map (·.1);. obtain⟨t,u,rfl⟩:=zL.mp hk;rw[QY h1.keys (e:=t.2) u,QY bk (e:=t.2) (zA _ u)]
 . rw[vF hk];have hn:m∉A.st++A.fr:=λq=>hk ((QZ hc).1 m n q);exact QY bk (zB _ (zL.mpr #[m,yL.mpr #[n,by simp[hn]],rfl]))
theorem bJ (t:∀n∈e.2.1,AH ts n=AH k n) (hp:∀n,e.1 = .inr n->AH ts n=AH k n):B8 ts e=B8 k e:=by
 unfold B8;rw[QX (g:=λn=>(AH k n).2.1) λn hn=>by rw[t n hn],yM (g:=λn=>(AH k n).2.2) λn hn=>by rw[t n hn]];cases z:e.1 with
 | inl p=>rfl
 | inr n=>simp only[hp n z]
theorem YM (h1:OkE ys A) (e:OkE ys B) (hc:B2 A B=ay) (u:t∈B.lf):B8 (BH A B) t.2=B8 A.lf t.2:=
 bJ (λn hn=>e9 h1 e hc ((e.from_ t u).2 n hn)) λn hp=>e9 h1 e hc (e.place t u n hp)
theorem oY (h1:OkE ys A) (o:OkE ys B) (hc:B2 A B=ay) :(n,e)∈DD A B↔((n,e)∈A.lf/\n∉B.st/\n∉B.lf.map (·.1))\/∃O,(n,O)∈B.lf/\e=B8 A.lf O:=by
 rw[FR h1 o];constructor
 . rintro (⟨N,J,G⟩ | ⟨t,u,q⟩)
   . rcases yW.mp N with z | z;. exact .inl #[z,J,G]
     . obtain⟨m,i,e'⟩:=zL.mp z;have:m=n:=congrArg (·.1) e';subst this;exact absurd (yL.mp i).1 J
   . rw[YM h1 o hc u] at q;obtain⟨rfl,rfl⟩:=Prod.mk.inj q;exact .inr #[t.2,u,rfl]
 . rintro (⟨N,J,G⟩ | ⟨O,h0,rfl⟩);. exact .inl #[zA _ N,J,G]
   . exact .inr #[(n,O),h0,by rw[YM h1 o hc h0]]
theorem A0A {X:List (Str×Ent)}(h:(X.map (·.1)).Nodup):X.Nodup:=(List.pairwise_map.mp h).imp λ{a b} q e=>q (by rw[e])
theorem YN (nx:(X.map (·.1)).Nodup) (O:(Y.map (·.1)).Nodup) (h:∀n e,(n,e)∈X↔(n,e)∈Y):CY X=CY Y:=by have hp:X.Perm Y:=(a8X (A0A nx) (A0A O)).mpr λt=>h t.1 t.2;unfold CY;rw[TY (hp.map _)];refine yM λn hn=>?_;have hn:n∈Y.map (·.1):=(AS _).mem_iff.mp hn;obtain⟨t,u,rfl⟩:=zL.mp hn;rw[QY O (e:=t.2) u,QY nx (e:=t.2) ((h t.1 t.2).mpr u)]
theorem VO (g:a.Nodup) (hb:b.Nodup) (h:∀n,n∈a↔n∈b):BP a=BP b:=TY ((a8X g hb).mpr h)
def OZ (E:Eff):Prop:=BP E.st=E.st/\BP E.fr=E.fr/\CY E.lf=E.lf/\∀t∈E.lf,BP t.2.2.1=t.2.2.1
structure Beh (A B F:Eff):Prop where
 no:B2 A B=ay
 st:∀n,n∈F.st↔n∈A.st\/(n∈B.st/\n∉A.st++A.fr)
 fr:∀n,n∈F.fr↔n∈A.fr\/(n∈B.fr/\n∉A.st++A.fr)
 lf:∀n e,(n,e)∈F.lf↔((n,e)∈A.lf/\n∉B.st/\n∉B.lf.map (·.1))\/∃e0,(n,e0)∈B.lf/\e=B8 A.lf e0
theorem oZ (h1:OkE ys A) (t:OkE ys B) (h:B4 A B=am F):Beh A B F:=by
 unfold B4 at h;split at h;. cases h
 rename_i hc;have hc:B2 A B=false:=by simpa using hc
 have e:=(Option.some.inj h).symm;subst e;refine#[hc,λn=>?_,λn=>?_,λn e=>?_];. rw[show(n∈BP (AR A B))↔n∈AR A B from(AS _).mem_iff];unfold AR;rw[yW,yL];simp
 . rw[show(n∈BP (CP A B))↔n∈CP A B from(AS _).mem_iff];unfold CP;rw[yW,yL];simp
 . rw[show((n,e)∈CY (DD A B))↔(n,e)∈DD A B from(HN (HP h1 t)).mem_iff];exact oY h1 t hc
theorem YO {a:List Int}(h:a.Perm b):a.sum=b.sum:=by
 induction h with
 | nil=>rfl
 | cons x _ e=>rw[a2J,a2J,e]
 | swap x y l=>simp only[a2J];lia
 | trans _ _ ih1 ih2=>exact ih1.trans ih2
theorem YQ (h:Str->List Str) (k:Str->Int):∀l:List Str,((l.flatMap h).map k).sum=(l.map λn=>((h n).map k).sum).sum
 | []=>rfl
 | a::r=>by rw[a9J,xH,List.sum_append,zI,a2J,YQ h k r]
theorem TZ (a b:Str->Int):∀l:List Str,(l.map λn=>a n+b n).sum=(l.map a).sum+(l.map b).sum
 | []=>rfl
 | x::r=>by simp only[zI,a2J];rw[TZ a b r];lia
theorem iW (h:OkE ys A) (hn:n∈A.lf.map (·.1)):n∈A.st\/n∈A.fr:=by obtain⟨t,u,rfl⟩:=zL.mp hn;exact yW.mp (h.known t u)
theorem p6 (h:B2 A B=av):B4 A B=none:=by unfold B4;rw[if_pos h]
theorem YR (h:B2 A B=ay):B4 A B=am #[BP (AR A B),BP (CP A B),CY (DD A B)]:=by unfold B4;rw[h];rfl
theorem VP (l:List Str):BP (BP l)=BP l:=vA (K1 l)
theorem iX (nd:(ts.map (·.1)).Nodup):CY (CY ts)=CY ts:=by have I:=HN nd;exact YN (((I.map (·.1)).nodup_iff).mpr nd) nd λn e=>I.mem_iff
theorem bK (h1:OkE ys A) (n:OkE ys B) (j:OZ A) (h:B4 A B=am F):OZ F:=by
 have hb:=oZ h1 n h;rw[YR hb.no] at h;have e:=(Option.some.inj h).symm;refine#[by rw[e];exact VP _,by rw[e];exact VP _,by rw[e];exact iX (HP h1 n),λt u=>?_];rcases (hb.lf t.1 t.2).mp u with ⟨q,_⟩ | ⟨O,_,q⟩
 . exact j.2.2.2 _ q
 . rw[q];exact VP _
theorem vG:OZ #[[],[],[]]:=⟨rfl,rfl,rfl,λt u=>by cases u⟩
theorem vH (hn:AK ys):∀(k:Nat) (Ds:List Deed),Ds.length=k->(∀D∈Ds,BL ys D)->∀E,B0 Ds=am E->OZ E:=by
 intro k;induction k with
 | zero=> intro Ds hk _ E h;have:Ds=[]:=List.length_eq_zero_iff.mp hk;subst this;cases h;exact vG
 | succ k e=>
   intro B hB hd E h;obtain⟨C,D,rfl⟩:∃C D,B=C++[D]:=#[B.dropLast,B.getLast (by rintro rfl;cases hB),(List.dropLast_concat_getLast _).symm]
   have hC:∀E∈C,BL ys E:=λE hE=>hd E (zA _ hE);have hD:=hd D (by simp);cases x:B0 C with
   | none=>unfold B0 at x h;rw[a6X,x] at h;cases h
   | some X=> rw[MV x] at h;exact bK (NT hn hC X x) (OkE.deed hn hD) (e C (by simpa using hB) hC X x) h
end
theorem YS (hn:AK ys) (h:∀D∈Ds,BL ys D):∀E,B0 Ds=am E->OZ E:=vH hn _ Ds rfl h
theorem VQ (hn:AK ys) (h:∀n∈l,n∈ys):(AM l).canLay0=av/\(AM l).depth<=3:=by
 refine#[zG (YD (ss:=l) λz e=>hn.1 z (h z e)),?_];have:a4Z (l.map a0J)<=1:=NH λd hd=>by obtain⟨z,_,rfl⟩:=zL.mp hd;simp[a3Z]
 simp only[AM,a3Z];lia
theorem A1v (hn:AK ys) (h:∀E,o=am E->OkE ys E):(efO o).canLay0=av/\(efO o).depth<=9:=by
 cases o with
 | none=>exact#[rfl,by show a3Z .none<=9;simp[a3Z]]
 | some E=>
   have hE:=h E rfl;have Y:=VQ hn hE.st.2;have Z:=VQ hn hE.fr.2;have S:∀d∈E.lf.map lfE,d.canLay0=av/\d.depth<=5:=λd hd=>by
     obtain⟨t,u,rfl⟩:=zL.mp hd;have B:=VQ hn (l:=t.2.2.1) λn J=>hE.st.2 n ((hE.from_ t u).2 n J);have e:CW t.1:=hn.1 _ ((yW.mp (hE.known t u)).elim (hE.st.2 _) (hE.fr.2 _));have m:(plE t.2.1).canLay0=av/\(plE t.2.1).depth<=1:=by
       cases hp:t.2.1 with
       | inl p=>exact#[rfl,by simp[plE,a3Z]]
       | inr n=>exact#[FM (hn.1 n (hE.st.2 n (hE.place t u n hp))),by simp[plE,a3Z]]
     have r:(a0J t.1).canLay0=true:=FM e;have all:∀d∈[a0J t.1,plE t.2.1,AM t.2.2.1,.int t.2.2.2],d.canLay0=av/\d.depth<=3:=λd hd=>by
       simp only[yX,xW,or_false] at hd;rcases hd with rfl | rfl | rfl | rfl;. exact#[r,by simp[a3Z]]
       . exact#[m.1,by lia]
       . exact B
       . exact#[rfl,by simp[a3Z]]
     refine#[NG λd hd=>(all d hd).1,?_];have:a4Z [a0J t.1,plE t.2.1,AM t.2.2.1,.int t.2.2.2]<=3:=NH λd hd=>(all d hd).2;simp only[lfE,a3Z];lia
   have i:(c0Z (E.lf.map lfE)).canLay0=av/\(c0Z (E.lf.map lfE)).depth<=7:=by refine#[NG λd hd=>(S d hd).1,?_];have:a4Z (E.lf.map lfE)<=5:=NH λd hd=>(S d hd).2;simp only[a3Z];lia
   have all:∀d∈[AM E.st,AM E.fr,.tuple (E.lf.map lfE)],d.canLay0=av/\d.depth<=7:=λd hd=>by
     simp only[yX,xW,or_false] at hd;rcases hd with rfl | rfl | rfl;. exact#[Y.1,by lia]
     . exact#[Z.1,by lia]
     . exact i
   refine#[NG λd hd=>(all d hd).1,?_];have:a4Z [AM E.st,AM E.fr,.tuple (E.lf.map lfE)]<=7:=NH λd hd=>(all d hd).2;show a3Z (.tuple [AM E.st,AM E.fr,.tuple (E.lf.map lfE)])<=9;simp only[a3Z];lia
theorem NU (hn:AK ys) (h:∀E,o=am E->OkE ys E):zH (efO o)=true:=by have h1:=A1v hn h;exact FF h1.1 (by lia)
open Classical in
theorem bL {Q:DS->Own->Prop}(m:M p=am (SH one.lf)) (h1:OkE ys one) (e:OkE ys other) (hn:AK ys) (q:Q (.d (.bool (B2 one other))) M):(clX one other p).length=3/\HK.pre (clX one other p) M/\∀x i,HK.post (clX one other p) M x i->Q x i:=#[rfl,#[ys,one,other,p,rfl,m,h1,e,hn],λx i o=>by obtain⟨rfl,rfl⟩:=o one other p rfl;exact q]
theorem YT {Q:DS->Own->Prop}(t:∀n∈e.2.1,CS ts n=av) (hp:∀n,e.1 = .inr n->CS ts n=av) (O:(e.2.1.flatMap λn=>(AH ts n).2.1).length < 64) (q:Q (.d (DK (B8 ts e))) M):(taX ts e).length=4/\JL.pre (taX ts e) M/\∀x i,JL.post (taX ts e) M x i->Q x i:=#[rfl,#[ts,e,rfl,t,hp,O],λx i o=>by obtain⟨rfl,rfl⟩:=o ts e rfl;exact q]
theorem p7 (h:YG a=YG b):a=b:=oN (congrArg MO.d (PyData.dict.inj h))
end DL
namespace DL
open PySem PySem.Spec L2 XC
abbrev Gt:=Str->Option (Int×Int)
def plV (g:Gt):Pl->Int | .inl p=>p | .inr n=>((g n).getD (0,0)).1
def ctV (g:Gt) (l:List Str):Int:=(l.map λn=>((g n).getD (0,0)).2).sum
def enV (g:Gt) (e:Ent):Int×Int:=(plV g e.1,e.2.2+ctV g e.2.1)
def CT (E:Eff) (g:Gt) (n:Str):Option (Int×Int):=match AC E.lf n with | some e=>am (enV g e) | none=>if n∈E.st then ap else g n
def okV (E:Eff) (g:Gt):Prop:=(∀n∈E.st,(g n).isSome=av)/\∀n∈E.fr,g n=ap
section
theorem JN (h:AC E.lf n=am e):CT E g n=am (enV g e):=by unfold CT;rw[h]
theorem IN (h:AC E.lf n=ap) (hs:n∈E.st):CT E g n=none:=by unfold CT;rw[h];exact if_pos hs
theorem FS (h:AC E.lf n=ap) (hs:n∉E.st):CT E g n=g n:=by unfold CT;rw[h];exact if_neg hs
theorem P9 (h:n∉ts.map (·.1)):AC ts n=none:=by
 cases e:AC ts n with
 | none=>rfl
 | some v=>exact absurd (C0.mp (by unfold CS;rw[e];rfl)) h
theorem JO (h:n∈ts.map (·.1)):∃e,AC ts n=am e:=oP h
theorem VR (h:OkE ys A) (hn:n∉A.st++A.fr):AC A.lf n=none:=P9 λq=>hn (by
 rcases iW h q with q | q;. exact yW.mpr (.inl q)
 . exact yW.mpr (.inr q))
theorem VS (h1:OkE ys A) (i:OkE ys B) (hF:Beh A B F):okV F g↔okV A g/\okV B (CT A g):=by
 obtain⟨Y,Z⟩:=QZ hF.no;constructor
 . rintro⟨hs,o⟩;have t:okV A g:=#[λn hn=>hs n ((hF.st n).mpr (.inl hn)),λn hn=>o n ((hF.fr n).mpr (.inl hn))]
   refine#[t,λn hn=>?_,λn hn=>?_]
   . by_cases hk:n∈A.st++A.fr;. obtain⟨e,z⟩:=JO (Y n hn hk);rw[JN z];rfl
     . rw[FS (VR h1 hk) λq=>hk (yW.mpr (.inl q))];exact hs n ((hF.st n).mpr (.inr #[hn,hk]))
   . have m:=P9 (Z n hn);by_cases hA:n∈A.st;. exact IN m hA
     . rw[FS m hA];by_cases hB:n∈A.fr;. exact t.2 n hB
       . exact o n ((hF.fr n).mpr (.inr #[hn,λq=>(yW.mp q).elim hA hB]))
 . rintro⟨t,hs,o⟩;refine#[λn hn=>?_,λn hn=>?_]
   . rcases (hF.st n).mp hn with q | ⟨q,hk⟩
     . exact t.1 n q
     . have:=hs n q;rwa [FS (VR h1 hk) λq=>hk (yW.mpr (.inl q))] at this
   . rcases (hF.fr n).mp hn with q | ⟨q,hk⟩
     . exact t.2 n q
     . have:=o n q;rwa [FS (VR h1 hk) λq=>hk (yW.mpr (.inl q))] at this
theorem iY (h1:OkE ys A) (h:B2 A B=av):¬(okV A g/\okV B (CT A g)):=by
 rintro⟨i,hs,o⟩;obtain⟨n,⟨N,J,G⟩ | ⟨N,J⟩⟩:=iV.mp h
 . have t:=hs n N;have m:=P9 G;by_cases hA:n∈A.st;. rw[IN m hA] at t;cases t
   . rw[FS m hA,i.2 n ((yW.mp J).resolve_left hA)] at t;cases t
 . have t:=o n N;obtain⟨e,z⟩:=JO J;rw[JN z] at t;cases t
theorem eB (h1:OkE ys A) (hc:B2 A B=ay) (Z:okV B (CT A g)) (i:m∈B.st):CT A g m=am (enV g (AH A.lf m)):=by
 obtain⟨Y,p⟩:=QZ hc;by_cases hk:m∈A.st++A.fr;. obtain⟨e,z⟩:=JO (Y m i hk);rw[JN z];unfold AH;rw[z];rfl
 . have o:=VR h1 hk;have t:=Z.1 m i;rw[FS o λq=>hk (yW.mpr (.inl q))] at t ⊢;unfold AH;rw[o];obtain⟨v,r⟩:=xX.mp t;rw[r];show am v=am (((g m).getD (0,0)).1,0+([m].map λn=>((g n).getD (0,0)).2).sum);simp[r]
theorem p9 (h1:OkE ys A) (hc:B2 A B=ay) (Z:okV B (CT A g)) (o:∀m∈e.2.1,m∈B.st) (hp:∀m,e.1 = .inr m->m∈B.st):enV g (B8 A.lf e)=enV (CT A g) e:=by
 obtain⟨p,fs,k⟩:=e;have j:plV g (B8 A.lf (p,fs,k)).1=plV (CT A g) p:=by
   cases p with
   | inl p=>rfl
   | inr m=> show plV g (AH A.lf m).1=((CT A g m).getD (0,0)).1;rw[eB h1 hc Z (hp m rfl)];rfl
 have h:ctV (CT A g) fs=(fs.map λm=>(AH A.lf m).2.2+ctV g (AH A.lf m).2.1).sum:=by unfold ctV;congr 1;refine yM λm i=>?_;rw[eB h1 hc Z (o m i)];rfl
 have t:ctV g (BP (fs.flatMap λn=>(AH A.lf n).2.1))=(fs.map λm=>ctV g (AH A.lf m).2.1).sum:=by unfold ctV;rw[YO ((AS _).map _),YQ]
 show(plV g (B8 A.lf (p,fs,k)).1,(k+(fs.map λn=>(AH A.lf n).2.2).sum)+ctV g (BP (fs.flatMap λn=>(AH A.lf n).2.1)))=(plV (CT A g) p,k+ctV (CT A g) fs);rw[j,h,t,TZ];congr 1;lia
theorem pA (h1:OkE ys A) (o:OkE ys B) (p:OkE ys F) (hF:Beh A B F) (b:okV A g) (Z:okV B (CT A g)) (n:Str):CT F g n=CT B (CT A g) n:=by
 have hc:=hF.no;cases hB:AC B.lf n with
 | some O=> have r:=(BI o.keys).mp hB;have t:AC F.lf n=am (B8 A.lf O):=(BI p.keys).mpr ((hF.lf _ _).mpr (.inr #[O,r,rfl]));rw[JN t,JN hB,p9 h1 hc Z (o.from_ _ r).2 (o.place _ r)]
 | none=>
   have L:n∉B.lf.map (·.1):=λq=>by obtain⟨e,z⟩:=JO q;rw[z] at hB;cases hB
   have Q:∀O,(n,O)∉B.lf:=λO q=>L (zL.mpr #[_,q,rfl]);by_cases hs:n∈B.st
   . rw[IN hB hs];have m:AC F.lf n=none:=by
       cases i:AC F.lf n with
       | none=>rfl
       | some e=>
         rcases (hF.lf _ _).mp ((BI p.keys).mp i) with ⟨_,q,_⟩ | ⟨O,q,_⟩
         . exact absurd hs q
         . exact absurd q (Q O)
     by_cases hk:n∈A.st++A.fr
     . rcases yW.mp hk with q | q;. exact IN m ((hF.st n).mpr (.inl q))
       . by_cases hFs:n∈F.st;. exact IN m hFs
         . rw[FS m hFs];exact b.2 n q
     . exact IN m ((hF.st n).mpr (.inr #[hs,hk]))
   . rw[FS hB hs];cases hA:AC A.lf n with
     | some e=> have t:AC F.lf n=am e:=(BI p.keys).mpr ((hF.lf _ _).mpr (.inl #[(BI h1.keys).mp hA,hs,L]));rw[JN t,JN hA]
     | none=>
       have m:AC F.lf n=none:=by
         cases i:AC F.lf n with
         | none=>rfl
         | some e=>
           rcases (hF.lf _ _).mp ((BI p.keys).mp i) with ⟨q,_,_⟩ | ⟨O,q,_⟩
           . rw[(BI h1.keys).mpr q] at hA;cases hA
           . exact absurd q (Q O)
       by_cases hAs:n∈A.st;. rw[IN hA hAs,IN m ((hF.st n).mpr (.inl hAs))]
       . rw[FS hA hAs,FS m λq=>?_];rcases (hF.st n).mp q with q | ⟨q,_⟩
         . exact hAs q
         . exact hs q
end
end DL
namespace DL
open PySem PySem.Spec L2 XC
section
variable {ys:List Str}{A B F:Eff}{g:Gt}{n:Str}{w:List Th}{D:Deed}
theorem U0 :AJ ns D=ap↔∀n∈D.names,(n∈ns)↔¬D.made=am n:=#[EN,Y5]
theorem VT (hr:D.real):okV (AD D) (AA w)↔AJ (w.map (·.1)) D=none:=by
 rw[U0];have t:∀n,n∈w.map (·.1)↔(AA w n).isSome=true:=λn=>BA;have m:∀n,AA w n=ap↔¬(n∈w.map (·.1)):=λn=>by rw[t];simp
 have o:=hr.2.1;have hp:∀x y n,n∈BP [x,y]↔n=x\/n=y:=λx y n=>by rw[(AS _).mem_iff];simp
 unfold okV;simp only[<-t,m];cases D with
 | put x p k=>simp[AD,Deed.names,Deed.made]
 | take x=>simp[AD,Deed.names,Deed.made]
 | move x p=>simp[AD,Deed.names,Deed.made]
 | count x k=>simp[AD,Deed.names,Deed.made]
 | name x y=> have h1:x≠y:=o;have e:=a4K h1;simp[AD,Deed.names,Deed.made,h1,e]
 | split x y p k=> have h1:x≠y:=o;have e:=a4K h1;simp[AD,Deed.names,Deed.made,h1,e]
 | join x y=>simp[AD,Deed.names,Deed.made,hp]
theorem iZ (nd:(ts.map (·.1)).Nodup) (n:Str):AC (CY ts) n=AC ts n:=by
 have I:=HN nd;have r:((CY ts).map (·.1)).Nodup:=((I.map (·.1)).nodup_iff).mpr nd;cases h:AC ts n with
 | none=> exact P9 λq=>by obtain⟨e,z⟩:=JO ((I.map (·.1)).mem_iff.mp q);rw[h] at z;cases z
 | some e=>exact(BI r).mpr (I.mem_iff.mpr ((BI nd).mp h))
theorem pB (hr:D.real) (m:AJ (w.map (·.1)) D=ap) (n:Str):AA (doT w D) n=CT (AD D) (AA w) n:=by
 rw[D3 hr m];have r:=hr.2.1;have i:∀{n},n∈D.names->D.made≠am n->∃v,AA w n=am v:=λhn b=>BF (MN m hn b);unfold CT;cases D with
 | put x p k=>
   by_cases h:n=x;. subst h;simp[AD,AC,enV,plV,ctV]
   . simp[AD,AC,h,a4K h]
 | take x=>
   by_cases h:n=x;. subst h;simp[AD,AC]
   . simp[AD,AC,h]
 | move x p=>
   obtain⟨v,o⟩:=i (n:=x) (by simp[Deed.names]) (by simp[Deed.made]);by_cases h:n=x;. subst h;simp[AD,AC,enV,plV,ctV,o]
   . simp[AD,AC,h,a4K h]
 | count x k=>
   obtain⟨v,o⟩:=i (n:=x) (by simp[Deed.names]) (by simp[Deed.made]);by_cases h:n=x;. subst h;simp[AD,AC,enV,plV,ctV,o,Int.add_comm]
   . simp[AD,AC,h,a4K h]
 | name x y=>
   have h1:x≠y:=r;obtain⟨v,o⟩:=i (n:=x) (by simp[Deed.names]) (by simp[Deed.made];exact λe=>h1 e.symm);by_cases h:n=y;. subst h;simp[AD,AC,enV,plV,ctV,o]
   . by_cases t:n=x;. subst t;simp[AD,AC,h,a4K h]
     . simp[AD,AC,h,t,a4K h]
 | split x y p k=>
   have h1:x≠y:=r;obtain⟨v,o⟩:=i (n:=x) (by simp[Deed.names]) (by simp[Deed.made];exact λe=>h1 e.symm);have nd:([(x,((.inr x,[x],-k):Ent)),(y,.inl p,[],k)].map (·.1)).Nodup:=by simpa using h1
   have e:=iZ nd n;show _=match AC (CY [(x,((.inr x,[x],-k):Ent)),(y,.inl p,[],k)]) n with | some e=>am (enV (AA w) e) | none=>if n∈[x] then ap else AA w n
   rw[e];by_cases h:n=y;. subst h;simp[AC,enV,plV,ctV,h1]
   . by_cases t:n=x;. subst t;simp[AC,enV,plV,ctV,o,h,Int.add_comm]
     . simp[AC,h,t,a4K h,a4K t]
 | join x y=>
   have h1:x≠y:=r;obtain⟨v,o⟩:=i (n:=x) (by simp[Deed.names]) (by simp[Deed.made]);obtain⟨u,hu⟩:=i (n:=y) (by simp[Deed.names]) (by simp[Deed.made]);have hp:∀n,n∈BP [x,y]↔n=x\/n=y:=λn=>by rw[(AS _).mem_iff];simp
   have hs:ctV (AA w) (BP [x,y])=v.2+u.2:=by unfold ctV;rw[YO ((AS _).map _)];simp[o,hu]
   by_cases h:n=y;. subst h;simp[AD,AC,hp,h1]
   . by_cases t:n=x;. subst t;simp[AD,AC,enV,plV,hs,o,hu,h]
     . simp[AD,AC,hp,h,t,a4K t]
def KM (o:Option (List Th)) (D:Deed):Option (List Th):=o.bind λw=>if AJ (w.map (·.1)) D=ap then am (doT w D) else ap
def AY (w:List Th) (Ds:List Deed):Option (List Th):=Ds.foldl KM (am w)
theorem MZ (w:List Th) (Ds:List Deed) (D:Deed):AY w (Ds++[D])=KM (AY w Ds) D:=by unfold AY;rw[a6X];rfl
theorem pC (h:AY w (Ds.take k)=ap):AY w Ds=none:=by
 have e:Ds=Ds.take k++Ds.drop k:=(b1X k Ds).symm;unfold AY at h ⊢;rw[e,a6X,h];generalize Ds.drop k=l;induction l with
 | nil=>rfl
 | cons a r t=>exact t
theorem YU {Ds:List Deed}(h:AY w (Ds.take k)=am w2) (hD:Ds[k]?=am D) (e:AJ (w2.map (·.1)) D=ap):AY w (Ds.take (k+1))=am (doT w2 D):=by rw[a2K,hD];show AY w (Ds.take k++[D])=_;rw[MZ,h];show(if AJ (w2.map (·.1)) D=ap then am (doT w2 D) else ap)=_;rw[if_pos e]
theorem R5 (h:AY w (Ds.take k)=am w2) (hD:Ds[k]?=am D) (e:¬AJ (w2.map (·.1)) D=ap):AY w Ds=none:=by refine pC (k:=k+1) ?_;rw[a2K,hD];show AY w (Ds.take k++[D])=_;rw[MZ,h];show(if AJ (w2.map (·.1)) D=ap then am (doT w2 D) else ap)=_;rw[if_neg e]
def JP (w:List Th) (o:Option Eff) (r:Option (List Th)):Prop:=match o with
 | none=>r=ap
 | some E=>match r with
   | none=>¬okV E (AA w)
   | some b=>okV E (AA w)/\∀n,AA b n=CT E (AA w) n
theorem HQ (hn:AK ys) (w:List Th):∀(k:Nat) (Ds:List Deed),Ds.length=k->(∀D∈Ds,BL ys D)->JP w (B0 Ds) (AY w Ds)
 | 0,Ds,m,h=>by obtain rfl:=List.length_eq_zero_iff.mp m;exact#[#[(λn h=>nomatch h),(λn h=>nomatch h)],λn=>rfl]
 | k+1,Ds,m,h=>by
   obtain⟨C,D,rfl⟩:∃C D,Ds=C++[D]:=#[Ds.dropLast,Ds.getLast (by rintro rfl;cases m),(List.dropLast_concat_getLast _).symm]
   have hC:∀D∈C,BL ys D:=λD hD=>h D (yW.mpr (.inl hD));have hD:BL ys D:=h D (by simp);have e:=HQ hn w k C (by simpa using m) hC;cases hE:B0 C with
   | none=> rw[hE] at e;have e:AY w C=none:=e;rw[YI (k:=C.length) (by rw[List.take_left];exact hE),MZ,e];exact rfl
   | some E=>
     rw[hE] at e;rw[MV hE,MZ];have t:=NT hn hC E hE;have o:=OkE.deed hn hD;cases hc:B2 E (AD D) with
     | true=>
       rw[p6 hc];show KM (AY w C) D=ap;cases hr:AY w C with
       | none=>rfl
       | some b=> rw[hr] at e;obtain⟨r,p⟩:=e;have y:AA b=CT E (AA w):=funext p;show(if AJ (b.map (·.1)) D=ap then am (doT b D) else ap)=ap;rw[if_neg λq=>iY t hc #[r,by rw[<-y];exact(VT hD.1).mpr q]]
     | false=>
       have hs:=YR hc;have hF:=oZ t o hs;have c:=OkE.behind hn t o hs;rw[hs];generalize (#[BP (AR E (AD D)),BP (CP E (AD D)),CY (DD E (AD D))]:Eff)=F at hF c;cases hr:AY w C with
       | none=> rw[hr] at e;have e:¬okV E (AA w):=e;show ¬okV F (AA w);exact λq=>e ((VS t o hF).mp q).1
       | some b=>
         rw[hr] at e;obtain⟨r,p⟩:=e;have y:AA b=CT E (AA w):=funext p;show JP w (am F) (if AJ (b.map (·.1)) D=ap then am (doT b D) else ap);by_cases i:AJ (b.map (·.1)) D=ap
         . rw[if_pos i];have Z:okV (AD D) (CT E (AA w)):=by rw[<-y];exact(VT hD.1).mpr i
           refine#[(VS t o hF).mpr #[r,Z],λn=>?_];rw[pB hD.1 i,y,pA t o c hF r Z]
         . rw[if_neg i];show ¬okV F (AA w);exact λq=>i ((VT hD.1).mp (by rw[y];exact((VS t o hF).mp q).2))
end
end DL
namespace DL
open PySem PySem.Spec L2 XC
section
variable {ys:List Str}{E:Eff}{g:Gt}{n:Str}{w a b:List Th}{D:Deed}
abbrev wQ (w:List Th):PyData:=.dict (AF (tsD w))
theorem VU (h:(ts.map (·.1)).Nodup):((CD ts x p c).map (·.1)).Nodup:=by
 unfold CD;split
 . rw[zD];have e:((λt:Th=>t.1)∘λt:Th=>if t.1=x then (t.1,p,c) else t)=λt:Th=>t.1:=by funext t;show(if t.1=x then (t.1,p,c) else t).1=t.1;split <;> rfl
   rw[e];exact h
 . rename_i q;rw[xH,List.nodup_append];refine#[h,by simp,λa o b hb=>?_];obtain rfl:b=x:=by simpa using hb
   rintro rfl;obtain⟨t,u,e⟩:=zL.mp o;exact q (List.any_eq_true.mpr #[t,u,decide_eq_true e])
def bM (o:Option (List Th)):PyData:=match o with | some w=>wQ w | none=>.none
theorem j4 (h:There zs w) (hz:zs.length < 60) (hD:∀D∈Ds,D.real/\∀x∈D.names,x∈zs):∀w2,AY w Ds=am w2->There zs w2:=by
 induction Ds generalizing w with
 | nil=>intro w2 e;cases e;exact h
 | cons D r o=>
   intro w2 e;have hd:=hD D (a0Z ..);by_cases t:AJ (w.map (·.1)) D=ap
   . have e:AY (doT w D) r=am w2:=by
       have:AY w (D::r)=AY (doT w D) r:=by show r.foldl KM (KM (am w) D)=r.foldl KM (am (doT w D));show r.foldl KM (if AJ (w.map (·.1)) D=ap then am (doT w D) else ap)=_;rw[if_pos t]
       rw[<-this];exact e
     have hg:goD w D:=#[#[h.nd,by have:=h.few;lia],hd.1,t]
     exact o (oK h hg hd.2) (λc B=>hD c (yV _ B)) w2 e
   . have:AY w (D::r)=none:=R5 (Ds:=D::r) (k:=0) (w2:=w) rfl rfl t;rw[this] at e;cases e
end
end DL
namespace L2
open PySem PySem.Spec PyProof.Rows
open AutoSeq1 (wpAny_loadPart')
section
variable {prog:bh}{w:bd}{A:bv}{E:aw->ax->Prop}{s:ax}
theorem eD (hh:A.handled=ap) (hx:items[i]?=ap):NxE prog w A it (λh=>h.IsTupleIter it l i/\h.IsTuple l items):=λs Q E hS hE=>by
 obtain⟨hit,u⟩:=hS;obtain⟨o,ho,hc,hd⟩:=id hit;obtain⟨v,X,_,t,e⟩:=id u;unfold a2Z;refine zZ (wpAny_callSpecial?_slot (name:=a0Q "__next__") hit.typeIs a6Q (ce a6Q hit.typeIs b8Q ?_ (b7Z _)));show wpAny _ _ (iv (.ref it) 0 >>= _) _ _ s;refine zZ (bf ho hd (x:=.ref l) rfl ?_);show wpAny _ _ (if (a0X l==a0V)=av then _ else _) _ _ s;rw[if_neg (show ¬((a0X l==a0V)=av) from nft)];show wpAny _ _ (iv (.ref it) 1 >>= _) _ _ s;refine zZ (bf ho hd (x:=.int i 0) rfl ?_);show wpAny _ _ (seqItems? (.ref l) >>= _) _ _ s;refine zZ (c4 X e ?_);simp only[a2W,hx];refine zZ (dc (zZ (dV ho hd (by simp) ?_)));show wpAny _ _ (newExc (.type "StopIteration") [] >>= _) _ _ _;refine zZ ?_;simp only[newExc,newTuple];refine zZ (xL ?_ (by size_fits));refine zZ (m:=iz _ _) (fx (a:=a0V) (by first | rfl | (simp only[iz];rfl)) ?_);refine xL ?_ (by size_fits);simp only[raiseNew];refine zZ (wpAny_handled ?_);first | rw[show A.in1.handled=ap from hh] | rw[hh]
 refine zZ (zY (wpAny_throw ?_));exact hE _ _ (((b5Z ..).extBut.push _).push _) #[_,yZ _ rfl,rfl]
theorem j6 (hh:A.handled=ap) (it l:Addr) (au:l≠it) (items:Array aw):Draws prog w A it [it,l] items.size (λi v=>items[i]?=am v) (λi h=>h.IsTupleIter it l i/\h.IsTuple l items) where
 live:=λ_ _ st=>let #[o,ho,_]:=st.1;#[o,ho]
 frame:=λ_ _ _ st hk=>#[st.1.at λo e=>hk it (by simp) o e,let #[o,e,r]:=st.2;#[o,hk l (by simp) o e,r]]
 item:=λi s Q E hi st hQ=>mO au (y:=items[i]) (by simp[hi]) s Q E st λh' tk x e a b=>hQ x h' tk (by rw[e];simp[hi]) a b
 done:=λs Q E st hE=>eD hh (by simp) s Q E st hE
theorem j7 {i:Nat}(hh:A.handled=ap) (z:IsEnum s.heap e it i old) (hit:s.heap.IsTupleIter it l i) (m:s.heap.IsTuple l items) (hx:items[i]?=ap) (t:∀h',Heap.ExtBut it s.heap h'->Q ap { s with heap:=h' }):wpAny (model prog w) A (pyNext (.ref e)) Q E s:=by have u:s.TypeIs (.ref e) "enumerate" := #[_,z,rfl];unfold pyNext;refine zZ (wpAny_attempt (wpAny_callSpecial?_slot (name:=a0Q "__next__") u F.slot_enumerate_next (ce F.slot_enumerate_next u F.entry_enumerate_next ?_ (F.args_enumerate_next_1 _))));show wpAny _ _ (iv (.ref e) 2 >>= _) _ _ _;refine zZ (bf z rfl (x:=.ref it) rfl (zZ (eD (A:=A.in1) hh hx _ _ _ #[hit,m] λh' x I n=>?_)));obtain⟨o,ho,hc⟩:=n;exact zZ (wpAny_isInstance (T:= "StopIteration") (b:=av) #[o,ho,hc] isSubtype_stop (zY (t _ I)))
theorem YV (l:Addr) (items:Array aw) :
   Meets (Builtin.«enumerate.__new__» #[[.type "enumerate", .ref l],[]]) (λ_ R s=>s.heap.IsTuple l items /\
     R (.ok (.ret (.ref (s.heap.push { cls:=.type "tuple_iterator", data:=.fields (y9 [.ref l,.int 0 0]) }).objs.size))) { s with heap:=(s.heap.push { cls:=.type "tuple_iterator", data:=.fields (y9 [.ref l,.int 0 0]) }).push { cls:=.type "enumerate", data:=.fields (y9 [.none,.bool ay,.ref s.heap.objs.size,dZl 0,.none,.none]) } }):=
 .of_wp λprog w A R s h=>by
   obtain⟨hp,g,d,p,i⟩:=s;obtain⟨hL,h⟩:=h;have o:=sub_enumerate;obtain⟨⟨c,e,t,sl⟩,m,hc,n,hd⟩:=id hL
   wp_walk using fN m
   refine wpAny_stack_any λr=>zY ?_;split;. rename_i c _ _ _ _ _;cases (c==Value.type "enumerate") <;> (wp_walk using fN m,gm hL;exact#[_,rfl,h])
   . (wp_walk using fN m,gm hL;exact#[_,rfl,h])
theorem bN (hL:s.heap.IsTuple l items) (h:∀h',IsEnum h' (s.heap.objs.size+1) s.heap.objs.size 0 .none->h'.IsTupleIter s.heap.objs.size l 0 ->(∀b o,s.heap.get? b=am o->h'.get? b=am o)->Q (.ref (s.heap.objs.size+1)) { s with heap:=h' }) :
   wpAny (model prog w) A (call (.type "enumerate") [.ref l]) Q E s:=by
 refine callType_new F.called_enumerate (by decide) (F.typeCall_enumerate_1 _) (F.newCall_enumerate_1 _) (λobj=>F.args_object_init_2 obj _) F.entry_enumerate_new (YV l items) #[hL,?_];have e:(s.heap.push { cls:=.type "tuple_iterator", data:=.fields (y9 [.ref l,.int 0 0]) }).objs.size=s.heap.objs.size+1:=a9Z ..;show _/\_;rw[e];have z:IsEnum ((s.heap.push { cls:=.type "tuple_iterator", data:=.fields (y9 [.ref l,.int 0 0]) }).push { cls:=.type "enumerate", data:=.fields (y9 [.none,.bool ay,.ref s.heap.objs.size,dZl 0,.none,.none]) }) (s.heap.objs.size+1) s.heap.objs.size 0 .none:=by have:=yZ (s.heap.push { cls:=.type "tuple_iterator", data:=.fields (y9 [.ref l,.int 0 0]) }) (o:={ cls:=.type "enumerate", data:=.fields (y9 [.none,.bool ay,.ref s.heap.objs.size,dZl 0,.none,.none]) }) rfl;rw[e] at this;exact this
 exact#[#[_,z,rfl],h _ z #[_,zW _ (yZ _ rfl),rfl,rfl] λb o x=>zW _ (zW _ x)]
end
end L2
namespace L2
open PySem PySem.Spec PyProof.Rows
def A3d (K:Frg) (l:Addr):It:=#[λi H=>∃t,SqT K H l t/\i < t.length,
  λi H x H'=>∃p a,H p=ap/\x = .ref p/\H'=upd H p (.tup [.int (i:Nat),a])/\∀t,SqT K H l t->t[i]?=am a,
  λi H=>∃t,SqT K H l t/\t.length<=i]
theorem bO {P:bh}{w:bd}{K:Frg}{lr:List bn}{kk:Nat}{jp:eH}(e it l:Addr) (d1:e≠it) :
   Turn P w K (.Tuple lr kk jp) (A3d K l) [e,it] e (λi h=>(∃old,IsEnum h e it (i:Nat) old)/\h.IsTupleIter it l i) where
 mem:=by simp
 obj:=by
   rintro i h ⟨⟨old,a1⟩,a2⟩ b hb;simp only[yX,xW,or_false] at hb;rcases hb with rfl | rfl;. exact⟨_,a1,λv q=>by cases q⟩
   . obtain⟨o,q,c,d⟩:=a2;exact⟨o,q,λv z=>by rw[d] at z;cases z⟩
 keep:=by rintro i h h' ⟨⟨old,a1⟩,a2⟩ k;exact#[#[old,k e (by simp) _ a1],a2.at λo q=>k it (by simp) o q]
 item:=by
   intro X hP hw hK hc i pins s σ H E I hf #[#[old,a1],a2] hg;subst hP hw hK;obtain⟨xs,hx,lx⟩:=hg;obtain⟨aa,rx,px,_⟩:=I.tuple hx;obtain⟨u,hu,ru⟩:=rx.get (zV lx);have hle:l≠e:=Q6 I (hf e (by simp)) hx;have Ho:l≠it:=Q6 I (hf it (by simp)) hx;have Mw:=rx.length;refine wpAny_pyNext_enum_itemD (j6 (items:=aa.toArray) (A:=X.A.in1) (I.ok.hd hc) it l Ho) a1 #[a2,px] (show i < aa.toArray.size by simp;lia) d1 (by simp;exact#[d1,hle.symm]) λx h' tk ex b1 b2 b3 b4 hk=>?_;have ex:x=u:=by
     have:aa[i]?=am x:=by simpa using ex
     rw[hu] at this;exact(Option.some.inj this).symm
   subst ex;refine#[_,rfl,wpAny_letOwnedTupleGo_enum (s:={ s with heap:=h',toks:=tk+1 }) b1 λh2 c1 sb=>?_];have lt:∀{c o},s.heap.get? c=am o->s.heap.objs.size≠c:=λq=>a9Q (zM q);have keep:∀b o,b∉[e,it]->s.heap.get? b=am o->h2.get? b=am o:=λb o hb q=>by simp only[yX,xW,or_false,not_or] at hb;exact sb.extBut b o hb.1 (hk b o hb.1 hb.2 q)
   have sr:s.heap.objs.size≠e:=lt a1;have I1:Inv X pins σ (upd H s.heap.objs.size (.tup [.int (i:Nat),xs[i]])) { s with heap:=h2,toks:=tk+1 }:=I.turnedT (t':=tk+1) (ch:=[e,it]) keep (λb hb=>(hf b hb).1) (λb hb=>let q:=hf b hb;#[q.2.2.2.1,q.2.1,q.2.2.2.2.1,q.2.2.2.2.2]) (zR _) #[by show 2<=aB;decide,[.int (i:Nat) tk,x],.cons #[_,rfl] (.cons ru .nil),#[_,sb.extBut _ _ sr b3,rfl,_,rfl]];refine#[.ref s.heap.objs.size,_,I1,rfl,#[s.heap.objs.size,xs[i],I.hok.fresh (zR _),rfl,rfl,λQa pq=>?_],#[#[_,c1],let #[o,q,r]:=b2.1;#[o,sb.extBut it o (a4K d1) q,r]],λb hb=>?_];. rw[I.tuple_inj pq hx];exact zV lx
   . have cv:s.heap.objs.size≠b:=by
       simp only[yX,xW,or_false] at hb;rcases hb with rfl | rfl;. exact lt a1
       . obtain⟨o,q,_⟩:=a2;exact lt q
     rw[AG (a4K cv)];exact(hf b hb).1
 done:=by
   intro X hP hw hK hc i pins s σ H E I hf #[#[old,a1],a2] hg;subst hP hw hK;obtain⟨xs,hx,Mx⟩:=hg;obtain⟨aa,rx,px,_⟩:=I.tuple hx;have e1:=rx.length;have Ho:l≠it:=Q6 I (hf it (by simp)) hx;refine j7 (I.ok.hd hc) a1 a2 px (by rw[c0X];simp;lia) λh' hk=>#[rfl,I.turnedL (t':=s.toks) (ch:=[e,it]) (λb o hb q=>?_) (λb hb=>(hf b hb).1) λb hb=>let q:=hf b hb;#[q.2.2.2.1,q.2.1,q.2.2.2.2.1,q.2.2.2.2.2]]
   simp only[yX,xW,or_false,not_or] at hb;exact hk b o hb.2 q
 self:=λ_ _ _ _ _ st h=>let #[_,q]:=st.1;wpAny_pyIter_enum q h
section
variable {X:Cx}{K:Frg}
def pD (K:Frg) (T:TA):TI:=λo H R=>T o H λn e=>∃a,n=[.ref a]/\(∃t,SqT K e a t)/\R (A3d K a) e
theorem A1w {a:bn}{T:TA}{p pos:eH}{c:List bn}{x:Nat}{f:eH}(hk:X.K=K) (hg:Gl X "enumerate") (m:X.mg "enumerate"=ap) (g:PA X [a] T) (hs:starEach [a] X.env=[(ay,eval a X.env)]:=by rfl) :
   PI X (.Tuple c x f) (.Call (.Name "enumerate" p) [a] [] pos) (pD K T):=by
 subst hk;intro pins s z H R I h;refine Call_ (HY I hg m boot_enumerate (xG (thn (g pos pins s z H _ I h) λS r Y=>?_) hs rfl));obtain⟨M,n,t,j,N⟩:=Y;obtain⟨l,e,⟨D,hx⟩,q⟩:=N;subst e;obtain⟨u,rfl,v⟩:=J7 j;cases v;obtain⟨O,L,y,_⟩:=t.tuple hx;refine bN y λi k o hk=>?_;refine wpAny_pyIter_enum (s:={ r with heap:=i }) k ?_;refine#[r.heap.objs.size+1,[r.heap.objs.size+1,r.heap.objs.size],_,_,n,rfl,t.kept (t':=r.toks) hk,bO (r.heap.objs.size+1) r.heap.objs.size l (Nat.succ_ne_self _),#[#[_,k],o],λb hb=>?_,q];have hle:r.heap.objs.size<=b:=by
   simp only[yX,xW,or_false] at hb;rcases hb with rfl | rfl;. exact c0J _ _
   . exact zR _
 exact t.fpOk hle (t.hok.fresh hle)
end
end L2
namespace DL
open PySem PySem.Spec L2
section
theorem pE (h:DA K T ρ M λxs M1=>∃as,xs=[.d (.tuple as)]/\QI (OO as) M1):DI K (pD K T) ρ M QI:=λD H R X k=>
 h D H _ X λG f xs M1 O N I Z=>by
   obtain⟨as,e,q⟩:=Z;subst e;obtain⟨v,r,rfl,h1,z⟩:=N;cases z;unfold SI DV at h1;obtain⟨a,b,rfl,m,hd⟩:=h1;have c:(OO as).length=as.length:=by unfold OO;rw[zX,List.length_zipIdx]
   refine#[a,rfl,#[b,m.sq],k _ (OO as) f M1 O I #[λi H' n hi o t=>?_,λH' n o t=>?_,λi H' n x B o t hi y=>?_] q];. rw[c] at hi;exact#[b,(m.grow t.grow).sq,by rw[hd.length];lia]
   . refine#[b,(m.grow t.grow).sq,?_];rw[c,hd.length];lia
   . obtain⟨p,S,hp,rfl,rfl,hy⟩:=y;have j:=hy b (m.grow t.grow).sq;obtain⟨g,u,L⟩:=hd.get j;have J:Grow K n.W n.W H' (upd H' p (.tup [.int (i:Nat),S])):=B6 _ hp;refine#[o.new hp,#[J],.tuple [.int (i:Nat),g],?_,?_];. unfold OO;rw[zF,List.getElem?_zipIdx,u];simp
     . unfold DV;exact#[p,_,rfl,.inl #[λw=>w (o.none hp),.inl AE],DVs.cons (by unfold DV;rfl) (DVs.cons ((L.grow t.grow).grow J) DVs.nil)]
end
end DL
namespace DL
open PySem PySem.Spec L2 XC
structure rowP (w:List Th) (Ds:List Deed):Prop where
 fine:CO w
 book:CB w Ds
 few:w.length+Ds.length < 60
def J3 (w:List Th) (Ds:List Deed):List DS:=[.d (wD w),.d (.tuple (Ds.map Deed.d))]
theorem K3 (e:J3 w Ds=J3 v t):w=v/\Ds=t:=by
 unfold J3 at e;simp only[List.cons.injEq,DS.d.injEq,PyData.tuple.injEq,and_true] at e;refine#[NM e.1,?_];have:=e.2;clear e;induction Ds generalizing t with
 | nil=>cases t with | nil=>rfl | cons _ _=>cases this
 | cons a r n=>cases t with
   | nil=>cases this
   | cons b s=> simp only[zI,List.cons.injEq] at this;rw[HE this.1,n this.2]
end DL
namespace DL
open PySem PySem.Spec L2
theorem pG (h:rowP w Ds):CO (JH w Ds)/\(JH w Ds).length<=w.length+Ds.length:=by have:=K0 h.book h.fine h.few (zR _);rw[show wsF w Ds Ds.length=JH w Ds by unfold wsF;rw[a1Q]] at this;exact#[this.1,this.2.1]
end DL
namespace L2
open PySem PySem.Spec PyProof.Rows
def A0B (e n iter:bn) (ifs:List bn) (dp:Nat) (em:Sem Fin->Sem Fin) (it acc:aw) (env:im):Sem Fin:=do
 standAt iter.pos
 match <- pyNext it with
 | none=>pure (.done .next)
 | some v=>
   letOwnedTupleGo n it v
   h7 n env v
   let mut ok:=av
   for c in ifs do
     if ok then ok <- isTrue c env (eval c env)
   if ok then em (again (.compLoop e dp it acc env)) else again (.compLoop e dp it acc env)
def pH (prog:bh) (w:bd) (A:bv) (c target:bn) (ifs:List bn) (dp:Nat) (tl:im->Addr->(ax->Prop)->ax->Prop):Prop:=∀(U D:Addr) (env:im) (R:Result->ax->Prop) (I:Nat->ax->Prop),(∀n s,I n s->wpAny (model prog w) A (pyNext (.ref U)) (λr e=>match r with
     | none=>R (.ok .next) e
     | some v=>wpAny (model prog w) A (letOwnedTupleGo target (.ref U) v) (λ_ k=>wpAny (model prog w) A (h7 target env v) (λ_ Q=>
         wpAny (model prog w) A (KZ ifs env) (λok t=>if ok=av then tl env D (λs'=>∃m,m < n/\I m s') t else ∃m,m < n/\I m t) (λ_ _=>False) Q) (λ_ _=>False) k) (λ_ _=>False) e) (λ_ _=>False) s) ->
   ∀n s,I n s->codeAny (model prog w) A (.compLoop c dp (.ref U) (.ref D) env) R s
theorem pI {em:Addr->im->Sem Fin->Sem Fin} (z:∀it D env,compTurn (.ListComp elt gens scope pos) dp (.ref it) (.ref D) env=A0B (.ListComp elt gens scope pos) target iter ifs dp (em D env) (.ref it) (.ref D) env) (q:∀env D P s k Q E,tl env D P s->(∀s',P s'->wpAny (model prog w) A k Q E s')->wpAny (model prog w) A (em D env k) Q E s):pH prog w A (.ListComp elt gens scope pos) target ifs dp tl:=by
 intro it D env R I turn n s h;refine codeAny_loop rfl I (λn s hI=>?_) n h;show wpAny _ A ((compTurn (.ListComp elt gens scope pos) dp (.ref it) (.ref D) env).onRaise (λx=>do gl x env;theTreesLotGoes x)) _ _ s;refine wpAny_noted ?_;rw[z];unfold A0B;refine zZ (bt (zZ (bc (AL (turn n s hI)) (λr b j=>?_) λ_ _ p=>p)));cases r with
 | none=>exact zY j
 | some v=>
   refine zZ (bc (AL j) (λ_ i e=>?_) λ_ _ p=>p);refine zZ (bc (AL e) (λ_ c o=>zZ (bc (AL o) (λok f t=>?_) λ_ _ p=>p)) λ_ _ p=>p);cases ok with
   | false=>exact zY #[rfl,t]
   | true=>exact q _ _ _ _ _ _ _ t λg m=>zY #[rfl,m]
def tlC (prog:bh) (w:bd) (A:bv) (c G:bn):im->Addr->(ax->Prop)->ax->Prop:=λenv D P s=>
 wpAny (model prog w) A (eval G env) (λx v=>wpAny (model prog w) A (pyIter x) (λU Q=>codeAny (model prog w) A (.compStart c 1 U (.ref D) env) (λr s'=>match r with | .ok _=>P s' | .error _=>False) Q) (λ_ _=>False) v) (λ_ _=>False) s
section
theorem A1x (hs:∀env x,bw ai env x=pure x):UR prog w A (.ListComp elt [#[tg,iter,[],0],#[kd,ai,[],0]] scope pos) tg [] (tlC prog w A (.ListComp elt [#[tg,iter,[],0],#[kd,ai,[],0]] scope pos) ai):=by
 refine pI (iter:=iter) (dp:=0) (em:=λD env k=>do
           let x <- eval ai env
           standAt ai.pos
           let x <- bw ai env x;let _ <- runOwn (.compStart (.ListComp elt [#[tg,iter,[],0],#[kd,ai,[],0]] scope pos) 1 (<- holding [x] (pyIter x)) (.ref D) env) env
           k) (λU D env=>rfl) λenv D P s k Q E h hk=>?_;refine zZ (thn (AL h) λx v j=>zZ (bt (zZ (fx (hs env x) (zZ (bq (thn (AL j) λU n t=>?_)))))));refine zZ (wpAny_runOwn (xM t λr s' hr=>?_));cases r with
 | ok f=>exact hk _ hr
 | error e=>exact hr.elim
theorem pJ:pH prog w A (.ListComp elt [#[tg,iter,[],0],#[kd,ai,[],0]] scope pos) kd [] 1 (tlL prog w A elt):=by refine pI (iter:=ai) (em:=λD env k=>(do let _ <- call (.builtin "list.append") [.ref D,<-eval elt env]) >>= λ_=>k) (λU D env=>rfl) λenv D P s k Q E h hk=>?_;exact zZ (zZ (thn (AL h) λx e m=>zZ (thn (AL m) λ_ t Y=>zY (hk _ Y))))
theorem j8  (h0:codeAny (model prog w) A (.compLoop (.ListComp elt [#[tg,iter,[],0],#[kd,ai,[],0]] scope pos) 1 it acc env) R s) (h:wpAny (model prog w) A (pyIter it) (λe s'=>codeAny (model prog w) A (.compLoop (.ListComp elt [#[tg,iter,[],0],#[kd,ai,[],0]] scope pos) 1 e acc env) R s') (notedBy (model prog w) A env λx s'=>R (.error x) s') s) :
   codeAny (model prog w) A (.compStart (.ListComp elt [#[tg,iter,[],0],#[kd,ai,[],0]] scope pos) 1 it acc env) R s:=by
 refine codeAny_of_tree ?_;show wpAny _ _ ((compStart (.ListComp elt [#[tg,iter,[],0],#[kd,ai,[],0]] scope pos) 1 it acc env).onRaise (λx=>do gl x env;standAt theWindowsPlace)) _ _ s;refine wpAny_notedAt ?_;unfold compStart;show wpAny _ _ (ask >>= _) _ _ s;refine zZ (wpAny_askSetting (wpAny_ite ?_));split
 . first
     | exact zZ (zY (zY (And.intro rfl h0)))
     | exact zY (And.intro rfl h0)
 . first
     | exact zZ (dc (zZ (bt (zZ (bc h (λe s' p=>zY (And.intro rfl p)) λ_ _ x=>x)))))
     | (refine zZ (dc ?_);show wpAny _ _ (standAt ai.pos >>= _) _ _ s;exact zZ (bt (zZ (bc h (λe s' p=>zY (And.intro rfl p)) λ_ _ x=>x))))
end
def A1y (u:TI) (f:TG) (g:TE):Addr->Nat->(Nat->List V->Hp->Prop)->St->Hp->Prop:=λD n W t H=>u t H λJ r=>∃L:Nat->Nat->Hp->Prop,(∃m,L 0 m r) /\∀i m c,L i m c->(J.stop i c/\∃b h,b < n/\W b h c)\/(J.go i c/\∀x o,J.yld i c x o->f x t o λe p=>
   (∀(i:Nat) v,t[i]?=am (am v)->e[i]?=am (am v))/\g e p λy S=>∃G,S D=am (.lst G)/\G.length < aB/\∃b,b < m/\L (i+1) b (upd S D (.lst (G++[y]))))
def pK (e:List (Option Nat)) (U:TI) (g:TG) (u:TI) (t:TG) (n:TE):TE:=z0 e U g sQ [] .lst (A1y u t n)
section
variable {X:Cx}{scope:fc}{NC:List Str}{fr:List (Option Nat)}{elt iter tg ai kd:bn}{pos:eH}{wi su:TI}{g g1:TG}{te:TE}
theorem j9 (hx:Y.xe=λ_ _=>False) (hc:Y.calm=av) (hi:PI Y kd ai su) (hg:PG Y kd g1) (he:PE Y elt te) {t:St} (I:Inv Y pn t H s) (q:A1y su g1 te D n W t H) (k:∀m y z j,m < n->W m y z->Inv Y pn t z j->P j):tlC Y.prog Y.w Y.A (.ListComp elt [#[tg,iter,[],0],#[kd,ai,[],0]] scope pos) ai Y.env D P s:=by
 have hi':=hi pn s t H _ I q;rw[hx] at hi';refine thn hi' λv s1 h1=>thn h1 λCi j h2=>?_;obtain⟨it,N,tn,J,z,e,I2,T,gv,U,Q,⟨m0,w0⟩,turn⟩:=h2;subst e;have stat:∀{H':Hp},(∀b∈N,H' b=ap)->∀b∈N,LX Y pn H' b:=λhn b hb=>#[hn b hb,(U b hb).2]
 have loop:codeAny (model Y.prog Y.w) Y.A (.compLoop (.ListComp elt [#[tg,iter,[],0],#[kd,ai,[],0]] scope pos) 1 (.ref it) (.ref D) Y.env) (λr s'=>match r with | .ok _=>P s' | .error _=>False) j:=by
   refine pJ _ _ _ _ (λn s'=>∃i H',Inv Y pn t H' s'/\tn i s'.heap/\(∀b∈N,H' b=ap)/\Q i n H') ?_ m0 _ #[0,_,I2,gv,λb hb=>(U b hb).1,w0];rintro n s3 ⟨i,f,L,Z,S,w3⟩;rcases turn i n f w3 with ⟨stop,p,ys,hm,wn⟩ | ⟨go,step⟩
   . refine thn (T.done Y rfl rfl rfl hc i pn s3 t f _ L (stat S) Z stop) ?_;rintro r s4 ⟨hr,I4⟩;subst hr;exact k p ys f s4 hm wn I4
   . refine thn (T.item Y rfl rfl rfl hc i pn s3 t f _ L (stat S) Z go) ?_;rintro r s4 ⟨u,hr,h4⟩;subst hr;refine thn h4 ?_;rintro _ s5 ⟨x,B,I5,r5,y5,O,zj⟩;have Dw:=I5.pinned (stat zj) (T.obj _ _ O);have M:=hg _ s5 t B x u _ Dw r5 (step x B y5);rw[hx] at M;refine thn M ?_;rintro _ s6 ⟨c,H6,I6,Fl,q6⟩;refine wpAny_tests_nil (if_pos rfl▸?_);have G:=he _ s6 c H6 _ I6 q6;rw[hx] at G;refine thn G ?_;rintro y s7 ⟨yv,H7,I7,r7,cu,hD,hsz,p,wl,w'⟩;have ha:=NB _ s7 c H7 (.ref D) [yv] (.ref D) [y] (λ_ H'=>∃p,p < n/\Q (i+1) p H') I7 rfl (.cons r7 .nil) #[_,cu,yv,rfl,rfl,hD,hsz,p,wl,w'];rw[hx] at ha;refine thn ha ?_;rintro _ s8 ⟨_,H8,h,_,Ar,yh,Ej⟩;refine#[Ar,yh,i+1,H8,h.unpinned.weak (by rw[h.len,I.len]) Fl,T.keep _ _ _ O λb hb o e=>(h.pin (b,o) (zB _ (zB _ (E4 hb e)))).1,λb hb=>?_,Ej];obtain⟨o,e,d⟩:=T.obj _ _ O b hb;exact(h.pin (b,o) (zB _ (zB _ (E4 hb e)))).2.1
 exact j8 loop (T.self _ 0 _ _ _ gv loop)
theorem pM (hc:X.calm=av) (S:CSc X scope NC fr) (hi:PI X tg iter wi) (hb:∀(C:Addr) (s:ax) (H:Hp) (f:List Addr) (pn:List (Addr×cr)),PG (AU X scope NC C s H f pn) tg g/\PI (AU X scope NC C s H f pn) kd ai su/\PG (AU X scope NC C s H f pn) kd g1/\PE (AU X scope NC C s H f pn) elt te) (hs:∀x,bw iter X.env x=pure x:=by intro _;rfl) (t:∀env x,bw ai env x=pure x:=by intro _ _;rfl):PE X (.ListComp elt [#[tg,iter,[],0],#[kd,ai,[],0]] scope pos) (pK fr wi g su g1 te):=by
 intro pins s e H Q I h;rw[eval_ListComp];refine NE (use:=ap) (Q:=Q) (y0:=[]) (at_:=.lst) (Ty:= "list") (dt:=.seq #[]) (tl:=tlC X.prog X.w X.A (.ListComp elt [#[tg,iter,[],0],#[kd,ai,[],0]] scope pos) ai) (el:=A1y su g1 te) rfl rfl (by size_fits) (λH h _=>#[xR _,[],0,.nil,yZ _ rfl]) (A1x t) codeAny_compStart_list hc S hi (λC s H f pn=>#[(hb C s H f pn).1,cP,λvy s' e H' D n W P I q k=>?_]) I h (λD C H' s' m r o hn q back _ p i=>?_) hs;. exact j9 (Y:=AU X scope NC C s H f pn) rfl hc (hb C s H f pn).2.1 (hb C s H f pn).2.2.1 (hb C s H f pn).2.2.2 I q k
 . exact#[.ref D,H',back pins e H' s' p o i,rfl,q]
end
end L2
namespace DL
open PySem PySem.Spec L2
theorem jA {S L:Type}(F:S->List L) {l:List S}{i:Nat}{d:S}(h:l[i]?=am d):(l.take (i+1)).flatMap F=(l.take i).flatMap F++F d:=by rw[a2K,h,a9W];simp
theorem pN {S L:Type}(F:S->List L) (l:List S) (i:Nat):((l.take i).flatMap F).length<=(l.flatMap F).length:=by
 have e:(l.take i).flatMap F++(l.drop i).flatMap F=l.flatMap F:=by rw[<-a9W,b1X]
 rw[<-e,yY];exact c0J _ _
section
theorem eF {N:Own}:(N.del A).Sub N:=λb o q=>by
 unfold Own.del at q;by_cases hb:b=A;. rw[if_pos hb] at q;cases q
 . rw[if_neg hb] at q;exact q
theorem pO (ho:JC g T) (hT:∀i∈T,∀j,n[i]?≠am (am j)) (lg:JC g1 T1) (hT1:∀i∈T1,i∉T/\∀j,n[i]?≠am (am j)) (h:DI K wi ρ M λds M1=>∃(u:PyData->List PyData) (f:PyData->PyData->PyData),(ds.flatMap λd=>(u d).map (f d)).length < aB/\(∀d∈ds,∀t,DG K g d (G8 n ρ) t λL M2=>M2=t/\DI K su L M2 λes M3=>M3=t/\es=u d/\∀e∈es,∀t,DG K g1 e L t λZ M4=>M4=t/\DE K te Z M4 λy M5=>y = .d (f d e)/\M5=t)/\Q (.d (.list (ds.flatMap λd=>(u d).map (f d)))) M1) :
   DE K (pK n wi g su g1 te) ρ M Q:=λσ H QQ R k=>
 h σ H _ R λJ ds H1 M1 X t1 wd dm=>by
   obtain⟨u,f,hsz,he,q⟩:=dm;intro A hA;obtain⟨oA,sA⟩:=MC X hA (DVs.nil (K:=K) (H:=H1) (W:=M1.W));generalize hF:(λd=>(u d).map (f d))=F at hsz q;refine#[λi m ys c=>m=ds.length - i/\i<=ds.length/\c A=am (.lst ys)/\OA K c (M1.put A (.l ((ds.take i).flatMap F)))/\Step K M1 (M1.put A (.l ((ds.take i).flatMap F))) H1 c,#[_,rfl,xR _,AE,oA,sA],?_];rintro i m ys c ⟨rfl,hi,wt,D,v⟩;refine#[wt,?_];by_cases cv:i < ds.length
   . refine .inr #[wd.go i c _ cv D v,λx H3 y=>?_];obtain⟨yl,ff,d,e1,e2⟩:=wd.yld i c _ x H3 D v cv y;have Rc:Rel K _ (G8 n ρ) (L2.capt n σ) H3:=((R.step X t1).step yl (v.trans ff)).capt;refine ho _ _ _ _ (he d (yN e1) _ (L2.capt n σ) H3 x _ Rc e2 λZ M3 r H4 R3 gu #[eM,b3] hext=>#[λp v' O=>?_,?_]);. obtain⟨j,u,f2⟩:=FE O;rw[hext p λhm=>hT p hm j u];exact O
     . subst eM;unfold sQ;refine L2.gC ?_;refine b3 r H4 _ R3 ?_;rintro J1 es H5 M5 o5 t5 Y ⟨E_,Mz,oo⟩;subst E_;have Hr:F d=es.map (f d):=by rw[<-hF,Mz]
       have Hs:=jA F e1;have Mw:((ds.take i).flatMap F).length+es.length < sizeLine:=by have:=pN F ds (i+1);rw[Hs,yY,Hr,zX] at this;lia
       refine#[λj m S=>m=es.length - j/\j<=es.length/\OA K S (M1.put A (.l ((ds.take i).flatMap F++(es.take j).map (f d))))/\Step K (M1.put A (.l ((ds.take i).flatMap F))) (M1.put A (.l ((ds.take i).flatMap F++(es.take j).map (f d)))) H5 S,#[_,rfl,xR _,by simpa using o5,by simpa using Step.refl],?_];rintro j m S ⟨rfl,hj,I,U⟩;by_cases hjl:j < es.length
       . refine .inr #[Y.go j S _ hjl I U,λx1 H7 y1=>?_];obtain⟨M_,xk,e,Ht,Ey⟩:=Y.yld j S _ x1 H7 I U hjl y1;have R7:Rel K _ Z r H7:=R3.step M_ ((t5.trans U).trans xk);refine lg _ _ _ _ (oo e (yN Ht) _ r H7 x1 _ R7 Ey λρ4 M8 σ4 H8 R8 st8 #[Na,b8] hext1=>#[λp v' O=>?_,?_])
         . rw[hext1 p λhm=>?_];. exact O
           . obtain⟨hn,hc⟩:=hT1 p hm;rw[hext p hn] at O;obtain⟨j',Nb,_⟩:=FE O;exact hc j' Nb
         . subst Na;refine b8 σ4 H8 _ R8 ?_;rintro y H9 z M9 o9 s9 Nc ⟨ez,Nd⟩;subst ez Nd;obtain⟨G,B,b⟩:=o9 A _ zU;obtain⟨w1,w2⟩:=E5 o9 zU (b.append (DVs.cons s9 DVs.nil));rw[yI] at w1 w2;have e3:(ds.take i).flatMap F++(es.take j).map (f d)++[f d e]=(ds.take i).flatMap F++(es.take (j+1)).map (f d):=by rw[a2K,Ht,b5J];simp
           rw[e3] at w1 w2;refine#[G,B,?_,es.length - (j+1),by lia,rfl,hjl,w1,(((U.trans xk).trans st8).trans Nc).trans w2];rw[b.length,yY,zX,a1X];lia
       . have e:j=es.length:=by lia
         subst e;obtain⟨G,B,b⟩:=I A _ zU;rw[a1Q,<-Hr,<-Hs] at I U;exact .inl #[Y.stop S _ I U,ds.length - (i+1),G,by lia,rfl,cv,B,I,(((v.trans ff).trans gu).trans t5).trans U]
   . have e:i=ds.length:=by lia
     subst e;refine .inl #[wd.stop c _ D v,?_];obtain⟨G,B,b⟩:=D A _ zU;have e4:=yG (o:=.l ((ds.take ds.length).flatMap F)) (X.none hA);have bx:Step K (M1.put A (.l ((ds.take ds.length).flatMap F))) M1 c c:=by
       have:=(#[B7 (eF (N:=M1.put A (.l ((ds.take ds.length).flatMap F))) (A:=A))]:Step K _ _ c c)
       rwa [e4] at this
     have Nf:OA K c M1:=by have:=D.sub (eF (A:=A));rwa [e4] at this
     refine k _ c (.d (.list (ds.flatMap F))) M1 Nf ?_ ((t1.trans v).trans bx) q;unfold SI DV;rw[a1Q] at b bx;exact#[A,G,rfl,.inl #[λw=>w (X.none hA),.inl B],b.grow bx.grow]
end
end DL
namespace DL
open PySem PySem.Spec L2 XC
theorem YW {S L:Type}{F:S->List L}{n:Nat}:∀{l:List S},(∀x∈l,(F x).length<=n)->(l.flatMap F).length<=l.length*n
 | [],_=>by simp
 | x::r,h=>by rw[a9J,yY,yR,Nat.succ_mul];have:=YW (l:=r) λy hy=>h y (yV _ hy);have:=h x (by simp);omega
end DL
namespace DL
open PySem PySem.Spec L2 XC
section
theorem YX:∀{A B:List Deed}{w:List Th},CB w (A++B)↔CB w A/\CB (JH w A) B
 | [],_,_=>by simp[CB,JH]
 | D::A,B,w=>by show goD w D/\CB (GF w D) (A++B)↔(goD w D/\CB (GF w D) A)/\CB (JH (GF w D) A) B;rw[YX (A:=A),and_assoc]
end
end DL
namespace DL
open PySem PySem.Spec L2
section
theorem SJ (ho:JC g T) (hT:∀i∈T,∀j,m[i]?≠am (am j)) (h:DI K wi ρ M λds M1=>ds.length < aB/\∃(c:PyData->Bool) (f:PyData->PyData),(∀d∈ds,∀A acc e,M1 A=ap->e=M1.put A (.l acc)->DG K g d (G8 m ρ) e λp o=>o=e/\DT K G p o λb r=>r=e/\b=c d/\(c d=av->DE K I p r λy O=>y = .d (f d)/\O=e))/\∀A,M1 A=ap->Q (.loc A) (M1.put A (.l ((ds.filter c).map f)))) :
   DE K (OG m wi g G I) ρ M Q:=by
 refine oG ho hT λu H R Rl k=>h u H R Rl λJ ds U M1 o1 t1 wd q=>k J ds U M1 o1 t1 wd ?_;obtain⟨hsz,c,f,he,q⟩:=q;refine#[hsz,λA hA=>#[λk acc e=>acc=((ds.take k).filter c).map f/\e=M1.put A (.l acc),#[by simp,rfl],λk acc e #[n,t]=>#[by rw[t];exact zU,?_],λk d acc e hd #[n,t]=>?_,λacc e #[n,t]=>?_]];. rw[n,zX];exact zN (yJ _ _) (by rw[a1X];lia)
 . have hm:d∈ds:=yN hd;intro u H v QQ R dv kk;refine he d hm A acc e hA t u H v QQ R dv λS o x H' Z st dm=>kk S o x H' Z st λN X QQ2 R2 k2=>?_;obtain⟨eM,q2⟩:=dm;refine q2 N X QQ2 R2 λb Y r o3 ff ua=>k2 b Y r o3 ff ?_;obtain⟨L,z,q3⟩:=ua;have D:(ds.take (k+1)).filter c=(ds.take k).filter c++(if c d then [d] else []):=hX c ds k d hd;cases hb:c d with
   | false=> rw[hb] at z;subst z;refine L2.kY #[?_,by rw[L,t]];rw[D,hb,n];simp
   | true=>
     rw[hb] at z;subst z;refine L2.gC ?_;refine UU (q3 hb) λy O #[ey,B]=>#[f d,ey,by rw[B,t];exact zU,?_,by rw[B,t,yI]]
     rw[D,hb,n];simp
 . rw[t,n,a1Q];exact q A hA
end
end DL
namespace XC
open PySem PySem.Spec L2
open PyProof.Rows (envOfC AllBare)
structure RoomA (k:Nat) (A:bv):Prop where
 dp:A.depth+3*k+5 < recursionLimit
 un:A.units+16*k+200 < ef
theorem RoomA.of (r:Room k A):RoomA k A:=#[r.dp,r.un]
theorem RoomA.make (r:RoomA (k+1) A) (C:Addr) (e:List aw) (S:List (Str×aw)):RoomA k (A.under (.builtin "type.__call__" #[.ref C::e,S])):=#[by rw[PP];have:=r.dp;lia,by rw[PQ];have:=r.un;lia]
structure FnOkA (P:bh) (w:bd) (K:Frg) (mg:Str->Option aw) (base:ca) (k:Nat) (f:Addr) (fd:ee) (ps:List Str) (sp:Sp):Prop where
 len:∀vs H Q E,sp vs H Q E->vs.length=ps.length
 run:∀(A:bv) (outer:List im) (s:ax) (H:Hp) (args:Args) (us:List aw) (vs:List V) (Q:VK) (E:XK),RoomA k A->Env0 P w K mg base A outer s H->BindsTo s fd args (ps.zip us)->Vals vs us->sp vs H Q E ->
   codeAny (model P w) A (.call (.ref f) args) (CR CX0 outer P w H s Q E) s
def cxA (P:bh) (w:bd) (K:Frg) (mg:Str->Option aw) (base:ca) (N:List Str) (qual:Str) (scope:fc) (f:Addr) (cd:aw) (A:bv) (outer:List im) (s:ax) (H:Hp) (E:XK):Cx:={ IA CX0 P w K mg base N qual scope f cd A outer s H E with calm:=ay,xe:=λ_ _=>False }
theorem A1z {P:bh}{w:bd}{K:Frg}{mg:Str->Option aw}{base:ca}{k:Nat}{f:Addr}{name qual:Str}{params:Arguments}{body:List ew}{scope:fc}{g kV doc h cdv ct X:aw}{c Y:Option Addr} {osl:Array (Option aw)}{N ps:List Str}{sp:Sp}(U:K.lookup f=am #[X,Y,.func (a5Q name qual params body scope g kV doc h c cdv ct),osl]) (M:a9K K cdv qual=av) (S:FnScope N ps scope) (len:∀vs H Q E,sp vs H Q E->vs.length=ps.length) (j:∀(A:bv) (outer:List im) (s:ax) (H:Hp) (vs:List V) (Q:VK) (E:XK),sp vs H Q E->∃t,PSs (cxA P w K mg base N qual scope f cdv A outer s H E) body t/\t { nx:=λ_ H'=>Q .non H',rt:=Q } (start N vs) H) :
   FnOkA P w K mg base (k+1) f (a5Q name qual params body scope g kV doc h c cdv ct) ps sp:=by
 refine#[len,λA outer s H args us vs Q E hr O hb r D=>?_];have G:=len _ _ _ _ D;have KX:K.In s.heap:=O.mod.kin.keeps λb o e=>(O.bs b o e).1;have lim:s.heap.NoLimit:=O.mod.nolimit.keeps λb o e=>(O.bs b o e).1;have Z:∀y∈ps.zip us,scope.names.lookup y.1=am .local\/(scope.names.lookup y.1=am .cell/\((cellsFrom (s.heap.objs.size+1) scope.names []).lookup y.1).isSome=av):=by
   rintro⟨n,v⟩ hy;rcases S.par n (b3J hy).1 with q | q;. exact .inl q
   . exact .inr #[q,b9X _ _ _ (.inl q)]
 refine codeAny_call_function (by have:=hr.dp;lia) (KX _ _ U) rfl S.co S.gen rfl (PySem.W.codeRec_of KX M) (hb _ _ _ _ ?_);refine wpAny_newFunctionEnv_cells S.kind Z λenv B p x=>?_;subst B;refine#[lim.keeps x.toInCall.keep,codeAny_func ?_];obtain⟨t,L,hq⟩:=j A outer s H vs Q E D;have J:Inv (IA CX0 P w K mg base N qual scope f cdv { A with handled:=ap } outer s H E) [] (start N vs) H p:=SS S rfl #[O.frames,O.mod,O.bs,O.bsz,O.funs,O.frf,O.hok,O.bare] G r x;have I:Inv (cxA P w K mg base N qual scope f cdv A outer s H E) [] (start N vs) H p:=#[#[J.ok.mod,J.ok.kind,J.ok.glob,J.ok.blt,J.ok.above,J.ok.inj,J.ok.has,J.ok.cab,(λz=>nomatch z),Around.frames_deeper O.frames,J.ok.stk,J.ok.exf,J.ok.bs,J.ok.bsz,J.ok.noex,J.ok.exfs,J.ok.funs,J.ok.frf],J.os,J.bare,J.base,J.loc,J.cell,J.free,J.freeC,J.pin,J.hok,J.len]
 refine bc (L [] p (start N vs) H _ I hq) (λT s' hs=>?_) λe s' hs=>hs.elim;have fin:∀{i:St}{H':Hp}{v:V}{u:aw},Inv (cxA P w K mg base N qual scope f cdv A outer s H E) [] i H' s'->RelV v u->Q v H'->CE outer P w H s Q u s':=
   λ{i H' v u} J m q=>#[v,H',J.os,J.bare,J.base,J.hok,m,q]
 cases T with
 | ret u=> obtain⟨v,i,H',J,m,q⟩:=hs;exact fin J m q
 | next=> obtain⟨i,H',J,q⟩:=hs;exact fin (v:=V.non) (u:=a0V) J rfl q
 | brk=> obtain⟨_,_,_,q⟩:=hs;exact a6W q
 | cont=> obtain⟨_,_,_,q⟩:=hs;exact a6W q
theorem pP (F:Fun K "__init__" qual st f o) (g:FnScope ["self", pn] ["self", pn] (AB st)) (hb:BB st=[.Assign [.Attribute (.Name "self" D) fn i] (.Name pn n) I]) (c:XCls K C S (.ref f)) (cs:XSet K C fn) (nd:(["self", pn]:List Str).Nodup) (hs:∀env:im,gj (.Name pn n) (am (.Attribute (.Name "self" D) fn i)) I.line env=pure ay) (h0:∀X:Cx,X.N=(["self", pn]:List Str)->X.env.scope=AB st->PE X (.Name "self" D) (WO 0)) (h1:∀X:Cx,X.N=(["self", pn]:List Str)->X.env.scope=AB st->PE X (.Name pn n) (WO 1)):FnOkA P w K mg base 1 f o ["self", pn] (F4 C fn):=by obtain⟨u,x,kV,doc,y,j,cdv,q,osl,rfl,p,m⟩:=F.ex;refine A1z (k:=0) p m g (by rintro b H Q E ⟨e,v,t,h,_⟩;rw[h];rfl) λA outer s H b Q E Y=>?_;obtain⟨e,v,t,U,z,hq⟩:=Y;subst U;rw[hb];refine#[_,LV (dN (C:=C) (S:=S) (fn:=fn) c cs (h0 _ rfl rfl) (h1 _ rfl rfl) (hs _)),?_];exact#[v,rfl,.ref e,rfl,e,t,rfl,z,λd hd r=>hq d hd r]
theorem YY (o:X.stack=X.env::X.outer) (G:X.env.frame=am X.env.locals):PassesOwnAt (model X.prog X.w) (X.A.mark h) X.A X.env (Fly X R):=λe s' N=>by
 obtain⟨a,T,cls,Y,k,i,H,Z,rfl,I,⟨x,D⟩,c,p,L,r⟩:=N;have u:(X.A.mark h).frames=am (X.env::X.outer):=by rw[<-o];exact I.ok.frames
 have O:s'.heap.FunFrames X.base (X.env::X.outer):=by rw[<-o];exact I.stack
 refine JJ u O G x D λn U g S f=>?_;have J:(X.env::X.outer).filterMap (·.frame)=frs X.stack:=by rw[o];rfl
 rw[J] at f;have j:Inv X [] i H { s' with heap:=n }:=BW I f λb hb=>by
   rcases yX.mp hb with q | q;. rw[q];exact c.ch
   . exact(p b (by cases T with | none=>simp at q | some t=>simp at q;rw[q])).ch
 have m:Loose X H U:=S.elim (λz=>p U z) λz=>Loose.of I z.2 (I.hok.fresh z.2);obtain⟨oe,vs,y,hc,uc,hd,h0,h1,sr,_⟩:=id g;unfold cameBackBy;refine zZ (bf (s:={ s' with heap:=n }) y hd h1 ?_);rw[if_neg (by simp),G];refine QO (s:={ s' with heap:=n }) g λv B Q=>?_;have M:Inv X [] i H { s' with heap:=v }:=BW (s:={ s' with heap:=n }) (ch:=[U]) j (Q.mono (λb z=>absurd z (by simp)) λb z=>z) λb hb=>by
   have:b=U:=by simpa using hb
   rw[this];exact m.ch
 exact#[a,am U,cls,Y,k,i,H,_,rfl,M,#[B,.inr #[by simp,rfl]],c,λt e=>(by cases e;exact m),L,r]
theorem SK:entryFor table "proto.unchain"=am Builtin.«proto.unchain»:=entryFor_of_tree (by kernel_rfl)
section
variable {prog:bh}{w:bd}{A:bv}{E:aw->ax->Prop}{nm q:Str}{C N:Addr}{bs bm:List aw}{hdct:Bool}{sn:List Str}{sub:List aw}{ab:Bool}{col:Option Bool}{dd:Option Addr}{k0 k1 k2 k3 k5:Option aw}{newId:String}
abbrev pQ (C t a:Addr) (D:Option Addr):Obj:={ cls:=.ref C,dict:=D,data:=.fields (y9 [.ref t,.none,.ref a,.none,.bool av,.none]) }
theorem bP (hbase:bm.contains (.type "BaseException")=av) (hh:A.handled=am (.ref a)) (hc:∀(s:ax) (b:aw->ax->Prop),b .none s->wpAny (model prog w) A c b E s) (hx:wpAny (model prog w) A x (λv n=>∃e t D o vs,v = .ref e/\e≠a/\n.heap.get? C=am (excClassObj nm q C N bs bm hdct sn sub ab col dd k0 k1 k2 k3 k5 newId)/\C≠e /\
     n.heap.get? e=am { cls:=.ref C,dict:=D,data:=.fields (y9 [.ref t,.none,.none,.none,.bool ay,.none]) }/\n.heap.get? a=am o/\o.data = .fields vs/\vs[2]?=am .none /\
     ∀h',h'.get? e=am (pQ C t a D)->Moved [] [e] n.heap h'->E (.ref e) { n with heap:=h' }) E s) :
   wpAny (model prog w) A (raiseStmt env (am x) (am c)) Q E s:=by
 have M:(a0X C::bm).contains (.type "BaseException")=true:=by rw[a1K,hbase,Bool.or_true]
 unfold raiseStmt;refine zZ (bc hx (λv n j=>?_) λ_ _ x=>x);obtain⟨e,t,D,o,vs,rfl,p,hC,B,z,y,k,u,hE⟩:=j;obtain⟨hp,g,d,S,I⟩:=n;refine zZ (bq (hc _ _ (zZ (zY ?_))));repeat (first | with_reducible refine a0 z ?_ | with_reducible refine a0 hC ?_ | (with_reducible refine br hC ?_;rw[M]) | wp_step)
 have G:((y9 [a0X t,.none,.none,.none,.bool ay,.none]):Array aw).size=6:=rfl;have O:=E9 (h:=hp) (a:=e) (·.setIfInBounds 3 a0V) z rfl [];have f:(hp.update e (b2Z λx=>x.setIfInBounds 3 a0V)).get? e=am { cls:=.ref C,dict:=D,data:=.fields (y9 [.ref t,.none,.none,.none,.bool ay,.none]) }:=a3Q _ z rfl;have T:=E9 (a:=e) (·.setIfInBounds 4 (Value.bool av)) f rfl [];have i:((hp.update e (b2Z λx=>x.setIfInBounds 3 a0V)).update e (b2Z λx=>x.setIfInBounds 4 (Value.bool av))).get? e=am { cls:=.ref C,dict:=D,data:=.fields (y9 [.ref t,.none,.none,.none,.bool av,.none]) }:=a3Q _ f rfl;have r:=O.trans T;generalize ((hp.update e (b2Z λx=>x.setIfInBounds 3 a0V)).update e (b2Z λx=>x.setIfInBounds 4 (Value.bool av)))=m at i r;have ha2:m.get? a=am o:=r.keep a o y (by simp) (by simp[a4K p]);unfold raiseNew;refine zZ (wpAny_handled ?_);rw[hh];dsimp only;rw[if_pos (show(a0X a != a0X e)=av by simp[a4K p])];refine zZ (bq (wpAny_runValue (codeAny_builtin SK ?_)));show wpAny _ _ (iv (.ref a) 2 >>= _) _ _ _;refine zZ (bf ha2 k u ?_);rw[if_pos (show(a0V==a0V)=av by decide)];refine(show wpAny _ _ (pure _) _ _ _ from zY ?_);refine zZ (show wpAny _ _ (setField (.ref e) 2 (.ref a)) _ _ _ from dV (s:=#[m,g,d,S,I]) i rfl (by show 2 < 6;decide) (wpAny_throw ?_));refine hE _ (a3Q _ i rfl) (r.trans (E9 (a:=e) (·.setIfInBounds 2 (a0X a)) i rfl []))
end
def vI (K:Frg) (D1 D2:Addr) (cls:aw):Prop:=cls = .ref D1\/cls = .ref D2
def A2A (dd:Option Addr) (H:Hp):Prop:=¬nQ dd H
def pR (K:Frg) (D1 D2 C:Addr) (n:(St->XK)->TS) (t:TA) (R:St->XK):TS:=λc i H=>n (λb cls Y H'=>vI K D1 D2 cls/\A2A Y H' /\∀p,H' p=ap->t b (upd H' p (.tup [.ref D1,.ref D2])) λo e=>∃v,o=[v]/\∀d,e d=ap->R b (.ref C) (am d) (upd e d (.xd [(a0Q "number", v)]))) c i H
theorem A2B (Y:XCls K D1 i i1) (Z:XCls K D2 B i2) (X:K.In s.heap) (z:s.heap.get? e=am o) (hc:o.cls = .ref D1\/o.cls = .ref D2) (u:s.heap.IsTuple p (y9 [.ref D1,.ref D2])) (q:Q av s):wpAny (model prog w) A (excMatches (.ref e) (.ref p)) Q E s:=by
 obtain⟨nm,q',N,bs,sn,sub,L,col,dd,k0,k1,k2,k3,k5,v⟩:=Y.lk;obtain⟨M,D,T,G,J,O,x,S,jc,j0,j1,j2,j3,j5,b⟩:=Z.lk;obtain⟨hp,g,d,t,os⟩:=s;have hC:=X _ _ v;have hS:=X _ _ b;have h:(a0X D1::a0X i::bmV).contains (.type "BaseException")=true:=by rw[a1K,a1K];simp
 have hb2:(a0X D2::a0X B::bmV).contains (.type "BaseException")=true:=by rw[a1K,a1K];simp
 obtain⟨⟨c,dt,U,sl⟩,ho,j,n,m⟩:=u;simp only at j m;subst j m;have f:=AutoSeq1.sub_tuple_tuple;unfold excMatches;have I:hp.get? e=am o:=z;have r:(a0X D1::a0X i::bmV).contains (.ref D1)=true:=by simp
 have k:(a0X D2::a0X B::bmV).contains (.ref D2)=true:=by simp
 rcases hc with hc | hc
 . repeat (first | with_reducible refine a0 ho ?_ | (with_reducible refine a0 I ?_;rw[hc]) | with_reducible refine a0 hC ?_ | with_reducible refine a0 hS ?_ | (with_reducible refine br hC ?_;first | rw[h] | rw[r]) | (with_reducible refine br hS ?_;rw[hb2]) | wp_step)
   exact q
 . by_cases hDD:D1=D2
   . subst hDD;repeat (first | with_reducible refine a0 ho ?_ | (with_reducible refine a0 I ?_;rw[hc]) | with_reducible refine a0 hC ?_ | (with_reducible refine br hC ?_;first | rw[h] | rw[r]) | wp_step)
     exact q
   . by_cases hSD:B=D1
     . have y:(a0X D2::a0X B::bmV).contains (.ref D1)=true:=by simp[hSD]
       repeat (first | with_reducible refine a0 ho ?_ | (with_reducible refine a0 I ?_;rw[hc]) | with_reducible refine a0 hC ?_ | with_reducible refine a0 hS ?_ | (with_reducible refine br hC ?_;rw[h]) | (with_reducible refine br hS ?_;first | rw[hb2] | rw[y]) | wp_step)
       exact q
     . have y:(a0X D2::a0X B::bmV).contains (.ref D1)=false:=by simp[hDD,a4K hSD]
       repeat (first | with_reducible refine a0 ho ?_ | (with_reducible refine a0 I ?_;rw[hc]) | with_reducible refine a0 hC ?_ | with_reducible refine a0 hS ?_ | (with_reducible refine br hC ?_;rw[h]) | (with_reducible refine br hS ?_;first | rw[hb2] | rw[y] | rw[k]) | wp_step)
       exact q
end XC
namespace XC
open PySem PySem.Spec L2
open PyProof.Rows (envOfC AllBare)
theorem R6 {e:St}(I:Inv X pins e H s) (h1:s.heap.get? a=am o) (t:H a=ap) (n:a≠X.env.locals) (i:a∉X.fs) (r:∀v,o.data≠.cell v):Inv X ((a,o)::pins) e H s:=#[I.ok,I.os,I.bare,I.base,I.loc,I.cell,I.free,I.freeC,λp hp=>by
   rcases yW.mp hp with q | q;. exact I.pin p (yW.mpr (.inl q))
   . rcases yX.mp q with rfl | q;. exact#[h1,t,n,i,r]
     . exact I.pin p (yW.mpr (.inr q)),I.hok,I.len]
theorem vJ (h:SP X pins D f s'):SP (X.wish E) pins D f s':=by
 cases f with
 | next=>obtain⟨b,H',I,q⟩:=h;exact#[b,H',I.wish E,q]
 | brk=>obtain⟨b,H',I,q⟩:=h;exact#[b,H',I.wish E,q]
 | cont=>obtain⟨b,H',I,q⟩:=h;exact#[b,H',I.wish E,q]
 | ret u=>obtain⟨v,b,H',I,r,q⟩:=h;exact#[v,b,H',I.wish E,r,q]
section
variable {Y:Cx}{R:St->XK}{C S f a:Addr}{x:Str}{np ag pos:eH}{arg:bn}{t:TA}{k:Nat}{fd:ee}{ps:List Str}
theorem jB {p:St}(c:XCls Y.K C S (.ref f)) (wb:b5Q Y.K (.ref f)=av) (F:FnOkA Y.prog Y.w Y.K Y.mg Y.base k f fd ps (F4 C (a0Q "number"))) (hb:Binds Y.K fd ps []) (hr:RoomA (k+1) Y.A) (hg:Gl Y x) (hm:Y.mg x=am (.ref C)) (ha:PA (IJ Y a) [arg] t) (I:Inv (IJ Y a) ((a,y)::pins) p H s) (Nl:Y.Ok) (hd:y.data = .fields vs) (h2:vs[2]?=am .none) (h:t p H λD i=>∃v,D=[v]/\∀d,i d=ap->R p (.ref C) (am d) (upd i d (.xd [(a0Q "number", v)]))) (du:(x==("__debug__":Str))=ay) (he:starEach [arg] Y.env=[(ay,eval arg Y.env)]) :
   wpAny (model Y.prog Y.w) (Y.A.mark (am (.ref a))) (exec (.Raise (am (.Call (.Name x np) [arg] [] ag)) (am (.Constant .none ck cp)) pos) Y.env) Q (Fly Y R) s:=by
 have FB:=b6Z;obtain⟨nm,q,N,bs,sn,sub,ab,col,dd,k0,k1,k2,k3,k5,lk⟩:=c.lk;rw[arm_exec_Raise];refine zZ (bt (bP (C:=C) (a:=a) (hbase:=MS (S:=S)) (hh:=rfl) (nm:=nm) (q:=q) (N:=N) (bs:=bs) (hdct:=av) (sn:=sn) (sub:=sub) (ab:=ab) (col:=col) (dd:=dd) (k0:=k0) (k1:=k1) (k2:=k2) (k3:=k3) (k5:=k5) (newId:= "ValueError.__new__") ?_ ?_));. intro s Q' hq;refine zZ (PyProof.Rows.Constant_none ?_);refine zZ (bt ?_);exact zY hq
 refine bc (E:=λ_ _=>False) ?_ (λ_ _ z=>z) λ_ _ z=>z.elim;refine zZ (thn (c0 (G5 I (X:=IJ Y a) hg hm (b6K (h₀:=Y.base) I.ok.mod.kin c.kp (Q:=λv n=>∃e t L oa vs,v = .ref e/\e≠a/\n.heap.get? C=am (excClassObj nm q C N bs (.ref S::bmV) av sn sub ab col dd k0 k1 k2 k3 k5 "ValueError.__new__")/\C≠e /\
     n.heap.get? e=am { cls:=.ref C,dict:=L,data:=.fields (y9 [.ref t,.none,.none,.none,.bool ay,.none]) }/\n.heap.get? a=am oa/\oa.data = .fields vs/\vs[2]?=am .none /\
     ∀T,T.get? e=am (pQ C t a L)->Moved [] [e] n.heap T->Fly Y R (.ref e) { n with heap:=T }) (thn (ha ag _ s p H _ I h) λD s1 #[Qg,i,m,r,v,ev,q1]=>#[m.kIn,?_]) he rfl) du)) λv s3 h3=>zZ (bt (zY h3)));subst ev;obtain⟨u,rfl,ru⟩:∃u,D=[u]/\RelV v u:=by cases r with | cons a b=>cases b;exact#[_,rfl,a]
 have hC:=m.kIn _ _ lk;have Nn:=(m.pin (a,y) (yW.mpr (.inr (a0Z ..)))).1;obtain⟨hp,g,d,tk,os⟩:=s1;have kk:=D5 (h:=hp) (C:=C) (rest:=[u]);have wu:=P6 (h:=hp) (C:=C) (rest:=[u]);have O:Inv (IJ Y a) ((a,y)::pins) p (upd i (hp.objs.size+1) (xo (hp.objs.size+1) C hp.objs.size ap)) #[MR hp C [u],g,d,tk,os]:=m.laid (a:=hp.objs.size+1) (t':=tk) kk (a4V _) (nU wu);have Fg:i (hp.objs.size+1)=none:=m.hok.fresh (a4V _);have r2:Vals [V.ref (hp.objs.size+1),v] [a0X (hp.objs.size+1),u]:=.cons rfl (.cons ru .nil);have U:F4 C (a0Q "number") [V.ref (hp.objs.size+1),v] (upd i (hp.objs.size+1) (xo (hp.objs.size+1) C hp.objs.size ap)) (λw G=>w = .non/\∃o,i o=ap/\o≠hp.objs.size+1/\G=upd (upd i o (.xd [(a0Q "number", v)])) (hp.objs.size+1) (xo (hp.objs.size+1) C hp.objs.size (am o))) (λ_ _ _=>False):=by refine#[_,v,hp.objs.size,rfl,AE,λo Z J=>#[rfl,o,by rw[AG J] at Z;exact Z,J,?_]];funext b;unfold upd;by_cases z:b=hp.objs.size+1 <;> simp[z]
 have hl:([a0X (hp.objs.size+1),u]++[]).length=ps.length:=by have:=F.len _ _ _ _ U;simpa using this
 have Np:RoomA (k+1) (IJ Y a).A:=#[hr.dp,hr.un]
 refine aZ FB P7 VE VF hC (c0K m.kIn c.init) (λself=>PySem.W.bind_fn m.kIn self (beq_iff_eq.mp wb)) (xM (F.run _ Y.stack _ _ #[[a0X (hp.objs.size+1),u],[]] ([a0X (hp.objs.size+1),u]++[]) _ _ _ (Np.make C [u] []) (O.env0.make C [u] []) (hb _ [a0X (hp.objs.size+1),u] O.kIn hl) r2 U) λr' s' B=>?_) (by show 1<=aB;decide);rcases r' with e | (w | _ | _ | _) <;> first | exact B.elim | skip
 obtain⟨w',G,M,iy,rfl,o,Bp,hd2,rfl⟩:=O.after B;have hx:=(M.hok _ _ AE).1;have ud:(upd i o (.xd [(a0Q "number", v)])) (hp.objs.size+1)=none:=by rw[AG (a4K hd2)];exact Fg
 have Cz:(IJ Y a).s₀.heap.objs.size<=hp.objs.size+1:=zN m.sz (a4V _);have I4:=VC (QR M ud Cz);have Fp:=(M.pin (a,y) (yW.mpr (.inr (a0Z ..)))).1;have j:Loose (IJ Y a) (upd i o (.xd [(a0Q "number", v)])) (hp.objs.size+1):=Loose.of m (a4V _) ud;refine#[iy,hp.objs.size+1,hp.objs.size,am o,y,vs,rfl,λe=>?_,M.kIn _ _ lk,λe=>?_,hx,Fp,hd,h2,λT Nq m3=>?_];. have:=zM Nn;have e':a=hp.objs.size+1:=e.symm;rw[e'] at this;exact absurd this (by simp)
 . have:=zM hC;rw[e] at this;exact absurd this (by simp)
 . have I5:Inv (IJ Y a) [] p (upd i o (.xd [(a0Q "number", v)])) { s' with heap:=T }:=BW (ch:=[hp.objs.size+1]) I4 (m3.mono (λb z=>absurd z (by simp)) λb z=>z) λb hb=>by
     have:b=hp.objs.size+1:=by simpa using hb
     rw[this];exact j.ch
   exact#[hp.objs.size+1,ap,.ref C,am o,.ref a,p,_,.none,rfl,FP Nl I5,#[#[_,_,Nq,rfl,rfl,rfl,rfl,rfl],.inl rfl],#[j.above,j.loc,j.cel,j.fre,j.pn],λt e=>(by cases e),.inr #[o,v,rfl,AE],q1 o Bp]
theorem vK {D1 D2 S1 S2:Addr}{i1 i2:aw}{body:List ew}{te:bn}{zc lp:eH}{ck:Nat}{cp:eH}{tb:(St->XK)->TS}(u:Y.stack=Y.env::Y.outer) (L:Y.env.frame=am Y.env.locals) (c1:XCls Y.K D1 S1 i1) (c2:XCls Y.K D2 S2 i2) (c:XCls Y.K C S (.ref f)) (wb:b5Q Y.K (.ref f)=av) (F:FnOkA Y.prog Y.w Y.K Y.mg Y.base k f fd ps (F4 C (a0Q "number"))) (Fq:Binds Y.K fd ps []) (hr:RoomA (k+1) Y.A) (hg:Gl Y x) (Z:Y.mg x=am (.ref C)) (Nr:∀a,PE (IJ Y a) te (A0n (WT (tC (.ref D1)) (WT (tC (.ref D2)) A0m)))) (ha:∀a,PA (IJ Y a) [arg] t) (hb:∀(pn:List (Addr×cr)) (R':St->XK),PSs ((pinned Y pn).wish (Fly (pinned Y pn) R')) body (tb R')) (du:(x==("__debug__":Str))=false:=by decide) (he:starEach [arg] Y.env=[(ay,eval arg Y.env)]:=by rfl) :
   PS (Y.wish (Fly Y R)) (.Try body [.ExceptHandler (am te) ap [.Raise (am (.Call (.Name x np) [arg] [] ag)) (am (.Constant .none ck cp)) zc] lp] [] [] pos) (pR Y.K D1 D2 C tb t R):=by
 intro pins s σ H D' I0 h;have I:=I0.unwish;have ok:=I.ok;refine wpAny_Try_except ?_;have bg:=hb (Y.pn++pins) _ [] s σ H D' ((dO I).wish _) h;refine bc bg (λfl j q=>?_) λe j q=>?_
 . have M:=vJ (E:=Fly Y R) (YB ok q.unwish);cases fl with
   | next=>exact eN M
   | ret v=>exact M
   | brk=>exact M
   | cont=>exact M
 . obtain⟨a,T,cls,dd,ar,n,H',fl,rfl,J,⟨x1,qc⟩,la,lT,lx,ya,hE,r⟩:=q;have Nt:ar = .none:=lx.resolve_right hE;subst Nt;have I1:=FG ok J;have fr:Y.A.frames=am (Y.env::Y.outer):=by rw[<-u];exact ok.frames
   have hl:j.heap.FunFrames Y.base (Y.env::Y.outer):=by rw[<-u];exact I1.stack
   refine JJ fr hl L x1 qc λX U x2 n2 m2=>?_;have yy:(Y.env::Y.outer).filterMap (·.frame)=frs Y.stack:=by rw[u];rfl
   rw[yy] at m2;have N:∀b,Loose (pinned Y (Y.pn++pins)) H' b->H' b=ap/\Y.s₀.heap.objs.size<=b/\b≠Y.env.locals/\(∀x c,Y.env.cells.lookup x=am c->c≠b)/\∀p∈Y.pn++pins,p.1≠b:=λb l=>#[l.fre,l.above,l.loc,l.cel,l.pn]
   have I2:Inv Y pins n H' { j with heap:=X }:=BW I1 m2 λb hb=>by
     rcases yX.mp hb with q | q;. rw[q];exact N _ la
     . exact N _ (lT b (by cases T with | none=>simp at q | some t=>simp at q;rw[q]))
   have m:=N _ (n2.elim (λz=>lT U z) λz=>Loose.of (b:=U) J z.2 (J.hok.fresh z.2));refine HH (s:={ j with heap:=X }) x2 λy x3 m3=>?_;have I3:Inv Y pins n H' { j with heap:=y }:=BW (s:={ j with heap:=X }) (ch:=[U]) I2 (m3.mono (λb z=>absurd z (by simp)) λb z=>z) λb hb=>by
     have:b=U:=by simpa using hb
     rw[this];exact m
   have I4:=QS I3 a;obtain⟨q1,q2,q3,q4,q5⟩:=N _ la;obtain⟨g,vs,Hv,zu,Fs,B,Hw,Nu,sr,O,ts,ki,jd,Nv⟩:=id x3;have Nw:y.FunFrames Y.base (Y.env::Y.outer):=by rw[<-u];exact I3.stack
   have Cy:∀{b:Addr}{o:cr}{zs:Array aw},y.get? b=am o->o.data = .fields zs->b∉Y.fs:=λ{b o zs} e1 e2 Z=>by obtain⟨_,o',ho,Bk⟩:=Nw.mem (show b∈(Y.env::Y.outer).filterMap (·.frame) by rw[a2V,L];exact yV _ Z);rw[e1] at ho;injection ho with ho;subst ho;exact Bk zs e2
   have I5:Inv (IJ Y a) ((a,g)::(U,O)::pins) n H' { j with heap:=y }:=R6 (R6 I4 ki m.1 m.2.2.1 (Cy ki jd) (λv e=>by rw[jd] at e;cases e)) Hv q1 q3 (Cy Hv B) (λv e=>by rw[B] at e;cases e);refine wpAny_handleBy_cons (codeAny_handlers_test (bc (Nr a _ { j with heap:=y } n H' (λv H1=>∃p,v = .ref p/\H' p=ap/\H1=upd H' p (.tup [.ref D1,.ref D2])) I5 #[by show 2<=aB;decide,λp hp=>#[p,rfl,hp,rfl]]) (λc5 D q=>?_) λ_ _ z=>z.elim)) (by intro q;cases q);obtain⟨v5,H5,i,Nx,p,rfl,oq,rfl⟩:=q;cases Nx;have G:=(i.pin (a,g) (yW.mpr (.inr (a0Z ..)))).1;have hT5:=(i.pin (U,O) (yW.mpr (.inr (yV _ (a0Z ..))))).1;obtain⟨aa,Ny,Nz,_⟩:=i.tuple (a:=p) (xs:=[.ref D1,.ref D2]) (.inl (.inl AE));obtain rfl:aa=[.ref D1,.ref D2]:=by
     cases Ny with
     | cons a1 r1=>cases r1 with
       | cons a2 r2=>cases r2;cases a1;cases a2;rfl
   have vw:g.cls = .ref D1\/g.cls = .ref D2:=by rw[zu];exact ya
   refine A2B c1 c2 i.kIn G vw Nz (codeAny_handlers_suite ?_);have x5:MQ D.heap a cls dd .none (am U) .none:=#[g,vs,G,zu,Fs,B,Hw,Nu,sr,O,ts,hT5,jd,Nv]
   refine HH (s:=D) x5 λh6 x6 m6=>?_;have Hx:U≠a:=sr;have Qh:h6.get? a=am g:=m6.keep a g G (by simp) (by simp[a4K Hx]);have I7:Inv (IJ Y a) ((a,g)::pins) n (upd H' p (.tup [.ref D1,.ref D2])) { D with heap:=h6 }:=by
     refine BW (s:=D) (ch:=[U]) (i.pins_of λp' vt=>?_) (m6.mono (λb z=>absurd z (by simp)) λb z=>z) λb hb=>?_
     . rcases yX.mp vt with rfl | z;. exact i.pin _ (yW.mpr (.inr (a0Z ..)))
       . exact i.pin _ (yW.mpr (.inr (yV _ (yV _ z))))
     . have:b=U:=by simpa using hb
       subst this;refine#[?_,m.2.1,m.2.2.1,m.2.2.2.1,λp' vt=>?_];. have:=(i.pin (b,O) (yW.mpr (.inr (yV _ (a0Z ..))))).2.1;exact this
       . rcases yW.mp vt with z | z;. exact m.2.2.2.2 p' (yW.mpr (.inl z))
         . rcases yX.mp z with rfl | z;. exact a4K Hx
           . exact m.2.2.2.2 p' (yW.mpr (.inr z))
   refine bc (Q:=λ_ _=>False) (E:=Fly Y R) ?_ (λ_ _ z=>z.elim) (λe s' hf=>YY u L e s' hf);refine wpAny_execs_cons (bc (jB (Y:=Y) (Q:=λ_ _=>False) c wb F Fq hr hg Z (ha a) I7 ok B Hw (r p oq) du he) (λ_ _ z=>z.elim) λ_ _ z=>z)
end
end XC
namespace DL
open PySem PySem.Spec L2 XC
open PyProof.Rows (envOfC AllBare)
section
variable {P:bh}{w:bd}{K:Frg}{mg:Str->Option aw}{base:ca}
structure HasRA (P:bh) (w:bd) (K:Frg) (mg:Str->Option aw) (base:ca) (x fn:Str) (C S:Addr):Prop where
 ex:∃(f:Addr) (fd:ee) (ps:List Str),XCls K C S (.ref f)/\b5Q K (.ref f)=av/\FnOkA P w K mg base 1 f fd ps (F4 C fn)/\Binds K fd ps []/\mg x=am (.ref C)
def eG (K:Frg) (mg:Str->Option aw) (x:Str) (C S:Addr):Prop:=(∃i,XCls K C S i)/\mg x=am (.ref C)
theorem HasR.cls (h:HasR P w K mg base x fn C S):eG K mg x C S:=let #[_,_,_,c,_,_,_,q]:=h.ex;#[#[_,c],q]
theorem HasN.cls (h:HasN K mg x C S):eG K mg x C S:=#[#[_,h.c],h.at_]
theorem A3e (Y:Cx) (R:Rx) {D1 D2 C S m p:Addr}{body:List ew}{arg:bn}{x B e:Str}{J L zc I pos Q U tp g:eH}{z:Nat}{tc:Nat}{o:Rx->TS}{t:TA}(hK:Y.K=K) (u:Y.prog=P) (O:Y.w=w) (qa:Y.mg=mg) (ym:Y.base=base) (q:Y.stack=Y.env::Y.outer) (G:Y.env.frame=am Y.env.locals) (b:eG K mg B D1 m) (Z:eG K mg e D2 p) (h:HasRA P w K mg base x (a0Q "number") C S) (hr:Room 2 Y.A) (j:Gl Y B) (k:Gl Y e) (hg:Gl Y x) (v:∀a,PA (IJ Y a) [arg] t) (hb:∀(pn:List (Addr×cr)) (n:Rx),PSs ((pinned Y pn).wish (Fly (pinned Y pn) n)) body (o n)) (hd:(x==("__debug__":Str))=false:=by decide) (i:(B==("__debug__":Str))=false:=by decide) (hd2:(e==("__debug__":Str))=false:=by decide) (y:starEach [arg] Y.env=[(ay,eval arg Y.env)]:=by rfl) :
   PS (Y.wish (Fly Y R)) (.Try body [.ExceptHandler (am (.Tuple [.Name B Q,.Name e U] tc tp)) ap [.Raise (am (.Call (.Name x J) [arg] [] L)) (am (.Constant .none z g)) zc] I] [] [] pos) (pR K D1 D2 C o t R):=by subst hK u O qa ym;obtain⟨⟨i1,X⟩,M⟩:=b;obtain⟨⟨i2,q2⟩,D⟩:=Z;obtain⟨f,fd,ps,c,T,F,r,N⟩:=h.ex;exact vK q G X q2 c T F r (.of hr) hg N (λa=>kJ (UJ (cZ j M i) (UJ (cZ k D hd2) kI))) v hb hd y
end
section
theorem A2C (h:DE K ta ρ M λx M1=>DTy K T x M1/\DAx K R tl ρ M1 (λxs n=>DM K r x xs n Q) DX):DEx K R (tBM K T r ta tl) ρ M Q DX:=λm H QQ X k S=>
 h m H _ X (by rintro v t x M1 O o e ⟨h0,h1⟩;exact#[h0 t v O o,h1 m t _ (X.step O e) (λI c xs n g u i f=>f c v I QQ g (o.step i) u λw p z b j y N q=>k w p z b j y ((e.trans i).trans N) q) (S.step e)])
theorem vL {D1 D2 C:Addr}{T:Rx->TS}{t:TA}(h:∀i,DXt K i (T i) ρ M D λS cls fs m=>(cls = .ref D1\/cls = .ref D2)/\(∀z,fs≠[(a0Q "number", z)])/\DA K t S m λxs M1=>∃d,xs=[.d d]/\DX S (.ref C) [(a0Q "number", d)] M1):DXt K R (pR K D1 D2 C T t R) ρ M D DX:=λσ H E X B G J L U=>by
 refine h _ σ H E X B G J L λS cls fs m b dd H' i Z f #[hc,I,q]=>#[hc,?_,λp hp=>?_]
 . rintro⟨d,v,rfl,hd⟩
   match fs,f with
   | [(n,z)],f=> obtain⟨v',_,e,_⟩:=f;rw[hd] at e;injection e with e;injection e with e;injection e with j e2;injection j with j e3;exact I z (by rw[j])
 . have x:Step K m m H' (upd H' p (.tup [.ref D1,.ref D2])):=#[B6 _ hp]
   have u:=i.step (i.own.new (o:=.tup [.ref D1,.ref D2]) hp) x;refine q b _ _ u ?_;rintro vs k xs M1 O Y y ⟨d,N,z⟩;subst N;obtain⟨v,r,rfl,sv,rfl⟩:=Y;refine#[v,rfl,λe c=>?_];have g:Step K M1 M1 k (upd k e (.xd [(a0Q "number", v)])):=#[B6 _ c]
   exact U S _ [(a0Q "number", d)] M1 b (am e) _ ((u.step O y).step (O.new c) g) (Z.trans (x.trans (y.trans g))) #[v,λz=>z (O.none c),AE,DV.grow g.grow sv] z
end
end DL
namespace DL
open PySem PySem.Spec L2 XC
section
theorem A2D (h:DEx K R ta ρ M (λx M1=>DE K tb ρ M1 λy T=>D2 K r x y T Q) DX):DEx K R (tOp r ta tb) ρ M Q DX:=λn H QQ X k S=>
 h n H _ X (λv o x M1 O g e h1=>h1 n o _ (X.step O e) λu c y T b j t p=>p c v u QQ b (g.step t) j λw m z i f N I q=>k w m z i f N ((e.trans t).trans I) q) S
end
section
variable {M:Own}{Q:DS->Own->Prop}{DX:aw->List (Str×PyData)->Own->Prop}{ys:List Str}{w u v:List Th}{D:Deed}{Ds:List Deed}{p:Addr}{x:DS}{n:Str}
def nnX (z:Str):List (Str×PyData):=[("name", .str z)]
def DH (B:Addr):FSpX:=#[λt M=>∃(p:Addr) (o:List Th) (D:Deed),t=[.loc p,.d D.d]/\M p=am (tsO o)/\D.real,
 λt M y i=>∀(p:Addr) (o:List Th) (D:Deed),t=[.loc p,.d D.d]->M p=am (tsO o)->AJ (o.map (·.1)) D=ap/\y = .d .none/\i=M,
 λt M cls fs i=>∀(p:Addr) (o:List Th) (D:Deed),t=[.loc p,.d D.d]->M p=am (tsO o)->∃z,AJ (o.map (·.1)) D=am z/\cls = .ref B/\fs=nnX z/\i=M]
theorem VW (m:M p=am (tsO ts)) (hr:D.real) (q:AJ (ts.map (·.1)) D=ap->Q (.d .none) M) (J:∀z,AJ (ts.map (·.1)) D=am z->DX (.ref B) (nnX z) M) :
   [DS.loc p,.d D.d].length=2/\(DH B).pre [.loc p,.d D.d] M/\(∀x i,(DH B).post [.loc p,.d D.d] M x i->Q x i)/\∀cls fs i,(DH B).xpost [.loc p,.d D.d] M cls fs i->DX cls fs i:=
 #[rfl,#[p,ts,D,rfl,m,hr],λx i h=>(by obtain⟨a,rfl,rfl⟩:=h p ts D rfl m;exact q a),λcls fs i h=>by obtain⟨z,a,rfl,rfl,rfl⟩:=h p ts D rfl m;exact J z a]
theorem R9 (e:[DS.loc p,.d D.d]=[.loc p',.d c.d]) (m:M p=am (tsO ts)) (b:M p'=am (tsO i)):p=p'/\ts=i/\D=c:=by simp only[List.cons.injEq,DS.loc.injEq,DS.d.injEq,and_true] at e;obtain⟨rfl,e⟩:=e;rw[m] at b;exact#[rfl,A1r (Option.some.inj b),HE e]
def amB (ns:List Str) (D:Deed) (n:Str):Bool:=decide (n∈ns)==decide (D.made=am n)
theorem YZ (h:∀x∈D.names.take k,amB ns D x=ay) (hn:D.names[k]?=am n) (hb:amB ns D n=av):AJ ns D=am n:=by
 unfold AJ;have e:D.names=D.names.take k++n::D.names.drop (k+1):=by
   obtain⟨hk,e⟩:=yT.mp hn
   conv=>lhs;rw[<-b1X k D.names,List.drop_eq_getElem_cons hk,e]
 rw[e,List.find?_append,List.find?_eq_none.mpr λx hx=>by rw[show(decide (x∈ns)==decide (D.made=am x))=ay from h x hx];exact nft];rw[Option.none_or];exact List.find?_cons_of_pos hb
theorem pT (h:∀x∈D.names,amB ns D x=ay):AJ ns D=none:=by unfold AJ;exact List.find?_eq_none.mpr λx hx=>by rw[show(decide (x∈ns)==decide (D.made=am x))=ay from h x hx];exact nft
def K4 (B:Addr):FSpX:=#[λt M=>∃(w:List Th) (D:Deed),t=[.d (wD w),.d D.d]/\KK w/\D.real,
 λt M y i=>∀(w:List Th) (D:Deed),t=[.d (wD w),.d D.d]->AJ (w.map (·.1)) D=ap/\y = .d (BV w D).d/\i=M,
 λt M cls fs i=>∀(w:List Th) (D:Deed),t=[.d (wD w),.d D.d]->∃z,AJ (w.map (·.1)) D=am z/\cls = .ref B/\fs=nnX z/\i=M]
theorem bQ (hc:KK w) (hr:D.real) (q:AJ (w.map (·.1)) D=ap->Q (.d (BV w D).d) M) (J:∀z,AJ (w.map (·.1)) D=am z->DX (.ref B) (nnX z) M) :
   [DS.d (wD w),.d D.d].length=2/\(K4 B).pre [.d (wD w),.d D.d] M/\(∀x i,(K4 B).post [.d (wD w),.d D.d] M x i->Q x i)/\∀cls fs i,(K4 B).xpost [.d (wD w),.d D.d] M cls fs i->DX cls fs i:=
 #[rfl,#[w,D,rfl,hc,hr],λx i h=>(by obtain⟨a,rfl,rfl⟩:=h w D rfl;exact q a),λcls fs i h=>by obtain⟨z,a,rfl,rfl,rfl⟩:=h w D rfl;exact J z a]
theorem JQ {w:bd}(h:HasX P w K mg base "refuse_undoable" k ps (DH B)):Has P w K mg base "refuse_undoable" k ps E1:=
 h.calm (by rintro t M ⟨p,o,D,e,m,hr,g⟩;exact⟨#[p,o,D,e,m,hr],λy i q=>(q p o D e m).2,λcls fs i q=>by obtain⟨z,j,_⟩:=q p o D e m;rw[g] at j;cases j⟩)
structure rowQ16 (w:List Th) (Ds:List Deed):Prop where
 fine:CO w
 few:w.length+Ds.length < 60
 real:∀D∈Ds,D.real
def NV (w:List Th) (Ds:List Deed) (i:Nat):Prop:=CB w (Ds.take i)/\∃D,Ds[i]?=am D/\¬AJ ((wsF w Ds i).map (·.1)) D=ap
theorem eI:∀{Ds:List Deed}{w:List Th}{i j:Nat}{D:Deed},CB w (Ds.take j)->i < j->Ds[i]?=am D->goD (wsF w Ds i) D
 | [],w,i,j,D,_,_,h=>by simp at h
 | E::r,w,0,j+1,D,hb,_,h=>by
   obtain rfl:E=D:=by simpa using h
   exact hb.1
 | E::r,w,i+1,j+1,D,hb,g,h=>eI (Ds:=r) (w:=GF w E) hb.2 (Nat.lt_of_succ_lt_succ g) (by simpa using h)
 | E::r,w,_,0,D,_,g,_=>absurd g (Nat.not_lt_zero _)
theorem eJ (h:NV w Ds i):¬CB w Ds:=λhb=>by
 obtain⟨_,D,hD,g⟩:=h;have hi:=(yT.mp hD).1;have hb2:CB w (Ds.take Ds.length):=by rw[a1Q];exact hb
 exact g (eI hb2 hi hD).2.2
theorem OQ (hb:CB w (Ds.take k)) (hD:Ds[k]?=am D) (hg:goD (wsF w Ds k) D):CB w (Ds.take (k+1)):=by rw[a2K,hD];exact YX.mpr #[hb,hg,trivial]
def nrX (i:Nat):List (Str×PyData):=[(a0Q "number", .int (i:Nat))]
def GX (o:Addr) (f:List Th->List Deed->PyData):FSpX:=#[λt M=>∃(w:List Th) (Ds:List Deed),t=J3 w Ds/\rowQ16 w Ds,
 λt M y e=>∀(w:List Th) (Ds:List Deed),t=J3 w Ds->CB w Ds/\y = .d (f w Ds)/\e=M,
 λt M cls fs e=>∀(w:List Th) (Ds:List Deed),t=J3 w Ds->∃i,NV w Ds i/\cls = .ref o/\fs=nrX i/\e=M]
def eL (w:List Th) (Ds:List Deed):PyData:=.tuple [wD (JH w Ds),.list (bkL w Ds Ds.length)]
def pU (w:List Th) (Ds:List Deed):PyData:=wD (JH w Ds)
theorem eO (h:rowQ16 w Ds) (q:CB w Ds->Q (.d (f w Ds)) M) (J:∀i,NV w Ds i->DX (.ref t) (nrX i) M) : (J3 w Ds).length=2/\(GX t f).pre (J3 w Ds) M/\(∀x e,(GX t f).post (J3 w Ds) M x e->Q x e)/\∀cls fs e,(GX t f).xpost (J3 w Ds) M cls fs e->DX cls fs e:=#[rfl,#[w,Ds,rfl,h],λx e o=>(by obtain⟨a,rfl,rfl⟩:=o w Ds rfl;exact q a),λcls fs e o=>by obtain⟨i,a,rfl,rfl,rfl⟩:=o w Ds rfl;exact J i a]
structure Alk (v u:List Th):Prop where
 nd:(v.map (·.1)).Nodup
 lk:∀n,AA v n=AA u n
theorem Alk.amiss (h:Alk v u) (D:Deed):AJ (v.map (·.1)) D=AJ (u.map (·.1)) D:=by
 unfold AJ;congr 1;funext n;have:(n∈v.map (·.1))↔(n∈u.map (·.1)):=by rw[BA,BA,h.lk]
 simp only[this]
theorem Alk.step (h:Alk v u) (e:goD v D) (hu:goD u D):Alk (doT v D) (GF u D):=by refine#[(NO e).1,λn=>?_];rw[show AA (GF u D) n=AA (doT u D) n from ER (NO hu).1 n,D3 e.2.1 e.2.2,D3 hu.2.1 hu.2.2];cases D <;> simp only[h.lk]
def U1 (w:List Th) (Ds:List Deed) (k:Nat) (v:List Th):Prop:=CB w (Ds.take k)/\Alk v (wsF w Ds k)
theorem jC (G:CO w):U1 w Ds 0 w:=#[by rw[List.take_zero];trivial,G.1.nodup,λn=>rfl]
theorem A2E (t:rowQ16 w Ds) (h:U1 w Ds k v) (hD:Ds[k]?=am D) (g:AJ (v.map (·.1)) D=ap) (hc:KK v):U1 w Ds (k+1) (doT v D):=by
 have hk:=(yT.mp hD).1;have hr:=t.real D (yN hD);have i:=t.few;obtain⟨o,L,_⟩:=K0 (k:=k) h.1 t.fine (by rw[a1X];lia) (by rw[a1X];lia);have e:wsF w (Ds.take k) k=wsF w Ds k:=by unfold wsF;rw[List.take_take,Nat.min_self]
 rw[e] at o L;have hg:goD (wsF w Ds k) D:=#[#[o.1.nodup,by lia],hr,by rw[<-h.2.amiss];exact g]
 refine#[OQ h.1 hD hg,?_];rw[dL hD];exact h.2.step #[hc,hr,g] hg
theorem pV (h:U1 w Ds k v) (hD:Ds[k]?=am D) (g:¬AJ (v.map (·.1)) D=ap):NV w Ds k:=#[h.1,D,hD,by rw[<-h.2.amiss];exact g]
theorem VX (t:rowQ16 w Ds) (h:U1 w Ds Ds.length v):CB w Ds/\AZ v=JH w Ds:=by
 have hb:CB w Ds:=by have:=h.1;rwa [a1Q] at this
 have i:=t.few;obtain⟨o,_,_⟩:=K0 (k:=Ds.length) hb t.fine i (zR _);have e:wsF w Ds Ds.length=JH w Ds:=by unfold wsF;rw[a1Q]
 refine#[hb,?_];rw[<-e];exact NP h.2.nd o.1 h.2.lk
end
end DL
namespace DL
open PySem PySem.Spec L2
section
variable {ys l:List Str}{A B E:Eff}{a b:Option Eff}{w u v:List Th}{D:Deed}{As Bs Ds:List Deed}{n z:Str}{m:Option Str}
def mkV (m:Option Str) (n:Str):Int×Int:=if am n=m then (1,1) else (0,0)
def mkP (m:Option Str) (ts:List Th) (n:Str):List Th:=CD ts n (mkV m n).1 (mkV m n).2
def OR (m:Option Str) (l:List Str):List Th:=l.foldl (mkP m) []
def gM (m:Option Str) (l:List Str):Gt:=λn=>if n∈l then am (mkV m n) else ap
theorem U2 (m:Option Str):∀(l:List Str) (ts:List Th) (n:Str),AA (l.foldl (mkP m) ts) n=if n∈l then am (mkV m n) else AA ts n
 | [],ts,n=>by simp
 | x::l,ts,n=>by
   rw[b3W,U2 m l];unfold mkP;rw[EQ];by_cases h:n∈l;. rw[if_pos h,if_pos (yV _ h)]
   . rw[if_neg h];by_cases e:n=x;. subst e;rw[if_pos rfl,if_pos a0Z]
     . rw[if_neg e,if_neg (by simp[e,h])]
theorem eQ:AA (OR m l)=gM m l:=funext λn=>by unfold OR gM;rw[U2];rfl
theorem Z0 (m:Option Str):∀(l:List Str) {ts:List Th},(ts.map (·.1)).Nodup->((l.foldl (mkP m) ts).map (·.1)).Nodup
 | [],_,h=>h
 | _::l,_,h=>Z0 m l (VU h)
theorem K5:((OR m l).map (·.1)).Nodup:=Z0 m l (ts:=[]) List.nodup_nil
theorem VY (o:t∈OR m l):t.1∈l/\t.2=mkV m t.1:=by
 have h:=AX K5 o;rw[eQ] at h;unfold gM at h;by_cases e:t.1∈l;. rw[if_pos e] at h;exact#[e,(Option.some.inj h).symm]
 . rw[if_neg e] at h;cases h
theorem Z1:(OR m l).length<=l.length:=by rw[<-zX (f:=(·.1))];exact JK K5 λn hn=>by obtain⟨t,e,rfl⟩:=zL.mp hn;exact(VY e).1
def wM (m:Option Str) (l:List Str):List Th:=AZ (OR m l)
theorem EI:AA (wM m l)=gM m l:=funext λn=>by unfold wM;rw[ER K5,eQ]
theorem pW :t∈wM m l↔t∈OR m l:=(BG _).mem_iff
theorem pX:(wM m l).length<=l.length:=by unfold wM;rw[(BG _).length_eq];exact Z1
theorem VZ (h:∀n∈l,CW n):CO (wM m l):=#[DZ K5,λt o=>by obtain⟨h1,e⟩:=VY (pW.mp o);rw[e];unfold mkV;refine#[h _ h1,?_];split <;> decide]
theorem pY (h:∀n∈l,n∈zs):There zs (wM m l):=#[(DZ K5).nodup,λt e=>h _ (VY (pW.mp e)).1]
def bhO (w:List Th) (Ds:List Deed):Option (List Th):=(AY w Ds).map AZ
theorem PB (o:rowQ16 w Ds):∀k,k<=Ds.length->(∃v,AY w (Ds.take k)=am v/\U1 w Ds k v)\/(AY w Ds=ap/\∃i,NV w Ds i)
 | 0,_=>.inl #[w,rfl,jC o.fine]
 | k+1,h=>by
   rcases PB o k (Nat.le_of_succ_le h) with ⟨v,h1,t⟩ | h1
   . have hD:Ds[k]?=am Ds[k]:=zV h;have M:=o.few;by_cases g:AJ (v.map (·.1)) Ds[k]=ap
     . obtain⟨r,L,_⟩:=K0 (k:=k) t.1 o.fine (by rw[a1X];lia) (by rw[a1X];lia);have e:wsF w (Ds.take k) k=wsF w Ds k:=by unfold wsF;rw[List.take_take,Nat.min_self]
       rw[e] at r L;have hc:v.length < 63:=by
         have:(v.map (·.1)).length<=((wsF w Ds k).map (·.1)).length:=JK t.2.nd λn hn=>by rw[BA,<-t.2.lk,<-BA];exact hn
         rw[zX,zX] at this;lia
       exact .inl #[doT v Ds[k],YU h1 hD g,A2E o t hD g #[t.2.nd,hc]]
     . exact .inr #[R5 h1 hD g,k,pV t hD g]
   . exact .inr h1
theorem eR (e:rowQ16 w Ds) (hb:CB w Ds):bhO w Ds=am (JH w Ds):=by
 rcases PB e Ds.length (zR _) with ⟨v,h1,t⟩ | ⟨_,i,h⟩
 . rw[a1Q] at h1;unfold bhO;rw[h1,<-(VX e t).2];rfl
 . exact absurd hb (eJ h)
theorem vM (e:rowQ16 w Ds) (hs:NV w Ds i):bhO w Ds=none:=by
 rcases PB e Ds.length (zR _) with ⟨v,h1,t⟩ | ⟨h,_⟩
 . exact absurd (VX e t).1 (eJ hs)
 . unfold bhO;rw[h];rfl
def okO (o:Option Eff) (g:Gt):Prop:=∃E,o=am E/\okV E g
theorem Z2 (h:JP w a r):r≠ap↔okO a (AA w):=by
 unfold JP at h;cases a with
 | none=>simp only at h;rw[h];exact#[λq=>absurd rfl q,by rintro⟨_,q,_⟩;exact nomatch q]
 | some E=>
   cases r with
   | none=>exact#[λq=>absurd rfl q,by rintro⟨F,q,ok⟩;cases q;exact absurd ok h]
   | some e=>exact#[λ_=>#[E,rfl,h.1],λ_ q=>nomatch q]
theorem A2F (g:JP w a (AY w As)) (hb:JP w b (AY w Bs)) (h:¬(okO a (AA w)↔okO b (AA w))):bhO w As≠bhO w Bs:=λe=>h (by
 rw[<-Z2 g,<-Z2 hb];unfold bhO at e;have:=congrArg Option.isSome e;rw[a1J,a1J] at this;rw[Option.ne_none_iff_isSome,Option.ne_none_iff_isSome,this])
theorem A2G (g:JP w (am A) (AY w As)) (hb:JP w (am B) (AY w Bs)) (i:∀v,AY w As=am v->(v.map (·.1)).Nodup) (r:∀v,AY w Bs=am v->(v.map (·.1)).Nodup) (q:okV A (AA w)) (p:okV B (AA w)) (h:CT A (AA w) n≠CT B (AA w) n):bhO w As≠bhO w Bs:=λe=>by
 unfold bhO at e;cases t:AY w As with
 | none=>rw[t] at g;exact g q
 | some x=>
   cases o:AY w Bs with
   | none=>rw[o] at hb;exact hb p
   | some y=> rw[t] at g e;rw[o] at hb e;have e:AZ x=AZ y:=Option.some.inj e;refine h ?_;rw[<-g.2 n,<-hb.2 n,<-ER (i x t),<-ER (r y o),e]
def FT (a b:Option Eff):List Eff:=[a,b].filterMap id
def GH (E:Eff) (ts:List Eff):List (List Th):=ts.map (λF=>wM ap F.st)++ts.flatMap (λF=>F.fr.map λn=>wM ap (E.st++[n]))++E.st.map λn=>wM (am n) E.st
def KG (a b:Option Eff):List (List Th):=match FT a b with | []=>[] | E::r=>GH E (E::r)
theorem K6 (h:OkE ys E):okV E (gM m E.st):=#[λn hn=>by unfold gM;rw[if_pos hn];rfl,λn hn=>by unfold gM;rw[if_neg λq=>h.apart n q hn]]
theorem Z3:∀(l:List Int),(∀x∈l,x=0)->l.sum=0
 | [],_=>rfl
 | x::l,h=>by rw[a2J,h x a0Z,Z3 l λy hy=>h y (yV _ hy)];rfl
theorem pZ {f:Str->Int}:∀{l:List Str},l.Nodup->(∀x∈l,f x=if x=z then 1 else 0)->(l.map f).sum=if z∈l then 1 else 0
 | [],_,_=>by simp
 | x::l,nd,h=>by
   obtain⟨h1,t⟩:=xU.mp nd;rw[zI,a2J,pZ t λy hy=>h y (yV _ hy),h x a0Z];by_cases e:x=z;. subst e;rw[if_pos rfl,if_neg h1,if_pos a0Z];rfl
   . rw[if_neg e];by_cases q:z∈l;. rw[if_pos q,if_pos (yV _ q)];rfl
     . rw[if_neg q,if_neg (by simp[a4K e,q])];rfl
def Dif (a b:Option Eff) (g:Gt):Prop:=¬(okO a g↔okO b g)\/∃A B n,a=am A/\b=am B/\okV A g/\okV B g/\CT A g n≠CT B g n
theorem HR :okO (am E) g↔okV E g:=#[(by rintro⟨_,e,h⟩;cases e;exact h),λh=>#[E,rfl,h]]
theorem Z4 :¬okO ap g:=by rintro⟨_,e,_⟩;exact nomatch e
theorem Dif.one (h1:okV A g) (e:¬okV B g):Dif (am A) (am B) g:=.inl λh=>e (HR.mp (h.mp (HR.mpr h1)))
theorem Dif.two (h1:¬okV A g) (e:okV B g):Dif (am A) (am B) g:=.inl λh=>h1 (HR.mp (h.mpr (HR.mpr e)))
theorem Z5 (h:n∉l):gM m l n=none:=if_neg h
theorem LH (h:n∈l):gM m l n=am (mkV m n):=if_pos h
theorem qD (h:OkE ys A):CT A (gM m A.st) n=(AC A.lf n).map (enV (gM m A.st)):=by
 cases e:AC A.lf n with
 | some x=>exact JN e
 | none=>
   by_cases hs:n∈A.st;. exact IN e hs
   . rw[FS e hs,Z5 hs];rfl
theorem Z6 (h:k∈l):plV (gM m l) (.inr k)=(mkV m k).1:=by unfold plV;simp only[LH h,Option.getD_some]
theorem eT (h:∀k∈q,k∈l):ctV (gM ap l) q=0:=Z3 _ λx hx=>by obtain⟨k,hk,rfl⟩:=zL.mp hx;rw[LH (h k hk)];rfl
theorem eU (nd:q.Nodup) (h:∀k∈q,k∈l):ctV (gM (am z) l) q=if z∈q then 1 else 0:=pZ nd λk hk=>by
 rw[LH (h k hk)];unfold mkV;by_cases e:k=z;. subst e;rw[if_pos rfl,if_pos rfl];rfl
 . rw[if_neg (λq=>e (Option.some.inj q)),if_neg e];rfl
structure EntK (l:List Str) (e:Ent):Prop where
 pl:∀k,e.1 = .inr k->k∈l
 nd:e.2.1.Nodup
 sub:∀k∈e.2.1,k∈l
 srt:BP e.2.1=e.2.1
theorem qE (i:EntK l e) (o:EntK l f) (h0:enV (gM ap l) e=enV (gM ap l) f) (h1:∀z∈l,enV (gM (am z) l) e=enV (gM (am z) l) f):e=f:=by
 obtain⟨p,q,c⟩:=e;obtain⟨S,h,G⟩:=f;have T:=congrArg Prod.snd h0;unfold enV at T h0 h1;simp only[eT i.sub,eT o.sub] at T;have J:c=G:=by have:=T;simp only[b5V] at this;exact this
 subst J;have hq:q=h:=by
   refine i.srt.symm.trans (Eq.trans (VO i.nd o.nd λk=>?_) o.srt);have key:∀k∈l,(k∈q↔k∈h):=λk hk=>by
     have M:=congrArg Prod.snd (h1 k hk);simp only[eU i.nd i.sub,eU o.nd o.sub] at M;have g:=Int.add_left_cancel M;by_cases u:k∈q
     . by_cases r:k∈h;. exact#[λ_=>r,λ_=>u]
       . simp only[if_pos u,if_neg r] at g;exact absurd g (by decide)
     . by_cases r:k∈h;. simp only[if_neg u,if_pos r] at g;exact absurd g (by decide)
       . exact#[λx=>absurd x u,λx=>absurd x r]
   exact#[λx=>(key k (i.sub k x)).mp x,λx=>(key k (o.sub k x)).mpr x]
 subst hq;have hp:p=S:=by
   have O:=congrArg Prod.fst h0;have N:=λz L=>congrArg Prod.fst (h1 z L);simp only at O N;cases p with
   | inl x=>
     cases S with
     | inl y=>exact congrArg Sum.inl O
     | inr k=> have hk:=o.pl k rfl;rw[Z6 hk] at O;have t:=N k hk;rw[Z6 hk] at t;unfold mkV at O t;rw[if_neg (by simp)] at O;rw[if_pos rfl] at t;unfold plV at O t;simp only at O t;lia
   | inr j=>
     have I:=i.pl j rfl;rw[Z6 I] at O;have t:=N j I;rw[Z6 I] at t;unfold mkV at O t;rw[if_neg (by simp)] at O;rw[if_pos rfl] at t;cases S with
     | inl y=> unfold plV at O t;simp only at O t;lia
     | inr k=>
       have hk:=o.pl k rfl;rw[Z6 hk] at t;unfold mkV at t;by_cases e:k=j;. rw[e]
       . rw[if_neg (λq=>e (Option.some.inj q))] at t;exact absurd t (by decide)
 rw[hp]
theorem A0C (h:OkE ys A) (s:OZ A) (o:AC A.lf n=am e):EntK A.st e:=by have t:=(BI h.keys).mp o;exact#[λk hk=>h.place _ t k hk,(h.from_ _ t).1,(h.from_ _ t).2,s.2.2.2 _ t]
theorem qF (hA:OkE ys A) (hB:OkE ys B) (j:OZ A) (t:OZ B) (h:∀n,AC A.lf n=AC B.lf n):A.lf=B.lf:=by rw[<-j.2.2.1,<-t.2.2.1];exact YN hA.keys hB.keys λn e=>by rw[<-BI hA.keys,<-BI hB.keys,h]
theorem vN (hA:OkE ys A) (hB:OkE ys B) (j:OZ A) (r:OZ B) (h:A≠B):∃w∈GH A [A,B],Dif (am A) (am B) (AA w):=by
 have S:wM ap A.st∈GH A [A,B]:=by unfold GH;simp
 have Q:wM ap B.st∈GH A [A,B]:=by unfold GH;simp
 by_cases h1:∃n,n∈B.st/\n∉A.st;. obtain⟨n,hb,g⟩:=h1;refine#[_,S,?_];rw[EI];exact .one (K6 hA) λq=>by have:=q.1 n hb;rw[Z5 g] at this;cases this
 by_cases p:∃n,n∈A.st/\n∉B.st;. obtain⟨n,g,hb⟩:=p;refine#[_,Q,?_];rw[EI];exact .two (λq=>by have:=q.1 n g;rw[Z5 hb] at this;cases this) (K6 hB)
 have X:A.st=B.st:=by rw[<-j.1,<-r.1];exact VO hA.st.1 hB.st.1 λn=>#[λx=>b1W λy=>p #[n,x,y],λx=>b1W λy=>h1 #[n,x,y]]
 by_cases c:∃n,n∈A.fr/\n∉B.fr
 . obtain⟨n,g,hb⟩:=c;refine#[wM ap (A.st++[n]),by unfold GH;simp only[yW,List.mem_flatMap];exact .inl (.inr #[A,by simp,zL.mpr #[n,g,rfl]]),?_];rw[EI];refine .two (λq=>by have:=q.2 n g;rw[LH (by simp)] at this;cases this) #[λk hk=>by rw[LH (by rw[X];exact yW.mpr (.inl hk))];rfl,λk hk=>Z5 λq=>?_];rcases yW.mp q with q | q;. rw[X] at q;exact hB.apart k q hk
   . rw[List.mem_singleton.mp q] at hk;exact hb hk
 by_cases T:∃n,n∈B.fr/\n∉A.fr
 . obtain⟨n,hb,g⟩:=T;refine#[wM ap (A.st++[n]),by unfold GH;simp only[yW,List.mem_flatMap];exact .inl (.inr #[B,by simp,zL.mpr #[n,hb,rfl]]),?_];rw[EI];refine .one #[λk hk=>by rw[LH (yW.mpr (.inl hk))];rfl,λk hk=>Z5 λq=>?_] (λq=>by have:=q.2 n hb;rw[LH (by simp)] at this;cases this);rcases yW.mp q with q | q;. exact hA.apart k q hk
   . rw[List.mem_singleton.mp q] at hk;exact g hk
 have M:A.fr=B.fr:=by rw[<-j.2.1,<-r.2.1];exact VO hA.fr.1 hB.fr.1 λn=>#[λx=>b1W λy=>c #[n,x,y],λx=>b1W λy=>T #[n,x,y]]
 by_cases O:∀n,AC A.lf n=AC B.lf n
 . exact absurd (by
     have:=qF hA hB j r O;obtain⟨x,y,k⟩:=A;obtain⟨Y,Z,U⟩:=B;cases X;cases M;cases this;rfl) h
 obtain⟨n,hn⟩:=Classical.not_forall.mp O;have L:∀m,okV B (gM m A.st):=λm=>by rw[X];exact K6 hB
 have G:∀m,CT B (gM m A.st) n=(AC B.lf n).map (enV (gM m A.st)):=λm=>by rw[X];exact qD hB
 have i:∀m,(AC A.lf n).map (enV (gM m A.st))≠(AC B.lf n).map (enV (gM m A.st))->Dif (am A) (am B) (gM m A.st):=λm q=>.inr #[A,B,n,rfl,rfl,K6 hA,L m,by rw[qD hA,G m];exact q];cases o:AC A.lf n with
 | none=>
   cases t:AC B.lf n with
   | none=>rw[o,t] at hn;exact absurd rfl hn
   | some f=>exact#[_,S,by rw[EI];exact i ap (by rw[o,t];exact λq=>nomatch q)]
 | some e=>
   cases t:AC B.lf n with
   | none=>exact#[_,S,by rw[EI];exact i ap (by rw[o,t];exact λq=>nomatch q)]
   | some f=>
     by_cases h0:enV (gM ap A.st) e=enV (gM ap A.st) f
     . by_cases I:∀z∈A.st,enV (gM (am z) A.st) e=enV (gM (am z) A.st) f;. rw[o,t,qE (A0C hA j o) (by rw[X];exact A0C hB r t) h0 I] at hn;exact absurd rfl hn
       . obtain⟨z,N⟩:=Classical.not_forall.mp I;obtain⟨J,N⟩:=Classical.not_imp.mp N;exact#[wM (am z) A.st,by unfold GH;simp only[yW];exact .inr (zL.mpr #[z,J,rfl]),by rw[EI];exact i _ (by rw[o,t];exact λq=>N (Option.some.inj q))]
     . exact#[_,S,by rw[EI];exact i ap (by rw[o,t];exact λq=>h0 (Option.some.inj q))]
theorem vO (t:∀E,a=am E->OkE ys E) (y:∀E,b=am E->OkE ys E) (o:∀E,a=am E->OZ E) (i:∀E,b=am E->OZ E) (h:a≠b):∃w∈KG a b,Dif a b (AA w):=by
 cases a with
 | none=>
   cases b with
   | none=>exact absurd rfl h
   | some B=>exact#[wM ap B.st,by unfold KG FT GH;simp,.inl λq=>Z4 (q.mpr (by rw[EI];exact HR.mpr (K6 (y B rfl))))]
 | some A=>
   cases b with
   | none=>exact#[wM ap A.st,by unfold KG FT GH;simp,.inl λq=>Z4 (q.mp (by rw[EI];exact HR.mpr (K6 (t A rfl))))]
   | some B=>exact vN (t A rfl) (y B rfl) (o A rfl) (i B rfl) λe=>h (by rw[e])
theorem qG (h:There zs w) (hz:zs.length < 60) (hD:∀D∈Ds,D.real/\∀x∈D.names,x∈zs):∀v,AY w Ds=am v->(v.map (·.1)).Nodup:=λv e=>(j4 h hz hD v e).nd
theorem jD (hn:AK ys) (hA:∀D∈As,BL ys D) (hB:∀D∈Bs,BL ys D) (h:There zs w) (hs:∀y∈ys,y∈zs) (hz:zs.length < 60) (d:Dif (B0 As) (B0 Bs) (AA w)):bhO w As≠bhO w Bs:=by
 have T:=HQ hn w _ As rfl hA;have e:=HQ hn w _ Bs rfl hB;rcases d with d | ⟨A,B,n,t,o,q,i,d⟩
 . exact A2F T e d
 . rw[t] at T;rw[o] at e;exact A2G T e (qG h hz λD hD=>#[(hA D hD).1,λx hx=>hs x ((hA D hD).2 x hx)]) (qG h hz λD hD=>#[(hB D hD).1,λx hx=>hs x ((hB D hD).2 x hx)]) q i d
end
end DL
namespace DL
open PySem PySem.Spec L2 XC
section
theorem qH (n:rowQ16 w Ds) (hb:CB w (Ds.take k)) (hk:k<=Ds.length):CO (wsF w Ds k)/\KK (wsF w Ds k):=by
 have o:=n.few;obtain⟨t,L,_⟩:=K0 (k:=k) hb n.fine (by rw[a1X];lia) (by rw[a1X];lia);have e:wsF w (Ds.take k) k=wsF w Ds k:=by unfold wsF;rw[List.take_take,Nat.min_self]
 rw[e] at t L;exact#[t,t.1.nodup,by lia]
end
end DL
namespace L2
open PySem PySem.Spec PyProof.Rows
theorem bR (l:Addr) (items:Array aw) (n:Nat) (b:Addr) (T:Array aw) (i:Nat) (dd:Option Addr) (sl:Array (Option aw)) (c:¬(!items.isEmpty&&b1J (items.size+T.size))=av) (k:items.size<=aB) (t:items.size+T.size<=aB+1) :
   Meets (Builtin.«list.__iadd__» #[[.ref l,.ref b],[]]) (λ_ R s=>s.heap.get? l=am { cls:=.type "list", dict:=ap,data:=.seq items n,slots:=#[] }/\s.heap.get? b=am { cls:=.type "list", dict:=dd,data:=.seq T i,slots:=sl }/\R (.ok (.ret (a0X l))) { s with heap:=s.heap.update l (a5J λx=>x++T),toks:=s.toks }):=
 .of_wp λprog w A R s h=>by
   obtain⟨hp,g,d,p,r⟩:=s;obtain⟨m,hb,h⟩:=h;have u:=AutoSeq1.idx_int;have L:=AutoSeq1.sub_tuple_tuple;have o:=AutoSeq1.sub_list_list;have X:=AutoSeq1.sub_tuple_list;have Y:=AutoSeq1.sub_list_tuple;have e:(items++T).size<=aB+1:=by rw[Array.size_append];exact t
   wp_walk using (wpAny_updateSeq m rfl (hz:=k) (_hz':=e)),fN m,fN hb;exact#[_,rfl,h]
theorem U3:e5 (.type "list") (dunderI "add")=pure (am (.builtin "list.__iadd__")):=by rw[typeLookup_type,builtinLookup_eq_fast];kernel_rfl
theorem vP (g:s.TypeIs a "list") (hb:s.TypeIs b "list") (hc:wpAny M A (call (.builtin "list.__iadd__") [a,b]) Q E s):wpAny M A (inplaceOp .Add a b) Q E s:=by
 unfold inplaceOp;refine bq ?_;have y:fillsInplaceSlot (.type "list") "add" (Operator.Add==.Add)=pure false:=by unfold fillsInplaceSlot;show(e5 (.type "list") (dunderI "add") >>= λe=>pure (e.isSome&&!isSeqSlot e))=pure ay;rw[U3];kernel_rfl
 have h:seqSlot? (.type "list") (dunderI "add")=pure (am (.builtin "list.__iadd__")):=by unfold seqSlot?;rw[U3];kernel_rfl
 refine zZ (hY g (zZ (fx y ?_)));show wpAny M A (if ay=av then _ else _) Q E s;rw[if_neg nft];refine zZ (wpAny_binaryOp1_none (nm:= "add") g hb noFill_list_add ?_);refine zZ (fx h ?_);exact zZ (dc hc)
section
def bS (K:Frg):R2:=λx y H Q=>∃l b t i,x = .ref l/\y = .ref b/\H l=am (.lst t)/\SqL K H b i/\t.length+i.length<=aB/\Q (.ref l) (upd H l (.lst (t++i)))
theorem qI {K:Frg}(hK:X.K=K):PIp X .Add (bS K):=by
 subst hK;intro pins s O H x y v u Q I L Z h;obtain⟨l,b,k,N,rfl,rfl,hH,hB,j,q⟩:=h;cases L;cases Z;obtain⟨z,t,n,r,g,e⟩:=I.lstM hH;obtain⟨o,i,c,_⟩:=I.list hB;have T:=i.length;obtain⟨⟨cls,Y,data,sl⟩,f,ho,hc,m,hd⟩:=id c;dsimp only at hc m hd;subst hc m hd;have hsz:t.toArray.size+o.toArray.size<=sizeLine:=by rw[zJ,zJ];lia
 have p:¬(!t.toArray.isEmpty&&b1J (t.toArray.size+o.toArray.size))=true:=by rw[kP hsz,Bool.and_false];exact nft
 refine vP #[_,e,rfl] #[_,ho,rfl] (call_meets F.slot_list_iadd #[_,e,rfl] F.entry_list_iadd (F.args_list_iadd_2 _ _) (bR l t.toArray n b o.toArray f ap sl p (by rw[zJ];lia) (by lia)) #[e,ho,?_]);refine#[.ref l,_,I.lset (its':=t++o) hH e (by simp) (r.append i) ?_,rfl,q];rw[yY];lia
end
end L2
namespace DL
open PySem PySem.Spec L2
theorem A2H {X:Cx}{K:Frg}(hK:X.K=K):PIp X .Add (bS K):=qI hK
theorem qJ (m:M a=am (.l ds)) (hz:ds.length+es.length<=aB) (q:Q (.loc a) (M.put a (.l (ds++es)))):D2 K (bS K) (.loc a) (.d (.list es)) M Q:=λH v u QQ e r t k=>by unfold SI at r;subst r;obtain⟨o,h0,hd⟩:=e a _ m;unfold SI DV at t;obtain⟨b,i,rfl,n,hd2⟩:=t;obtain⟨x,y⟩:=E5 e m (hd.append hd2);exact#[a,b,o,i,rfl,rfl,h0,n.sq,by rw[hd.length,hd2.length];exact hz,k _ _ (.loc a) _ x rfl y q]
end DL
namespace DL
open PySem PySem.Spec L2 XC
section
variable {M:Own}{Q:DS->Own->Prop}{ys l:List Str}{A B E:Eff}{a b:Option Eff}{w u v:List Th}{D:Deed}{As Bs Ds:List Deed}{n z:Str}{m:Option Str}{p:Addr}{ts:List Th}{es:List (Str×Ent)}
theorem OS:∀{x y:List (Str×PyData)},AF x=AF y->x=y
 | [],[],_=>rfl
 | [],_::_,h=>nomatch h
 | _::_,[],h=>nomatch h
 | (a,b)::r,(c,d)::s,h=>by simp only[AF,zI,List.cons.injEq,Prod.mk.injEq,PyData.str.injEq] at h;obtain⟨⟨rfl,rfl⟩,h⟩:=h;rw[OS h]
theorem RA:∀{ts:List (Str×PyData)}{t:Str×PyData},(ts.map (·.1)).Nodup->t∈ts->BS ts t.1=am t.2
 | x::r,t,nd,h=>by
   obtain⟨h1,o⟩:=xU.mp nd;rcases yX.mp h with rfl | h;. unfold BS;exact if_pos rfl
   . unfold BS;rw[if_neg (λe=>h1 (zL.mpr #[t,h,e.symm]))];exact RA o h
def RB (ts:List (Str×PyData)):PyData->PyData | .str n=>(match BS ts n with | some (.tuple ds)=>.tuple (.str n::ds) | _=>.none) | d=>d
def A4T (d:PyData):Prop:=∃ds,d = .tuple ds/\ds.length<=9
def BO:FSp:=#[λe M=>∃(p:Addr) (ts:List (Str×PyData)),e=[.loc p]/\M p=am (.d (AF ts))/\(ts.map (·.1)).Nodup/\ts.length < 64/\∀t∈ts,A4T t.2,
 λe M y i=>∀(p:Addr) (ts:List (Str×PyData)),e=[.loc p]->M p=am (.d (AF ts))->∃x:List Str,x.Perm (ts.map (·.1))/\xF x=av/\y = .d (.tuple ((x.map a0J).map (RB ts)))/\i=M]
theorem Z7 {ts:List (Str×PyData)}{ss:List Str}(h:∀s∈ss,RB ts (.str s)=f (.str s)):(ss.map a0J).map (RB ts)=(ss.map a0J).map f:=
 yM λd hd=>by obtain⟨s,hs,rfl⟩:=zL.mp hd;exact h s hs
theorem GO (m:M p=am (tsO ts)) (nd:(ts.map (·.1)).Nodup) (r:ts.length < 64) (q:Q (.d (wD (AZ ts))) M):[DS.loc p].length=1/\BO.pre [.loc p] M/\∀x i,BO.post [.loc p] M x i->Q x i:=by
 have e:(tsD ts).map (·.1)=ts.map (·.1):=by unfold tsD;rw[zD];rfl
 refine#[rfl,#[p,tsD ts,rfl,m,by rw[e];exact nd,by unfold tsD;rw[zX];exact r,λt o=>?_],λx i h=>?_];. unfold tsD at o;obtain⟨s,_,rfl⟩:=zL.mp o;exact#[_,rfl,yD rfl]
 . obtain⟨j,h1,g,rfl,rfl⟩:=h p (tsD ts) rfl m;rw[e] at h1;rw[Z7 (f:=dI ts) λs hs=>by
     obtain⟨t,o,c⟩:=zL.mp (h1.mem_iff.mp hs);have r:AA ts s=am t.2:=by rw[<-c];exact AX nd o
     simp only[RB,dI,AO,r];rfl,hW nd h1 g];exact q
theorem KN (m:M p=am (SH es)) (nd:(es.map (·.1)).Nodup) (r:es.length < 64) (q:Q (.d (.tuple ((CY es).map lfE))) M):[DS.loc p].length=1/\BO.pre [.loc p] M/\∀x i,BO.post [.loc p] M x i->Q x i:=by
 have e:(KF es).map (·.1)=es.map (·.1):=by rw[zD];rfl
 refine#[rfl,#[p,KF es,rfl,m,by rw[e];exact nd,by rw[zX];exact r,λt c=>?_],λx i h=>?_];. obtain⟨s,_,rfl⟩:=zL.mp c;exact#[_,rfl,yD rfl]
 . obtain⟨j,h1,o,rfl,rfl⟩:=h p (KF es) rfl m;rw[e] at h1;rw[Z7 (f:=oQ es) λs hs=>by obtain⟨v,g⟩:=oP (h1.mem_iff.mp hs);simp only[RB,oQ,HM,g,AH];rfl,iO,dX h1 o];exact q
def mkD (m:Option Str):PyData:=match m with | some z=>.str z | none=>.none
def mkX (l:List Str) (m:Option Str):List DS:=[.d (AM l),.d (mkD m)]
theorem vQ (e:mkX l m=mkX q t):l=q/\m=t:=by
 simp only[mkX,List.cons.injEq,DS.d.injEq,and_true] at e;refine#[FQ e.1,?_];have h:=e.2;cases m <;> cases t <;> simp only[mkD] at h;. rfl
 . cases h
 . cases h
 . cases h;rfl
structure MkQ (l:List Str) (m:Option Str):Prop where
 nm:∀n∈l,CW n
 mark:∀z,m=am z->CW z
 few:l.length < 60
def K7:FSp:=#[λt M=>∃(l:List Str) (m:Option Str),t=mkX l m/\MkQ l m,λt M y i=>∀(l:List Str) (m:Option Str),t=mkX l m->y = .d (wD (wM m l))/\i=M]
theorem IP (h:MkQ l m) (q:Q (.d (wD (wM m l))) M):(mkX l m).length=2/\K7.pre (mkX l m) M/\∀y i,K7.post (mkX l m) M y i->Q y i:=#[rfl,#[l,m,rfl,h],λy i o=>by obtain⟨rfl,rfl⟩:=o l m rfl;exact q]
def mkF (m:Option Str):PyData->PyData | .str n=>pcD (mkV m n).1 (mkV m n).2 | d=>d
theorem jE (m:Option Str) (l:List Str):JF QW (mkF m) (l.map .str)=tsD (OR m l):=by
 have t:∀(l:List Str) (ts:List Th),(l.map a0J).foldl (λts d=>IE ts (QW d) (mkF m d)) (tsD ts)=tsD (l.foldl (mkP m) ts):=λl=>by
   induction l with
   | nil=>exact λts=>rfl
   | cons x r e=> intro ts;show(r.map a0J).foldl _ (IE (tsD ts) x (pcD (mkV m x).1 (mkV m x).2))=_;rw[EG];exact e _
 exact t l []
def wO (o:Option (List Th)):PyData:=match o with | some w=>wD w | none=>.none
theorem LI {S:Type}{f:S->PyData}(h:∀x,plD (f x)=av):∀l:List S,plAll (l.map f)=av
 | []=>rfl
 | x::l=>by rw[zI];unfold plAll;rw[h x,LI h l];rfl
theorem eV {ys:List PyData}(h1:plAll xs=av) (t:plAll ys=av) (e:a0W (.tuple xs) (.tuple ys)=av):c0Z xs = .tuple ys:=bF _ _ (by unfold plD;exact h1) (by unfold plD;exact t) e
theorem vR (e:rowQ16 w Ds) (h:bhO w Ds=am v):CO v:=by
 rcases PB e Ds.length (zR _) with ⟨u,h1,t⟩ | ⟨h1,_⟩
 . have hb:=(VX e t).1;rw[eR e hb] at h;cases h;exact(pG #[e.fine,hb,e.few]).1
 . unfold bhO at h;rw[h1] at h;cases h
theorem NW (t:rowQ16 w Ds):zH (wO (bhO w Ds))=true:=by
 cases e:bhO w Ds with
 | none=>rfl
 | some v=>exact iI (vR t e)
theorem A2I (h1:rowQ16 w As) (r:rowQ16 w Bs):(!a0W (wO (bhO w As)) (wO (bhO w Bs)))=decide (bhO w As≠bhO w Bs):=by
 cases o:bhO w As with
 | none=>
   cases i:bhO w Bs with
   | none=>rfl
   | some v=>rfl
 | some u=>
   cases i:bhO w Bs with
   | none=>rfl
   | some v=>
     by_cases e:u=v;. subst e;rw[QU (by have:=NW h1;rw[o] at this;exact this),decide_eq_false (by simp)];rfl
     . rw[decide_eq_true (p:=am u≠am v) (λq=>e (Option.some.inj q)),Bool.not_eq_true'];refine Bool.eq_false_iff.mpr λq=>e (NM (eV (LI (λt=>rfl) u) (LI (λt=>rfl) v) q))
theorem A2J (t:Str×Ent):plD (lfE t)=true:=by obtain⟨n,p,q,c⟩:=t;have:plAll (q.map a0J)=true:=LI (λ_=>rfl) q;cases p <;> simp[lfE,plE,AM,plD,plAll,this]
theorem qK (E:Eff):plD E.d=true:=by have h1:plAll (E.st.map a0J)=true:=LI (λ_=>rfl) _;have e:plAll (E.fr.map a0J)=true:=LI (λ_=>rfl) _;have t:plAll (E.lf.map lfE)=true:=LI A2J _;simp[Eff.d,AM,plD,plAll,h1,e,t]
theorem vT (hn:AK ys) (h1:∀E,a=am E->OkE ys E):a0W (efO a) (efO a)=true:=QU (NU hn h1)
theorem vU (e:a≠b):a0W (efO a) (efO b)=false:=by
 cases a with
 | none=>
   cases b with
   | none=>exact absurd rfl e
   | some F=>rfl
 | some E=>
   cases b with
   | none=>rfl
   | some F=>exact Bool.eq_false_iff.mpr λq=>e (by rw[FC (bF _ _ (qK E) (qK F) q)])
def IQ:FSp:=#[λt M=>∃(w:List Th) (Ds:List Deed),t=J3 w Ds/\rowQ16 w Ds,λt M y i=>∀(w:List Th) (Ds:List Deed),t=J3 w Ds->y = .d (wO (bhO w Ds))/\i=M]
theorem KO (h:rowQ16 w Ds) (q:Q (.d (wO (bhO w Ds))) M):(J3 w Ds).length=2/\IQ.pre (J3 w Ds) M/\∀y i,IQ.post (J3 w Ds) M y i->Q y i:=#[rfl,#[w,Ds,rfl,h],λy i o=>by obtain⟨rfl,rfl⟩:=o w Ds rfl;exact q]
def N0 (Ds:List Deed):PyData:=.tuple (Ds.map Deed.d)
theorem K8 (e:N0 As=N0 Bs):As=Bs:=DF (by unfold N0 at e;rw[e])
def prX (w:List Th) (As Bs:List Deed):List DS:=[.d (wD w),.d (N0 As),.d (N0 Bs)]
theorem vV (e:prX w As Bs=prX t o X):w=t/\As=o/\Bs=X:=by simp only[prX,List.cons.injEq,DS.d.injEq,and_true] at e;exact#[NM e.1,K8 e.2.1,K8 e.2.2]
def K9:FSp:=#[λt M=>∃(w:List Th) (As Bs:List Deed),t=prX w As Bs/\rowQ16 w As/\rowQ16 w Bs,λt M y i=>∀(w:List Th) (As Bs:List Deed),t=prX w As Bs->y = .d (.bool (decide (bhO w As≠bhO w Bs)))/\i=M]
theorem W0 (h1:rowQ16 w As) (e:rowQ16 w Bs) (q:Q (.d (.bool (decide (bhO w As≠bhO w Bs)))) M):(prX w As Bs).length=3/\K9.pre (prX w As Bs) M/\∀y i,K9.post (prX w As Bs) M y i->Q y i:=#[rfl,#[w,As,Bs,rfl,h1,e],λy i o=>by obtain⟨rfl,rfl⟩:=o w As Bs rfl;exact q]
def tyX (a b:Option Eff):List DS:=[.d (efO a),.d (efO b)]
structure TryQ (ys:List Str) (a b:Option Eff):Prop where
 nm:AK ys
 one:∀E,a=am E->OkE ys E
 two:∀E,b=am E->OkE ys E
 any:FT a b≠[]
theorem vW (e:tyX a b=tyX N t):a=N/\b=t:=by simp only[tyX,List.cons.injEq,DS.d.injEq,and_true] at e;exact#[dZ e.1,dZ e.2]
def PD:FSp:=#[λt M=>∃(ys:List Str) (a b:Option Eff),t=tyX a b/\TryQ ys a b,λt M y i=>∀a b:Option Eff,t=tyX a b->y = .d (.list ((KG a b).map wD))/\i=M]
theorem bT (h:TryQ ys a b) (q:Q (.d (.list ((KG a b).map wD))) M):(tyX a b).length=2/\PD.pre (tyX a b) M/\∀y i,PD.post (tyX a b) M y i->Q y i:=#[rfl,#[ys,a,b,rfl,h],λy i o=>by obtain⟨rfl,rfl⟩:=o a b rfl;exact q]
def alX (As Bs:List Deed):List DS:=[.d (N0 As),.d (N0 Bs)]
theorem vX (e:alX As Bs=alX t X):As=t/\Bs=X:=by simp only[alX,List.cons.injEq,DS.d.injEq,and_true] at e;exact#[K8 e.1,K8 e.2]
structure AlQ (ys:List Str) (As Bs:List Deed):Prop where
 nm:AK ys
 one:∀D∈As,BL ys D
 two:∀D∈Bs,BL ys D
 few:ys.length+1+As.length < 60/\ys.length+1+Bs.length < 60
def eY (w:List Th):PyData:=.tuple [.str (a0Q "parted"),wD w]
def qL:PyData:=.tuple [.str (a0Q "alike")]
def alR (As Bs:List Deed) (d:PyData):Prop:=(B0 As=B0 Bs/\d=qL)\/(B0 As≠B0 Bs/\∃w∈KG (B0 As) (B0 Bs),bhO w As≠bhO w Bs/\d=eY w)
def FH:FSp:=#[λt M=>∃(ys:List Str) (As Bs:List Deed),t=alX As Bs/\AlQ ys As Bs,λt M y i=>∀As Bs:List Deed,t=alX As Bs->(∃d,y = .d d/\alR As Bs d)/\i=M]
theorem N1 (h:AlQ ys As Bs) (q:∀d,alR As Bs d->Q (.d d) M):(alX As Bs).length=2/\FH.pre (alX As Bs) M/\∀y i,FH.post (alX As Bs) M y i->Q y i:=#[rfl,#[ys,As,Bs,rfl,h],λy i o=>by obtain⟨⟨d,rfl,h1⟩,rfl⟩:=o As Bs rfl;exact q d h1]
theorem eZ (h:TryQ ys a b) (hE:E∈FT a b):OkE ys E:=by
 unfold FT at hE;rw[List.mem_filterMap] at hE;obtain⟨o,ho,e⟩:=hE;have e:o=am E:=e;subst e;rcases yX.mp ho with e | ho;. exact h.one E e.symm
 . exact h.two E (List.mem_singleton.mp ho).symm
theorem W1 (h:TryQ ys a b) (G:w∈KG a b):∃m l,w=wM m l/\(∀n∈l,n∈ys)/\l.length<=ys.length+1:=by
 have Y:∀E∈FT a b,OkE ys E:=λE hE=>eZ h hE;unfold KG at G;revert G Y;cases FT a b with
 | nil=>exact λG _=>nomatch G
 | cons E r=>
   intro G Y;have hE:=Y E a0Z;have few:∀{F:Eff},OkE ys F->F.st.length<=ys.length:=λ{F} hF=>JK hF.st.1 hF.st.2;simp only[GH,yW,List.mem_flatMap,zL] at G;rcases G with (⟨F,hF,rfl⟩ | ⟨F,hF,k,hk,rfl⟩) | ⟨k,hk,rfl⟩
   . exact#[ap,F.st,rfl,(Y F hF).st.2,Nat.le_succ_of_le (few (Y F hF))]
   . refine#[ap,E.st++[k],rfl,λn hn=>?_,by rw[yY];exact Nat.succ_le_succ (few hE)];rcases yW.mp hn with q | q;. exact hE.st.2 n q
     . rw[List.mem_singleton.mp q];exact(Y F hF).fr.2 k hk
   . exact#[am k,E.st,rfl,hE.st.2,Nat.le_succ_of_le (few hE)]
theorem A2K (s:Str) (m:Option Str):a0W (.str s) (mkD m)=decide (am s=m):=by
 cases m with
 | none=>rfl
 | some z=> show a0W (.str s) (.str z)=_;rw[MJ,a4J,decide_eq_true_iff,beq_iff_eq,Option.some.injEq]
theorem jF (h:∀z,m=am z->CW z):zH (mkD m)=true:=by
 cases m with
 | none=>rfl
 | some z=>exact BZ (h z rfl)
theorem vY (h:am s=m):mkF m (.str s) = .tuple [.int 1,.int 1]:=by simp only[mkF,mkV,if_pos h];rfl
theorem A2L (h:¬am s=m):mkF m (.str s) = .tuple [.int 0,.int 0]:=by simp only[mkF,mkV,if_neg h];rfl
def A3f (d:PyData):Bool:=!DW d
theorem jG:(([efO a,efO b].filter A3f).map id)=(FT a b).map Eff.d:=by cases a <;> cases b <;> rfl
def stF:PyData->PyData | .tuple (.tuple l::_)=>wD (wM ap (l.map QW)) | d=>d
def frF:PyData->List PyData | .tuple [_,.tuple l,_]=>l | _=>[]
theorem vZ (l:List Str):(l.map a0J).map QW=l:=by rw[zD];exact b6V _
theorem f6 (E:Eff):stF E.d=wD (wM ap E.st):=by show wD (wM ap ((E.st.map a0J).map QW))=_;rw[vZ]
theorem w6 (l:List Eff):(l.map Eff.d).map stF=(l.map λF=>wM ap F.st).map wD:=by rw[zD,zD];exact yM λE _=>f6 E
def w8 (st:List Str) (e:PyData):PyData:=wD (wM ap (st++[QW e]))
theorem w9 (st:List Str) (l:List Eff):((l.map Eff.d).flatMap λd=>(frF d).map (w8 st))=(l.flatMap λF=>F.fr.map λn=>wM ap (st++[n])).map wD:=by rw[List.flatMap_map,List.map_flatMap];refine congrArg (λf=>l.flatMap f) (funext λF=>?_);show(F.fr.map a0J).map (w8 st)=(F.fr.map λn=>wM ap (st++[n])).map wD;rw[zD,zD];rfl
def A3g (st:List Str) (e:PyData):PyData:=wD (wM (am (QW e)) st)
theorem qM (st:List Str):(st.map a0J).map (A3g st)=(st.map λn=>wM (am n) st).map wD:=by rw[zD,zD];rfl
theorem bU (a b:Option Eff):(FT a b).length<=2:=by cases a <;> cases b <;> simp[FT]
theorem qN (h:FT a b=E::r):KG a b=GH E (E::r):=by unfold KG;rw[h]
theorem bV (hn:AK ys) (h:∀n∈l,n∈ys) (t:l.length<=27) (e:∀z,m=am z->z∈ys):MkQ l m:=#[λn q=>hn.1 n (h n q),λz q=>hn.1 z (e z q),by lia]
theorem wA (h:AlQ ys As Bs) (hq:TryQ ys (B0 As) (B0 Bs)) (G:w∈KG (B0 As) (B0 Bs)):rowQ16 w As/\rowQ16 w Bs:=by obtain⟨m,l,rfl,h1,t⟩:=W1 hq G;have e:=VZ (m:=m) λn q=>h.nm.1 n (h1 n q);have o:=zN (pX (m:=m) (l:=l)) t;have:=h.few;exact#[#[e,by lia,λD hD=>(h.one D hD).1],#[e,by lia,λD hD=>(h.two D hD).1]]
theorem NX (h:AlQ ys As Bs) (e:B0 As≠B0 Bs):TryQ ys (B0 As) (B0 Bs)/\∃(J:Nat) (w:List Th),(KG (B0 As) (B0 Bs))[J]?=am w/\bhO w As≠bhO w Bs:=by
 have t:=NT h.nm h.one;have Z:=NT h.nm h.two;obtain⟨o,N,g⟩:=vO t Z (YS h.nm h.one) (YS h.nm h.two) e;have hq:TryQ ys (B0 As) (B0 Bs):=⟨h.nm,t,Z,λq=>by unfold KG at N;rw[q] at N;cases N⟩
 obtain⟨J,hJ⟩:=List.mem_iff_getElem?.mp N;obtain⟨m,l,j,h1,_⟩:=W1 hq N;have:=h.few;exact#[hq,J,o,hJ,jD h.nm h.one h.two (zs:=ys) (by rw[j];exact pY h1) (λ_ q=>q) (by lia) g]
theorem qO (hn:AK ys) {L:List Eff}(hL:L.length<=2) (h:∀F∈L,OkE ys F):((L.map Eff.d).flatMap λd=>(frF d).map (w8 st)).length<=60:=by refine zN (YW (n:=26) λd hd=>?_) (by rw[zX];lia);obtain⟨F,hF,rfl⟩:=zL.mp hd;rw[zX];show(F.fr.map a0J).length<=26;rw[zX];exact E3 hn (h F hF).fr
end
end DL
namespace L2
open PySem PySem.Spec PyProof.Rows PySem.SeqAt
def Z8 (as bs:List (Str×PyData)):Bool:=as.all λp=>match DL.BS bs p.1 with | some d=>a0W p.2 d | none=>ay
def RC (as bs:List (Str×PyData)):Bool:=as.length==bs.length&&Z8 as bs
def W3 (as:List (Str×PyData)):Prop:=∀p∈as,p.2.canLay0=av/\p.2.depth<=8
theorem qP (h:DL.BS bs k=am d):∃p∈bs,p.2=d:=by
 induction bs with
 | nil=>cases h
 | cons p r t=>
   unfold DL.BS at h;split at h;. exact#[p,a0Z ..,Option.some.inj h]
   . obtain⟨q,h1,e⟩:=t h;exact#[q,yV _ h1,e]
theorem RD {X:Cx}{A:bv}{pins:List (Addr×cr)}{σ:St}{H:Hp}{s:ax}{W:Addr->Prop}(I:Inv X pins σ H s) (hu:A.units+64 < ef) {bs:List (Str×PyData)}{Y:List (Key×V)}{b:List (Key×aw)}(hb:DKV X.K H W (DL.AF bs) Y) (O:KV Y b) (N:W3 bs) : ∀{as:List (Str×PyData)}{t:List (Key×V)}{m:List (Key×aw)},DKV X.K H W (DL.AF as) t->KV t m->W3 as->PySem.W.KeqHits A.in1 s b m (Z8 as bs)
 | [],t,m,g,Z,h=>by have g:DKV X.K H W [] t:=g;unfold DKV at g;subst g;cases Z;exact .nil
 | p::r,t,m,g,Z,h=>by
   have g:DKV X.K H W ((a0J p.1,p.2)::DL.AF r) t:=g;unfold DKV at g;obtain⟨T,v,ks,rfl,x,hd,hr⟩:=g;cases Z with
   | cons q ra'=>
     rename_i y ys;obtain⟨j,S⟩:=q;obtain⟨M,d8⟩:=h p (a0Z ..);obtain rfl:T=a1W p.1:=by
       cases T with
       | inl i=>cases x
       | inr z=>cases x;rfl
     obtain⟨y1,y2⟩:=y;simp only at j S;subst j;have e:=O.val (a1W p.1);unfold Z8;rw[List.all_cons];rcases DL.EL (k:=p.1) hb with ⟨d,w',n,c,J⟩ | ⟨n,c⟩
     . rw[c] at e;rw[n];generalize hva:gt b (a1W p.1)=o at e;cases o with
       | none=>cases e
       | some u=> have ru:RelV w' u:=e;obtain⟨f,L,rfl⟩:=qP n;have D:=(N f L).1;obtain⟨B,U⟩:=hd.reads I M S;obtain⟨G,r2⟩:=J.reads I D ru;exact PySem.W.KeqHits.hit hva (eqAt_reads p.2 f.2 A.in1 s _ _ B G U r2 M D (by have:min p.2.depth f.2.depth<=p.2.depth:=Nat.min_le_left _ _;show A.units+1+_ < ef;lia)) (RD I hu hb O N hr ra' λQ vt=>h Q (yV _ vt))
     . rw[c] at e;rw[n];generalize hva:gt b (a1W p.1)=o at e;cases o with
       | none=>exact PySem.W.KeqHits.miss hva
       | some u=>cases e
def rDG (K:Frg):R2:=λx y H Q=>∃(W:Addr->Prop) (as bs:List (Str×PyData)),DV K H W (.dict (DL.AF as)) x/\DV K H W (.dict (DL.AF bs)) y/\W3 as/\W3 bs/\Q (.bl (!RC as bs)) H
theorem A3h (hu:X.A.units+64 < ef):OpR X (bj .NotEq) (rDG X.K):=by
 intro pins s M H x y v u Q I L f h;obtain⟨W,as,bs,h1,n,m,p,q⟩:=h;unfold DV at h1 n;obtain⟨a,N,rfl,_,g,O⟩:=h1;obtain⟨b,Y,rfl,_,hb,t⟩:=n;cases L;cases f;obtain⟨_,S,k,Z,i⟩:=GZ I.hok g;obtain⟨_,T,z,o,c⟩:=GZ I.hok hb;have j:k.length=as.length:=by have j:=Z.length;have e:=DL.GB O;simp only[DL.AF,zX] at e;lia
 have r:z.length=bs.length:=by have j:=o.length;have e:=DL.GB t;simp only[DL.AF,zX] at e;lia
 refine PySem.W.keq_ne (knd:=AT X.prog X.w) S T i c (by lia) (λ_=>RD I hu t o p O Z m) ?_;rw[j,r];exact#[.bl (!RC as bs),H,I,rfl,q]
theorem N2 (u:s.TypeIs (.ref l) "dict") (hq:Q .notImplemented s) :
   wpAny (model P w) A (call (.builtin "dict.__ne__") [.ref l,.none]) Q E s:=by refine ce PySem.F.slot_dict_ne u PySem.F.entry_dict_ne ?_ (PySem.F.args_dict_ne_2 _ _);show wpAny _ _ (Builtin.Dict.dictSlotArgs "__ne__" #[[.ref l,.none],[]] >>= _) _ _ s;refine zZ ?_;unfold Builtin.Dict.dictSlotArgs;refine zZ (wpAny_notOrdered_dict u ?_);show wpAny _ _ (pure (a0X l,a0V)) _ _ s;refine zY (zZ (wpAny_isInstance (T:= "NoneType") (show s.TypeIs .none "NoneType" from rfl) PySem.F.sub_NoneType_dict ?_));simp only[Bool.not_false,if_true];exact zZ (dc (zY #[_,rfl,hq]))
def rDZ:R2:=λx y H Q=>∃(a:Addr) (e:List (Key×V)),Rd H a (.dK e)/\((x = .ref a/\y = .non)\/(x = .non/\y = .ref a))/\Q (.bl av) H
theorem A3i (hu:X.A.units+64 < ef):OpR X (bj .NotEq) rDZ:=by
 intro pins s m H x y v u Q I L Z h;obtain⟨a,i,g,n,q⟩:=h;obtain⟨_,S,r,o,t⟩:=GZ I.hok g;have e:=t.typeIs;rcases n with ⟨rfl,rfl⟩ | ⟨rfl,rfl⟩
 . cases L;cases Z;exact rc_ne_decline_or (k:=ay) (Tb:= "NoneType") e rfl (by decide) PySem.F.sub_NoneType_dict PySem.F.slot_dict_ne PySem.F.slot_NoneType_ne_refl (λ_ hq=>N2 e hq) (λ_ hq=>call_gives PySem.F.slot_NoneType_ne_refl rfl PySem.F.entry_NoneType_ne (PySem.F.args_NoneType_ne_2 _ _) (NoneType___ne___none_ref_0 a) hq) (λ_ hq=>fx (rfl:isSame (.ref a) .none=pure ay) hq) (.inr (by lia)) #[.bl av,H,I,rfl,q]
 . cases L;cases Z;exact rc_ne_decline_or (k:=ay) (Ta:= "NoneType") rfl e (by decide) PySem.F.sub_dict_NoneType PySem.F.slot_NoneType_ne PySem.F.slot_dict_ne_refl (λ_ hq=>call_gives PySem.F.slot_NoneType_ne rfl PySem.F.entry_NoneType_ne (PySem.F.args_NoneType_ne_2 _ _) (NoneType___ne___none_ref_0 a) hq) (λ_ hq=>N2 e hq) (λ_ hq=>fx (rfl:isSame .none (.ref a)=pure ay) hq) (.inr (by lia)) #[.bl av,H,I,rfl,q]
end L2
namespace DL
open PySem PySem.Spec L2
def A3j (K:Frg):R2:=λx y H Q=>UT K av x y H Q\/rDG K x y H Q\/rDZ x y H Q
theorem A4U {X:Cx}{K:Frg}(h:X.K=K) (hu:X.A.units+64 < ef):OpR X (bj .NotEq) (A3j K):=by
 subst h;intro pins s e H x y v u Q I L Z h;rcases h with h | h | h;. exact l9 hu pins s e H x y v u Q I L Z h
 . exact A3h hu pins s e H x y v u Q I L Z h
 . exact A3i hu pins s e H x y v u Q I L Z h
section
theorem qQ (h:D2 K (UT K av) x y M Q):D2 K (A3j K) x y M Q:=λH v u QQ q r e k=>.inl (h H v u QQ q r e k)
end
end DL
namespace DL
open PySem PySem.Spec L2 XC
section
variable {M:Own}{Q:DS->Own->Prop}{L:List Int}{a k n:Nat}{ys:List Str}{w u v:List Th}{D:Deed}{As Bs Ds:List Deed}{z:Str}{p c:Int}
theorem f7 (w:List Th):W3 (tsD w):=λp hp=>by
 unfold tsD at hp;obtain⟨t,_,rfl⟩:=zL.mp hp;refine#[?_,?_];. simp[pcD,PyData.canLay0,b4V]
 . simp[pcD,a3Z,a4Z]
theorem A2M (a b c d:Int):a0W (pcD a b) (pcD c d)=av↔(a,b)=(c,d):=by
 constructor;. intro h;have:=eV (xs:=[.int a,.int b]) (ys:=[.int c,.int d]) rfl rfl h;simpa using this
 . rintro⟨⟩;exact QU rfl
theorem wB (o:(u.map (·.1)).Nodup) (b:(v.map (·.1)).Nodup):RC (tsD u) (tsD v)=av↔∀n,AA u n=AA v n:=by
 have step:∀t:Th,(match BS (tsD v) t.1 with | some d=>a0W (pcD t.2.1 t.2.2) d | none=>ay)=av↔AA v t.1=am t.2:=λt=>by
   rw[AO];cases AA v t.1 with
   | none=>exact#[λh=>(nomatch h),λh=>(nomatch h)]
   | some x=> show a0W (pcD t.2.1 t.2.2) (pcD x.1 x.2)=av↔_;rw[A2M];exact#[λh=>congrArg am h.symm,λh=>(Option.some.inj h).symm]
 have O:∀x:List Th,(tsD x).length=x.length:=λx=>by unfold tsD;rw[zX]
 unfold RC;rw[a1Z,beq_iff_eq,O,O];have r:Z8 (tsD u) (tsD v)=av↔∀t∈u,AA v t.1=am t.2:=by unfold Z8;rw[show tsD u=u.map λt=>(t.1,pcD t.2.1 t.2.2) from rfl];rw[List.all_map,b0X];exact#[λh t e=>(step t).mp (h t e),λh t e=>(step t).mpr (h t e)]
 rw[r];constructor
 . rintro⟨h1,i⟩ n;by_cases hn:n∈u.map (·.1);. obtain⟨t,e,rfl⟩:=zL.mp hn;rw[i t e,AX o e]
   . have:n∉v.map (·.1):=λm=>by
       have:=JK (l:=n::u.map (·.1)) (ys:=v.map (·.1)) (xU.mpr #[hn,o]) λx hx=>by
         rcases yX.mp hx with rfl | hx;. exact m
         . obtain⟨t,e,rfl⟩:=zL.mp hx;rw[BA,i t e];rfl
       rw[yR,zX,zX] at this;lia
     rw[BA,Bool.not_eq_true,Option.isSome_eq_false_iff,Option.isNone_iff_eq_none] at hn this;rw[hn,this]
 . intro h;have hk:∀n,n∈u.map (·.1)↔n∈v.map (·.1):=λn=>by rw[BA,BA,h]
   refine#[?_,λt e=>by rw[<-h,AX o e]];have:=(((a8X o b).mpr hk).length_eq)
   rwa [zX,zX] at this
def A3k (x y:Option (List Th)):Bool:=match x,y with
 | some a,am b=>!RC (tsD a) (tsD b)
 | none,ap=>ay
 | _,_=>av
theorem wC (i:∀v,AY w As=am v->(v.map (·.1)).Nodup) (x:∀v,AY w Bs=am v->(v.map (·.1)).Nodup):A3k (AY w As) (AY w Bs)=av↔bhO w As≠bhO w Bs:=by
 unfold bhO;cases o:AY w As with
 | none=>
   cases t:AY w Bs with
   | none=>exact#[λh=>(nomatch h),λh=>absurd rfl h]
   | some b=>exact#[λ_ h=>(nomatch h),λ_=>rfl]
 | some a=>
   cases t:AY w Bs with
   | none=>exact#[λ_ h=>(nomatch h),λ_=>rfl]
   | some b=>
     have e:=i a o;have Y:=x b t;show(!RC (tsD a) (tsD b))=av↔am (AZ a)≠am (AZ b);rw[Bool.not_eq_true',<-Bool.not_eq_true,wB e Y];refine not_congr #[λh=>congrArg am ?_,λh n=>?_];. exact NP e (DZ Y) λn=>by rw[ER Y,h]
     . rw[<-ER e,<-ER Y,Option.some.inj h]
end
end DL
namespace DL
open PySem PySem.Spec L2 XC
section
theorem U4:∀Ds:List Deed,Ds.foldl KM ap=ap
 | []=>rfl
 | _::r=>U4 r
theorem jH (T:JP u o r) (e:JP v o s) (h:AA u=AA v):(r=ap/\s=ap)\/∃x y,r=am x/\s=am y/\AA x=AA y:=by
 unfold JP at T e;cases o with
 | none=>exact .inl #[T,e]
 | some E=>
   simp only at T e;cases r with
   | none=>
     cases s with
     | none=>exact .inl #[rfl,rfl]
     | some y=>rw[h] at T;exact absurd e.1 T
   | some x=>
     cases s with
     | none=>rw[h] at T;exact absurd T.1 e
     | some y=>exact .inr #[x,y,rfl,rfl,funext λn=>by rw[T.2,e.2,h]]
end
end DL
namespace DL
open PySem PySem.Spec L2 XC
def D6 (D:Deed) (g:Gt):Prop:=∀n∈D.names,(g n).isSome=av
instance (D:Deed) (g:Gt):Decidable (D6 D g):=inferInstanceAs (Decidable (∀n∈D.names,(g n).isSome=av))
def doL:Deed->Gt->Gt
 | .take x,g=>λn=>if n=x then ap else g n
 | .move x p,g=>λn=>if n=x then (g x).map λv=>(p,v.2) else g n
 | .count x k,g=>λn=>if n=x then (g x).map λv=>(v.1,v.2+k) else g n
 | .join x y,g=>λn=>if n=y then ap else if n=x then (g x).map λv=>(v.1,v.2+((g y).getD (0,0)).2) else g n
 | _,g=>g
def HS:Deed->Prop | .take _=>True | .move _ _=>True | .count _ _=>True | .join x y=>x≠y | _=>False
def KP (o:Option Gt) (D:Deed):Option Gt:=o.bind λg=>if D6 D g then am (doL D g) else ap
def BJ (g:Gt) (Ds:List Deed):Option Gt:=Ds.foldl KP (am g)
section
variable {w v:List Th}{x0 x y z:Str}{zs:List Str}{g:Gt}{D:Deed}{Ds As Bs:List Deed}{p k:Int}
theorem RE (h:(w.map (·.1)).Nodup):((BU w x).map (·.1)).Nodup:=by rw[EO];exact h.filter _
theorem f8 (h:(w.map (·.1)).Nodup):((E6 w x k).map (·.1)).Nodup:=by
 unfold E6;cases AA w x with
 | none=>exact h
 | some v=>exact VU h
theorem RF (n:Str):AA (E6 w x k) n=if n=x then (AA w x).map λv=>(v.1,v.2+k) else AA w n:=by
 unfold E6;cases e:AA w x with
 | none=>
   by_cases q:n=x;. subst q;rw[if_pos rfl,e];rfl
   . rw[if_neg q]
 | some v=>rw[EQ];rfl
theorem A3l (e:HS D) (hc:D6 D (AA w)) (hn:(w.map (·.1)).Nodup):((doT w D).map (·.1)).Nodup/\∀n,AA (doT w D) n=doL D (AA w) n:=by
 cases D with
 | take x=>exact#[RE hn,λn=>HF w x n]
 | count x k=>exact#[f8 hn,λn=>RF n]
 | move x p=>
   obtain⟨u,hu⟩:=xX.mp (hc x (by simp[Deed.names]));show((match AA w x with | some v=>CD w x p v.2 | none=>w:List Th).map (·.1)).Nodup/\∀n,AA (match AA w x with | some v=>CD w x p v.2 | none=>w) n=if n=x then (AA w x).map λv=>(p,v.2) else AA w n
   rw[hu];exact#[VU hn,λn=>EQ ..]
 | join x y=>
   obtain⟨u,hu⟩:=xX.mp (hc y (by simp[Deed.names]));show((match AA w y with | some v=>BU (E6 w x v.2) y | none=>w:List Th).map (·.1)).Nodup/\∀n,AA (match AA w y with | some v=>BU (E6 w x v.2) y | none=>w) n=if n=y then ap else if n=x then (AA w x).map λv=>(v.1,v.2+((AA w y).getD (0,0)).2) else AA w n
   rw[hu];refine#[RE (f8 hn),λn=>?_];show AA (BU (E6 w x u.2) y) n=_;rw[HF,RF];rfl
 | _=>exact e.elim
theorem IR (t:HS D):AJ (w.map (·.1)) D=ap↔D6 D (AA w):=by
 have e:D.made=none:=by cases D <;> first | rfl | exact t.elim
 rw[U0];unfold D6;constructor;. intro h n hn;exact BA.mp ((h n hn).mpr (by rw[e];simp))
 . intro h n hn;exact#[λ_=>by rw[e];simp,λ_=>BA.mpr (h n hn)]
theorem EB:∀Ds:List Deed,Ds.foldl KP ap=ap
 | []=>rfl
 | D::Ds=>EB Ds
theorem HU:BJ g (As++Bs)=(BJ g As).bind λh=>BJ h Bs:=by
 unfold BJ;rw[a6X];cases As.foldl KP (am g) with
 | none=>exact EB _
 | some h=>rfl
theorem HV:∀{Ds:List Deed}{w:List Th},(∀D∈Ds,HS D)->(w.map (·.1)).Nodup->(BJ (AA w) Ds=ap/\AY w Ds=ap)\/∃v,AY w Ds=am v/\(v.map (·.1)).Nodup/\BJ (AA w) Ds=am (AA v)
 | [],w,_,hn=>.inr #[w,rfl,hn,rfl]
 | D::Ds,w,e,hn=>by
   have hD:=e D (by simp);by_cases hc:D6 D (AA w)
   . obtain⟨a,b⟩:=A3l hD hc hn;have j:AY w (D::Ds)=AY (doT w D) Ds:=by show Ds.foldl KM (if AJ (w.map (·.1)) D=ap then am (doT w D) else ap)=_;rw[if_pos ((IR hD).mpr hc)];rfl
     have h:BJ (AA w) (D::Ds)=BJ (AA (doT w D)) Ds:=by show Ds.foldl KP (if D6 D (AA w) then am (doL D (AA w)) else ap)=_;rw[if_pos hc,show AA (doT w D)=doL D (AA w) from funext b];rfl
     rw[j,h];exact HV (λE hE=>e E (yV _ hE)) a
   . refine .inl #[?_,?_];. show Ds.foldl KP (if D6 D (AA w) then am (doL D (AA w)) else ap)=ap;rw[if_neg hc];exact EB _
     . show Ds.foldl KM (if AJ (w.map (·.1)) D=ap then am (doT w D) else ap)=ap;rw[if_neg λq=>hc ((IR hD).mp q)];exact U4 _
theorem A3m (h:(w.map (·.1)).Nodup):w.Nodup:=(List.pairwise_map.mp h).imp λ{a b} e q=>e (by rw[q])
theorem qR (e:(w.map (·.1)).Nodup) (n:(v.map (·.1)).Nodup) (h:AA w=AA v):AZ w=AZ v:=by
 have hp:w.Perm v:=(a8X (A3m e) (A3m n)).mpr λt=>by
   constructor;. intro q;have:=AX e q;rw[h] at this;exact CK (k:=t.1) (v:=t.2) this
   . intro q;have:=AX n q;rw[<-h] at this;exact CK (k:=t.1) (v:=t.2) this
 exact QH ((BG w).trans (hp.trans (BG v).symm)) (DZ e) (DZ n)
theorem W4 (r:∀D∈As,HS D) (hb:∀D∈Bs,HS D) (hn:(w.map (·.1)).Nodup) (h:BJ (AA w) As=BJ (AA w) Bs):bhO w As=bhO w Bs:=by
 unfold bhO;rcases HV r hn with ⟨o,i⟩ | ⟨u,o,i,T⟩
 . rcases HV hb hn with ⟨e,t⟩ | ⟨v,e,t,n⟩
   . rw[i,t]
   . rw[<-h,o] at n;cases n
 . rcases HV hb hn with ⟨e,t⟩ | ⟨v,e,t,n⟩
   . rw[<-h,T] at e;cases e
   . rw[<-h,T] at n;rw[o,e];exact congrArg am (qR i t (Option.some.inj n))
theorem RG (hn:AK ys) (hA:∀D∈As,BL ys D) (hB:∀D∈Bs,BL ys D) (m:∀D∈As,HS D) (hb:∀D∈Bs,HS D) (G:(w.map (·.1)).Nodup) (h:BJ (AA w) As≠BJ (AA w) Bs):B0 As≠B0 Bs:=λe=>h (by
 have j:=HQ hn w _ As rfl hA;have b:=HQ hn w _ Bs rfl hB;rw[<-e] at b;rcases jH j b rfl with ⟨c,d⟩ | ⟨x,y,c,d,f⟩
 . rcases HV m G with ⟨n,o⟩ | ⟨u,n,o,T⟩
   . rcases HV hb G with ⟨t,i⟩ | ⟨v,t,i,r⟩
     . rw[n,t]
     . rw[d] at t;cases t
   . rw[c] at n;cases n
 . rcases HV m G with ⟨n,o⟩ | ⟨u,n,o,T⟩
   . rw[c] at o;cases o
   . rcases HV hb G with ⟨t,i⟩ | ⟨v,t,i,r⟩
     . rw[d] at i;cases i
     . rw[c] at n;rw[d] at t;obtain rfl:=Option.some.inj n;obtain rfl:=Option.some.inj t;rw[T,r,f])
def EC (x0:Str) (t:Bool×Str):Deed:=if t.1=av then .join x0 t.2 else .take t.2
def LJ (L:List (Bool×Str)) (g:Gt):Int:=(L.map λt=>if t.1=av then ((g t.2).getD (0,0)).2 else 0).sum
def RH (x0:Str) (L:List (Bool×Str)) (k:Int) (g:Gt):Gt:=λn=>if n=x0 then (g x0).map λv=>(v.1,v.2+(k+LJ L g)) else if n∈L.map (·.2) then ap else g n
theorem U5 :∀{L:List (Bool×Str)},(∀n∈L.map (·.2),g n=h n)->LJ L g=LJ L h
 | [],_=>rfl
 | t::L,e=>by unfold LJ;rw[zI,zI,a2J,a2J,e t.2 (by simp)];have:=U5 (L:=L) λn hn=>e n (by rw[zI];exact yV _ hn);unfold LJ at this;rw[this]
theorem f9:∀{L:List (Bool×Str)}{g:Gt},(L.map (·.2)).Nodup->x0∉L.map (·.2)->(g x0).isSome=av->((∀n∈L.map (·.2),(g n).isSome=av)/\BJ g (L.map (EC x0))=am (RH x0 L 0 g))\/(¬(∀n∈L.map (·.2),(g n).isSome=av)/\BJ g (L.map (EC x0))=ap)
 | [],g,_,_,hx=>.inl #[by simp,congrArg am (funext λn=>by
     unfold RH;by_cases e:n=x0;. subst e;obtain⟨u,hu⟩:=xX.mp hx;rw[if_pos rfl,hu];show am u=am (u.1,u.2+(0+0));rw[Int.zero_add,b5V]
     . rw[if_neg e];simp)]
 | (b,y)::L,g,nd,r,hx=>by
   rw[zI] at nd r;obtain⟨S,I⟩:=xU.mp nd;have j:x0≠y:=λe=>r (by rw[e];simp);have m:x0∉L.map (·.2):=λe=>r (yV _ e);have hc:D6 (EC x0 (b,y)) g↔(g y).isSome=true:=by
     unfold EC D6;cases b with
     | true=>
       show(∀n∈[x0,y],(g n).isSome=av)↔_;exact#[λq=>q y (by simp),λq n hn=>by
         simp only[yX,xW,or_false] at hn;rcases hn with rfl | rfl;. exact hx
         . exact q]
     | false=> show(∀n∈[y],(g n).isSome=av)↔_;exact#[λq=>q y (by simp),λq n hn=>by rw[show n=y by simpa using hn];exact q]
   have B:BJ g (((b,y)::L).map (EC x0))=if D6 (EC x0 (b,y)) g then BJ (doL (EC x0 (b,y)) g) (L.map (EC x0)) else none:=by
     show(L.map (EC x0)).foldl KP (if D6 (EC x0 (b,y)) g then am (doL (EC x0 (b,y)) g) else ap)=_;split;. rfl
     . exact EB _
   rw[B];by_cases hy:(g y).isSome=av
   . rw[if_pos (hc.mpr hy)];have T:∀n,n≠x0->n≠y->doL (EC x0 (b,y)) g n=g n:=λn h1 c=>by
       unfold EC;cases b with
       | true=>show(if n=y then ap else if n=x0 then _ else g n)=g n;rw[if_neg c,if_neg h1]
       | false=>show(if n=y then ap else g n)=g n;rw[if_neg c]
     have G:doL (EC x0 (b,y)) g y=none:=by
       unfold EC;cases b with
       | true=>show(if y=y then ap else _)=ap;rw[if_pos rfl]
       | false=>show(if y=y then ap else _)=ap;rw[if_pos rfl]
     have N:doL (EC x0 (b,y)) g x0=(g x0).map λv=>(v.1,v.2+if b=av then ((g y).getD (0,0)).2 else 0):=by
       unfold EC;cases b with
       | true=>show(if x0=y then ap else if x0=x0 then _ else g x0)=_;rw[if_neg j,if_pos rfl];rfl
       | false=> show(if x0=y then ap else g x0)=_;rw[if_neg j];obtain⟨u,hu⟩:=xX.mp hx;rw[hu];show am u=am (u.1,u.2+0);rw[b5V]
     have same:∀n∈L.map (·.2),doL (EC x0 (b,y)) g n=g n:=λn hn=>T n (λe=>m (e▸hn)) (λe=>S (e▸hn));have O:(∀n∈L.map (·.2),(doL (EC x0 (b,y)) g n).isSome=av)↔∀n∈((b,y)::L).map (·.2),(g n).isSome=true:=by
       constructor
       . intro q n hn;rw[zI] at hn;rcases yX.mp hn with rfl | hn;. exact hy
         . rw[<-same n hn];exact q n hn
       . intro q n hn;rw[same n hn];exact q n (by rw[zI];exact yV _ hn)
     have M:(doL (EC x0 (b,y)) g x0).isSome=true:=by rw[N,a1J];exact hx
     rcases f9 I m M with ⟨t,o⟩ | ⟨t,o⟩
     . refine .inl #[O.mp t,?_];rw[o];refine congrArg am (funext λn=>?_);unfold RH;rw[U5 same,N];by_cases e:n=x0;. rw[if_pos e,if_pos e,Option.map_map];refine congrArg (λf=>Option.map f (g x0)) (funext λv=>?_);show(v.1,v.2+(if b=av then _ else 0)+(0+LJ L g))=(v.1,v.2+(0+LJ ((b,y)::L) g));unfold LJ;rw[zI,a2J];congr 1;show v.2+(if b=av then ((g y).getD (0,0)).2 else 0)+(0+_)=v.2+(0+((if b=av then ((g y).getD (0,0)).2 else 0)+_));lia
       . rw[if_neg e,if_neg e,zI];by_cases h:n∈L.map (·.2);. rw[if_pos h,if_pos (yV _ h)]
         . rw[if_neg h];by_cases i:n=y;. subst i;rw[G,if_pos (by simp)]
           . rw[T n e i,if_neg (by simp[i];simpa using h)]
     . exact .inr #[λq=>t (O.mpr q),o]
   . rw[if_neg λq=>hy (hc.mp q)];exact .inr #[λq=>hy (q y (by simp)),rfl]
def AW (x0:Str) (L:List (Bool×Str)):List Deed:=.count x0 0::L.map (EC x0)
def BQ (x0:Str) (cs:List Int):List Deed:=cs.map (Deed.count x0)
theorem qS (hx:(g x0).isSome=av):BJ g [.count x0 k]=am λn=>if n=x0 then (g x0).map λv=>(v.1,v.2+k) else g n:=by show(if D6 (.count x0 k) g then am (doL (.count x0 k) g) else ap)=_;rw[if_pos (show D6 (.count x0 k) g from λn hn=>by rw[show n=x0 by simpa [Deed.names] using hn];exact hx)];rfl
theorem U6:∀{cs:List Int}{g:Gt},(g x0).isSome=av->BJ g (BQ x0 cs)=am λn=>if n=x0 then (g x0).map λv=>(v.1,v.2+cs.sum) else g n
 | [],g,hx=>congrArg am (funext λn=>by
     by_cases e:n=x0;. subst e;obtain⟨u,hu⟩:=xX.mp hx;rw[if_pos rfl,hu];show am u=am (u.1,u.2+0);rw[b5V]
     . rw[if_neg e])
 | c::cs,g,hx=>by
   have O:BJ g (BQ x0 (c::cs))=(BJ g [.count x0 c]).bind λh=>BJ h (BQ x0 cs):=HU (As:=[.count x0 c]);rw[O,qS hx];show BJ _ (BQ x0 cs)=_;rw[U6 (by rw[if_pos rfl,a1J];exact hx)];refine congrArg am (funext λn=>?_);by_cases e:n=x0;. rw[if_pos e,if_pos e,if_pos rfl,Option.map_map];refine congrArg (λf=>Option.map f (g x0)) (funext λv=>?_);show(v.1,v.2+c+cs.sum)=(v.1,v.2+(c::cs).sum);rw[a2J];congr 1;lia
   . rw[if_neg e,if_neg e,if_neg e]
theorem DJ (nd:(L.map (·.2)).Nodup) (r:x0∉L.map (·.2)):((∀n∈x0::L.map (·.2),(g n).isSome=av)/\BJ g (AW x0 L++BQ x0 cs)=am (RH x0 L cs.sum g))\/(¬(∀n∈x0::L.map (·.2),(g n).isSome=av)/\BJ g (AW x0 L++BQ x0 cs)=ap):=by
 by_cases hx:(g x0).isSome=av
 . have j:BJ g (AW x0 L++BQ x0 cs)=(BJ g (L.map (EC x0))).bind λh=>BJ h (BQ x0 cs):=by
     rw[HU];congr 1;show(L.map (EC x0)).foldl KP (if D6 (.count x0 0) g then am (doL (.count x0 0) g) else ap)=_;rw[if_pos (show D6 (.count x0 0) g from λn hn=>by rw[show n=x0 by simpa [Deed.names] using hn];exact hx)];have:doL (.count x0 0) g=g:=funext λn=>by
       show(if n=x0 then (g x0).map λv=>(v.1,v.2+0) else g n)=g n;split;. rename_i e;subst e;obtain⟨u,hu⟩:=xX.mp hx;rw[hu];show am (u.1,u.2+0)=am u;rw[b5V]
       . rfl
     rw[this];rfl
   rw[j];rcases f9 nd r hx with ⟨a,b⟩ | ⟨a,b⟩
   . refine .inl #[λn hn=>(yX.mp hn).elim (λe=>e▸hx) (a n),?_];rw[b];show BJ _ (BQ x0 cs)=_;have t:RH x0 L 0 g x0=(g x0).map λv=>(v.1,v.2+(0+LJ L g)):=if_pos rfl;rw[U6 (by rw[t,a1J];exact hx)];refine congrArg am (funext λn=>?_);rw[t];unfold RH;by_cases e:n=x0;. rw[if_pos e,if_pos e,Option.map_map];refine congrArg (λf=>Option.map f (g x0)) (funext λv=>?_);show(v.1,v.2+(0+LJ L g)+cs.sum)=(v.1,v.2+(cs.sum+LJ L g));congr 1;lia
     . rw[if_neg e,if_neg e,if_neg e]
   . rw[b];exact .inr #[λq=>a λn hn=>q n (yV _ hn),rfl]
 . refine .inr #[λq=>hx (q x0 (by simp)),?_];rw[HU];show((L.map (EC x0)).foldl KP (if D6 (.count x0 0) g then am (doL (.count x0 0) g) else ap)).bind _=ap;rw[if_neg λq=>hx (q x0 (by simp[Deed.names])),EB];rfl
theorem ED (r:x0∉L.map (·.2)):∀D∈AW x0 L++BQ x0 cs,HS D:=λD hD=>by
 rcases yW.mp hD with h | h
 . rcases yX.mp h with rfl | h;. trivial
   . obtain⟨⟨b,y⟩,u,rfl⟩:=zL.mp h;unfold EC;cases b with
     | false=>trivial
     | true=>exact λe=>r (zL.mpr #[_,u,e.symm])
 . obtain⟨c,_,rfl⟩:=zL.mp h;trivial
theorem U7 (hn:AK ys) (hx:x0∈ys) (r:x0∉L.map (·.2)) (hL:∀n∈L.map (·.2),n∈ys):∀D∈AW x0 L++BQ x0 cs,BL ys D:=λD hD=>by
 have cnt:∀c,BL ys (.count x0 c):=λc=>#[#[λn h=>by rw[show n=x0 by simpa [Deed.names] using h];exact hn.1 _ hx,trivial,trivial],λn h=>by rw[show n=x0 by simpa [Deed.names] using h];exact hx]
 rcases yW.mp hD with h | h
 . rcases yX.mp h with rfl | h;. exact cnt 0
   . obtain⟨⟨b,y⟩,u,rfl⟩:=zL.mp h;have hy:y∈ys:=hL y (zL.mpr #[_,u,rfl]);unfold EC;cases b with
     | false=>exact#[#[λn h=>by rw[show n=y by simpa [Deed.names] using h];exact hn.1 _ hy,trivial,trivial],λn h=>by rw[show n=y by simpa [Deed.names] using h];exact hy]
     | true=>
       have two:∀n,n∈Deed.names (.join x0 y)->n=x0\/n=y:=λn h=>by simpa [Deed.names] using h
       exact#[#[λn h=>(two n h).elim (λe=>e▸hn.1 _ hx) (λe=>e▸hn.1 _ hy),λe=>r (zL.mpr #[_,u,e.symm]),trivial],λn h=>(two n h).elim (λe=>e▸hx) (λe=>e▸hy)]
 . obtain⟨c,_,rfl⟩:=zL.mp h;exact cnt c
theorem bW {a:List Int}(h:a.Perm b):a.sum=b.sum:=by
 induction h with
 | nil=>rfl
 | cons x _ e=>rw[a2J,a2J,e]
 | swap x y l=>rw[a2J,a2J,a2J,a2J];lia
 | trans _ _ ih1 ih2=>rw[ih1,ih2]
theorem jI (hp:L.Perm L'):LJ L g=LJ L' g:=bW (hp.map _)
theorem jJ (hp:L.Perm L'):RH x0 L k g=RH x0 L' k g:=funext λn=>by
 unfold RH;rw[jI hp];have:n∈L.map (·.2)↔n∈L'.map (·.2):=(hp.map _).mem_iff;by_cases e:n∈L.map (·.2);. rw[if_pos e,if_pos (this.mp e)]
 . rw[if_neg e,if_neg λq=>e (this.mpr q)]
theorem jK (nd:(L.map (·.2)).Nodup) (r:x0∉L.map (·.2)) (hp:L.Perm L'):BJ g (AW x0 L++BQ x0 cs)=BJ g (AW x0 L'++BQ x0 cs):=by
 have mem:∀n,n∈L.map (·.2)↔n∈L'.map (·.2):=λn=>(hp.map _).mem_iff;have j:(L'.map (·.2)).Nodup:=((hp.map _).nodup_iff).mp nd;rcases DJ (g:=g) (cs:=cs) nd r with ⟨a,b⟩ | ⟨a,b⟩
 . rcases DJ (g:=g) (cs:=cs) j (λq=>r ((mem _).mpr q)) with ⟨c,d⟩ | ⟨c,d⟩
   . rw[b,d,jJ hp]
   . exact absurd (λn hn=>a n ((yX.mp hn).elim (λe=>by rw[e];exact a0Z) λq=>yV _ ((mem n).mpr q))) c
 . rcases DJ (g:=g) (cs:=cs) j (λq=>r ((mem _).mpr q)) with ⟨c,d⟩ | ⟨c,d⟩
   . exact absurd (λn hn=>c n ((yX.mp hn).elim (λe=>by rw[e];exact a0Z) λq=>yV _ ((mem n).mp q))) a
   . rw[b,d]
def w29 (zs:List Str) (z:Option Str):List Th:=zs.map λn=>(n,0,if am n=z then 1 else 0)
theorem bX (h:zs.Nodup):((w29 zs o).map (·.1)).Nodup:=by unfold w29;rw[zD];show(zs.map λn=>n).Nodup;rw[List.map_id'];exact h
theorem RI (h:zs.Nodup) (hn:n∈zs):AA (w29 zs o) n=am (0,if am n=o then 1 else 0):=
 AX (t:=(n,0,if am n=o then 1 else 0)) (bX h) (zL.mpr #[n,hn,rfl])
theorem fA (h:zs.Nodup) (hL:∀n∈L.map (·.2),n∈zs) (o:Option Str):LJ L (AA (w29 zs o))=(L.map λt=>if t.1=av/\am t.2=o then (1:Int) else 0).sum:=by
 unfold LJ;congr 1;refine yM λt u=>?_;rw[RI h (hL _ (zL.mpr #[t,u,rfl]))];cases B:t.1 with
 | false=>simp
 | true=>simp
theorem W5:∀{L:List (Bool×Str)},(L.map (·.2)).Nodup->∀{z:Str},(L.map λt=>if t.1=av/\am t.2=am z then (1:Int) else 0).sum=if (av,z)∈L then 1 else 0
 | [],_,z=>by simp
 | (b,y)::L,nd,z=>by
   rw[zI] at nd;obtain⟨n1,i⟩:=xU.mp nd;rw[zI,a2J,W5 i];by_cases e:y=z
   . subst e;have m:∀c,(c,y)∉L:=λc q=>n1 (zL.mpr #[_,q,rfl]);cases b with
     | true=>rw[if_pos #[rfl,rfl],if_neg (m av),if_pos (by simp)];rfl
     | false=>rw[if_neg (by simp),if_neg (m av),if_neg (by simp[m av])];rfl
   . rw[if_neg (by rintro⟨_,q⟩;exact e (Option.some.inj q)),Int.zero_add];by_cases q:(av,z)∈L;. rw[if_pos q,if_pos (yV _ q)]
     . rw[if_neg q,if_neg (by simp[q,a4K e])]
theorem Z9 (nd:(L.map (·.2)).Nodup) (j:(L'.map (·.2)).Nodup) (r:x0∉L.map (·.2)) (hp:(L.map (·.2)).Perm (L'.map (·.2))) (hz:¬((av,z)∈L↔(av,z)∈L')):∃w:List Th,(w.map (·.1)).Nodup/\BJ (AA w) (AW x0 L++BQ x0 [])≠BJ (AA w) (AW x0 L'++BQ x0 cs):=by
 have M:x0∉L'.map (·.2):=λq=>r (hp.mem_iff.mpr q);have Z:(x0::L.map (·.2)).Nodup:=xU.mpr #[r,nd];have I:∀n∈L.map (·.2),n∈x0::L.map (·.2):=λn h=>yV _ h;have m:∀n∈L'.map (·.2),n∈x0::L.map (·.2):=λn h=>yV _ (hp.mem_iff.mpr h);have look:∀{o:Option Str},BJ (AA (w29 (x0::L.map (·.2)) o)) (AW x0 L++BQ x0 [])=BJ (AA (w29 (x0::L.map (·.2)) o)) (AW x0 L'++BQ x0 cs)->(L.map λt=>if t.1=av/\am t.2=o then (1:Int) else 0).sum=cs.sum+(L'.map λt=>if t.1=av/\am t.2=o then (1:Int) else 0).sum:=λ{o} e=>by
   have all:∀n∈x0::L.map (·.2),(AA (w29 (x0::L.map (·.2)) o) n).isSome=true:=λn hn=>by rw[RI Z hn];rfl
   have f:∀n∈x0::L'.map (·.2),(AA (w29 (x0::L.map (·.2)) o) n).isSome=true:=λn hn=>all n ((yX.mp hn).elim (λq=>q▸a0Z) (m n));rcases DJ (g:=AA (w29 (x0::L.map (·.2)) o)) (cs:=[]) nd r with ⟨_,b⟩ | ⟨a,_⟩
   . rcases DJ (g:=AA (w29 (x0::L.map (·.2)) o)) (cs:=cs) j M with ⟨_,d⟩ | ⟨c,_⟩
     . rw[b,d] at e;have i:=congrFun (Option.some.inj e) x0;unfold RH at i;rw[if_pos rfl,if_pos rfl,RI Z a0Z,fA Z I,fA Z m] at i;have u:=congrArg Prod.snd (Option.some.inj i);simp only[List.sum_nil] at u;lia
     . exact absurd f c
   . exact absurd all a
 by_cases h0:cs.sum=0
 . refine#[w29 (x0::L.map (·.2)) (am z),bX Z,λe=>hz ?_];have:=look e;rw[W5 nd,W5 j,h0] at this;by_cases a:(av,z)∈L
   . by_cases b:(av,z)∈L';. exact#[λ_=>b,λ_=>a]
     . rw[if_pos a,if_neg b] at this;lia
   . by_cases b:(av,z)∈L';. rw[if_neg a,if_pos b] at this;lia
     . exact#[λq=>absurd q a,λq=>absurd q b]
 . refine#[w29 (x0::L.map (·.2)) ap,bX Z,λe=>h0 ?_];have:=look e;have zero:∀L:List (Bool×Str),(L.map λt=>if t.1=av/\am t.2=(ap:Option Str) then (1:Int) else 0).sum=0:=λL=>by
     induction L with
     | nil=>rfl
     | cons t L T=>rw[zI,a2J,T,if_neg (by simp)];rfl
   rw[zero,zero] at this;lia
theorem U8 (nd:(L.map (·.2)).Nodup) (j:(L'.map (·.2)).Nodup) (r:x0∉L.map (·.2)) (hp:(L.map (·.2)).Perm (L'.map (·.2))) (G:(w.map (·.1)).Nodup) (h:bhO w (AW x0 L++BQ x0 [])≠bhO w (AW x0 L'++BQ x0 cs)):∀n∈x0::L.map (·.2),(AA w n).isSome=true:=by
 have M:x0∉L'.map (·.2):=λq=>r (hp.mem_iff.mpr q);rcases DJ (g:=AA w) (cs:=[]) nd r with ⟨a,_⟩ | ⟨a,b⟩
 . exact a
 . rcases DJ (g:=AA w) (cs:=cs) j M with ⟨c,_⟩ | ⟨_,d⟩
   . exact λn hn=>c n ((yX.mp hn).elim (λq=>q▸a0Z) λq=>yV _ (hp.mem_iff.mp q))
   . exact absurd (W4 (ED r) (ED M) G (by rw[b,d])) h
theorem N3 (nd:(L.map (·.2)).Nodup) (r:x0∉L.map (·.2)) (G:(w.map (·.1)).Nodup) (h:∀n∈x0::L.map (·.2),(AA w n).isSome=av):∃v,AY w (AW x0 L++BQ x0 cs)=am v/\(v.map (·.1)).Nodup/\(AA v x0).isSome=true:=by
 rcases DJ (g:=AA w) (cs:=cs) nd r with ⟨_,b⟩ | ⟨a,_⟩
 . rcases HV (ED r) G with ⟨c,_⟩ | ⟨v,c,d,e⟩
   . rw[b] at c;cases c
   . refine#[v,c,d,?_];rw[b] at e;rw[<-Option.some.inj e];unfold RH;rw[if_pos rfl,a1J];exact h x0 a0Z
 . exact absurd h a
theorem LK:∀{As:List Deed}{g:Gt},(∀D∈As,∃n p,D = .move n p/\n≠x0)->BJ g As=ap\/∃h,BJ g As=am h/\h x0=g x0
 | [],g,_=>.inr #[g,rfl,rfl]
 | D::As,g,hA=>by
   obtain⟨n,p,rfl,e⟩:=hA D (by simp);have O:BJ g (Deed.move n p::As)=if D6 (.move n p) g then BJ (doL (.move n p) g) As else none:=by
     show As.foldl KP (if D6 (.move n p) g then am (doL (.move n p) g) else ap)=_;split;. rfl
     . exact EB _
   rw[O];split
   . rcases LK (As:=As) (g:=doL (.move n p) g) λE hE=>hA E (yV _ hE) with h | ⟨h,a,b⟩
     . exact .inl h
     . exact .inr #[h,a,by rw[b];exact if_neg (a4K e)]
   . exact .inl rfl
end
end DL
namespace L2
open PySem PySem.Spec
section
theorem qT {S L:Type}(f:S->L):∀(l:List S) (j:Nat),(l.map f).eraseIdx j=(l.eraseIdx j).map f
 | [],_=>rfl
 | _::_,0=>rfl
 | a::l,j+1=>by rw[zI,b9K,b9K,zI,qT f l j]
end
end L2
namespace L2
open PySem PySem.Spec
def A3n (K:Frg):R2:=λx y H Q=>∃(W:Addr->Prop) (as bs:List (Str×PyData)),DV K H W (.dict (DL.AF as)) x/\DV K H W (.dict (DL.AF bs)) y/\W3 as/\W3 bs/\Q (.bl (RC as bs)) H
theorem A2N (hu:X.A.units+64 < ef):OpR X (bj .Eq) (A3n X.K):=by
 intro pins s M H x y v u Q I L f h;obtain⟨W,as,bs,h1,n,m,p,q⟩:=h;unfold DV at h1 n;obtain⟨a,N,rfl,_,g,O⟩:=h1;obtain⟨b,Y,rfl,_,hb,t⟩:=n;cases L;cases f;obtain⟨_,S,k,Z,i⟩:=GZ I.hok g;obtain⟨_,T,z,o,c⟩:=GZ I.hok hb;have j:k.length=as.length:=by have j:=Z.length;have e:=DL.GB O;simp only[DL.AF,zX] at e;lia
 have r:z.length=bs.length:=by have j:=o.length;have e:=DL.GB t;simp only[DL.AF,zX] at e;lia
 refine PySem.W.keq_eq (knd:=AT X.prog X.w) S T i c (by lia) (λ_=>RD I hu t o p O Z m) ?_;rw[j,r];exact#[.bl (RC as bs),H,I,rfl,q]
def A3o (K:Frg):R2:=λx y H Q=>UT K ay x y H Q\/A3n K x y H Q
theorem A4V {X:Cx}{K:Frg}(h:X.K=K) (hu:X.A.units+64 < ef):OpR X (bj .Eq) (A3o K):=by
 subst h;intro pins s e H x y v u Q I L Z h;rcases h with h | h;. exact l8 hu pins s e H x y v u Q I L Z h
 . exact A2N hu pins s e H x y v u Q I L Z h
end L2
namespace DL
open PySem PySem.Spec L2 XC
section
theorem A2O (e:W3 as) (y:W3 bs) (q:Q (.d (.bool (RC as bs))) M):D2 K (A3o K) (.d (.dict (AF as))) (.d (.dict (AF bs))) M Q:=λH v u QQ S r t k=>
 .inr #[M.W,as,bs,r,t,e,y,k _ H (.d (.bool (RC as bs))) M S AN Step.refl q]
theorem bY (h:DA K n ρ M λxs M1=>∃i j:Int,xs=[.d (.int i),.d (.int j)]/\(-(2 ^ 40)<=i/\i < 2 ^ 40/\-(2 ^ 40)<=j/\j < 2 ^ 40)/\(j - i).toNat<=1000/\∀p,M1 p=ap->Q (.loc p) (M1.put p (.l (iL i j)))):DE K (dU n) ρ M Q:=λg H QQ X k=>
 h g H _ X λvs u xs M1 O c x Y=>by
   obtain⟨i,j,f,hb,hn,q⟩:=Y;subst f;obtain⟨v,r,rfl,t,z,y,rfl,e,rfl⟩:=c;unfold SI DV at t e;subst t;subst e;refine#[i,j,rfl,hb,hn,λp hp=>?_];have o:iL i j=((a0K (j - i).toNat).map λk:Nat=>i+(k:Int)).map b4W:=by unfold iL;rw[zD];rfl
   have m:bE i j=((a0K (j - i).toNat).map λk:Nat=>i+(k:Int)).map V.int:=by unfold bE;rw[zD];rfl
   obtain⟨a,b⟩:=MC (vs:=bE i j) (ds:=iL i j) O hp (by rw[o,m];exact JI);exact k _ _ (.loc p) _ a rfl (x.trans b) (q p (O.none hp))
end
end DL
namespace DL
open PySem PySem.Spec L2 XC
theorem A2P {X:Cx}:MtR X "list.pop" a6:=kQ
section
variable {K:Frg}{M:Own}{Q:DS->Own->Prop}{p:Addr}{ys zs:List Str}{x0:Str}{L L':List (Bool×Str)}{w:List Th}{As Bs:List Deed}{o:MO}
theorem U9 :∀(j:Nat) {ds:List PyData}{vs:List V},DVs K H W ds vs->DVs K H W (ds.eraseIdx j) (vs.eraseIdx j)
 | _,[],vs,h=>by unfold DVs at h;subst h;exact DVs.nil
 | 0,d::ds,vs,h=>by unfold DVs at h;obtain⟨v,r,rfl,h1,e⟩:=h;exact e
 | j+1,d::ds,vs,h=>by unfold DVs at h;obtain⟨v,r,rfl,h1,e⟩:=h;exact DVs.cons h1 (U9 j e)
theorem qU (m:M a=am (.l ds)) (c:ds[j]?=am d) (hs:j < 1000000) (q:Q (.d d) (M.put a (.l (ds.eraseIdx j)))):DM K a6 (.loc a) [.d (.int (j:Nat))] M Q:=λH v T QQ t n g f=>by obtain⟨u,r,rfl,h1,b⟩:=g;cases b;unfold SI at n;subst n;obtain⟨k,h0,hd⟩:=t a _ m;unfold SI DV at h1;subst h1;obtain⟨y,e,h⟩:=hd.get' c;have z:j < k.length:=(yT.mp e).1;obtain⟨x,i⟩:=E5 (vs':=k.eraseIdx j) t m (U9 j hd);refine#[a,k,(j:Nat),j,y,rfl,rfl,h0,by lia,by lia,?_,e,f _ _ (.d d) _ x (by unfold SI;exact h.grow i.grow) i q];unfold seqIndex?;simp;lia
theorem A2Q (h:1<=z.cps.size):sl (a0Q "") z=true:=by
 unfold sl;show b1V [] z.cps.toList=av;cases e:z.cps.toList with
 | nil=>rw[<-a4W,e] at h;exact absurd h (by decide)
 | cons a r=>rfl
theorem qV (h:Ris (w.map (·.1))) (hk:w[k]?=am t) (hu:w[k+1]?=am u):sl t.1 u.1=true:=by unfold Ris at h;rw[b2Q] at h;obtain⟨a,rfl⟩:=yT.mp hk;obtain⟨b,rfl⟩:=yT.mp hu;exact List.pairwise_iff_getElem.mp h k (k+1) a b (Nat.lt_succ_self k)
theorem qW :M.put q (.l ((BQ x cs).map Deed.d++[.tuple [.str (a0Q "count"),.str x,.int c]]))=M.put q (.l ((BQ x (cs++[c])).map Deed.d)):=by unfold BQ;rw[xH,xH];rfl
theorem bZ {p:Int}(hx:x∈w.map (·.1)) (h:x≠y):BU (CD w x p c) y=CD (BU w y) x p c:=by
 have n:(w.any λt=>decide (t.1=x))=true:=by obtain⟨t,u,e⟩:=zL.mp hx;exact List.any_eq_true.mpr #[t,u,decide_eq_true e]
 have g:((BU w y).any λt=>decide (t.1=x))=true:=by obtain⟨t,u,e⟩:=zL.mp hx;exact List.any_eq_true.mpr #[t,yL.mpr #[u,decide_eq_true (by rw[e];exact h)],decide_eq_true e]
 unfold CD;rw[if_pos n,if_pos g];unfold BU;rw[xT];congr 1;refine List.filter_congr λt _=>?_;show decide ((if t.1=x then (t.1,p,c) else t).1≠y)=_;split <;> rfl
theorem NY {p:Int}(hx:x∈w.map (·.1)):(CD w x p c).length=w.length:=by have:=congrArg b9J (LA (p:=p) (c:=c) hx);rwa [zX,zX] at this
theorem LL :(BU w x).length<=w.length:=yJ _ _
def dgX (ns:List Int) (k:Nat):List DS:=[.d (.list (ns.map .int)),.d (.int k)]
def D7:FSp:=#[λt M=>∃(e:List Int) (k:Nat),t=dgX e k/\e.length<=63/\(∀i∈e,xI i<=2 ^ 20)/\k<=3,λt M y n=>n=M/\∃v:Int,y = .d (.int v)]
theorem GI (h1:ns.length<=63) (t:∀i∈ns,xI i<=2 ^ 20) (n:k<=3) (q:∀v:Int,Q (.d (.int v)) M):(dgX ns k).length=2/\D7.pre (dgX ns k) M/\∀x e,D7.post (dgX ns k) M x e->Q x e:=#[rfl,#[ns,k,rfl,h1,t,n],λx e h=>by obtain⟨rfl,v,rfl⟩:=h;exact q v]
def KA:FSp:=#[λt M=>∃(p:Addr) (o:MO),t=[.loc p]/\M p=am o/\EM o,λt M y i=>∀p,t=[.loc p]->∃ys o,y = .d (VB ys)/\AK ys/\ys.length=12/\EM o/\i=M.put p o]
theorem W6 (m:M p=am o) (ho:EM o) (q:∀ys N,AK ys->ys.length=12->EM N->Q (.d (VB ys)) (M.put p N)):[DS.loc p].length=1/\KA.pre [.loc p] M/\∀x i,KA.post [.loc p] M x i->Q x i:=#[rfl,#[p,o,rfl,m,ho],λx i h=>by obtain⟨ys,N,rfl,a,b,c,rfl⟩:=h p rfl;exact q ys N a b c]
def JR (bits:Nat) (i:Nat):Bool:=bits/2 ^ i % 2==1
def W7 (bits:Nat) (zs:List Str):List (Bool×Str):=(a0K zs.length).filterMap λi=>zs[i]?.map λz=>(JR bits (i+1),z)
def DN (Ds:List Deed):PyData:=.list (Ds.map Deed.d)
theorem LM {S e:Type}{f g:S->Option e}:∀{l:List S},(∀x∈l,f x=g x)->l.filterMap f=l.filterMap g
 | [],_=>rfl
 | a::l,h=>by rw[a2V,a2V,h a (by simp),LM λx hx=>h x (yV _ hx)]
theorem qX {l:List Str}(nd:l.Nodup) (hi:i < l.length) (h:j < l.length) (e:l[i]=l[j]):i=j:=by
 rcases b5K i j with q | q | q;. exact absurd e (List.pairwise_iff_getElem.mp nd i j hi h q)
 . exact q
 . exact absurd e.symm (List.pairwise_iff_getElem.mp nd j i h hi q)
theorem N4 (b i:Nat):JR b i=b.testBit i:=by unfold JR;rw[Nat.testBit_eq_decide_div_mod_eq,a4J,beq_iff_eq,decide_eq_true_iff]
theorem fB (i:Nat) (hn:1 < n):(2 ^ n - 2).testBit i=decide (1<=i/\i < n):=by
 have h1:(1:Nat) < 2 ^ n:=Nat.one_lt_two_pow (by lia);have:=Nat.testBit_two_pow_sub_succ h1 i;rw[show 2 ^ n - 2=2 ^ n - (1+1) from rfl,this];cases i with
 | zero=>simp
 | succ i=>
   have:Nat.testBit 1 (i+1)=false:=by rw[Nat.testBit_succ];simp
   rw[this];simp
theorem UA (hn:1 < n):b &&& (2 ^ n - 2)=c &&& (2 ^ n - 2)↔∀i,1<=i->i < n->JR b i=JR c i:=by
 constructor;. intro h i h1 e;have:=congrArg (λx=>x.testBit i) h;simp only[Nat.testBit_and,fB i hn,decide_eq_true (show 1<=i/\i < n from #[h1,e]),Bool.and_true] at this;rw[N4,N4];exact this
 . intro h;refine Nat.eq_of_testBit_eq λi=>?_;rw[Nat.testBit_and,Nat.testBit_and,fB i hn];by_cases q:1<=i/\i < n;. rw[decide_eq_true q,Bool.and_true,Bool.and_true,<-N4,<-N4];exact h i q.1 q.2
   . rw[decide_eq_false q,Bool.and_false,Bool.and_false]
theorem wE (hn:1 < n):(1:Int)*2 ^ ((n:Nat):Int).toNat - 2=((2 ^ n - 2:Nat):Int):=by
 have h1:(2:Nat)<=2 ^ n:=zN (show 2<=2 ^ 1 by decide) (Nat.pow_le_pow_right (by decide) (by lia));rw[a2W,Int.one_mul,Int.natCast_sub h1]
 norm_cast
theorem A3p {b c m:Nat}:decide (Builtin.bitAnd (b:Int) (m:Int)=Builtin.bitAnd (c:Int) (m:Int))=decide (b &&& m=c &&& m):=by rw[b7K (a5Z _) (a5Z _),b7K (a5Z _) (a5Z _),a2W,a2W,a2W,a4J,decide_eq_true_iff,decide_eq_true_iff];exact Int.ofNat_inj
theorem qY (h:∀i,i < zs.length->JR b (i+1)=JR c (i+1)):W7 b zs=W7 c zs:=by unfold W7;refine LM λi hi=>?_;rw[h i (List.mem_range.mp hi)]
theorem fC (b:Nat) (zs:List Str):(W7 b zs).map (·.2)=zs:=by
 unfold W7;rw[List.map_filterMap];refine b2X λi=>?_;have e:(a0K zs.length).filterMap (λx=>Option.map (λx=>x.2) (Option.map (λz=>(JR b (x+1),z)) zs[x]?))=(a0K zs.length).filterMap λx=>zs[x]?:=LM λx _=>by rw[Option.map_map];cases zs[x]? <;> rfl
 rw[e,TX]
theorem fD (nd:zs.Nodup) (h:zs[i]?=am z):(av,z)∈W7 b zs↔JR b (i+1)=true:=by
 unfold W7;rw[List.mem_filterMap];constructor
 . rintro⟨j,g,e⟩;cases t:zs[j]? with
   | none=>rw[t] at e;cases e
   | some y=> rw[t] at e;have e:=Option.some.inj e;have m:JR b (j+1)=true:=congrArg Prod.fst e;have c:y=z:=congrArg Prod.snd e;subst c;obtain⟨r,h1⟩:=yT.mp t;obtain⟨n,f⟩:=yT.mp h;have:j=i:=qX nd r n (by rw[h1,f]);rw[<-this];exact m
 . intro q;refine#[i,List.mem_range.mpr (yT.mp h).1,?_];rw[h,q];rfl
def NZ (R:List Nat):List PyData:=R.map λi=>.int ((i+1:Nat):Int)
theorem qZ (n:Nat):iL 1 ((n+1:Nat):Int)=NZ (a0K n):=by unfold iL NZ;rw[show(((n+1:Nat):Int) - 1).toNat=n by lia];refine yM λi _=>?_;show b4W (1+(i:Int)) = .int ((i+1:Nat):Int);congr 1;lia
def tkB (bits:Nat) (zs:List Str) (J:List Nat):List (Bool×Str):=J.filterMap λi=>zs[i]?.map λz=>(JR bits (i+1),z)
theorem ZA (h:zs[i]?=am z):tkB bits zs (J++[i])=tkB bits zs J++[(JR bits (i+1),z)]:=by unfold tkB;rw[List.filterMap_append];congr 1;show [i].filterMap _=_;rw[a2V,h];rfl
theorem UB :AW x0 (L++[t])=AW x0 L++[EC x0 t]:=by unfold AW;rw[xH];rfl
theorem UC {S:Type}:∀{l:List S}{j:Nat}(h:j < l.length),(l[j]::l.eraseIdx j).Perm l
 | a::l,0,_=>.refl _
 | a::l,j+1,h=>by rw[List.getElem_cons_succ,b9K];exact(List.Perm.swap a _ _).trans ((UC (l:=l) (by simpa using h)).cons a)
theorem r6 (h:(J++R).Perm (a0K n)) (e:R[j]?=am i):((J++[i])++R.eraseIdx j).Perm (a0K n)/\i < n:=by obtain⟨m,rfl⟩:=yT.mp e;have hp:(R[j]::R.eraseIdx j).Perm R:=UC m;refine#[?_,List.mem_range.mp (h.mem_iff.mp (zB _ (a3J m)))];rw[b5J];exact(hp.append_left J).trans h
theorem wF {bits:Nat}:decide (Builtin.bitAnd ((bits:Int)/2 ^ (((i+1:Nat):Int)).toNat) 1=1)=JR bits (i+1):=by
 have e:(bits:Int)/2 ^ (((i+1:Nat):Int)).toNat=((bits/2 ^ (i+1):Nat):Int):=by rw[a2W];exact_mod_cast rfl
 rw[e,b7K (a5Z _) (by decide),a2W,show(1:Int).toNat=1 from rfl,Nat.and_one_is_mod];unfold JR;rw[a4J,decide_eq_true_iff,beq_iff_eq];lia
def puX (p:Addr) (ys:List Str) (bits:Nat):List DS:=[.loc p,.d (VB ys),.d (.int bits)]
def IS:FSp:=#[λt M=>∃(p:Addr) (o:MO) (x0:Str) (zs:List Str) (bits:Nat),t=puX p (x0::zs) bits/\M p=am o/\EM o/\zs.length<=12/\bits < 4096,λt M y i=>∀(p:Addr) (x0:Str) (zs:List Str) (bits:Nat),t=puX p (x0::zs) bits->∃L o,y = .d (DN (AW x0 L))/\L.Perm (W7 bits zs)/\EM o/\i=M.put p o]
theorem OT (m:M p=am o) (ho:EM o) (e:zs.length<=12) (hb:bits < 4096) (q:∀L N,L.Perm (W7 bits zs)->EM N->Q (.d (DN (AW x0 L))) (M.put p N)):(puX p (x0::zs) bits).length=3/\IS.pre (puX p (x0::zs) bits) M/\∀x i,IS.post (puX p (x0::zs) bits) M x i->Q x i:=#[rfl,#[p,o,x0,zs,bits,rfl,m,ho,e,hb],λx i h=>by obtain⟨L,N,rfl,a,b,rfl⟩:=h p x0 zs bits rfl;exact q L N a b]
def ctX (x:Str) (m:Int):List DS:=[.d (.str x),.d (.int m)]
def IT:FSp:=#[λt M=>∃(x:Str) (m:Int),t=ctX x m,λt M y i=>∀(x:Str) (m:Int),t=ctX x m->∃D:List Int,y = .d (DN (BQ x D))/\D.length<=28/\i=M]
theorem ZB (q:∀cs:List Int,cs.length<=28->Q (.d (DN (BQ x cs))) M):(ctX x m).length=2/\IT.pre (ctX x m) M/\∀y i,IT.post (ctX x m) M y i->Q y i:=#[rfl,#[x,m,rfl],λy i h=>by obtain⟨cs,rfl,a,rfl⟩:=h x m rfl;exact q cs a]
def gnX (w:List Th) (Ds:List Deed):List DS:=[.d (wD w),.d (DN Ds)]
structure Go29 (w:List Th) (Ds:List Deed):Prop where
 nd:(w.map (·.1)).Nodup
 few:w.length < 60/\Ds.length < 60
 HS:∀D∈Ds,HS D
def HW:FSp:=#[λt M=>∃(w:List Th) (B:List Deed),t=gnX w B/\Go29 w B,λt M y i=>∀(w:List Th) (B:List Deed),t=gnX w B->y = .d (bM (AY w B))/\i=M]
theorem GJ (h:Go29 w As) (q:Q (.d (bM (AY w As))) M):(gnX w As).length=2/\HW.pre (gnX w As) M/\∀y i,HW.post (gnX w As) M y i->Q y i:=#[rfl,#[w,As,rfl,h],λy i e=>by obtain⟨rfl,rfl⟩:=e w As rfl;exact q]
def KB:FSp:=#[λt M=>∃w:List Th,t=[.d (wD w)]/\CO w/\w.length < 60,λt M y i=>y = .d (.bool av)/\i=M]
theorem W8 (h:CO w) (m:w.length < 60) (q:Q (.d (.bool av)) M):[DS.d (wD w)].length=1/\KB.pre [.d (wD w)] M/\∀y i,KB.post [.d (wD w)] M y i->Q y i:=#[rfl,#[w,rfl,h,m],λy i e=>by obtain⟨rfl,rfl⟩:=e;exact q]
def ptX (As Bs:List Deed):List DS:=[.d (DN As),.d (DN Bs)]
structure Par29 (ys:List Str) (As Bs:List Deed):Prop where
 al:AlQ ys As Bs
 ea:∀D∈As,HS D
 eb:∀D∈Bs,HS D
 un:B0 As≠B0 Bs
 both:∀w:List Th,(w.map (·.1)).Nodup->bhO w As≠bhO w Bs->∃u v,AY w As=am u/\AY w Bs=am v
def wG (w u v:List Th):PyData:=.tuple [wD w,wQ u,wQ v]
def FU:FSp:=#[λt M=>∃(ys:List Str) (As Bs:List Deed),t=ptX As Bs/\Par29 ys As Bs,λt M y i=>∀As Bs:List Deed,t=ptX As Bs->∃w u v:List Th,y = .d (wG w u v)/\CO w/\w.length < 60/\bhO w As≠bhO w Bs/\i=M]
theorem KQ (h:Par29 ys As Bs) (q:∀w u v:List Th,CO w->w.length < 60->bhO w As≠bhO w Bs->Q (.d (wG w u v)) M):(ptX As Bs).length=2/\FU.pre (ptX As Bs) M/\∀y i,FU.post (ptX As Bs) M y i->Q y i:=#[rfl,#[ys,As,Bs,rfl,h],λy i e=>by obtain⟨w,u,v,rfl,a,b,c,rfl⟩:=e As Bs rfl;exact q w u v a b c]
def UD (ns:List Int) (ys:List Str):List DS:=[.d (.list (ns.map .int)),.d (VB ys)]
def smP (xs:List DS):Prop:=∃(e:List Int) (ys:List Str),xs=UD e ys/\e.length<=63/\(∀i∈e,xI i<=2 ^ 20)/\AK ys/\ys.length=12
def ES:FSp:=#[λt M=>smP t,λt M y i=>y = .d (.bool av)/\i=M]
theorem OU (h:smP xs) (q:Q (.d (.bool av)) M):xs.length=2/\ES.pre xs M/\∀y i,ES.post xs M y i->Q y i:=#[by obtain⟨t,ys,rfl,_⟩:=h;rfl,h,λy i e=>by obtain⟨rfl,rfl⟩:=e;exact q]
end
end DL
namespace DL
open PySem PySem.Spec L2 XC
section
variable {w v:List Th}{x0 x y z:Str}{zs ys:List Str}{g:Gt}{D:Deed}{As Bs:List Deed}{p k:Int}
theorem A0D (hA:∀D∈As,∃n q,D = .move n q/\n≠x0):(BJ g (As++[.move x0 p])=ap/\BJ g (As++[.count x0 0])=ap)\/∃h v,g x0=am v/\h x0=am v/\BJ g As=am h/\BJ g (As++[.move x0 p])=am (doL (.move x0 p) h)/\BJ g (As++[.count x0 0])=am (doL (.count x0 0) h):=by
 rw[HU,HU];rcases LK (g:=g) hA with h | ⟨h,a,b⟩
 . exact .inl #[by rw[h];rfl,by rw[h];rfl]
 . rw[a];have e:∀D:Deed,(am h).bind (λh=>BJ h [D])=if D6 D h then am (doL D h) else none:=λD=>rfl
   rw[e,e];cases hg:g x0 with
   | none=>
     have t:∀D:Deed,x0∈D.names->¬D6 D h:=λD hD c=>by have:=c x0 hD;rw[b,hg] at this;cases this
     exact .inl #[if_neg (t _ a0Z),if_neg (t _ a0Z)]
   | some v=>
     have f:∀D:Deed,D.names=[x0]->D6 D h:=λD hD n hn=>by rw[hD] at hn;rw[List.mem_singleton.mp hn,b,hg];rfl
     exact .inr #[h,v,rfl,by rw[b,hg],rfl,if_pos (f _ rfl),if_pos (f _ rfl)]
theorem r8:∀{As:List Deed}{g:Gt},(∀D∈As,∃n q,D = .move n q/\(g n).isSome=av)->∃h,BJ g As=am h
 | [],g,_=>#[g,rfl]
 | D::As,g,hA=>by
   obtain⟨n,q,rfl,hn⟩:=hA D (by simp);have O:BJ g (Deed.move n q::As)=if D6 (.move n q) g then BJ (doL (.move n q) g) As else none:=by
     show As.foldl KP (if D6 (.move n q) g then am (doL (.move n q) g) else ap)=_;split;. rfl
     . exact EB _
   rw[O,if_pos (show D6 (.move n q) g from λm e=>by rw[show m=n from List.mem_singleton.mp e];exact hn)];refine r8 λE hE=>?_;obtain⟨m,r,rfl,e⟩:=hA E (yV _ hE);refine#[m,r,rfl,?_];show(if m=n then (g n).map λv=>(q,v.2) else g m).isSome=av;split;. rw[a1J];exact hn
   . exact e
def plW (ys:List Str) (p:Int):List Th:=ys.map λn=>(n,p,0)
theorem r9 (h:ys.Nodup):((plW ys p).map (·.1)).Nodup:=by unfold plW;rw[zD];show(ys.map λn=>n).Nodup;rw[List.map_id'];exact h
theorem ZC (h:ys.Nodup) (hn:n∈ys):AA (plW ys p) n=am (p,0):=
 AX (t:=(n,p,0)) (r9 h) (zL.mpr #[n,hn,rfl])
structure Ahd (ys:List Str) (x0:Str) (As:List Deed):Prop where
 nm:AK ys
 at0:x0∈ys
 all:∀D∈As,∃n q,D = .move n q/\n≠x0/\n∈ys/\0<=q/\q<=999
 few:As.length<=12/\ys.length<=12
theorem Ahd.mv (h:Ahd ys x0 As):∀D∈As,∃n q,D = .move n q/\n≠x0:=λD hD=>by obtain⟨n,q,a,b,_⟩:=h.all D hD;exact#[n,q,a,b]
theorem PF (h:Ahd ys x0 As) (e:HS D):∀E∈As++[D],HS E:=λE hE=>by
 rcases yW.mp hE with q | q;. obtain⟨n,r,rfl,_⟩:=h.all E q;trivial
 . rw[List.mem_singleton.mp q];exact e
theorem fE (hn:AK ys) (hx:x∈ys) (hp:0<=p/\p<=999):BL ys (.move x p):=#[#[λn h=>by rw[show n=x by simpa [Deed.names] using h];exact hn.1 _ hx,trivial,hp],λn h=>by rw[show n=x by simpa [Deed.names] using h];exact hx]
theorem wH (hn:AK ys) (hx:x∈ys):BL ys (.count x k):=#[#[λn h=>by rw[show n=x by simpa [Deed.names] using h];exact hn.1 _ hx,trivial,trivial],λn h=>by rw[show n=x by simpa [Deed.names] using h];exact hx]
theorem fF (h:Ahd ys x0 As) (e:BL ys D):∀E∈As++[D],BL ys E:=λE hE=>by
 rcases yW.mp hE with q | q;. obtain⟨n,r,rfl,_,a,b⟩:=h.all E q;exact fE h.nm a b
 . rw[List.mem_singleton.mp q];exact e
theorem fG (h:Ahd ys x0 As) (G:(w.map (·.1)).Nodup) (r:bhO w (As++[.move x0 p])≠bhO w (As++[.count x0 0])):(∃u v,AY w (As++[.move x0 p])=am u/\AY w (As++[.count x0 0])=am v)/\∃v,AA w x0=am v:=by
 have j:∀E∈As++[Deed.move x0 p],HS E:=PF h trivial;have o:∀E∈As++[Deed.count x0 0],HS E:=PF h trivial;rcases A0D (g:=AA w) (p:=p) h.mv with ⟨a,b⟩ | ⟨N,v,a,b,c,d,e⟩
 . exact absurd (W4 j o G (by rw[a,b])) r
 . refine#[?_,v,a];rcases HV j G with ⟨n,i⟩ | ⟨u,n,i,T⟩
   . rw[d] at n;cases n
   . rcases HV o G with ⟨t,m⟩ | ⟨f,t,m,q⟩
     . rw[e] at t;cases t
     . exact#[u,f,n,t]
theorem A2R (h:Ahd ys x0 As) (hp:0<=p/\p<=999):Par29 ys (As++[.move x0 p]) (As++[.count x0 0]):=by
 have j:∀E∈As++[Deed.move x0 p],HS E:=PF h trivial;have m:∀E∈As++[Deed.count x0 0],HS E:=PF h trivial;have i:=fF h (fE h.nm h.at0 hp);have r:=fF h (wH (k:=0) h.nm h.at0);have N:=h.few;refine#[#[h.nm,i,r,by rw[yY,yY,a8V,a8V];lia],j,m,?_,λw G f=>(fG h G f).1];have nd:=r9 (p:=p+1) h.nm.2.1;refine RG h.nm i r j m nd ?_;obtain⟨h0,o⟩:=r8 (As:=As) (g:=AA (plW ys (p+1))) λD hD=>by obtain⟨n,q,e,_,hn,_⟩:=h.all D hD;exact#[n,q,e,by rw[ZC h.nm.2.1 hn];rfl]
 have L:=ZC (p:=p+1) h.nm.2.1 h.at0;rcases LK (g:=AA (plW ys (p+1))) h.mv with q | ⟨t,a,b⟩
 . rw[o] at q;cases q
 . rw[o] at a;obtain rfl:=Option.some.inj a;rcases A0D (g:=AA (plW ys (p+1))) (p:=p) h.mv with ⟨a,_⟩ | ⟨t,v,a,b,c,d,e⟩
   . have:BJ (AA (plW ys (p+1))) (As++[.move x0 p])=am (doL (.move x0 p) h0):=by rw[HU,o];show(if D6 (.move x0 p) h0 then am (doL (.move x0 p) h0) else ap)=_;exact if_pos (show D6 (.move x0 p) h0 from λn hn=>by rw[show n=x0 from List.mem_singleton.mp hn,b,L];rfl)
     rw[this] at a;cases a
   . rw[d,e];intro q;have q:=congrFun (Option.some.inj q) x0;have q:((t x0).map λv=>(p,v.2))=(t x0).map λv=>(v.1,v.2+0):=by have u:doL (.move x0 p) t x0=(t x0).map λv=>(p,v.2):=if_pos rfl;have T:doL (.count x0 0) t x0=(t x0).map λv=>(v.1,v.2+0):=if_pos rfl;rw[<-u,<-T];exact q
     rw[b] at q;rw[L] at a;obtain rfl:=Option.some.inj a;have:=congrArg Prod.fst (Option.some.inj q);have:p=p+1:=this;lia
def mvD (zs:List Str) (ps:List Int) (k:Nat):Deed:=.move (zs.getD k (a0Q "")) (ps.getD k 0)
def ahD (zs:List Str) (ps:List Int) (n:Nat):List Deed:=(a0K n).map (mvD zs ps)
def mvF (zs:List Str) (ps:List Int):PyData->PyData | .int k=>(mvD zs ps k.toNat).d | d=>d
theorem A3q (zs:List Str) (ps:List Int):((FI 0 n).filter λ_=>av).map (mvF zs ps)=(ahD zs ps n).map Deed.d:=by unfold FI ahD;rw[flt,zD,zD];refine yM λi _=>?_;show(mvD zs ps (0+(i:Int)).toNat).d=(mvD zs ps i).d;rw[show(0+(i:Int)).toNat=i by lia]
theorem A3r (hn:AK (x0::zs)) (m:zs.length=11) (h1:n<=11) (i:n<=ps.length) (hp:∀p∈ps,0<=p/\p<=999):Ahd (x0::zs) x0 (ahD zs ps n):=by
 refine#[hn,a0Z,λD hD=>?_,by unfold ahD;rw[zX,xY];lia,by rw[yR];lia];obtain⟨k,hk,rfl⟩:=zL.mp hD;have hk:=List.mem_range.mp hk;have t:zs.getD k (a0Q "")∈zs:=by rw[yU,zV (by lia:k < zs.length)];exact a3J _
 have o:ps.getD k 0∈ps:=by rw[yU,zV (by lia:k < ps.length)];exact a3J _
 exact#[_,_,rfl,λe=>(xU.mp hn.2.1).1 (e▸t),yV _ t,hp _ o]
def isN (x:Str):PyData->Bool | .tuple (.str n::_)=>decide (n=x) | _=>ay
def plF:PyData->PyData | .tuple [_,p,_]=>p | d=>d
theorem RJ :∀{w:List Th},AA w x=am q->(((w.map thD).filter (isN x)).map plF)[0]?=am (.int q.1)
 | [],h=>by cases h
 | t::r,h=>by
   unfold AA at h;rw[zI,a6V];have e:isN x (thD t)=decide (t.1=x):=rfl;rw[e];by_cases c:t.1=x;. rw[if_pos c] at h;rw[if_pos (decide_eq_true c),zI,List.getElem?_cons_zero];obtain rfl:=Option.some.inj h;rfl
   . rw[if_neg c] at h;rw[if_neg (by simpa using c)];exact RJ h
end
end DL
namespace DL
open PySem PySem.Spec L2 XC
section
variable {X:Cx}{K:Frg}{M:Own}{ρ:List (Option DS)}{t u v:TS}{D E:EndsD}{x:DS}{a:ew}{r:List ew}{Φ:TS->Prop}
def Nm (X:Cx) (l:List ew) (Φ:TS->Prop):Prop:=∃t,PSs X l t/\Φ t
theorem wI (h:Nm X r λL=>∀x,L=x->∃T,PS X a T/\Φ (k6 T x)):Nm X (a::r) Φ:=by obtain⟨L,h1,e⟩:=h;obtain⟨T,n,o⟩:=e L rfl;exact#[_,PH n h1,o]
theorem rA (h:∃T,PS X a T/\Φ T):Nm X [a] Φ:=by obtain⟨T,e,n⟩:=h;exact#[_,LV e,n]
theorem hD (N:List Str) {x:Str}(F:Fun K x qual st f e) (g:FnScope N ps (AB st)) (hb:∀(cdv:aw) (A:bv) (outer:List im) (s:ax) (H:Hp) (E:XK),Room k (A.deeper (xJ qual (AB st) s.heap.objs.size f cdv))->(A.deeper (xJ qual (AB st) s.heap.objs.size f cdv)).units+64 < ef->(A.deeper (xJ qual (AB st) s.heap.objs.size f cdv)).units+1 < ef->N.Nodup ->
     Nm (IA CX0 P w K mg base N qual (AB st) f cdv A outer s H E).nox (BB st) λt=>∀xs M,xs.length=ps.length->S.pre xs M->DSt K t (L4 N xs) M { nx:=λ_ M1=>∃T:Own,T.Sub M1/\S.post xs M (.d .none) T,rt:=λy M1=>∃T:Own,T.Sub M1/\S.post xs M y T }) :
   FnOk P w K mg base CX0 (k+1) f e ps (spD K ps.length S):=
 fnD F g λcdv A outer s H E hr=>hb cdv A outer s H E hr hr.units (zQ (Nat.add_le_add_left (show 1<=64 by decide) _) hr.units) g.nd
theorem hDX (N:List Str) {x:Str}(F:Fun K x qual st f e) (g:FnScope N ps (AB st)) (hb:∀(cdv:aw) (A:bv) (outer:List im) (s:ax) (H:Hp) (E:XK),Room k (A.deeper (xJ qual (AB st) s.heap.objs.size f cdv))->(A.deeper (xJ qual (AB st) s.heap.objs.size f cdv)).units+64 < ef->(A.deeper (xJ qual (AB st) s.heap.objs.size f cdv)).units+1 < ef->N.Nodup ->
     Nm ((IA (CXE P w) P w K mg base N qual (AB st) f cdv A outer s H E).wish (Fly (IA (CXE P w) P w K mg base N qual (AB st) f cdv A outer s H E) λ_=>E)) (BB st) λt=>
       ∀xs M,xs.length=ps.length->S.pre xs M->DXt K (λ_=>E) t (L4 N xs) M { nx:=λ_ M1=>∃T:Own,T.Sub M1/\S.post xs M (.d .none) T,rt:=λy M1=>∃T:Own,T.Sub M1/\S.post xs M y T } λ_ cls fs M1=>∃T:Own,T.Sub M1/\S.xpost xs M cls fs T) :
   FnOk P w K mg base (CXE P w) (k+1) f e ps (spX K ps.length S):=
 A4R F g λcdv A outer s H E hr=>hb cdv A outer s H E hr hr.units (zQ (Nat.add_le_add_left (show 1<=64 by decide) _) hr.units) g.nd
theorem A2S {a:PyData}(q:Q (.d a) M):D2 K (OY K) (.d (.tuple (a::l))) (.d (.int 0)) M Q:=AQ (AI (j:=0) rfl) q
theorem A2T {a:PyData}(q:Q (.d b) M):D2 K (OY K) (.d (.tuple (a::b::l))) (.d (.int 1)) M Q:=AQ (AI (j:=1) rfl) q
theorem A2U {a:PyData}(q:Q (.d c) M):D2 K (OY K) (.d (.tuple (a::b::c::l))) (.d (.int 2)) M Q:=AQ (AI (j:=2) rfl) q
theorem A2V {a:PyData}(q:Q (.d d) M):D2 K (OY K) (.d (.tuple (a::b::c::d::l))) (.d (.int 3)) M Q:=AQ (AI (j:=3) rfl) q
theorem A2W {a:PyData}(q:Q (.d e) M):D2 K (OY K) (.d (.tuple (a::b::c::d::e::l))) (.d (.int 4)) M Q:=AQ (AI (j:=4) rfl) q
theorem fH (h1:u=v) (h:DSt K u ρ M D):DSt K v ρ M D:=h1▸h
theorem wJ {G} {F} (h1:u=v) (h:DXt K G u ρ M D F):DXt K G v ρ M D F:=h1▸h
end
end DL
namespace L2
open PySem PySem.Spec PyProof.Rows
set_option genInjectivity false
structure Src (P:bh) (w:bd) (K:Frg) (j:Addr) (st:Nat->ca->Prop) (so:Hp->Nat->Prop) (has:Hp->Nat->V->Prop) (out:Hp->Nat->Prop):Prop where
 obj:∀i h,st i h->∃o,h.get? j=am o/\∀v,o.data≠.cell v
 keep:∀i h h',st i h->(∀o,h.get? j=am o->h'.get? j=am o)->st i h'
 item:∀{X:Cx}{pins:List (Addr×cr)}{σ:St}{H:Hp}{s:ax}{i:Nat}{fp:List Addr},Inv X pins σ H s->X.K=K->(∀c∈fp,LX X pins H c)->so H i->st i s.heap->j∈fp ->∃(x:V) (F:List Addr) (S S':ca->Prop) (R:aw->Prop),has H i x/\(∀c∈F,c=j\/c∉fp)/\FN F S/\FN F S'/\(∀A,NxI P w A j S S' R)/\S s.heap/\(∀u,R u->RelV x u)/\∀h,S' h->st (i+1) h
 done:∀{X:Cx}{pins:List (Addr×cr)}{σ:St}{H:Hp}{s:ax}{i:Nat}{fp:List Addr},Inv X pins σ H s->X.K=K->(∀c∈fp,LX X pins H c)->out H i->st i s.heap->j∈fp ->∃(F:List Addr) (S:ca->Prop),(∀c∈F,c=j\/c∉fp)/\FN F S/\(∀A:bv,A.handled=ap->NxE P w A j S)/\S s.heap
def Itg (Y Z:Hp->Nat->Prop) (h1 e:Hp->Nat->V->Prop) (O t:Hp->Nat->Prop):It:=#[λi H=>Y H i/\Z H i,λi H v H'=>∃p a b,H p=ap/\v = .ref p/\H'=upd H p (.tup [a,b])/\h1 H i a/\e H i b,λi H=>O H i\/Y H i/\t H i]
theorem jL {P:bh}{w:bd}{K:Frg}{lr:List bn}{kk:Nat}{jp:eH}(z TI TO i1 i2:Addr) {s1 s2:Nat->ca->Prop}{c1 c2:Hp->Nat->Prop}{h1 h2:Hp->Nat->V->Prop}{o1 o2:Hp->Nat->Prop}(A1:Src P w K i1 s1 c1 h1 o1) (A2:Src P w K i2 s2 c2 h2 o2) (d1:TI≠z) (d2:TO≠z) (d3:i1≠z) (d4:i2≠z) (d5:TI≠TO) (d6:TI≠i1) (d7:TI≠i2) (d8:TO≠i1) (d9:TO≠i2) (z_:i1≠i2) :
   Turn P w K (.Tuple lr kk jp) (Itg c1 c2 h1 h2 o1 o2) [z,TI,TO,i1,i2] z (λi h=>ge h z TI TO .none/\ed h TI (.ref i1) (.ref i2)/\(∃a b,ed h TO a b)/\s1 i h/\s2 i h) where
 mem:=by simp
 obj:=by
   rintro i h ⟨a1,a2,⟨x,y,a3⟩,a4,a5⟩ b hb;simp only[yX,xW,or_false] at hb;rcases hb with rfl | rfl | rfl | rfl | rfl;. exact⟨_,a1,λv q=>by cases q⟩
   . exact⟨_,a2,λv q=>by cases q⟩
   . exact⟨_,a3,λv q=>by cases q⟩
   . exact A1.obj i h a4
   . exact A2.obj i h a5
 keep:=by rintro i h h' ⟨a1,a2,⟨x,y,a3⟩,a4,a5⟩ k;exact#[k z (by simp) _ a1,k TI (by simp) _ a2,#[x,y,k TO (by simp) _ a3],A1.keep i h h' a4 λo e=>k i1 (by simp) o e,A2.keep i h h' a5 λo e=>k i2 (by simp) o e]
 item:=by
   intro X hP hw hK hc i pins s σ H E I hf #[a1,a2,#[x0,y0,a3],a4,a5] #[hx,hy];subst hP hw;obtain⟨x,F1,S1,sk,R1,pq,f1,t1,yo,n1,q1,r1,e1⟩:=A1.item I hK hf hx a4 (by simp);obtain⟨y,F2,S2,vz,R2,Oi,f2,t2,zo,n2,q2,r2,e2⟩:=A2.item I hK hf hy a5 (by simp);have D:ZAp z TI TO i1 i2 F1 F2:=#[d2,d3,d4,d8,d9,z_,λc hc=>by
       rcases f1 c hc with rfl | hn;. exact#[d3,d8.symm,z_]
       . simp only[yX,xW,or_false,not_or] at hn;exact#[hn.1,hn.2.2.1,hn.2.2.2.2],λc hc=>by
       rcases f2 c hc with rfl | hn;. exact#[d4,d9.symm,z_.symm]
       . simp only[yX,xW,or_false,not_or] at hn;exact#[hn.1,hn.2.2.1,hn.2.2.2.1]]
   refine gU D t1 yo t2 zo n1 n2 a1 a2 a3 q1 q2 (λh q=>let #[o,e,_]:=A1.obj _ h (e1 h q);zM e) (λh q=>let #[o,e,_]:=A2.obj _ h (e2 h q);zM e) λh' tk u1 u2 Oj Ol b1 b2 b3 b4 b5 b6 hk=>?_;refine#[_,rfl,wpAny_letOwnedTupleGo_zip (s:={ s with heap:=h',toks:=tk }) b1 λh2 c1 sb=>?_];have lt:∀{c o},s.heap.get? c=am o->s.heap.objs.size≠c:=λe=>a9Q (zM e);have keep:∀b o,b∉[z,TO,i1,i2]->s.heap.get? b=am o->h2.get? b=am o:=λb o hb e=>by simp only[yX,xW,or_false,not_or] at hb;exact sb.extBut b o hb.1 (hk b o hb.1 hb.2.1 hb.2.2.1 hb.2.2.2 e)
   have sub:∀b∈[z,TO,i1,i2],b∈[z,TI,TO,i1,i2]:=λb hb=>by simp only[yX,xW,or_false] at hb ⊢;rcases hb with h | h | h | h <;> simp[h]
   have I1:Inv X pins σ (upd H s.heap.objs.size (.tup [x,y])) { s with heap:=h2,toks:=tk }:=I.turnedT (t':=tk) (ch:=[z,TO,i1,i2]) keep (λb hb=>(hf b (sub b hb)).1) (λb hb=>let q:=hf b (sub b hb);#[q.2.2.2.1,q.2.1,q.2.2.2.2.1,q.2.2.2.2.2]) (zR _) #[by show 2<=aB;decide,[u1,u2],.cons (r1 _ Oj) (.cons (r2 _ Ol) .nil),#[_,sb.extBut _ _ (lt a1) b5,rfl,_,rfl]];refine#[.ref s.heap.objs.size,_,I1,rfl,#[s.heap.objs.size,x,y,I.hok.fresh (zR _),rfl,rfl,pq,Oi],#[c1,keep _ _ (by simp[d1,d5,d6,d7]) a2,#[_,_,sb.extBut _ _ d2 b2],A1.keep _ _ _ (e1 _ b3) λo e=>sb.extBut _ _ d3 e,A2.keep _ _ _ (e2 _ b4) λo e=>sb.extBut _ _ d4 e],λb hb=>?_];rw[AG λe=>?_];. exact(hf b hb).1
   . obtain⟨o,q,_⟩:∃o,s.heap.get? b=am o/\True:=by
       simp only[yX,xW,or_false] at hb;rcases hb with rfl | rfl | rfl | rfl | rfl;. exact#[_,a1,trivial]
       . exact#[_,a2,trivial]
       . exact#[_,a3,trivial]
       . obtain⟨o,e,_⟩:=A1.obj _ _ a4;exact#[o,e,trivial]
       . obtain⟨o,e,_⟩:=A2.obj _ _ a5;exact#[o,e,trivial]
     exact lt q e.symm
 done:=by
   intro X hP hw hK hc i pins s σ H E I hf #[a1,a2,#[x0,y0,a3],a4,a5] hg;subst hP hw;have sub:∀b∈[z,TO,i1,i2],b∈[z,TI,TO,i1,i2]:=λb hb=>by simp only[yX,xW,or_false] at hb ⊢;rcases hb with h | h | h | h <;> simp[h]
   have mk:∀{F1 F2:List Addr},(∀c∈F1,c=i1\/c∉[z,TI,TO,i1,i2])->(∀c∈F2,c=i2\/c∉[z,TI,TO,i1,i2])->ZAp z TI TO i1 i2 F1 F2:=λf1 f2=>#[d2,d3,d4,d8,d9,z_,λc hc=>by
       rcases f1 c hc with rfl | hn;. exact#[d3,d8.symm,z_]
       . simp only[yX,xW,or_false,not_or] at hn;exact#[hn.1,hn.2.2.1,hn.2.2.2.2],λc hc=>by
       rcases f2 c hc with rfl | hn;. exact#[d4,d9.symm,z_.symm]
       . simp only[yX,xW,or_false,not_or] at hn;exact#[hn.1,hn.2.2.1,hn.2.2.2.1]]
   refine gV (TI:=TI) (TO:=TO) (i1:=i1) (i2:=i2) (I.ok.hd hc) a1 (λQ' E' H_ A' Ia=>?_) λh' tk hk=>#[rfl,I.turnedL (t':=tk) (ch:=[z,TO,i1,i2]) (λb o hb e=>?_) (λb hb=>(hf b (sub b hb)).1) λb hb=>let q:=hf b (sub b hb);#[q.2.2.2.1,q.2.1,q.2.2.2.2.1,q.2.2.2.2.2]]
   . rcases hg with ho | ⟨hx,ho⟩
     . obtain⟨F1,S1,f1,t1,n1,q1⟩:=A1.done I hK hf ho a4 (by simp);exact gS (F2:=[]) (mk f1 (by simp)) t1 (n1 A' Ia) a1 a2 a3 q1 H_
     . obtain⟨x,F1,S1,sk,R1,_,f1,t1,yo,n1,q1,r1,e1⟩:=A1.item I hK hf hx a4 (by simp);obtain⟨F2,S2,f2,t2,n2,q2⟩:=A2.done I hK hf ho a5 (by simp);exact gT (mk f1 f2) t1 t2 (n1 A') (n2 A' Ia) a1 a2 a3 q1 q2 H_
   . simp only[yX,xW,or_false,not_or] at hb;exact hk b o hb.1 hb.2.1 hb.2.2.1 hb.2.2.2 e
 self:=λ_ _ _ _ _ st h=>wpAny_pyIter_zip st.1 h
theorem wK {P:bh}{w:bd}{K:Frg}(j l:Addr):Src P w K j (λi h=>h.IsTupleIter j l i) (λH i=>∃xs,SqT K H l xs/\i < xs.length) (λH i x=>∀xs,SqT K H l xs->xs[i]?=am x) (λH i=>∃xs,SqT K H l xs/\xs.length<=i) where
 obj:=by rintro i h ⟨o,e,c,d⟩;exact⟨o,e,λv q=>by rw[d] at q;cases q⟩
 keep:=λi h h' st k=>st.at k
 item:=by
   intro X pins σ H s i fp I hK hf #[xs,hx,lx] st hj;subst hK;obtain⟨aa,rx,px,_⟩:=I.tuple hx;obtain⟨u,hu,ru⟩:=rx.get (zV lx);have ne:∀c∈fp,l≠c:=λc hc=>Q6 I (hf c hc) hx;have t:∀k,FN [j,l] (λh=>h.IsTupleIter j l k/\h.IsTuple l aa.toArray):=by rintro k h h' ⟨⟨o,e,r⟩,⟨o',e',r'⟩⟩ q;exact#[#[o,q j (by simp) o e,r],#[o',q l (by simp) o' e',r']]
   exact#[_,[j,l],_,_,λv=>v=u,λys hy=>by rw[I.tuple_inj hy hx];exact zV lx,λc hc=>by
     rcases yX.mp hc with rfl | hc;. exact .inl rfl
     . have:c=l:=by simpa using hc
       subst this;exact .inr λq=>ne _ q rfl,t i,t (i+1),λA=>mO (ne j hj) (by simpa using hu),#[st,px],λv e=>e▸ru,λh q=>q.1]
 done:=by
   intro X pins σ H s i fp I hK hf #[xs,hx,ex] st hj;subst hK;obtain⟨aa,rx,px,_⟩:=I.tuple hx;have ne:∀c∈fp,l≠c:=λc hc=>Q6 I (hf c hc) hx;have hn:aa.toArray[i]?=none:=c0X (by have:=rx.length;simp;omega);exact#[[j,l],λh=>h.IsTupleIter j l i/\h.IsTuple l aa.toArray,λc hc=>by
     rcases yX.mp hc with rfl | hc;. exact .inl rfl
     . have:c=l:=by simpa using hc
       subst this;exact .inr λq=>ne _ q rfl,(by rintro h h' ⟨⟨o,e,r⟩,⟨o',e',r'⟩⟩ q;exact#[#[o,q j (by simp) o e,r],#[o',q l (by simp) o' e',r']]),λA hA=>iJ hA hn,#[st,px]]
theorem wL {P:bh}{w:bd}{K:Frg}(j:Addr) (x:Str) (t:Tok):Src P w K j (λi h=>h.IsStrIter j "str_ascii_iterator" x t i) (λH i=>i < x.cps.size) (λH i v=>∃c,x.cps[i]?=am c/\v = .str #[(y9 [c])]) (λH i=>x.cps.size<=i) where
 obj:=by rintro i h ⟨o,e,c,d⟩;exact⟨o,e,λv q=>by rw[d] at q;cases q⟩
 keep:=by rintro i h h' ⟨o,e,r⟩ k;exact#[o,k o e,r]
 item:=λI hK hf e st hj=>#[_,[j],_,_,_,#[_,b2W e,rfl],λc hc=>.inl (by simpa using hc),(by rintro h h' ⟨o,e,r⟩ q;exact#[o,q j (by simp) o e,r]),(by rintro h h' ⟨o,e,r⟩ q;exact#[o,q j (by simp) o e,r]),λA=>mN (b2W e),st,λu r=>r,λh q=>q]
 done:=λI hK hf ho st hj=>#[[j],_,λc hc=>.inl (by simpa using hc),(by rintro h h' ⟨o,e,r⟩ q;exact#[o,q j (by simp) o e,r]),λA hA=>gW hA (c0X ho),st]
def wN (K:Frg) (H:Hp) (u:V) (e:Hp->Nat->Prop) (has:Hp->Nat->V->Prop) (out:Hp->Nat->Prop):Prop:=(∃l,u = .ref l/\(∃t,SqT K H l t)/\(e=λH i=>∃t,SqT K H l t/\i < t.length)/\(has=λH i x=>∀t,SqT K H l t->t[i]?=am x)/\out=λH i=>∃t,SqT K H l t/\t.length<=i) \/∃x:Str,u = .str x/\x.cps.all (· < 128)=av/\(e=λ_ i=>i < x.cps.size)/\(has=λ_ i v=>∃c,x.cps[i]?=am c/\v = .str #[(y9 [c])])/\out=λ_ i=>x.cps.size<=i
theorem ZD {p:St}(I:Inv X pins p H s) (h:wN X.K H u n has out) (r:RelV u v) : ∃(o:cr) (Pre:ca->Prop) (st:Addr->Nat->ca->Prop),Q5 v o Pre/\(∀h o,Pre h->Pre (h.push o))/\o.isFreed=ay/\Pre s.heap/\∀j,Src X.prog X.w X.K j (st j) n has out/\∀h:ca,h.get? j=am o->st j 0 h:=by
 rcases h with ⟨l,rfl,⟨b,hx⟩,rfl,rfl,rfl⟩ | ⟨x,rfl,hx,rfl,rfl,rfl⟩
 . cases r;obtain⟨y,L,m,_⟩:=I.tuple hx;exact#[_,_,λj i h=>h.IsTupleIter j l i,u9 (items:=y.toArray),λh o q=>q.push o,rfl,m,λj=>#[wK j l,λh e=>#[_,e,rfl,rfl]]]
 . obtain⟨t,rfl⟩:=r;exact#[_,_,λj i h=>h.IsStrIter j "str_ascii_iterator" x t i,gX hx,λh o q=>q,rfl,trivial,λj=>#[wL j x t,λh e=>#[_,e,rfl,rfl]]]
section
variable {X:Cx}{K:Frg}
def A0E (K:Frg) (T:TA):TI:=λi H R=>T i H λo e=>∃u v Y Z h1 t O n,o=[u,v]/\wN K e u Y h1 O/\wN K e v Z t n/\R (Itg Y Z h1 t O n) e
theorem A3s {a b:bn}{T:TA}{p pos:eH}{Y:List bn}{U:Nat}{J:eH}(h:X.K=K) (hg:Gl X "zip") (G:X.mg "zip"=ap) (B:PA X [a,b] T) (hs:starEach [a,b] X.env=[(ay,eval a X.env),(ay,eval b X.env)]:=by rfl) (g:starEach [b] X.env=[(ay,eval b X.env)]:=by rfl) :
   PI X (.Tuple Y U J) (.Call (.Name "zip" p) [a,b] [] pos) (A0E K T):=by
 subst h;intro pins s σ H R I h;refine Call_ (HY I hg G boot_zip (xG (thn (B pos pins s σ H _ I h) λus t #[vs,j,i,r1,q1]=>?_) (by rw[hs,g]) (by rw[g];rfl)));have o:∀(m n:Nat),m≠n->t.heap.objs.size+m≠t.heap.objs.size+n:=λm n h e=>h (Nat.add_left_cancel e);obtain⟨u,v,c1,c2,h1,h2,o1,o2,rfl,z1,z2,q⟩:=q1;cases r1 with
 | cons r Q=>
   cases Q with
   | cons r' Q=>
     cases Q;obtain⟨p1,P1,t1,n1,Qi,N,O,c⟩:=ZD i z1 r;obtain⟨p2,P2,t2,n2,Z,L,S,f⟩:=ZD i z2 r';refine gY n1 n2 Z N L O S λD k x y M z hk=>?_;refine wpAny_pyIter_zip (s:={ t with heap:=D }) k ?_;refine#[t.heap.objs.size+4,[t.heap.objs.size+4,t.heap.objs.size+2,t.heap.objs.size+3,t.heap.objs.size,t.heap.objs.size+1],_,_,j,rfl,i.kept (t':=t.toks) hk,
       jL (t.heap.objs.size+4) (t.heap.objs.size+2) (t.heap.objs.size+3) t.heap.objs.size (t.heap.objs.size+1) (c _).1 (f _).1 (o 2 4 (by decide)) (o 3 4 (by decide)) (o 0 4 (by decide)) (o 1 4 (by decide)) (o 2 3 (by decide)) (o 2 0 (by decide)) (o 2 1 (by decide)) (o 3 0 (by decide)) (o 3 1 (by decide)) (o 0 1 (by decide)),
       #[k,x,#[_,_,y],(c _).2 _ M,(f _).2 _ z],λb hb=>?_,q];have hle:t.heap.objs.size<=b:=by simp only[yX,xW,or_false] at hb;rcases hb with rfl | rfl | rfl | rfl | rfl <;> first | exact zR _ | exact c0J _ _
     exact i.fpOk hle (i.hok.fresh hle)
end
end L2
namespace DL
open PySem PySem.Spec L2
section
def A2X (d:PyData) (as:List PyData):Prop:=d = .tuple as\/∃z:Str,d = .str z/\z.cps.all (· < 128)=av/\as=CU z
theorem ZE (hz:A2X d as) (s:SI K H M (.d d) v):∃r has out,wN K H v r has out/\∀H' n,Step K M n H H'->(∀i,i < as.length->r H' i)/\(∀i,as.length<=i->out H' i)/\∀i x,has H' i x->∃e,as[i]?=am e/\DV K H' n.W e x:=by
 rcases hz with rfl | ⟨z,rfl,g,rfl⟩
 . unfold SI DV at s;obtain⟨a,o,rfl,m,hd⟩:=s;refine#[_,_,_,.inl #[a,rfl,#[o,m.sq],rfl,rfl,rfl],λH' n t=>#[λi hi=>#[o,(m.grow t.grow).sq,by rw[hd.length];exact hi],λi hi=>#[o,(m.grow t.grow).sq,by rw[hd.length];exact hi],λi x h=>?_]];obtain⟨e,j,p⟩:=hd.get (h o (m.grow t.grow).sq);exact#[e,j,p.grow t.grow]
 . have q:(CU z).length=z.cps.size:=by simp[CU]
   rw[show v = .str z by unfold SI DV at s;exact s];refine#[_,_,_,.inr #[z,rfl,g,rfl,rfl,rfl],λH' n t=>#[λi hi=>by rw[q] at hi;exact hi,λi hi=>by rw[q] at hi;exact hi,?_]];rintro i x ⟨c,j,rfl⟩;exact#[.str #[(y9 [c])],by unfold CU;rw[zF];simp[j],by unfold DV;rfl]
theorem wP (h:DA K T ρ M λxs M1=>∃d e as bs,xs=[.d d,.d e]/\A2X d as/\A2X e bs/\QI (X7 as bs) M1):DI K (A0E K T) ρ M QI:=λσ H R X k=>
 h σ H _ X λvs f xs M1 o1 s1 t1 S=>by
   obtain⟨d,e,as,bs,D,z1,z2,q⟩:=S;subst D;obtain⟨v,r,rfl,h1,v2,r2,rfl,Q,U⟩:=s1;cases U;obtain⟨Y,B,u1,y1,u⟩:=ZE z1 h1;obtain⟨Z,G,u2,y2,L⟩:=ZE z2 Q;have m:(X7 as bs).length=min as.length bs.length:=by unfold X7;rw[zX,List.length_zip]
   refine#[v,v2,Y,Z,B,G,u1,u2,rfl,y1,y2,k _ (X7 as bs) f M1 o1 t1 #[λi H' t hi o n=>?_,λH' t o n=>?_,λi H' t x H2 o n hi y=>?_] q];. rw[m] at hi;exact#[(u H' t n).1 i (by omega),(L H' t n).1 i (by omega)]
   . rw[m];by_cases hle:as.length<=bs.length;. exact .inl ((u H' t n).2.1 _ (by omega))
     . exact .inr #[(u H' t n).1 _ (by omega),(L H' t n).2.1 _ (by omega)]
   . obtain⟨p,I,j,hp,rfl,rfl,hx,hy⟩:=y;obtain⟨b,g,z⟩:=(u H' t n).2.2 i I hx;obtain⟨c,N,O⟩:=(L H' t n).2.2 i j hy;have J:Grow K t.W t.W H' (upd H' p (.tup [I,j])):=B6 _ hp;refine#[o.new hp,#[J],.tuple [b,c],?_,?_];. unfold X7;rw[zF,show(as.zip bs)[i]?=am (b,c) by rw[b8W];exact#[g,N]];rfl
     . unfold DV;exact#[p,_,rfl,.inl #[λw=>w (o.none hp),.inl AE],DVs.cons (z.grow J) (DVs.cons (O.grow J) DVs.nil)]
end
end DL
namespace L2
open PySem PySem.Spec PyProof.Rows
section
variable {X:Cx}{scope:fc}{NC:List Str}{fr:List (Option Nat)}
theorem rB {o r iter n:bn}{ifs:List bn}{pos:eH}{U:TI}{g:TG}{T:TT}{tk O:TE}{i:Nat}{x:Str}{z y:eH}(hc:X.calm=av) (hu:X.A.units+1 < ef) (hN:X.N.Nodup) (zm:X.N[i]?=am x) (hx:Loc X.env.scope x) (S:CSc X scope NC fr) (hi:PI X n iter U) (hb:∀(C:Addr) (s:ax) (H:Hp) (f:List Addr) (pn:List (Addr×cr)),PG (AU X scope NC C s H f pn) n g/\PTs (AU X scope NC C s H f pn) ifs T/\PE (AU X scope NC C s H f pn) o tk/\PE (AU X scope NC C s H f pn) r O) (M:gj (.DictComp o r [#[n,iter,ifs,0]] scope pos) (am (.Name x z)) y.line X.env=pure av) (hf:X.fn x=av\/X.env.scope.names.lookup x=am .local:=by first | exact .inl rfl | exact .inr rfl | assumption)
   (hs:∀x,bw iter X.env x=pure x:=by intro _;rfl) :
   PS X (.Assign [.Name x z] (.DictComp o r [#[n,iter,ifs,0]] scope pos) y) (λD e H=>Q9 fr U g T tk O e H λv H'=>D.nx (e.set i (am v)) H'):=by intro pins s e H D I h;rw[exec_Assign_Name_used _ _ _ _ M];refine zZ (bt (zZ ?_));show wpAny _ X.A (do let _ <- g8 (.DictComp o r [#[n,iter,ifs,0]] scope pos) scope X.env _ newDict ay (eval iter X.env) (am (h7 (.Name x z) X.env))) _ _ s;refine zZ (thn (TF (use:=am (h7 (.Name x z) X.env)) (Q:=λv H'=>D.nx (e.set i (am v)) H') (QQ:=λ_ s'=>∃b H',Inv X pins b H' s'/\D.nx b H') hc S hi hb I hu h (λA C H' s' m p G hn q back zl=>?_) hs) λ_ s' hq=>zY (zY hq));have J:=UG (X:=X) (pos:=z) hN zm hx hf (pins++[(C,p)]) s' e H' (.ref A) (.ref A) (λb H'=>D.nx b H') G rfl q;refine thn J ?_;rintro _ u ⟨t,c,j,q2⟩;have B:u.heap.get? C=am p:=(j.pin (C,p) (zB _ (zB _ (by simp)))).1;obtain⟨o',L,Z,k,kc,p_⟩:=hn;rw[zl] at k;cases k;exact#[m,#[_,L,Z,B,kc,p_],λY sb=>#[t,c,back pins t c u Y j sb,q2]]
end
end L2
namespace DL
open PySem PySem.Spec L2 XC
def chS (c:Nat):Str:=#[(y9 [c])]
def stS (cs:List Nat):Str:=#[cs.toArray]
def RK (t s:Int) (k:Nat):Nat:=KL (t+s*(k:Int))
def O0 (s:Int):Prop:=s=1\/s=3\/s=5\/s=7\/s=9\/s=11
theorem rC (h:O0 s) (hi:i < 12) (n:j < 12) (e:RK t s i=RK t s j):i=j:=by unfold RK KL at e;rcases h with rfl | rfl | rfl | rfl | rfl | rfl <;> omega
theorem wR {v:Nat}(h:v < 6):∃s:Int,atI [b4W 1,.int 3,.int 5,.int 7,.int 9,.int 11] (v:Int)=am (.int s)/\O0 s:=by
 have:v=0\/v=1\/v=2\/v=3\/v=4\/v=5:=by lia
 unfold O0;rcases this with rfl | rfl | rfl | rfl | rfl | rfl <;> exact#[_,rfl,by lia]
def sgF (t s:Int):PyData->PyData | .int k=>.str (chS (KL (t+s*k))) | d=>d
theorem wS :((FI 0 12).filter λ_=>av).map (sgF t s)=((a0K 12).map (RK t s)).map λc=>a0J (chS c):=by rw[flt];rfl
def nmP (cs:List Nat) (a:Nat) (c:Nat):Str:=b0Z (stS cs) ap (am (a:Int))++chS c++b0Z (stS cs) (am (a:Int)) ap
theorem RL (cs:List Nat) (a c:Nat):(nmP cs a c).cps.toList=cs.take a++[c]++cs.drop a:=by unfold nmP;rw[GM,GM,aJ,aN];rfl
theorem fI (cs:List Nat) (a c:Nat):(nmP cs a c).cps.toList.length=cs.length+1:=by rw[RL,yY,yY,a1X,b3X,a8V];lia
theorem A2Y (hs:O0 s) (hc:∀c∈cs,FK c=av) (p:cs.length<=7) (m:a<=cs.length):AK (((a0K 12).map (RK t s)).map (nmP cs a)):=by
 refine#[λz o=>?_,?_,by simp]
 . obtain⟨c,r,rfl⟩:=zL.mp o;obtain⟨k,_,rfl⟩:=zL.mp r;refine XJ (λd hd=>?_) (by rw[fI];lia) (by rw[fI];lia);rw[RL] at hd;rcases yW.mp hd with q | q
   . rcases yW.mp q with q | q;. exact hc d (List.mem_of_mem_take q)
     . rw[List.mem_singleton.mp q];exact MT _
   . exact hc d (List.mem_of_mem_drop q)
 . rw[zD];refine nodup_range λi j hi h e=>rC (t:=t) hs hi h ?_;have e:=congrArg (λz:Str=>z.cps.toList[a]?) e;have g:∀c,(cs.take a++[c]++cs.drop a)[a]?=am c:=λc=>by
     have n:(cs.take a).length=a:=by rw[a1X];lia
     rw[b5J,yP (by lia),n,Nat.sub_self];rfl
   simp only[b8V,RL,g] at e;exact Option.some.inj e
def nmF (cs:List Nat) (a:Nat):PyData->PyData
 | .str z=>.str (b0Z (stS cs) ap (am (a:Int))++z++b0Z (stS cs) (am (a:Int)) ap)
 | d=>d
theorem rD (cs SG:List Nat) (a:Nat):((SG.map λc=>a0J (chS c)).filter λ_=>av).map (nmF cs a)=(SG.map (nmP cs a)).map .str:=by rw[flt,zD,zD];rfl
def nmW (c:Nat) (cs:List Nat):Str:=chS c++stS cs
theorem N5 (c:Nat) (cs:List Nat):(nmW c cs).cps.toList=c::cs:=by unfold nmW;rw[GM];rfl
structure Sgn (t s:Int) (k:Nat) (ys:List Str):Prop where
 len:ys.length=k
 all:∀i z,ys[i]?=am z->CW z/\z.cps.toList[0]?=am (RK t s i)
theorem Sgn.start (t s:Int):Sgn t s 0 []:=⟨rfl,λi z h=>by cases h⟩
theorem Sgn.snoc (h:Sgn t s k ys) (hc:∀c∈cs,FK c=av) (m:cs.length<=7):Sgn t s (k+1) (ys++[nmW (RK t s k) cs]):=by
 refine#[by rw[yY,h.len];rfl,λi z e=>?_];have n:=h.len;by_cases c:i < ys.length;. rw[yQ c] at e;exact h.all i z e
 . rw[yP (by lia)] at e;obtain⟨q,rfl⟩:=yT.mp e;have o:i - ys.length < 1:=q;obtain rfl:i=k:=by lia
   have O:i - ys.length=0:=by lia
   simp only[O,List.getElem_cons_zero];refine#[XJ (λd hd=>?_) (by rw[N5];simp) (by rw[N5,yR];lia),by rw[N5];rfl];rw[N5] at hd;rcases yX.mp hd with rfl | q;. exact MT _
   . exact hc d q
theorem Sgn.ok (h:Sgn t s 12 ys) (hs:O0 s):AK ys:=by
 have m:=h.len;refine#[λz o=>?_,?_,by lia];. obtain⟨i,hi⟩:=List.getElem?_of_mem o;exact(h.all i z hi).1
 . refine List.pairwise_iff_getElem.mpr λi j hi n g e=>?_;have a:=(h.all i _ (zV hi)).2;have b:=(h.all j _ (zV n)).2;rw[e,b] at a;have:=rC hs (by lia) (by lia) (Option.some.inj a);lia
end DL
namespace DL
open PySem PySem.Spec L2
def FnIn (K:Frg) (n:Str) (st:ew):Prop:=∃(f:Addr) (u:aw) (m:Option Addr) (kV B z:aw) (c:Option Addr) (v I:aw) (sl:Array (Option aw)),a2X K bb n=am (am (.ref f)) /\
 K.lookup f=am #[u,m,.func (a5Q n n (DU st) (BB st) (AB st) .none kV B z c v I),sl]/\a9K K v n=av/\a3W K (.ref f)=av
theorem wU {K:Frg}{n:Str}{st:ew}{f:Addr}{u:aw}{m:Option Addr}{kV B z:aw}{e:Option Addr}{cd ct:aw}{sl:Array (Option aw)}(a:a2X K bb n=am (am (.ref f))) (l:K.lookup f=am #[u,m,.func (a5Q n n (DU st) (BB st) (AB st) .none kV B z e cd ct),sl]) (c:a9K K cd n=av) (k:a3W K (.ref f)=av):FnIn K n st:=#[f,u,m,kV,B,z,e,cd,ct,sl,a,l,c,k]
structure FnAt (K:Frg) (mg:Str->Option aw) (n:Str) (st:ew) (f:Addr) (fd:ee):Prop where
 fn:Fun K n n st f fd
 mg_:mg n=am (.ref f)
 kp:a3W K (.ref f)=av
theorem FnIn.at (b:FnIn K n st) (X:K.In h) (G:h.Ns bb mg):∃f e,FnAt K mg n st f e:=by obtain⟨f,_,_,_,_,_,_,_,_,_,a,l,c,k⟩:=b;exact#[f,_,a8 l c k,a5V X G a,k]
theorem A3t {C:List aw->Prop}(h:C []) (k:List aw) (m:k.length=0):C k:=by obtain rfl:=List.eq_nil_of_length_eq_zero m;exact h
theorem A2Z {C:List aw->Prop}(h:∀e,C [e]) (k:List aw) (m:k.length=1):C k:=by
 cases k with
 | nil=>cases m
 | cons a k=>exact A3t (C:=λk=>C (a::k)) (h a) k (Nat.succ.inj m)
theorem rE {C:List aw->Prop}(h:∀e n,C [e,n]) (k:List aw) (m:k.length=2):C k:=by
 cases k with
 | nil=>cases m
 | cons a k=>exact A2Z (C:=λk=>C (a::k)) (h a) k (Nat.succ.inj m)
theorem A3u {C:List aw->Prop}(h:∀e n g,C [e,n,g]) (k:List aw) (m:k.length=3):C k:=by
 cases k with
 | nil=>cases m
 | cons a k=>exact rE (C:=λk=>C (a::k)) (h a) k (Nat.succ.inj m)
theorem A4W {C:List aw->Prop}(h:∀e n g T,C [e,n,g,T]) (k:List aw) (m:k.length=4):C k:=by
 cases k with
 | nil=>cases m
 | cons a k=>exact A3u (C:=λk=>C (a::k)) (h a) k (Nat.succ.inj m)
section
variable {P:bh}{w:bd}{K:Frg}{mg:Str->Option aw}{base:ca}{n:Str}{st:ew}{f:Addr}{fd:ee}{k:Nat}{ps:List Str}
abbrev rF (n:Str) (st:ew) (ps:List Str):Prop:=∀(kV doc z:aw) (c:Option Addr) (cdv I:aw) (e:List aw),e.length=ps.length->bindArgs (a5Q n n (DU st) (BB st) (AB st) .none kV doc z c cdv I) #[e,[]]=pure (ps.zip e)
theorem FnAt.has (a:FnAt K mg n st f fd) (h:FnOk P w K mg base CX0 k f fd ps (spD K ps.length S)) (b:rF n st ps):Has P w K mg base n k ps S:=#[f,fd,h,a.mg_,a.kp,a.fn.binds b]
theorem FnAt.hasX (a:FnAt K mg n st f fd) (h:FnOk P w K mg base (XC.CXE P w) k f fd ps (spX K ps.length S)) (b:rF n st ps):HasX P w K mg base n k ps S:=#[f,fd,h,a.mg_,a.kp,a.fn.binds b]
end
end DL
namespace DL
open PySem PySem.Spec L2 XC
abbrev GP:Stmt:=_root_.sT 47
abbrev JS:Stmt:=_root_.sT 48
abbrev CL:Stmt:=_root_.sT 49
abbrev GQ:Stmt:=_root_.sT 50
abbrev GR:Stmt:=_root_.sT 51
abbrev JT:Stmt:=_root_.sT 52
abbrev F5:Stmt:=_root_.sT 53
abbrev GS:Stmt:=_root_.sT 54
abbrev F6:Stmt:=_root_.sT 55
abbrev BN:Stmt:=_root_.sT 56
abbrev LN:Stmt:=_root_.sT 4
abbrev JU:Stmt:=_root_.sT 6
abbrev LO:Stmt:=_root_.sT 7
abbrev KC:Stmt:=_root_.sT 5
abbrev O1:Stmt:=_root_.sT 26
abbrev c6:Stmt:=_root_.sT 28
abbrev LP:Stmt:=_root_.sT 29
abbrev KD:Stmt:=_root_.sT 27
abbrev O2:Stmt:=_root_.sT 30
abbrev IU:Stmt:=_root_.sT 9
abbrev CC:Stmt:=_root_.sT 10
abbrev JV:Stmt:=_root_.sT 36
abbrev CA:Stmt:=dQ 0 (_root_.sT 22)
abbrev E2:Stmt:=_root_.sT 34
abbrev RM:Stmt:=_root_.sT 35
abbrev c7:Stmt:=_root_.sT 32
abbrev JW:Stmt:=_root_.sT 33
abbrev C6:Stmt:=dQ 0 (_root_.sT 23)
abbrev RN:Stmt:=_root_.sT 39
abbrev c8:Stmt:=_root_.sT 38
abbrev RO:Stmt:=_root_.sT 43
abbrev W9:Stmt:=_root_.sT 42
abbrev RP:Stmt:=_root_.sT 18
abbrev D4:Stmt:=_root_.sT 17
abbrev N6:Stmt:=_root_.sT 15
abbrev F7:Stmt:=_root_.sT 16
abbrev GU:Stmt:=_root_.sT 14
abbrev C9:Stmt:=_root_.sT 13
abbrev RQ:Stmt:=_root_.sT 12
abbrev IV:Stmt:=_root_.sT 45
abbrev BM:Stmt:=_root_.sT 44
abbrev WA:Stmt:=_root_.sT 41
abbrev rG:Stmt:=_root_.sT 57
abbrev vS (x:String) (t:Tok):Value:=.str (a0Q x) t
abbrev eS (P:fi) (x:String) (t:Tok) (v:aw):DictEntry:=#[a9V P (a0Q x),.str (a0Q x) t,v]
abbrev hs (i:Nat):Stmt:=ad.main.body.getD i (.Pass #[0,0,0,0])
abbrev fO (n q:String) (st:ew) (doc z:aw) (c:Nat):Obj:=#[.type "function", ap,.func (a5Q (a0Q n) (a0Q q) (DU st) (BB st) (AB st) .none .none doc z ap (.ref c) .none),#[]]
abbrev gO (n q:String) (st:ew):Obj:=#[.none,ap,.func (.mk (a0Q n) (a0Q q) (DU st) (.stmts (BB st)) (AB st) 0 [] .none .none .none .none ap .none .none 0),#[]]
abbrev tO (vs:Array aw):Obj:=#[.type "tuple", ap,.seq vs 0,#[]]
abbrev kO (n q:String) (a b c:Tok) (l k f:Nat) (B:aw) (t:Nat) (h o i X:aw) (u e:Nat) (d:Tok):Obj:=#[.type "code", ap,.fields (y9 [vS n a,vS q b,vS "/claim/cut.py" c,.int l 0,.int k 0,.int 0 0,.int 0 0,.int f 0,B,.bool av,.int t 0,h,.none,o,i,X,.int u 0,.int e 0,vS "/claim/cut.py" d]),#[]]
abbrev fP (n:String) (st:ew) (doc z:aw) (c:Nat):Obj:=fO n n st doc z c
abbrev gP (n:String) (st:ew):Obj:=gO n n st
abbrev kPz (n:String) (a b c:Tok) (l k f:Nat) (B:aw) (t:Nat) (h o i X:aw) (u e:Nat) (d:Tok):Obj:=kO n n a b c l k f B t h o i X u e d
abbrev nF (vs:Array aw):Obj:=#[.none,ap,.fields vs,#[]]
abbrev lF (l:List (Nat×Nat×Nat)):Obj:=nF (l.flatMap λt=>[.int t.1 0,.int t.2.1 0,.ref t.2.2]).toArray
def hV:Program:={ ad with main:={ ad.main with body:=([1,2,3,4,5,6,7,9,10,12,13,14,15,16,17,18,20,21,22,23,25,26,27,28,29,30,32,33,34,35,36,38,39,41,42,43,44,45,47,48,49,50,51,52,53,54,55,56,57]:List Nat).map hs } }
abbrev hB:List Stmt:=PySem.W.behindTheImports ad
def hN:Env:={ scope:=ad.main.scope,locals:=mainNs,globals:=mainNs,cells:=[],code:=a0X 13,frame:=am 14 }
abbrev hC:Code:=.body hB hN
abbrev hF:List Frame:=[PySem.W.topFrame { line:=0,col:=0,endLine:=0,endCol:=0 }]
abbrev hI (t:PySem.W.BT) (l:List (Nat×cr)):PySem.W.BT:=l.foldl (λt x=>t.ins x.1 x.2) t
noncomputable def hT0:fi->PySem.W.BT:=λP=>hI .nil [(0,PySem.W.boot_o_0 P),(1,PySem.W.boot_o_1 P),(2,PySem.W.boot_o_2 P),(3,PySem.W.boot_o_3 P),(4,PySem.W.boot_o_4 P),(5,PySem.W.boot_o_5 P),(6,PySem.W.boot_o_6 P),(7,PySem.W.boot_o_7 P),(8,PySem.W.boot_o_8 P),(9,PySem.W.boot_o_9 P),(10,PySem.W.boot_o_10 P)]
def qA (a t:Nat) (n:String) (k D e o:Nat) (ns:List String) (m:String) (s:Tok):List (Nat×cr):=[(a,tO #[]),(a+1,nF #[]),(a+2,tO (ns.zipIdx.map λp=>vS p.1 (t+3+p.2)).toArray),(a+3,tO #[]),(a+4,gP n (hs k)),(a+5,kPz n t (t+1) (t+2) D e o (.ref a) 181 (.ref (a+1)) (.ref (a+2)) (.ref (a+3)) (.ref (a+4)) (t+3+ns.length) D (t+4+ns.length)),(a+6,fP n (hs k) .none (vS m s) (a+5))]
def qB (a t:Nat) (n:String) (k D e o:Nat) (m:String) (s:Tok):List (Nat×cr):=[(a,tO #[]),(a+1,nF #[]),(a+2,gP n (hs k)),(a+3,kPz n t (t+1) (t+2) D e o (.ref a) 181 (.ref (a+1)) .none .none (.ref (a+2)) (t+3) D (t+4)),(a+4,fP n (hs k) .none (vS m s) (a+3))]
def qC (P:fi) (a t:Nat) (n u f:String) (l k q:Nat) (m:String) (s:Tok):List (Nat×cr):=[(a,tO (y9 [(.ref q)])),(a+1,(#[(.type "builtin_function_or_method"),ap,(.fields (y9 [(.builtin "type.__prepare__"),(.type "type")])),#[]]:cr)),(a+2,(#[(.type "dict"),ap,(.dict (y9 [eS P "__module__" (t+7) (vS m s),eS P "__qualname__" (t+9) (vS n (t+8)),eS P "__firstlineno__" (t+11) (.int l (t+10)),eS P "__init__" (t+19) (.ref (a+13)),eS P "__static_attributes__" (t+21) (.ref (a+14))]) 5),#[]]:cr)),(a+3,tO #[]),(a+4,lF [((l+2),4,(a+12))]),(a+5,(#[(.type "code"),ap,(.fields (y9 [(vS n (t+2)),(vS n (t+3)),(vS "/claim/cut.py" (t+4)),(.int l 0),(.int 0 0),(.int 0 0),(.int 0 0),(.int 0 0),(.ref (a+3)),(.bool ay),(.int 181 0),(.ref (a+4)),.none,.none,.none,.none,(.int (t+5) 0),(.int l 0),(vS "/claim/cut.py" (t+6))])),#[]]:cr)),(a+6,(#[(.type "frame"),ap,.plain,(y9 [(am (.ref (a+5))),(am (.ref 3)),(am (.ref (a+2))),ap,(am (vS m s)),ap,(am (.ref 0))])]:cr)),(a+7,tO #[]),(a+8,nF #[]),(a+9,tO (y9 [(vS "self" (t+15)),(vS f (t+16))])),(a+10,tO #[]),(a+11,gO "__init__" u (dQ 0 (hs k))),(a+12,kO "__init__" u (t+12) (t+13) (t+14) (l+2) 2 3 (.ref (a+7)) 181 (.ref (a+8)) (.ref (a+9)) (.ref (a+10)) (.ref (a+11)) (t+17) (l+2) (t+18)),(a+13,fO "__init__" u (dQ 0 (hs k)) .none (vS m s) (a+12)),(a+14,tO (y9 [(vS f (t+20))])),(a+15,(#[(.type "dict"),ap,(.dict (y9 [eS P "__module__" (t+7) (vS m s),eS P "__firstlineno__" (t+11) (.int l (t+10)),eS P "__init__" (t+19) (.ref (a+13)),eS P "__static_attributes__" (t+21) (.ref (a+14)),eS P "__doc__" (t+22) .none]) 2),#[]]:cr)),(a+16,(#[(.type "type"),ap,(.cls (.mk n [(.ref q)] [(.ref (a+16)),(.ref q),(.type "ValueError"),(.type "Exception"),(.type "BaseException"),(.type "object")] (a+15) n av [] [] ay ap ay)),(y9 [(am (.ref a)),ap,(am (vS n t)),(am (vS n (t+8))),(am (.builtin "ValueError.__new__")),(am (.bool av))])]:cr)),(a+17,(#[(.type "super"),ap,(.fields (y9 [(.ref (a+16)),(.ref (a+16)),(.ref (a+16))])),#[]]:cr)),(a+18,(#[(.type "builtin_function_or_method"),ap,(.fields (y9 [(.builtin "object.__init_subclass__"),(.ref (a+16))])),#[]]:cr))]
noncomputable def hT1:fi->PySem.W.BT:=λP=>hI (hT0 P) ((11,tO #[]) :: (12,nF #[]) :: (13,(#[(.type "code"),ap,(.fields (y9 [(vS "<module>" 182),(vS "<module>" 183),(vS "/claim/cut.py" 184),(.int 1 0),(.int 0 0),(.int 0 0),(.int 0 0),(.int 0 0),(.ref 11),(.bool ay),(.int 181 0),(.ref 12),.none,.none,.none,.none,(.int 185 0),(.int 1 0),(vS "/claim/cut.py" 186)])),#[]]:cr)) :: (14,(#[(.type "frame"),ap,.plain,(y9 [(am (.ref 13)),(am (.ref 3)),(am (.ref 3)),ap,(am (vS "__main__" 164)),ap,(am (.ref 0))])]:cr)) ::
 [])
noncomputable abbrev hX1 (w:bd) (e:en):PySem.W.SharedT:=#[hT1 w.params,15,{ },#[[]],{ },187,e]
noncomputable abbrev hX2 (w:bd) (e:en):PySem.W.SharedT:=#[hT1 w.params,15,{ },#[[]],{ },187,e]
def hD3:fi->List DictEntry:=λP=>[eS P "__name__" 165 (vS "struckdeeds.errors" 298),eS P "__doc__" 166 .none,eS P "__package__" 167 .none,eS P "__loader__" 168 (.builtin "__main__.__loader__#opaque"),eS P "__spec__" 169 .none,eS P "__annotations__" 170 (.ref 6),eS P "__builtins__" 171 (.ref 4),eS P "__file__" 173 (vS "/claim/cut.py" 172),eS P "__cached__" 174 .none,eS P "LETTERS" 190 (vS "abcdefghijklmnopqrstuvwxyz" 189),eS P "LONGEST_NAME" 192 (.int 8 191),eS P "LAST_PLACE" 194 (.int 999 193),eS P "is_whole" 201 (.ref 21),eS P "is_name" 207 (.ref 26),eS P "is_within" 216 (.ref 33),eS P "is_place" 223 (.ref 40),eS P "by_names" 231 (.ref 45),eS P "rising_by_names" 237 (.ref 50),eS P "effect" 248 (.ref 57),eS P "effect_behind" 254 (.ref 62),eS P "deed_effect" 266 (.ref 69),eS P "clash" 272 (.ref 74),eS P "told_at_first" 284 (.ref 81),eS P "by_left_names" 290 (.ref 86),eS P "rising" 297 (.ref 93),eS P "StrikeError" 317 (.ref 103)]
noncomputable def hT3:fi->PySem.W.BT:=λP=>hI (hT1 P) ((3,(#[.type "dict", ap,.dict (hD3 P).toArray 26,#[]]:cr)) :: (12,lF [(5,0,20),(7,0,25),(11,0,32),(13,0,39),(16,0,44),(18,0,49),(21,0,56),(28,0,61),(42,0,68),(60,0,73),(64,0,80),(72,0,85),(74,0,92),(77,0,99)]) ::
 qA 15 195 "is_whole" 4 5 1 3 ["thing"] "struckdeeds.words" 187 ++
 (qB 22 202 "is_name" 5 7 1 3 "struckdeeds.words" 187 ++
 (qA 27 208 "is_within" 6 11 3 3 ["thing","low","high"] "struckdeeds.words" 187 ++
 (qA 34 217 "is_place" 7 13 1 3 ["thing"] "struckdeeds.words" 187 ++
 (qB 41 226 "by_names" 9 16 1 3 "struckdeeds.worlds" 224 ++
 (qB 46 232 "rising_by_names" 10 18 1 3 "struckdeeds.worlds" 224 ++
 (qA 51 240 "effect" 12 21 1 3 ["row","whole","deed"] "struckdeeds.effects" 238 ++
 (qB 58 249 "effect_behind" 13 28 2 3 "struckdeeds.effects" 238 ++
 (qA 63 255 "deed_effect" 14 42 1 3 ["deed","word","name","other","parts","both"] "struckdeeds.effects" 238 ++
 (qB 70 267 "clash" 15 60 3 3 "struckdeeds.effects" 238 ++
 (qA 75 273 "told_at_first" 16 64 4 3 ["between","place","froms","plus","firsts","name"] "struckdeeds.effects" 238 ++
 (qB 82 285 "by_left_names" 17 72 1 3 "struckdeeds.effects" 238 ++
 (qA 87 291 "rising" 18 74 1 3 ["names"] "struckdeeds.effects" 238 ++
 ((94,tO (y9 [(.type "ValueError")])) ::
 (95,(#[(.type "builtin_function_or_method"),ap,(.fields (y9 [(.builtin "type.__prepare__"),(.type "type")])),#[]]:cr)) ::
 (96,(#[(.type "dict"),ap,(.dict (y9 [eS P "__module__" 307 (vS "struckdeeds.errors" 298),eS P "__qualname__" 309 (vS "StrikeError" 308),eS P "__firstlineno__" 311 (.int 77 310),eS P "__static_attributes__" 312 (.ref 101)]) 4),#[]]:cr)) ::
 (97,tO #[]) ::
 (98,nF #[]) ::
 (99,(#[(.type "code"),ap,(.fields (y9 [(vS "StrikeError" 302),(vS "StrikeError" 303),(vS "/claim/cut.py" 304),(.int 77 0),(.int 0 0),(.int 0 0),(.int 0 0),(.int 0 0),(.ref 97),(.bool ay),(.int 181 0),(.ref 98),.none,.none,.none,.none,(.int 305 0),(.int 77 0),(vS "/claim/cut.py" 306)])),#[]]:cr)) ::
 (100,(#[(.type "frame"),ap,.plain,(y9 [(am (.ref 99)),(am (.ref 3)),(am (.ref 96)),ap,(am (vS "struckdeeds.errors" 298)),ap,(am (.ref 0))])]:cr)) ::
 (101,tO #[]) ::
 (102,(#[(.type "dict"),ap,(.dict (y9 [eS P "__module__" 307 (vS "struckdeeds.errors" 298),eS P "__firstlineno__" 311 (.int 77 310),eS P "__static_attributes__" 312 (.ref 101),eS P "__weakref__" 314 (.ref 104),eS P "__doc__" 315 .none]) 3),#[]]:cr)) ::
 (103,(#[(.type "type"),ap,(.cls (.mk "StrikeError" [(.type "ValueError")] [(.ref 103),(.type "ValueError"),(.type "Exception"),(.type "BaseException"),(.type "object")] 102 "StrikeError" av [] [] ay ap ay)),(y9 [(am (.ref 94)),ap,(am (vS "StrikeError" 300)),(am (vS "StrikeError" 308)),(am (.builtin "ValueError.__new__")),(am (.bool av))])]:cr)) ::
 (104,(#[(.type "getset_descriptor"),ap,(.fields (y9 [(vS "__weakref__" 313),(.ref 103),(.builtin "ExceptionGroup.__weakref__"),.none])),#[]]:cr)) ::
 (105,(#[(.type "super"),ap,(.fields (y9 [(.ref 103),(.ref 103),(.ref 103)])),#[]]:cr)) ::
 (106,(#[(.type "builtin_function_or_method"),ap,(.fields (y9 [(.builtin "object.__init_subclass__"),(.ref 103)])),#[]]:cr)) ::
 []))))))))))))))
noncomputable abbrev hX3 (w:bd) (e:en):PySem.W.SharedT:=#[hT3 w.params,107,{ },#[[]],{ },318,e]
def hD4:fi->List DictEntry:=λP=>(hD3 P).set 0 (eS P "__name__" 165 (vS "struckdeeds.deeds" 384))++[eS P "NoDeed" 333 (.ref 116),eS P "NotNow" 358 (.ref 135),eS P "NoRow" 383 (.ref 154)]
noncomputable def hT4:fi->PySem.W.BT:=λP=>hI (hT3 P) ((3,(#[.type "dict", ap,.dict (hD4 P).toArray 29,#[]]:cr)) :: (12,lF [(5,0,20),(7,0,25),(11,0,32),(13,0,39),(16,0,44),(18,0,49),(21,0,56),(28,0,61),(42,0,68),(60,0,73),(64,0,80),(72,0,85),(74,0,92),(77,0,99),(79,0,112),(81,0,124),(85,0,143)]) :: (103,(#[(.type "type"),ap,(.cls (.mk "StrikeError" [(.type "ValueError")] [(.ref 103),(.type "ValueError"),(.type "Exception"),(.type "BaseException"),(.type "object")] 102 "StrikeError" av [] [(.ref 116),(.ref 135),(.ref 154)] ay ap ay)),(y9 [(am (.ref 94)),ap,(am (vS "StrikeError" 300)),(am (vS "StrikeError" 308)),(am (.builtin "ValueError.__new__")),(am (.bool av))])]:cr)) :: (107,tO (y9 [(.ref 103)])) :: (108,(#[(.type "builtin_function_or_method"),ap,(.fields (y9 [(.builtin "type.__prepare__"),(.type "type")])),#[]]:cr)) :: (109,(#[(.type "dict"),ap,(.dict (y9 [eS P "__module__" 325 (vS "struckdeeds.errors" 298),eS P "__qualname__" 327 (vS "NoDeed" 326),eS P "__firstlineno__" 329 (.int 79 328),eS P "__static_attributes__" 330 (.ref 114)]) 4),#[]]:cr)) :: (110,tO #[]) :: (111,nF #[]) :: (112,(#[(.type "code"),ap,(.fields (y9 [(vS "NoDeed" 320),(vS "NoDeed" 321),(vS "/claim/cut.py" 322),(.int 79 0),(.int 0 0),(.int 0 0),(.int 0 0),(.int 0 0),(.ref 110),(.bool ay),(.int 181 0),(.ref 111),.none,.none,.none,.none,(.int 323 0),(.int 79 0),(vS "/claim/cut.py" 324)])),#[]]:cr)) :: (113,(#[(.type "frame"),ap,.plain,(y9 [(am (.ref 112)),(am (.ref 3)),(am (.ref 109)),ap,(am (vS "struckdeeds.errors" 298)),ap,(am (.ref 0))])]:cr)) :: (114,tO #[]) :: (115,(#[(.type "dict"),ap,(.dict (y9 [eS P "__module__" 325 (vS "struckdeeds.errors" 298),eS P "__firstlineno__" 329 (.int 79 328),eS P "__static_attributes__" 330 (.ref 114),eS P "__doc__" 331 .none]) 2),#[]]:cr)) :: (116,(#[(.type "type"),ap,(.cls (.mk "NoDeed" [(.ref 103)] [(.ref 116),(.ref 103),(.type "ValueError"),(.type "Exception"),(.type "BaseException"),(.type "object")] 115 "NoDeed" av [] [] ay ap ay)),(y9 [(am (.ref 107)),ap,(am (vS "NoDeed" 318)),(am (vS "NoDeed" 326)),(am (.builtin "ValueError.__new__")),(am (.bool av))])]:cr)) :: (117,(#[(.type "super"),ap,(.fields (y9 [(.ref 116),(.ref 116),(.ref 116)])),#[]]:cr)) :: (118,(#[(.type "builtin_function_or_method"),ap,(.fields (y9 [(.builtin "object.__init_subclass__"),(.ref 116)])),#[]]:cr)) ::
 qC P 119 334 "NotNow" "NotNow.__init__" "name" 81 22 103 "struckdeeds.errors" 298 ++
 (qC P 138 359 "NoRow" "NoRow.__init__" "number" 85 23 103 "struckdeeds.errors" 298 ++
 ([])))
noncomputable abbrev hX4 (w:bd) (e:en):PySem.W.SharedT:=#[hT4 w.params,157,{ },#[[]],{ },386,e]
def hD5:fi->List DictEntry:=λP=>(hD4 P).set 0 (eS P "__name__" 165 (vS "law_struckdeeds_k29_whole_told_worlds_met_ag" 561))++[eS P "FORMS" 407 (.ref 157),eS P "form_of" 414 (.ref 164),eS P "is_deed" 420 (.ref 169),eS P "fits" 428 (.ref 176),eS P "names_in" 435 (.ref 183),eS P "made_by" 442 (.ref 190),eS P "done" 453 (.ref 197),eS P "back_deed" 464 (.ref 204),eS P "refuse_undoable" 474 (.ref 211),eS P "change" 484 (.ref 218),eS P "add_count" 495 (.ref 225),eS P "gone" 505 (.ref 232),eS P "walked" 517 (.ref 239),eS P "alike" 531 (.ref 246),eS P "parts" 540 (.ref 253),eS P "behind" 548 (.ref 260),eS P "worlds_to_try" 554 (.ref 265),eS P "world_of" 560 (.ref 270),eS P "_law_digits" 572 (.ref 277),eS P "_law_take" 581 (.ref 284)]
noncomputable def hT5:fi->PySem.W.BT:=λP=>hI (hT4 P) ((3,(#[.type "dict", ap,.dict (hD5 P).toArray 49,#[]]:cr)) :: (12,lF [(5,0,20),(7,0,25),(11,0,32),(13,0,39),(16,0,44),(18,0,49),(21,0,56),(28,0,61),(42,0,68),(60,0,73),(64,0,80),(72,0,85),(74,0,92),(77,0,99),(79,0,112),(81,0,124),(85,0,143),(91,0,163),(93,0,168),(103,0,175),(109,0,182),(111,0,189),(118,0,196),(123,0,203),(140,0,210),(147,0,217),(165,0,224),(169,0,231),(171,0,238),(182,0,245),(191,0,252),(193,0,259),(198,0,264),(204,0,269),(207,0,276),(216,0,283)]) :: (157,(#[(.type "dict"),ap,(.dict (y9 [eS P "put" 386 (vS "npk" 387),eS P "take" 388 (vS "n" 389),eS P "move" 390 (vS "np" 391),eS P "count" 392 (vS "nk" 393),eS P "name" 394 (vS "nn" 395),eS P "split" 396 (vS "nnpk" 397),eS P "join" 398 (vS "nn" 399)]) 7),#[]]:cr)) ::
 qA 158 408 "form_of" 26 91 1 3 ["word"] "struckdeeds.deeds" 384 ++
 (qB 165 415 "is_deed" 27 93 1 3 "struckdeeds.deeds" 384 ++
 (qA 170 421 "fits" 28 103 2 3 ["sign","part"] "struckdeeds.deeds" 384 ++
 (qA 177 429 "names_in" 29 109 1 3 ["deed"] "struckdeeds.deeds" 384 ++
 (qA 184 436 "made_by" 30 111 1 3 ["deed"] "struckdeeds.deeds" 384 ++
 (qA 191 445 "done" 32 118 2 3 ["world","deed","things"] "struckdeeds.doings" 443 ++
 (qA 198 454 "back_deed" 33 123 2 3 ["world","deed","things","word","name"] "struckdeeds.doings" 443 ++
 (qA 205 465 "refuse_undoable" 34 140 2 3 ["things","deed","made","name"] "struckdeeds.doings" 443 ++
 (qA 212 475 "change" 35 147 2 3 ["things","deed","word","name"] "struckdeeds.doings" 443 ++
 (qA 219 485 "add_count" 36 165 3 3 ["things","name","more","place","count"] "struckdeeds.doings" 443 ++
 (qA 226 498 "gone" 38 169 2 3 ["world","row"] "struckdeeds.rows" 496 ++
 (qA 233 506 "walked" 39 171 2 3 ["world","row","here","back","number","deed"] "struckdeeds.rows" 496 ++
 (qA 240 520 "alike" 41 182 2 3 ["row","other","one","two","worlds","at"] "struckdeeds.partings" 518 ++
 (qA 247 532 "parts" 42 191 3 3 ["world","row","other"] "struckdeeds.partings" 518 ++
 (qA 254 541 "behind" 43 193 2 3 ["world","row"] "struckdeeds.partings" 518 ++
 (qB 261 549 "worlds_to_try" 44 198 2 3 "struckdeeds.partings" 518 ++
 (qB 266 555 "world_of" 45 204 2 3 "struckdeeds.partings" 518 ++
 (qA 271 563 "_law_digits" 47 207 2 3 ["_law_script","_law_k","_law_cell","_law_seed"] "law_struckdeeds_k29_whole_told_worlds_met_ag" 561 ++
 (qA 278 573 "_law_take" 48 216 2 3 ["_law_pack","_law_size","_law_digit"] "law_struckdeeds_k29_whole_told_worlds_met_ag" 561 ++
 ([]))))))))))))))))))))
noncomputable abbrev hX5 (w:bd) (e:en):PySem.W.SharedT:=#[hT5 w.params,285,{ },#[[]],{ },582,e]
def hD6:fi->List DictEntry:=λP=>hD5 P++[eS P "_law_names" 587 (.ref 289),eS P "_law_poured" 600 (.ref 296),eS P "_law_counts" 610 (.ref 303),eS P "_law_gone" 623 (.ref 310),eS P "_law_is_world" 633 (.ref 317),eS P "_law_parted" 644 (.ref 324),eS P "_law_sums_met" 660 (.ref 331),eS P "_law_places_met" 666 (.ref 336),eS P "law" 674 (.ref 343)]
noncomputable def hT6:fi->PySem.W.BT:=λP=>hI (hT5 P) ((3,(#[.type "dict", ap,.dict (hD6 P).toArray 58,#[]]:cr)) :: (12,lF [(5,0,20),(7,0,25),(11,0,32),(13,0,39),(16,0,44),(18,0,49),(21,0,56),(28,0,61),(42,0,68),(60,0,73),(64,0,80),(72,0,85),(74,0,92),(77,0,99),(79,0,112),(81,0,124),(85,0,143),(91,0,163),(93,0,168),(103,0,175),(109,0,182),(111,0,189),(118,0,196),(123,0,203),(140,0,210),(147,0,217),(165,0,224),(169,0,231),(171,0,238),(182,0,245),(191,0,252),(193,0,259),(198,0,264),(204,0,269),(207,0,276),(216,0,283),(219,0,288),(234,0,295),(244,0,302),(251,0,309),(268,0,316),(284,0,323),(292,0,330),(310,0,335),(321,0,342)]) ::
 qB 285 582 "_law_names" 49 219 1 3 "law_struckdeeds_k29_whole_told_worlds_met_ag" 561 ++
 (qA 290 588 "_law_poured" 50 234 3 3 ["_law_pack","_law_names_here","_law_bits","_law_rest","_law_row","_law_k","_law_at"] "law_struckdeeds_k29_whole_told_worlds_met_ag" 561 ++
 (qA 297 601 "_law_counts" 51 244 2 3 ["_law_name","_law_more","_law_found","_law_part"] "law_struckdeeds_k29_whole_told_worlds_met_ag" 561 ++
 (qA 304 611 "_law_gone" 52 251 2 3 ["_law_things","_law_row","_law_now","_law_name","_law_place","_law_count","_law_deed"] "law_struckdeeds_k29_whole_told_worlds_met_ag" 561 ++
 (qA 311 624 "_law_is_world" 53 268 1 3 ["_law_things","_law_last","_law_thing","_law_part"] "law_struckdeeds_k29_whole_told_worlds_met_ag" 561 ++
 (qA 318 634 "_law_parted" 54 284 2 3 ["_law_row","_law_other","_law_told","_law_one","_law_two"] "law_struckdeeds_k29_whole_told_worlds_met_ag" 561 ++
 (qA 325 645 "_law_sums_met" 55 292 2 3 ["_law_script","_law_names_here","_law_pack","_law_bits","_law_rows","_law_inner","_law_counts_here","_law_turn","_law_found","_law_more"] "law_struckdeeds_k29_whole_told_worlds_met_ag" 561 ++
 (qB 332 661 "_law_places_met" 56 310 2 3 "law_struckdeeds_k29_whole_told_worlds_met_ag" 561 ++
 (qA 337 667 "law" 57 321 1 3 ["_law_script","_law_names_here"] "law_struckdeeds_k29_whole_told_worlds_met_ag" 561 ++
 ([]))))))))))
noncomputable abbrev hX6 (w:bd) (e:en):PySem.W.SharedT:=#[hT6 w.params,344,{ },#[[]],{ },675,e]
noncomputable abbrev hX7 (w:bd) (e:en):PySem.W.SharedT:=#[hT6 w.params,344,{ },#[[]],{ },675,e]
noncomputable def hg (P:fi) (a:Nat):Obj:=((hT6 P).get a).getD default
noncomputable def hK:Params->PySem.W.Frag:=λP=>
 (nat_lit 2,hg P 2) ::
 (nat_lit 3,hg P 3) ::
 (nat_lit 20,hg P 20) ::
 (nat_lit 21,fP "is_whole" LN .none (vS "struckdeeds.words" 187) 20) ::
 (nat_lit 25,hg P 25) ::
 (nat_lit 26,fP "is_name" KC .none (vS "struckdeeds.words" 187) 25) ::
 (nat_lit 32,hg P 32) ::
 (nat_lit 33,fP "is_within" JU .none (vS "struckdeeds.words" 187) 32) ::
 (nat_lit 39,hg P 39) ::
 (nat_lit 40,fP "is_place" LO .none (vS "struckdeeds.words" 187) 39) ::
 (nat_lit 44,hg P 44) ::
 (nat_lit 45,fP "by_names" IU .none (vS "struckdeeds.worlds" 224) 44) ::
 (nat_lit 49,hg P 49) ::
 (nat_lit 50,fP "rising_by_names" CC .none (vS "struckdeeds.worlds" 224) 49) ::
 (nat_lit 56,hg P 56) ::
 (nat_lit 57,fP "effect" RQ .none (vS "struckdeeds.effects" 238) 56) ::
 (nat_lit 61,hg P 61) ::
 (nat_lit 62,fP "effect_behind" C9 .none (vS "struckdeeds.effects" 238) 61) ::
 (nat_lit 68,hg P 68) ::
 (nat_lit 69,fP "deed_effect" GU .none (vS "struckdeeds.effects" 238) 68) ::
 (nat_lit 73,hg P 73) ::
 (nat_lit 74,fP "clash" N6 .none (vS "struckdeeds.effects" 238) 73) ::
 (nat_lit 80,hg P 80) ::
 (nat_lit 81,fP "told_at_first" F7 .none (vS "struckdeeds.effects" 238) 80) ::
 (nat_lit 85,hg P 85) ::
 (nat_lit 86,fP "by_left_names" D4 .none (vS "struckdeeds.effects" 238) 85) ::
 (nat_lit 92,hg P 92) ::
 (nat_lit 93,fP "rising" RP .none (vS "struckdeeds.effects" 238) 92) ::
 (nat_lit 102,hg P 102) ::
 (nat_lit 103,(#[(.type "type"),ap,(.cls (.mk "StrikeError" [(.type "ValueError")] [(.ref 103),(.type "ValueError"),(.type "Exception"),(.type "BaseException"),(.type "object")] 102 "StrikeError" av [] [(.ref 116),(.ref 135),(.ref 154)] ay ap ay)),(y9 [(am (.ref 94)),ap,(am (vS "StrikeError" 300)),(am (vS "StrikeError" 308)),(am (.builtin "ValueError.__new__")),(am (.bool av))])]:cr)) ::
 (nat_lit 104,hg P 104) ::
 (nat_lit 115,hg P 115) ::
 (nat_lit 116,(#[(.type "type"),ap,(.cls (.mk "NoDeed" [(.ref 103)] [(.ref 116),(.ref 103),(.type "ValueError"),(.type "Exception"),(.type "BaseException"),(.type "object")] 115 "NoDeed" av [] [] ay ap ay)),(y9 [(am (.ref 107)),ap,(am (vS "NoDeed" 318)),(am (vS "NoDeed" 326)),(am (.builtin "ValueError.__new__")),(am (.bool av))])]:cr)) ::
 (nat_lit 131,hg P 131) ::
 (nat_lit 132,fO "__init__" "NotNow.__init__" CA .none (vS "struckdeeds.errors" 298) 131) ::
 (nat_lit 134,hg P 134) ::
 (nat_lit 135,(#[(.type "type"),ap,(.cls (.mk "NotNow" [(.ref 103)] [(.ref 135),(.ref 103),(.type "ValueError"),(.type "Exception"),(.type "BaseException"),(.type "object")] 134 "NotNow" av [] [] ay ap ay)),(y9 [(am (.ref 119)),ap,(am (vS "NotNow" 334)),(am (vS "NotNow" 342)),(am (.builtin "ValueError.__new__")),(am (.bool av))])]:cr)) ::
 (nat_lit 150,hg P 150) ::
 (nat_lit 151,fO "__init__" "NoRow.__init__" C6 .none (vS "struckdeeds.errors" 298) 150) ::
 (nat_lit 153,hg P 153) ::
 (nat_lit 154,(#[(.type "type"),ap,(.cls (.mk "NoRow" [(.ref 103)] [(.ref 154),(.ref 103),(.type "ValueError"),(.type "Exception"),(.type "BaseException"),(.type "object")] 153 "NoRow" av [] [] ay ap ay)),(y9 [(am (.ref 138)),ap,(am (vS "NoRow" 359)),(am (vS "NoRow" 367)),(am (.builtin "ValueError.__new__")),(am (.bool av))])]:cr)) ::
 (nat_lit 157,(#[(.type "dict"),ap,(.dict (y9 [eS P "put" 386 (vS "npk" 387),eS P "take" 388 (vS "n" 389),eS P "move" 390 (vS "np" 391),eS P "count" 392 (vS "nk" 393),eS P "name" 394 (vS "nn" 395),eS P "split" 396 (vS "nnpk" 397),eS P "join" 398 (vS "nn" 399)]) 7),#[]]:cr)) ::
 (nat_lit 163,hg P 163) ::
 (nat_lit 164,fP "form_of" O1 .none (vS "struckdeeds.deeds" 384) 163) ::
 (nat_lit 168,hg P 168) ::
 (nat_lit 169,fP "is_deed" KD .none (vS "struckdeeds.deeds" 384) 168) ::
 (nat_lit 175,hg P 175) ::
 (nat_lit 176,fP "fits" c6 .none (vS "struckdeeds.deeds" 384) 175) ::
 (nat_lit 182,hg P 182) ::
 (nat_lit 183,fP "names_in" LP .none (vS "struckdeeds.deeds" 384) 182) ::
 (nat_lit 189,hg P 189) ::
 (nat_lit 190,fP "made_by" O2 .none (vS "struckdeeds.deeds" 384) 189) ::
 (nat_lit 196,hg P 196) ::
 (nat_lit 197,fP "done" c7 .none (vS "struckdeeds.doings" 443) 196) ::
 (nat_lit 203,hg P 203) ::
 (nat_lit 204,fP "back_deed" JW .none (vS "struckdeeds.doings" 443) 203) ::
 (nat_lit 210,hg P 210) ::
 (nat_lit 211,fP "refuse_undoable" E2 .none (vS "struckdeeds.doings" 443) 210) ::
 (nat_lit 217,hg P 217) ::
 (nat_lit 218,fP "change" RM .none (vS "struckdeeds.doings" 443) 217) ::
 (nat_lit 224,hg P 224) ::
 (nat_lit 225,fP "add_count" JV .none (vS "struckdeeds.doings" 443) 224) ::
 (nat_lit 231,hg P 231) ::
 (nat_lit 232,fP "gone" c8 .none (vS "struckdeeds.rows" 496) 231) ::
 (nat_lit 238,hg P 238) ::
 (nat_lit 239,fP "walked" RN .none (vS "struckdeeds.rows" 496) 238) ::
 (nat_lit 245,hg P 245) ::
 (nat_lit 246,fP "alike" WA .none (vS "struckdeeds.partings" 518) 245) ::
 (nat_lit 252,hg P 252) ::
 (nat_lit 253,fP "parts" W9 .none (vS "struckdeeds.partings" 518) 252) ::
 (nat_lit 259,hg P 259) ::
 (nat_lit 260,fP "behind" RO .none (vS "struckdeeds.partings" 518) 259) ::
 (nat_lit 264,hg P 264) ::
 (nat_lit 265,fP "worlds_to_try" BM .none (vS "struckdeeds.partings" 518) 264) ::
 (nat_lit 269,hg P 269) ::
 (nat_lit 270,fP "world_of" IV .none (vS "struckdeeds.partings" 518) 269) ::
 (nat_lit 276,hg P 276) ::
 (nat_lit 277,fP "_law_digits" GP .none (vS "law_struckdeeds_k29_whole_told_worlds_met_ag" 561) 276) ::
 (nat_lit 283,hg P 283) ::
 (nat_lit 284,fP "_law_take" JS .none (vS "law_struckdeeds_k29_whole_told_worlds_met_ag" 561) 283) ::
 (nat_lit 288,hg P 288) ::
 (nat_lit 289,fP "_law_names" CL .none (vS "law_struckdeeds_k29_whole_told_worlds_met_ag" 561) 288) ::
 (nat_lit 295,hg P 295) ::
 (nat_lit 296,fP "_law_poured" GQ .none (vS "law_struckdeeds_k29_whole_told_worlds_met_ag" 561) 295) ::
 (nat_lit 302,hg P 302) ::
 (nat_lit 303,fP "_law_counts" GR .none (vS "law_struckdeeds_k29_whole_told_worlds_met_ag" 561) 302) ::
 (nat_lit 309,hg P 309) ::
 (nat_lit 310,fP "_law_gone" JT .none (vS "law_struckdeeds_k29_whole_told_worlds_met_ag" 561) 309) ::
 (nat_lit 316,hg P 316) ::
 (nat_lit 317,fP "_law_is_world" F5 .none (vS "law_struckdeeds_k29_whole_told_worlds_met_ag" 561) 316) ::
 (nat_lit 323,hg P 323) ::
 (nat_lit 324,fP "_law_parted" GS .none (vS "law_struckdeeds_k29_whole_told_worlds_met_ag" 561) 323) ::
 (nat_lit 330,hg P 330) ::
 (nat_lit 331,fP "_law_sums_met" F6 .none (vS "law_struckdeeds_k29_whole_told_worlds_met_ag" 561) 330) ::
 (nat_lit 335,hg P 335) ::
 (nat_lit 336,fP "_law_places_met" BN .none (vS "law_struckdeeds_k29_whole_told_worlds_met_ag" 561) 335) ::
 (nat_lit 342,hg P 342) ::
 (nat_lit 343,fP "law" rG .none (vS "law_struckdeeds_k29_whole_told_worlds_met_ag" 561) 342)::[]
def hA:List Addr:=[2,3,20,21,25,26,32,33,39,40,44,45,49,50,56,57,61,62,68,69,73,74,80,81,85,86,92,93,102,103,104,115,116,131,132,134,135,150,151,153,154,157,163,164,168,169,175,176,182,183,189,190,196,197,203,204,210,211,217,218,224,225,231,232,238,239,245,246,252,253,259,260,264,265,269,270,276,277,283,284,288,289,295,296,302,303,309,310,316,317,323,324,330,331,335,336,342,343]
theorem hE:∀P,hA=(hK P).map (·.1):=λ_=>by kernel_rfl
theorem hp1 (w:bd):(λe=>PySem.W.topGo cR ad w 11 (a4X (a0X 6)) 12 #[a5K w.params,#[[]],b6W,b7V,e] (PySem.W.topStub ad))=λe=>am ((hX1 w e).abs,#[denote cR hC,hC,{ line:=0,col:=0,endLine:=0,endCol:=0 },hF]):=by kernel_rfl
theorem hp2 (w:bd):(λe=>b0J cR ad w 11 (a4X (a0X 6)) 1 1 (hX1 w e) (PySem.W.blockOf hB hN hC { line:=0,col:=0,endLine:=0,endCol:=0 } hF))=λe=>am (.next,hX2 w e,hC,{ line:=0,col:=0,endLine:=0,endCol:=0 }):=by kernel_rfl
def hQ3:List Stmt:=(hB.drop 0).take 21
theorem hp3 (w:bd):(λe=>b0J cR ad w 11 (a4X (a0X 6)) 1 623 (hX2 w e) (b2J hQ3 hN hC { line:=0,col:=0,endLine:=0,endCol:=0 } hF))=λe=>am (.next,hX3 w e,hC,{ line:=77,col:=0,endLine:=78,endCol:=8 }):=by kernel_rfl
def hQ4:List Stmt:=(hB.drop 21).take 4
theorem hp4 (w:bd):(λe=>b0J cR ad w 11 (a4X (a0X 6)) 1 713 (hX3 w e) (b2J hQ4 hN hC { line:=77,col:=0,endLine:=78,endCol:=8 } hF))=λe=>am (.next,hX4 w e,hC,{ line:=89,col:=0,endLine:=89,endCol:=8 }):=by kernel_rfl
def hQ5:List Stmt:=(hB.drop 25).take 24
abbrev A4X (w:bd):Prop:=(λe=>b0J cR ad w 11 (a4X (a0X 6)) 1 730 (hX4 w e) (b2J hQ5 hN hC { line:=89,col:=0,endLine:=89,endCol:=8 } hF))=λe=>am (.next,hX5 w e,hC,{ line:=216,col:=0,endLine:=218,endCol:=21 })
theorem jM (w:bd):(λe=>b0J cR ad (w.withFollow "special-get-raises" ay) 11 (a4X (a0X 6)) 1 730 (hX4 (w.withFollow "special-get-raises" ay) e) (b2J hQ5 hN hC { line:=89,col:=0,endLine:=89,endCol:=8 } hF))=λe=>am (.next,hX5 (w.withFollow "special-get-raises" ay) e,hC,{ line:=216,col:=0,endLine:=218,endCol:=21 }):=by kernel_rfl
theorem rH (w:bd):(λe=>b0J cR ad (w.withFollow "special-get-raises" av) 11 (a4X (a0X 6)) 1 730 (hX4 (w.withFollow "special-get-raises" av) e) (b2J hQ5 hN hC { line:=89,col:=0,endLine:=89,endCol:=8 } hF))=λe=>am (.next,hX5 (w.withFollow "special-get-raises" av) e,hC,{ line:=216,col:=0,endLine:=218,endCol:=21 }):=by kernel_rfl
theorem hp5:∀w:bd,A4X w:=PySem.W.byRow2 "special-get-raises" jM rH
def hQ6:List Stmt:=(hB.drop 49).take 9
theorem hp6 (w:bd):(λe=>b0J cR ad w 11 (a4X (a0X 6)) 1 288 (hX5 w e) (b2J hQ6 hN hC { line:=216,col:=0,endLine:=218,endCol:=21 } hF))=λe=>am (.next,hX6 w e,hC,{ line:=321,col:=0,endLine:=323,endCol:=104 }):=by kernel_rfl
theorem hp7 (w:bd):(λe=>a8J cR ad w 11 (a4X (a0X 6)) 2 (hX6 w e).abs (b4K [] hN hC { line:=321,col:=0,endLine:=323,endCol:=104 } hF))=λe=>am (hX7 w e).abs:=by kernel_rfl
theorem hR1:hB=(hQ3++(hQ4++(hQ5++(hQ6++[])))):=by kernel_rfl
theorem hr7 (w:bd) (e:en):a8J cR ad w 11 (a4X (a0X 6)) 2 (hX6 w e).abs (b4K [] hN hC { line:=321,col:=0,endLine:=323,endCol:=104 } hF)=am (hX7 w e).abs:=congrFun (hp7 w) e
theorem hr6 (w:bd) (e:en):a8J cR ad w 11 (a4X (a0X 6)) (288+2) (hX5 w e).abs (b4K (hQ6++[]) hN hC { line:=216,col:=0,endLine:=218,endCol:=21 } hF)=am (hX7 w e).abs:=b7W (n:=288) (N:=2) (s:=(hX5 w e).abs) (s':=(hX6 w e).abs) (r:=(hX7 w e).abs) (l:=hQ6) (rest:=[]) (c:=hC) (pos:={ line:=216,col:=0,endLine:=218,endCol:=21 }) (p':={ line:=321,col:=0,endLine:=323,endCol:=104 }) (env:=hN) (q:={ line:=0,col:=0,endLine:=0,endCol:=0 }) (b4X (congrFun (hp6 w) e)) (hr7 w e)
theorem hr5 (w:bd) (e:en):a8J cR ad w 11 (a4X (a0X 6)) (730+(288+2)) (hX4 w e).abs (b4K (hQ5++(hQ6++[])) hN hC { line:=89,col:=0,endLine:=89,endCol:=8 } hF)=am (hX7 w e).abs:=b7W (n:=730) (N:=(288+2)) (s:=(hX4 w e).abs) (s':=(hX5 w e).abs) (r:=(hX7 w e).abs) (l:=hQ5) (rest:=(hQ6++[])) (c:=hC) (pos:={ line:=89,col:=0,endLine:=89,endCol:=8 }) (p':={ line:=216,col:=0,endLine:=218,endCol:=21 }) (env:=hN) (q:={ line:=0,col:=0,endLine:=0,endCol:=0 }) (b4X (congrFun (hp5 w) e)) (hr6 w e)
theorem hr4 (w:bd) (e:en):a8J cR ad w 11 (a4X (a0X 6)) (713+(730+(288+2))) (hX3 w e).abs (b4K (hQ4++(hQ5++(hQ6++[]))) hN hC { line:=77,col:=0,endLine:=78,endCol:=8 } hF)=am (hX7 w e).abs:=b7W (n:=713) (N:=(730+(288+2))) (s:=(hX3 w e).abs) (s':=(hX4 w e).abs) (r:=(hX7 w e).abs) (l:=hQ4) (rest:=(hQ5++(hQ6++[]))) (c:=hC) (pos:={ line:=77,col:=0,endLine:=78,endCol:=8 }) (p':={ line:=89,col:=0,endLine:=89,endCol:=8 }) (env:=hN) (q:={ line:=0,col:=0,endLine:=0,endCol:=0 }) (b4X (congrFun (hp4 w) e)) (hr5 w e)
theorem hr3 (w:bd) (e:en):a8J cR ad w 11 (a4X (a0X 6)) (623+(713+(730+(288+2)))) (hX2 w e).abs (b4K (hQ3++(hQ4++(hQ5++(hQ6++[])))) hN hC { line:=0,col:=0,endLine:=0,endCol:=0 } hF)=am (hX7 w e).abs:=b7W (n:=623) (N:=(713+(730+(288+2)))) (s:=(hX2 w e).abs) (s':=(hX3 w e).abs) (r:=(hX7 w e).abs) (l:=hQ3) (rest:=(hQ4++(hQ5++(hQ6++[])))) (c:=hC) (pos:={ line:=0,col:=0,endLine:=0,endCol:=0 }) (p':={ line:=77,col:=0,endLine:=78,endCol:=8 }) (env:=hN) (q:={ line:=0,col:=0,endLine:=0,endCol:=0 }) (b4X (congrFun (hp3 w) e)) (hr4 w e)
theorem hr2 (w:bd) (e:en):a8J cR ad w 11 (a4X (a0X 6)) (1+(623+(713+(730+(288+2))))) (hX1 w e).abs #[denote cR hC,hC,{ line:=0,col:=0,endLine:=0,endCol:=0 },hF]=am (hX7 w e).abs:=PySem.W.piece_block (n:=1) (N:=(623+(713+(730+(288+2))))) (s:=(hX1 w e).abs) (s':=(hX2 w e).abs) (r:=(hX7 w e).abs) (b:=hB) (env:=hN) (c:=hC) (pos:={ line:=0,col:=0,endLine:=0,endCol:=0 }) (p':={ line:=0,col:=0,endLine:=0,endCol:=0 }) (q:={ line:=0,col:=0,endLine:=0,endCol:=0 }) (b4X (congrFun (hp2 w) e)) (by rw[hR1];exact hr3 w e)
noncomputable def hH:fi->Heap:=λP=>PySem.W.absHeap (hT6 P) 344 { }
theorem hr1 (w:bd) (e:en):a8J cR ad w 11 (a4X (a0X 6)) (12+(1+(623+(713+(730+(288+2)))))) #[a5K w.params,#[[]],b6W,b7V,e] (PySem.W.topStub ad)=am (hX7 w e).abs:=PySem.W.go_top (n:=12) (N:=(1+(623+(713+(730+(288+2)))))) (s':=(hX1 w e).abs) (t':=#[denote cR hC,hC,{ line:=0,col:=0,endLine:=0,endCol:=0 },hF]) (congrFun (hp1 w) e) (hr2 w e)
theorem hR (w:bd) (e:en):a8J cR ad w 11 (a4X (a0X 6)) (12+(1+(623+(713+(730+(288+2)))))) #[a5K w.params,#[[]],b6W,b7V,e] (PySem.W.topStub ad)=am #[hH w.params,#[[]],{ },675,e]:=(hr1 w e).trans (by kernel_rfl)
theorem hZ (w:bd):(λe=>((PySem.W.staticsOk (PySem.importedModules ad.main.body) (a5K w.params) (hH w.params)&&PySem.W.namesBound ad (hH w.params)&&PySem.W.gensDone #[hH w.params,#[[]],{ },675,e]&&PySem.W.laidKept (a5K w.params) (hH w.params)),PySem.W.openSeen hV [a0Q "FORMS"] (PySem.importedModules ad.main.body) (λs=>PySem.W.xlAt hV [] s&&PySem.W.recOk (b4Z (b2K (b4J PySem.Challenge.rw_struckdeeds_k29_whole_told_worlds_met_ag))) s) av #[hH w.params,#[[]],{ },675,e],b7X (a7Q hK hA hE) #[hH w.params,#[[]],{ },675,e]))=λ_=>(av,PySem.W.openGood hV [a0Q "FORMS"],b7Q (a7Q hK hA hE) w):=by kernel_rfl
theorem hO:PySem.W.opening ad=PySem.W.plainProg ad.main.scope.names:=by kernel_rfl
theorem hG (w:bd):((a5K w.params).isNs bb&&(#[[]]:Array GenState).size==0,(a5K w.params).objs.size,(a5K w.params).nsMap bb (a0Q "__annotations__"))=(av,11,a4X (a0X 6)):=by kernel_rfl
theorem hJ (s:ax):PySem.fenceModules? ad s=am s:=by kernel_rfl
theorem hL:PySem.W.LeftO ad hV [a0Q "FORMS"] (λs=>PySem.W.xlAt hV [] s&&PySem.W.recOk (b4Z (b2K (b4J PySem.Challenge.rw_struckdeeds_k29_whole_told_worlds_met_ag))) s) (b7X (a7Q hK hA hE)) (b7Q (a7Q hK hA hE)) 4826:=
 @PySem.W.LeftO.of_pieces ad hV [a0Q "FORMS"] (λs=>PySem.W.xlAt hV [] s&&PySem.W.recOk (b4Z (b2K (b4J PySem.Challenge.rw_struckdeeds_k29_whole_told_worlds_met_ag))) s) _ (b7X (a7Q hK hA hE)) (b7Q (a7Q hK hA hE)) 4826 av a5K hH #[[]] #[[]] b6W { } b7V 675 11 (a4X (a0X 6)) (12+(1+(623+(713+(730+(288+2)))))) (PySem.W.boot_open hO (by decide) hJ) hG hR (by decide) hZ
theorem hS:PySem.W.OpenLaw.wellSaid PySem.Challenge.rw_struckdeeds_k29_whole_told_worlds_met_ag=true:=by kernel_rfl
set_option hygiene false
local macro_rules | `(tactic| exists $x) => `(tactic| refine $x ?_)
local macro_rules | `(tactic| exists $p,$x) => `(tactic| ((with_reducible show $p);exact $x))
local macro_rules | `(tactic| exists $n,$k,$b) => `(tactic| ((with_reducible show PE _ (.Call (.Name (a0Q $n) _) ..) _);exact @DO _ _ _ _ _ _ _ _ _ $k (by rfl) (by assumption) $b (by walk_at "a") (by decide) (by decide) (by rfl) (by rfl)))
local macro_rules | `(tactic| exists $j,$c:ident,$o,$k) => `(tactic| ((with_reducible show $j _ (.Compare _ [$o] ..) _);exact @$c:ident _ _ _ _ _ _ _ _ $k (by walk_at "e") (by walk_at "e") (@CQ _ _ (by decide) (by decide))))
local macro_rules | `(tactic| exists $o,$k,0,0,0) => `(tactic| ((with_reducible show PE _ (.BinOp _ $o ..) _);exact @J6 _ _ _ _ _ _ _ _ $k (by walk_at "e") (by walk_at "e")))
local macro_rules | `(tactic| exists $o,$k,0,0,0,0) => `(tactic| exact @HZ _ _ (.ty $o) _ _ (by rfl) (by assumption) $k rfl (by decide) (by decide))
local macro_rules | `(tactic| walk_at "lc")=>`(tactic| first | exact Or.inl rfl | exact Or.inr rfl | exact Or.inr (Or.inl rfl) | exact Or.inr (Or.inr rfl))
local macro_rules | `(tactic| walk_at "or")=>`(tactic| first | exact .inl rfl | exact .inr rfl | assumption)
local macro_rules | `(tactic| walk_at "q")=>`(tactic| first | exists PSs _ [] _,@rP _ | exists PSs _ [_] _,@LV _ _ _ (by walk_at "s") | exists PSs _ (_::_) _,@PH _ _ _ _ _ (by walk_at "s") (by walk_at "q"))
local macro_rules | `(tactic| walk_at "x")=>`(tactic| first | exists .Mult,(@A1Z _ K rfl),0,0,0 | exists PS _ (.Assign [.Tuple ..] ..) _,@ZQ _ _ _ _ _ _ (by walk_at "e") (by walk_at "g") (by rfl) (by rfl) (by rfl) | exists PG _ (.Subscript ..) _,@A0X _ _ _ _ _ _ _ (by walk_at "e") (by walk_at "e") (@kM _) (by intro _;rfl) | exists PE _ (.Call (.Attribute _ (a0Q "join") _) ..) _,@kBm _ K _ _ _ _ _ _ _ _ _ _ _ rfl PySem.F.plainAttrs_str PySem.F.slot_str_join PySem.F.type_str_join (@A3P _ K rfl) (by walk_at "e") (by walk_at "a") (by rfl) (by rfl) (by rfl) (by rfl) (by rfl) | exists PI _ _ (.Call (.Name (a0Q "range") _) ..) _,@uR _ _ _ _ _ _ _ _ rfl a_ (by walk_at "a") (by rfl) (by rfl) | exists PS _ (.While ..) _,@WP _ _ _ _ _ _ PassesOwn.never (by walk_at "t") (by walk_at "q") | exists PE _ (.Dict ..) _,@kU _ _ | exists PE _ (.Dict ..) _,@sL _ _ _ _ _ (@WZ _ _ _ _ _ _ _ _ _ (by walk_at "e") (by walk_at "e") (@WZ _ _ _ _ _ _ _ _ _ (by walk_at "e") (by walk_at "e") (@sK _ _))) rfl rfl (by simp) (by decide) | exists PS _ (.Assign [.Subscript ..] ..) _,@P0 _ _ _ _ _ _ _ _ _ h_ (by walk_at "e") (by walk_at "e") (by walk_at "e") (by rfl) | exists PT _ (.Compare _ [_,_] ..) _,@WR _ _ _ _ _ _ _ _ _ _ _ _ (@SM _) (@SM _) (by walk_at "e") (by walk_at "e") (by walk_at "e") (by with_unfolding_all rfl) | exists PS _ (.Assign [.Tuple ..] (.Tuple ..) _) _,@PK _ _ (3) (4) _ _ _ _ _ _ _ _ _ _ _ rfl nd rfl rfl (by decide) rfl rfl (by walk_at "a") rfl (by rfl) | exists PS _ (.Assign [.Tuple ..] (.Tuple ..) _) _,@PK _ _ (2) (3) _ _ _ _ _ _ _ _ _ _ _ rfl nd rfl rfl (by decide) rfl rfl (by walk_at "a") rfl (by rfl) | exists PS _ (.Assign [.Tuple ..] (.Tuple ..) _) _,@PK _ _ (1) (2) _ _ _ _ _ _ _ _ _ _ _ rfl nd rfl rfl (by decide) rfl rfl (by walk_at "a") rfl (by rfl) | exists PE _ (.Compare _ [_,_] ..) _,@kE _ _ _ _ _ _ _ _ _ _ _ _ (@SM _) (@SM _) (by walk_at "e") (by walk_at "e") (by walk_at "e") (by with_unfolding_all rfl) | exists PE _ (.Call (.Attribute _ (a0Q "get") _) ..) _,@u5 _ _ _ _ _ _ _ _ rfl jt (by walk_at "e") (@L2.M1.mk _ _ _ _ _ _ rfl rfl rfl rfl) (by decide) | exists PE _ (.Call (.Attribute _ (a0Q "startswith") _) ..) _,@kBm _ K _ _ _ _ _ _ _ _ _ _ _ rfl PySem.F.plainAttrs_str PySem.F.slot_str_startswith PySem.F.type_str_startswith (@XH _ K rfl) (by walk_at "e") (by walk_at "a") (by rfl) (by rfl) (by rfl) (by rfl) (by rfl) | exists PI _ _ (.Call (.Name (a0Q "zip") _) ..) _,@A3s _ K _ _ _ _ _ _ _ _ rfl rfl ug (by walk_at "a") (by rfl) (by rfl) | exists PS _ (.Delete ..) _,@sJ _ _ _ _ _ _ _ (by walk_at "e") (by walk_at "e") | exists PE _ (.Call (.Name (a0Q "refuse_undoable") _) ..) _,@z8 _ K P w mg base _ _ _ _ _ _ _ _ _ rfl rfl rfl rfl rfl (JQ ah) (hr.mono (by decide)) rfl (by walk_at "a") (by decide) (by rfl) (by rfl) | exists PI _ _ (.Call (.Name (a0Q "enumerate") _) ..) _,@A1w _ K _ _ _ _ _ _ _ rfl rfl de (by walk_at "a") (by rfl) | exists PS _ (.Try ..) _,@A3e _ _ _ _ _ _ _ _ _ _ _ _ _ _ _ _ _ _ _ _ _ _ _ _ _ _ _ _ _ _ _ rfl rfl rfl rfl rfl rfl rfl cz.cls c_.cls ic (hr.mono (by decide)) rfl rfl rfl (λa=>(by walk_at "a")) (λpn R=>(by walk_at "q")) (by decide) (by decide) (by decide) (by rfl) | exists PS _ (.Try ..) _,@A4S _ _ _ _ _ _ _ _ _ _ _ _ rfl rfl rfl rfl ej.at (λpn R=>(by walk_at "q")) (λa=>(by walk_at "q")) (by decide))
local macro_rules | `(tactic| walk_at "cs")=>`(tactic| first | exact @J2 _ _ IW F8 (AB CL) EJ (by decide +kernel) (by decide +kernel) rfl rfl | exact @J2 _ _ IX IY (AB CL) EJ (by decide +kernel) (by decide +kernel) rfl rfl | exact @J2 _ _ IZ J0 (AB CL) EJ (by decide +kernel) (by decide +kernel) rfl rfl | exact @J2 _ _ ET EU (AB BN) D8 (by decide +kernel) (by decide +kernel) rfl rfl | exact @J2 _ _ EV EW (AB BN) D8 (by decide +kernel) (by decide +kernel) rfl rfl | exact @J2 _ _ N7 N8 (AB KC) RZ (by decide +kernel) (by decide +kernel) rfl rfl | exact @J2 _ _ N9 NA (AB KD) S0 (by decide +kernel) (by decide +kernel) rfl rfl | exact @J2 _ _ KR KS (AB IU) OV (by decide +kernel) (by decide +kernel) rfl rfl | exact @J2 _ _ EX EY (AB CC) FV (by decide +kernel) (by decide +kernel) rfl rfl | exact @J2 _ _ FW FX (AB D4) HX (by decide +kernel) (by decide +kernel) rfl rfl | exact @J2 _ _ S4 S5 (AB N6) S3 (by decide +kernel) (by decide +kernel) rfl rfl | exact @J2 _ _ S6 S7 (AB N6) S3 (by decide +kernel) (by decide +kernel) rfl rfl | exact @J2 _ _ FY D9 (AB C9) EE (by decide +kernel) (by decide +kernel) rfl rfl | exact @J2 _ _ FZ G0 (AB C9) EE (by decide +kernel) (by decide +kernel) rfl rfl | exact @J2 _ _ KU KW (AB IV) OW (by decide +kernel) (by decide +kernel) rfl rfl | exact @J2 _ _ G1 DB (AB BM) CM (by decide +kernel) (by decide +kernel) rfl rfl | exact @J2 _ _ G2 DC (AB BM) CM (by decide +kernel) (by decide +kernel) rfl rfl | exact @J2 _ _ G3 G4 (AB BM) CM (by decide +kernel) (by decide +kernel) rfl rfl)
local macro_rules | `(tactic| walk_at "s")=>`(tactic| first | exists PS _ (.Assign [.Name ..] (.DictComp ..) _) _,@rB _ _ _ _ _ _ _ _ _ _ _ _ _ _ _ _ _ _ _ rfl h_ (by assumption) (QN (by rfl)) (by walk_at "lc") (by walk_at "cs") (by walk_at "n") (λC s' H' Ae vy=>#[(by walk_at "g"),(by walk_at "u"),(by walk_at "e"),(by walk_at "e")]) rfl (by walk_at "or") (by intro _;rfl) | exists PS _ (.Assign [.Name ..] (.ListComp ..) _) _,@sU _ _ _ _ _ _ _ _ _ _ _ _ _ _ _ _ _ rfl (by assumption) (QN (by rfl)) (by walk_at "lc") (by walk_at "cs") (by walk_at "n") (λC s' H' Ae vy=>#[(by walk_at "g"),(by walk_at "u"),(by walk_at "e")]) rfl (by walk_at "or") (by intro _;rfl) | exists PS _ (.Assign [.Name ..] ..) _,@A0Y _ _ _ _ _ _ _ (by assumption) (QN (by rfl)) (by walk_at "lc") (by walk_at "e") (by rfl) (by walk_at "or") | ((with_reducible show PS _ (.If ..) _);first | walk_at "z" | exact @A2k _ _ _ _ _ _ _ _ (by walk_at "t") (by walk_at "q") (by walk_at "q")) | exists PS _ (.Return (am _) _) _,@A0T _ _ _ _ (by walk_at "e") | ((with_reducible show PS _ (.For ..) _);first | exact @kC _ _ _ _ _ _ _ _ PassesOwn.never rfl (by walk_at "n") (by walk_at "g") (by walk_at "q") (by intro _;rfl) | exact @kC _ _ _ _ _ _ _ _ (@bA _ _ rfl rfl) rfl (by walk_at "n") (by walk_at "g") (by walk_at "q") (by intro _;rfl)) | exists PS _ (.Expr ..) _,@rQ _ _ _ _ (by walk_at "e") (by rfl) | ((with_reducible show PS _ (.Raise ..) _);first | exists PS _ (.Raise (am (.Call _ [_] ..)) ..) _,@uY P w K mg base _ _ _ _ _ _ _ _ _ _ _ rfl rfl rfl rfl rfl (by with_reducible assumption) (hr.mono (by decide)) rfl (by walk_at "a") (by decide) (by rfl) | exists PS _ (.Raise (am (.Call _ [] ..)) ..) _,@uZ K mg _ _ _ _ _ _ _ _ rfl rfl (by with_reducible assumption) hr.hd rfl (by decide)) | walk_at "x")
local macro_rules | `(tactic| walk_at "e")=>`(tactic| first | ((with_reducible show PE _ (.Name ..) _);first | exact @pvx _ _ _ _ (by rfl) (by walk_at "lc") (by decide) (by decide) | exact @tU _ _ _ _ (by rfl) (by assumption) (by decide) | exact @tT _ _ _ _ (by rfl) (by assumption) (by decide) | exists "int",PyProof.Rows.boot_int,0,0,0,0 | exists "str",PyProof.Rows.boot_str,0,0,0,0 | exists "bool",PyProof.Rows.boot_bool,0,0,0,0 | exists "list",PyProof.Rows.boot_list,0,0,0,0 | exists "tuple",PyProof.Rows.boot_tuple,0,0,0,0 | exists "dict",PyProof.Rows.boot_dict,0,0,0,0 | exists "ValueError",PyProof.Rows.boot_ValueError,0,0,0,0) | ((with_reducible show PE _ (.ListComp ..) _);first | exists PE _ (.ListComp _ [_,_] ..) _,@pM _ _ _ _ _ _ _ _ _ _ _ _ _ _ _ rfl (by walk_at "cs") (by walk_at "n") (λC s' H' Ae vy=>#[(by walk_at "g"),(by walk_at "n"),(by walk_at "g"),(by walk_at "e")]) (by intro _;rfl) (by intro _ _;rfl) | exact @sS _ _ _ _ _ _ _ _ _ _ _ _ _ rfl (by walk_at "cs") (by walk_at "n") (λC s' H' Ae vy=>#[(by walk_at "g"),(by walk_at "u"),(by walk_at "e")]) (by intro _;rfl)) | exists PE _ (.DictComp ..) _,@mW _ _ _ _ _ _ _ _ _ _ _ _ _ _ _ rfl h_ (by walk_at "cs") (by walk_at "n") (λC s' H' Ae vy=>#[(by walk_at "g"),(by walk_at "u"),(by walk_at "e"),(by walk_at "e")]) (by intro _;rfl) | ((with_reducible show PE _ (.Constant ..) _);first | exists PE _ (.Constant (.int _) ..) _,@A0J _ _ _ _ | exists PE _ (.Constant (.str _) ..) _,@A0L _ _ _ _ | exists PE _ (.Constant (.bool _) ..) _,@A2f _ _ _ _ | exists PE _ (.Constant .none ..) _,@A0K _ _ _) | ((with_reducible show PE _ (.Call ..) _);first | walk_at "y" | exists "len",(@A4D _ K rfl),PySem.boot_len | exists "isinstance",(@A4G _ K rfl),PyProof.Rows.boot_isinstance | exists "all",(@A4E _ K rfl rfl),PyProof.Rows.boot_all | exists "sorted",(@A1g _ K rfl rfl),PyProof.Rows.boot_sorted | exists "abs",(@A4F _ K rfl),PyProof.Rows.boot_abs | exists "max",(@A4L _ K rfl rfl),PyProof.Rows.boot_max | exists "min",(@A4M _ K rfl rfl),PyProof.Rows.boot_min | exists "divmod",(@u8 _ K rfl),PyProof.Rows.boot_divmod | exists PE _ (.Call (.Name (a0Q "tuple") _) ..) _,@fZ _ _ _ _ _ _ _ _ _ (@A1V _ K rfl) (by rfl) (by assumption) PyProof.Rows.boot_tuple (by walk_at "a") (by decide) (by decide) (by rfl) (by rfl) | exists PE _ (.Call (.Name ..) ..) _,@z8 _ K P w mg base _ _ _ _ _ _ _ _ _ rfl rfl rfl rfl rfl (by with_reducible assumption) (hr.mono (by decide)) rfl (by walk_at "a") (by decide) (by rfl) (by rfl) | exists PE _ (.Call (.Name ..) ..) _,@A1o P w K mg base _ _ _ _ _ _ _ _ _ _ _ rfl rfl rfl rfl rfl (by with_reducible assumption) (hr.mono (by decide)) rfl (by walk_at "a") (by decide) (by rfl) (by rfl) | exists PE _ (.Call (.Attribute _ (a0Q "append") _) ..) _,@kBm _ K _ _ _ _ _ _ _ _ _ _ _ rfl PySem.F.plainAttrs_list PySem.F.slot_list_append PySem.F.type_list_append (@mH _) (by walk_at "e") (by walk_at "a") (by rfl) (by rfl) (by rfl) (by rfl) (by rfl) | walk_at "x") | ((with_reducible show PE _ (.BinOp ..) _);first | exists .Add,(@A3R _ K rfl),0,0,0 | exists .Sub,(@A0e _),0,0,0 | exists .Mod,(@A0f _),0,0,0 | exists .FloorDiv,(@l7 _),0,0,0 | exists .Pow,(@A0g _),0,0,0 | exists .BitAnd,(@A0j _),0,0,0 | exists .LShift,(@A0h _),0,0,0 | exists .RShift,(@A0i _),0,0,0) | ((with_reducible show PE _ (.Compare ..) _);first | walk_at "y" | exists PE,G6,.Eq,(@kEq _ K rfl hu) | exists PE,G6,.NotEq,(@kNe _ K rfl hu) | exists PE,G6,.Lt,(@lI _) | exists PE,G6,.Is,(@mP _) | exists PE,G6,.IsNot,(@dB _) | exists PE,G6,.Gt,(@xK _) | exists PE,G6,.GtE,(@xO _)) | ((with_reducible show PE _ (.Subscript ..) _);first | exists PE _ (.Subscript _ (.Slice _ _ ap _) _) _,@kL _ _ _ _ _ _ _ _ _ _ (@A4H _ K rfl) (by walk_at "e") (by walk_at "o") (by walk_at "o") | walk_at "y" | exact @A2s _ _ _ _ _ _ _ (@kIx _ K rfl) (by walk_at "e") (by walk_at "e") (λ_ _=>rfl)) | exists PE _ (.Tuple ..) _,@kJ _ _ _ _ _ (by walk_at "a") | exists PE _ (.List ..) _,@A0p _ _ _ _ (by walk_at "a") | exists PE _ (.IfExp ..) _,@jZ _ _ _ _ _ _ _ _ (by walk_at "t") (by walk_at "e") (by walk_at "e") | ((with_reducible show PE _ (.BoolOp ..) _);first | exists PE _ (.BoolOp _ [_] _) _,@A0P _ _ _ _ _ (by walk_at "e") | exists PE _ (.BoolOp .Or ..) _,@A2j _ _ _ _ _ _ _ (by walk_at "e") (by walk_at "e") | exact @A0Q _ _ _ _ _ _ _ (by walk_at "e") (by walk_at "e")) | ((with_reducible show PE _ (.UnaryOp ..) _);first | exists PE _ (.UnaryOp .Not ..) _,@A0R _ _ _ _ (by walk_at "e") | exact @A2p _ _ _ _ _ _ (@A0k _) (by walk_at "e")) | walk_at "x")
local macro_rules | `(tactic| walk_at "t")=>`(tactic| first | ((with_reducible show PT _ (.Compare ..) _);first | walk_at "y" | exists PT,CZ,.Eq,(@kEq _ K rfl hu) | exists PT,CZ,.NotEq,(@kNe _ K rfl hu) | exists PT,CZ,.Lt,(@lI _) | exists PT,CZ,.Is,(@mP _) | exists PT,CZ,.IsNot,(@dB _) | exists PT,CZ,.Gt,(@xK _) | exists PT,CZ,.GtE,(@xO _) | walk_at "x") | exists PT _ (.BoolOp ..) _,@L2.PW.pt _ _ _ (by walk_at "w") | exists PT _ (.UnaryOp .Not ..) _,@A0O _ _ _ _ (by walk_at "t") | exact @A0N _ _ _ (by walk_at "e") (by intro _;rfl))
local macro_rules | `(tactic| walk_at "w")=>`(tactic| first | ((with_reducible show PW _ (.BoolOp .Or ..) _);first | exists PW _ (.BoolOp _ [_] _) _,@pw_or1 _ _ _ _ (by walk_at "t") | exact @pw_or _ _ _ _ _ _ _ (by walk_at "t") (by walk_at "w")) | exists PW _ (.BoolOp _ [_] _) _,@pw_and1 _ _ _ _ (by walk_at "t") | exact @pw_and _ _ _ _ _ _ _ (by walk_at "t") (by walk_at "w"))
local macro_rules | `(tactic| walk_at "a")=>`(tactic| first | exists PA _ [] _,@kI _ | exact @UJ _ _ _ _ _ (by walk_at "e") (by walk_at "a") (by rfl))
local macro_rules | `(tactic| walk_at "o")=>`(tactic| first | exists PO _ ap _,@rZ _ | exact @sC _ _ _ (by walk_at "e"))
local macro_rules | `(tactic| walk_at "u")=>`(tactic| first | exists PTs _ [] _,@cP _ | exact @sR _ _ _ (by walk_at "t"))
local macro_rules | `(tactic| walk_at "n")=>`(tactic| first | ((with_reducible show PI _ _ (.Call ..) _);first | exists PI _ _ (.Call (.Name (a0Q "range") _) [_] ..) _,@fR _ _ _ _ _ _ rfl (by assumption) (by walk_at "a") (by rfl) | walk_at "x") | walk_at "y" | exact @A3Q _ K _ _ _ rfl (by walk_at "e"))
local macro_rules | `(tactic| walk_at "g")=>`(tactic| first | exists PG _ (.Name ..) _,@UG _ _ _ _ (by assumption) (QN (by rfl)) (by walk_at "lc") (by walk_at "or") | walk_at "x")
local macro_rules | `(tactic| walk_at "j")=>`(tactic| first | exists PGs _ [] _,@rR _ | exact @k8 _ _ _ _ _ (by walk_at "g") (by walk_at "j") (by rfl))
local macro_rules | `(tactic| walk_at "b1")=>`(tactic| exact @LV _ _ _ (by walk_at "s"))
local macro_rules | `(tactic| walk_at "b2")=>`(tactic| exact @PH _ _ _ _ _ (by walk_at "s") (by walk_at "q"))
local macro_rules | `(tactic| walk_at "dl")=>`(tactic| first
 | (with_reducible first | exists aA | exists nX | exists lD | exists cU | exists lC | exists A3K | exists cT | exists cS | exists ds_setitem | exists n6 | exists A3b | exists iE | exists dx_raise0 | refine dP (HI ?_) | refine dx_set (HI ?_) | refine bB (HI ?_) | refine FA (lD ?_) | refine FA (cU ?_) | refine FA (lC ?_) | refine FA (cT ?_) | refine FA (cS ?_) | refine FA (ds_setitem ?_) | refine FA (n6 ?_))
 | ((with_reducible apply A05);exact rfl)
 | (with_reducible first | exists A06 | exists A3B | exists A07 | exists A08 | exists A3C | exists A3D | exists A3E | exists lA | exists sZ | exists A4B | exists A09 | exists A3F | exists A1A | exists A1B | exists A1C | exists A3G | exists A1D | exists A3H | exists lB | exists t7 | exists A3I | exists A1E | exists A3J | exists t9 | exists tD | exists tK | exists lY | exists tW)
 | ((with_reducible refine A1X ?_ ?_);exact rfl)
 | ((with_reducible refine uC ?_ ?_);exact rfl)
 | (with_reducible first | exists A3M | exists A3N | exists A4C | exists m5 | exists tP)
 | ((with_reducible refine T2 ?_ ?_);(first
     | ((with_reducible show CMul _ _);first | exact m7 (by decide) (by decide) | exact JE (by decide) (by decide) | exact JE (by lia) (by lia))
     | ((with_reducible show l6 _ _);first | exact#[by decide,by decide] | exact#[by assumption,by assumption])
     | ((with_reducible show fT _ _);exact#[by decide,by decide,by decide])
     | (show(0:Int) < _;first | decide | assumption | lia)))
 | ((with_reducible apply UX);(first | assumption | exact zU);exact rfl)
 | ((with_reducible apply A4I);(first | assumption | exact zU);exact rfl)
 | ((with_reducible refine L7 ?_ ?_);(first | exact CMul.ok (m7 (by decide) (by decide)) | exact CMul.ok (JE (by decide) (by decide))))
 | (with_reducible first | exists d2_isB | exists d2_notB | exists A1a | exists A1b | exists rd_intb | exists mK | exists A1U)
 | ((with_reducible refine lS (b:=av) ?_ ?_);exact rfl)
 | ((with_reducible refine lS (b:=ay) ?_ ?_);exact rfl)
 | with_reducible exists t8
 | ((with_reducible show D2 _ (OY _) (.d (.tuple (_::_))) (.d (.int _)) _ _);first | exists A2S | exists A2T | exists A2U | exists A2V | exists A2W)
 | ((with_reducible show D2 _ _ (.d (.str (a0Q _))) (.d (.str (a0Q _))) _ _);first | refine nO (t:=av) (by decide +kernel) ?_ | refine nO (t:=ay) (by decide +kernel) ?_)
 | ((with_reducible apply A4J);exact rfl;exact yD rfl)
 | (with_reducible refine Exists.intro _ (And.intro rfl ?_))
 | (with_reducible refine L2.gC ?_)
 | (with_reducible refine L2.kY ?_)
 | (refine L2.gC ?_)
 | (refine L2.kY ?_)
 | walk_at "unf")
local macro_rules | `(tactic| walk_at "unf")=>`(tactic| first | ((with_reducible show DSt _ _ _ _ _);(with_reducible refine fH (by assumption) ?_)) | ((with_reducible show DXt _ _ _ _ _ _ _);(with_reducible refine wJ (by assumption) ?_)))
local macro_rules | `(tactic| walk_at "hi")=>`(tactic| (intro cdv A outer s H E hr hu h_ nd))
local macro_rules | `(tactic| walk_at "hd")=>`(tactic| (walk_at "hi";walk_at "nm";clear nd))
local macro_rules | `(tactic| walk_at "nm")=>`(tactic| first | ((with_reducible show Nm _ [_] _);refine rA ?_;refine#[_,by walk_at "s", ?_];repeat (intro xx hx;refine#[_,by walk_at "s", ?_])) | (refine wI ?_;walk_at "nm") | (refine rA ?_;refine#[_,by walk_at "s", ?_]))
local macro_rules | `(tactic| walk_at "r")=>`(tactic| repeat walk_at "dl")
local macro_rules | `(tactic| walk_at "wkd")=>`(tactic| repeat (first | walk_at "dl" | exists JB | exists de_dnew))
local macro_rules | `(tactic| walk_at "wks")=>`(tactic| ((repeat ((fail_if_success (with_reducible show DSt _ _ _ _ _));(first | walk_at "dl" | exists JB | exists de_dnew)));(try walk_at "unf")))
section
variable {P:bh}{w:bd}{K:Frg}{mg:Str->Option aw}{base:ca}
def RR:List Str:=["_law_script","_law_k","_law_cell","_law_seed"]
section
theorem RS (F:Fun K "_law_digits" "_law_digits" GP f i) (q:mg "len"=ap):FnOk P w K mg base CX0 1 f i ["_law_script","_law_k"] (spD K 2 D7):=by
 refine hD RR F #[rfl,rfl,rfl,by decide +kernel,rfl,by decide +kernel,by decide +kernel] ?_;walk_at "hd";rintro z M u ⟨e,k,rfl,y,hb,hk⟩;unfold dgX;have fin:∀v:Int,∃T:Own,T.Sub M/\D7.post (dgX e k) M (.d (.int v)) T:=λv=>#[M,zT M,rfl,v,rfl]
 walk_at "r";refine L7 (CMul.ok (JE (by lia) (by lia))) ?_;walk_at "r";refine IC ?_;rw[zX];walk_at "r";refine sM (λh=>?_) (λh=>?_)
 . have hp:0 < e.length:=by simp at h;exact h
   have D:(0:Int) < (e.length:Int):=by lia
   obtain⟨x,hx⟩:∃x,e[k % e.length]?=am x:=#[_,zV (Nat.mod_lt _ hp)]
   walk_at "r";refine IC ?_;rw[zX];walk_at "r";refine AV (ds:=e.map .int) (d:=.int x) (AI (j:=k % e.length) (by rw[zF,hx];rfl)) ?_;walk_at "r";refine IC ?_;rw[zX];refine T2 (show l6 _ _ from #[D,by lia]) ?_;walk_at "r";generalize x+(k:Int)/(e.length:Int)*7919=c;walk_at "r";cases h1:decide (c < 0) with
   | true=> walk_at "r";exact fin _
   | false=>
     walk_at "r";cases m:decide ((10:Int) ^ Int.toNat 18<=c) with
     | true=> walk_at "r";exact fin _
     | false=>
       walk_at "r";refine L7 (CMul.ok (JE (by lia) (by lia))) ?_;walk_at "r";generalize n:(c*2654435761+((k:Int)*(k:Int)+3)*104395301) % 3037000493=s;have p:0<=s:=by rw[<-n];exact b1K _ (by decide)
       have b:s < 3037000493:=by rw[<-n];exact a9X _ (by decide)
       refine L7 (CMul.ok (JE (by lia) (by lia))) ?_;walk_at "r";generalize o:(s*(s % 65521+30011)+((k:Int)+7)*2654435761) % 3037000493=t;have J:0<=t:=by rw[<-o];exact b1K _ (by decide)
       have g:t < 3037000493:=by rw[<-o];exact a9X _ (by decide)
       refine T2 (show fT _ _ from #[by decide,by decide,by lia]) ?_;walk_at "r";exact fin _
 . walk_at "r";have r:(0:Int)<=(k:Int)*(k:Int)+7:=by have:=Int.mul_nonneg (show(0:Int)<=(k:Int) by lia) (show(0:Int)<=(k:Int) by lia);lia
   generalize (k:Int)*(k:Int)+7=c at r ⊢;have h1:decide (c < 0)=false:=decide_eq_false (by lia);walk_at "r"
   . skip
     walk_at "r";cases m:decide ((10:Int) ^ Int.toNat 18<=c) with
     | true=> walk_at "r";exact fin _
     | false=>
       walk_at "r";refine L7 (CMul.ok (JE (by lia) (by lia))) ?_;walk_at "r";generalize n:(c*2654435761+((k:Int)*(k:Int)+3)*104395301) % 3037000493=s;have p:0<=s:=by rw[<-n];exact b1K _ (by decide)
       have b:s < 3037000493:=by rw[<-n];exact a9X _ (by decide)
       refine L7 (CMul.ok (JE (by lia) (by lia))) ?_;walk_at "r";generalize o:(s*(s % 65521+30011)+((k:Int)+7)*2654435761) % 3037000493=t;have J:0<=t:=by rw[<-o];exact b1K _ (by decide)
       have g:t < 3037000493:=by rw[<-o];exact a9X _ (by decide)
       refine T2 (show fT _ _ from #[by decide,by decide,by lia]) ?_;walk_at "r";exact fin _
end
def WB:List Str:=["_law_pack","_law_size","_law_digit"]
section
local macro_rules | `(tactic| walk_at "x")=>`(tactic| first | exists PG _ (.Tuple ..) _,@mT _ K _ _ _ _ (2) rfl rfl (by walk_at "j") (by rfl) (by rfl))
theorem WC (F:Fun K "_law_take" "_law_take" JS f t) (k:mg "divmod"=ap):FnOk P w K mg base CX0 1 f t ["_law_pack","_law_size"] (spD K 2 CI):=by
 refine hD WB F #[rfl,rfl,rfl,by decide +kernel,rfl,by decide +kernel,by decide +kernel] ?_;walk_at "hd";rintro r M i ⟨p,size,o,rfl,m,⟨v,rfl⟩,h0,h1⟩;walk_at "dl";try walk_at "unf"
 refine NI ?_;walk_at "r";refine gQ h0 h1 ?_;walk_at "r";refine#[_,zT _,λj n e=>?_];cases e;exact#[_,_,rfl,b1K _ (by lia),a9X _ h0,#[_,rfl],rfl]
end
def EJ:List Str:=["_law_pack","_law_letters","_law_pick","_law_turn","_law_step","_law_stem","_law_at","_law_signs","_law_names_here","_law_sign","_law_rest"]
def IW:List Str:=["_law_k","_law_letters","_law_pack"]
def F8:List (Option Nat):=[ap,am 1,am 0]
def IX:List Str:=["_law_k","_law_letters","_law_turn","_law_step"]
def IY:List (Option Nat):=[ap,am 1,am 3,am 4]
def IZ:List Str:=["_law_sign","_law_stem","_law_at"]
def J0:List (Option Nat):=[ap,am 5,am 6]
section
theorem SL (F:Fun K "_law_names" "_law_names" CL f fd) (aq:mg "len"=ap) (a_:mg "range"=ap) (aj:Has P w K mg base "_law_take" 1 ["_law_pack","_law_size"] CI):FnOk P w K mg base CX0 2 f fd ["_law_pack"] (spD K 1 KA):=by
 refine hD EJ F #[rfl,rfl,rfl,by decide +kernel,rfl,by decide +kernel,by decide +kernel] ?_;walk_at "hi";have n0:IW.Nodup:=by decide +kernel
 have n1:IX.Nodup:=by decide +kernel
 have n2:IZ.Nodup:=by decide +kernel
 walk_at "nm";clear n0 n1 n2 nd;rintro xs M hl ⟨p,o,rfl,m,ho⟩;have L:(a0Q "abcdefghijklmnopqrstuvwxyz").length<=sizeLine:=by rw[XB];decide
 have Ic:∀{v:Int},0<=v->v < 26->atI (a0Q "abcdefghijklmnopqrstuvwxyz").cps.toList v=am (KL v):=λ{v} h0 h1=>by have:=oI v;rwa [Int.emod_eq_of_lt h0 h1] at this
 walk_at "r";refine B9 m ho (by decide) (by decide) λpk o1 _ _ lg=>?_;walk_at "r";refine B9 zU lg (by decide) (by decide) λt o2 Om Aq gw=>?_;rw[yI];walk_at "r";refine JB ?_;walk_at "r";refine B9 zU gw (by decide) (by decide) λv o3 Df Oo Fw=>?_;rw[yI];obtain⟨vn,rfl⟩:∃vn:Nat,v=(vn:Int):=#[v.toNat,by lia]
 obtain⟨s,hs,Y⟩:=wR (v:=vn) (by lia);refine AV hs ?_;walk_at "r";refine MD ?_;walk_at "dl";refine#[UV,?_];walk_at "dl";refine P4 (BK 0) (by simp[F8]) ?_;refine JY ?_;walk_at "r";refine B9 zU Fw (by decide) (by decide) λn o4 Qj Qk Ie=>?_;rw[yI];obtain⟨nn,rfl⟩:∃nn:Nat,n=(nn:Int):=#[n.toNat,by lia]
 walk_at "r";refine#[by lia,by lia,?_];rw[a2W];refine#[by unfold FI;rw[zX,xY];exact zQ (show _<=20 by lia) (by decide),λD hD=>#[λk acc j=>∃(b:List Nat) (o:MO),b.length=k/\(∀c∈b,FK c=av)/\acc=(b.map chS).map .str/\EM o/\j=(M.put p o).put D (.l acc),#[[],o4,rfl,λ_ h=>(by cases h),rfl,Ie,rfl],?_,?_,?_]];. rintro k acc j ⟨b,N,h1,u,rfl,y,rfl⟩;exact#[zU,by rw[zX,zX];lia]
 . rintro k d acc j hd ⟨b,N,h1,u,rfl,y,rfl⟩;have g:p≠D:=by rintro rfl;rw[zU] at hD;cases hD
   walk_at "r";refine B9 (p:=p) (by rw[yH g];exact zU) y (by decide) (by decide) λc Z zu Q J=>?_;rw[<-Own.put_comm g,yI];refine UY L (Ic zu Q) ?_;exact#[_,rfl,zU,b++[KL c],Z,by rw[yY,h1];rfl,λx hx=>(yW.mp hx).elim (u x) λe=>by rw[List.mem_singleton.mp e];exact MT _,by rw[xH,xH];rfl,J,by rw[yI]]
 rintro acc j ⟨b,N,h1,u,rfl,y,rfl⟩;have g:p≠D:=by rintro rfl;rw[zU] at hD;cases hD
 have O:M D=none:=by rw[yH g.symm] at hD;exact hD
 rw[yG (by rw[yH g.symm];exact O)];have B:b.length<=7:=by unfold FI at h1;rw[zX,xY] at h1;lia
 clear hD g O h1;walk_at "r";have Ig:∀b:List Nat,b.length<=7->(((b.map chS).map (·.length)).sum+(b.map chS).length*(a0Q "").length<=16777216):=λb h=>by rw[show b.map chS=b.map λc=>(#[(y9 [c])]:Str) from rfl,T5,show(a0Q "").length=0 from rfl];lia
 have Ih:∀b:List Nat,Txt.join (a0Q "") (b.map chS)=stS b:=λb=>aI b;have hsz:∀b:List Nat,(stS b).length=b.length:=λb=>by simp[Str.length,stS]
 refine cV (Ig _ B) ?_;rw[Ih];walk_at "r";refine UZ (by rw[hsz];exact zN B (by decide)) ?_;rw[hsz];walk_at "r";refine B9 zU y (by lia) (by lia) λa o6 Ii Ij yu=>?_;rw[yI];obtain⟨S,rfl⟩:∃S:Nat,a=(S:Int):=#[a.toNat,by lia]
 walk_at "r";refine BY (BK 0) (by simp[IY]) ?_;refine JY ?_;walk_at "r";refine#[by decide,by decide,?_];refine#[by decide,λ_=>av,sgF t s,?_,?_];. intro d hd j;obtain⟨k,hk,rfl⟩:=zL.mp hd;rw[Int.zero_add];walk_at "dl";refine#[rfl,?_];walk_at "dl";refine#[rfl,rfl,λ_=>?_];walk_at "r";refine L7 (CMul.ok (by unfold CMul;unfold O0 at Y;left;lia)) ?_;walk_at "r";refine UY L (oI _) ?_;exact#[rfl,rfl]
 rw[show Int.toNat 12=12 from rfl,wS];generalize hSG:(a0K 12).map (RK t s)=SG;walk_at "r";refine CG rfl rfl ?_;rw[if_neg nft];walk_at "r";have U:SG.length=12:=by rw[<-hSG];simp
 generalize (b4W pk).eqv (.int 0)=b0;cases b0 with
 | true=>
   rw[if_pos rfl];walk_at "r";refine BY (BK 0) (by simp[J0]) ?_;refine HB ?_;walk_at "r";refine#[by rw[zX,U];decide,λ_=>av,nmF b S,?_,?_]
   . intro d hd j;obtain⟨c,hc,rfl⟩:=zL.mp hd;have X:(stS b).length<=7:=by rw[hsz];exact B
     have hle:∀lo hi,(b0Z (stS b) lo hi).length<=7:=λlo hi=>gJ _ _ _ X;walk_at "dl";refine#[rfl,?_];walk_at "dl";refine#[rfl,rfl,λ_=>?_];walk_at "r";refine X9 (zN X (by decide)) ?_;walk_at "r";refine Q1 (zN (b3Q (hle _ _) (show(chS c).length<=1 from zR 1)) (by decide)) ?_;walk_at "r";refine X9 (zN X (by decide)) ?_;refine Q1 (by rw[aK];exact zN (b3Q (b3Q (hle _ _) (show(chS c).length<=1 from zR 1)) (hle _ _)) (by decide)) ?_;exact#[rfl,rfl]
   rw[rD];refine#[_,zT _,λp' e=>?_];cases e;exact#[SG.map (nmP b S),o6,rfl,by rw[<-hSG];exact A2Y Y u B (by lia),by rw[zX,U],yu,rfl]
 | false=>
   rw[if_neg nft];walk_at "r";refine F9 ?_;walk_at "r";intro q hq;have I:p≠q:=by rintro rfl;rw[zU] at hq;cases hq
   walk_at "r";try walk_at "unf"
   refine F3 ?_;refine HB ?_;walk_at "r";refine#[λk T M1=>∃(z:List Str) (o:MO) (x9 ze:Option DS),Sgn t s k z/\EM o/\M1=(M.put p o).put q (.l (z.map .str))/\T=[am (.loc p),am (.d (.str (a0Q "abcdefghijklmnopqrstuvwxyz"))),am (.d (.int pk)),am (.d (.int t)),am (.d (.int s)),am (.d (.str (stS b))),am (.d (.int (S:Int))),am (.d (.list (SG.map λc=>a0J (chS c)))),am (.loc q),x9,ze],#[[],o6,_,_,Sgn.start t s,yu,rfl,rfl],?_,?_]
   . rintro k d T M1 hd ⟨z,o,x9,ze,hS,ho,rfl,rfl⟩;obtain⟨hk,rfl⟩:k < 12/\d = .str (chS (RK t s k)):=by
       rw[<-hSG,zD,zF] at hd;cases hr:(a0K 12)[k]? with
       | none=>rw[hr] at hd;cases hd
       | some i=> rw[hr] at hd;obtain⟨h1,u⟩:=yT.mp hr;rw[xY] at h1;rw[List.getElem_range] at u;subst u;cases hd;exact#[h1,rfl]
     walk_at "r";refine P4 (BK 0) (by simp[F8]) ?_;refine JY ?_;walk_at "r";refine B9 (p:=p) (by rw[yH I];exact zU) ho (by decide) (by decide) λr o7 Ik hr1 Oq=>?_;rw[<-Own.put_comm I,yI];obtain⟨rn,rfl⟩:∃rn:Nat,r=(rn:Int):=#[r.toNat,by lia]
     walk_at "r";refine#[by lia,by lia,?_];rw[a2W];refine#[by unfold FI;rw[zX,xY];exact zQ (show _<=20 by lia) (by decide),λD hD=>#[λk acc j=>∃(b:List Nat) (o:MO),b.length=k/\(∀c∈b,FK c=av)/\acc=(b.map chS).map .str/\EM o/\j=((M.put p o).put q (.l (z.map .str))).put D (.l acc),#[[],o7,rfl,λ_ h=>(by cases h),rfl,Oq,rfl],?_,?_,?_]];. rintro k acc j ⟨b,N,h1,u,rfl,y,rfl⟩;exact#[zU,by rw[zX,zX];lia]
     . rintro k d acc j hd ⟨b,N,h1,u,rfl,y,rfl⟩;have G:q≠D:=by rintro rfl;rw[zU] at hD;cases hD
       have g:p≠D:=by rintro rfl;rw[yH I,zU] at hD;cases hD
       walk_at "r";refine B9 (p:=p) (by rw[yH g,yH I];exact zU) y (by decide) (by decide) λc Z zu Q J=>?_;rw[<-Own.put_comm g,<-Own.put_comm I,yI];refine UY L (Ic zu Q) ?_;exact#[_,rfl,zU,b++[KL c],Z,by rw[yY,h1];rfl,λx hx=>(yW.mp hx).elim (u x) λe=>by rw[List.mem_singleton.mp e];exact MT _,by rw[xH,xH];rfl,J,by rw[yI]]
     rintro acc j ⟨ds,N,h1,h3,rfl,y,rfl⟩;have lb:ds.length<=2:=by unfold FI at h1;rw[zX,xY] at h1;lia
     have G:q≠D:=by rintro rfl;rw[zU] at hD;cases hD
     have g:p≠D:=by rintro rfl;rw[yH I,zU] at hD;cases hD
     have O:M D=none:=by rw[yH G.symm,yH g.symm] at hD;exact hD
     rw[yG (by rw[yH G.symm,yH g.symm];exact O)];clear hD g G O h1;walk_at "r";refine MD ?_;walk_at "dl";refine#[IB (ds:=z.map .str) zU,?_];walk_at "r";refine MD ?_;walk_at "dl";refine#[UV,?_];walk_at "r";refine cV (Ig _ (by lia)) ?_;rw[Ih];refine Q1 (by rw[hsz];exact zN (b3Q (show(chS (RK t s k)).length<=1 from zR 1) lb) (by decide)) ?_;walk_at "r";refine FD (a:=q) (ds:=z.map .str) zU (by rw[zX,hS.len];exact zQ (show _<=20 by lia) (by decide)) ?_;rw[yI];exact#[z++[nmW (RK t s k) ds],N,_,_,hS.snoc h3 (by lia),y,by rw[xH];rfl,rfl]
   . rintro T M1 ⟨z,o,x9,ze,hS,ho,rfl,rfl⟩;rw[zX,U] at hS;refine fH (by assumption) ?_;try walk_at "unf"
     refine H0 (i:=8) rfl zU ?_;rw[yG (by rw[yH I.symm] at hq ⊢;exact hq)];walk_at "r";refine#[_,zT _,λp' e=>?_];cases e;exact#[z,o,rfl,hS.ok Y,hS.len,ho,rfl]
end
def RT:List Str:=["_law_pack","_law_names_here","_law_bits","_law_rest","_law_row","_law_k","_law_at"]
section
local macro_rules | `(tactic| walk_at "x")=>`(tactic| first | exists PE _ (.Call (.Attribute _ (a0Q "pop") _) ..) _,@kBm _ K _ _ _ _ _ _ _ _ _ _ _ rfl PySem.F.plainAttrs_list PySem.F.slot_list_pop PySem.F.type_list_pop (@A2P _) (by walk_at "e") (by walk_at "a") (by rfl) (by rfl) (by rfl) (by rfl) (by rfl))
local macro_rules | `(tactic| walk_at "y")=>`(tactic| first | exists PE _ (.Call (.Name (a0Q "list") _) [.Call ..] ..) _,@iK _ _ _ _ _ _ _ _ hr.hd rfl a_ rfl lu (by walk_at "a") (by rfl) (by rfl) (by rfl))
theorem RU (F:Fun K "_law_poured" "_law_poured" GQ f G) (aq:mg "len"=ap) (lu:mg "list"=ap) (a_:mg "range"=ap) (aj:Has P w K mg base "_law_take" 1 ["_law_pack","_law_size"] CI):FnOk P w K mg base CX0 2 f G ["_law_pack","_law_names_here","_law_bits"] (spD K 3 IS):=by
 refine hD RT F #[rfl,rfl,rfl,by decide +kernel,rfl,by decide +kernel,by decide +kernel] ?_;walk_at "hd";rintro xs M hl ⟨p,o,n,t,bits,rfl,m,ho,Ot,hb⟩;unfold puX;have hN:(n::t).length=t.length+1:=rfl;walk_at "r";refine bY ?_;walk_at "r";refine IC ?_;rw[zX,hN];walk_at "r";refine#[_,_,rfl,#[by lia,by lia,by lia,by lia],by lia,λq hq=>?_];rw[qZ];have I:p≠q:=by rintro rfl;rw[m] at hq;cases hq
 walk_at "r";refine F9 ?_;walk_at "r";refine AV (ds:=(n::t).map .str) (d:=.str n) (AI (j:=0) rfl) ?_;walk_at "r";intro r hr;have B:q≠r:=by rintro rfl;rw[zU] at hr;cases hr
 have h:p≠r:=by rintro rfl;rw[yH I,m] at hr;cases hr
 have Ik:M r=none:=by rw[yH B.symm] at hr;exact hr
 walk_at "wks";try walk_at "unf"
 try walk_at "unf"
 refine V4 (λg M1=>∃(J:List Nat) (O:MO) (X u:Option DS),J.Perm (a0K t.length)/\EM O/\M1=((M.put q (.l [])).put r (.l ((AW n (tkB bits t J)).map Deed.d))).put p O/\g=[am (.loc p),am (.d (VB (n::t))),am (.d (.int bits)),am (.loc q),am (.loc r),X,u]) ?_ ?_
 . try walk_at "unf"
   refine F3 ?_;refine uS ?_;walk_at "r";refine V0 (ds:=NZ (a0K t.length)) (by rw[yH B];exact zU) ?_;rw[show(NZ (a0K t.length)).length=t.length by unfold NZ;rw[zX,xY]];walk_at "r";refine#[_,_,rfl,#[by lia,by lia,by lia,by lia],?_];refine#[λk g M1=>∃(J R:List Nat) (O:MO) (X u:Option DS),(J++R).Perm (a0K t.length)/\J.length=k/\EM O/\M1=((M.put q (.l (NZ R))).put r (.l ((AW n (tkB bits t J)).map Deed.d))).put p O/\g=[am (.loc p),am (.d (VB (n::t))),am (.d (.int bits)),am (.loc q),am (.loc r),X,u],#[[],a0K t.length,o,_,_,.refl _,rfl,ho,by rw[<-Own.put_comm h,<-Own.put_comm I,Own.put_self m];rfl,rfl],?_,?_]
   . rintro k d g M1 hd ⟨J,R,O,X,u,hp,hJ,x,rfl,rfl⟩;have ac:J.length+R.length=t.length:=by have:=hp.length_eq;rw[yY,xY] at this;exact this
     obtain⟨Ql,rfl⟩:k < t.length/\d = .int (R.length:Int):=by
       unfold OL at hd;rw[zF] at hd;cases hk:(a0K ((t.length:Int) - 0).toNat)[k]? with
       | none=>rw[hk] at hd;cases hd
       | some i=> rw[hk] at hd;obtain⟨h1,Q⟩:=yT.mp hk;rw[xY] at h1;rw[List.getElem_range] at Q;subst Q;cases hd;exact#[by lia,congrArg b4W (by lia)]
     walk_at "r";refine MD ?_;walk_at "dl";have U:∀{a b c:MO},(((M.put q a).put r b).put p c) q=am a:=λ{a b c}=>by rw[yH I.symm,yH B];exact zU
     have T:∀{a b c:MO},(((M.put q a).put r b).put p c) r=am b:=λ{a b c}=>by rw[yH h.symm];exact zU
     refine#[IB (ds:=NZ R) U,?_];walk_at "r";refine B9 (p:=p) zU x (by lia) (by lia) λv N Df Oo L=>?_;rw[yI];obtain⟨j,rfl⟩:∃j:Nat,v=(j:Int):=#[v.toNat,by lia]
     obtain⟨i,hi⟩:∃i,R[j]?=am i:=#[_,zV (by lia)]
     obtain⟨hp2,oo⟩:=r6 hp hi;obtain⟨z,y⟩:∃z,t[i]?=am z:=#[_,zV oo]
     walk_at "r";refine qU (a:=q) (ds:=NZ R) (j:=j) (d:=.int ((i+1:Nat):Int)) U (by unfold NZ;rw[zF,hi];rfl) (by lia) ?_;rw[show(NZ R).eraseIdx j=NZ (R.eraseIdx j) from qT _ _ _];have D:∀a b:MO,(((M.put q a).put r b).put p N).put q (.l (NZ (R.eraseIdx j)))=((M.put q (.l (NZ (R.eraseIdx j)))).put r b).put p N:=λa b=>by rw[Own.put_comm I,Own.put_comm B.symm,yI]
     rw[D];walk_at "r";refine T2 (show(0:Int)<=((i+1:Nat):Int) by lia) ?_;walk_at "r";refine CG rfl rfl ?_;rw[if_neg nft,VH,wF];have hsz:((AW n (tkB bits t J)).map Deed.d).length < sizeLine:=by have h1:(tkB bits t J).length<=J.length:=List.length_filterMap_le _ _;unfold AW;rw[zX,yR,zX];exact zQ (show _<=100 by lia) (by decide)
     cases Y:JR bits (i+1) with
     | true=> walk_at "r";refine MD ?_;walk_at "dl";refine#[IB (a:=r) (ds:=(AW n (tkB bits t J)).map Deed.d) T,?_];walk_at "r";refine AV (ds:=(n::t).map .str) (d:=.str n) (AI (j:=0) rfl) ?_;walk_at "r";refine AV (ds:=(n::t).map .str) (d:=.str z) (AI (j:=i+1) (by rw[zI,b3K,zF,y];rfl)) ?_;walk_at "r";refine FD (a:=r) (ds:=(AW n (tkB bits t J)).map Deed.d) T hsz ?_;rw[Own.put_comm h,yI];exact#[J++[i],R.eraseIdx j,N,_,_,hp2,by rw[yY,hJ];rfl,L,by rw[ZA y,UB,xH,Y];rfl,rfl]
     | false=> walk_at "r";refine MD ?_;walk_at "dl";refine#[IB (a:=r) (ds:=(AW n (tkB bits t J)).map Deed.d) T,?_];walk_at "r";refine AV (ds:=(n::t).map .str) (d:=.str z) (AI (j:=i+1) (by rw[zI,b3K,zF,y];rfl)) ?_;walk_at "r";refine FD (a:=r) (ds:=(AW n (tkB bits t J)).map Deed.d) T hsz ?_;rw[Own.put_comm h,yI];exact#[J++[i],R.eraseIdx j,N,_,_,hp2,by rw[yY,hJ];rfl,L,by rw[ZA y,UB,xH,Y];rfl,rfl]
   . rintro g M1 ⟨J,R,O,X,u,hp,hJ,x,rfl,rfl⟩;have ac:J.length+R.length=t.length:=by have:=hp.length_eq;rw[yY,xY] at this;exact this
     obtain rfl:R=[]:=by
       have:(OL ((t.length:Nat):Int) (((t.length:Nat):Int) - 0).toNat).length=t.length:=by unfold OL;rw[zX,xY];lia
       exact List.length_eq_zero_iff.mp (by lia)
     exact#[J,O,_,_,by rw[a2Q] at hp;exact hp,x,rfl,rfl]
 . rintro g M1 ⟨J,O,X,u,hp,x,rfl,rfl⟩;try walk_at "unf"
   refine H0 (i:=4) (a:=r) rfl (by rw[yH h.symm];exact zU) ?_;rw[Own.del_put_ne h,yG (by rw[yH B.symm];exact Ik),<-Own.put_comm I];walk_at "r";refine#[M.put p O,(zT _).put (by rw[yH I.symm];exact hq),λp' x' Qm Z e=>?_];simp only[puX,List.cons.injEq,DS.loc.injEq,DS.d.injEq,PyData.int.injEq,and_true] at e;obtain⟨rfl,S,D⟩:=e;have S:=nL S;obtain⟨rfl,rfl⟩:=List.cons.inj S;obtain rfl:bits=Z:=by lia
   exact#[tkB bits t J,O,rfl,hp.filterMap _,x,rfl]
end
def RV:List Str:=["_law_name","_law_more","_law_found","_law_part"]
section
theorem RW (F:Fun K "_law_counts" "_law_counts" GR f b) (g:mg "len"=ap) (T:mg "max"=ap) (N:mg "min"=ap):FnOk P w K mg base CX0 1 f b ["_law_name","_law_more"] (spD K 2 IT):=by
 refine hD RV F #[rfl,rfl,rfl,by decide +kernel,rfl,by decide +kernel,by decide +kernel] ?_;walk_at "hd";rintro u M j ⟨x,m,rfl⟩;unfold ctX;walk_at "r";refine F9 ?_;walk_at "r";intro q hq;walk_at "wks";try walk_at "unf"
 refine V4 (λt M1=>∃(D:List Int) (o:Int) (r:Option DS),D.length<=28/\M1=M.put q (.l ((BQ x D).map Deed.d))/\t=[am (.d (.str x)),am (.d (.int o)),am (.loc q),r]) ?_ ?_
 . try walk_at "unf"
   refine YC (λn t M1=>∃(D:List Int) (o:Int) (r:Option DS),n=28 - D.length/\D.length<=28/\M1=M.put q (.l ((BQ x D).map Deed.d))/\t=[am (.d (.str x)),am (.d (.int o)),am (.loc q),r]) #[_,[],m,_,rfl,by decide,rfl,rfl] ?_;rintro n t M1 ⟨D,o,r,rfl,p,rfl,rfl⟩;walk_at "r";refine CG rfl rfl ?_;rw[if_pos rfl,VH];cases decide (o=0) with
   | true=> walk_at "r";exact#[D,o,_,p,rfl,rfl]
   | false=>
     walk_at "r";refine V0 zU ?_;rw[show(((BQ x D).map Deed.d).length:Nat)=D.length by unfold BQ;rw[zX,zX]];walk_at "r";cases h:decide ((D.length:Int) < 28) with
     | false=> walk_at "r";exact#[D,o,_,p,rfl,rfl]
     | true=>
       have c:D.length < 28:=by have:=of_decide_eq_true h;lia
       walk_at "r";refine MD ?_;walk_at "dl";refine#[IB zU,?_];walk_at "r";refine FD zU (by unfold BQ;rw[zX,zX];exact zP c (by decide)) ?_;rw[yI];walk_at "r";refine#[_,?_,D++[_],_,_,rfl,?_,qW,rfl];. rw[yY,a8V];lia
       . rw[yY,a8V];lia
 . rintro t M1 ⟨D,o,r,p,rfl,rfl⟩;try walk_at "unf"
   refine H0 (i:=2) (a:=q) rfl zU ?_;rw[yG hq];walk_at "r";refine#[M,zT M,λL k e=>?_];simp only[ctX,List.cons.injEq,DS.d.injEq,PyData.str.injEq,PyData.int.injEq,and_true] at e;obtain⟨rfl,_⟩:=e;exact#[D,rfl,p,rfl]
end
def WE:List Str:=["_law_things","_law_row","_law_now","_law_name","_law_place","_law_count","_law_deed"]
section
local macro_rules | `(tactic| walk_at "x")=>`(tactic| first | exists PG _ (.Tuple ..) _,@aF _ K _ _ _ _ (3) rfl rfl (by walk_at "j") (by rfl) (by rfl) | exists PT _ (.Compare _ [.NotIn] ..) _,@ZP _ _ _ _ _ _ (@SX _ _ _ _ _ h_ (by walk_at "e") (by walk_at "e")) (by with_unfolding_all rfl) | exists PG _ (.Tuple ..) _,@mT _ K _ _ _ _ (2) rfl rfl (by walk_at "j") (by rfl) (by rfl) | exists PE _ (.Call (.Attribute _ (a0Q "pop") _) ..) _,@X0 _ _ _ _ _ _ _ (by walk_at "e") (by walk_at "e") (@L2.M1.mk _ _ _ _ _ _ rfl rfl rfl rfl))
local macro_rules | `(tactic| walk_at "y")=>`(tactic| first | exists PE _ (.Subscript ..) _,@DQ _ _ _ _ _ _ h_ (@pv _ 2 _ _ (by rfl) (by walk_at "lc") (by decide) (by decide)) (by walk_at "e") (λ_ _=>rfl))
theorem WF (F:Fun K "_law_gone" "_law_gone" JT f L):FnOk P w K mg base CX0 1 f L ["_law_things","_law_row"] (spD K 2 HW):=by
 refine hD WE F #[rfl,rfl,rfl,by decide +kernel,rfl,by decide +kernel,by decide +kernel] ?_;walk_at "hd";rintro xs M hl ⟨w,B,rfl,Y,⟨Z,Qn⟩,hez⟩;have fin:∀{d:PyData}{o:Option (List Th)}{G:Own},M.Sub G->AY w B=o->d=bM o->∃J:Own,J.Sub G/\HW.post (gnX w B) M (.d d) J:=λ{d o G} e0 e1 e2=>#[M,e0,λw' ls e=>by simp only[gnX,DN,List.cons.injEq,DS.d.injEq,PyData.list.injEq,and_true] at e;obtain rfl:=NM e.1;obtain rfl:=DF (a:=B) (b:=ls) (by rw[e.2]);rw[e2,<-e1];exact#[rfl,rfl]]
 unfold gnX DN;walk_at "r";refine oH λp hp=>?_;walk_at "r";try walk_at "unf"
 refine F3 ?_;refine BE ?_;walk_at "r";refine#[λk r M1=>k<=w.length/\M1=M.put p (tsO (w.take k))/\∃m g X j:Option DS,r=[am (.d (wD w)),am (.d (.list (B.map Deed.d))),am (.loc p),m,g,X,j],#[xR _,rfl,_,_,_,_,rfl],?_,?_]
 . rintro k d r M1 hd ⟨hk,rfl,m,g,X,j,rfl⟩;have U:k < w.length:=by have:=(yT.mp hd).1;rw[zX] at this;exact this
   obtain rfl:thD w[k]=d:=by rw[zF,zV U] at hd;simpa using hd
   generalize hwk:w[k]=t;rw[thD];walk_at "r";refine DY ?_;walk_at "r";refine#[p,tsD (w.take k),t.1,pcD t.2.1 t.2.2,rfl,rfl,rfl,zU,GD (by rw[a1X];lia),?_];rw[yI,EG];refine#[by lia,?_,_,_,_,_,rfl];rw[oJ Y (by rw[zV U,hwk])]
 . rintro r M1 ⟨hk,rfl,m,g,X,j,rfl⟩;rw[zX,a1Q];try walk_at "unf"
   try walk_at "unf"
   refine V4 (λr M1=>∃(v:List Th) (m g X j:Option DS),AY w B=am v/\M1=M.put p (tsO v)/\r=[am (.d (wD w)),am (.d (.list (B.map Deed.d))),am (.loc p),m,g,X,j]) ?_ ?_
   . try walk_at "unf"
     refine F3 ?_;refine HB ?_;walk_at "r";refine#[λk r M1=>∃(v:List Th) (m g X j:Option DS),AY w (B.take k)=am v/\(v.map (·.1)).Nodup/\v.length < 60/\M1=M.put p (tsO v)/\r=[am (.d (wD w)),am (.d (.list (B.map Deed.d))),am (.loc p),m,g,X,j],#[w,_,_,_,_,rfl,Y,Z,rfl,rfl],?_,?_]
     . rintro k d r M1 hd ⟨v,m,g,X,j,hr,Q,I,rfl,rfl⟩;rw[zF] at hd;cases hk:B[k]? with
       | none=>rw[hk] at hd;cases hd
       | some D=>
         rw[hk] at hd;cases hd;have S:=hez D (yN hk);have stop:¬D6 D (AA v)->AY w B=none:=λh=>R5 hr hk λq=>h ((IR S).mp q);have z:D6 D (AA v)->AY w (B.take (k+1))=am (doT v D)/\((doT v D).map (·.1)).Nodup:=λh=>#[YU hr hk ((IR S).mpr h),(A3l S h Q).1]
         have one:∀{x:Str},D.names=[x]->∀{u:Int×Int},AA v x=am u->D6 D (AA v):=λ{x} e {u} h n hn=>by rw[e] at hn;rw[show n=x by simpa using hn,h];rfl
         have sub:M.Sub (M.put p (tsO v)):=(zT M).put hp;cases D with
         | take x=>
           rw[Deed.d];walk_at "r";refine HJ ?_;walk_at "r";refine#[p,tsD v,x,rfl,rfl,zU,?_];rw[AO,a1J];cases hx:AA v x with
           | none=> walk_at "r";exact fin sub (stop λq=>by have:=q x (by simp[Deed.names]);rw[hx] at this;cases this) rfl
           | some u=>
             have T:x∈v.map (·.1):=BA.mpr (by rw[hx];rfl);have hc:=one rfl hx;walk_at "r";try walk_at "unf"
             refine NI ?_;refine CH ?_;walk_at "r";refine#[p,tsD v,x,pcD u.1 u.2,rfl,rfl,zU,by rw[AO,hx];rfl,?_];refine#[_,rfl,?_];rw[pcD];walk_at "r";refine V7 ?_;walk_at "r";refine#[p,tsD v,rfl,zU,?_];walk_at "r";refine#[tsD v,x,pcD u.1 u.2,rfl,zU,by rw[AO,hx];rfl,?_];rw[yI,JG];walk_at "r";refine#[BU v x,_,_,_,_,?_,?_,zQ LL I,rfl,rfl];. have:=(z hc).1;rw[show doT v (.take x)=BU v x from rfl] at this;exact this
             . have:=(z hc).2;rw[show doT v (.take x)=BU v x from rfl] at this;exact this
         | move x N=>
           rw[Deed.d];walk_at "r";refine HJ ?_;walk_at "r";refine#[p,tsD v,x,rfl,rfl,zU,?_];rw[AO,a1J];cases hx:AA v x with
           | none=> walk_at "r";exact fin sub (stop λq=>by have:=q x (by simp[Deed.names]);rw[hx] at this;cases this) rfl
           | some u=>
             have T:x∈v.map (·.1):=BA.mpr (by rw[hx];rfl);have hc:=one rfl hx;walk_at "r";try walk_at "unf"
             refine NI ?_;refine CH ?_;walk_at "r";refine#[p,tsD v,x,pcD u.1 u.2,rfl,rfl,zU,by rw[AO,hx];rfl,?_];refine#[_,rfl,?_];rw[pcD];walk_at "r";refine DY ?_;walk_at "r";refine#[p,tsD v,x,pcD N u.2,rfl,rfl,rfl,zU,GD (by lia),?_];rw[yI,EG];walk_at "r";refine#[CD v x N u.2,_,_,_,_,?_,?_,by rw[NY T];exact I,rfl,rfl];. have:=(z hc).1;rw[show doT v (.move x N)=CD v x N u.2 by simp only[doT,hx]] at this;exact this
             . have:=(z hc).2;rw[show doT v (.move x N)=CD v x N u.2 by simp only[doT,hx]] at this;exact this
         | count x c=>
           rw[Deed.d];walk_at "r";refine HJ ?_;walk_at "r";refine#[p,tsD v,x,rfl,rfl,zU,?_];rw[AO,a1J];cases hx:AA v x with
           | none=> walk_at "r";exact fin sub (stop λq=>by have:=q x (by simp[Deed.names]);rw[hx] at this;cases this) rfl
           | some u=>
             have T:x∈v.map (·.1):=BA.mpr (by rw[hx];rfl);have hc:=one rfl hx;walk_at "r";try walk_at "unf"
             refine NI ?_;refine CH ?_;walk_at "r";refine#[p,tsD v,x,pcD u.1 u.2,rfl,rfl,zU,by rw[AO,hx];rfl,?_];refine#[_,rfl,?_];rw[pcD];walk_at "r";refine DY ?_;walk_at "r";refine#[p,tsD v,x,pcD u.1 (u.2+c),rfl,rfl,rfl,zU,GD (by lia),?_];rw[yI,EG];walk_at "r";refine#[CD v x u.1 (u.2+c),_,_,_,_,?_,?_,by rw[NY T];exact I,rfl,rfl];. have:=(z hc).1;rw[show doT v (.count x c)=CD v x u.1 (u.2+c) by simp only[doT,E6,hx]] at this;exact this
             . have:=(z hc).2;rw[show doT v (.count x c)=CD v x u.1 (u.2+c) by simp only[doT,E6,hx]] at this;exact this
         | join x y=>
           rw[Deed.d];walk_at "r";refine HJ ?_;walk_at "r";refine#[p,tsD v,x,rfl,rfl,zU,?_];rw[AO,a1J];cases hx:AA v x with
           | none=> walk_at "r";exact fin sub (stop λq=>by have:=q x (by simp[Deed.names]);rw[hx] at this;cases this) rfl
           | some u=>
             have T:x∈v.map (·.1):=BA.mpr (by rw[hx];rfl);walk_at "r";refine HJ ?_;walk_at "r";refine#[p,tsD v,y,rfl,rfl,zU,?_];rw[AO,a1J];cases hy:AA v y with
             | none=> walk_at "r";exact fin sub (stop λq=>by have:=q y (by simp[Deed.names]);rw[hy] at this;cases this) rfl
             | some O=>
               have hc:D6 (.join x y) (AA v):=λn hn=>by
                 have h2:n=x\/n=y:=by simpa [Deed.names] using hn
                 rcases h2 with rfl | rfl;. rw[hx];rfl
                 . rw[hy];rfl
               have jq:x≠y:=S;walk_at "r";try walk_at "unf"
               refine NI ?_;refine CH ?_;walk_at "r";refine#[p,tsD v,x,pcD u.1 u.2,rfl,rfl,zU,by rw[AO,hx];rfl,?_];refine#[_,rfl,?_];rw[pcD];walk_at "r";refine DY ?_;walk_at "r";refine V7 ?_;walk_at "r";refine#[p,tsD v,rfl,zU,?_];walk_at "r";refine#[tsD v,y,pcD O.1 O.2,rfl,zU,by rw[AO,hy];rfl,?_];rw[yI,JG,show pcD O.1 O.2 = .tuple [.int O.1,.int O.2] from rfl];walk_at "r";refine#[p,tsD (BU v y),x,pcD u.1 (u.2+O.2),rfl,rfl,rfl,zU,GD (zQ LL (by lia)),?_];rw[yI,EG,<-bZ T jq];walk_at "r";refine#[BU (CD v x u.1 (u.2+O.2)) y,_,_,_,_,?_,?_,zQ LL (by rw[NY T];exact I),rfl,rfl];. have:=(z hc).1;rw[show doT v (.join x y)=BU (CD v x u.1 (u.2+O.2)) y by simp only[doT,E6,hx,hy]] at this;exact this
               . have:=(z hc).2;rw[show doT v (.join x y)=BU (CD v x u.1 (u.2+O.2)) y by simp only[doT,E6,hx,hy]] at this;exact this
         | _=>exact S.elim
     . rintro r M1 ⟨v,m,g,X,j,hr,Q,I,rfl,rfl⟩;rw[zX,a1Q] at hr;exact#[v,_,_,_,_,hr,rfl,rfl]
   . rintro r M1 ⟨v,m,g,X,j,hr,rfl,rfl⟩;try walk_at "unf"
     try walk_at "unf"
     refine QT (i:=2) (a:=p) rfl zU ?_;rw[yG hp];walk_at "r";exact fin (zT M) hr rfl
end
def O3:List Str:=["_law_things","_law_last","_law_thing","_law_part"]
section
theorem O4 (F:Fun K "_law_is_world" "_law_is_world" F5 f m) (J:mg "bool"=ap) (N:mg "int"=ap) (g:mg "isinstance"=ap) (v:mg "len"=ap) (y:mg "str"=ap) (q:mg "tuple"=ap):FnOk P w K mg base CX0 1 f m ["_law_things"] (spD K 1 KB):=by
 refine hD O3 F #[rfl,rfl,rfl,by decide +kernel,rfl,by decide +kernel,by decide +kernel] ?_;walk_at "hd";rintro O M x ⟨w,rfl,G,B⟩;walk_at "r";try walk_at "unf"
 try walk_at "unf"
 refine F3 ?_;refine BE ?_;walk_at "r";refine#[λk n M1=>M1=M/\∃(z:Str) (r e:Option DS),(∀t,w[k]?=am t->sl z t.1=av)/\n=[am (.d (wD w)),am (.d (.str z)),r,e],#[rfl,_,_,_,λt c=>?_,rfl],?_,?_];. have o:=(G.2 t (yN c)).1.1;exact A2Q o
 . rintro k d n M1 hd ⟨rfl,z,r,e,o,rfl⟩;rw[zF] at hd;cases hk:w[k]? with
   | none=>rw[hk] at hd;cases hd
   | some t=>
     rw[hk] at hd;cases hd;have b:=G.2 t (yN hk);unfold thD;walk_at "r";refine JZ ?_;walk_at "r";refine CG rfl rfl ?_;rw[if_pos rfl,show a0W (.int (([a0J t.1,.int t.2.1,.int t.2.2].length:Nat):Int)) (.int 3)=av from rfl];walk_at "r";refine tQ ?_;rw[A3S,o t hk];walk_at "r";try walk_at "unf"
     refine F3 ?_;refine BE ?_;walk_at "r";refine MF ?_;refine#[_,rfl,?_];refine#[λ_ p T=>T=M1/\∃e:Option DS,p=[am (.d (wD w)),am (.d (.str z)),am (.d (.tuple [.str t.1,.int t.2.1,.int t.2.2])),e],#[rfl,_,rfl],?_,?_]
     . rintro j d p T hd ⟨rfl,e,rfl⟩;obtain⟨i,rfl⟩:∃i,d = .int i:=by have:=yN hd;rw[show GL [a0J t.1,.int t.2.1,.int t.2.2] (am 1) ap=[.int t.2.1,.int t.2.2] from rfl] at this;simp only[yX,xW,or_false] at this;rcases this with h | h <;> exact#[_,h]
       walk_at "r";exact#[rfl,_,rfl]
     . rintro p T ⟨rfl,e,rfl⟩;walk_at "r";rw[decide_eq_true b.2.1];walk_at "r";rw[decide_eq_true b.2.2];walk_at "r";refine#[rfl,_,_,_,λu hu=>?_,rfl];exact qV G.1 hk hu
 . rintro n M1 ⟨rfl,z,r,e,o,rfl⟩;walk_at "r";exact#[_,zT _,rfl,rfl]
end
def RX:List Str:=["_law_row","_law_other","_law_told","_law_one","_law_two"]
section
local macro_rules | `(tactic| walk_at "y")=>`(tactic| first | exists PT,CZ,.NotEq,(@A4U _ K rfl hu) | exists PT,CZ,.Eq,(@A4V _ K rfl hu))
theorem RY (F:Fun K "_law_parted" "_law_parted" GS f p) (N:mg "isinstance"=ap) (I:mg "len"=ap) (O:mg "tuple"=ap) (L:Has P w K mg base "_law_gone" 1 ["_law_things","_law_row"] HW) (S:Has P w K mg base "_law_is_world" 1 ["_law_things"] KB) (Q:Has P w K mg base "alike" 12 ["row","other"] FH):FnOk P w K mg base CX0 13 f p ["_law_row","_law_other"] (spD K 2 FU):=by
 refine hD RX F #[rfl,rfl,rfl,by decide +kernel,rfl,by decide +kernel,by decide +kernel] ?_;walk_at "hd";rintro xs M D ⟨ys,g,G,rfl,h⟩;have B:=h.al.few;unfold ptX DN;walk_at "r";refine G9 ?_;walk_at "r";refine G9 ?_;walk_at "r";refine N1 h.al λd hd=>?_;rcases hd with ⟨e,_⟩ | ⟨_,w,k,o,rfl⟩
 . exact absurd e h.un
 obtain⟨m,l,rfl,j,z⟩:=W1 (NX h.al h.un).1 k;have i:CO (wM m l):=VZ λn hn=>h.al.nm.1 n (j n hn);have T:(wM m l).length < 60:=by have:=pX (m:=m) (l:=l);lia
 generalize wM m l=w at i T o;have t:(w.map (·.1)).Nodup:=i.1.nodup;obtain⟨u,v,hu,r⟩:=h.both w t o;unfold eY;walk_at "r";refine JZ ?_;walk_at "r";refine qQ (CG rfl rfl ?_);rw[if_pos rfl,show a0W (.int (([a0J (a0Q "parted"),wD w].length:Nat):Int)) (.int 2)=av from rfl];walk_at "r";refine qQ (CG (by decide +kernel) (by decide +kernel) ?_);rw[if_pos rfl,show a0W (.str (a0Q "parted")) (.str (a0Q "parted"))=av by decide +kernel];walk_at "r";refine W8 i T ?_;walk_at "r";refine GJ #[t,#[T,by lia],h.ea] ?_;rw[hu,show bM (am u)=wQ u from rfl];walk_at "r";refine GJ #[t,#[T,by lia],h.eb] ?_;rw[r,show bM (am v)=wQ v from rfl];walk_at "r";refine#[_,_,rfl,?_];walk_at "r";refine ID ?_;walk_at "r";refine ID ?_;walk_at "r";refine A2O (f7 u) (f7 v) ?_;have q:RC (tsD u) (tsD v)=false:=by
   rcases HV h.ea t with ⟨_,b⟩ | ⟨J,b,Y,_⟩
   . rw[hu] at b;cases b
   . rcases HV h.eb t with ⟨_,c⟩ | ⟨U,c,Z,_⟩
     . rw[r] at c;cases c
     . have:=(wC (λx e=>by rw[e] at b;rw[Option.some.inj b];exact Y) (λx e=>by rw[e] at c;rw[Option.some.inj c];exact Z)).mpr o;rw[hu,r] at this;simpa [A3k] using this
 rw[q];walk_at "r";refine#[M,zT M,λy X e=>?_];simp only[ptX,DN,List.cons.injEq,DS.d.injEq,PyData.list.injEq,and_true] at e;obtain rfl:=DF (a:=g) (b:=y) (by rw[e.1]);obtain rfl:=DF (a:=G) (b:=X) (by rw[e.2]);exact#[w,u,v,rfl,i,T,o,rfl]
end
def O5:List Str:=["_law_script","_law_names_here","_law_pack","_law_bits","_law_rows","_law_inner","_law_counts_here","_law_turn","_law_found","_law_more"]
section
local macro_rules | `(tactic| walk_at "y")=>`(tactic| first | exists PE _ (.Subscript (.Call ..) ..) _,@DQ _ _ _ _ _ _ h_ (by walk_at "e") (by walk_at "e") (λ_ _=>rfl))
theorem O6 (F:Fun K "_law_sums_met" "_law_sums_met" F6 f fd) (xu:mg "abs"=ap) (aq:mg "len"=ap) (a_:mg "range"=ap) (ao:mg "tuple"=ap) (dn:Has P w K mg base "_law_counts" 1 ["_law_name","_law_more"] IT) (ak:Has P w K mg base "_law_digits" 1 ["_law_script","_law_k"] D7) (bo:Has P w K mg base "_law_gone" 1 ["_law_things","_law_row"] HW) (ba:Has P w K mg base "_law_parted" 13 ["_law_row","_law_other"] FU) (dq:Has P w K mg base "_law_poured" 2 ["_law_pack","_law_names_here","_law_bits"] IS) (aj:Has P w K mg base "_law_take" 1 ["_law_pack","_law_size"] CI) (gx:Has P w K mg base "alike" 12 ["row","other"] FH):FnOk P w K mg base CX0 14 f fd ["_law_script","_law_names_here"] (spD K 2 ES):=by
 refine hD O5 F #[rfl,rfl,rfl,by decide +kernel,rfl,by decide +kernel,by decide +kernel] ?_;walk_at "hd";rintro xs M hl ⟨ns,ys,rfl,pz,d_,hn,Ga⟩;unfold UD;have fin:∀{M3:Own},M.Sub M3->∃M2:Own,M2.Sub M3/\ES.post (UD ns ys) M (.d (.bool av)) M2:=λ{M3} h=>#[M,h,rfl,rfl]
 walk_at "r";refine F9 ?_;walk_at "r";refine GI pz d_ (k:=1) (by decide) λv1=>?_;walk_at "r";intro p hp;walk_at "r";refine B9 (p:=p) zU #[v1,rfl] (by decide) (by decide) λu o1 Ox h_ lg=>?_;rw[yI];obtain⟨un,rfl⟩:∃un:Nat,u=(un:Int):=#[u.toNat,by lia]
 walk_at "r";refine gG ?_;rw[show(3:Int)+(un:Int)=((3+un:Nat):Int) by lia,A1Y,<-List.map_take];have x:AK (ys.take (3+un)):=#[λz hz=>hn.1 z (List.mem_of_mem_take hz),hn.2.1.sublist (List.take_sublist _ _),by rw[a1X];lia]
 have Di:(ys.take (3+un)).length=3+un:=by rw[a1X];lia
 generalize ys.take (3+un)=zz at x Di;obtain⟨x0,zs,rfl⟩:∃x0 zs,zz=x0::zs:=by
   cases zz with
   | nil=>rw[a6J] at Di;lia
   | cons a r=>exact#[a,r,rfl]
 have Il:zs.length=2+un:=by rw[yR] at Di;lia
 have dw:x0∉zs:=(xU.mp x.2.1).1;have Dj:zs.Nodup:=(xU.mp x.2.1).2;walk_at "r";refine JB ?_;walk_at "r";refine B9 (p:=p) zU lg (by decide) (by decide) λb0 o2 Oy Oz gw=>?_;rw[yI];walk_at "r";refine B9 (p:=p) zU gw (by decide) (by decide) λb1 o3 O_ O' Fw=>?_;rw[yI];obtain⟨o,rfl⟩:∃c:Nat,b0=(c:Int):=#[b0.toNat,by lia]
 obtain⟨Y,rfl⟩:∃c:Nat,b1=(c:Int):=#[b1.toNat,by lia]
 walk_at "r";refine JB ?_;walk_at "r";refine AV (ds:=[.int (o:Int),.int (Y:Int)]) (d:=.int (o:Int)) (AI (j:=0) rfl) ?_;walk_at "r";refine OT (p:=p) (x0:=x0) (zs:=zs) (bits:=o) zU Fw (by lia) (by lia) λt o4 Dk Ie=>?_;rw[yI];walk_at "r";refine F9 ?_;walk_at "r";refine GI pz d_ (k:=2) (by decide) λv2=>?_;walk_at "r";intro q hq;have jf:p≠q:=by rintro rfl;rw[zU] at hq;cases hq
 have Gb:M q=none:=by rw[yH jf.symm] at hq;exact hq
 walk_at "r";refine AV (ds:=[.int (o:Int),.int (Y:Int)]) (d:=.int (Y:Int)) (AI (j:=1) rfl) ?_;walk_at "r";refine OT (p:=q) (x0:=x0) (zs:=zs) (bits:=Y) zU #[v2,rfl] (by lia) (by lia) λB o5 Gc Dg=>?_;rw[yI];have kg:M.Sub ((M.put p o4).put q o5):=((zT M).put hp).put Gb;generalize (M.put p o4).put q o5=N at kg;have s0:(t.map (·.2)).Perm zs:=by have:=Dk.map (·.2);rwa [fC] at this
 have s1:(B.map (·.2)).Perm zs:=by have:=Gc.map (·.2);rwa [fC] at this
 have G:(t.map (·.2)).Nodup:=s0.nodup_iff.mpr Dj;have n1:(B.map (·.2)).Nodup:=s1.nodup_iff.mpr Dj;have y:x0∉t.map (·.2):=λq=>dw (s0.mem_iff.mp q);have S:x0∉B.map (·.2):=λq=>dw (s1.mem_iff.mp q);have m0:∀n∈t.map (·.2),n∈x0::zs:=λn h=>yV _ (s0.mem_iff.mp h);have m1:∀n∈B.map (·.2),n∈x0::zs:=λn h=>yV _ (s1.mem_iff.mp h);have A3t:t.length=zs.length:=by have:=s0.length_eq;rwa [zX] at this
 have A2Z:B.length=zs.length:=by have:=s1.length_eq;rwa [zX] at this
 have O:AW x0 t=AW x0 t++BQ x0 []:=(a2Q _).symm;have ue:∀(L:List (Bool×Str)) (cs:List Int),(AW x0 L++BQ x0 cs).length=1+L.length+cs.length:=λL cs=>by unfold AW BQ;rw[yY,yR,zX,zX];lia
 have al:∀cs:List Int,cs.length<=28->AlQ (x0::zs) (AW x0 t) (AW x0 B++BQ x0 cs):=λcs T=>by rw[O];exact#[x,U7 x a0Z y m0,U7 x a0Z S m1,by rw[ue,ue,yR,a6J];lia]
 walk_at "r";refine IC ?_;rw[zX,show(x0::zs).length=3+un by rw[yR];lia];walk_at "r";refine T2 (show fT _ _ from #[by lia,by lia,by decide]) ?_;walk_at "r";rw[wE (by lia:1 < 3+un)];refine AV (ds:=[.int (o:Int),.int (Y:Int)]) (d:=.int (o:Int)) (AI (j:=0) rfl) ?_;walk_at "r";refine AV (ds:=[.int (o:Int),.int (Y:Int)]) (d:=.int (Y:Int)) (AI (j:=1) rfl) ?_;walk_at "r";refine CG rfl rfl ?_;rw[if_neg nft,VH,A3p];have Im:AlQ (x0::zs) (AW x0 t) (AW x0 B):=by have:=al [] (by decide);rwa [show BQ x0 []=[] from rfl,a2Q] at this
 have o_:∀D∈AW x0 t,HS D:=by rw[O];exact ED y
 have xy:∀D∈AW x0 B,HS D:=by have:=ED (cs:=[]) S;rwa [show BQ x0 []=[] from rfl,a2Q] at this
 cases hb:decide (o &&& (2 ^ (3+un) - 2)=Y &&& (2 ^ (3+un) - 2)) with
 | true=>
   have Gd:t.Perm B:=by have:=(UA (by lia:1 < 3+un)).mp (of_decide_eq_true hb);rw[qY λi hi=>this (i+1) (by lia) (by lia)] at Dk;exact Dk.trans Gc.symm
   walk_at "r";refine AV (ds:=[DN (AW x0 t),DN (AW x0 B)]) (d:=DN (AW x0 t)) (AI (j:=0) rfl) ?_;unfold DN;walk_at "r";refine G9 ?_;walk_at "r";refine AV (d:=.list ((AW x0 B).map Deed.d)) (AI (j:=1) rfl) ?_;walk_at "r";refine G9 ?_;walk_at "r";refine N1 Im λd hd=>?_;rcases hd with ⟨e,rfl⟩ | ⟨ne,w,F_,m,rfl⟩
   . walk_at "r";unfold qL;refine CG (by decide +kernel) (by decide +kernel) ?_;rw[if_neg nft,show a0W (.tuple [.str (a0Q "alike")]) (.tuple [.str (a0Q "alike")])=av by decide +kernel];exact fin kg
   . obtain⟨mm,l,rfl,F',Ow⟩:=W1 (NX Im ne).1 F_;have hf:CO (wM mm l):=VZ λn h=>x.1 n (F' n h);refine absurd (W4 o_ xy hf.1.nodup ?_) m;have:=jK (g:=AA (wM mm l)) (cs:=[]) G y Gd;rwa [show BQ x0 []=[] from rfl,a2Q,a2Q] at this
 | false=>
   obtain⟨i,hi,Pa⟩:∃i,i < zs.length/\JR o (i+1)≠JR Y (i+1):=by refine Decidable.byContradiction λq=>of_decide_eq_false hb ((UA (by lia:1 < 3+un)).mpr λi h1 h2=>Decidable.byContradiction λe=>q #[i - 1,by lia,by rw[show i - 1+1=i by lia];exact e])
   obtain⟨z,hz⟩:∃z,zs[i]?=am z:=#[_,zV hi]
   have Ge:¬((av,z)∈t↔(av,z)∈B):=λe=>Pa (by
     rw[Dk.mem_iff,Gc.mem_iff,fD Dj hz,fD Dj hz] at e;rw[a4J];exact e);have Dl:(t.map (·.2)).Perm (B.map (·.2)):=s0.trans s1.symm;have all1:∀{w:List Th},(∀n∈x0::t.map (·.2),(AA w n).isSome=av)->∀n∈x0::B.map (·.2),(AA w n).isSome=true:=λ{w} h n hn=>h n ((yX.mp hn).elim (λe=>by rw[e];exact a0Z) λq=>yV _ (Dl.mem_iff.mpr q));have par:∀cs:List Int,cs.length<=28->Par29 (x0::zs) (AW x0 t) (AW x0 B++BQ x0 cs):=λcs T=>by
     refine#[al cs T,o_,ED S,?_,λw X m=>?_];. obtain⟨w,X,m⟩:=Z9 (cs:=cs) G n1 y Dl Ge;rw[<-O] at m;exact RG x (al cs T).one (al cs T).two o_ (ED S) X m
     . have U:=U8 (cs:=cs) G n1 y Dl X (by rw[<-O];exact m);obtain⟨u,hu,_,_⟩:=N3 (cs:=[]) G y X U;obtain⟨v,hv,_,_⟩:=N3 (cs:=cs) n1 S X (all1 U);exact#[u,v,by rw[O];exact hu,hv]
   walk_at "r";refine JB ?_;walk_at "r";try walk_at "unf"
   refine F3 ?_;refine JY ?_;walk_at "r";refine#[by decide,by decide,?_];refine#[λk I M1=>M1=N/\∃(cs:List Int) (x7 x8 x9:Option DS),cs.length<=28/\I=[am (.d (.list (ns.map .int))),am (.d (.list ((x0::zs).map .str))),am (.loc p),am (.d (.list [.int (o:Int),.int (Y:Int)])),am (.d (.list [DN (AW x0 t),DN (AW x0 B)])),am (.d (.int ((2 ^ (3+un) - 2:Nat):Int))),am (.d (DN (BQ x0 cs))),x7,x8,x9],#[rfl,[],_,_,_,xR _,rfl],?_,?_]
   . rintro k d I M1 hd ⟨rfl,cs,x7,x8,x9,T,rfl⟩;walk_at "r";refine AV (ds:=[DN (AW x0 t),DN (AW x0 B)]) (d:=DN (AW x0 t)) (AI (j:=0) rfl) ?_;walk_at "r";refine AV (ds:=[DN (AW x0 t),DN (AW x0 B)]) (d:=DN (AW x0 B)) (AI (j:=1) rfl) ?_;walk_at "r";refine ME (a:=(AW x0 B).map Deed.d) (b:=(BQ x0 cs).map Deed.d) (by have:=ue B cs;rw[yY] at this;rw[zX,zX];exact zN (show _<=100 by lia) (by decide)) ?_;rw[<-xH];walk_at "r";refine KQ (par cs T) λw u v hf i_ m=>?_;have Z:(w.map (·.1)).Nodup:=hf.1.nodup;have U:=U8 (cs:=cs) G n1 y Dl Z (by rw[<-O];exact m);obtain⟨v0,Df,Qo,Pb⟩:=N3 (cs:=[]) G y Z U;obtain⟨v3,Io,Qp,Pc⟩:=N3 (cs:=[]) n1 S Z (all1 U);rw[show BQ x0 []=[] from rfl,a2Q] at Df Io;obtain⟨J,Ii⟩:=xX.mp Pb;obtain⟨Q,Ij⟩:=xX.mp Pc;unfold wG;walk_at "r";refine ID ?_;walk_at "r";refine HC ?_;walk_at "r";refine AV (ds:=[DN (AW x0 t),DN (AW x0 B)]) (d:=DN (AW x0 t)) (AI (j:=0) rfl) ?_;walk_at "r";refine GJ #[Z,#[i_,by have:=ue t [];rw[<-O,a6J] at this;lia],o_] ?_;rw[Df,show bM (am v0)=wQ v0 from rfl];walk_at "r";refine AV (ds:=(x0::zs).map .str) (d:=.str x0) (AI (j:=0) rfl) ?_;refine#[tsD v0,x0,.tuple [.int J.1,.int J.2],rfl,rfl,by rw[AO,Ii];rfl,?_];walk_at "r";refine HC ?_;walk_at "r";refine AV (ds:=[DN (AW x0 t),DN (AW x0 B)]) (d:=DN (AW x0 B)) (AI (j:=1) rfl) ?_;walk_at "r";refine GJ #[Z,#[i_,by have:=ue B [];rw[a6J] at this;rw[show AW x0 B++BQ x0 []=AW x0 B from a2Q _] at this;lia],xy] ?_;rw[Io,show bM (am v3)=wQ v3 from rfl];walk_at "r";refine AV (ds:=(x0::zs).map .str) (d:=.str x0) (AI (j:=0) rfl) ?_;refine#[tsD v3,x0,.tuple [.int Q.1,.int Q.2],rfl,rfl,by rw[AO,Ij];rfl,?_];walk_at "r";generalize decide (28*10 ^ Int.toNat 12 < if J.2 - Q.2 < 0 then -(J.2 - Q.2) else J.2 - Q.2)=far;cases far with
     | true=> rw[if_pos rfl];walk_at "r";exact fin kg
     | false=> rw[if_neg nft];walk_at "r";refine AV (ds:=(x0::zs).map .str) (d:=.str x0) (AI (j:=0) rfl) ?_;walk_at "r";refine ZB λPd Gf=>?_;walk_at "r";exact#[rfl,Pd,_,_,_,Gf,rfl]
   . rintro I M1 ⟨rfl,cs,x7,x8,x9,T,rfl⟩;walk_at "r";exact fin kg
end
def D8:List Str:=["_law_script","_law_names_here","_law_pack","_law_places","_law_turn","_law_ahead","_law_found","_law_there"]
def ET:List Str:=["_law_k","_law_names_here","_law_places"]
def EU:List (Option Nat):=[ap,am 1,am 3]
def EV:List Str:=["_law_name","_law_place","_law_count","_law_names_here"]
def EW:List (Option Nat):=[ap,ap,ap,am 1]
section
local macro_rules | `(tactic| walk_at "x")=>`(tactic| first | exists PG _ (.Tuple ..) _,@aF _ K _ _ _ _ (3) rfl rfl (by walk_at "j") (by rfl) (by rfl))
theorem LQ (F:Fun K "_law_places_met" "_law_places_met" BN f fd) (aq:mg "len"=ap) (a_:mg "range"=ap) (ak:Has P w K mg base "_law_digits" 1 ["_law_script","_law_k"] D7) (ba:Has P w K mg base "_law_parted" 13 ["_law_row","_law_other"] FU) (aj:Has P w K mg base "_law_take" 1 ["_law_pack","_law_size"] CI):FnOk P w K mg base CX0 14 f fd ["_law_script","_law_names_here"] (spD K 2 ES):=by
 refine hD D8 F #[rfl,rfl,rfl,by decide +kernel,rfl,by decide +kernel,by decide +kernel] ?_;walk_at "hi";have n0:ET.Nodup:=by decide +kernel
 have n1:EV.Nodup:=by decide +kernel
 walk_at "nm";clear n0 n1 nd;rintro xs M hl ⟨ns,Z,rfl,pz,d_,hn,Ga⟩;unfold UD;have fin:∀{D:Own},M.Sub D->∃M2:Own,M2.Sub D/\ES.post (UD ns Z) M (.d (.bool av)) M2:=λ{D} h=>#[M,h,rfl,rfl]
 obtain⟨o,m,rfl⟩:∃o m,Z=o::m:=by
   cases Z with
   | nil=>cases Ga
   | cons a r=>exact#[a,r,rfl]
 have Ip:∀z:Str,CW z->zH (.str z)=true:=λz h=>BZ h;have Il:m.length=11:=by rw[yR] at Ga;lia
 walk_at "r";refine F9 ?_;walk_at "r";refine GI pz d_ (k:=3) (by decide) λv1=>?_;walk_at "r";intro p hp;walk_at "r";refine F9 ?_;walk_at "r";refine B9 (p:=p) zU #[v1,rfl] (by decide) (by decide) λu o1 Ox h_ lg=>?_;rw[yI];walk_at "r";intro q hq;have G:p≠q:=by rintro rfl;rw[zU] at hq;cases hq
 have Gb:M q=none:=by rw[yH G.symm] at hq;exact hq
 have kg:∀a b:MO,M.Sub ((M.put p a).put q b):=λa b=>((zT M).put hp).put Gb;try walk_at "unf"
 refine aA ?_;try walk_at "unf"
 refine F3 ?_;refine JY ?_;walk_at "r";refine B9 (p:=p) (by rw[yH G];exact zU) lg (by decide) (by decide) λt o2 Om Aq gw=>?_;rw[<-Own.put_comm G,yI];walk_at "r";obtain⟨O,rfl⟩:∃O:Nat,t=(O:Int):=#[t.toNat,by lia]
 refine#[by lia,by lia,?_];rw[show((2:Int)+(O:Int)).toNat=2+O by lia];refine#[λk c M1=>∃(Q:List Int) (J X U Y:Option DS),Q.length=k+1/\(∀z∈Q,0<=z/\z<=999)/\M1=(M.put p o2).put q (.l (Q.map .int))/\c=[am (.d (.list (ns.map .int))),am (.d (.list ((o::m).map .str))),am (.loc p),am (.loc q),J,X,U,Y],#[[u],_,_,_,_,rfl,λz x=>by rw[List.mem_singleton.mp x];lia,rfl,rfl],?_,?_]
 . rintro k d c M1 hd ⟨Q,J,X,U,Y,T,I,rfl,rfl⟩;have hk:k < 2+O:=by have:=(yT.mp hd).1;unfold FI at this;rwa [zX,xY] at this
   have y:∀b:MO,((M.put p o2).put q b) q=am b:=λb=>zU;have S:=A3r (n:=k) hn Il (by lia) (by lia) I;walk_at "r";refine CJ (BK 0) (by simp[EU]) ?_;refine JY ?_;walk_at "r";refine V0 (ds:=Q.map .int) (y _) ?_;rw[zX,T];walk_at "r";rw[show((k+1:Nat):Int) - 1=(k:Int) by lia];refine#[by lia,by lia,?_];rw[a2W];refine#[by unfold FI;rw[zX,xY];exact zQ (show _<=20 by lia) (by decide),λ_=>av,mvF m Q,?_,?_]
   . rintro d hd A acc M' hA rfl;have Pe:q≠A:=by rintro rfl;rw[y] at hA;cases hA
     obtain⟨i,hi,rfl⟩:=zL.mp hd;have hi:=List.mem_range.mp hi;rw[Int.zero_add];obtain⟨z,x⟩:∃z,m[i]?=am z:=#[_,zV (by lia)]
     obtain⟨r,N⟩:∃r,Q[i]?=am r:=#[_,zV (by lia)]
     walk_at "dl";refine#[rfl,?_];walk_at "r";refine#[rfl,rfl,λ_=>?_];walk_at "r";refine AV (ds:=(o::m).map .str) (d:=.str z) (AI (j:=i+1) (by rw[zI,b3K,zF,x];rfl)) ?_;walk_at "r";refine UX (a:=q) (ds:=Q.map .int) (d:=.int r) (by rw[yH Pe];exact y _) (AI (j:=i) (by rw[zF,N];rfl)) ?_;walk_at "r";refine#[?_,rfl];show _=DS.d (mvD m Q ((i:Int)).toNat).d;unfold mvD;rw[a2W,yU,yU,x,N];rfl
   rw[A3q];obtain⟨r,N⟩:∃r,Q[k]?=am r:=#[_,zV (by lia)]
   have hr2:=I r (yN N);have wu:atI (Q.map b4W) (-1)=am (.int r):=by unfold atI ixN;rw[zX,T,if_neg (by decide),if_pos (by lia),show(-1+((k+1:Nat):Int)).toNat=k by lia];show(Q.map b4W)[k]?=_;rw[zF,N];rfl
   generalize ahD m Q k=g at S;walk_at "r";refine JB ?_;walk_at "r";refine AV (ds:=(o::m).map .str) (d:=.str o) (AI (j:=0) rfl) ?_;walk_at "r";refine UX (a:=q) (ds:=Q.map .int) (d:=.int r) (y _) wu ?_;walk_at "r";have Qq:=S.few.1;refine ME (a:=g.map Deed.d) (b:=[Deed.d (.move o r)]) (by rw[zX];exact zN (show _<=100 by simp;lia) (by decide)) ?_;rw[show g.map Deed.d++[Deed.d (.move o r)]=(g++[Deed.move o r]).map Deed.d by rw[xH];rfl];walk_at "r";refine JB ?_;walk_at "r";refine AV (ds:=(o::m).map .str) (d:=.str o) (AI (j:=0) rfl) ?_;walk_at "r";refine ME (a:=g.map Deed.d) (b:=[Deed.d (.count o 0)]) (by rw[zX];exact zN (show _<=100 by simp;lia) (by decide)) ?_;rw[show g.map Deed.d++[Deed.d (.count o 0)]=(g++[Deed.count o 0]).map Deed.d by rw[xH];rfl];walk_at "r";refine KQ (A2R S hr2) λw u v B i_ au=>?_;obtain⟨_,pc,L⟩:=fG S B.1.nodup au;have Gh:=HG B L;unfold wG;walk_at "r";refine ID ?_;walk_at "r";refine BY (V2 (D0 (D0 (D0 V1)))) (by simp[EW]) ?_;refine BE ?_;walk_at "r";try refine#[_,rfl,?_]
   refine#[by rw[zX];exact xP i_ (by decide),isN o,plF,?_,?_];. intro d hd M';obtain⟨t,ht,rfl⟩:=zL.mp hd;unfold thD;walk_at "r";refine#[rfl,?_];walk_at "r";refine AV (ds:=(o::m).map .str) (d:=.str o) (AI (j:=0) rfl) ?_;refine CG (Ip _ (B.2 t ht).1) (Ip _ (hn.1 o a0Z)) ?_;rw[if_neg nft,MJ];walk_at "r";refine#[rfl,rfl,λ_=>?_];walk_at "r";exact#[rfl,rfl]
   have Di:((w.map thD).filter (isN o)).map plF≠[]:=λe=>by have:=RJ L;rw[e] at this;cases this
   have De:=RJ L;generalize ((w.map thD).filter (isN o)).map plF=TH at De;walk_at "r";refine MD ?_;walk_at "dl";refine#[IB (ds:=Q.map .int) (y _),?_];walk_at "r";refine AV (ds:=TH) (d:=.int pc.1) (AI (j:=0) De) ?_;walk_at "r";refine FD (a:=q) (ds:=Q.map .int) (y _) (by rw[zX,T];exact zQ (show _<=20 by lia) (by decide)) ?_;rw[yI];exact#[Q++[pc.1],_,_,_,_,by rw[yY,T];rfl,λz x=>(yW.mp x).elim (I z) λe=>by rw[List.mem_singleton.mp e];exact Gh.2,by rw[xH];rfl,rfl]
 . rintro c M1 ⟨Q,J,X,U,Y,T,I,rfl,rfl⟩;walk_at "r";exact fin (kg _ _)
end
def ZF:List Str:=["thing"]
theorem ZG (F:Fun K "is_whole" "is_whole" LN f t) (J:mg "bool"=ap) (o:mg "int"=ap) (n:mg "isinstance"=ap):FnOk P w K mg base CX0 1 f t ["thing"] (spD K 1 L6):=by
 refine hD ZF F #[rfl,rfl,rfl,by decide +kernel,rfl,by decide +kernel,by decide +kernel] ?_;walk_at "hd";rintro i M m ⟨d,rfl,-⟩;walk_at "dl";walk_at "dl";walk_at "dl";cases d <;>
 . walk_at "r";exact#[M,zT M,λI e=>by cases e;exact#[rfl,rfl]]
def WG:List Str:=["thing","low","high"]
section
theorem WH (F:Fun K "is_within" "is_within" JU f n) (o:Has P w K mg base "is_whole" 1 ["thing"] L6):FnOk P w K mg base CX0 2 f n ["thing","low","high"] (spD K 3 GA):=by
 refine hD WG F #[rfl,rfl,rfl,by decide +kernel,rfl,by decide +kernel,by decide +kernel] ?_;walk_at "hd";rintro p M m ⟨d,r,hi,rfl⟩;walk_at "r";refine CV trivial ?_;cases d
 case int i=>
   walk_at "r";refine sM (λh=>?_) (λh=>?_);. walk_at "r";exact#[M,zT M,λI t hi' e=>by cases e;refine#[?_,rfl];simp only[MG];rw[h];rfl]
   . exact#[M,zT M,λI t hi' e=>by cases e;refine#[?_,rfl];simp only[MG];simp at h;simp;lia]
 all_goals
   walk_at "r";exact#[M,zT M,λI t hi' e=>by cases e;exact#[rfl,rfl]]
end
def ZH:List Str:=["thing"]
theorem ZI (F:Fun K "is_place" "is_place" LO f n) (J:∃t,mg "LAST_PLACE"=am (.int (999) t)) (o:Has P w K mg base "is_within" 2 ["thing","low","high"] GA):FnOk P w K mg base CX0 3 f n ["thing"] (spD K 1 Q2):=by refine hD ZH F #[rfl,rfl,rfl,by decide +kernel,rfl,by decide +kernel,by decide +kernel] ?_;walk_at "hd";rintro i M m ⟨d,rfl,-⟩;walk_at "r";refine XA ?_;exact#[M,zT M,λI e=>by cases e;exact#[by rw[V3],rfl]]
def RZ:List Str:=["thing"]
def N7:List Str:=["sign"]
def N8:List (Option Nat):=[ap]
section
local macro_rules | `(tactic| walk_at "x")=>`(tactic| first | exists PE _ (.Compare _ [.In] ..) _,@G6 _ _ _ _ _ _ _ _ (@kIn _ K rfl) (by walk_at "e") (by walk_at "e") (by with_unfolding_all rfl))
theorem c9 (F:Fun K "is_name" "is_name" KC f o) (b:mg "all"=ap) (m:mg "isinstance"=ap) (g:mg "len"=ap) (y:mg "str"=ap) (L:∃t,mg "LETTERS"=am (.str ("abcdefghijklmnopqrstuvwxyz") t)) (Q:∃t,mg "LONGEST_NAME"=am (.int (8) t)):FnOk P w K mg base CX0 1 f o ["thing"] (spD K 1 T4):=by
 refine hD RZ F #[rfl,rfl,rfl,by decide +kernel,rfl,by decide +kernel,by decide +kernel] ?_;walk_at "hi";have N:N7.Nodup:=by decide +kernel
 walk_at "nm";clear N nd;rintro h M p ⟨d,rfl,hd⟩;cases d
 case str z=>
   have i:z.length<=sizeLine:=zN hd.1 (by decide);have q:(z.length:Int)=(z.cps.size:Int):=rfl;walk_at "r";refine UZ i ?_;walk_at "r";refine sM (λh1=>?_) (λh1=>?_)
   . walk_at "r";refine sM (λn=>?_) (λn=>?_);. walk_at "r";exact#[M,zT M,λI e=>by cases e;refine#[?_,rfl];simp only[CN];simp at h1 n;rw[q] at h1 n;simp;lia]
     . walk_at "r";refine BY (BK 0) (by simp[N8]) ?_;refine tS ?_;walk_at "r";refine#[by simp only[CU,zX,a4W];exact zQ hd.1 (by decide),λ_=>av,λd=>.bool (u0 d),?_,?_];. intro d G r;obtain⟨c,hc,rfl⟩:=zL.mp G;walk_at "dl";refine#[rfl,?_];walk_at "dl";refine#[rfl,rfl,λ_=>?_];walk_at "r";refine tR ?_;rw[aG c (hd.2 c hc)];exact#[by simp[u0],rfl]
       . walk_at "r";rw[gH];refine lW ?_;rw[aH];exact#[M,zT M,λI e=>by cases e;refine#[?_,rfl];simp only[CN];simp at h1 n;rw[q] at h1 n;simp;lia]
   . walk_at "r";exact#[M,zT M,λI e=>by cases e;refine#[?_,rfl];simp only[CN];simp at h1;rw[q] at h1;simp;lia]
 all_goals
   walk_at "r";exact#[M,zT M,λI e=>by cases e;exact#[rfl,rfl]]
end
def cA:List Str:=["word"]
section
theorem cB (F:Fun K "form_of" "form_of" O1 f t) (n:mg "isinstance"=ap) (y:mg "str"=ap) (jt:∃a,mg "FORMS"=am (.ref a)/\GDict w K a HD):FnOk P w K mg base CX0 1 f t ["word"] (spD K 1 NJ):=by
 refine hD cA F #[rfl,rfl,rfl,by decide +kernel,rfl,by decide +kernel,by decide +kernel] ?_;walk_at "hd";rintro o M m ⟨d,rfl,-⟩;cases d
 case str z=> walk_at "r";refine u6 ?_;walk_at "r";exact#[M,zT M,λI e=>by cases e;exact#[rfl,rfl]]
 all_goals
   walk_at "r";exact#[M,zT M,λI e=>by cases e;exact#[rfl,rfl]]
end
def wV:List Str:=["sign","part"]
theorem wW (F:Fun K "fits" "fits" c6 f t) (U:Has P w K mg base "is_name" 1 ["thing"] T4) (i:Has P w K mg base "is_place" 3 ["thing"] Q2) (o:Has P w K mg base "is_whole" 1 ["thing"] L6):FnOk P w K mg base CX0 4 f t ["sign","part"] (spD K 2 nC):=by
 refine hD wV F #[rfl,rfl,rfl,by decide +kernel,rfl,by decide +kernel,by decide +kernel] ?_;walk_at "hd";rintro r M m ⟨a,b,rfl,c,rfl,hc,hb⟩;have X:zH (.str #[(y9 [c])])=true:=FF (by show PyData.strOk _=av;simp[PyData.strOk];lia) (by simp[a3Z]);walk_at "r";refine CG X (by decide +kernel) ?_;rw[if_neg nft,MJ];cases h1:((⟨(y9 [c])⟩:Str)==a0Q "n") with
 | true=> walk_at "r";refine CV hb ?_;exact#[M,zT M,λa b e=>by cases e;exact#[by simp only[MK,h1];rfl,rfl]]
 | false=>
   walk_at "r";refine CG X (by decide +kernel) ?_;rw[if_neg nft,MJ];cases n:((⟨(y9 [c])⟩:Str)==a0Q "p") with
   | true=> walk_at "r";refine CV trivial ?_;exact#[M,zT M,λa b e=>by cases e;exact#[by simp only[MK,h1,n];rfl,rfl]]
   | false=> walk_at "r";refine CV trivial ?_;exact#[M,zT M,λa b e=>by cases e;exact#[by simp only[MK,h1,n];rfl,rfl]]
def ZJ:List Str:=["deed"]
section
theorem ZK (F:Fun K "names_in" "names_in" LP f t) (i:Has P w K mg base "form_of" 1 ["word"] NJ):FnOk P w K mg base CX0 2 f t ["deed"] (spD K 1 L9):=by
 refine hD ZJ F #[rfl,rfl,rfl,by decide +kernel,rfl,by decide +kernel,by decide +kernel] ?_;walk_at "hd";rintro p M m ⟨d,rfl,w,f,r,rfl,n⟩;obtain⟨o,fs,q,_,_⟩:=QG n;have Q:QE (.str w) = .str f:=by show gK (HD.lookup w)=_;rw[n];rfl
 walk_at "r";refine MD ?_;walk_at "r";refine CV trivial ?_;rw[Q];refine#[UV,?_];walk_at "r";refine gN ?_;rw[q];cases htw:XW w with
 | true=> walk_at "r";refine MF ?_;rw[show GL (a0J w::r) (am 1) (am 3)=r.take 2 from cY _ 1 3];exact#[M,zT M,λI e=>by cases e;refine#[?_,rfl];simp only[QF,htw];rfl]
 | false=> walk_at "r";refine MF ?_;rw[show GL (a0J w::r) (am 1) (am 2)=r.take 1 from cY _ 1 2];exact#[M,zT M,λI e=>by cases e;refine#[?_,rfl];simp only[QF,htw];rfl]
end
def S0:List Str:=["thing","form","names"]
def N9:List Str:=["sign","part"]
def NA:List (Option Nat):=[ap,ap]
section
local macro_rules | `(tactic| walk_at "x")=>`(tactic| first | exists PG _ (.Tuple ..) _,@aF _ K _ _ _ _ (2) rfl rfl (by walk_at "j") (by rfl) (by rfl))
theorem cC (F:Fun K "is_deed" "is_deed" KD f i) (pb:mg "all"=ap) (af:mg "isinstance"=ap) (aq:mg "len"=ap) (ao:mg "tuple"=ap) (ug:mg "zip"=ap) (uh:Has P w K mg base "fits" 4 ["sign","part"] nC) (di:Has P w K mg base "form_of" 1 ["word"] NJ) (cb:Has P w K mg base "names_in" 2 ["deed"] L9):FnOk P w K mg base CX0 5 f i ["thing"] (spD K 1 NK):=by
 refine hD S0 F #[rfl,rfl,rfl,by decide +kernel,rfl,by decide +kernel,by decide +kernel] ?_;walk_at "hi";have L:N9.Nodup:=by decide +kernel
 walk_at "nm";clear L nd;rintro xs M hl ⟨d,rfl,hd⟩;cases d
 case tuple ds=>
   have fin:∀b:Bool,B3 ds=b->∃T:Own,T.Sub M/\NK.post [.d (.tuple ds)] M (.d (.bool b)) T:=λb hb=>#[M,zT M,λI e=>by cases e;exact#[by show DS.d (.bool b) = .d (.bool (B3 ds));rw[hb],rfl]]
   walk_at "r";refine JZ ?_;walk_at "r";refine CG rfl rfl ?_;rw[if_neg nft]
   match ds,hd,fin with
   | [],_,fin=> walk_at "r";exact fin ay rfl
   | a::r,hd,fin=>
     rw[show a0W (.int ((a::r).length:Nat)) (.int 0)=ay by simp[a0W];lia];walk_at "r";refine CV trivial ?_;have X:DW (QE a)=av->B3 (a::r)=false:=λh=>by
       cases a with
       | str w=>
         cases t:HD.lookup w with
         | none=>simp only[B3,t]
         | some f=>simp only[QE,t,gK,DW] at h;cases h
       | _=>rfl
     cases hn:DW (QE a) with
     | true=> walk_at "r";refine ID ?_;rw[hn];walk_at "r";exact fin ay (X hn)
     | false=>
       have G:∃w f,a = .str w/\HD.lookup w=am f:=by
         cases a with
         | str w=>
           cases t:HD.lookup w with
           | none=>simp only[QE,t,gK,DW] at hn;cases hn
           | some f=>exact#[w,f,rfl,t]
         | _=>cases hn
       obtain⟨w,f,rfl,t⟩:=G;obtain⟨o,fs,fn,O,f1⟩:=QG t;have uf:QE (.str w) = .str f:=by show gK (HD.lookup w)=_;rw[t];rfl
       have n:B3 (.str w::r)=((r.length==f.cps.size)&&IF f r&&(!XW w||!a0W (r.getD 0 .none) (r.getD 1 .none))):=by simp only[B3,t]
       rw[uf];walk_at "r";refine ID ?_;walk_at "r";refine JZ ?_;walk_at "r";refine UZ (zN fs (by decide)) ?_;walk_at "r";refine CG rfl rfl ?_;rw[if_pos rfl];have u:a0W (.int ((a0J w::r).length:Nat)) (.int ((f.length:Int)+1))=(r.length==f.cps.size):=by show(((r.length+1:Nat):Int)==((f.cps.size:Int)+1))=_;rw[a4J,beq_iff_eq,beq_iff_eq];lia
       rw[u];cases q:(r.length==f.cps.size) with
       | false=> walk_at "r";exact fin ay (by rw[n,q];rfl)
       | true=>
         have v:r.length=f.cps.size:=eq_of_beq q;have m:r.length<=4:=by lia
         walk_at "r";refine BY (V2 (D0 (D0 V1))) (by simp[NA]) ?_;refine wP ?_;walk_at "r";refine MF ?_;rw[show GL (a0J w::r) (am 1) ap=r from mD _ 1];walk_at "r";refine#[_,_,_,_,rfl,.inr #[_,rfl,o,rfl],.inl rfl,?_,λ_=>av,A3X,?_,?_];. unfold X7;rw[zX,List.length_zip];exact zQ (show _<=4 by lia) (by decide)
         . intro d J M';obtain⟨⟨Z,D⟩,g,rfl⟩:=zL.mp J;have hs:Z∈CU f:=(b3J g).1;have hp:D∈r:=(b3J g).2;obtain⟨c,hc,rfl⟩:=zL.mp hs;have k:c < 128:=by have:=Array.all_eq_true'.mp o c (by simpa using hc);simpa using this
           walk_at "r";refine#[rfl,?_];walk_at "dl";refine#[rfl,rfl,λ_=>?_];walk_at "r";refine mE #[c,rfl,k,hd.2 D (yV _ hp)] ?_;exact#[rfl,rfl]
         . rw[nD];walk_at "r";refine lW ?_;rw[show(((CU f).zip r).map λp=>MK p.1 p.2).all id=IF f r by unfold IF;rw[List.all_map];rfl];cases hfit:IF f r with
           | false=> walk_at "r";exact fin ay (by rw[n,q,hfit];rfl)
           | true=>
             walk_at "r";refine CV #[w,f,r,rfl,t] ?_;rw[show QF (.tuple (.str w::r)) = .tuple (r.take (if XW w then 2 else 1)) from rfl];cases htw:XW w with
             | false=>
               match r,v,m,n,hfit,fin with
               | [],v,_,_,_,_=>exact absurd v (by show ¬(0=f.cps.size);lia)
               | x::Y,v,m,n,hfit,fin=> walk_at "r";refine JZ ?_;walk_at "r";refine CG rfl rfl ?_;walk_at "r";exact fin av (by rw[n,q,hfit,htw];rfl)
             | true=>
               obtain⟨f2,S,B⟩:=O htw
               match r,v,m,n,hfit,fin with
               | [],v,_,_,_,_=>exact absurd v (by show ¬(0=f.cps.size);lia)
               | [_],v,_,_,_,_=>exact absurd v (by show ¬(1=f.cps.size);lia)
               | x::y::Y,v,m,n,hfit,fin=> obtain⟨Q,U⟩:=nE S B hfit;obtain⟨zx,rfl,z⟩:=TC Q;obtain⟨zy,rfl,N⟩:=TC U;walk_at "r";refine JZ ?_;walk_at "r";refine CG rfl rfl ?_;walk_at "r";refine AQ (d:=.str zx) (AI (j:=0) rfl) ?_;walk_at "r";refine AQ (d:=.str zy) (AI (j:=1) rfl) ?_;refine CG (BZ z) (BZ N) ?_;rw[if_pos rfl];exact fin _ (by rw[n,q,hfit,htw];rfl)
 all_goals
   walk_at "r";exact#[M,zT M,λI e=>by cases e;exact#[rfl,rfl]]
end
def cD:List Str:=["deed"]
section
local macro_rules | `(tactic| walk_at "x")=>`(tactic| first | exists PT _ (.Compare _ [.In] ..) _,@CZ _ _ _ _ _ _ _ _ (@kIn _ K rfl) (by walk_at "e") (by walk_at "e") (by with_unfolding_all rfl))
theorem cF (F:Fun K "made_by" "made_by" O2 f i):FnOk P w K mg base CX0 1 f i ["deed"] (spD K 1 TN):=by
 refine hD cD F #[rfl,rfl,rfl,by decide +kernel,rfl,by decide +kernel,by decide +kernel] ?_;walk_at "hd";rintro p M m ⟨d,rfl,D,rfl,hD⟩;rw[D.d_eq];walk_at "r";refine CG D.word_ok (by decide +kernel) ?_;rw[if_neg nft,MJ,nG];cases hp:D.isPut with
 | true=> walk_at "r";refine#[M,zT M,λI e=>?_];cases e;refine#[?_,rfl];cases D <;> first | rfl | cases hp
 | false=>
   walk_at "r";refine d0 (ys:=[a0Q "name", a0Q "split"]) ?_;rw[A4O,uE];cases hn:D.isNS with
   | true=>
     have n:∃y t,D.rest = .str y::t:=by cases D <;> first | exact#[_,_,rfl] | cases hn
     obtain⟨y,t,n⟩:=n;walk_at "r";refine AQ (d:=.str y) (AI (j:=2) (by rw[n];rfl)) ?_;refine#[M,zT M,λI e=>?_];cases e;refine#[?_,rfl];cases D <;> first | (cases hn;done) | (simp only[Deed.rest] at n;injection n with o r;injection o with o;subst o;rfl)
   | false=> walk_at "r";refine#[M,zT M,λI e=>?_];cases e;refine#[?_,rfl];cases D <;> first | rfl | (cases hn;done) | (cases hp;done)
end
def OV:List Str:=["world"]
def KR:List Str:=["name","place","count"]
def KS:List (Option Nat):=[ap,ap,ap]
section
local macro_rules | `(tactic| walk_at "x")=>`(tactic| first | exists PG _ (.Tuple ..) _,@aF _ K _ _ _ _ (3) rfl rfl (by walk_at "j") (by rfl) (by rfl))
theorem ZL (F:Fun K "by_names" "by_names" IU f n):FnOk P w K mg base CX0 1 f n ["world"] (spD K 1 E7):=by
 refine hD OV F #[rfl,rfl,rfl,by decide +kernel,rfl,by decide +kernel,by decide +kernel] ?_;walk_at "hi";have N:KR.Nodup:=by decide +kernel
 walk_at "nm";clear N nd;rintro b M m ⟨w,rfl,nd,q⟩;have i:w.length < sizeLine:=zP q (by decide);walk_at "r";refine QD (V2 (D0 (D0 (D0 V1)))) (by simp[KS]) ?_;refine BE ?_;walk_at "r";have o:(w.map thD).map nm0=w.map (·.1):=u4 w;refine#[by rw[zX];exact i,λ_=>av,nm0,A4P,by rw[Y3,o];exact nd,?_,?_];. intro d hd r;obtain⟨t,u,rfl⟩:=zL.mp hd;rw[thD];walk_at "r";refine#[rfl,?_];walk_at "dl";refine#[rfl,rfl,λ_=>?_];walk_at "r";refine#[rfl,rfl,?_];walk_at "r";exact#[rfl,rfl]
 . intro p hp;rw[Y3,zD];refine#[_,zT _,λv e=>#[p,hp,rfl,?_]];have e:=NM (show wD w=wD v by simpa using e);subst e;rfl
end
def FV:List Str:=["things"]
def EX:List Str:=["name","things"]
def EY:List (Option Nat):=[ap,am 0]
section
local macro_rules | `(tactic| walk_at "y")=>`(tactic| first | exists PE _ (.Subscript ..) _,@DQ _ _ _ _ _ _ h_ (@pv _ 1 _ _ (by rfl) (by walk_at "lc") (by decide) (by decide)) (@pv _ 0 _ _ (by rfl) (by walk_at "lc") (by decide) (by decide)) (λ_ _=>rfl))
theorem LR (F:Fun K "rising_by_names" "rising_by_names" CC f n) (cy:mg "sorted"=ap) (c:mg "tuple"=ap):FnOk P w K mg base CX0 1 f n ["things"] (spD K 1 BO):=by
 refine hD FV F #[rfl,rfl,rfl,by decide +kernel,rfl,by decide +kernel,by decide +kernel] ?_;walk_at "hi";have N:EX.Nodup:=by decide +kernel
 walk_at "nm";clear N nd;rintro z M g ⟨p,ts,rfl,m,nd,O,hb⟩;walk_at "r";refine CJ (BK 0) (by simp[EY]) ?_;refine HB ?_;walk_at "r";refine mZ (ts:=ts) m O λx hp hs=>?_;have q:x.length=ts.length:=by have:=hp.length_eq;simpa using this
 refine#[_,rfl,by rw[zX,q];exact zP O (by decide),λ_=>av,RB ts,?_,?_]
 . rintro d hd A acc r hA rfl;obtain⟨s,k,rfl⟩:=zL.mp hd;obtain⟨t,u,o⟩:=zL.mp (hp.mem_iff.mp k);obtain⟨ds,j,h⟩:=hb t u;have X:BS ts s=am (.tuple ds):=by rw[<-o,<-j];exact RA nd u
   have i:p≠A:=λe=>by rw[e] at m;rw[hA] at m;cases m
   walk_at "r";refine#[rfl,?_];walk_at "dl";refine#[rfl,rfl,λ_=>?_];walk_at "r";refine CH ?_;walk_at "r";refine#[p,ts,s,.tuple ds,rfl,rfl,by rw[yH i];exact m,X,?_];refine EK (zN (show _<=10 by simp;lia) (by decide)) ?_;refine#[?_,rfl];simp only[RB,X];rfl
 . rw[Y3];walk_at "r";refine G9 ?_;refine#[M,zT M,λy v e b=>?_];cases e;obtain rfl:=OS (MO.d.inj (Option.some.inj (m.symm.trans b)));exact#[x,hp,hs,rfl,rfl]
end
def WI:List Str:=["things","name","more","place","count"]
section
local macro_rules | `(tactic| walk_at "x")=>`(tactic| first | exists PG _ (.Tuple ..) _,@mT _ K _ _ _ _ (2) rfl rfl (by walk_at "j") (by rfl) (by rfl))
local macro_rules | `(tactic| walk_at "y")=>`(tactic| first | exists PE _ (.Subscript ..) _,@DQ _ _ _ _ _ _ h_ (@pv _ 0 _ _ (by rfl) (by walk_at "lc") (by decide) (by decide)) (@pv _ 1 _ _ (by rfl) (by walk_at "lc") (by decide) (by decide)) (λ_ _=>rfl))
theorem WJ (F:Fun K "add_count" "add_count" JV f t):FnOk P w K mg base CX0 1 f t ["things","name","more"] (spD K 3 GC):=by
 refine hD WI F #[rfl,rfl,rfl,by decide +kernel,rfl,by decide +kernel,by decide +kernel] ?_;walk_at "hd";rintro c M n ⟨p,o,x,k,v,rfl,m,G,O⟩;walk_at "dl";try walk_at "unf"
 refine NI ?_;refine CH ?_;walk_at "r";refine#[p,tsD o,x,pcD v.1 v.2,rfl,rfl,m,by rw[AO,G];rfl,?_];rw[pcD];walk_at "r";refine DY ?_;walk_at "r";refine#[p,tsD o,x,pcD v.1 (v.2+k),rfl,rfl,rfl,m,by unfold tsD;rw[zX];exact zP O (by decide),?_];refine#[_,zT _,λj r L i e b=>?_];cases e;have e:=dH (Option.some.inj (m.symm.trans b));subst e;refine#[rfl,?_];rw[EG];unfold E6;rw[G]
end
theorem ZM (F:Fun K "__init__" "NotNow.__init__" CA f e) (c:XCls K C S (.ref f)) (cs:XSet K C "name"):FnOk P w K mg base CX0 1 f e ["self","name"] (F4 C "name"):=
 dR F #[rfl,rfl,rfl,by decide +kernel,rfl,by decide +kernel,by decide +kernel] rfl c cs (by decide) (λ_=>rfl) (λX hN hS=>pv 0 (by rw[hN];rfl) (by rw[hS];exact Or.inl rfl)) (λX hN hS=>pv 1 (by rw[hN];rfl) (by rw[hS];exact Or.inl rfl))
def LS:List Str:=["things","deed","made","name"]
section
local macro_rules | `(tactic| walk_at "x")=>`(tactic| first | exists PE _ (.Compare _ [.In] ..) _,@A0M _ _ _ _ _ _ (@kS _ _ _ _ _ h_ (by walk_at "e") (by walk_at "e")) (by with_unfolding_all rfl))
theorem LU (F:Fun K "refuse_undoable" "refuse_undoable" E2 f t) (cz:HasN K mg "NoDeed" U r) (c_:HasR P w K mg base "NotNow" "name" N r) (Y:Has P w K mg base "is_deed" 5 ["thing"] NK) (Z:Has P w K mg base "made_by" 1 ["deed"] TN) (v:Has P w K mg base "names_in" 2 ["deed"] L9):FnOk P w K mg base (CXE P w) 6 f t ["things","deed"] (spX K 2 (DH N)):=by
 refine hDX LS F #[rfl,rfl,rfl,by decide +kernel,rfl,by decide +kernel,by decide +kernel] ?_;walk_at "hd";rintro O M T ⟨p,o,D,rfl,m,hr⟩;have j:aX D.d:=Y0 hr;walk_at "r";refine CV (uN hr.1) ?_;rw[uM hr];walk_at "r";refine CV j ?_;walk_at "r";try walk_at "unf"
 refine nY ?_;refine BE ?_;walk_at "r";refine CV (nA D) ?_;rw[nB];walk_at "r";refine#[λk S i=>i=M/\(∀x∈D.names.take k,amB (o.map (·.1)) D x=ay)/\∃x:Option DS,S=[am (.loc p),am (.d D.d),am (.d (XY D.d)),x],#[rfl,by simp,_,rfl],?_,?_]
 . rintro k d S i hd ⟨rfl,hk,x,rfl⟩;rw[zF] at hd;cases hsk:D.names[k]? with
   | none=>rw[hsk] at hd;cases hd
   | some n=>
     rw[hsk] at hd;cases hd;have hn:n∈D.names:=yN hsk;have g:CW n:=hr.1 n hn;walk_at "r";refine dE ?_;walk_at "r";refine#[p,tsD o,n,rfl,rfl,m,?_];walk_at "r";refine CG (BZ g) (uF hr.1) ?_;rw[if_neg nft,uO];refine CG rfl rfl ?_;rw[if_neg nft,i0,AO,a1J,IG];have z:(decide (n∈o.map (·.1))==decide (D.made=am n))=amB (o.map (·.1)) D n:=rfl;rw[z];cases hb:amB (o.map (·.1)) D n with
     | true=> walk_at "r";refine#[_,zT _,λu q c e b=>?_];obtain⟨rfl,rfl,rfl⟩:=R9 e m b;exact#[n,YZ hk hsk hb,rfl,rfl,rfl]
     | false=>
       walk_at "r";refine#[rfl,λy hy=>?_,_,rfl];rw[a2K,hsk] at hy;rcases yW.mp hy with h | h;. exact hk y h
       . have:y=n:=by simpa using h
         rw[this];exact hb
 . rintro S i ⟨rfl,hk,x,rfl⟩;rw[zX,a1Q] at hk;refine#[_,zT _,λu q c e b=>?_];obtain⟨rfl,rfl,rfl⟩:=R9 e m b;exact#[pT hk,rfl,rfl]
end
def jN:List Str:=["things","deed","word","name"]
section
local macro_rules | `(tactic| walk_at "x")=>`(tactic| first | exists PE _ (.Call (.Attribute _ (a0Q "pop") _) ..) _,@X0 _ _ _ _ _ _ _ (by walk_at "e") (by walk_at "e") (@L2.M1.mk _ _ _ _ _ _ rfl rfl rfl rfl))
local macro_rules | `(tactic| walk_at "y")=>`(tactic| first | exists PE _ (.Subscript ..) _,@DQ _ _ _ _ _ _ h_ (@pv _ 0 _ _ (by rfl) (by walk_at "lc") (by decide) (by decide)) (@pv _ 3 _ _ (by rfl) (by walk_at "lc") (by decide) (by decide)) (λ_ _=>rfl) | exists PE _ (.Subscript ..) _,@DQ _ _ _ _ _ _ h_ (@pv _ 0 _ _ (by rfl) (by walk_at "lc") (by decide) (by decide)) (by walk_at "e") (λ_ _=>rfl))
theorem jO (F:Fun K "change" "change" RM f z) (I:Has P w K mg base "add_count" 1 ["things","name","more"] GC):FnOk P w K mg base CX0 2 f z ["things","deed"] (spD K 2 ML):=by
 refine hD jN F #[rfl,rfl,rfl,by decide +kernel,rfl,by decide +kernel,by decide +kernel] ?_;walk_at "hd";rintro B M S ⟨p,o,D,rfl,m,⟨nd,T⟩,hr,N⟩;have O:o.length < 64:=b9Z T;have n:=EN N;cases D with
 | put x i k=> have hx:x∉o.map (·.1):=λq=>(n x (by simp[Deed.names])).mp q rfl;rw[Deed.d];walk_at "r";refine#[_,_,rfl,?_];walk_at "r";refine DY ?_;walk_at "r";refine#[p,tsD o,x,pcD i k,rfl,rfl,rfl,m,GD O,?_];refine#[_,zT _,λg r c e b=>?_];obtain⟨rfl,rfl,rfl⟩:=IH (D:=Deed.put x i k) m e b;refine#[rfl,?_];rw[EG];rfl
 | take x=> obtain⟨v,t⟩:=BF ((n x (by simp[Deed.names])).mpr (by simp[Deed.made]));rw[Deed.d];walk_at "r";refine#[_,_,rfl,?_];walk_at "r";refine dF ?_;walk_at "r";refine#[p,tsD o,x,rfl,rfl,m,by rw[AO,t];rfl,?_];refine#[_,zT _,λg r c e b=>?_];obtain⟨rfl,rfl,rfl⟩:=IH (D:=Deed.take x) m e b;refine#[rfl,?_];rw[JG];rfl
 | move x i=>
   obtain⟨v,t⟩:=BF ((n x (by simp[Deed.names])).mpr (by simp[Deed.made]));rw[Deed.d];walk_at "r";refine#[_,_,rfl,?_];walk_at "r";refine DY ?_;walk_at "r";refine CH ?_;walk_at "r";refine#[p,tsD o,x,pcD v.1 v.2,rfl,rfl,m,by rw[AO,t];rfl,?_];walk_at "r";try refine AQ (ds:=[.int v.1,.int v.2]) (d:=.int v.2) (AI (j:=1) rfl) ?_
   walk_at "r";refine#[p,tsD o,x,pcD i v.2,rfl,rfl,rfl,m,GD O,?_];refine#[_,zT _,λg r c e b=>?_];obtain⟨rfl,rfl,rfl⟩:=IH (D:=Deed.move x i) m e b;refine#[rfl,?_];rw[EG];simp only[doT,t]
 | count x k=> obtain⟨v,t⟩:=BF ((n x (by simp[Deed.names])).mpr (by simp[Deed.made]));rw[Deed.d];walk_at "r";refine#[_,_,rfl,?_];walk_at "r";refine QJ m t O ?_;walk_at "r";refine#[_,zT _,λg r c e b=>?_];obtain⟨rfl,rfl,rfl⟩:=IH (D:=Deed.count x k) m e b;refine#[rfl,?_];rfl
 | name x y=> obtain⟨v,t⟩:=BF ((n x (by simp[Deed.names])).mpr (by simp[Deed.made,hr.2.1.symm]));rw[Deed.d];walk_at "r";refine#[_,_,rfl,?_];walk_at "r";refine DY ?_;refine V7 ?_;walk_at "r";refine#[p,tsD o,rfl,m,?_];walk_at "r";refine#[tsD o,x,pcD v.1 v.2,rfl,m,by rw[AO,t];rfl,?_];rw[JG];walk_at "r";refine#[p,tsD (BU o x),y,pcD v.1 v.2,rfl,rfl,rfl,zU,GD (zQ (yJ _ _) O),?_];rw[yI];refine#[_,zT _,λg r c e b=>?_];obtain⟨rfl,rfl,rfl⟩:=IH (D:=Deed.name x y) m e b;refine#[rfl,?_];rw[EG];simp only[doT,t]
 | split x y i k=> obtain⟨v,t⟩:=BF ((n x (by simp[Deed.names])).mpr (by simp[Deed.made,hr.2.1.symm]));rw[Deed.d];walk_at "r";refine#[_,_,rfl,?_];walk_at "r";refine QJ m t O ?_;walk_at "r";refine DY ?_;walk_at "r";refine#[p,tsD (E6 o x (-k)),y,pcD i k,rfl,rfl,rfl,zU,GD (by rw[nJ];exact O),?_];rw[yI];refine#[_,zT _,λg r c e b=>?_];obtain⟨rfl,rfl,rfl⟩:=IH (D:=Deed.split x y i k) m e b;refine#[rfl,?_];rw[EG];rfl
 | join x y=>
   obtain⟨v,t⟩:=BF ((n x (by simp[Deed.names])).mpr (by simp[Deed.made]));obtain⟨u,h⟩:=BF ((n y (by simp[Deed.names])).mpr (by simp[Deed.made]));rw[Deed.d];walk_at "r";refine#[_,_,rfl,?_];walk_at "r";refine CH ?_;walk_at "r";refine#[p,tsD o,y,pcD u.1 u.2,rfl,rfl,m,by rw[AO,h];rfl,?_];walk_at "r";try refine AQ (ds:=[.int u.1,.int u.2]) (d:=.int u.2) (AI (j:=1) rfl) ?_
   walk_at "r";refine QJ m t O ?_;walk_at "r";refine dF ?_;walk_at "r";refine#[p,tsD (E6 o x u.2),y,rfl,rfl,zU,by rw[AO,a1J,IG,E8,<-IG,h];rfl,?_];rw[yI];refine#[_,zT _,λg r c e b=>?_];obtain⟨rfl,rfl,rfl⟩:=IH (D:=Deed.join x y) m e b;refine#[rfl,?_];rw[JG];simp only[doT,h]
end
def wX:List Str:=["world","deed","things"]
section
theorem wY (F:Fun K "done" "done" c7 f t) (ah:HasX P w K mg base "refuse_undoable" 6 ["things","deed"] (DH N)) (m:Has P w K mg base "by_names" 1 ["world"] E7) (r:Has P w K mg base "change" 2 ["things","deed"] ML) (n:Has P w K mg base "rising_by_names" 1 ["things"] BO):FnOk P w K mg base CX0 7 f t ["world","deed"] (spD K 2 V8):=by refine hD wX F #[rfl,rfl,rfl,by decide +kernel,rfl,by decide +kernel,by decide +kernel] ?_;walk_at "hd";rintro b M o ⟨w,D,rfl,hg⟩;obtain⟨n1,i⟩:=NO hg;obtain⟨hc,hr,g⟩:=hg;walk_at "r";refine GN hc λp hp=>?_;walk_at "r";refine Y1 zU hr g ?_;walk_at "r";refine Y2 zU hc hr g ?_;rw[yI];walk_at "r";refine GO zU n1 i ?_;refine#[M,(zT M).put hp,λv c e=>?_];obtain⟨rfl,rfl⟩:=II e;exact#[rfl,rfl]
end
def WK:List Str:=["world","deed","things","word","name"]
section
local macro_rules | `(tactic| walk_at "y")=>`(tactic| first | exists PE _ (.Subscript ..) _,@DQ _ _ _ _ _ _ h_ (@pv _ 2 _ _ (by rfl) (by walk_at "lc") (by decide) (by decide)) (@pv _ 4 _ _ (by rfl) (by walk_at "lc") (by decide) (by decide)) (λ_ _=>rfl) | exists PE _ (.Subscript ..) _,@DQ _ _ _ _ _ _ h_ (@pv _ 2 _ _ (by rfl) (by walk_at "lc") (by decide) (by decide)) (by walk_at "e") (λ_ _=>rfl))
theorem WL (F:Fun K "back_deed" "back_deed" JW f m) (ah:HasX P w K mg base "refuse_undoable" 6 ["things","deed"] (DH N)) (g:Has P w K mg base "by_names" 1 ["world"] E7):FnOk P w K mg base (CXE P w) 7 f m ["world","deed"] (spX K 2 (K4 N)):=by
 refine hDX WK F #[rfl,rfl,rfl,by decide +kernel,rfl,by decide +kernel,by decide +kernel] ?_;walk_at "hd";rintro q M h ⟨w,D,rfl,hc,hr⟩;walk_at "r";refine GN hc λp hp=>?_;walk_at "r";refine VW zU hr (λhn=>?_) λz b=>?_
 rotate_left
 . refine#[M,(zT M).put hp,λt c e=>?_];obtain⟨rfl,rfl⟩:=II e;exact#[z,b,rfl,rfl,rfl]
 have i:=EN hn;cases D with
 | put x o k=> rw[Deed.d];walk_at "r";refine#[_,_,rfl,?_];walk_at "r";refine#[M,(zT M).put hp,λt c e=>?_];obtain⟨rfl,rfl⟩:=II (D:=Deed.put x o k) e;refine#[hn,?_];exact#[rfl,rfl]
 | take x=> obtain⟨v,n⟩:=BF ((i x (by simp[Deed.names])).mpr (by simp[Deed.made]));rw[Deed.d];walk_at "r";refine#[_,_,rfl,?_];walk_at "r";refine CH ?_;walk_at "r";refine#[p,tsD w,x,pcD v.1 v.2,rfl,rfl,zU,by rw[AO,n];rfl,?_];refine EK (yD rfl) ?_;refine#[M,(zT M).put hp,λt c e=>?_];obtain⟨rfl,rfl⟩:=II (D:=Deed.take x) e;refine#[hn,?_];exact#[by simp only[BV,n];rfl,rfl]
 | move x o=>
   obtain⟨v,n⟩:=BF ((i x (by simp[Deed.names])).mpr (by simp[Deed.made]));rw[Deed.d];walk_at "r";refine#[_,_,rfl,?_];walk_at "r";refine CH ?_;walk_at "r";refine#[p,tsD w,x,pcD v.1 v.2,rfl,rfl,zU,by rw[AO,n];rfl,?_];walk_at "r";try refine AQ (ds:=[.int v.1,.int v.2]) (d:=.int v.1) (AI (j:=0) rfl) ?_
   walk_at "r";refine#[M,(zT M).put hp,λt c e=>?_];obtain⟨rfl,rfl⟩:=II (D:=Deed.move x o) e;refine#[hn,?_];exact#[by simp only[BV,n];rfl,rfl]
 | count x k=> rw[Deed.d];walk_at "r";refine#[_,_,rfl,?_];walk_at "r";refine#[M,(zT M).put hp,λt c e=>?_];obtain⟨rfl,rfl⟩:=II (D:=Deed.count x k) e;refine#[hn,?_];exact#[rfl,rfl]
 | name x y=> rw[Deed.d];walk_at "r";refine#[_,_,rfl,?_];walk_at "r";refine#[M,(zT M).put hp,λt c e=>?_];obtain⟨rfl,rfl⟩:=II (D:=Deed.name x y) e;refine#[hn,?_];exact#[rfl,rfl]
 | split x y o k=> rw[Deed.d];walk_at "r";refine#[_,_,rfl,?_];walk_at "r";refine#[M,(zT M).put hp,λt c e=>?_];obtain⟨rfl,rfl⟩:=II (D:=Deed.split x y o k) e;refine#[hn,?_];exact#[rfl,rfl]
 | join x y=> obtain⟨u,r⟩:=BF ((i y (by simp[Deed.names])).mpr (by simp[Deed.made]));rw[Deed.d];walk_at "r";refine#[_,_,rfl,?_];walk_at "r";refine CH ?_;walk_at "r";refine#[p,tsD w,y,pcD u.1 u.2,rfl,rfl,zU,by rw[AO,r];rfl,?_];refine EK (yD rfl) ?_;refine#[M,(zT M).put hp,λt c e=>?_];obtain⟨rfl,rfl⟩:=II (D:=Deed.join x y) e;refine#[hn,?_];exact#[by simp only[BV,r];rfl,rfl]
end
theorem cG (F:Fun K "__init__" "NoRow.__init__" C6 f e) (c:XCls K C S (.ref f)) (cs:XSet K C "number"):FnOk P w K mg base CX0 1 f e ["self","number"] (F4 C "number"):=
 dR F #[rfl,rfl,rfl,by decide +kernel,rfl,by decide +kernel,by decide +kernel] rfl c cs (by decide) (λ_=>rfl) (λX hN hS=>pv 0 (by rw[hN];rfl) (by rw[hS];exact Or.inl rfl)) (λX hN hS=>pv 1 (by rw[hN];rfl) (by rw[hS];exact Or.inl rfl))
def jP:List Str:=["world","row","here","back","number","deed"]
section
local macro_rules | `(tactic| walk_at "x")=>`(tactic| first | exists PG _ (.Tuple ..) _,@aF _ K _ _ _ _ (2) rfl rfl (by walk_at "j") (by rfl) (by rfl))
theorem jQ (F:Fun K "walked" "walked" RN f c) (de:mg "enumerate"=ap) (ic:HasRA P w K mg base "NoRow" "number" o n) (cz:HasN K mg "NoDeed" U n) (ej:HasR P w K mg base "NoRow" "number" o n) (c_:HasR P w K mg base "NotNow" "name" N n) (Q:HasX P w K mg base "back_deed" 7 ["world","deed"] (K4 N)) (S:Has P w K mg base "by_names" 1 ["world"] E7) (Y:Has P w K mg base "done" 7 ["world","deed"] V8) (I:Has P w K mg base "rising_by_names" 1 ["things"] BO):FnOk P w K mg base (CXE P w) 8 f c ["world","row"] (spX K 2 (GX o eL)):=by
 refine hDX jP F #[rfl,rfl,rfl,by decide +kernel,rfl,by decide +kernel,by decide +kernel] ?_;walk_at "hd";rintro Z M X ⟨w,B,rfl,m⟩;have G:=m.fine;have O:=m.few;unfold J3;walk_at "r";refine GN #[G.1.nodup,by lia] λp hp=>?_;walk_at "r";refine GO zU G.1.nodup (by lia) ?_;rw[h9 G.1];walk_at "r";refine F9 ?_;walk_at "r";intro A hA;have y:p≠A:=by rintro rfl;rw[zU] at hA;cases hA
 have q:M A=none:=by rw[yH y.symm] at hA;exact hA
 walk_at "wks";try walk_at "unf"
 refine nY ?_;refine pE ?_;walk_at "r";have hle:(OO (B.map Deed.d)).length=B.length:=by unfold OO;rw[zX,List.length_zipIdx,zX]
 refine#[λk t M1=>k<=B.length/\CB w (B.take k)/\M1=(M.put p (tsO w)).put A (.l (bkL w B k))/\∃(r b:Option DS),t=[am (.d (wD w)),am (.d (.tuple (B.map Deed.d))),am (.d (wD (wsF w B k))),am (.loc A),r,b],#[xR _,trivial,rfl,_,_,rfl],?_,?_]
 . rintro k d t M1 hd ⟨hk,hb,rfl,r,b,rfl⟩;have g:k < B.length:=by rw[<-hle];exact(yT.mp hd).1
   have hD:B[k]?=am B[k]:=zV g;obtain rfl:d = .tuple [.int (k:Nat),(B[k]).d]:=by unfold OO at hd;rw[zF,List.getElem?_zipIdx,zF,hD] at hd;simpa using hd.symm
   obtain⟨J,L⟩:=qH m hb hk;have hr:=m.real _ (a3J g);generalize B[k]=D at hD hr;walk_at "r";try walk_at "unf"
   refine vL λT=>?_;try walk_at "unf"
   refine nX (dP (A2C ?_));walk_at "dl";refine#[IB zU,?_];refine o0 (HI ?_);walk_at "r";refine bQ L hr (λj=>?_) λz u=>?_
   . have hg:goD (wsF w B k) D:=#[L,hr,j]
     refine nZ (lB ?_);refine FD zU (by rw[uP];exact zP (show k < 60 by lia) (by decide)) ?_;refine FA ?_;walk_at "r";refine hU hg ?_;refine#[by lia,OQ hb hD hg,?_,am (.d (.int (k:Nat))),am (.d D.d),?_];. rw[yI,nM];congr 3;simp only[bkF,hD]
     . rw[dL hD];rfl
   . refine#[.inr rfl,(λz' e=>by unfold nnX at e;injection e with e;injection e with e;exact absurd e (by decide +kernel)),?_];walk_at "r";refine#[M,((zT M).put hp).put q,λx v e=>?_];obtain⟨rfl,rfl⟩:=K3 e;exact#[k,#[hb,D,hD,by rw[u];exact Option.some_ne_none z],rfl,rfl,rfl]
 . rintro t M1 ⟨hk,hb,h⟩;rw[hle] at h hb;rw[a1Q] at hb;obtain⟨rfl,r,b,rfl⟩:=h;refine FA ?_;try walk_at "unf"
   refine H0 (i:=3) (a:=A) rfl zU ?_;rw[yG hA];walk_at "r";refine#[M,(zT M).put hp,λx v e=>?_];obtain⟨rfl,rfl⟩:=K3 e;refine#[hb,?_,rfl];rw[show wsF w B B.length=JH w B by unfold wsF;rw[a1Q]];rfl
end
def wZ:List Str:=["world","row"]
theorem xA (F:Fun K "gone" "gone" c8 f n) (p:HasX P w K mg base "walked" 8 ["world","row"] (GX t eL)):FnOk P w K mg base (CXE P w) 9 f n ["world","row"] (spX K 2 (GX t pU)):=by
 refine hDX wZ F #[rfl,rfl,rfl,by decide +kernel,rfl,by decide +kernel,by decide +kernel] ?_;walk_at "hd";rintro b M r ⟨w,B,rfl,m⟩;unfold J3;try walk_at "unf"
 refine bB (A2D (HI ?_));walk_at "r";refine eO m (λhb=>?_) λi hi=>?_
 . walk_at "r";unfold eL;try refine AQ (d:=wD (JH w B)) rfl ?_
   refine#[M,zT M,λv o e=>?_];obtain⟨rfl,rfl⟩:=K3 e;exact#[hb,rfl,rfl]
 . refine#[M,zT M,λv o e=>?_];obtain⟨rfl,rfl⟩:=K3 e;exact#[i,hi,rfl,rfl,rfl]
def jR:List Str:=["world","row"]
section
theorem jS (F:Fun K "behind" "behind" RO f o) (r:XM K t t) (ej:HasR P w K mg base "NoRow" "number" t p) (c:HasX P w K mg base "gone" 9 ["world","row"] (GX t pU)):FnOk P w K mg base CX0 10 f o ["world","row"] (spD K 2 IQ):=by
 refine hD jR F #[rfl,rfl,rfl,by decide +kernel,rfl,by decide +kernel,by decide +kernel] ?_;walk_at "hd";rintro g M b ⟨w,B,rfl,n⟩;unfold J3;try walk_at "unf"
 refine A1n λR=>?_;try walk_at "unf"
 refine bB (HI ?_);walk_at "r";refine eO n (λhb=>?_) λi hi=>#[#[t,rfl,r],?_]
 . refine#[M,zT M,λv m e=>?_];obtain⟨rfl,rfl⟩:=K3 e;rw[eR n hb];exact#[rfl,rfl]
 . walk_at "r";refine#[M,zT M,λv m e=>?_];obtain⟨rfl,rfl⟩:=K3 e;rw[vM n hi];exact#[rfl,rfl]
end
def rJ:List Str:=["world","row","other"]
theorem rK (F:Fun K "parts" "parts" W9 f n) (r:Has P w K mg base "behind" 10 ["world","row"] IQ):FnOk P w K mg base CX0 11 f n ["world","row","other"] (spD K 3 K9):=by refine hD rJ F #[rfl,rfl,rfl,by decide +kernel,rfl,by decide +kernel,by decide +kernel] ?_;walk_at "hd";rintro p M m ⟨w,o,G,rfl,h1,t⟩;unfold prX N0;walk_at "r";refine KO h1 ?_;walk_at "r";refine KO t ?_;refine CG (NW h1) (NW t) ?_;rw[if_pos rfl];refine#[M,zT M,λv i X e=>?_];obtain⟨rfl,rfl,rfl⟩:=vV e;rw[A2I h1 t];exact#[rfl,rfl]
def jT:List Str:=["names"]
section
local macro_rules | `(tactic| walk_at "y")=>`(tactic| first | exists PE _ (.Call (.Name (a0Q "sorted") _) ..) _,@DO _ _ _ _ _ _ _ _ _ (@v9 _ K rfl) (by rfl) cy PyProof.Rows.boot_sorted (by walk_at "a") (by decide) (by decide) (by rfl) (by rfl))
theorem jU (F:Fun K "rising" "rising" RP f t) (cy:mg "sorted"=ap) (n:mg "tuple"=ap):FnOk P w K mg base CX0 1 f t ["names"] (spD K 1 EA):=by refine hD jT F #[rfl,rfl,rfl,by decide +kernel,rfl,by decide +kernel,by decide +kernel] ?_;walk_at "hd";rintro o M m ⟨l,rfl,O⟩;rw[show AM l = .tuple (l.map .str) from rfl];walk_at "r";refine iN O λx hp hs=>?_;walk_at "r";refine G9 ?_;refine#[M,zT M,λq e=>?_];simp only[List.cons.injEq,DS.d.injEq,and_true] at e;rw[<-FQ e,dX hp hs];exact#[rfl,rfl]
end
def HX:List Str:=["told"]
def FW:List Str:=["name","place","froms","plus"]
def FX:List (Option Nat):=[ap,ap,ap,ap]
section
local macro_rules | `(tactic| walk_at "x")=>`(tactic| first | exists PG _ (.Tuple ..) _,@aF _ K _ _ _ _ (4) rfl rfl (by walk_at "j") (by rfl) (by rfl))
theorem O7 (F:Fun K "by_left_names" "by_left_names" D4 f n):FnOk P w K mg base CX0 1 f n ["told"] (spD K 1 IK):=by
 refine hD HX F #[rfl,rfl,rfl,by decide +kernel,rfl,by decide +kernel,by decide +kernel] ?_;walk_at "hi";have N:FW.Nodup:=by decide +kernel
 walk_at "nm";clear N nd;rintro r M m ⟨E,rfl,o,B⟩;walk_at "r";refine QD (V2 (D0 (D0 (D0 (D0 V1))))) (by simp[FX]) ?_;refine BE ?_;walk_at "r";try refine AQ (ds:=[AM E.st,AM E.fr,.tuple (E.lf.map lfE)]) (d:=.tuple (E.lf.map lfE)) rfl ?_
 refine#[_,rfl,?_];refine#[by rw[zX];exact zQ B (by decide),λ_=>av,nmE,vlE,?_,?_,λp hp=>?_];. rw[Y3,zD];exact o
 . intro d hd i;obtain⟨t,u,rfl⟩:=zL.mp hd;unfold lfE;walk_at "r";refine#[rfl,?_];walk_at "dl";refine#[rfl,rfl,λ_=>?_];walk_at "r";refine#[rfl,rfl,?_];walk_at "r";exact#[rfl,rfl]
 rw[Y3,zD];refine#[_,zT _,λG e=>?_];simp only[List.cons.injEq,DS.d.injEq,and_true] at e;rw[<-FC e];exact#[p,hp,rfl,rfl]
end
def S3:List Str:=["one","between","other","missing","in_the_way"]
def S4:List Str:=["name","between","one"]
def S5:List (Option Nat):=[ap,am 1,am 0]
def S6:List Str:=["name","between"]
def S7:List (Option Nat):=[ap,am 1]
section
local macro_rules | `(tactic| walk_at "x")=>`(tactic| first | exists PT _ (.Compare _ [.In] ..) _,@CZ _ _ _ _ _ _ _ _ (@kIn _ K rfl) (by walk_at "e") (by walk_at "e") (by with_unfolding_all rfl))
local macro_rules | `(tactic| walk_at "y")=>`(tactic| first | exists PT _ (.Compare _ [.NotIn] [.Name (a0Q "between") _] _) _,@ZP _ _ _ _ _ _ (@SX _ _ _ _ _ h_ (@pv _ 0 _ _ (by rfl) (by walk_at "lc") (by decide) (by decide)) (@pv _ 1 _ _ (by rfl) (by walk_at "lc") (by decide) (by decide))) (by with_unfolding_all rfl) | exists PT _ (.Compare _ [.In] [.Name (a0Q "between") _] _) _,@ZP _ _ _ _ _ _ (@kS _ _ _ _ _ h_ (@pv _ 0 _ _ (by rfl) (by walk_at "lc") (by decide) (by decide)) (@pv _ 1 _ _ (by rfl) (by walk_at "lc") (by decide) (by decide))) (by with_unfolding_all rfl))
theorem rL (F:Fun K "clash" "clash" N6 f o) (y:mg "len"=ap):FnOk P w K mg base CX0 1 f o ["one","between","other"] (spD K 3 HK):=by
 refine hD S3 F #[rfl,rfl,rfl,by decide +kernel,rfl,by decide +kernel,by decide +kernel] ?_;walk_at "hi";have N:S4.Nodup:=by decide +kernel
 have n1:S6.Nodup:=by decide +kernel
 walk_at "nm";clear N n1 nd;rintro B M O ⟨G,one,other,p,rfl,m,h1,i,hn⟩;have k:=E3 hn i.st;have v:=E3 hn i.fr;have I:=E3 hn h1.st;have X:=E3 hn h1.fr;have sz:∀{l:List Str},l.length<=26->(l.map a0J).length < sizeLine:=λ{l} h=>by rw[zX];exact zQ h (by decide)
 have r:∀z,(BS (one.lf.map λt=>(t.1,DK t.2)) z).isSome=CS one.lf z:=λz=>by rw[HM,a1J];rfl
 rw[show clX one other p=[.d one.d,.loc p,.d other.d] from rfl];walk_at "r";refine CJ (BK 0) (by simp[S5]) ?_;refine BE ?_;walk_at "r";try refine AQ (ds:=[AM other.st,AM other.fr,.tuple (other.lf.map lfE)]) (d:=AM other.st) rfl ?_
 refine#[_,rfl,?_];refine#[sz k,msT (one.st++one.fr) one.lf,id,?_,?_]
 . rintro d hd A acc g hA rfl;obtain⟨z,j,rfl⟩:=zL.mp hd;have u:p≠A:=by rintro rfl;rw[m] at hA;cases hA
   walk_at "dl";refine#[rfl,?_];walk_at "r";try refine AQ (ds:=[AM one.st,AM one.fr,.tuple (one.lf.map lfE)]) (d:=AM one.st) rfl ?_
   walk_at "r";try refine AQ (ds:=[AM one.st,AM one.fr,.tuple (one.lf.map lfE)]) (d:=AM one.fr) rfl ?_
   refine EK (by rw[zX,zX];exact zN (show _<=52 by lia) (by decide)) ?_;rw[<-xH];refine d0 ?_;cases hk:decide (z∈one.st++one.fr) with
   | false=>
     refine#[_,rfl,?_];walk_at "r";refine#[rfl,?_,λq=>?_];. show ay=(decide (z∈one.st++one.fr)&&!CS one.lf z);rw[hk];rfl
     . have c:(decide (z∈one.st++one.fr)&&!CS one.lf z)=true:=q;rw[hk] at c;cases c
   | true=>
     refine#[_,rfl,?_];walk_at "r";refine HJ ?_;walk_at "r";refine#[p,_,z,rfl,rfl,by rw[yH u];exact m,?_];rw[r];refine#[_,rfl,rfl,?_,λ_=>?_];. show _=(decide (z∈one.st++one.fr)&&!CS one.lf z);rw[hk];rfl
     walk_at "r";exact#[rfl,rfl]
 walk_at "r";refine CJ (BK 0) (by simp[S7]) ?_;refine BE ?_;walk_at "r";try refine AQ (ds:=[AM other.st,AM other.fr,.tuple (other.lf.map lfE)]) (d:=AM other.fr) rfl ?_
 refine#[_,rfl,?_];refine#[sz v,wyT one.lf,id,?_,?_]
 . rintro d hd A acc g hA rfl;obtain⟨z,j,rfl⟩:=zL.mp hd;have u:p≠A:=by rintro rfl;rw[m] at hA;cases hA
   walk_at "dl";refine#[rfl,?_];walk_at "r";refine dE ?_;walk_at "r";refine#[p,_,z,rfl,rfl,by rw[yH u];exact m,?_];rw[r];refine#[_,rfl,rfl,rfl,λ_=>?_];walk_at "r";exact#[rfl,rfl]
 walk_at "r";refine IC ?_;rw[A1s];walk_at "r";have fin:∀{b:Bool},b=B2 one other->∃T:Own,T.Sub M/\HK.post [.d one.d,.loc p,.d other.d] M (.d (.bool b)) T:=λ{b} e=>#[M,zT M,λx D S e'=>by simp only[clX,List.cons.injEq,DS.d.injEq,DS.loc.injEq,and_true] at e';rw[<-FC e'.1,<-FC e'.2.2,e];exact#[rfl,rfl]]
 rw[dY];cases h1:other.st.any (λn=>decide (n∈one.st++one.fr)&&!CS one.lf n) with
 | true=> rw[if_pos rfl];exact fin (by unfold B2;rw[h1];rfl)
 | false=> rw[if_neg nft];walk_at "r";refine IC ?_;rw[A1t];walk_at "r";rw[dY];exact fin (by unfold B2;rw[h1];rfl)
end
def O8:List Str:=["between","place","froms","plus","firsts","name"]
section
local macro_rules | `(tactic| walk_at "x")=>`(tactic| first | exists PS _ (.AugAssign ..) _,@UH _ _ (4) _ _ _ _ _ _ nd rfl (by walk_at "lc") (by walk_at "e") (@bD _ K rfl) (by walk_at "or") | exists PS _ (.AugAssign ..) _,@UH _ _ (3) _ _ _ _ _ _ nd rfl (by walk_at "lc") (by walk_at "e") (@bD _ K rfl) (by walk_at "or"))
local macro_rules | `(tactic| walk_at "y")=>`(tactic| first | exists PE _ (.Subscript ..) _,@DQ _ _ _ _ _ _ h_ (@pv _ 0 _ _ (by rfl) (by walk_at "lc") (by decide) (by decide)) (@pv _ 1 _ _ (by rfl) (by walk_at "lc") (by decide) (by decide)) (λ_ _=>rfl) | exists PE _ (.Subscript ..) _,@DQ _ _ _ _ _ _ h_ (@pv _ 0 _ _ (by rfl) (by walk_at "lc") (by decide) (by decide)) (@pv _ 5 _ _ (by rfl) (by walk_at "lc") (by decide) (by decide)) (λ_ _=>rfl))
theorem O9 (F:Fun K "told_at_first" "told_at_first" F7 f I) (L:mg "isinstance"=ap) (Z:mg "str"=ap) (U:Has P w K mg base "rising" 1 ["names"] EA):FnOk P w K mg base CX0 2 f I ["between","place","froms","plus"] (spD K 4 JL):=by
 refine hD O8 F #[rfl,rfl,rfl,by decide +kernel,rfl,by decide +kernel,by decide +kernel] ?_;walk_at "hd";rintro xs M hl ⟨o,e,rfl,G,hp,g⟩;rw[show taX o e=[.d (YG o),.d (plE e.1),.d (AM e.2.1),.d (.int e.2.2)] from rfl];have m:∀n,CS o n=av->BS (o.map λt:Str×Ent=>(t.1,DK t.2)) n=am (DK (AH o n)):=λn h=>by rw[HM];unfold CS at h;obtain⟨v,m⟩:=xX.mp h;unfold AH;rw[m];rfl
 have fin:∀{y:DS},y = .d (DK (B8 o e))->∃T:Own,T.Sub M/\JL.post [.d (YG o),.d (plE e.1),.d (AM e.2.1),.d (.int e.2.2)] M y T:=λ{y} D=>#[M,zT M,λkh e' N=>by
   simp only[taX,List.cons.injEq,DS.d.injEq,DS.loc.injEq,PyData.int.injEq,and_true] at N;obtain⟨O,j,u,x⟩:=N;have O:=p7 O;subst O;have:e=e':=by obtain⟨a,b,c⟩:=e;obtain⟨J,Q,Y⟩:=e';simp only at j u x;rw[VM j,FQ u,x]
   subst this;exact#[D,rfl]]
 have B:∀n,e.1 = .inr n->CS o n=true:=hp;try walk_at "unf"
 refine V4 (λi M1=>M1=M/\∃S X:Option DS,i=[am (.d (YG o)),am (.d (plE (B8 o e).1)),am (.d (AM e.2.1)),am (.d (.int e.2.2)),S,X]) ?_ ?_
 . cases z:e.1 with
   | inl q=> rw[show plE (.inl q) = .int q from rfl];walk_at "r";refine#[rfl,ap,ap,?_];rw[show(B8 o e).1 = .inl q by unfold B8;rw[z]];rfl
   | inr n=>
     have hn:=m n (B n z);rw[show plE (.inr n) = .str n from rfl];walk_at "r";refine HC ?_;walk_at "r";refine#[_,n,_,rfl,rfl,hn,?_];walk_at "r";try refine AQ (ds:=[plE (AH o n).1,AM (AH o n).2.1,.int (AH o n).2.2]) (d:=plE (AH o n).1) rfl ?_
     refine#[rfl,ap,ap,?_];rw[show(B8 o e).1=(AH o n).1 by unfold B8;rw[z]];rfl
 . rintro i M1 ⟨rfl,S,X,rfl⟩;rw[show AM e.2.1 = .tuple (e.2.1.map .str) from rfl];walk_at "r";try walk_at "unf"
   refine F3 ?_;refine BE ?_;walk_at "r";refine#[λk i T=>T=M1/\∃X:Option DS,i=[am (.d (YG o)),am (.d (plE (B8 o e).1)),am (.d (.tuple (e.2.1.map .str))),am (.d (.int (e.2.2+((e.2.1.take k).map λn=>(AH o n).2.2).sum))),am (.d (.tuple (((e.2.1.take k).flatMap λn=>(AH o n).2.1).map .str))),X],#[rfl,_,by rw[List.take_zero,show((([]:List Str).map λn=>(AH o n).2.2).sum)=0 from rfl,b5V];rfl],?_,?_]
   . rintro k d i T hd ⟨rfl,X,rfl⟩;have p:k < e.2.1.length:=by have:=(yT.mp hd).1;rw[zX] at this;exact this
     obtain rfl:a0J (e.2.1[k])=d:=by rw[zF,zV p] at hd;simpa using hd
     have hk:=m _ (G _ (a3J p));have htk:e.2.1.take (k+1)=e.2.1.take k++[e.2.1[k]]:=by rw[a2K,zV p];rfl
     have r:(((e.2.1.take (k+1)).flatMap λn=>(AH o n).2.1)).length < 64:=zQ (by
       have:=(b1X (k+1) e.2.1).symm
       conv=>rhs;rw[this,a9W,yY]
       exact c0J _ _) g;rw[htk,a9W,yY] at r;walk_at "r";try walk_at "unf"
     refine VI #[_,rfl,?_];walk_at "r";refine HC ?_;walk_at "r";refine#[_,_,_,rfl,rfl,hk,?_];walk_at "r";generalize e.2.1[k]=n at hk htk r;try refine AQ (ds:=[plE (AH o n).1,AM (AH o n).2.1,.int (AH o n).2.2]) (d:=AM (AH o n).2.1) rfl ?_
     refine v8 (by rw[zX,zX];simp only[a9J,List.flatMap_nil,a2Q] at r;exact zN (xQ r) (by decide)) ?_;walk_at "r";try walk_at "unf"
     refine VI #[_,rfl,?_];walk_at "r";refine HC ?_;walk_at "r";refine#[_,n,_,rfl,rfl,hk,?_];walk_at "r";try refine AQ (ds:=[plE (AH o n).1,AM (AH o n).2.1,.int (AH o n).2.2]) (d:=.int (AH o n).2.2) rfl ?_
     refine dS ?_;refine#[rfl,am (.d (.str n)),?_];rw[htk,a9W,xH,xH,List.sum_append,<-Int.add_assoc];simp only[a9J,List.flatMap_nil,a2Q,zI,b8J,a2J,List.sum_nil,b5V];rfl
   . rintro i T ⟨rfl,X,rfl⟩;rw[zX,a1Q];walk_at "r";rw[show c0Z ((e.2.1.flatMap λn=>(AH o n).2.1).map .str)=AM (e.2.1.flatMap λn=>(AH o n).2.1) from rfl];refine EH g ?_;walk_at "r";exact fin rfl
end
def S8:List Str:=["deed","word","name","other","parts","both"]
section
theorem S9 (F:Fun K "deed_effect" "deed_effect" GU f n) (m:Has P w K mg base "rising" 1 ["names"] EA) (r:Has P w K mg base "rising_by_names" 1 ["things"] BO):FnOk P w K mg base CX0 2 f n ["deed"] (spD K 1 HL):=by
 refine hD S8 F #[rfl,rfl,rfl,by decide +kernel,rfl,by decide +kernel,by decide +kernel] ?_;walk_at "hd";rintro g M p ⟨D,rfl,hr⟩;have fin:∀{E:Eff},AD D=E->∃T:Own,T.Sub M/\HL.post [.d D.d] M (.d E.d) T:=λ{E} e=>#[M,zT M,λc e'=>by simp only[List.cons.injEq,DS.d.injEq,and_true] at e';rw[<-HE e',e];exact#[rfl,rfl]]
 cases D with
 | put x t k=> rw[Deed.d];walk_at "r";refine#[_,_,rfl,?_];walk_at "r";exact fin rfl
 | take x=> rw[Deed.d];walk_at "r";refine#[_,_,rfl,?_];walk_at "r";exact fin rfl
 | move x t=> rw[Deed.d];walk_at "r";refine#[_,_,rfl,?_];walk_at "r";exact fin rfl
 | count x k=> rw[Deed.d];walk_at "r";refine#[_,_,rfl,?_];walk_at "r";exact fin rfl
 | name x y=> rw[Deed.d];walk_at "r";refine#[_,_,rfl,?_];walk_at "r";exact fin rfl
 | split x y t k=> rw[Deed.d];walk_at "r";refine#[_,_,rfl,?_];walk_at "r";refine iM λq hq=>?_;refine XN ?_;walk_at "r";refine XN ?_;walk_at "r";refine uA ?_;refine#[zU,by show 2<=15;decide,by simpa using (show x≠y from hr.2.1),?_];rw[yI];walk_at "r";refine KN (es:=[(x,.inr x,[x],-k),(y,.inl t,[],k)]) zU (by simpa using (show x≠y from hr.2.1)) (by show 2 < 64;decide) ?_;walk_at "r";obtain⟨T,h1,i⟩:=fin (E:=AD (.split x y t k)) rfl;exact#[T,λb o e=>((zT M).put hq) b o (h1 b o e),i]
 | join x y=> rw[Deed.d];walk_at "r";refine#[_,_,rfl,?_];walk_at "r";rw[show c0Z [.str x,.str y]=AM [x,y] from rfl];refine EH (by show 2 < 64;decide) ?_;walk_at "r";exact fin rfl
end
def EE:List Str:=["one","other","between","known","stand","free","name","behind","place","froms","plus"]
def FY:List Str:=["name","known"]
def D9:List (Option Nat):=[ap,am 3]
def FZ:List Str:=["name","between","other"]
def G0:List (Option Nat):=[ap,am 2,am 1]
section
local macro_rules | `(tactic| walk_at "x")=>`(tactic| first | exists PT _ (.Compare _ [.NotIn] ..) _,@CZ _ _ _ _ _ _ _ _ (@A1T _ K rfl) (by walk_at "e") (by walk_at "e") (by with_unfolding_all rfl) | exists PG _ (.Tuple ..) _,@aF _ K _ _ _ _ (4) rfl rfl (by walk_at "j") (by rfl) (by rfl))
local macro_rules | `(tactic| walk_at "y")=>`(tactic| first | exists PI _ _ (.Name ..) _,@v6 _ _ _ _ (@pv _ 2 _ _ (by rfl) (by walk_at "lc") (by decide) (by decide)) | exists PE _ (.Subscript ..) _,@DQ _ _ _ _ _ _ h_ (@pv _ 1 _ _ (by rfl) (by walk_at "lc") (by decide) (by decide)) (@pv _ 0 _ _ (by rfl) (by walk_at "lc") (by decide) (by decide)) (λ_ _=>rfl))
theorem OB (F:Fun K "effect_behind" "effect_behind" C9 f O) (ao:mg "tuple"=ap) (ci:Has P w K mg base "by_left_names" 1 ["told"] IK) (pf:Has P w K mg base "clash" 1 ["one","between","other"] HK) (bu:Has P w K mg base "rising" 1 ["names"] EA) (ae:Has P w K mg base "rising_by_names" 1 ["things"] BO) (cj:Has P w K mg base "told_at_first" 2 ["between","place","froms","plus"] JL):FnOk P w K mg base CX0 3 f O ["one","other"] (spD K 2 IL):=by
 refine hD EE F #[rfl,rfl,rfl,by decide +kernel,rfl,by decide +kernel,by decide +kernel] ?_;walk_at "hi";have n0:FY.Nodup:=by decide +kernel
 have n1:FZ.Nodup:=by decide +kernel
 walk_at "nm";clear n0 n1 nd;rintro xs M hl ⟨ys,one,other,rfl,h1,o,hn⟩;have I:=E3 hn h1.st;have S:=E3 hn h1.fr;have D:=E3 hn o.st;have X:=E3 hn o.fr;have l5:=oO hn h1;walk_at "r";refine YH h1.keys (by lia) λp hp=>?_;walk_at "r";refine bL zU h1 o hn ?_;cases hc:B2 one other with
 | true=> walk_at "r";refine#[M,(zT M).put hp,λB uk e=>?_];simp only[List.cons.injEq,DS.d.injEq,and_true] at e;rw[<-FC e.1,<-FC e.2,show B4 one other=ap by unfold B4;rw[hc];rfl];exact#[rfl,rfl]
 | false=>
   have sz:∀{l:List Str},l.length<=26->(l.map a0J).length < sizeLine:=λ{l} h=>by rw[zX];exact zQ h (by decide)
   have add:∀{a b:List Str},a.length<=26->b.length<=26->(a.map a0J).length+(b.map a0J).length<=sizeLine:=λ{a b} h h'=>by rw[zX,zX];exact zN (show _<=52 by lia) (by decide)
   have L:(other.st.filter λn=>!decide (n∈one.st++one.fr)).length<=26:=zN (yJ _ _) D;have U:(other.fr.filter λn=>!decide (n∈one.st++one.fr)).length<=26:=zN (yJ _ _) X;walk_at "r";try refine AQ (ds:=[AM one.st,AM one.fr,.tuple (one.lf.map lfE)]) (d:=AM one.st) rfl ?_
   walk_at "r";try refine AQ (ds:=[AM one.st,AM one.fr,.tuple (one.lf.map lfE)]) (d:=AM one.fr) rfl ?_
   refine EK (add I S) ?_;rw[<-xH];walk_at "r";try refine AQ (ds:=[AM one.st,AM one.fr,.tuple (one.lf.map lfE)]) (d:=AM one.st) rfl ?_
   walk_at "r";refine BY (BK 0) (by simp[D9]) ?_;refine BE ?_;walk_at "r";try refine AQ (ds:=[AM other.st,AM other.fr,.tuple (other.lf.map lfE)]) (d:=AM other.st) rfl ?_
   refine#[_,rfl,?_];refine#[sz D,frT (one.st++one.fr),id,?_,?_];. intro d hd N;obtain⟨z,hz,rfl⟩:=zL.mp hd;walk_at "dl";refine#[rfl,?_];walk_at "r";refine MI ?_;refine#[_,rfl,rfl,rfl,λ_=>?_];walk_at "r";exact#[rfl,rfl]
   rw[YE];walk_at "r";refine G9 ?_;refine EK (add I L) ?_;rw[<-xH,show(one.st++other.st.filter λz=>!decide (z∈one.st++one.fr))=AR one other from rfl];walk_at "r";try refine AQ (ds:=[AM one.st,AM one.fr,.tuple (one.lf.map lfE)]) (d:=AM one.fr) rfl ?_
   walk_at "r";refine BY (BK 0) (by simp[D9]) ?_;refine BE ?_;walk_at "r";try refine AQ (ds:=[AM other.st,AM other.fr,.tuple (other.lf.map lfE)]) (d:=AM other.fr) rfl ?_
   refine#[_,rfl,?_];refine#[sz X,frT (one.st++one.fr),id,?_,?_];. intro d hd N;obtain⟨z,hz,rfl⟩:=zL.mp hd;walk_at "dl";refine#[rfl,?_];walk_at "r";refine MI ?_;refine#[_,rfl,rfl,rfl,λ_=>?_];walk_at "r";exact#[rfl,rfl]
   rw[YE];walk_at "r";refine G9 ?_;refine EK (add S U) ?_;rw[<-xH,show(one.fr++other.fr.filter λz=>!decide (z∈one.st++one.fr))=CP one other from rfl];walk_at "r";try walk_at "unf"
   refine F3 ?_;refine BE ?_;walk_at "r";refine#[λk r M1=>M1=M.put p (SH (one.lf++(NS one ((AR one other).take k)).map MU))/\∃j u v x T:Option DS,r=[am (.d one.d),am (.d other.d),am (.loc p),am (.d (.tuple ((one.st++one.fr).map .str))),am (.d (.tuple ((AR one other).map .str))),am (.d (.tuple ((CP one other).map .str))),j,u,v,x,T],#[by rw[List.take_zero];show _=M.put p (SH (one.lf++[]));rw[a2Q],_,_,_,_,_,rfl],?_,?_]
   . rintro k d r M1 hd ⟨rfl,j,u,v,x,T,rfl⟩;have m:k < (AR one other).length:=by have:=(yT.mp hd).1;rw[zX] at this;exact this
     have hk:(AR one other)[k]?=am (AR one other)[k]:=zV m;obtain rfl:a0J ((AR one other)[k])=d:=by rw[zF,hk] at hd;simpa using hd
     generalize (AR one other)[k]=n at hk;walk_at "r";refine MI ?_;cases g:decide (n∈one.st++one.fr) with
     | true=> walk_at "r";refine#[?_,_,_,_,_,_,rfl];rw[YL hk,g,if_pos rfl,a2Q]
     | false=>
       have pw:=of_decide_eq_false g;walk_at "r";refine DY ?_;walk_at "r";refine#[p,KF (one.lf++(NS one ((AR one other).take k)).map MU),n,DK (.inr n,[n],0),rfl,rfl,rfl,zU,?_,?_];. rw[zX,yY,zX];have Qr:(NS one ((AR one other).take k)).length<=(AR one other).length:=zN (yJ _ _) (List.length_take_le' _ _);have zq:=E3 hn (MX h1 o);exact zQ (show _<=78 by lia) (by decide)
       rw[yI,e6,iQ (oV h1 o hk pw)];refine#[?_,_,_,_,_,_,rfl];rw[YL hk,g,if_neg nft,xH,<-b5J];rfl
   . rintro r M1 ⟨rfl,j,u,v,x,T,rfl⟩;rw[zX,a1Q,iR,show one.lf++(other.st.filter λn=>!decide (n∈one.st++one.fr)).map MU=BH one other from rfl];have bk:=MW h1 o;have bl:(BH one other).length<=78:=by unfold BH;rw[yY,zX];lia
     have ll:=oO hn o;try walk_at "unf"
     refine QT (i:=2) (a:=p) rfl zU ?_;rw[yG hp];walk_at "r";refine QD (BK 0) (by simp[G0]) ?_;refine v7 ?_;walk_at "r";refine#[by rw[zX,zX];exact zQ bl (by decide),frT other.st,QW,A3c (BH one other),iS bk _,?_,λq hq=>?_]
     . intro d hd N;obtain⟨s0,yj,rfl⟩:=zL.mp hd;obtain⟨t,J,rfl⟩:=zL.mp yj;have G:=P8 bk J;walk_at "dl";refine#[rfl,?_];walk_at "r";try refine AQ (ds:=[AM other.st,AM other.fr,.tuple (other.lf.map lfE)]) (d:=AM other.st) rfl ?_
       refine MI ?_;refine#[_,rfl,rfl,rfl,λ_=>?_];walk_at "r";refine#[rfl,rfl,?_];refine HC ?_;walk_at "r";refine#[KF (BH one other),t.1,DK t.2,rfl,rfl,by rw[HM,G];rfl,?_];refine#[?_,rfl];show _=DS.d (DK (AH (BH one other) t.1));unfold AH;rw[G];rfl
     rw[oW bk];walk_at "r";try walk_at "unf"
     refine F3 ?_;refine BE ?_;walk_at "r";try refine AQ (ds:=[AM other.st,AM other.fr,.tuple (other.lf.map lfE)]) (d:=.tuple (other.lf.map lfE)) rfl ?_
     refine#[_,rfl,?_];refine#[λk r M1=>M1=M.put q (SH (MY one other k))/\∃Q y Y Z:Option DS,r=[am (.d one.d),am (.d other.d),am (.d (YG (BH one other))),am (.d (.tuple ((one.st++one.fr).map .str))),am (.d (.tuple ((AR one other).map .str))),am (.d (.tuple ((CP one other).map .str))),Q,am (.loc q),y,Y,Z],#[rfl,_,_,_,_,rfl],?_,?_]
     . rintro k d r M1 hd ⟨rfl,Q,y,Y,Z,rfl⟩;have m:k < other.lf.length:=by have:=(yT.mp hd).1;rw[zX] at this;exact this
       have hk:other.lf[k]?=am other.lf[k]:=zV m;obtain rfl:lfE (other.lf[k])=d:=by rw[zF,hk] at hd;simpa using hd
       have c:=a3J m;generalize other.lf[k]=t at hk c;rw[show lfE t = .tuple [.str t.1,plE t.2.1,AM t.2.2.1,.int t.2.2.2] from rfl];walk_at "r";refine DY ?_;walk_at "r";refine YT (e:=t.2) (λn cw=>JM h1 o hc ((o.from_ t c).2 n cw)) (λn vt=>JM h1 o hc (o.place t c n vt)) (oS hn h1 o hc c) ?_;walk_at "r";refine#[q,KF (MY one other k),t.1,_,rfl,rfl,rfl,zU,?_,?_];. rw[zX];have:=iT one other k;exact zQ (show _<=130 by lia) (by decide)
       rw[yI,e6,<-bI hk];exact#[rfl,_,_,_,_,rfl]
     . rintro r M1 ⟨rfl,Q,y,Y,Z,rfl⟩;rw[zX,iU];have s1:=E3 hn (MX h1 o);have s2:=E3 hn (e8 h1 o);walk_at "r";refine EH (l:=AR one other) (by lia) ?_;walk_at "r";refine EH (l:=CP one other) (by lia) ?_;walk_at "r";refine KN zU (HP h1 o) (oX hn h1 o hc) ?_;walk_at "r";refine#[M,(zT M).put hq,λB uk e=>?_];simp only[List.cons.injEq,DS.d.injEq,and_true] at e;rw[<-FC e.1,<-FC e.2,show B4 one other=am #[BP (AR one other),BP (CP one other),CY (DD one other)] by unfold B4;rw[hc];rfl];exact#[rfl,rfl]
end
def jV:List Str:=["row","whole","deed"]
theorem jW (F:Fun K "effect" "effect" RQ f r) (j:Has P w K mg base "deed_effect" 2 ["deed"] HL) (g:Has P w K mg base "effect_behind" 3 ["one","other"] IL):FnOk P w K mg base CX0 4 f r ["row"] (spD K 1 IM):=by
 refine hD jV F #[rfl,rfl,rfl,by decide +kernel,rfl,by decide +kernel,by decide +kernel] ?_;walk_at "hd";rintro u M q ⟨b,B,rfl,hn,hD,v⟩;walk_at "r";try walk_at "unf"
 refine F3 ?_;refine BE ?_;walk_at "r";refine#[λk t M1=>M1=M/\∃(E:Eff) (i:Option DS),B0 (B.take k)=am E/\OkE b E/\t=[am (.d (.tuple (B.map Deed.d))),am (.d E.d),i],#[rfl,#[[],[],[]],_,rfl,OkE.nil b,rfl],?_,?_]
 . rintro k d t M1 hd ⟨rfl,E,i,hE,hok,rfl⟩;have n:k < B.length:=by have:=(yT.mp hd).1;rw[zX] at this;exact this
   obtain rfl:(B[k]).d=d:=by rw[zF,zV n] at hd;simpa using hd
   have p:=hD _ (a3J n);have o:B0 (B.take (k+1))=B4 E (AD B[k]):=by rw[a2K,zV n];exact MV hE
   have m:B4 E (AD B[k])=ap->B0 B=none:=λh=>YI (k:=k+1) (by rw[o];exact h);generalize B[k]=D at p o m;walk_at "r";refine bH p.1 ?_;walk_at "r";refine YJ hok (OkE.deed hn p) hn ?_;walk_at "r";refine ID ?_;cases hb:B4 E (AD D) with
   | none=> walk_at "r";refine#[M1,zT _,λc e=>?_];rw[<-DF e,m hb];exact#[rfl,rfl]
   | some F=> walk_at "r";exact#[rfl,F,_,by rw[o,hb],OkE.behind hn hok (OkE.deed hn p) hb,rfl]
 . rintro t M1 ⟨rfl,E,i,hE,hok,rfl⟩;rw[zX,a1Q] at hE;walk_at "r";refine#[M1,zT _,λc e=>?_];rw[<-DF e,hE];exact#[rfl,rfl]
def OW:List Str:=["names","marked"]
def KU:List Str:=["name","marked"]
def KW:List (Option Nat):=[ap,am 1]
section
theorem ZN (F:Fun K "world_of" "world_of" IV f o) (r:Has P w K mg base "rising_by_names" 1 ["things"] BO):FnOk P w K mg base CX0 2 f o ["names","marked"] (spD K 2 K7):=by
 refine hD OW F #[rfl,rfl,rfl,by decide +kernel,rfl,by decide +kernel,by decide +kernel] ?_;walk_at "hi";have N:KU.Nodup:=by decide +kernel
 walk_at "nm";clear N nd;rintro g M b ⟨l,m,rfl,t⟩;have n:=t.few;unfold mkX;walk_at "r";refine TM (BK 0) (by simp[KW]) ?_;refine BE ?_;walk_at "r";refine#[by rw[zX];exact xP n (by decide),λ_=>av,QW,mkF m,?_,λp hp=>?_]
 . intro d hd i;obtain⟨s,hs,rfl⟩:=zL.mp hd;walk_at "r";refine#[rfl,?_];walk_at "dl";refine#[rfl,rfl,λ_=>?_];walk_at "r";refine#[rfl,rfl,?_];walk_at "r";refine CG (BZ (t.nm s hs)) (jF t.mark) ?_;rw[if_neg nft,A2K];by_cases h:am s=m;. rw[decide_eq_true h,vY h];walk_at "r";exact#[rfl,rfl]
   . rw[decide_eq_false h,A2L h];walk_at "r";exact#[rfl,rfl]
 rw[Y3,jE];walk_at "r";refine GO zU K5 (zQ Z1 (xP n (by decide))) ?_;refine#[M,(zT M).put hp,λq c e=>?_];obtain⟨rfl,rfl⟩:=vQ e;exact#[rfl,rfl]
end
def CM:List Str:=["one","two","told","stand","worlds"]
def G1:List Str:=["part"]
def DB:List (Option Nat):=[ap]
def G2:List Str:=["part","name","stand"]
def DC:List (Option Nat):=[ap,ap,am 3]
def G3:List Str:=["name","stand"]
def G4:List (Option Nat):=[ap,am 3]
section
local macro_rules | `(tactic| walk_at "x")=>`(tactic| first | exists PS _ (.AugAssign ..) _,@UH _ _ (4) _ _ _ _ _ _ nd rfl (by walk_at "lc") (by walk_at "e") (@A2H _ K rfl) (by walk_at "or"))
theorem OC (F:Fun K "worlds_to_try" "worlds_to_try" BM f v) (G:Has P w K mg base "world_of" 2 ["names","marked"] K7):FnOk P w K mg base CX0 3 f v ["one","two"] (spD K 2 PD):=by
 refine hD CM F #[rfl,rfl,rfl,by decide +kernel,rfl,by decide +kernel,by decide +kernel] ?_;walk_at "hi";have N:G1.Nodup:=by decide +kernel
 have n1:G2.Nodup:=by decide +kernel
 have O:G3.Nodup:=by decide +kernel
 walk_at "nm";clear N n1 O nd;rintro J M B ⟨Q,a,b,rfl,h⟩;have hn:=h.nm;have hok:=λ(E:Eff) (q:E∈FT a b)=>eZ h q;have g:=bU a b;obtain⟨E,r,hr⟩:∃E r,FT a b=E::r:=by
   cases e:FT a b with
   | nil=>exact absurd e h.any
   | cons E r=>exact#[E,r,rfl]
 have hE:=hok E (by rw[hr];exact a0Z);have x:=E3 hn hE.st;unfold tyX;walk_at "r";refine CJ (BK 0) (by simp[DB]) ?_;refine BE ?_;walk_at "r";refine#[by show 2 < aB;decide,A3f,id,?_,?_];. rintro d hd A acc o hA rfl;walk_at "r";refine#[rfl,?_];walk_at "r";refine mQ ?_;refine#[_,rfl,rfl,rfl,λ_=>?_];walk_at "r";exact#[rfl,rfl]
 rw[jG,hr];walk_at "r";refine AV (d:=E.d) (AI (j:=0) rfl) ?_;walk_at "r";try refine AQ (ds:=[AM E.st,AM E.fr,.tuple (E.lf.map lfE)]) (d:=AM E.st) rfl ?_
 walk_at "r";refine SJ (BK 0) (by simp[DB]) ?_;refine HB ?_;walk_at "r";refine#[by rw[zX,<-hr];exact zQ g (by decide),λ_=>av,stF,?_,λp hp=>?_]
 . rintro d hd A acc o hA rfl;obtain⟨F,hF,rfl⟩:=zL.mp hd;have t:=hok F (by rw[hr];exact hF);walk_at "r";refine#[rfl,?_];walk_at "dl";refine#[rfl,rfl,λ_=>?_];walk_at "r";try refine AQ (ds:=[AM F.st,AM F.fr,.tuple (F.lf.map lfE)]) (d:=AM F.st) rfl ?_
   walk_at "r";refine IP (m:=ap) (bV hn t.st.2 (by have:=E3 hn t.st;lia) (λ_ q=>nomatch q)) ?_;rw[<-f6];exact#[rfl,rfl]
 rw[Y3,w6];walk_at "r";try walk_at "unf"
 refine VI #[_,rfl,?_];refine pO (BK 0) (by simp[DC]) (BK 1) (by simp[DC]) ?_;refine HB ?_;walk_at "r";have c:=qO (st:=E.st) (L:=E::r) hn (by rw[<-hr];exact g) (λF hF=>hok F (by rw[hr];exact hF));refine#[frF,λ_=>w8 E.st,zQ c (by decide),?_,?_]
 . intro d hd o;obtain⟨F,hF,rfl⟩:=zL.mp hd;have t:=hok F (by rw[hr];exact hF);walk_at "dl";refine#[rfl,?_];refine BE ?_;walk_at "r";try refine AQ (ds:=[AM F.st,AM F.fr,.tuple (F.lf.map lfE)]) (d:=AM F.fr) rfl ?_
   refine#[_,rfl,rfl,rfl,λe T I=>?_];obtain⟨z,k,rfl⟩:=zL.mp T;walk_at "dl";refine#[rfl,?_];walk_at "r";refine EK (by rw[zX];exact zN (show _<=27 by simp;lia) (by decide)) ?_;rw[show E.st.map a0J++[.str z]=(E.st++[z]).map .str by rw[xH];rfl];walk_at "r";refine IP (l:=E.st++[z]) (m:=ap) (bV hn (λn q=>?_) (by rw[yY];simp;lia) (λ_ q=>nomatch q)) ?_
   . rcases yW.mp q with q | q;. exact hE.st.2 n q
     . rw[List.mem_singleton.mp q];exact t.fr.2 z k
   exact#[rfl,rfl]
 rw[w9] at c ⊢;have u:(((E::r).map λF=>wM ap F.st).map wD).length<=2:=by rw[zX,zX,<-hr];exact g
 refine qJ zU (zN (b3Q u c) (by decide)) ?_;rw[yI];walk_at "wks";try walk_at "unf"
 refine H0 (i:=4) rfl zU ?_;rw[yG hp];walk_at "r";refine CJ (BK 0) (by simp[G4]) ?_;refine BE ?_;walk_at "r";refine#[by rw[zX];exact zQ x (by decide),λ_=>av,A3g E.st,?_,?_];. rintro d hd A acc o hA rfl;obtain⟨z,k,rfl⟩:=zL.mp hd;walk_at "r";refine#[rfl,?_];walk_at "dl";refine#[rfl,rfl,λ_=>?_];walk_at "r";refine IP (l:=E.st) (m:=am z) (bV hn hE.st.2 (by lia) (λ_ q=>by cases q;exact hE.st.2 z k)) ?_;exact#[rfl,rfl]
 rw[Y3,qM];refine ME ?_ ?_
 . have y:((E.st.map λn=>wM (am n) E.st).map wD).length<=26:=by rw[zX,zX];exact x
   rw[yY];exact zN (b3Q (b3Q u c) y) (by decide)
 refine#[M,zT M,λS D e=>?_];obtain⟨rfl,rfl⟩:=vW e;rw[qN hr];unfold GH;rw[xH,xH];exact#[rfl,rfl]
end
def rM:List Str:=["row","other","one","two","worlds","at"]
section
local macro_rules | `(tactic| walk_at "x")=>`(tactic| first | exists PS _ (.AugAssign ..) _,@UH _ _ (5) _ _ _ _ _ _ nd rfl (by walk_at "lc") (by walk_at "e") (@bD _ K rfl) (by walk_at "or"))
theorem rN (F:Fun K "alike" "alike" WA f i) (y:Has P w K mg base "effect" 4 ["row"] IM) (z:Has P w K mg base "parts" 11 ["world","row","other"] K9) (j:Has P w K mg base "worlds_to_try" 3 ["one","two"] PD):FnOk P w K mg base CX0 12 f i ["row","other"] (spD K 2 FH):=by
 refine hD rM F #[rfl,rfl,rfl,by decide +kernel,rfl,by decide +kernel,by decide +kernel] ?_;walk_at "hd";rintro I M x ⟨S,t,G,rfl,h⟩;have hn:=h.nm;have v:=h.few;have D:=NT hn h.one;have Z:=NT hn h.two;have fin:∀{d:PyData},alR t G d->∃T:Own,T.Sub M/\FH.post (alX t G) M (.d d) T:=λ{d} q=>#[M,zT M,λO X e=>by obtain⟨rfl,rfl⟩:=vX e;exact#[#[d,rfl,q],rfl]]
 unfold alX N0;walk_at "r";refine OP hn h.one (by lia) ?_;walk_at "r";refine OP hn h.two (by lia) ?_;walk_at "r";refine#[_,_,rfl,?_];walk_at "r";refine CG (NU hn D) (NU hn Z) ?_;rw[if_neg nft];by_cases e:B0 t=B0 G;. rw[<-e,vT hn D];walk_at "r";exact fin (.inl #[e,rfl])
 . rw[vU e];obtain⟨hq,J,N,hJ,hp⟩:=NX h e;walk_at "r";refine bT hq ?_;walk_at "r";try walk_at "unf"
   refine YC (λm n M1=>∃k:Nat,M1=M/\k<=J/\m=J - k/\n=[am (.d (.tuple (t.map Deed.d))),am (.d (.tuple (G.map Deed.d))),am (.d (efO (B0 t))),am (.d (efO (B0 G))),am (.d (.list ((KG (B0 t) (B0 G)).map wD))),am (.d (.int (k:Nat)))]) #[_,0,rfl,xR _,rfl,rfl] ?_;rintro m n M1 ⟨k,rfl,hk,rfl,rfl⟩;have p:=zQ hk (yT.mp hJ).1;obtain⟨w,o⟩:∃w,(KG (B0 t) (B0 G))[k]?=am w:=#[_,zV p]
   have u:=yN o;obtain⟨b,c⟩:=wA h hq u;have r:((KG (B0 t) (B0 G)).map wD)[k]?=am (wD w):=by rw[zF,o];rfl
   walk_at "r";refine AV (AI r) ?_;walk_at "r";refine W0 b c ?_;cases hc:decide (bhO w t≠bhO w G) with
   | true=> walk_at "r";refine AV (AI r) ?_;walk_at "r";exact fin (.inr #[e,w,u,of_decide_eq_true hc,rfl])
   | false=>
     have g:k≠J:=λq=>of_decide_eq_false hc (by rw[q,hJ] at o;cases o;exact hp);walk_at "r";try walk_at "unf"
     refine VI #[_,rfl,?_];walk_at "r";refine dS ?_;exact#[J - (k+1),by lia,k+1,rfl,by lia,rfl,rfl]
end
def A2a:List Str:=["_law_script","_law_names_here"]
theorem A2b (F:Fun K "law" "law" rG f t) (b:Has P w K mg base "_law_digits" 1 ["_law_script","_law_k"] D7) (g:Has P w K mg base "_law_names" 2 ["_law_pack"] KA) (c:Has P w K mg base "_law_places_met" 14 ["_law_script","_law_names_here"] ES) (x:Has P w K mg base "_law_sums_met" 14 ["_law_script","_law_names_here"] ES):FnOk P w K mg base CX0 15 f t ["_law_script"] (spD K 1 XX):=by
 refine hD A2a F #[rfl,rfl,rfl,by decide +kernel,rfl,by decide +kernel,by decide +kernel] ?_;walk_at "hd";rintro j M h ⟨n,rfl,i,e⟩;walk_at "r";refine F9 ?_;walk_at "r";refine GI i e (k:=0) (by decide) λv=>?_;walk_at "r";intro p hp;walk_at "r";refine W6 zU #[v,rfl] λr o G q ho=>?_;rw[yI];have m:smP (UD n r):=#[n,r,rfl,i,e,G,q]
 walk_at "r";refine OU m ?_;walk_at "r";refine OU m ?_;walk_at "r";exact#[M,(zT M).put hp,rfl]
end
end DL
namespace DL
open PySem PySem.Spec L2 XC
theorem ZO (F:Fun K "__init__" "NoRow.__init__" C6 f e) (c:XCls K C S (.ref f)) (cs:XSet K C "number"):FnOkA P w K mg base 1 f e ["self","number"] (F4 C "number"):=
 pP F #[rfl,rfl,rfl,by decide +kernel,rfl,by decide +kernel,by decide +kernel] rfl c cs (by decide) (λ_=>rfl) (λX hN hS=>pv 0 (by rw[hN];rfl) (by rw[hS];exact Or.inl rfl)) (λX hN hS=>pv 1 (by rw[hN];rfl) (by rw[hS];exact Or.inl rfl))
local macro_rules | `(tactic| walk_at "b1")=>`(tactic| exact λ_ _ _ _ _ _=>A2Z λ_=>rfl)
local macro_rules | `(tactic| walk_at "b2")=>`(tactic| exact λ_ _ _ _ _ _=>rE λ_ _=>rfl)
local macro_rules | `(tactic| walk_at "b3")=>`(tactic| exact λ_ _ _ _ _ _=>A3u λ_ _ _=>rfl)
local macro_rules | `(tactic| walk_at "b4")=>`(tactic| exact λ_ _ _ _ _ _=>A4W λ_ _ _ _=>rfl)
set_option hygiene false in
local macro_rules | `(`hhh)=>`(Has l.prog w K mg base _ _ _ _)
theorem A2c {l:PySem.W.OpenLaw} (X:K.In h) (G:h.Ns bb mg) (Po:mg "law"=am (.ref fa)) (b0:FnIn K "is_whole" LN) (b1:FnIn K "is_within" JU) (b2:FnIn K "is_place" LO) (b3:FnIn K "is_name" KC) (b4:FnIn K "form_of" O1) (b5:FnIn K "fits" c6) (b6:FnIn K "names_in" LP) (b7:FnIn K "is_deed" KD) (b8:FnIn K "made_by" O2) (b9:FnIn K "by_names" IU) (Iv:FnIn K "rising_by_names" CC) (Iw:FnIn K "add_count" JV) (Iy:FnIn K "refuse_undoable" E2) (Iz:FnIn K "change" RM) (I_:FnIn K "done" c7) (Ja:FnIn K "back_deed" JW) (Jb:FnIn K "walked" RN) (Jc:FnIn K "gone" c8) (Jd:FnIn K "behind" RO) (Je:FnIn K "parts" W9) (Jf:FnIn K "rising" RP) (Jg:FnIn K "by_left_names" D4) (Jh:FnIn K "clash" N6) (Ji:FnIn K "told_at_first" F7) (Jj:FnIn K "deed_effect" GU) (Jk:FnIn K "effect_behind" C9) (Jl:FnIn K "effect" RQ) (Jm:FnIn K "world_of" IV) (Jn:FnIn K "worlds_to_try" BM) (Jo:FnIn K "alike" WA) (Jp:FnIn K "_law_digits" GP) (Jq:FnIn K "_law_take" JS) (Jr:FnIn K "_law_names" CL) (Js:FnIn K "_law_poured" GQ) (Jt:FnIn K "_law_counts" GR) (Ju:FnIn K "_law_gone" JT) (Jv:FnIn K "_law_is_world" F5) (Jw:FnIn K "_law_parted" GS) (Jx:FnIn K "_law_sums_met" F6) (Jy:FnIn K "_law_places_met" BN) (Jz:FnIn K "law" rG) (vg:a2X K bb "abs"=am ap) (vh:a2X K bb "all"=am ap) (nr:a2X K bb "bool"=am ap) (ij:a2X K bb "divmod"=am ap) (df:a2X K bb "enumerate"=am ap) (vi:a2X K bb "int"=am ap) (cc:a2X K bb "isinstance"=am ap) (vj:a2X K bb "len"=am ap) (n_:a2X K bb "list"=am ap) (vk:a2X K bb "max"=am ap) (vm:a2X K bb "min"=am ap) (jw:a2X K bb "range"=am ap) (ik:a2X K bb "sorted"=am ap) (vo:a2X K bb "str"=am ap) (jx:a2X K bb "tuple"=am ap) (vp:a2X K bb "zip"=am ap) (jy:a2X K bb "FORMS"=am (am (.ref N))) (jz:K.lookup N=am { cls:=.type "dict", data:=.dict (y9 [{ hash:=a9V w.params (a0Q "put"),key:=.str (a0Q "put") lz,val:=.str (a0Q "npk") l_ },{ hash:=a9V w.params (a0Q "take"),key:=.str (a0Q "take") ma,val:=.str (a0Q "n") md },{ hash:=a9V w.params (a0Q "move"),key:=.str (a0Q "move") me,val:=.str (a0Q "np") mf },{ hash:=a9V w.params (a0Q "count"),key:=.str (a0Q "count") mh,val:=.str (a0Q "nk") mi },{ hash:=a9V w.params (a0Q "name"),key:=.str (a0Q "name") mj,val:=.str (a0Q "nn") ml },{ hash:=a9V w.params (a0Q "split"),key:=.str (a0Q "split") mn,val:=.str (a0Q "nnpk") mo },{ hash:=a9V w.params (a0Q "join"),key:=.str (a0Q "join") ms,val:=.str (a0Q "nn") mw }]) um }) (j_:(N==da)=ay) (cf:a2X K bb "LAST_PLACE"=am (am (.int 999 jv))) (fj:a2X K bb "LETTERS"=am (am (.str "abcdefghijklmnopqrstuvwxyz" qg))) (bi:a2X K bb "LONGEST_NAME"=am (am (.int 8 ig))) (dj:a2X K bb "NoDeed"=am (am (.ref p))) (fm:K.lookup p=am (excClassObj qh kz p uo qi (.ref n::XC.bmV) av qk qj ql qm qo qp qr qt qu qv "ValueError.__new__")) (fo:a3W K (.ref p)=av) (fq:a8K K (.ref p) "__init__"=am (am (.builtin "ValueError.__init__"))) (T:a2X K bb "NoRow"=am (am (.ref J))) (il:K.lookup J=am (excClassObj uq pj J xg ur (.ref n::XC.bmV) av uv uu uw ux uy uz u_ vc vd ve "ValueError.__new__")) (ip:a3W K (.ref J)=av) (iq:a8K K (.ref J) "__init__"=am (am (.ref m))) (ir:K.lookup m=am #[qz,qw,.func (a5Q "__init__" "NoRow.__init__" (DU C6) (BB C6) (AB C6) .none q_ rc rf qx jk rg),qy]) (iu:a9K K jk "NoRow.__init__"=av) (er:b5Q K (.ref m)=av) (iw:a3W K (.ref m)=av) (eu:a8K K (.ref J) "__setattr__"=am (am (.builtin "object.__setattr__"))) (e_:PySem.W.takerIn K J "number"=am ap) (dk:a2X K bb "NotNow"=am (am (.ref o))) (fu:K.lookup o=am (excClassObj rh k_ o vf rl (.ref n::XC.bmV) av rq rm rz r_ sd se sf sg sh sj "ValueError.__new__")) (fv:a3W K (.ref o)=av) (fz:a8K K (.ref o) "__init__"=am (am (.ref b))) (f_:K.lookup b=am #[ng,mx,.func (a5Q "__init__" "NotNow.__init__" (DU CA) (BB CA) (AB CA) .none nh ni nj my ii nq),mz]) (gb:a9K K ii "NotNow.__init__"=av) (gd:b5Q K (.ref b)=av) (gf:a3W K (.ref b)=av) (gh:a8K K (.ref o) "__setattr__"=am (am (.builtin "object.__setattr__"))) (gi:PySem.W.takerIn K o "name"=am ap) : ∃fd:ee,(∀(s:ax) (v:aw),BindsTo s fd #[[v],[]] [("_law_script", v)])/\∀base:ca,K.In base->base.Ns bb mg->FnOk l.prog w K mg base CX0 15 fa fd ["_law_script"] (spD K 1 XX):=by
 obtain⟨_,_,O⟩:=b0.at X G;obtain⟨_,_,I⟩:=b1.at X G;obtain⟨_,_,S⟩:=b2.at X G;obtain⟨_,_,M⟩:=b3.at X G;obtain⟨_,_,D⟩:=b4.at X G;obtain⟨_,_,B⟩:=b5.at X G;obtain⟨_,_,L⟩:=b6.at X G;obtain⟨_,_,Q⟩:=b7.at X G;obtain⟨_,_,U⟩:=b8.at X G;obtain⟨_,_,Y⟩:=b9.at X G;obtain⟨_,_,J_⟩:=Iv.at X G;obtain⟨_,_,Z⟩:=Iw.at X G;obtain⟨_,_,Ka⟩:=Iy.at X G;obtain⟨_,_,Kb⟩:=Iz.at X G;obtain⟨_,_,Kc⟩:=I_.at X G;obtain⟨_,_,Kd⟩:=Ja.at X G;obtain⟨_,_,Ke⟩:=Jb.at X G;obtain⟨_,_,Kf⟩:=Jc.at X G;obtain⟨_,_,Kg⟩:=Jd.at X G;obtain⟨_,_,Kh⟩:=Je.at X G;obtain⟨_,_,Ki⟩:=Jf.at X G;obtain⟨_,_,Kj⟩:=Jg.at X G;obtain⟨_,_,Kk⟩:=Jh.at X G;obtain⟨_,_,Kl⟩:=Ji.at X G;obtain⟨_,_,Km⟩:=Jj.at X G;obtain⟨_,_,Kn⟩:=Jk.at X G;obtain⟨_,_,Ko⟩:=Jl.at X G;obtain⟨_,_,Kp⟩:=Jm.at X G;obtain⟨_,_,Kq⟩:=Jn.at X G;obtain⟨_,_,Kr⟩:=Jo.at X G;obtain⟨_,_,Ks⟩:=Jp.at X G;obtain⟨_,_,Kt⟩:=Jq.at X G;obtain⟨_,_,Ku⟩:=Jr.at X G;obtain⟨_,_,Kv⟩:=Js.at X G;obtain⟨_,_,Kw⟩:=Jt.at X G;obtain⟨_,_,Kx⟩:=Ju.at X G;obtain⟨_,_,Ky⟩:=Jv.at X G;obtain⟨_,_,Kz⟩:=Jw.at X G;obtain⟨_,_,K_⟩:=Jx.at X G;obtain⟨_,_,K'⟩:=Jy.at X G;obtain⟨Qu,Pp,k⟩:=Jz.at X G;have e:=Po.symm.trans k.mg_;cases e;have xu:=a1V X G vg;have pb:=a1V X G vh;have jr:=a1V X G nr;have ko:=a1V X G ij;have de:=a1V X G df;have oz:=a1V X G vi;have i:=a1V X G cc;have g:=a1V X G vj;have lu:=a1V X G n_;have xq:=a1V X G vk;have xt:=a1V X G vm;have a_:=a1V X G jw;have cy:=a1V X G ik;have y:=a1V X G vo;have r:=a1V X G jx;have ug:=a1V X G vp;have jt:∃a,mg "FORMS"=am (.ref a)/\GDict w K a HD:=#[_,a5V X G jy,j_,by decide +kernel,_,_,jz,rfl,#[_,rfl],#[_,rfl],rfl,#[_,rfl],#[_,rfl],rfl,#[_,rfl],#[_,rfl],rfl,#[_,rfl],#[_,rfl],rfl,#[_,rfl],#[_,rfl],rfl,#[_,rfl],#[_,rfl],rfl,#[_,rfl],#[_,rfl],trivial]
 have eh:∃t,mg "LAST_PLACE"=am (.int 999 t):=#[_,a5V X G cf]
 have jg:∃t,mg "LETTERS"=am (.str "abcdefghijklmnopqrstuvwxyz" t):=#[_,a5V X G fj]
 have cx:∃t,mg "LONGEST_NAME"=am (.int 8 t):=#[_,a5V X G bi]
 have cz:HasN K mg "NoDeed" p n:=#[#[#[_,_,_,_,_,_,_,_,_,_,_,_,_,_,fm],fq,fo],a5V X G dj]
 have f:XC.XCls K J n (.ref m):=#[#[_,_,_,_,_,_,_,_,_,_,_,_,_,_,il],iq,ip]
 have j:=a8 (st:=C6) ir iu iw;have jl:XC.XCls K o n (.ref b):=#[#[_,_,_,_,_,_,_,_,_,_,_,_,_,_,fu],fz,fv]
 have jm:=a8 (st:=CA) f_ gb gf;have kz:=a5V X G dj;have pj:=a5V X G T;have k_:=a5V X G dk;refine#[Pp,λs v=>?_,λbase _ _=>?_];. obtain⟨oc,od,kV,doc,pm,an,cdv,ct,osl,e,_,_⟩:=k.fn.ex;subst e;exact .of_eq rfl
 have ej:HasR l.prog w K mg base "NoRow" "number" J n:=#[m,_,["self","number"],f,er,cG j f #[eu,e_],j.binds (ps:=["self","number"]) λ_ _ _ _ _ _=>rE λ_ _=>rfl,a5V X G T]
 have c_:HasR l.prog w K mg base "NotNow" "name" o n:=#[b,_,["self","name"],jl,gd,ZM jm jl #[gh,gi],jm.binds (ps:=["self","name"]) λ_ _ _ _ _ _=>rE λ_ _=>rfl,a5V X G dk]
 have ic:HasRA l.prog w K mg base "NoRow" "number" J n:=#[m,_,["self","number"],f,er,ZO j f #[eu,e_],j.binds (ps:=["self","number"]) λ_ _ _ _ _ _=>rE λ_ _=>rfl,a5V X G T]
 have Gj:=XC.uW f;have b_:`hhh:=O.has (ZG O.fn jr oz i) (by walk_at "b1");have gn:`hhh:=I.has (WH I.fn b_) (by walk_at "b3");have ia:`hhh:=S.has (ZI S.fn eh gn) (by walk_at "b1");have jh:`hhh:=M.has (c9 M.fn pb i g y jg cx) (by walk_at "b1");have di:`hhh:=D.has (cB D.fn i y jt) (by walk_at "b1");have uh:`hhh:=B.has (wW B.fn jh ia b_) (by walk_at "b2");have cb:`hhh:=L.has (ZK L.fn di) (by walk_at "b1");have ji:`hhh:=Q.has (cC Q.fn pb i g r ug uh di cb) (by walk_at "b1");have jj:`hhh:=U.has (cF U.fn ) (by walk_at "b1");have u:`hhh:=Y.has (ZL Y.fn ) (by walk_at "b1");have c:`hhh:=J_.has (LR J_.fn cy r) (by walk_at "b1");have gp:`hhh:=Z.has (WJ Z.fn ) (by walk_at "b3");have ah:HasX l.prog w K mg base "refuse_undoable" 6 ["things","deed"] (DH o):=Ka.hasX (LU Ka.fn cz c_ ji jj cb) (by walk_at "b2");have kq:`hhh:=Kb.has (jO Kb.fn gp) (by walk_at "b2");have ui:`hhh:=Kc.has (wY Kc.fn ah u kq c) (by walk_at "b2");have gq:HasX l.prog w K mg base "back_deed" 7 ["world","deed"] (K4 o):=Kd.hasX (WL Kd.fn ah u) (by walk_at "b2");have kr:HasX l.prog w K mg base "walked" 8 ["world","row"] (GX J eL):=Ke.hasX (jQ Ke.fn de ic cz ej c_ gq u ui c) (by walk_at "b2");have uj:HasX l.prog w K mg base "gone" 9 ["world","row"] (GX J pU):=Kf.hasX (xA Kf.fn kr) (by walk_at "b2");have ku:`hhh:=Kg.has (jS Kg.fn Gj ej uj) (by walk_at "b2");have ph:`hhh:=Kh.has (rK Kh.fn ku) (by walk_at "b3");have z:`hhh:=Ki.has (jU Ki.fn cy r) (by walk_at "b1");have ci:`hhh:=Kj.has (O7 Kj.fn ) (by walk_at "b1");have pf:`hhh:=Kk.has (rL Kk.fn g) (by walk_at "b3");have cj:`hhh:=Kl.has (O9 Kl.fn i y z) (by walk_at "b4");have dr:`hhh:=Km.has (S9 Km.fn z c) (by walk_at "b1");have cm:`hhh:=Kn.has (OB Kn.fn r ci pf z c cj) (by walk_at "b2");have ky:`hhh:=Ko.has (jW Ko.fn dr cm) (by walk_at "b1");have ie:`hhh:=Kp.has (ZN Kp.fn c) (by walk_at "b2");have cn:`hhh:=Kq.has (OC Kq.fn ie) (by walk_at "b2");have gx:`hhh:=Kr.has (rN Kr.fn ky ph cn) (by walk_at "b2");have q:`hhh:=Ks.has (RS Ks.fn g) (by walk_at "b2");have x:`hhh:=Kt.has (WC Kt.fn ko) (by walk_at "b2");have eo:`hhh:=Ku.has (SL Ku.fn g a_ x) (by walk_at "b1");have dq:`hhh:=Kv.has (RU Kv.fn g lu a_ x) (by walk_at "b3");have dn:`hhh:=Kw.has (RW Kw.fn g xq xt) (by walk_at "b2");have bo:`hhh:=Kx.has (WF Kx.fn ) (by walk_at "b2");have cg:`hhh:=Ky.has (O4 Ky.fn jr oz i g y r) (by walk_at "b1");have ba:`hhh:=Kz.has (RY Kz.fn i g r bo cg gx) (by walk_at "b2");have cq:`hhh:=K_.has (O6 K_.fn xu g a_ r dn q bo ba dq x gx) (by walk_at "b2");have bp:`hhh:=K'.has (LQ K'.fn g a_ q ba x) (by walk_at "b2");exact A2b k.fn q eo bp cq
theorem A2d {ns:List Int}(m:ns.length<=63) (hb:∀i∈ns,xI i<=2 ^ 20) (hS:SqL K H a (ns.map V.int)):spD K 1 XX [.ref a] H (λv _=>v = .bl av) λ_ _ _=>False:=by
 refine#[[.d (.list (ns.map .int))],λ_=>ap,rfl,(λa o e=>nomatch e),#[.ref a,[],rfl,?_,rfl],#[ns,rfl,m,hb],λx t v H' post n q X=>?_]
 . unfold SI DV;refine#[a,ns.map V.int,rfl,?_,JI];rcases hS with h | h;. exact .inl #[λw=>w rfl,h]
   . exact .inr h
 . have e:x = .d (.bool av):=post;subst e;exact A3L X
theorem A4Y {l:PySem.W.OpenLaw}{q:bh}{loose:List Str}{XP:(Str->Option aw)->ca->Prop}{YP:bd->ca->Prop}{d:DefRec}{K:fi->Frg}(hn:l.most=am 63) (i:d.params.defaults=[]) (r:∀(w:bd) (h:ca),YP w h->(K w.params).In h) (F:∀(w:bd) (mg:Str->Option aw) (e:Addr) (h:ca),(K w.params).In h->h.Ns bb mg->mg d.name=am (.ref e) ->∃t:ee,(∀(s:ax) (u:aw),BindsTo s t #[[u],[]] [("_law_script", u)])/\∀base:ca,(K w.params).In base->base.Ns bb mg->FnOk l.prog w (K w.params) mg base CX0 15 e t ["_law_script"] (spD (K w.params) 1 XX)) :
   PySem.W.WalkO q loose XP YP l.row.toRowW d [] (λf vs=>PySem.call f vs):=
 L2.mL (n:=63) (k:=15) (x:= "_law_script") (CX:=λ_=>CX0) (sp:=λw=>spD (K w.params) 1 XX) hn (by decide) i #[rfl,by decide,by decide] r F (λ_ _ a o m hb _ hS=>A2d m hb hS) λ_ _ _ _ _ z=>z
end DL
open PySem PySem.W PyProof.Rows
set_option maxRecDepth 100000 in
set_option maxHeartbeats 0 in
theorem PySem.Challenge.cw_struckdeeds_k29_whole_told_worlds_met_ag_holds : PySem.Challenge.rw_struckdeeds_k29_whole_told_worlds_met_ag.Holds := by
 w_on
 refine PySem.W.holds_law DL.hS λQ=>?_;refine PySem.W.holds_open (q:=DL.hV) (loose:=[a0Q "FORMS"]) (Xt:=(λs=>PySem.W.xlAt DL.hV [] s&&PySem.W.recOk (b4Z (b2K (b4J PySem.Challenge.rw_struckdeeds_k29_whole_told_worlds_met_ag))) s)) (XP:=PySem.W.XL DL.hV []) (Yf:=b7X (a7Q DL.hK DL.hA DL.hE)) (Ya:=b7Q (a7Q DL.hK DL.hA DL.hE)) (YP:=PySem.W.Hook.says (a7Q DL.hK DL.hA DL.hE)) (N:=4826) DL.hL (PySem.W.Hook.of (a7Q DL.hK DL.hA DL.hE)) (PySem.W.Hook.keeps (a7Q DL.hK DL.hA DL.hE)) (λs e=>PySem.W.xl_of s (Bool.and_eq_true_iff.mp e).1) PySem.W.XL.keeps (by rfl) (by rfl) (by rfl) (λs e=>PySem.W.recFacts_of (Bool.and_eq_true_iff.mp e).2) rfl Q (by decide +kernel) #[rfl,rfl,rfl,rfl,rfl,by decide +kernel] ?L ?hc
 (case L=>w_witness2)
 k_fill
 refine DL.A4Y (l:=PySem.Challenge.rw_struckdeeds_k29_whole_told_worlds_met_ag) rfl rfl (λw h Y=>PySem.W.kIn_of Y) ?F
 case F=>
   intro w mg t h KX G qa;refine' DL.A2c KX G qa ?b0 ?b1 ?b2 ?b3 ?b4 ?b5 ?b6 ?b7 ?b8 ?b9 ?Iv ?Iw ?Iy ?Iz ?I_ ?Ja ?Jb ?Jc ?Jd ?Je ?Jf ?Jg ?Jh ?Ji ?Jj ?Jk ?Jl ?Jm ?Jn ?Jo ?Jp ?Jq ?Jr ?Js ?Jt ?Ju ?Jv ?Jw ?Jx ?Jy ?Jz ?vg ?vh ?nr ?X ?r ?vi ?m ?vj ?n_ ?vk ?vm ?jw ?Z ?vo ?jx ?vp ?jy ?jz ?j_ ?v ?p ?x ?f ?y ?z ?u ?n ?il ?ip ?iq ?ir ?iu ?g ?iw ?o ?j ?k ?S ?M ?D ?i ?B ?T ?O ?I ?J;all_goals (first | (refine' DL.wU ?t ?c ?U ?b;(case t=>k_is);(case c=>k_is);(case U=>k_is);(case b=>k_is)) | skip)
   (case vg=>k_is)
   (case vh=>k_is)
   (case nr=>k_is)
   (case X=>k_is)
   (case r=>k_is)
   (case vi=>k_is)
   (case m=>k_is)
   (case vj=>k_is)
   (case n_=>k_is)
   (case vk=>k_is)
   (case vm=>k_is)
   (case jw=>k_is)
   (case Z=>k_is)
   (case vo=>k_is)
   (case jx=>k_is)
   (case vp=>k_is)
   (case jy=>k_is)
   (case jz=>k_is)
   (case j_=>decide)
   (case v=>k_is)
   (case p=>k_is)
   (case x=>k_is)
   (case f=>k_is)
   (case y=>k_is)
   (case z=>k_is)
   (case u=>k_is)
   (case n=>k_is)
   (case il=>k_is)
   (case ip=>k_is)
   (case iq=>k_is)
   (case ir=>k_is)
   (case iu=>k_is)
   (case g=>k_is)
   (case iw=>k_is)
   (case o=>k_is)
   (case j=>k_is)
   (case k=>k_is)
   (case S=>k_is)
   (case M=>k_is)
   (case D=>k_is)
   (case i=>k_is)
   (case B=>k_is)
   (case T=>k_is)
   (case O=>k_is)
   (case I=>k_is)
   (case J=>k_is)
#print axioms PySem.Challenge.cw_struckdeeds_k29_whole_told_worlds_met_ag_holds
