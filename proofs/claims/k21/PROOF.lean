import PyProof.Rows.All
import Wide.All
import OpenK.AllK
import Wide.FinOn
import Lean
import PyProof.EqAt
import PyProof.EqKinds
import PyProof.TupleCall
import PyProof.ListRange
import PyProof.TupleOfSeq
import PyProof.WalksS
import PyProof.CollectWalk
import KE.KRevIter
import PyProof.P3In
import PyProof.SumAnyB
import PyProof.NeKinds
import KE.KEqDict
import PyProof.RulesAssignMore
import PyProof.SetRoads
import PyProof.Rows.SetFrom
import KE.KDictOf
import PyProof.Draws
import KE.KIsAll
import KE.KDictList
import PySem.Challenge.RW_struckdeeds_k21_whole_neighbours_changed
set_option Elab.async false
set_option linter.all false
set_option maxRecDepth 100000
set_option compiler.extract_closed false
set_option maxHeartbeats 4000000
open PySem.Challenge renaming pw_struckdeeds_k21_whole_neighbours_changed->ad
open Option renaming some->ak,none->am
open PySem renaming Value->ap,Shared->av,sizeLine->a0,wpAny_loadPart_at->bb,mainGlobals->bc,wpAny_field->bd,wpAny_mono->bf,World->bj,Program->bn,Expr->bp,compareOp->bq,wpAny_isSubtype_exc->br,wpAny_holding->bt,wpAny_standAt->bv,Around->bx,foldedSetIterable->ca,Heap->cc,wpAny_call_entry->ce,wpAny_truthy_bool->cr,Obj->cy,treeTable->cE,sizeLine_eq->cN,wpAny_seqItems->cR,sysModules->c0,wpAny_setField_rec->c3,wpAny_Call_Name_kw->c4,assignEach->da,wpAny_rule->db,rawInt->dc,wpAny_setField->di,IsPair->dj,FuncData->dl,wpAny_passesOwn->dV,binaryOp->ea,NameKind->ed,OsState->ee,noFill_tuple_add->ef,Stmt->eg,cLine->eh,Pos->en,wpAny_execs_nil->et,typeLookup->ew,wpAny_getItem_str_slice->eH,Scope->eN,Params->e5,wpAny_onRaise->fc,seq_tuple_add->fi,getItem->fk,behindInMarks->fm,sliceBounds->ft,wpAny_loadPart'->fw,IsZip->fN,wpAny_typeOf->ga,bootBuiltins->gc,swapsWith->ge,noteFrame->gg,wpAny_pyIter_tuple->gl,tupleKind_room_in1->gt,wpAny_pyIter_list->g0,wpAny_newList->g8,comprehension->hX,take_succ_filter->hY,ExcBaseFacts->h7,Env->ic,post_val_or_str->ig,field->ik,wpAny_updateSeq_pair->im,wpAny_of_eq->io,firstArgMember->iv,assign->iD,IsPart->i3,valueAt->jf
open Bool renaming true->au,false->aB
open PyProof.Rows renaming seqObj->cw,kindOf->fx,envOfC->fy,AllBare->g5,slicePart_none->iq,entry_tuple_getitem->jg
open PySem.Str renaming ofString->a0Q
open PySem.Value renaming ref->a0X,none->a1Z,str->c0V
open PySem.PyData renaming str->a0Z,eqv->a0W,depthAll->a2X,depth->a2J,keyHash->b0W,canLay0->b7J,int->b8J,canLayAll0->b8K,eqvAll->b8W,tuple->c0Z,strOk->c0J
open List renaming mem_cons_self->a0J,length_take->a0K,take_length->a1Q,range->a1X,contains_cons->a1J,getElem_mem->a1V,take_add_one->a2Q,lookup_cons->a3V,append_nil->a4K,filter_sublist->a4W,filterMap_cons->a4V,pairwise_cons->a5X,foldl_append->a6Z,getElem?_eq_none->a6K,mem_singleton->a6V,perm_ext_iff_of_nodup->a8Z,filter_cons->a8V,any_eq_true->a9Q,all_eq_true->a9X,zip_cons_cons->a9Z,map_id->a9W,getElem?_zip_eq_some->a9V,pairwise_map->b0Q,flatMap_cons->b0X,sum_cons->b0J,flatMap_append->b0K,take_of_length_le->b1Q,take_append_drop->b1K,find?_cons->b1W,ext_getElem?->b2X,mem_of_mem_take->b2V,replicate->b3Q,range_succ->b3J,of_mem_zip->b3K,foldl_cons->b3W,any_cons->b3V,drop_eq_nil_of_le->b4V,length_drop->b5J,getElem?_set_ne->b5K,length_nil->b6W,map_nil->b8X,filter_append->b8Z,reverse_cons->b9Q,nodup_append->b9X,length->b9W,getElem_map->c0Q
open Bool renaming and_eq_true->a0V,eq_iff_iff->a1K,not_eq_true'->b2Z,false_eq_true->b4Q,true_and->b6Q
open Sum renaming inr->a1W
open PySem.Builtin.SmallTypes renaming nextOf->a2Z,ownedTupleIsFree->a2V,ownedTupleHandOut->b7Z
open PySem.W renaming nsIn->a2K,mg_none_of->a2W,kia_one->a3J,keepIn->a3K,fnOf->a5Q,boot_heap->a5J,mg_of->a5V,kHook->a7Q,topRun->a8K,findIn->a8W,codeIn->b0Z,segRunT->b1X,piecesOf->b2K,segRun_of->b4X,restOf->b4K,isFn->b4W,callWith_K->b6J,boot_drawn->b6K,piece_app->b7K,boot_toks->b7W,cellsFrom_some->b9Z,looks_findIn->c0W
open Option renaming isSome_map->a3Q,some->a4J,map_some->b5W,none->b8V
open PySem.Builtin.Slice renaming slicePlaces->a3X,sliceAdjust->a7K,sliceApplied->b0V
open PySem.Heap renaming get?_update_self->a3Z,size_push->a9K
open PySem.Builtin.Tuple renaming tupleExact->a3W,tupleItemsOf->b5X
open Ne renaming symm->a4Q
open PyProof.Rows renaming slot_tuple_getitem->a4X
open PySem.Builtin.Str renaming occurrences->a4Z
open Nat renaming le_succ->a5Z,ne_of_gt->a9J,lt_trichotomy->b9J,lt_succ_of_lt->b9K,le_add_right->c0K
open Classical renaming byContradiction->a5K
open PySem renaming mem_of_lookup->a5W
open Array renaming length_toList->a6Q,getElem?_toList->b5Z,getD_eq_getD_getElem?->b6Z,getElem?_eq_none->c0X
open PySem.F renaming slot_tuple_iterator_next->a6X,args_tuple_add_2->a6J,entry_tuple_add->a7X,slot_tuple_add->a7Z,excBase_ValueError->b6X,args_tuple_iterator_next_1->b7X,entry_tuple_iterator_next->b7V
open False renaming elim->a6W
open PySem.Obj renaming mapSeq->a7J,data_mapFields->b1Z,mapFields->b2J
open Int renaming toNat_natCast->a7W,emod_nonneg->a7V,emod_lt_of_pos->b1J
open PySem.NameKind renaming free->a8Q
open List.Pairwise renaming nil->a8X
open True renaming intro->a8J
open PySem.Txt renaming slice->b1V
open PySem.Builtin.List renaming listTooLong->b2Q
open PySem.W.OpenRow renaming toRowW->b2W
open ForInStep renaming yield->b3X
open PySem.Spec renaming ltCps->b3Z
open PySem.W.RowW renaming records->b4Z
open PySem.W.OpenLaw renaming row->b4J
open PySem.Heap.SameBut renaming update->b5Q
open List.Perm renaming cons_inv->b5V
open PySem.W.Hook renaming val->b6V,obs->b7Q
open PySem.Calls renaming call_function_entry->b8Q,callWith_builtin->b9V
open PySem renaming wpAny_bind->zZ,wpAny_pure->zY,codeAny_mono->xN,wpAny_newObj_type->xM
open List renaming length_map->zX,getElem?_eq_getElem->zV,mem_map->zL,size_toArray->zJ,map_cons->zI,getElem?_map->zF,map_map->zD,mem_append_right->zB,mem_append_left->zA,length_append->yY,mem_cons->yX,mem_append->yW,mem_cons_of_mem->yV,getD_eq_getElem?_getD->yU,getElem?_eq_some_iff->yT,length_cons->yR,getElem?_append_left->yQ,mem_of_getElem?->yN,map_congr_left->yM,mem_filter->yL,length_filter_le->yJ,getElem?_range->xZ,length_range->xY,not_mem_nil->xW,nodup_cons->xV,filter_map->xU,map_append->xI
open PySem.Heap renaming get?_push_of_some->zW,lt_size->zM,get?_push_size->yZ,get?_update_other->yC,get?_update_ne->yB
open Nat renaming le_refl->zR,lt_of_le_of_lt->zQ,lt_of_lt_of_le->zP,le_trans->zN,ne_of_lt->zC,lt_irrefl->yF,le_of_ble_eq_true->yD,zero_le->xT,le_of_lt->xR,lt_trans->xQ
open PySem.SeqAt renaming shaped->zH,canLay_of_shaped->zG
open Bool renaming not_eq_true->yA
open Option renaming isSome_iff_exists->xX
open PyProof.Rows renaming envOfC->xL,callWith_type1->xH,sortedS->xG
open PySem.Builtin.Int renaming intBits->xJ
set_option hygiene false
local macro_rules | `(`jj)=>`(by simp[Deed.names])
local macro_rules | `(`jz)=>`(by walk_at "e")
local macro_rules | `(`kh)=>`(by decide)
set_option hygiene true
open List renaming toArray->y9
local macro_rules | `(#[$e,*])=>if e.getElems.isEmpty then Lean.Macro.throwUnsupported else `(⟨$e,*⟩)
abbrev sT (n:Nat):PySem.Stmt:=ad.main.body.getD n (.Pass #[0,0,0,0])
abbrev Frg:=PySem.W.Frag
theorem nft:¬(aB=au):=Bool.false_ne_true
namespace L2
open PySem PySem.Spec PyProof.Rows
abbrev Key:=Sum Int Str
def PN:Key->ap->Bool
 | .inl k,v=>Value.isInt k v
 | .inr x,v=>Value.isStrOf x v
def A5N (w:bj):Key->Int
 | .inl k=>hashInt k
 | .inr x=>hashStr w x
theorem BA:∀{k:Key}{v:ap},PN k v=au->(∃i t,k=Sum.inl i/\v=Value.int i t)\/(∃x t,k=a1W x/\v=c0V x t)
 | .inl i,v,h=>by obtain⟨t,e⟩:=Value.isInt_shape (k:=i) (v:=v) h;exact .inl #[i,t,rfl,e]
 | .inr x,v,h=>by obtain⟨t,e⟩:=Value.isStrOf_shape (x:=x) (v:=v) h;exact .inr #[x,t,rfl,e]
theorem j6 (i:Int) (t:Tok):PN (.inl i) (.int i t)=true:=by simp[PN,Value.isInt]
theorem j7 (x:Str) (t:Tok):PN (.inr x) (.str x t)=true:=by simp[PN,Value.isStrOf]
theorem A1a (a b:Int):decide ((Sum.inl a:Key)=Sum.inl b)=(a==b):=by
 by_cases e:a=b;. subst e;simp
 . have h:¬(Sum.inl a:Key)=Sum.inl b:=λq=>e (Sum.inl.inj q);rw[decide_eq_false h];exact(beq_eq_false_iff_ne.mpr e).symm
theorem A1b (a b:Str):decide ((a1W a:Key)=a1W b)=decide (a=b):=by
 by_cases e:a=b;. subst e;simp
 . have h:¬(a1W a:Key)=a1W b:=λq=>e (Sum.inr.inj q);rw[decide_eq_false h,decide_eq_false e]
theorem A1c (a:Int) (b:Str):decide ((Sum.inl a:Key)=a1W b)=false:=decide_eq_false (λq=>nomatch q)
theorem A1d (a:Str) (b:Int):decide ((a1W a:Key)=Sum.inl b)=false:=decide_eq_false (λq=>nomatch q)
def AV (prog:bn) (w:bj):PySem.KeyKind prog w Key where
 is:=PN
 hash:=A5N w
 inj:=λv a b ha hb=>by
   rcases BA ha with ⟨i,t,rfl,rfl⟩ | ⟨x,t,rfl,rfl⟩
   . rcases BA hb with ⟨j,u,rfl,e⟩ | ⟨y,u,rfl,e⟩
     . injection e with e1 _;rw[e1]
     . exact nomatch e
   . rcases BA hb with ⟨j,u,rfl,e⟩ | ⟨y,u,rfl,e⟩
     . exact nomatch e
     . injection e with e1 _;rw[e1]
 byValue:=λk v h=>by rcases BA h with ⟨i,t,rfl,rfl⟩ | ⟨x,t,rfl,rfl⟩ <;> rfl
 pyHash:=λhv h=>by
   rcases BA hv with ⟨i,t,rfl,rfl⟩ | ⟨x,t,rfl,rfl⟩
   . exact wpAny_pyHash_int h
   . exact wpAny_pyHash_str h
 eqBool:=λhu hv h=>by
   rcases BA hu with ⟨i,t,rfl,rfl⟩ | ⟨x,t,rfl,rfl⟩
   . rcases BA hv with ⟨j,u,rfl,rfl⟩ | ⟨y,u,rfl,rfl⟩
     . rw[A1a] at h;exact wpAny_eqBool_int h
     . rw[A1c] at h;exact SeqAt.EqAt.int_str i t y u _ _ _ _ h
   . rcases BA hv with ⟨j,u,rfl,rfl⟩ | ⟨y,u,rfl,rfl⟩
     . rw[A1d] at h;exact SeqAt.EqAt.str_int x t j u _ _ _ _ h
     . rw[A1b] at h;exact wpAny_eqBool_str h
 «strs»:=λk x t v h=>by
   rcases BA h with ⟨i,u,rfl,e⟩ | ⟨y,u,rfl,e⟩
   . exact nomatch e
   . injection e with e1 _;subst e1;cases v <;> rfl
theorem YA (prog:bn) (w:bj) (i:Int) (t:Tok):(AV prog w).is (.inl i) (.int i t)=true:=j6 i t
theorem PP (prog:bn) (w:bj) (x:Str) (t:Tok):(AV prog w).is (.inr x) (.str x t)=true:=j7 x t
set_option genSizeOf false
inductive V where
 | non | bl (b:Bool) | int (i:Int) | str (x:Str) | byt (b:Array UInt8) | flt (b:UInt64) | ref (a:Addr) | ty (n:String)
 deriving DecidableEq
def RelV:V->ap->Prop
 | .non,u=>u=a1Z
 | .bl b,u=>u=Value.bool b
 | .int i,u=>∃t,u=Value.int i t
 | .str x,u=>∃t,u=c0V x t
 | .byt b,u=>∃t,u=Value.bytes b t
 | .flt b,u=>∃t,u=Value.float b t
 | .ref a,u=>u=a0X a
 | .ty n,u=>u=Value.type n
abbrev Vals:List V->List ap->Prop:=Paired RelV
theorem Vals.length (r:Vals xs v):xs.length=v.length:=Paired.length r
theorem Vals.get:∀{xs:List V}{v:List ap}{i:Nat}{x:V},Vals xs v->xs[i]?=ak x->∃u,v[i]?=ak u/\RelV x u
 | _,_,_,_,.nil,e=>by simp at e
 | _,_,0,_,.cons r _,e=>by simp at e;subst e;exact#[_,rfl,r]
 | _,_,i+1,x,.cons _ t,e=>by obtain⟨u,h1,n⟩:=Vals.get (i:=i) (x:=x) t (by simpa using e);exact#[u,by simpa using h1,n]
theorem Vals.append:∀{xs ys:List V}{v b:List ap},Vals xs v->Vals ys b->Vals (xs++ys) (v++b)
 | _,_,_,_,.nil,s=>s
 | _,_,_,_,.cons r t,s=>.cons r (Vals.append t s)
theorem Vals.take:∀{xs:List V}{v:List ap}(n:Nat),Vals xs v->Vals (xs.take n) (v.take n)
 | _,_,0,_=>.nil
 | _,_,_+1,.nil=>.nil
 | _,_,n+1,.cons r t=>.cons r (Vals.take n t)
theorem Vals.drop:∀{xs:List V}{v:List ap}(n:Nat),Vals xs v->Vals (xs.drop n) (v.drop n)
 | _,_,0,r=>r
 | _,_,_+1,.nil=>.nil
 | _,_,n+1,.cons _ t=>Vals.drop n t
def RelO:Option V->Option ap->Prop
 | some v,ak u=>RelV v u
 | none,am=>True
 | _,_=>False
def KV {e:Type}:List (e×V)->List (e×ap)->Prop:=Paired λ(p:e×V) (q:e×ap)=>p.1=q.1/\RelV p.2 q.2
def kV:Key->V
 | .inl i=>.int i
 | .inr x=>.str x
inductive HO where
 | lst (xs:List V)
 | tup (xs:List V)
 | dK (kvs:List (Key×V)) | dT (kvs:List (List Key×V))
 | set (S:Int->Bool) (n:Nat)
 | ins (C dx:Addr) (fs:List (Str×V))
 | own (x:Addr)
 | xd (fs:List (Str×V))
 | met (f x:Addr)
 | rng (lo hi:Int)
 | frz (o:cy) (u:HO)
 | tbl (ps:Array ap)
 | ext (φ:cc->Prop)
abbrev Hp:=Addr->Option HO
def upd (H:Hp) (a:Addr) (o:HO):Hp:=λb=>if b=a then ak o else H b
theorem AF :upd H a o a=ak o:=by unfold upd;rw[if_pos rfl]
theorem AH (h:b≠a):upd H a o b=H b:=by unfold upd;rw[if_neg h]
theorem A4C {H:Hp}(h:H a=ak o) (h':H b=ak u) (d:o≠u):a≠b:=by intro e;subst e;rw[h] at h';exact d (Option.some.inj h')
theorem B5 {H:Hp}(h:H a=ak o) (h':H b=am):a≠b:=by intro e;subst e;rw[h] at h';cases h'
section
variable (P:bn) (w:bj)
def ObjOk (H:Hp) (h:cc) (a:Addr):HO->Prop
 | .lst e=>e.length<=a0/\∃(r:List ap) (n:Nat),Vals e r/\h.get? a=ak { cls:=.type "list", data:=.seq r.toArray n }
 | .tup e=>e.length<=a0/\∃r:List ap,Vals e r/\IsTup h a r.toArray
 | .dK kvs=>kvs.length<=a0/\(a==c0)=aB/\∃b,KV kvs b/\h.DictOf (AV P w) a b
 | .dT kvs=>kvs.length<=a0/\(a==c0)=aB/\∃e:List (List Key×Addr×ap),
     Paired (λ(p:List Key×V) (q:List Key×Addr×ap)=>p.1=q.1/\H q.2.1=ak (.tup (p.1.map kV))/\RelV p.2 q.2.2) kvs e /\
     ∃o O c,h.get? a=ak o/\o.ExactDict/\o.data = .dict O c/\O.toList=e.map (entryOfKey (tupleKind (AV P w)))/\(e.map (·.1)).Nodup
 | .set S n=>h.SetOf (intKind P w) a S n
 | .ins C y fs=>H y=ak (.own a)/\fs.length<=1000/\y≠a/\h.get? a=ak (PySem.W.instObj C y) /\∃i,h.Ns1 y i/\(∀f,RelO (fs.lookup f) (i f))/\PySem.Within i (fs.map (·.1))
 | .own _=>∃o,h.get? a=ak o
 | .xd fs=>∃i,h.Ns1 a i/\∀f,RelO (fs.lookup f) (i f)
 | .rng g hi=>∃t u v,h.get? a=ak { cls:=.type "range", data:=.fields (y9 [.int g t,.int hi u,.int 1 v]) }
 | .frz o u=>h.get? a=ak o/\ObjOk H h a u
 | .tbl Z=>h.get? a=ak { cls:=.none,data:=.fields Z }
 | .met f x=>h.get? a=ak (PySem.W.methodObj (.ref f) (.ref x))
 | .ext Y=>Y h/\(∃o,h.get? a=ak o)/\∀h1 m:cc,Y h1->(∀o,h1.get? a=ak o->m.get? a=ak o)->Y m
def HOk (H:Hp) (h:cc):Prop:=∀a o,H a=ak o->ObjOk P w H h a o
end
section
variable {P:bn}{w:bj}{H H':Hp}{h h':cc}{a:Addr}{o:HO}
theorem ObjOk.lt (x:ObjOk P w H h a o):a < h.objs.size:=by
 cases o with
 | lst t=>obtain⟨_,_,_,_,e⟩:=x;exact zM e
 | tup t=>obtain⟨_,_,_,p⟩:=x;exact p.lt
 | dK kvs=>obtain⟨_,_,_,_,o,_,_,e,_⟩:=x;exact zM e
 | dT kvs=>obtain⟨_,_,_,_,o,_,_,e,_⟩:=x;exact zM e
 | set S n=>obtain⟨o,_,_,_,e,_⟩:=x;exact zM e
 | ins C i fs=>obtain⟨_,_,_,e,_⟩:=x;exact zM e
 | own y=>obtain⟨_,e⟩:=x;exact zM e
 | xd fs=>obtain⟨_,⟨_,_,_,e,_⟩,_⟩:=x;exact zM e
 | rng r hi=>obtain⟨_,_,_,e⟩:=x;exact zM e
 | frz m u=>obtain⟨e,_⟩:=x;exact zM e
 | tbl Z=>exact zM (show h.get? a=ak _ from x)
 | met f y=>exact zM (show h.get? a=ak _ from x)
 | ext Y=>obtain⟨_,⟨_,e⟩,_⟩:=x;exact zM e
theorem Paired.mapP :∀{Q:List D}{U:List e},Paired F Q U->(∀a b,F a b->G a b)->Paired G Q U
 | _,_,.nil,_=>.nil
 | _,_,.cons r t,f=>.cons (f _ _ r) (Paired.mapP t f)
theorem ObjOk.stay (x:ObjOk P w H h a o) (k:∀b u,(b=a\/H b=ak (.own a))->h.get? b=ak u->h'.get? b=ak u) (ho:∀b,H b=ak (.own a)->H' b=ak (.own a)) (M:∀b xs,H b=ak (.tup xs)->H' b=ak (.tup xs)):ObjOk P w H' h' a o:=by
 induction o with
 | lst xs=>obtain⟨z,g,n,r,e⟩:=x;exact#[z,g,n,r,k _ _ (.inl rfl) e]
 | tup xs=>obtain⟨z,g,r,i,e,c⟩:=x;exact#[z,g,r,i,k _ _ (.inl rfl) e,c]
 | dK kvs=>obtain⟨z,y,D,r,i,O,m,e,c⟩:=x;exact#[z,y,D,r,i,O,m,k _ _ (.inl rfl) e,c]
 | dT kvs=> obtain⟨z,y,xs,r,i,O,m,e,c⟩:=x;exact#[z,y,xs,Paired.mapP r λp q z=>#[z.1,M _ _ z.2.1,z.2.2],i,O,m,k _ _ (.inl rfl) e,c]
 | set S n=>obtain⟨i,O,m,t,e,c⟩:=x;exact#[i,O,m,t,k _ _ (.inl rfl) e,c]
 | ins C B fs=> obtain⟨d,z,ne,e,j,⟨T,O,m,I,c⟩,r⟩:=x;exact#[ho _ d,z,ne,k _ _ (.inl rfl) e,j,#[T,O,m,k _ _ (.inr d) I,c],r]
 | own y=>obtain⟨i,e⟩:=x;exact#[i,k _ _ (.inl rfl) e]
 | xd fs=>obtain⟨j,⟨T,O,m,e,c⟩,r⟩:=x;exact#[j,#[T,O,m,k _ _ (.inl rfl) e,c],r]
 | rng G hi=>obtain⟨t,u,v,e⟩:=x;exact#[t,u,v,k _ _ (.inl rfl) e]
 | frz i u Q=>obtain⟨e,q⟩:=x;exact#[k _ _ (.inl rfl) e,Q q]
 | tbl Z=> have e:h.get? a=ak { cls:=.none,data:=.fields Z }:=x;show h'.get? a=ak { cls:=.none,data:=.fields Z };exact k a _ (.inl rfl) e
 | met f y=> have e:h.get? a=ak (PySem.W.methodObj (.ref f) (.ref y)):=x;show h'.get? a=ak (PySem.W.methodObj (.ref f) (.ref y));exact k a _ (.inl rfl) e
 | ext Y=>obtain⟨p,⟨o,e⟩,N⟩:=x;exact#[N _ _ p λo q=>k _ _ (.inl rfl) q,#[o,k _ _ (.inl rfl) e],N]
theorem HOk.lt (x:HOk P w H h) (e:H a=ak o):a < h.objs.size:=(x a o e).lt
theorem HOk.fresh (x:HOk P w H h) (e:h.objs.size<=a):H a=none:=by
 cases q:H a with
 | none=>rfl
 | some u=>exact absurd (zP (x.lt q) e) (yF _)
theorem HOk.kept (x:HOk P w H h) (k:∀b u,h.get? b=ak u->h'.get? b=ak u):HOk P w H h':=λa o e=>
 (x a o e).stay (λb u _ q=>k b u q) (λ_ q=>q) λ_ _ q=>q
theorem HOk.laid (x:HOk P w H h) (k:∀b u,h.get? b=ak u->h'.get? b=ak u) (hp:h.objs.size<=a) (new:ObjOk P w (upd H a o) h' a o):HOk P w (upd H a o) h':=λb u e=>by
 have hn:=x.fresh hp;by_cases hb:b=a;. subst hb;rw[AF] at e;cases e;exact new
 . rw[AH hb] at e;exact(x b u e).stay (λc v _ q=>k c v q) (λc q=>by rw[AH (B5 q hn)];exact q) λc t q=>by rw[AH (B5 q hn)];exact q
end
def Rd (H:Hp) (a:Addr) (u:HO):Prop:=H a=ak u\/∃o,H a=ak (.frz o u)
theorem Rd.ok (r:Rd H a u) (x:HOk P w H h):ObjOk P w H h a u:=by
 rcases r with r | ⟨o,r⟩
 . exact x a u r
 . obtain⟨_,q⟩:=x a _ r;exact q
def Mut:Option HO->Prop
 | some (.lst _)=>True
 | some (.dK _)=>True
 | some (.dT _)=>True
 | some (.set _ _)=>True
 | some (.ins _ _ _)=>True
 | some (.ext _)=>True
 | _=>False
section
theorem HOk.write (ok:HOk P w H h) (S:Mut (H x)) (he:e=x\/H e=ak (.own x)) (k:∀b u,b≠e->h.get? b=ak u->h'.get? b=ak u) (m:∃u,h'.get? e=ak u) (new:ObjOk P w (upd H x o') h' x o'):HOk P w (upd H x o') h':=λb u q=>by
 have n:∀c y,H c=ak (.own y)->c≠x:=λc y r z=>by subst z;rw[r] at S;exact S
 have i:∀c t,H c=ak (.tup t)->c≠x:=λc t r z=>by subst z;rw[r] at S;exact S
 by_cases hb:b=x;. subst hb;rw[AF] at q;cases q;exact new
 . rw[AH hb] at q;by_cases hbe:b=e
   . have g:H b=ak (.own x):=by
       rcases he with z | z;. exact absurd (hbe.trans z) hb
       . rw[hbe];exact z
     rw[q] at g;cases g;obtain⟨v,N⟩:=m;exact#[v,by rw[hbe];exact N]
   . refine(ok b u q).stay (λc v hc r=>k c v ?_ r) (λc r=>by rw[AH (n c b r)];exact r) λc t r=>by rw[AH (i c t r)];exact r
     rcases hc with rfl | hc;. exact hbe
     . rintro rfl;rcases he with z | z;. exact n c b hc z
       . rw[hc] at z;cases z;exact hb rfl
end
structure Un (fs ex:List Addr) (H H':Hp) (h h':cc):Prop where
 keep:∀b o,h.get? b=ak o->H b=am->b∉fs->b∉ex->h'.get? b=ak o
 slot:∀b o,h.get? b=ak o->H b=am->b∈fs->b∉ex->∃sl,h'.get? b=ak { o with slots:=sl }
 free:∀b o,h.get? b=ak o->H b=am->b∉ex->H' b=am
 there:∀b o,h.get? b=ak o->b∉ex->∃o',h'.get? b=ak o'
 tups:∀b xs,H b=ak (.tup xs)->H' b=ak (.tup xs)
 frzs:∀b o u,H b=ak (.frz o u)->H' b=ak (.frz o u)
 tbls:∀b ps,H b=ak (.tbl ps)->∃more,H' b=ak (.tbl (ps++more))
section
variable {fs Bt ex zj:List Addr}{H H1 H2:Hp}{h h1 h2 h':cc}{a x e:Addr}{o:HO}
theorem Un.any (u:Un fs ex H H1 h h1) (q:h.get? b=ak t) (n:H b=am) (hx:b∉ex):∃sl,h1.get? b=ak { t with slots:=sl }:=by
 by_cases hb:b∈fs;. exact u.slot b t q n hb hx
 . exact#[t.slots,u.keep b t q n hb hx]
theorem Un.kept (k:∀b u,h.get? b=ak u->h'.get? b=ak u):Un fs ex H H h h':=#[λb t q _ _ _=>k b t q,λb t q _ _ _=>#[t.slots,k b t q],λ_ _ _ n _=>n,λb t q _=>#[t,k b t q],λ_ _ q=>q,λ_ _ _ q=>q,λ_ Z q=>#[#[],by rw[q];simp]]
theorem Un.refl:Un fs ex H H h h:=Un.kept λ_ _ q=>q
theorem Un.laid (k:∀b u,h.get? b=ak u->h'.get? b=ak u) (hp:h.objs.size<=a) (hn:H a=am):Un fs ex H (upd H a o) h h' where
 keep:=λb u q _ _ _=>k b u q
 slot:=λb u q _ _ _=>#[u.slots,k b u q]
 free:=λb u q n _=>by rw[AH (zC (zP (zM q) hp))];exact n
 there:=λb u q _=>#[u,k b u q]
 tups:=λb xs q=>by rw[AH (B5 q hn)];exact q
 frzs:=λb u xs q=>by rw[AH (B5 q hn)];exact q
 tbls:=λb ps q=>#[#[],by rw[AH (B5 q hn),q];simp]
theorem Un.write (S:Mut (H x)) (he:e=x\/H e=ak (.own x)) (k:∀b u,b≠e->h.get? b=ak u->h'.get? b=ak u) (p:∃u,h'.get? e=ak u):Un fs ex H (upd H x o) h h':=by
 have hx:∀b,H b=am->b≠x:=λb n z=>by subst z;rw[n] at S;exact S
 have hb:∀b,H b=am->b≠e:=λb n z=>by
   subst z;rcases he with r | r;. exact hx b n r
   . rw[n] at r;cases r
 have t:∀b u,H b=ak u->¬Mut (ak u)->b≠x:=λb u q i z=>by subst z;rw[q] at S;exact i S
 refine#[λb u q n _ _=>k b u (hb b n) q,λb u q n _ _=>#[u.slots,k b u (hb b n) q],λb u q n _=>by rw[AH (hx b n)];exact n,λb u q _=>?_,
   λb m q=>by rw[AH (t b _ q λz=>z)];exact q,λb u m q=>by rw[AH (t b _ q λz=>z)];exact q,λb Z q=>#[#[],by rw[AH (t b _ q λz=>z),q];simp]];by_cases hbe:b=e
 . subst hbe;exact p
 . exact#[u,k b u hbe q]
end
def trk (h:cc) (H:Hp):List Addr:=(a1X h.objs.size).filter λa=>(H a).isSome
def VT (h:cc) (H:Hp):Heap:=PySem.W.hideAll h (trk h H)
theorem j8 (h:cc) (H:Hp):(VT h H).objs.size=h.objs.size:=PySem.W.hideAll_size _ _
theorem mO (e:h.get? b=ak o) (n:H b=am):(VT h H).get? b=ak o:=
 PySem.W.hideAll_get _ e λt=>by have q:(H b).isSome=true:=(yL.mp t).2;rw[n] at q;simp at q
theorem uO (e:(VT h H).get? b=ak o):h.get? b=ak o/\H b=none:=by
 have e':h.get? b=ak o:=PySem.W.of_hideAll (trk h H) e;refine#[e',?_];cases q:H b with
 | none=>rfl
 | some x=> have t:b∈trk h H:=yL.mpr #[List.mem_range.mpr (zM e'),by simp[q]];have z:(VT h H).get? b=none:=PySem.W.hideAll_none (trk h H) t;rw[z] at e;cases e
structure Mod (K:Frg) (mg:Str->Option ap) (base:cc):Prop where
 kin:K.In base
 glob:base.Ns bc mg
 blt:∃mb,base.Ns builtinsNs mb/\∀x:Str,x ≠ "__name__" -> mb x=gc x
 nolimit:base.NoLimit
set_option genInjectivity false
structure Cx where
 prog:bn
 w:bj
 K:Frg
 mg:Str->Option ap
 base:cc
 A:bx
 N:List Str
 s₀:av
 H₀:Hp
 env:ic
 outer:List ic
 stack:List ic
 ex:List Addr
 fn:Str->Bool
 calm:Bool
 pn:List (Addr×cy)
 xe:ap->av->Prop
def frs (l:List ic):List Addr:=l.filterMap (·.frame)
abbrev Cx.fs (X:Cx):List Addr:=frs X.outer
def Vis (b:eN) (x:Str):Prop:=b.names.lookup x=ak .local\/b.names.lookup x=ak .cell\/b.names.lookup x=ak .free
def Loc (b:eN) (x:Str):Prop:=b.names.lookup x=ak .local\/b.names.lookup x=ak .cell
def A5O (env:ic) (h:cc) (m:Str->Option ap) (x:Str) (u:ap):Prop:=(env.kindOf x=ak .local/\m x=ak u)\/((env.kindOf x=ak .cell\/env.kindOf x=ak .free)/\∃c,env.cells.lookup x=ak c/\h.IsCell c (ak u))
structure Cx.Ok (X:Cx):Prop where
 mod:Mod X.K X.mg X.base
 kind:X.env.scope.kind = .function
 glob:X.env.globals=bc
 blt:X.env.builtins=builtinsNs
 above:X.s₀.heap.objs.size<=X.env.locals
 inj:∀x y c,X.env.cells.lookup x=ak c->X.env.cells.lookup y=ak c->x=y
 has:∀x,(X.env.kindOf x=ak .cell\/X.env.kindOf x=ak .free)->∃c,X.env.cells.lookup x=ak c
 cab:∀x c,X.fn x=au->X.env.cells.lookup x=ak c->X.s₀.heap.objs.size<=c
 hd:X.calm=au->X.A.handled=am
 frames:X.A.frames=ak X.stack
 stk:X.stack=X.outer\/(X.stack=X.env::X.outer/\X.env.frame=ak X.env.locals)
 exf:∀b∈X.ex,b≠X.env.locals/\∀x c,X.env.cells.lookup x=ak c->c≠b
 bs:∀b o,X.base.get? b=ak o->X.s₀.heap.get? b=ak o/\X.H₀ b=am
 bsz:X.base.objs.size<=X.s₀.heap.objs.size
 noex:∀b o,X.base.get? b=ak o->b∉X.ex
 exfs:∀b∈X.ex,b∉X.fs
 funs:X.s₀.heap.FunFrames X.base X.outer
 frf:∀b∈X.fs,X.H₀ b=am
structure Inv (X:Cx) (pins:List (Addr×cy)) (σ:List (Option V)) (H:Hp) (s:av):Prop where
 ok:X.Ok
 os:s.os=X.s₀.os
 bare:g5 s.gens
 base:Un X.fs X.ex X.H₀ H X.s₀.heap s.heap
 loc:∃m,s.heap.Ns X.env.locals m/\∀(i:Nat) (x:Str) (v:V),X.N[i]?=ak x->σ[i]?=ak (ak v)->Vis X.env.scope x->∃u,RelV v u/\A5O X.env s.heap m x u
 cell:∀x c,X.env.cells.lookup x=ak c->∃v,s.heap.IsCell c v
 free:H X.env.locals=am
 freeC:∀x c,X.env.cells.lookup x=ak c->H c=am
 pin:∀p∈X.pn++pins,s.heap.get? p.1=ak p.2/\H p.1=am/\p.1≠X.env.locals/\p.1∉X.fs/\∀v,p.2.data≠.cell v
 hok:HOk X.prog X.w H s.heap
 len:σ.length=X.N.length
section
variable {X:Cx}{pins:List (Addr×cy)}{σ:List (Option V)}{H H':Hp}{s:av}{h':cc}
theorem Cx.Ok.nofr (ok:X.Ok) (e:X.base.get? b=ak o):b∉X.fs:=λhb=>by have:=(ok.funs.mem hb).1;rw[e] at this;cases this
theorem Inv.bs (I:Inv X pins σ H s):∀b o,X.base.get? b=ak o->s.heap.get? b=ak o/\H b=none:=λb o e=>
 #[I.base.keep b o (I.ok.bs b o e).1 (I.ok.bs b o e).2 (I.ok.nofr e) (I.ok.noex b o e),I.base.free b o (I.ok.bs b o e).1 (I.ok.bs b o e).2 (I.ok.noex b o e)]
theorem Inv.bk (I:Inv X pins σ H s):∀b o,X.base.get? b=ak o->s.heap.get? b=ak o:=λb o e=>(I.bs b o e).1
theorem Inv.mod (I:Inv X pins σ H s):Mod X.K X.mg X.base:=I.ok.mod
theorem Inv.kIn (I:Inv X pins σ H s):X.K.In s.heap:=I.ok.mod.kin.keeps I.bk
theorem Inv.lt (I:Inv X pins σ H s):X.env.locals < s.heap.objs.size:=let #[_,hn,_]:=I.loc;hn.lt
theorem Inv.sz (I:Inv X pins σ H s):X.s₀.heap.objs.size<=s.heap.objs.size:=zN I.ok.above (xR I.lt)
theorem Inv.nofs (I:Inv X pins σ H s) {a:Addr}(h:s.heap.objs.size<=a):a∉X.fs:=λhb=>by obtain⟨_,o,ho,_⟩:=I.ok.funs.mem hb;exact absurd (zP (zM ho) (zN I.sz h)) (yF _)
theorem Inv.cne (I:Inv X pins σ H s):∀x c,X.env.cells.lookup x=ak c->c≠X.env.locals:=λx c e z=>by obtain⟨v,o,ho,hd⟩:=I.cell x c e;obtain⟨m,⟨i,O,n,t,D,_⟩,_⟩:=I.loc;rw[z,t] at ho;cases ho;rw[D] at hd;cases hd
theorem Inv.funs (I:Inv X pins σ H s):s.heap.FunFrames X.base X.outer:=by
 have all:∀(l:List ic),(∀b∈frs l,b∈X.fs)->X.s₀.heap.FunFrames X.base l->s.heap.FunFrames X.base l:=by
   intro l;induction l with
   | nil=>intro _ _;trivial
   | cons env r Q=> intro hs t;obtain⟨hk,⟨L,o,M,hn,ho,hd⟩,hr⟩:=t;have hL:L∈X.fs:=hs L (by unfold frs;rw[a4V,M];exact a0J);obtain⟨sl,e⟩:=I.base.slot L o ho (I.ok.frf L hL) hL λz=>I.ok.exfs L z hL;exact#[hk,#[L,_,M,hn,e,hd],Q (λb hb=>hs b (by unfold frs;rw[a4V,M];exact yV _ hb)) hr]
 exact all X.outer (λ_ hb=>hb) I.ok.funs
theorem Inv.stack (I:Inv X pins σ H s):s.heap.FunFrames X.base X.stack:=by
 rcases I.ok.stk with e | ⟨e,M⟩
 . rw[e];exact I.funs
 . rw[e];obtain⟨m,hn,_⟩:=I.loc;refine .cons (by rw[I.ok.kind];decide) M hn ?_ I.funs;exact Heap.get?_none_of_le (zN I.ok.bsz I.ok.above)
theorem Inv.stkSub (I:Inv X pins σ H s):∀b∈frs X.stack,b∈X.env.locals::X.fs:=λb hb=>by
 rcases I.ok.stk with e | ⟨e,M⟩
 . rw[e] at hb;exact yV _ hb
 . rw[e] at hb;unfold frs at hb;rw[a4V,M] at hb;exact hb
theorem Inv.stkFree (I:Inv X pins σ H s):∀b∈frs X.stack,H b=none:=λb hb=>by
 rcases yX.mp (I.stkSub b hb) with e | hb;. rw[e];exact I.free
 . obtain⟨_,o,ho,_⟩:=I.ok.funs.mem hb;exact I.base.free b o ho (I.ok.frf b hb) λz=>I.ok.exfs b z hb
theorem Inv.step {ch:List Addr}(I:Inv X pins σ H s) (L:∀b∈ch,(b∈X.ex\/X.s₀.heap.objs.size<=b)/\b≠X.env.locals/\(∀x c,X.env.cells.lookup x=ak c->c≠b)/\∀p∈X.pn++pins,p.1≠b) (keep:∀b o,b≠X.env.locals->b∉X.fs->b∉ch->s.heap.get? b=ak o->H b=am->h'.get? b=ak o) (slot:∀b o,b≠X.env.locals->b∈X.fs->b∉ch->s.heap.get? b=ak o->H b=am->∃sl,h'.get? b=ak { o with slots:=sl }) (free:∀b o,b∉ch->s.heap.get? b=ak o->H b=am->H' b=am) (there:∀b o,b∉ch->s.heap.get? b=ak o->∃t,h'.get? b=ak t) (tups:∀b xs,H b=ak (.tup xs)->H' b=ak (.tup xs)) (frzs:∀b o u,H b=ak (.frz o u)->H' b=ak (.frz o u)) (tbls:∀b ps,H b=ak (.tbl ps)->∃more,H' b=ak (.tbl (ps++more))) (ns:∀m,s.heap.Ns X.env.locals m->h'.Ns X.env.locals m) (hok:HOk X.prog X.w H' h') (hg:g5 g') :
   Inv X pins σ H' { s with heap:=h',gens:=g',drawn:=d',toks:=t' }:=by
 have f:∀b o,X.s₀.heap.get? b=ak o->b≠X.env.locals:=λb o e=>zC (zP (zM e) I.ok.above);have O:∀b o,X.s₀.heap.get? b=ak o->b∉X.ex->b∉ch:=λb o e hx hb=>by
   rcases (L b hb).1 with z | z;. exact hx z
   . exact absurd (zP (zM e) z) (yF _)
 have cellK:∀x c,X.env.cells.lookup x=ak c->∀v,s.heap.IsCell c v->h'.IsCell c v:=λx c e v #[o,ho,hd]=>by
   have M:c∉ch:=λz=>(L c z).2.2.1 x c e rfl;by_cases hc:c∈X.fs;. obtain⟨sl,q⟩:=slot c o (I.cne x c e) hc M ho (I.freeC x c e);exact#[_,q,hd]
   . exact#[o,keep c o (I.cne x c e) hc M ho (I.freeC x c e),hd]
 refine#[I.ok,I.os,hg,#[λb o e n hb hx=>?_,λb o e n hb hx=>?_,λb o e n hx=>?_,λb o e hx=>?_,λb xs e=>tups b xs (I.base.tups b xs e),λb o xs e=>frzs b o xs (I.base.frzs b o xs e),λb ps e=>?_],?_,λx c e=>?_,?_,λx c e=>?_,λp hp=>?_,hok,I.len];. exact keep b o (f b o e) hb (O b o e hx) (I.base.keep b o e n hb hx) (I.base.free b o e n hx)
 . obtain⟨sl,j⟩:=I.base.slot b o e n hb hx;obtain⟨Z,g⟩:=slot b _ (f b o e) hb (O b o e hx) j (I.base.free b o e n hx);exact#[Z,g]
 . obtain⟨t,j⟩:=I.base.there b o e hx;exact free b t (O b o e hx) j (I.base.free b o e n hx)
 . obtain⟨t,j⟩:=I.base.there b o e hx;exact there b t (O b o e hx) j
 . obtain⟨N,j⟩:=I.base.tbls b ps e;obtain⟨Q,g⟩:=tbls b _ j;exact#[N++Q,by rw[g,Array.append_assoc]]
 . obtain⟨m,hn,T⟩:=I.loc;refine#[m,ns m hn,λi x v j g y=>?_];obtain⟨u,r,l⟩:=T i x v j g y;refine#[u,r,?_];rcases l with l | ⟨k,c,e,z⟩
   . exact .inl l
   . exact .inr #[k,c,e,cellK x c e _ z]
 . obtain⟨v,z⟩:=I.cell x c e;exact#[v,cellK x c e v z]
 . obtain⟨m,⟨o,_,_,ho,_⟩,_⟩:=I.loc;exact free _ o (λz=>(L _ z).2.1 rfl) ho I.free
 . obtain⟨v,o,ho,hd⟩:=I.cell x c e;exact free c o (λz=>(L c z).2.2.1 x c e rfl) ho (I.freeC x c e)
 . obtain⟨e,n,ne,h,d⟩:=I.pin p hp;have M:p.1∉ch:=λz=>(L p.1 z).2.2.2 p hp rfl;exact#[keep p.1 p.2 ne h M e n,free p.1 p.2 M e n,ne,h,d]
theorem Inv.un (I:Inv X pins σ H s) (u:Un X.fs [] H H' s.heap h') (hok:HOk X.prog X.w H' h'):Inv X pins σ H' { s with heap:=h',toks:=t' }:=by obtain⟨m,⟨o,O,p,ho,r⟩,_⟩:=id I.loc;obtain⟨sl,hL⟩:=u.any ho I.free (by simp);exact I.step (g':=s.gens) (d':=s.drawn) (ch:=[]) (λ_ z=>nomatch z) (λb o _ hb _ e n=>u.keep b o e n hb (by simp)) (λb o _ hb _ e n=>u.slot b o e n hb (by simp)) (λb o _ e n=>u.free b o e n (by simp)) (λb o _ e=>u.there b o e (by simp)) u.tups u.frzs u.tbls (λc q=>by obtain⟨f,i,D,t,L⟩:=q;rw[ho] at t;cases t;exact#[_,i,D,hL,L]) hok I.bare
theorem Inv.call (I:Inv X pins σ H s) (u:Un (frs X.stack) ch H H' s.heap h') (hok:HOk X.prog X.w H' h') (hg:g5 g') (L:∀b∈ch,(b∈X.ex\/X.s₀.heap.objs.size<=b)/\b≠X.env.locals/\(∀x c,X.env.cells.lookup x=ak c->c≠b)/\∀p∈X.pn++pins,p.1≠b) :
   Inv X pins σ H' { s with heap:=h',gens:=g',drawn:=d',toks:=t' }:=by obtain⟨m,⟨o,O,g,ho,r⟩,_⟩:=id I.loc;obtain⟨sl,hL⟩:=u.any ho I.free λz=>(L _ z).2.1 rfl;exact I.step (ch:=ch) L (λb o hL hb hc e n=>u.keep b o e n (λz=>(yX.mp (I.stkSub b z)).elim hL hb) hc) (λb o _ _ hc e n=>u.any e n hc) (λb o hc e n=>u.free b o e n hc) (λb o hc e=>u.there b o e hc) u.tups u.frzs u.tbls (λh q=>by obtain⟨j,i,D,t,f⟩:=q;rw[ho] at t;cases t;exact#[_,i,D,hL,f]) hok hg
theorem Inv.turned (I:Inv X pins σ H s) (k:∀b o,b≠it->s.heap.get? b=ak o->h'.get? b=ak o) (hn:H it=am) (hL:it≠X.env.locals) (h1:it∈X.ex\/X.s₀.heap.objs.size<=it) (i:∀x c,X.env.cells.lookup x=ak c->c≠it) (G:∀p∈X.pn++pins,p.1≠it):Inv X pins σ H { s with heap:=h',toks:=t' }:=by
 have g:∀b u,H b=ak u->b≠it:=λb u e z=>by rw[z,hn] at e;cases e
 refine I.step (g':=s.gens) (d':=s.drawn) (ch:=[it]) (λb hb=>?_) (λb o _ _ hc e _=>k b o (λz=>hc (by simp[z])) e) (λb o _ _ hc e _=>#[o.slots,k b o (λz=>hc (by simp[z])) e]) (λ_ _ _ _ n=>n)
   (λb o hc e=>#[o,k b o (λz=>hc (by simp[z])) e]) (λ_ _ e=>e) (λ_ _ _ e=>e) (λb Z e=>#[#[],by rw[e];simp]) (λm f=>?_) (λb u e=>?_) I.bare
 . have e:b=it:=by simpa using hb
   subst e;exact#[h1,hL,i,G]
 . obtain⟨o,O,t,ho,r⟩:=f;exact#[o,O,t,k _ o (a4Q hL) ho,r]
 . refine(I.hok b u e).stay (λc v hc q=>k c v ?_ q) (λ_ q=>q) λ_ _ q=>q;rcases hc with z | z;. rw[z];exact g b u e
   . exact g c _ z
theorem Inv.tok (I:Inv X pins σ H s) (t:Nat):Inv X pins σ H { s with toks:=t }:=I.un (h':=s.heap) (t':=t) Un.refl I.hok
theorem Inv.kept (I:Inv X pins σ H s) (k:∀b u,s.heap.get? b=ak u->h'.get? b=ak u):Inv X pins σ H { s with heap:=h',toks:=t' }:=I.un (Un.kept k) (I.hok.kept k)
theorem Inv.laid {a:Addr}(I:Inv X pins σ H s) (k:∀b u,s.heap.get? b=ak u->h'.get? b=ak u) (hp:s.heap.objs.size<=a) (new:ObjOk X.prog X.w (upd H a o) h' a o) :
   Inv X pins σ (upd H a o) { s with heap:=h',toks:=t' }:=I.un (Un.laid k hp (I.hok.fresh hp)) (I.hok.laid k hp new)
theorem Inv.write (I:Inv X pins σ H s) (S:Mut (H x)) (he:e=x\/H e=ak (.own x)) (k:∀b u,b≠e->s.heap.get? b=ak u->h'.get? b=ak u) (t:∃u,h'.get? e=ak u) (new:ObjOk X.prog X.w (upd H x o) h' x o):Inv X pins σ (upd H x o) { s with heap:=h',toks:=t' }:=I.un (Un.write S he k t) (I.hok.write S he k t new)
theorem Inv.weak (I:Inv X pins σ H s) (r:c.length=σ.length) (w:∀(i:Nat) v,c[i]?=ak (ak v)->σ[i]?=ak (ak v)):Inv X pins c H s:=#[I.ok,I.os,I.bare,I.base,let #[m,hn,f]:=I.loc;#[m,hn,λi x v j g e=>f i x v j (w i v g) e],I.cell,I.free,I.freeC,I.pin,I.hok,r.trans I.len]
theorem Inv.pins_of (I:Inv X pins σ H s) (h:∀p∈e,s.heap.get? p.1=ak p.2/\H p.1=am/\p.1≠X.env.locals/\p.1∉X.fs/\∀v,p.2.data≠.cell v):Inv X e σ H s:=#[I.ok,I.os,I.bare,I.base,I.loc,I.cell,I.free,I.freeC,λp hp=>(yW.mp hp).elim (λz=>I.pin p (zA _ z)) (h p),I.hok,I.len]
theorem YB {N:List Str}(hN:N.Nodup) {i j:Nat}{x:Str}(a:N[i]?=ak x) (b:N[j]?=ak x):i=j:=by obtain⟨h1,e⟩:=yT.mp a;obtain⟨n,g⟩:=yT.mp b;exact(List.getElem_inj hN).mp (e.trans g.symm)
theorem j9 (I:Inv X pins σ H s) (hN:X.N.Nodup) (hi:X.N[i]?=ak x) (hx:Loc X.env.scope x) (r:RelV v u) (h:∀s',Inv X pins (σ.set i (ak v)) H s'->(∃a,Heap.SameBut a s.heap s'.heap/\(a=X.env.locals\/X.env.cells.lookup x=ak a))->Q () s') (hf:X.fn x=au\/X.env.scope.names.lookup x=ak .local:=by first | exact .inl rfl | exact .inr rfl | assumption):wpAny M A (storeName X.env x u) Q E s:=by
 obtain⟨m,hn,hl⟩:=id I.loc;have xh:(X.env.scope.kind==.class||(X.env.scope.kind==.module&&X.env.locals != X.env.globals))=false:=by rw[I.ok.kind];rfl
 have Y:i < σ.length:=by rw[I.len];exact(yT.mp hi).1
 have cne:=I.cne;have tracked:∀{a:Addr}{h':cc},(∃o,s.heap.get? a=ak o/\H a=am)->Heap.SameBut a s.heap h'->HOk X.prog X.w H h':=λ{a h'} ha hs b ob e=>by
   obtain⟨_,_,wo⟩:=ha;refine(I.hok b ob e).stay (λc O hc q=>(hs.2 c ?_).trans q) (λ_ q=>q) λ_ _ q=>q;rintro rfl;rcases hc with rfl | hc;. rw[wo] at e;cases e
   . rw[wo] at hc;cases hc
 rcases hx with hk | hk
 . refine wpAny_storeName_local hk hn (λh' cx hs=>?_) xh;obtain⟨oL,_,_,r_,_⟩:=id hn;refine h _ #[I.ok,I.os,I.bare,#[λb o e n hb hx=>?_,λb o e n hb hx=>?_,I.base.free,λb o e hx=>?_,I.base.tups,I.base.frzs,I.base.tbls],#[_,cx,λj y J t g S=>?_],λy c e=>?_,I.free,I.freeC,λp hp=>?_,tracked #[oL,r_,I.free] hs,by simpa using I.len] #[_,hs,.inl rfl];. exact(hs.2 b (zC (zP (zM e) I.ok.above))).trans (I.base.keep b o e n hb hx)
   . obtain⟨sl,t⟩:=I.base.slot b o e n hb hx;exact#[sl,(hs.2 b (zC (zP (zM e) I.ok.above))).trans t]
   . obtain⟨B,t⟩:=I.base.there b o e hx;exact#[B,(hs.2 b (zC (zP (zM e) I.ok.above))).trans t]
   . by_cases f:j=i;. subst f;rw[hi] at t;cases t;rw[List.getElem?_set_self Y] at g;cases g;exact#[u,r,.inl #[hk,by simp]]
     . rw[b5K (a4Q f)] at g;obtain⟨G,L,q⟩:=hl j y J t g S;refine#[G,L,?_];rcases q with ⟨k,e⟩ | ⟨k,c,e,z⟩
       . refine .inl #[k,?_];have:y≠x:=λe=>f (YB hN t (e▸hi));simp[this,e]
       . exact .inr #[k,c,e,z.sameBut hs (cne y c e)]
   . obtain⟨O,z⟩:=I.cell y c e;exact#[O,z.sameBut hs (cne y c e)]
   . obtain⟨e,n,ne,D,d⟩:=I.pin p hp;exact#[(hs.2 p.1 ne).trans e,n,ne,D,d]
 . have U:X.fn x=true:=by
     rcases hf with z | z;. exact z
     . rw[z] at hk;cases hk
   obtain⟨c,hc⟩:=I.ok.has x (.inl hk);obtain⟨O,z⟩:=I.cell x c hc;refine wpAny_storeName_cell I.ok.kind hk hc z (λh' ri hs=>?_);obtain⟨oc,Z,Cz⟩:=id z;refine h { s with heap:=h' } #[I.ok,I.os,I.bare,#[λb o e n hb hx=>?_,λb o e n hb hx=>?_,I.base.free,λb o e hx=>?_,I.base.tups,I.base.frzs,I.base.tbls],#[m,hn.sameBut hs (a4Q (cne x c hc)),λj y J t g S=>?_],λy T e=>?_,I.free,I.freeC,λp hp=>?_,tracked #[oc,Z,I.freeC x c hc] hs,by simpa using I.len] #[c,hs,.inr hc];. exact(hs.2 b (zC (zP (zM e) (I.ok.cab x c U hc)))).trans (I.base.keep b o e n hb hx)
   . obtain⟨sl,t⟩:=I.base.slot b o e n hb hx;exact#[sl,(hs.2 b (zC (zP (zM e) (I.ok.cab x c U hc)))).trans t]
   . obtain⟨B,t⟩:=I.base.there b o e hx;exact#[B,(hs.2 b (zC (zP (zM e) (I.ok.cab x c U hc)))).trans t]
   . by_cases f:j=i;. subst f;rw[hi] at t;cases t;rw[List.getElem?_set_self Y] at g;cases g;exact#[u,r,.inr #[.inl hk,c,hc,ri]]
     . rw[b5K (a4Q f)] at g;obtain⟨G,L,q⟩:=hl j y J t g S;refine#[G,L,?_];rcases q with q | ⟨k,T,e,z'⟩
       . exact .inl q
       . refine .inr #[k,T,e,z'.sameBut hs ?_];rintro rfl;exact f (YB hN t (I.ok.inj _ _ _ e hc▸hi))
   . by_cases hcc:T=c;. subst hcc;exact#[_,ri]
     . obtain⟨w2,z2⟩:=I.cell y T e;exact#[w2,z2.sameBut hs hcc]
   . obtain⟨e,n,ne,D,d⟩:=I.pin p hp;refine#[(hs.2 p.1 ?_).trans e,n,ne,D,d];intro q;rw[q,Z] at e;have q':oc=p.2:=Option.some.inj e;exact d O (by rw[<-q'];exact Cz)
theorem JP (I:Inv X pins σ H s) (hN:X.N.Nodup) (hi:X.N[i]?=ak x) (hx:Loc X.env.scope x) (r:RelV v u) (h:∀s',Inv X pins (σ.set i (ak v)) H s'->Q () s') (t:X.fn x=au\/X.env.scope.names.lookup x=ak .local:=by first | exact .inl rfl | exact .inr rfl | assumption):wpAny M A (storeName X.env x u) Q E s:=
 j9 I hN hi hx r (λs' e _=>h s' e) t
theorem Inv.call' (I:Inv X pins σ H s) (ho:s'.os=s.os) (u:Un (frs X.stack) ch H H' s.heap s'.heap) (hok:HOk X.prog X.w H' s'.heap) (hg:g5 s'.gens) (L:∀b∈ch,(b∈X.ex\/X.s₀.heap.objs.size<=b)/\b≠X.env.locals/\(∀x c,X.env.cells.lookup x=ak c->c≠b)/\∀p∈X.pn++pins,p.1≠b):Inv X pins σ H' s':=by obtain⟨h',g',d',t',n⟩:=s';have e:n=s.os:=ho;subst e;exact I.call (g':=g') (t':=t') (d':=d') u hok hg L
end
abbrev XK:=ap->Option Addr->Hp->Prop
abbrev St:=List (Option V)
abbrev VK:=V->Hp->Prop
abbrev TE:=St->Hp->VK->Prop
abbrev TT:=St->Hp->(Bool->Hp->Prop)->Prop
abbrev TA:=St->Hp->(List V->Hp->Prop)->Prop
structure Ends where
 nx:St->Hp->Prop
 rt:VK
 bk:St->Hp->Prop:=λ_ _=>False
 ct:St->Hp->Prop:=λ_ _=>False
abbrev TS:=Ends->St->Hp->Prop
def EP (X:Cx) (pins:List (Addr×cy)) (e:St) (Q:VK) (u:ap) (s':av):Prop:=∃v H',Inv X pins e H' s'/\RelV v u/\Q v H'
def TP (X:Cx) (pins:List (Addr×cy)) (e:St) (Q:Bool->Hp->Prop) (b:Bool) (s':av):Prop:=∃H',Inv X pins e H' s'/\Q b H'
def AP (X:Cx) (pins:List (Addr×cy)) (t:St) (Q:List V->Hp->Prop) (v:List ap) (s':av):Prop:=∃e H',Inv X pins t H' s'/\Vals e v/\Q e H'
def SP (X:Cx) (pins:List (Addr×cy)) (D:Ends) (f:Flow) (s':av):Prop:=
 match f with
 | .next=>∃c H',Inv X pins c H' s'/\D.nx c H'
 | .brk=>∃c H',Inv X pins c H' s'/\D.bk c H'
 | .cont=>∃c H',Inv X pins c H' s'/\D.ct c H'
 | .ret u=>∃v c H',Inv X pins c H' s'/\RelV v u/\D.rt v H'
def PE (X:Cx) (e:bp) (t:TE):Prop:=∀(pins:List (Addr×cy)) (s:av) (n:St) (H:Hp) (Q:VK),Inv X pins n H s->t n H Q->wpAny (model X.prog X.w) X.A (eval e X.env) (EP X pins n Q) X.xe s
def PT (X:Cx) (e:bp) (t:TT):Prop:=∀(pins:List (Addr×cy)) (s:av) (n:St) (H:Hp) (Q:Bool->Hp->Prop),Inv X pins n H s->t n H Q->wpAny (model X.prog X.w) X.A (isTrue e X.env (eval e X.env)) (TP X pins n Q) X.xe s
def PW (X:Cx) (e:bp) (t:TT):Prop:=∀(whole:Sem ap) (pins:List (Addr×cy)) (s:av) (n:St) (H:Hp) (Q:Bool->Hp->Prop),Inv X pins n H s->t n H Q->wpAny (model X.prog X.w) X.A (isTrue e X.env whole) (TP X pins n Q) X.xe s
theorem PW.pt {X:Cx}{e:bp}{t:TT}(h:PW X e t):PT X e t:=h _
def PA (X:Cx) (es:List bp) (t:TA):Prop:=∀(pos:en) (pins:List (Addr×cy)) (s:av) (e:St) (H:Hp) (Q:List V->Hp->Prop),Inv X pins e H s->t e H Q->wpAny (model X.prog X.w) X.A (spliced (backTo pos (starEach es X.env))) (AP X pins e Q) X.xe s
def PS (X:Cx) (st:eg) (t:TS):Prop:=∀(pins:List (Addr×cy)) (s:av) (e:St) (H:Hp) (D:Ends),Inv X pins e H s->t D e H->wpAny (model X.prog X.w) X.A (exec st X.env) (SP X pins D) X.xe s
def PSs (X:Cx) (st:List eg) (t:TS):Prop:=∀(pins:List (Addr×cy)) (s:av) (e:St) (H:Hp) (D:Ends),Inv X pins e H s->t D e H->wpAny (model X.prog X.w) X.A (execs st X.env) (SP X pins D) X.xe s
theorem thn {t:Sem D}(h:wpAny M A t Q E s) (e:∀a s,Q a s->g a s):wpAny M A t g E s:=bf h e λ_ _ x=>x
section
variable {X:Cx}
def YC (i:Nat):TE:=λe H Q=>∃v,e[i]?=ak (ak v)/\Q v H
def tC (v:V):TE:=λ_ H Q=>Q v H
theorem mP {i:Nat}{x:Str}{pos:en}(hN:X.N[i]?=ak x) (n:Vis X.env.scope x) (hd:(x==("__debug__":Str))=false:=by decide) (U:(x==("__classdict__":Str))=false:=by decide):PE X (.Name x pos) (YC i):=by
 intro pins s b H Q I h;obtain⟨v,e,h⟩:=h;obtain⟨m,hn,t⟩:=I.loc;obtain⟨u,r,l⟩:=t i x v hN e n;have fin:EP X pins b Q u s:=#[v,H,I,r,h]
 rcases l with ⟨hk,q⟩ | ⟨hk,c,hc,p⟩
 . exact wpAny_Name (wpAny_loadName_local I.ok.kind hk hn q fin) hd
 . rcases hk with hk | hk;. exact wpAny_Name (wpAny_loadName_cell I.ok.kind hk hc p fin) hd
   . exact wpAny_Name (wpAny_loadName_free I.ok.kind hk hc p fin U) hd
theorem A1e {i j pos}:PE X (.Constant (.int i) j pos) (tC (.int i)):=λ_ _ _ H _ I h=>wpAny_Constant_int #[.int i,H,I.tok _,#[_,rfl],h]
theorem A4D {b j pos}:PE X (.Constant (.bool b) j pos) (tC (.bl b)):=λ_ _ _ H _ I h=>Constant_bool #[.bl b,H,I,rfl,h]
theorem A1f {j pos}:PE X (.Constant .none j pos) (tC .non):=λ_ _ _ H _ I h=>Constant_none #[.non,H,I,rfl,h]
theorem A1g {x j pos}:PE X (.Constant (.str x) j pos) (tC (.str x)):=λ_ _ _ H _ I h=>Calls.Constant_str #[.str x,H,I.tok _,#[_,rfl],h]
def Gl (X:Cx) (x:Str):Prop:=X.env.kindOf x=ak .globalImplicit
theorem G7 {E:ap->av->Prop}{pins:List (Addr×cy)}{s:av}{e:St}{H:Hp}{x:Str}{u:ap}{pos:en}{Q:ap->av->Prop}(I:Inv X pins e H s) (hg:Gl X x) (q:X.mg x=ak u) (h:Q u s) (hd:(x==("__debug__":Str))=false:=by decide):wpAny (model X.prog X.w) X.A (eval (.Name x pos) X.env) Q E s:=
 Calls.Name_function_global I.ok.kind hg (Calls.loadGlobal_global (by rw[I.ok.glob];exact I.mod.glob.keeps I.bk) q h) hd
theorem OD {E:ap->av->Prop}{pins:List (Addr×cy)}{s:av}{e:St}{H:Hp}{x:Str}{u:ap}{pos:en}{Q:ap->av->Prop}(I:Inv X pins e H s) (hg:Gl X x) (q:X.mg x=am) (N:gc x=ak u) (h:Q u s) (hn:x ≠ "__name__" := by decide) (hd:(x==("__debug__":Str))=false:=by decide):wpAny (model X.prog X.w) X.A (eval (.Name x pos) X.env) Q E s:=by obtain⟨t,h1,n⟩:=I.mod.blt;exact Calls.Name_function_global I.ok.kind hg (Calls.loadGlobal_builtin (by rw[I.ok.glob];exact I.mod.glob.keeps I.bk) q (by rw[I.ok.blt];exact h1.keeps I.bk) ((n x hn).trans N) h) hd
theorem VU (hg:Gl X x) (q:X.mg x=ak u) (r:RelV v u) (hd:(x==("__debug__":Str))=false:=by decide):PE X (.Name x pos) (tC v):=
 λ_ _ _ H _ I h=>G7 I hg q #[v,H,I,r,h] hd
theorem IB {x:Str}{v:V}{u:ap}{pos:en}(hg:Gl X x) (q:X.mg x=am) (N:gc x=ak u) (r:RelV v u) (hn:x ≠ "__name__" := by decide) (hd:(x==("__debug__":Str))=false:=by decide):PE X (.Name x pos) (tC v):=
 λ_ _ _ H _ I h=>OD I hg q N #[v,H,I,r,h] hn hd
variable {a b:bp}{ta tb:TE}{pos:en}
def PC (X:Cx) (j:CmpOp) (a b:bp) (t:TE):Prop:=∀(pins:List (Addr×cy)) (s:av) (e:St) (H:Hp) (Q:VK),Inv X pins e H s->t e H Q ->
   wpAny (model X.prog X.w) X.A (eval a X.env) (λv y=>wpAny (model X.prog X.w) X.A (eval b X.env) (λu G=>wpAny (model X.prog X.w) X.A (bq j v u) (EP X pins e Q) X.xe G) X.xe y) X.xe s
def tB (t:TE):TT:=λn H Q=>t n H λx e=>∃c,x = .bl c/\Q c e
theorem mQ {j:CmpOp}{t:TE}(h:PC X j a b t) (h1:fm j b=false:=by first | exact nobehind _ (by decide) (by decide) | rfl):PE X (.Compare a [j] [b] pos) t:=λpins s n H Q I e=>wpAny_Compare1 (h pins s n H Q I e) h1
theorem OE {j:CmpOp}{t:TE}(h:PC X j a b t) (h1:fm j b=false:=by first | exact nobehind _ `kh `kh | rfl):PT X (.Compare a [j] [b] pos) (tB t):=by intro pins s p H Q I i;refine wpAny_isTrue_Compare1 (thn (h pins s p H _ I i) λv f h1=>thn h1 λu g n=>thn n λc k #[x,e,J,m,r]=>?_) h1;obtain⟨d,rfl,q⟩:=r;cases m;exact cr #[e,J,q]
theorem A1h {e:bp}{t:TE}(h:PE X e t) (he:∀whole,isTrue e X.env whole=(do let v <- whole;standAt e.pos;holding [v] (truthy v)):=by intro _;rfl):PT X e (tB t):=by intro pins s p H Q I i;refine isTrue_plain (thn (h pins s p H _ I i) λv c #[x,n,J,m,r]=>?_) (he _);obtain⟨d,rfl,q⟩:=r;cases m;exact cr #[n,J,q]
variable {tA vm:TT}{rest:List bp}
def A4E (t u:TT):TT:=λn H Q=>t n H λc e=>if c=au then u n e Q else Q aB e
def tOr (t u:TT):TT:=λn H Q=>t n H λc e=>if c=au then Q au e else u n e Q
def A4F (t:TT):TT:=λn H Q=>t n H λc e=>Q (!c) e
theorem pw_and1 (t:PT X a tA):PW X (.BoolOp .And [a] pos) tA:=by
 intro i pins s n H Q I h;refine isTrue_and (thn (t pins s n H Q I h) λc m e=>?_);cases c with
 | true=>exact isTrue_and_nil e
 | false=>exact e
theorem pw_or1 (t:PT X a tA):PW X (.BoolOp .Or [a] pos) tA:=by
 intro i pins s n H Q I h;refine isTrue_or (thn (t pins s n H Q I h) λc m e=>?_);cases c with
 | false=>exact isTrue_or_nil e
 | true=>exact e
theorem pw_and (i:PT X a tA) (hb:PW X (.BoolOp .And (b::rest) pos) vm):PW X (.BoolOp .And (a::b::rest) pos) (A4E tA vm):=by
 intro r pins s n H Q I h;refine isTrue_and (thn (i pins s n H _ I h) λc m #[e,J,t]=>?_);cases c with
 | true=>exact hb r pins m n e Q J t
 | false=>exact#[e,J,t]
theorem pw_or (i:PT X a tA) (hb:PW X (.BoolOp .Or (b::rest) pos) vm):PW X (.BoolOp .Or (a::b::rest) pos) (tOr tA vm):=by
 intro r pins s n H Q I h;refine isTrue_or (thn (i pins s n H _ I h) λc m #[e,J,t]=>?_);cases c with
 | true=>exact#[e,J,t]
 | false=>exact hb r pins m n e Q J t
theorem A1i (t:PT X a tA):PT X (.UnaryOp .Not a pos) (A4F tA):=by intro pins s n H Q I h;exact isTrue_not (t pins s n H (λc e=>Q (!c) e) I h)
def A07 (ta tb:TE):TE:=λt H Q=>ta t H λx e=>∃c,x = .bl c/\if c=au then tb t e Q else Q (.bl aB) e
def A4G (ta tb:TE):TE:=λt H Q=>ta t H λx e=>∃c,x = .bl c/\if c=au then Q (.bl au) e else tb t e Q
def A08 (ta:TE):TE:=λt H Q=>ta t H λx e=>∃c,x = .bl c/\Q (.bl (!c)) e
theorem A1j {j} {t:TE}(h:PE X a t):PE X (.BoolOp j [a] pos) t:=λpins s n H Q I e=>BoolOp_one (h pins s n H Q I e)
theorem A1k (i:PE X a ta) (hb:PE X (.BoolOp .And (b::rest) pos) tb):PE X (.BoolOp .And (a::b::rest) pos) (A07 ta tb):=by
 intro pins s n H Q I h;refine BoolOp_and (thn (i pins s n H _ I h) λv m #[x,t,J,r,e]=>?_);obtain⟨c,rfl,e⟩:=e;cases r;refine cr ?_;cases c with
 | true=>exact hb pins m n t Q J e
 | false=>exact#[.bl aB,t,J,rfl,e]
theorem A4H (i:PE X a ta) (hb:PE X (.BoolOp .Or (b::rest) pos) tb):PE X (.BoolOp .Or (a::b::rest) pos) (A4G ta tb):=by
 intro pins s n H Q I h;refine BoolOp_or (thn (i pins s n H _ I h) λv m #[x,t,J,r,e]=>?_);obtain⟨c,rfl,e⟩:=e;cases r;refine cr ?_;cases c with
 | false=>exact hb pins m n t Q J e
 | true=>exact#[.bl au,t,J,rfl,e]
theorem A1l (n:PE X a ta):PE X (.UnaryOp .Not a pos) (A08 ta):=by intro pins s r H Q I h;refine UnaryOp_ (thn (n pins s r H _ I h) λv m #[x,t,J,i,e]=>?_);obtain⟨c,rfl,e⟩:=e;cases i;exact not_of (cr #[.bl (!c),t,J,rfl,e])
def tIf (t:TT) (ta tb:TE):TE:=λe H Q=>t e H λc n=>if c=au then ta e n Q else tb e n Q
theorem mR {c:bp}(hc:PT X c tA) (i:PE X a ta) (hb:PE X b tb):PE X (.IfExp c a b pos) (tIf tA ta tb):=by
 intro pins s e H Q I h;refine wpAny_IfExp (thn (hc pins s e H _ I h) λd m #[t,J,n]=>?_);cases d with
 | true=>exact i pins m e t Q J n
 | false=>exact hb pins m e t Q J n
end
def SqL (K:Frg) (H:Hp) (a:Addr) (xs:List V):Prop:=
 Rd H a (.lst xs) \/∃(o:cy) (e:Array ap) (n:Nat),K.lookup a=ak o/\o.cls = .type "list" /\ o.dict=am/\o.data = .seq e n/\e.size<=a0/\Vals xs e.toList
def SqT (K:Frg) (H:Hp) (a:Addr) (xs:List V):Prop:=
 Rd H a (.tup xs) \/∃(o:cy) (e:Array ap) (n:Nat),K.lookup a=ak o/\o.cls = .type "tuple" /\ o.data = .seq e n/\e.size<=a0/\Vals xs e.toList
def A5P:ap->Option V
 | .none=>ak .non
 | .bool b=>ak (.bl b)
 | .int i _=>ak (.int i)
 | .str x _=>ak (.str x)
 | .bytes b _=>ak (.byt b)
 | .float b _=>ak (.flt b)
 | .ref a=>ak (.ref a)
 | .type n=>ak (.ty n)
 | _=>am
theorem RelV.abs (r:RelV x u):A5P u=ak x:=by
 cases x with
 | non=>cases r;rfl
 | bl _=>cases r;rfl
 | int _=>obtain⟨t,rfl⟩:=r;rfl
 | str _=>obtain⟨t,rfl⟩:=r;rfl
 | byt _=>obtain⟨t,rfl⟩:=r;rfl
 | flt _=>obtain⟨t,rfl⟩:=r;rfl
 | ref _=>cases r;rfl
 | ty _=>cases r;rfl
theorem RelV.inj (r:RelV x u) (q:RelV y u):x=y:=Option.some.inj (r.abs.symm.trans q.abs)
theorem Vals.inj:∀{xs ys:List V}{v:List ap},Vals xs v->Vals ys v->xs=ys
 | _,_,_,.nil,.nil=>rfl
 | _,_,_,.cons r t,.cons L X=>by rw[r.inj L,Vals.inj t X]
section
variable {X:Cx}{pins:List (Addr×cy)}{σ:St}{H:Hp}{s:av}{a:Addr}{xs ys:List V}
theorem SqL.of {K:Frg}(h:H a=ak (.lst xs)):SqL K H a xs:=.inl (.inl h)
theorem Inv.list (I:Inv X pins σ H s) (h:SqL X.K H a xs):∃t:List ap,Vals xs t/\PlainL s.heap a t.toArray/\xs.length<=sizeLine:=by
 rcases h with h | ⟨o,t,n,hk,hc,hd,hs,u,r⟩
 . obtain⟨z,t,n,r,e⟩:=h.ok I.hok;exact#[t,r,#[_,n,e,rfl,rfl,rfl],z]
 . refine#[t.toList,r,#[o,n,I.kIn a o hk,hc,hd,by simpa using hs],?_];have e:=r.length;simp only[a6Q] at e;lia
theorem Inv.tuple (I:Inv X pins σ H s) (h:SqT X.K H a xs):∃t:List ap,Vals xs t/\IsTup s.heap a t.toArray/\xs.length<=sizeLine:=by
 rcases h with h | ⟨o,t,n,hk,hc,hs,u,r⟩
 . obtain⟨z,t,r,p⟩:=h.ok I.hok;exact#[t,r,p,z]
 . refine#[t.toList,r,#[o,I.kIn a o hk,hc,n,by simpa using hs],?_];have e:=r.length;simp only[a6Q] at e;lia
theorem Inv.list_inj (I:Inv X pins σ H s) (h:SqL X.K H a xs) (h':SqL X.K H a ys):xs=ys:=by
 obtain⟨t,r,⟨o,n,e,_,_,d⟩,_⟩:=I.list h;obtain⟨its',L,⟨m,i,e',_,_,x⟩,_⟩:=I.list h';rw[e] at e';cases e';rw[d] at x;injection x with g _;have:t=its':=by simpa using congrArg Array.toList g
 subst this;exact r.inj L
theorem Inv.tuple_inj (I:Inv X pins σ H s) (h:SqT X.K H a xs) (h':SqT X.K H a ys):xs=ys:=by
 obtain⟨t,r,⟨o,e,_,n,d⟩,_⟩:=I.tuple h;obtain⟨its',L,⟨m,e',_,i,x⟩,_⟩:=I.tuple h';rw[e] at e';cases e';rw[d] at x;injection x with g _;have:t=its':=by simpa using congrArg Array.toList g
 subst this;exact r.inj L
end
abbrev Cx.wish (X:Cx) (E:ap->av->Prop):Cx:={ X with xe:=E }
abbrev Cx.nox (X:Cx):Cx:=X.wish λ_ _=>False
theorem Cx.Ok.wish {X:Cx}(ok:X.Ok) (E:ap->av->Prop):(X.wish E).Ok:=#[ok.mod,ok.kind,ok.glob,ok.blt,ok.above,ok.inj,ok.has,ok.cab,ok.hd,ok.frames,ok.stk,ok.exf,ok.bs,ok.bsz,ok.noex,ok.exfs,ok.funs,ok.frf]
theorem Cx.Ok.unwish {X:Cx}(ok:(X.wish E).Ok):X.Ok:=#[ok.mod,ok.kind,ok.glob,ok.blt,ok.above,ok.inj,ok.has,ok.cab,ok.hd,ok.frames,ok.stk,ok.exf,ok.bs,ok.bsz,ok.noex,ok.exfs,ok.funs,ok.frf]
section
variable {X:Cx}{pins:List (Addr×cy)}{σ:St}{H:Hp}{s:av}{E:ap->av->Prop}
theorem Inv.wish (I:Inv X pins σ H s) (E:ap->av->Prop):Inv (X.wish E) pins σ H s:=#[I.ok.wish E,I.os,I.bare,I.base,I.loc,I.cell,I.free,I.freeC,I.pin,I.hok,I.len]
theorem Inv.unwish (I:Inv (X.wish E) pins σ H s):Inv X pins σ H s:=#[I.ok.unwish,I.os,I.bare,I.base,I.loc,I.cell,I.free,I.freeC,I.pin,I.hok,I.len]
theorem SP.unwish (h:SP (X.wish E) pins D f s'):SP X pins D f s':=by
 cases f with
 | next=>obtain⟨c,H',I,q⟩:=h;exact#[c,H',I.unwish,q]
 | brk=>obtain⟨c,H',I,q⟩:=h;exact#[c,H',I.unwish,q]
 | cont=>obtain⟨c,H',I,q⟩:=h;exact#[c,H',I.unwish,q]
 | ret u=>obtain⟨v,c,H',I,r,q⟩:=h;exact#[v,c,H',I.unwish,r,q]
theorem PSs.nox {st:List eg}(h:PSs X.nox st t):PSs X st t:=λpins s σ H D I e=>
 bf (h pins s σ H D (I.wish _) e) (λ_ _ q=>q.unwish) λ_ _ z=>a6W z
end
section
variable {X:Cx}{st:eg}{rest:List eg}{t u:TS}{e:bp}{te:TE}{pos:en}
def A09:TS:=λD n H=>D.nx n H
def mS (t u:TS):TS:=λD n H=>t { D with nx:=u D } n H
theorem uP:PSs X [] A09:=λ_ _ n H _ I h=>et #[n,H,I,h]
theorem QZ (h1:PS X st t) (n:PSs X rest u):PSs X (st::rest) (mS t u):=by
 intro pins s i H D I h;refine wpAny_execs_cons (thn (h1 pins s i H { D with nx:=u D } I h) λf m q=>?_);cases f with
 | next=> obtain⟨c,H',Q,q⟩:=q;exact n pins m c H' D Q q
 | ret v=>exact q
 | brk=>exact q
 | cont=>exact q
theorem N3 (h1:PS X st t):PSs X [st] t:=by
 intro pins s n H D I h;refine wpAny_execs_cons (thn (h1 pins s n H D I h) λf m q=>?_);cases f with
 | next=>exact et q
 | ret v=>exact q
 | brk=>exact q
 | cont=>exact q
theorem Inv.quiet {n:St}(I:Inv X pins n H s):interactive X.env=false:=by simp[interactive,I.ok.kind]
def mT (te:TE):TS:=λD n H=>te n H λ_ i=>D.nx n i
theorem uQ (he:PE X e te) (hs:ge e am pos.line X.env=pure false:=by rfl):PS X (.Expr e pos) (mT te):=by intro pins s n H D I h;exact wpAny_Expr_any (thn (he pins s n H _ I h) λv p #[x,i,J,m,r]=>#[n,i,J,r]) I.quiet hs
def A1m (te:TE):TS:=λD n H=>te n H D.rt
theorem A1n (he:PE X e te):PS X (.Return (ak e) pos) (A1m te):=by intro pins s n H D I h;exact wpAny_Return_some (thn (he pins s n H _ I h) λv p #[x,i,J,m,r]=>#[x,n,i,J,m,r])
def A1o (c:TT) (t u:TS):TS:=λD n H=>c n H λb i=>if b=au then t D n i else u D n i
theorem A4I {c:bp}{a b:List eg}{p:TT}(hc:PT X c p) (f:PSs X a t) (hb:PSs X b u):PS X (.If c a b pos) (A1o p t u):=by
 intro pins s n H D I h;refine wpAny_If (thn (hc pins s n H _ I h) λd m #[i,J,r]=>?_);cases d with
 | true=>exact f pins m n i D J r
 | false=>exact hb pins m n i D J r
end
abbrev TG:=V->St->Hp->(St->Hp->Prop)->Prop
abbrev TGs:=List V->St->Hp->(St->Hp->Prop)->Prop
def PG (X:Cx) (target:bp) (t:TG):Prop:=∀(pins:List (Addr×cy)) (s:av) (e:St) (H:Hp) (v:V) (u:ap) (Q:St->Hp->Prop),Inv X pins e H s->RelV v u->t v e H Q ->
   wpAny (model X.prog X.w) X.A (iD target X.env u) (λ_ s'=>∃c H',Inv X pins c H' s'/\Q c H') X.xe s
def PGs (X:Cx) (ts:List bp) (t:TGs):Prop:=∀(pins:List (Addr×cy)) (s:av) (n:St) (H:Hp) (e:List V) (v:List ap) (Q:St->Hp->Prop),Inv X pins n H s->Vals e v->t e n H Q ->
   wpAny (model X.prog X.w) X.A (assignInOrder ((da ts X.env).map (·.2)) v) (λ_ s'=>∃c H',Inv X pins c H' s'/\Q c H') X.xe s
abbrev TIp:=V->V->Hp->VK->Prop
def PIp (X:Cx) (j:Operator) (t:TIp):Prop:=∀(pins:List (Addr×cy)) (s:av) (e:St) (H:Hp) (x y:V) (v u:ap) (Q:VK),Inv X pins e H s->RelV x v->RelV y u->t x y H Q ->
   wpAny (model X.prog X.w) X.A (inplaceOp j v u) (EP X pins e Q) X.xe s
section
variable {X:Cx}{pos:en}
def R5 (i:Nat):TG:=λv e H Q=>Q (e.set i (ak v)) H
theorem VW {i:Nat}{x:Str}(hN:X.N.Nodup) (hi:X.N[i]?=ak x) (hx:Loc X.env.scope x) (M:X.fn x=au\/X.env.scope.names.lookup x=ak .local:=by first | exact .inl rfl | exact .inr rfl | assumption):PG X (.Name x pos) (R5 i):=by intro pins s t H v u Q I r h;exact wpAny_assign_Name (JP I hN hi hx r (λs' e=>#[_,H,e,h]) M)
def A1p:TGs:=λe t H Q=>e=[]/\Q t H
def mU (t:TG) (u:TGs):TGs:=λe n H Q=>∃v r,e=v::r/\t v n H λc H'=>u r c H' Q
theorem uR:PGs X [] A1p:=by intro pins s t H n v Q I r h;obtain⟨e,h⟩:=h;subst e;cases r;exact assignInOrder_nil #[t,H,I,h]
theorem mV {e:bp}{es:List bp}{t:TG}{u:TGs}(h1:PG X e t) (m:PGs X es u) (hs:(da (e::es) X.env).map (·.2)=iD e X.env::(da es X.env).map (·.2):=by rfl):PGs X (e::es) (mU t u):=by
 intro pins s c H k g Q I r h;obtain⟨v,B,j,h⟩:=h;subst j;cases r with
 | cons r f=> rw[hs];refine assignInOrder_cons (thn (h1 pins s c H _ _ _ I r h) λ_ b #[n,i,J,p]=>?_);exact m pins b n i _ _ Q J f p
def uS (K:Frg) (n:Nat) (t:TGs):TG:=λv i H Q=>∃a e,v = .ref a/\SqT K H a e/\e.length=n/\t e i H Q
theorem mW {es:List bp}{k:Nat}{t:TGs}{n:Nat}(hc:X.calm=au) (h:PGs X es t) (hn:(da es X.env).length=n:=by rfl) (p:(da es X.env).findIdx? (·.1)=none:=by rfl):PG X (.Tuple es k pos) (uS X.K n t):=by intro pins s m H v u Q I r i;obtain⟨a,q,j,hq,f,i⟩:=i;subst j;cases r;obtain⟨x,S,g,y⟩:=I.tuple hq;refine assign_Tuple_tuple (I.ok.hd hc) g (by simp[hn,<-f,S.length]) p λc hx=>?_;have J:Inv X pins m H { s with heap:=c }:=I.kept (t':=s.toks) λb o e=>hx b o (zC (zM e)) e;exact h pins _ m H q _ Q J (by simpa using S) i
def uT (n:TE) (g:TG):TS:=λD e H=>n e H λx t=>g x e t D.nx
theorem cF {r e:bp}{t:TE}{g:TG}(he:PE X e t) (hg:PG X r g) (hs:swapsWithSole [r] e pos.line X.env=pure false:=by rfl) (m:swappedStores [r] e X.env=pure none:=by rfl)
   (h1:(da [r] X.env).map (·.2)=[iD r X.env]:=by rfl):PS X (.Assign [r] e pos) (uT t g):=by intro pins s n H D I h;refine wpAny_Assign_stores (thn (he pins s n H _ I h) λv c #[x,i,J,b,p]=>?_) hs m;rw[h1];exact thn (hg pins c n i x v _ J b p) λ_ f q=>q
theorem A1q {i:Nat}{x:Str}{e:bp}{t:TE}{pos':en}(hN:X.N.Nodup) (hi:X.N[i]?=ak x) (hx:Loc X.env.scope x) (he:PE X e t) (hs:ge e (ak (.Name x pos')) pos.line X.env=pure false:=by rfl) (M:X.fn x=au\/X.env.scope.names.lookup x=ak .local:=by first | exact .inl rfl | exact .inr rfl | assumption) :
   PS X (.Assign [.Name x pos'] e pos) (uT t (R5 i)):=by intro pins s p H D I h;refine wpAny_Assign_Name (thn (he pins s p H _ I h) λv c #[y,n,J,m,r]=>?_) hs;exact JP J hN hi hx m (λf b=>#[_,n,b,r]) M
def A4J (i j:Nat) (n:TA):TS:=λD e H=>n e H λr t=>∃v w,r=[v,w]/\D.nx ((e.set i (ak v)).set j (ak w)) t
theorem VX {i j:Nat}{x y:Str}{a b:bp}{u:TA}{r c pt:en}{Y k2 pt2} (hc:X.calm=au) (hN:X.N.Nodup) (hi:X.N[i]?=ak x) (L:X.N[j]?=ak y) (M:i≠j) (hx:X.env.scope.names.lookup x=ak .local) (hy:X.env.scope.names.lookup y=ak .local) (G:PA X [a,b] u) (Q:swappedStores [.Tuple [.Name x r,.Name y c] Y pt] (.Tuple [a,b] k2 pt2) X.env=pure (ak [x,y])) (hs:swapsWithSole [.Tuple [.Name x r,.Name y c] Y pt] (.Tuple [a,b] k2 pt2) pos.line X.env=pure false:=by rfl) :
   PS X (.Assign [.Tuple [.Name x r,.Name y c] Y pt] (.Tuple [a,b] k2 pt2) pos) (A4J i j u):=by
 intro pins s z H D I h;rw[exec_Assign_arm];refine zZ (bv ?_);rw[hs];refine zZ (zY ?_);rw[if_neg `kh];refine zZ (Tuple_ (thn (G _ pins s z H _ I h) λus m #[vs,g,J,r1,f]=>?_));obtain⟨v,w,B,f⟩:=f;subst B;obtain⟨t,n,rfl,rv,U⟩:∃t n,us=[t,n]/\RelV v t/\RelV w n:=by
   cases r1 with
   | cons p q=>
     cases q with
     | cons Z q'=> cases q';exact#[_,_,rfl,p,Z]
 refine xM ?_ (by show 2<=a0;decide);have T:Inv X pins z g { m with heap:=m.heap.push { cls:=.type "tuple", data:=.seq [t,n].toArray } }:=J.kept (t':=m.toks) λb o e=>zW _ e;rw[Q];refine zZ (zY ?_);show wpAny (model X.prog X.w) X.A (do rule "assign.swapped-stores";let items <- unpackItems (.ref m.heap.objs.size) 2 am;assignInOrder [λv=>bindName X.env y v,λv=>bindName X.env x v] items.reverse;pure Flow.next) _ _ _;refine zZ (db (zZ (unpackItems_tuple (items:=(y9 [t,n])) (I.ok.hd hc) (IsTup.new m.heap _) λh' pb=>?_)));have O:=T.kept (h':=h') (t':=m.toks) λb o e=>pb b o (zC (zM e)) e;show wpAny _ _ (assignInOrder [λv=>bindName X.env y v,λv=>bindName X.env x v] [n,t] >>= λ_=>pure Flow.next) _ _ _;refine zZ (assignInOrder_cons (wpAny_bindName (JP O hN L (.inl hy) U (λs2 S=>?_) (.inr hy))));refine assignInOrder_cons (wpAny_bindName (JP S hN hi (.inl hx) rv (λs3 k=>assignInOrder_nil (zY ?_)) (.inr hx)));rw[List.set_comm _ _ (a4Q M)] at k;exact#[_,g,k,f]
def A4K (i:Nat) (n:TE) (g:TIp):TS:=λD e H=>∃x,e[i]?=ak (ak x)/\n e H λy t=>g x y t λz f=>D.nx (e.set i (ak z)) f
theorem VY {i:Nat}{x:Str}{e:bp}{n:TE}{j:Operator}{g:TIp}{pos':en}(hN:X.N.Nodup) (hi:X.N[i]?=ak x) (hx:Loc X.env.scope x) (he:PE X e n) (ho:PIp X j g) (M:X.fn x=au\/X.env.scope.names.lookup x=ak .local:=by first | exact .inl rfl | exact .inr rfl | assumption) :
   PS X (.AugAssign (.Name x pos') j e pos) (A4K i n g):=by
 intro pins s p H D I h;obtain⟨v,O,h⟩:=h;obtain⟨m,hn,B⟩:=I.loc;have Z:Vis X.env.scope x:=by rcases hx with k | k;exact .inl k;exact .inr (.inl k)
 obtain⟨u,r,l⟩:=B i x v hi O Z;refine wpAny_AugAssign_Name ?_;have t:wpAny (model X.prog X.w) X.A (eval e X.env) (λw G=>wpAny (model X.prog X.w) X.A (inplaceOp j u w) (λr S=>wpAny (model X.prog X.w) X.A (storeName X.env x r) (λ_=>SP X pins D .next) X.xe S) X.xe G) X.xe s:=by refine thn (he pins s p H _ I h) λw s1 #[y,b,J,r1,U]=>?_;refine thn (ho pins s1 p b v y u w _ J r r1 U) λz s2 #[zv,f,q,r2,Y]=>?_;exact JP q hN hi hx r2 (λs3 T=>#[_,f,T,Y]) M
 rcases l with ⟨hk,L⟩ | ⟨hk,c,hc,Q⟩
 . exact wpAny_loadName_local I.ok.kind hk hn L t
 . rcases hk with hk | hk;. exact wpAny_loadName_cell I.ok.kind hk hc Q t
   . rcases hx with k | k;. have:X.env.scope.names.lookup x=ak .free:=hk;rw[k] at this;cases this
     . have:X.env.scope.names.lookup x=ak .free:=hk;rw[k] at this;cases this
def ipI (f:Int->Int->Int):TIp:=λx y H Q=>∃i j,x = .int i/\y = .int j/\Q (.int (f i j)) H
theorem A1r:PIp X .Add (ipI λi j=>i+j):=by intro pins s p H x y v u Q I n r h;obtain⟨i,j,e,g,q⟩:=h;subst e;subst g;obtain⟨t,rfl⟩:=n;obtain⟨m,rfl⟩:=r;exact iadd_int #[.int _,H,I.tok _,#[_,rfl],q]
def mX (c:TT) (r:TS):TS:=λD e H=>∃W:Nat->St->Hp->Prop,(∃m,W m e H)/\∀m e H,W m e H ->
 c e H λb n=>if b=au then ∃N:St->Hp->Prop,(∀t H',N t H'->∃i,i < m/\W i t H')/\r { D with nx:=N,ct:=N,bk:=D.nx } e n else D.nx e n
theorem mY {c:bp}{body:List eg}{x:TT}{u:TS}(hp:PassesOwn (model X.prog X.w) X.A X.env X.xe) (hc:PT X c x) (hb:PSs X body u):PS X (.While c body [] pos) (mX x u):=by
 intro pins s G H D I h;obtain⟨W,⟨z,M⟩,turn⟩:=h;refine wpAny_While (codeAny_whileLoop (λn s'=>∃t H',Inv X pins t H' s'/\W n t H') ?_ z #[G,H,I,M]);rintro n O ⟨e,g,y,B⟩;refine dV hp (thn (hc pins O e g _ y (turn n e g B)) λb S #[j,k,i]=>?_);cases b with
 | true=>
   obtain⟨N,hN,i⟩:=i;rw[if_pos rfl];refine dV hp (thn (hb pins S e j _ k i) λf L J=>?_);cases f with
   | next=> obtain⟨U,r,T,Z⟩:=J;obtain⟨m,q,p⟩:=hN U r Z;exact#[m,q,U,r,T,p]
   | cont=> obtain⟨U,r,T,Z⟩:=J;obtain⟨m,q,p⟩:=hN U r Z;exact#[m,q,U,r,T,p]
   | brk=>exact J
   | ret v=>exact J
 | false=> rw[if_neg nft];exact et #[e,j,k,i]
end
structure It where
 go:Nat->Hp->Prop
 yld:Nat->Hp->V->Hp->Prop
 stop:Nat->Hp->Prop
def N4 (X:Cx) (pins:List (Addr×cy)) (H:Hp) (b:Addr):Prop:=
 H b=am/\b≠X.env.locals/\b∉X.fs/\(b∈X.ex\/X.s₀.heap.objs.size<=b)/\(∀x c,X.env.cells.lookup x=ak c->c≠b)/\∀p∈X.pn++pins,p.1≠b
theorem Inv.fpOk {X:Cx}{pins:List (Addr×cy)}{t:St}{H H':Hp}{s:av}{b:Addr}(I:Inv X pins t H s) (hb:s.heap.objs.size<=b) (hn:H' b=am):N4 X pins H' b:=by
 refine#[hn,a9J (zP I.lt hb),I.nofs hb,.inr (zN I.sz hb),λx c e z=>?_,λp hp z=>?_];. obtain⟨v,q⟩:=I.cell x c e;exact absurd (zP q.lt (by rw[z];exact hb)) (yF _)
 . exact absurd (zP (zM (I.pin p hp).1) (by rw[z];exact hb)) (yF _)
structure Turn (P:bn) (w:bj) (K:Frg) (tg:bp) (J:It) (fp:List Addr) (it:Addr) (tn:Nat->cc->Prop):Prop where
 mem:it∈fp
 obj:∀i h,tn i h->∀b∈fp,∃o,h.get? b=ak o/\∀v,o.data≠.cell v
 keep:∀i h h',tn i h->(∀b∈fp,∀o,h.get? b=ak o->h'.get? b=ak o)->tn i h'
 item:∀(X:Cx),X.prog=P->X.w=w->X.K=K->X.calm=au->∀(i:Nat) (pins:List (Addr×cy)) (s:av) (σ:St) (H:Hp) (E:ap->av->Prop),Inv X pins σ H s->(∀b∈fp,N4 X pins H b)->tn i s.heap->J.go i H ->
   wpAny (model P w) X.A (pyNext (.ref it)) (λr s1=>∃u,r=ak u /\
     wpAny (model P w) X.A (letOwnedTupleGo tg (.ref it) u) (λ_ s2=>∃x H',Inv X pins σ H' s2/\RelV x u/\J.yld i H x H'/\tn (i+1) s2.heap/\∀b∈fp,H' b=am) E s1) E s
 done:∀(X:Cx),X.prog=P->X.w=w->X.K=K->X.calm=au->∀(i:Nat) (pins:List (Addr×cy)) (s:av) (σ:St) (H:Hp) (E:ap->av->Prop),Inv X pins σ H s->(∀b∈fp,N4 X pins H b)->tn i s.heap->J.stop i H ->
   wpAny (model P w) X.A (pyNext (.ref it)) (λr s1=>r=am/\Inv X pins σ H s1) E s
 self:∀(A:bx) (i:Nat) (s:av) (Q:ap->av->Prop) (E:ap->av->Prop),tn i s.heap->Q (.ref it) s->wpAny (model P w) A (pyIter (.ref it)) Q E s
abbrev TI:=St->Hp->(It->Hp->Prop)->Prop
def PIE (X:Cx) (pins:List (Addr×cy)) (i:St) (r:bp) (R:It->Hp->Prop) (n:ap) (t:av):Prop:=∃(L:Addr) (e:List Addr) (Y:Nat->cc->Prop) (J:It) (H':Hp),n = .ref L/\Inv X pins i H' t/\Turn X.prog X.w X.K r J e L Y/\Y 0 t.heap/\(∀b∈e,N4 X pins H' b)/\R J H'
def PI (X:Cx) (r iter:bp) (t:TI):Prop:=∀(pins:List (Addr×cy)) (s:av) (e:St) (H:Hp) (R:It->Hp->Prop),Inv X pins e H s->t e H R ->
   wpAny (model X.prog X.w) X.A (eval iter X.env) (λv m=>wpAny (model X.prog X.w) X.A (pyIter v) (PIE X pins e r R) X.xe m) X.xe s
theorem fR (ho:s.heap.get? it=ak o) (hc:o.cls = .type n) (hd:o.data = .fields vs) (hn:["enumerate","zip","dict_itemiterator","dict_reverseitemiterator","odict_iterator","itertools.zip_longest","itertools.pairwise"].contains n=aB) (e:Q () s):wpAny M A (letOwnedTupleGo r (.ref it) u) Q E s:=by
 unfold letOwnedTupleGo;cases r <;> first
   | exact zY e
   | (cases u <;> first
       | exact zY e
       | (refine zZ (wpAny_load ho ?_)
          rw[hc,hd];show wpAny M A (if (["enumerate","zip","dict_itemiterator","dict_reverseitemiterator","odict_iterator","itertools.zip_longest","itertools.pairwise"].contains n&&vs[0]?==ak (dc _))=au then _ else _) Q E s;rw[if_neg (by intro h;rw[hn,Bool.false_and] at h;cases h)];exact zY e))
def Itl (K:Frg) (a:Addr):It:=#[λi H=>∃t x,SqL K H a t/\t[i]?=ak x,λi H x H'=>H'=H/\∀t,SqL K H a t->t[i]?=ak x,λi H=>∃t,SqL K H a t/\t.length<=i]
def Itt (K:Frg) (a:Addr):It:=#[λi H=>∃t x,SqT K H a t/\t[i]?=ak x,λi H x H'=>H'=H/\∀t,SqT K H a t->t[i]?=ak x,λi H=>∃t,SqT K H a t/\t.length<=i]
def Itr (e:Int) (n:Nat):It:=#[λi _=>i < n,λi H x H'=>H'=H/\x = .int (e+i),λi _=>n<=i]
theorem jA {P:bn}{w:bj}{K:Frg}{tg:bp}(a it:Addr):Turn P w K tg (Itl K a) [it] it (λi h=>h.IsListIter it a i) where
 mem:=by simp
 obj:=λi h st b hb=>by
   have e:b=it:=by simpa using hb
   subst e;obtain⟨o,e,c,d⟩:=st;exact⟨o,e,λv z=>by rw[d] at z;cases z⟩
 keep:=λi h h' st k=>st.at λo e=>k it (by simp) o e
 item:=by intro X hP hw hK hc i pins s σ H E I hf st hg;subst hP hw hK;obtain⟨xs,x,hq,hx⟩:=hg;obtain⟨aa,rv,p,hz⟩:=I.list hq;obtain⟨u,hu,ru⟩:=rv.get hx;obtain⟨f0,f1,f2,f3,f4,f5⟩:=hf it (by simp);refine wpAny_pyNext_list_item st p.isList (x:=u) (by simpa using hu) λh' ie sb=>?_;have I1:Inv X pins σ H { s with heap:=h' }:=I.turned (t':=s.toks) (λb o hb e=>(sb.2 b hb).trans e) f0 f1 f3 f4 f5;obtain⟨o,e,c,d⟩:=id ie;exact#[u,rfl,fR (s:={ s with heap:=h' }) e c d `kh #[x,H,I1,ru,#[rfl,λys hy=>by rw[I.list_inj hy hq];exact hx],ie,λb hb=>(hf b hb).1]]
 done:=by intro X hP hw hK hc i pins s σ H E I hf st hg;subst hP hw hK;obtain⟨xs,hq,hx⟩:=hg;obtain⟨aa,rv,p,hz⟩:=I.list hq;obtain⟨f0,f1,f2,f3,f4,f5⟩:=hf it (by simp);have hl:=rv.length;exact wpAny_pyNext_list_end (I.ok.hd hc) st p.isList (by simp;lia) λh' eb=>#[rfl,I.turned (t':=s.toks) (λb o hb e=>eb b o hb e) f0 f1 f3 f4 f5]
 self:=λ_ _ _ _ _ st h=>wpAny_pyIter_listiter st h
theorem cG {P:bn}{w:bj}{K:Frg}{tg:bp}(a it:Addr):Turn P w K tg (Itt K a) [it] it (λi h=>h.IsTupleIter it a i) where
 mem:=by simp
 obj:=λi h st b hb=>by
   have e:b=it:=by simpa using hb
   subst e;obtain⟨o,e,c,d⟩:=st;exact⟨o,e,λv z=>by rw[d] at z;cases z⟩
 keep:=λi h h' st k=>st.at λo e=>k it (by simp) o e
 item:=by intro X hP hw hK hc i pins s σ H E I hf st hg;subst hP hw hK;obtain⟨xs,x,hq,hx⟩:=hg;obtain⟨aa,rv,p,hz⟩:=I.tuple hq;obtain⟨u,hu,ru⟩:=rv.get hx;obtain⟨f0,f1,f2,f3,f4,f5⟩:=hf it (by simp);refine wpAny_pyNext_tuple_item st (show s.heap.IsTuple a aa.toArray from p) (x:=u) (by simpa using hu) λh' ie sb=>?_;have I1:Inv X pins σ H { s with heap:=h' }:=I.turned (t':=s.toks) (λb o hb e=>(sb.2 b hb).trans e) f0 f1 f3 f4 f5;obtain⟨o,e,c,d⟩:=id ie;exact#[u,rfl,fR (s:={ s with heap:=h' }) e c d `kh #[x,H,I1,ru,#[rfl,λys hy=>by rw[I.tuple_inj hy hq];exact hx],ie,λb hb=>(hf b hb).1]]
 done:=by intro X hP hw hK hc i pins s σ H E I hf st hg;subst hP hw hK;obtain⟨xs,hq,hx⟩:=hg;obtain⟨aa,rv,p,hz⟩:=I.tuple hq;obtain⟨f0,f1,f2,f3,f4,f5⟩:=hf it (by simp);have hl:=rv.length;exact wpAny_pyNext_tuple_end (I.ok.hd hc) st (show s.heap.IsTuple a aa.toArray from p) (by simp;lia) λh' eb=>#[rfl,I.turned (t':=s.toks) (λb o hb e=>eb b o hb e) f0 f1 f3 f4 f5]
 self:=λ_ _ _ _ _ st h=>wpAny_pyIter_tupleiter st h
theorem cH {P:bn}{w:bj}{K:Frg}{tg:bp}(it:Addr) (lo:Int) (n:Nat):Turn P w K tg (Itr lo n) [it] it (λi h=>IsRangeIter h it (lo+(i:Nat)*1) ((n:Int) - (i:Nat)) 1) where
 mem:=by simp
 obj:=λi h st b hb=>by
   have e:b=it:=by simpa using hb
   subst e;exact⟨_,st,λv z=>by have z':Data.fields _=Data.cell v:=z;cases z'⟩
 keep:=λi h h' st k=>k it (by simp) _ st
 item:=by intro X hP hw hK hc i pins s σ H E I hf st hg;subst hP hw hK;obtain⟨f0,f1,f2,f3,f4,f5⟩:=hf it (by simp);have W:=Walks.range (prog:=X.prog) (w:=X.w) (I.ok.hd hc) it lo 1 n;refine W.item i s _ _ hg st λv h' tk hv ie kk=>?_;obtain⟨t,rfl⟩:=hv;have I1:Inv X pins σ H { s with heap:=h',toks:=tk }:=I.turned (λb o hb e=>kk b o (by simpa using hb) e) f0 f1 f3 f4 f5;refine#[_,rfl,fR (s:={ s with heap:=h',toks:=tk }) (n:= "range_iterator") ie rfl rfl `kh #[.int (lo+i),H,I1,#[t,?_],#[rfl,rfl],ie,λb hb=>(hf b hb).1]];rw[Int.mul_one]
 done:=by intro X hP hw hK hc i pins s σ H E I hf st hg;subst hP hw hK;obtain⟨f0,f1,f2,f3,f4,f5⟩:=hf it (by simp);exact wpAny_pyNext_range_end (I.ok.hd hc) st (by have:n<=i:=hg;lia) λh' eb=>#[rfl,I.turned (t':=s.toks) (λb o hb e=>eb b o hb e) f0 f1 f3 f4 f5]
 self:=λ_ _ _ _ _ st h=>wpAny_pyIter_rangeiter st h
section
variable {X:Cx}{tg:bp}
theorem mZ {i:St}(I:Inv X pins i H s) (h1 : -(2 ^ 62)<=n) (r:n < 2 ^ 62) (G : -(2 ^ 62)<=hi) (m:hi < 2 ^ 62) (q:R (Itr n (hi - n).toNat) H):wpAny (model X.prog X.w) X.A (pyIter (.ref s.heap.objs.size)) (PIE X pins i tg R) E { s with heap:=s.heap.push { cls:=.type "range", data:=.fields (y9 [.int n t,.int hi u,.int 1 v]) },toks:=tk }:=by
 refine wpAny_pyIter_range (IsRange.new ..) (small_one h1 r G m) ?_;have J:Inv X pins i H { s with heap:=s.heap.push { cls:=.type "range", data:=.fields (y9 [.int n t,.int hi u,.int 1 v]) },toks:=tk }:=I.kept λb o e=>zW _ e;refine#[(s.heap.push { cls:=.type "range", data:=.fields (y9 [.int n t,.int hi u,.int 1 v]) }).objs.size,[(s.heap.push { cls:=.type "range", data:=.fields (y9 [.int n t,.int hi u,.int 1 v]) }).objs.size],_,_,H,rfl,
   J.kept (t':=tk) λb o e=>zW _ e,cH _ n (hi - n).toNat,?_,λb hb=>?_,q]
 . have j:n+((0:Nat):Int)*1=n:=by simp
   have g:(((hi - n).toNat:Nat):Int) - ((0:Nat):Int)=Builtin.Range.rangeSize n hi 1:=by rw[rangeSize_one];split <;> lia
   show IsRangeIter _ _ (n+((0:Nat):Int)*1) ((((hi - n).toNat:Nat):Int) - ((0:Nat):Int)) 1;rw[j,g];exact yZ _ rfl
 . have e:b=(s.heap.push { cls:=.type "range", data:=.fields (y9 [.int n t,.int hi u,.int 1 v]) }).objs.size:=by simpa using hb
   subst e;exact J.fpOk (zR _) (J.hok.fresh (zR _))
def A1A (t:TA):TI:=λi H R=>t i H λn e=>∃j:Int,n=[.int j]/\-(2 ^ 62)<=j/\j < 2 ^ 62/\R (Itr 0 j.toNat) e
theorem jB {a:bp}{i:TA}{p pos:en}(hg:Gl X "range") (b:X.mg "range"=am) (m:PA X [a] i) (hs:starEach [a] X.env=[(aB,eval a X.env)]:=by rfl):PI X tg (.Call (.Name "range" p) [a] [] pos) (A1A i):=by
 intro pins s g H R I h;refine Call_ (OD I hg b boot_range (xH (thn (m pos pins s g H _ I h) λx u #[y,k,J,v,n]=>?_) hs rfl));obtain⟨j,e,n,c,q⟩:=n;subst e;cases v with
 | cons r f=> cases f;obtain⟨t,rfl⟩:=r;exact call_range_1 (mZ J (by lia) (by lia) n c (by simpa using q))
def A1s (b:TI) (g:TG) (p:TS):TS:=λD e H=>b e H λJ r=>∃W:Nat->Nat->St->Hp->Prop,(∃m,W 0 m e r)/\∀i m e H,W i m e H ->(J.stop i H/\D.nx e H)\/(J.go i H/\∃N:St->Hp->Prop,(∀c H',N c H'->∃n,n < m/\W (i+1) n c H')/\∀x H',J.yld i H x H'->g x e H' λt f=>p { D with nx:=N,ct:=N,bk:=D.nx } t f)
def R6 (e:List Addr) (h:cc):List (Addr×cy):=e.filterMap λb=>(h.get? b).map λo=>(b,o)
theorem E8 (hb:b∈t) (e:h.get? b=ak o):(b,o)∈R6 t h:=List.mem_filterMap.mpr #[b,hb,by rw[e];rfl]
theorem jC (hp:p∈R6 t h):p.1∈t/\h.get? p.1=ak p.2:=by
 obtain⟨b,hb,e⟩:=List.mem_filterMap.mp hp;cases q:h.get? b with
 | none=>rw[q] at e;cases e
 | some o=> rw[q] at e;have e':(b,o)=p:=Option.some.inj e;subst e';exact#[hb,q]
theorem Inv.pinned {n:St}(I:Inv X pins n H s) (M:∀b∈t,N4 X pins H b) (ho:∀b∈t,∃o,s.heap.get? b=ak o/\∀v,o.data≠.cell v):Inv X (pins++R6 t s.heap) n H s:=
 I.pins_of λp hp=>(yW.mp hp).elim (λz=>I.pin p (zB _ z)) λz=>by obtain⟨hb,e⟩:=jC z;obtain⟨i,r,Q,_⟩:=M p.1 hb;obtain⟨o,e',d⟩:=ho p.1 hb;rw[e] at e';cases e';exact#[e,i,r,Q,d]
theorem Inv.unpinned {e:St}(I:Inv X (pins++Y) e H s):Inv X pins e H s:=I.pins_of λp hp=>I.pin p (zB _ (zA _ hp))
theorem n4 {iter:bp}{body:List eg}{wi:TI}{g:TG}{tb:TS}{pos:en}(hp:PassesOwn (model X.prog X.w) X.A X.env X.xe) (hc:X.calm=au) (hi:PI X tg iter wi) (hg:PG X tg g) (hb:PSs X body tb) (hs:∀x,ca iter X.env x=pure x:=by intro _;rfl):PS X (.For tg iter body [] pos) (A1s wi g tb):=by
 intro pins s σ H D I h;refine wpAny_For (thn (hi pins s σ H _ I h) λv s1 h1=>thn h1 λBv s2 h2=>?_) hs;obtain⟨it,k,tn,J,H2,e,I2,T,fo,Q,W,⟨m0,w0⟩,turn⟩:=h2;subst e;have stat:∀{H':Hp},(∀b∈k,H' b=am)->∀b∈k,N4 X pins H' b:=λhn b hb=>#[hn b hb,(Q b hb).2]
 refine codeAny_forLoop_any (λn s'=>∃i c H',Inv X pins c H' s'/\tn i s'.heap/\(∀b∈k,H' b=am)/\W i n c H') ?_ m0 #[0,σ,H2,I2,fo,λb hb=>(Q b hb).1,w0];rintro n Y ⟨i,U,y,G,L,zl,w3⟩;rcases turn i n U y w3 with ⟨stop,qn⟩ | ⟨go,N,hN,step⟩
 . refine dV hp (thn (T.done X rfl rfl rfl hc i pins Y U y X.xe G (stat zl) L stop) λr s4 #[hr,I4]=>?_);subst hr;exact et #[U,y,I4,qn]
 . refine dV hp (thn (T.item X rfl rfl rfl hc i pins Y U y X.xe G (stat zl) L go) λr s4 #[u,hr,h4]=>?_);subst hr;refine dV hp (thn h4 λ_ Z #[x,M,I5,r5,y5,z,yt]=>?_);have C_:=I5.pinned (stat yt) (T.obj _ _ z);refine dV hp (thn (hg _ Z U M x u _ C_ r5 (step x M y5)) λ_ s6 #[S,H6,I6,q6]=>?_);refine dV hp (thn (hb _ s6 S H6 _ I6 q6) λf O j=>?_);have again:∀{t:St}{p:Hp},Inv X (pins++R6 k Z.heap) t p O->N t p->∃m,m < n/\∃i c H',Inv X pins c H' O/\tn i O.heap/\(∀b∈k,H' b=am)/\W i m c H':=λ{t p} B q=>by obtain⟨m',hm,w7⟩:=hN t p q;refine#[m',hm,i+1,t,p,B.unpinned,T.keep _ _ _ z λb hb o e=>(B.pin (b,o) (zB _ (zB _ (E8 hb e)))).1,λb hb=>?_,w7];obtain⟨o,e,d⟩:=T.obj _ _ z b hb;exact(B.pin (b,o) (zB _ (zB _ (E8 hb e)))).2.1
   cases f with
   | next=>obtain⟨t,p,B,q⟩:=j;exact again B q
   | cont=>obtain⟨t,p,B,q⟩:=j;exact again B q
   | brk=>obtain⟨t,p,B,j⟩:=j;exact#[t,p,B.unpinned,j]
   | ret v=>obtain⟨x7,t,p,B,r7,j⟩:=j;exact#[x7,t,p,B.unpinned,r7,j]
end
abbrev R2:=V->V->Hp->VK->Prop
def OpR (X:Cx) (f:ap->ap->Sem ap) (r:R2):Prop:=∀(pins:List (Addr×cy)) (s:av) (e:St) (H:Hp) (x y:V) (v u:ap) (Q:VK),Inv X pins e H s->RelV x v->RelV y u->r x y H Q ->
   wpAny (model X.prog X.w) X.A (f v u) (EP X pins e Q) X.xe s
def UnR (X:Cx) (f:ap->Sem ap) (r:V->Hp->VK->Prop):Prop:=∀(pins:List (Addr×cy)) (s:av) (e:St) (H:Hp) (x:V) (v:ap) (Q:VK),Inv X pins e H s->RelV x v->r x H Q ->
   wpAny (model X.prog X.w) X.A (f v) (EP X pins e Q) X.xe s
def D9 (X:Cx) (f:ap) (r:List V->Hp->VK->Prop):Prop:=∀(pins:List (Addr×cy)) (s:av) (e:St) (H:Hp) (t:List V) (v:List ap) (Q:VK),Inv X pins e H s->Vals t v->r t H Q ->
   wpAny (model X.prog X.w) X.A (call f v) (EP X pins e Q) X.xe s
def tOp (r:R2) (j n:TE):TE:=λe H Q=>j e H λx t=>n e t λy f=>r x y f Q
def tUn (r:V->Hp->VK->Prop) (j:TE):TE:=λt H Q=>j t H λx e=>r x e Q
def rI (C:Int->Int->Prop) (g:Int->Int->V):R2:=λx y H Q=>∃i j,x = .int i/\y = .int j/\C i j/\Q (g i j) H
def rI0 (g:Int->Int->V):R2:=λx y H Q=>∃i j,x = .int i/\y = .int j/\Q (g i j) H
def rU (g:Int->V):V->Hp->VK->Prop:=λx H Q=>∃i,x = .int i/\Q (g i) H
section
variable {X:Cx}{a b c:bp}{ta tb tc:TE}{pos:en}
theorem A1t (p:PE X a ta) (hb:PE X b tb) {pins:List (Addr×cy)}{s:av}{t:St}{H:Hp}{R:V->V->Hp->Prop}(I:Inv X pins t H s) (h:ta t H λx r=>tb t r λy e=>R x y e) {Q:ap->av->Prop}{f:ap->ap->Sem ap} (M:∀v u i x y e,Inv X pins t e i->RelV x v->RelV y u->R x y e->wpAny (model X.prog X.w) X.A (f v u) Q X.xe i) :
   wpAny (model X.prog X.w) X.A (eval a X.env) (λv n=>wpAny (model X.prog X.w) X.A (eval b X.env) (λu G=>wpAny (model X.prog X.w) X.A (f v u) Q X.xe G) X.xe n) X.xe s:=by refine thn (p pins s t H _ I h) λv z #[x,r,J,k,g]=>?_;refine thn (hb pins z t r _ J g) λu i #[y,e,m,q,j]=>?_;exact M v u i x y e m k q j
theorem JQ {j:Operator}{r:R2}(ho:OpR X (ea j) r) (t:PE X a ta) (hb:PE X b tb):PE X (.BinOp a j b pos) (tOp r ta tb):=by intro pins s p H Q I h;exact wpAny_BinOp (A1t t hb I h λv u m x y f e n i q=>ho pins m p f x y v u Q e n i q)
theorem A4L {j:UnaryOp}{r:V->Hp->VK->Prop}(ho:UnR X (unaryOp j) r) (n:PE X a ta):PE X (.UnaryOp j a pos) (tUn r ta):=by intro pins s e H Q I h;exact UnaryOp_ (thn (n pins s e H _ I h) λv p #[x,t,J,m,i]=>ho pins p e t x v Q J m i)
theorem opI {g:Int->Int->Int} (rule:∀(i j:Int) (t u:Tok) (s:av) (Q:ap->av->Prop) (E:ap->av->Prop),C i j->Q (.int (g i j) s.toks) { s with toks:=s.toks+1 }->wpAny (model X.prog X.w) X.A (f (.int i t) (.int j u)) Q E s) :
   OpR X f (rI C λi j=>.int (g i j)):=by intro pins s m H x y v u Q I e n h;obtain⟨i,j,rfl,rfl,hc,q⟩:=h;obtain⟨t,rfl⟩:=e;obtain⟨r,rfl⟩:=n;exact rule i j t r s _ _ hc #[.int (g i j),H,I.tok _,#[_,rfl],q]
theorem A4M {g:Int->Int->Int} (rule:∀(i j:Int) (t u:Tok) (s:av) (Q:ap->av->Prop) (E:ap->av->Prop),Q (.int (g i j) s.toks) { s with toks:=s.toks+1 }->wpAny (model X.prog X.w) X.A (f (.int i t) (.int j u)) Q E s) :
   OpR X f (rI0 λi j=>.int (g i j)):=by intro pins s m H x y v u Q I e n h;obtain⟨i,j,rfl,rfl,q⟩:=h;obtain⟨t,rfl⟩:=e;obtain⟨r,rfl⟩:=n;exact rule i j t r s _ _ #[.int (g i j),H,I.tok _,#[_,rfl],q]
theorem uU {g:Int->Int->Bool} (rule:∀(i j:Int) (t u:Tok) (s:av) (Q:ap->av->Prop) (E:ap->av->Prop),Q (.bool (g i j)) s->wpAny (model X.prog X.w) X.A (f (.int i t) (.int j u)) Q E s) :
   OpR X f (rI0 λi j=>.bl (g i j)):=by intro pins s m H x y v u Q I e n h;obtain⟨i,j,rfl,rfl,q⟩:=h;obtain⟨t,rfl⟩:=e;obtain⟨r,rfl⟩:=n;exact rule i j t r s _ _ #[.bl (g i j),H,I,rfl,q]
def A1u (i j:Int):Prop:=0<=j/\j<=1000000/\i.natAbs < 2 ^ 64
def CMul (i j:Int):Prop:=(-(2 ^ 64) < i/\i < 2 ^ 64)\/(-(2 ^ 64) < j/\j < 2 ^ 64)
theorem CMul.ok (h:CMul i j):IntMulOk i j:=by
 rcases h with ⟨h1,n⟩ | ⟨h1,n⟩
 . exact .of_left (intBits_le_64 h1 n)
 . exact .of_right (intBits_le_64 h1 n)
theorem A1v:OpR X (ea .Add) (rI0 λi j=>.int (i+j)):=A4M λ_ _ _ _ _ _ _ q=>add_int q
theorem A1w:OpR X (ea .Sub) (rI0 λi j=>.int (i - j)):=A4M λ_ _ _ _ _ _ _ q=>sub_int q
theorem A1x:OpR X (ea .Mod) (rI (λ_ j=>0 < j) λi j=>.int (i % j)):=opI λi j _ _ _ _ _ hc q=>by have h1:(0:Int) < j:=hc;exact mod_int' (by lia) (by rw[Int.fmod_eq_emod_of_nonneg i (by lia)];exact q)
theorem A1y:OpR X (ea .Pow) (rI A1u λi j=>.int (i ^ j.toNat)):=opI λ_ _ _ _ _ _ _ hc q=>pow_int_small hc.1 hc.2.1 hc.2.2 q
theorem A1z:OpR X (ea .LShift) (rI A1u λi j=>.int (i*2 ^ j.toNat)):=opI λ_ _ _ _ _ _ _ hc q=>lshift_int_small hc.1 hc.2.1 hc.2.2 q
theorem unI {g:Int->Int} (rule:∀(i:Int) (t:Tok) (s:av) (Q:ap->av->Prop) (E:ap->av->Prop),Q (.int (g i) s.toks) { s with toks:=s.toks+1 }->wpAny (model X.prog X.w) X.A (f (.int i t)) Q E s) :
   UnR X f (rU λi=>.int (g i)):=by intro pins s n H x v Q I e h;obtain⟨i,rfl,q⟩:=h;obtain⟨t,rfl⟩:=e;exact rule i t s _ _ #[.int (g i),H,I.tok _,#[_,rfl],q]
theorem A2A:UnR X (unaryOp .USub) (rU λi=>.int (-i)):=unI λ_ _ _ _ _ q=>neg_int q
theorem R9 {n:St}(I:Inv X pins n H s) (q:Q (.bl k) H) (e:k=t):EP X pins n Q (.bool t) s:=by subst e;exact#[.bl k,H,I,rfl,q]
theorem A4N:OpR X (bq .Lt) (rI0 λi j=>.bl (decide (i < j))):=uU λ_ _ _ _ _ _ _ q=>lt_int q
theorem fS:OpR X (bq .LtE) (rI0 λi j=>.bl (decide (i<=j))):=uU λ_ _ _ _ _ _ _ q=>le_int q
theorem A1B:OpR X (bq .Gt) (rI0 λi j=>.bl (decide (j < i))):=uU λ_ _ _ _ _ _ _ q=>gt_int q
theorem A1C:OpR X (bq .GtE) (rI0 λi j=>.bl (decide (j<=i))):=uU λ_ _ _ _ _ _ _ q=>ge_int q
theorem jD:OpR X (bq .Lt) (λx y H Q=>∃i j,x = .str i/\y = .str j/\Q (.bl (decide (i.cps.toList < j.cps.toList))) H):=by intro pins s m H x y v u Q I e n h;obtain⟨i,j,rfl,rfl,q⟩:=h;obtain⟨t,rfl⟩:=e;obtain⟨r,rfl⟩:=n;exact lt_str (R9 I q rfl)
theorem jE:OpR X (bq .In) (λx y H Q=>∃i j,x = .str i/\y = .str j/\Q (.bl (!(a4Z j i 0 j.length 1).isEmpty)) H):=by intro pins s m H x y v u Q I e n h;obtain⟨i,j,rfl,rfl,q⟩:=h;obtain⟨t,rfl⟩:=e;obtain⟨r,rfl⟩:=n;exact in_str (R9 I q rfl)
theorem A2B:OpR X (bq .Is) (λx y H Q=>y = .non/\Q (.bl (decide (x = .non))) H):=by
 intro pins s i H x y v u Q I e n h;obtain⟨rfl,q⟩:=h;cases n;refine is_none_gen (R9 I q ?_);cases x <;> first
   | (cases e;rfl)
   | (obtain⟨t,rfl⟩:=e;rfl)
theorem uV:OpR X (bq .IsNot) (λx y H Q=>y = .non/\Q (.bl (!decide (x = .non))) H):=by
 intro pins s i H x y v u Q I e n h;obtain⟨rfl,q⟩:=h;cases n;refine isnot_none_gen (R9 I q ?_);cases x <;> first
   | (cases e;rfl)
   | (obtain⟨t,rfl⟩:=e;rfl)
theorem VZ:OpR X (bq .NotIn) (λx y H Q=>∃i j,x = .str i/\y = .str j/\Q (.bl (!(!(a4Z j i 0 j.length 1).isEmpty))) H):=by intro pins s m H x y v u Q I e n h;obtain⟨i,j,rfl,rfl,q⟩:=h;obtain⟨t,rfl⟩:=e;obtain⟨r,rfl⟩:=n;exact notIn_str (R9 I q rfl)
theorem OpR.or (h:OpR X f r) (h':OpR X f L):OpR X f (λx y H Q=>r x y H Q\/L x y H Q):=by
 intro pins s n H x y v u Q I e t q;rcases q with q | q;. exact h pins s n H x y v u Q I e t q
 . exact h' pins s n H x y v u Q I e t q
theorem DZ (b:bp) {j:CmpOp}(h:j≠.In:=by decide) (n:j≠.NotIn:=by decide):fm j b=false:=by
 have e:(j==CmpOp.In)=false:=by cases j <;> first | rfl | exact absurd rfl h
 have g:(j==CmpOp.NotIn)=false:=by cases j <;> first | rfl | exact absurd rfl n
 cases b <;> simp[fm,e,g]
theorem G8 {j:CmpOp}{r:R2}(ho:OpR X (bq j) r) (t:PE X a ta) (hb:PE X b tb) (n:fm j b=aB):PE X (.Compare a [j] [b] pos) (tOp r ta tb):=by intro pins s g H Q I h;exact wpAny_Compare1 (A1t t hb I h λv u p x y f e i m q=>ho pins p g f x y v u Q e i m q) n
def n5 (t:TE):TT:=λe H Q=>t e H λx H'=>∃k,x = .bl k/\Q k H'
theorem CQ {j:CmpOp}{r:R2}(ho:OpR X (bq j) r) (p:PE X a ta) (hb:PE X b tb) (q:fm j b=aB):PT X (.Compare a [j] [b] pos) (n5 (tOp r ta tb)):=by
 intro pins s t H Q I h;refine wpAny_isTrue_Compare1 (thn (p pins s t H _ I h) λv B #[x,n,J,S,g]=>thn (hb pins B t n _ J g) λu G #[y,f,m,M,N]=>
   thn (ho pins G t f x y v u _ m S M N) λc L #[z,i,T,D,k,e,O]=>?_) q;subst e;cases D;exact cr #[i,T,O]
def cI (r L:R2) (ta tb tc:TE):TE:=λe H Q=>ta e H λx n=>tb e n λy f=>r x y f λz t=>∃k,z = .bl k /\(if k=au then tc e t λh m=>L y h m Q else Q (.bl aB) t)
theorem n6 {j n:CmpOp}{r L:R2}(ho:OpR X (bq j) r) (S:OpR X (bq n) L) (M:PE X a ta) (hb:PE X b tb) (hc:PE X c tc) (D:lastMarks [j,n] [b,c]=false:=by with_unfolding_all rfl):PE X (.Compare a [j,n] [b,c] pos) (cI r L ta tb tc):=by
 intro pins s t H Q I h;refine Compare_chain (thn (M pins s t H _ I h) λv s1 #[x,p,q,Y,B]=>chain_link (thn (hb pins s1 t p _ q B) λu s2 #[y,f,N,m,G]=>
   thn (ho pins s2 t f x y v u _ N Y m G) λd s3 #[z,i,T,Z,k,e,J]=>?_)) D;subst e;cases Z;refine cr ?_;cases k with
 | false=>exact ite_ff #[.bl aB,i,T,rfl,J]
 | true=>exact ite_tt (chain_last (thn (hc pins s3 t i _ T J) λw' s4 #[z',g,O,r4,U]=>S pins s4 t g y z' u w' Q O m r4 U))
theorem n8 {j n:CmpOp}{r L:R2}(ho:OpR X (bq j) r) (D:OpR X (bq n) L) (G:PE X a ta) (hb:PE X b tb) (hc:PE X c tc) (U:lastMarks [j,n] [b,c]=false:=by with_unfolding_all rfl):PT X (.Compare a [j,n] [b,c] pos) (n5 (cI r L ta tb tc)):=by
 intro pins s t H Q I h;refine isTrue_chain (thn (G pins s t H _ I h) λv s1 #[x,p,N,r1,Z]=>test_link (thn (hb pins s1 t p _ N Z) λu s2 #[y,f,O,m,q2]=>
   thn (ho pins s2 t f x y v u _ O r1 m q2) λd s3 #[z,i,T,r3,k,e,J]=>?_)) U;subst e;cases r3;refine cr ?_;cases k with
 | false=> obtain⟨k',e',Y⟩:=J;cases e';exact ite_ff #[i,T,Y]
 | true=> refine ite_tt (test_last (thn (hc pins s3 t i _ T J) λw' s4 #[z',g,S,r4,q4]=>thn (D pins s4 t g y z' u w' _ S m r4 q4) λd' s5 #[z2,q,M,r5,k2,B,q5]=>?_));subst B;cases r5;exact cr #[q,M,q5]
theorem W0:(a0:Nat) < 2 ^ 63:=by rw[cN];decide
theorem cJ:OpR X (ea .Add) (λx y H Q=>∃i j,x = .str i/\y = .str j/\i.length+j.length<=a0/\Q (.str (i++j)) H):=by intro pins s f H x y v u Q I n r h;obtain⟨i,j,rfl,rfl,e,q⟩:=h;obtain⟨t,rfl⟩:=n;obtain⟨m,rfl⟩:=r;exact add_str (λm p=>#[.str (i++j),H,I.tok _,#[_,rfl],q]) e
theorem JB (r:Vals [x] v):∃u,v=[u]/\RelV x u:=by
 cases r with
 | cons e t=>cases t;exact#[_,rfl,e]
theorem A4O (r:Vals [x,y] v):∃u h,v=[u,h]/\RelV x u/\RelV y h:=by
 cases r with
 | cons e t=>
   cases t with
   | cons j n=>cases n;exact#[_,_,rfl,e,j]
def n9 (K:Frg) (x:V) (H:Hp) (n:Nat):Prop:=
 match x with
 | .str y=>y.length<=a0/\n=y.length
 | .byt y=>y.size<=a0/\n=y.size
 | .ref p=>(∃t,SqL K H p t/\n=t.length)\/∃t,SqT K H p t/\n=t.length
 | _=>False
theorem nC:D9 X (.builtin "len") (λxs H Q=>∃x n,xs=[x]/\n9 X.K x H n/\Q (.int n) H):=by
 intro pins s j H xs v Q I r h;obtain⟨x,n,rfl,e,q⟩:=h;obtain⟨u,rfl,i⟩:=JB r;have g:=W0;have hs:a0=16777216:=cN;cases x with
 | str y=> obtain⟨t,rfl⟩:=i;obtain⟨hy,e'⟩:y.length<=a0/\n=y.length:=e;subst e';exact len_str (by lia) #[.int _,H,I.tok _,#[_,rfl],q]
 | byt y=> obtain⟨t,rfl⟩:=i;obtain⟨hy,e'⟩:y.size<=a0/\n=y.size:=e;subst e';exact PySem.W.len_bytes (by lia) #[.int _,H,I.tok _,#[_,rfl],q]
 | ref p=>
   cases i;have e':(∃xs,SqL X.K H p xs/\n=xs.length)\/∃xs,SqT X.K H p xs/\n=xs.length:=e;rcases e' with ⟨xs,hx,e'⟩ | ⟨xs,hx,e'⟩
   . subst e';obtain⟨m,L,Y,f⟩:=I.list hx;have k:=L.length;exact Calls.call_len_list Y.isList (by simp only[zJ];lia) #[.int xs.length,H,I.tok _,#[_,by simp only[zJ];rw[k]],q]
   . subst e';obtain⟨m,L,Y,f⟩:=I.tuple hx;have k:=L.length;exact len_tuple Y (by simp only[zJ];lia) #[.int xs.length,H,I.tok _,#[_,by simp only[zJ];rw[k]],q]
 | _=>exact(show False from e).elim
end
structure ObjM (h:cc) (x dx C:Addr) (mA:Str->Option ap):Prop where
 obj:h.get? x=ak (PySem.W.instObj C dx)
 ns:h.Ns1 dx mA
 ne:dx≠x
theorem jF {h:cc}(n:h.Ns1 i r):∃m,h.get? i=ak m/\∀name,PySem.W.lookIn name m=ak (r name):=by
 obtain⟨o,O,f,ho,hd,hk,_,b⟩:=n;refine#[o,ho,λname=>?_];have e:=b name;unfold nsFind findBy at e;rw[<-Array.find?_toList] at e;unfold PySem.W.lookIn;rw[hd];dsimp only;split;. rename_i y q;rw[q] at e;exact congrArg ak e
 . rename_i q;rw[q] at e;have a:O.toList.any (·.refKey)=false:=by rw[List.any_eq_false];intro y hy;obtain⟨z,t,c⟩:=hk y (Array.mem_toList_iff.mp hy);simp[DictEntry.refKey,c]
   have p:¬O.toList.any (·.refKey)=true:=by rw[a];exact nft
   rw[if_neg p];exact congrArg ak e
theorem ObjM.look (I:ObjM h x y C e):∃r,PySem.W.InstAt h x (PySem.W.instObj C y) C (ak r)/\∀name,PySem.W.lookIn name r=ak (e name):=
 let #[r,ho,t]:=jF I.ns
 #[r,#[I.obj,rfl,rfl,ho],t]
theorem RelO.some_of (r:RelO (ak v) o):∃u,o=ak u/\RelV v u:=by
 cases o with
 | none=>exact(show False from r).elim
 | some u=>exact#[u,rfl,r]
section
theorem uW (hok:HOk P w H h) (e:H a=ak (.ins C dx fs)):∃t,ObjM h a dx C t/\(∀f,RelO (fs.lookup f) (t f))/\PySem.Within t (fs.map (·.1))/\fs.length<=1000/\H dx=ak (.own a):=by
 obtain⟨d,z,ne,i,t,n,r,q⟩:=(show ObjOk P w H h a (.ins C dx fs) from hok a _ e)
 exact#[t,#[i,n,ne],r,q,z,d]
end
structure Cls (K:Frg) (C:Addr):Prop where
 pg:PySem.W.plainGet K C Str.empty=au
 hd:PySem.W.hasDictIn K C=au
 po:PySem.W.plainOver K C=au
 sa:a8W K (.ref C) "__setattr__"=ak (ak (.builtin "object.__setattr__"))
theorem Cls.get {K:Frg}(c:Cls K C) (f:Str):PySem.W.plainGet K C f=true:=c.pg
section
variable {X:Cx}{pins:List (Addr×cy)}{σ:St}{H:Hp}{s:av}{A:bx}{E:ap->av->Prop}{Q:ap->av->Prop}{c:ap}{b:Bool}
inductive TyOf (K:Frg) (H:Hp):V->ap->Prop where
 | non:TyOf K H .non (.type "NoneType")
 | bl (x:Bool):TyOf K H (.bl x) (.type "bool")
 | int (i:Int):TyOf K H (.int i) (.type "int")
 | str (x:Str):TyOf K H (.str x) (.type "str")
 | flt (x:UInt64):TyOf K H (.flt x) (.type "float")
 | lst {a:Addr}{xs:List V}(e:H a=ak (.lst xs)):TyOf K H (.ref a) (.type "list")
 | frz {a:Addr}{o:cy}{xs:List V}(e:H a=ak (.frz o (.lst xs))):TyOf K H (.ref a) (.type "list")
 | tup {a:Addr}{xs:List V}(e:H a=ak (.tup xs)):TyOf K H (.ref a) (.type "tuple")
 | dK {a:Addr}{kvs:List (Key×V)}(e:H a=ak (.dK kvs)):TyOf K H (.ref a) (.type "dict")
 | dT {a:Addr}{kvs:List (List Key×V)}(e:H a=ak (.dT kvs)):TyOf K H (.ref a) (.type "dict")
 | ins {a C dx:Addr}{fs:List (Str×V)}(e:H a=ak (.ins C dx fs)) (cl:Cls K C) (ha:a8W K (.ref C) "__class__"=ak (ak (.builtin "object.__class__"))) (hn:PySem.W.specialIn K (.builtin "object.__class__") "__get__"=ak (ak (.builtin "getset_descriptor.__get__"))) (htk:PySem.W.takesIn K (.builtin "object.__class__")=ak au) (hm:PySem.W.mroIn K C (.type "object")=ak au):TyOf K H (.ref a) (.ref C)
theorem GW (I:Inv X pins σ H s) (m:RelV x u) (ty:TyOf X.K H x t) (e:PySem.W.kitOne X.K t c=ak b) (h:∀tk,Q (.bool b) { s with toks:=tk }) :
   wpAny (model X.prog X.w) A (call (.builtin "isinstance") [u,c]) Q E s:=by
 cases ty with
 | non=>cases (show u=a1Z from m);exact a3J PySem.W.kitx_none I.kIn a8J e (λz=>nomatch z) h
 | bl y=>cases (show u=Value.bool y from m);exact a3J PySem.W.kitx_bool I.kIn a8J e (λz=>nomatch z) h
 | int i=>obtain⟨t,q⟩:=(show ∃t,u=Value.int i t from m);cases q;exact a3J PySem.W.kitx_int I.kIn a8J e (λz=>nomatch z) h
 | str y=>obtain⟨t,q⟩:=(show ∃t,u=c0V y t from m);cases q;exact a3J PySem.W.kitx_str I.kIn a8J e (λz=>nomatch z) h
 | flt y=>obtain⟨t,q⟩:=(show ∃t,u=Value.float y t from m);cases q;exact a3J PySem.W.kitx_float I.kIn a8J e (λz=>nomatch z) h
 | @lst a f r=>
   cases (show u=a0X a from m);obtain⟨_,_,n,_,h1⟩:=(show ObjOk X.prog X.w H s.heap a (.lst f) from I.hok a _ r)
   exact a3J PySem.W.kitx_list I.kIn #[_,h1,rfl] e (λz=>nomatch z) h
 | @frz a S f r=>
   cases (show u=a0X a from m);obtain⟨_,_,_,n,_,h1⟩:=(show ObjOk X.prog X.w H s.heap a (.frz S (.lst f)) from I.hok a _ r)
   exact a3J PySem.W.kitx_list I.kIn #[_,h1,rfl] e (λz=>nomatch z) h
 | @tup a f r=>
   cases (show u=a0X a from m);obtain⟨_,_,_,p⟩:=(show ObjOk X.prog X.w H s.heap a (.tup f) from I.hok a _ r)
   obtain⟨o,h1,g,_⟩:=p;exact a3J PySem.W.kitx_tuple I.kIn #[o,h1,g] e (λz=>nomatch z) h
 | @dK a kvs r=>
   cases (show u=a0X a from m);obtain⟨_,_,G,_,p⟩:=(show ObjOk X.prog X.w H s.heap a (.dK kvs) from I.hok a _ r)
   obtain⟨o,v,k,h1,g,_⟩:=p;exact a3J PySem.W.kitx_dict I.kIn #[o,h1,g.1] e (λz=>nomatch z) h
 | @dT a kvs r=>
   cases (show u=a0X a from m);obtain⟨_,_,f,_,o,v,k,h1,g,_⟩:=(show ObjOk X.prog X.w H s.heap a (.dT kvs) from I.hok a _ r)
   exact a3J PySem.W.kitx_dict I.kIn #[o,h1,g.1] e (λz=>nomatch z) h
 | @ins a C M fs r j T hn htk N=> cases (show u=a0X a from m);obtain⟨D,O,_⟩:=uW I.hok r;obtain⟨B,J,_⟩:=O.look;exact a3J (PySem.W.kitx_own (j.get _) j.hd T hn htk N) I.kIn J e (λz=>nomatch z) h
end
structure Room (k:Nat) (A:bx):Prop where
 hd:A.handled=am
 dp:A.depth+3*k+5 < recursionLimit
 un:A.units+16*k+200 < eh
theorem Room.mono (r:Room k A) (h:j<=k):Room j A:=#[r.hd,by have:=r.dp;lia,by have:=r.un;lia]
theorem Room.deeper (r:Room (k+1) A) (env:ic):Room k (A.deeper env):=#[r.hd,by have:=r.dp;show A.depth+1+3*k+5 < _;lia,by have:=r.un;show A.units+3+16*k+200 < _;lia]
theorem RA {A:bx}:(A.under (.builtin "type.__call__" #[.ref C::v,y])).depth=A.depth+1:=by first | rfl | simp[Around.under,Code.weight,Code.isCreation,Code.isGuard,Code.isCaller,Code.frames,Code.isFrame,guardIds]
theorem RB {A:bx}:(A.under (.builtin "type.__call__" #[.ref C::v,y])).units=A.units+1:=by first | rfl | simp[Around.under,Code.cUnits,Code.frames,Code.isFrame]
theorem Room.make (r:Room (k+1) A) (C:Addr) (v:List ap) (y:List (Str×ap)):Room k (A.under (.builtin "type.__call__" #[.ref C::v,y])):=#[r.hd,by have:=r.dp;rw[RA];lia,by have:=r.un;rw[RB];lia]
theorem Room.depth (r:Room k A):A.depth < recursionLimit:=by have:=r.dp;lia
theorem Room.units (r:Room k A):A.units+64 < cLine:=by have:=r.un;lia
def A2C:TA:=λ_ H Q=>Q [] H
def YD (j:TE) (S:TA):TA:=λe H Q=>j e H λx t=>S e t λn f=>Q (x::n) f
section
variable {X:Cx}{e:bp}{es:List bp}{te:TE}{t:TA}{pos:en}
theorem nG:PA X [] A2C:=λ_ _ _ _ H Q I h=>Calls.spliced_nil #[[],H,I,.nil,h]
theorem W1 (r:PE X e te) (hr:PA X es t) (hs:starEach (e::es) X.env=(aB,eval e X.env)::starEach es X.env:=by rfl):PA X (e::es) (YD te t):=by intro pos pins s n H Q I h;rw[hs];show wpAny _ _ (spliced ((aB,eval e X.env)::backTo pos (starEach es X.env))) _ _ s;refine Calls.spliced_cons (thn (r pins s n H _ I h) λu g #[x,i,J,v,m]=>?_);exact thn (hr pos pins g n i _ J m) λq k #[j,f,b,c,p]=>#[x::j,f,b,.cons v c,p]
def A2D (t:TA):TE:=λr H Q=>t r H λi n=>i.length<=a0/\∀p,n p=am->Q (.ref p) (upd n p (.tup i))
def A2E (t:TA):TE:=λr H Q=>t r H λi n=>i.length<=a0/\∀p,n p=am->Q (.ref p) (upd n p (.lst i))
theorem nH {N} (h:PA X es t):PE X (.Tuple es N pos) (A2D t):=by intro pins s p H Q I hq;refine wpAny_Tuple_spliced (thn (h pos pins s p H _ I hq) λv m #[i,n,J,r,z,q]=>#[by rw[<-r.length];exact z,?_]);have M:n m.heap.objs.size=none:=J.hok.fresh (zR _);refine#[.ref m.heap.objs.size,upd n m.heap.objs.size (.tup i),J.laid (t':=m.toks) (λb u e=>zW _ e) (zR _) ?_,rfl,q _ M];exact#[z,v,r,#[_,yZ _ rfl,rfl,_,rfl]]
theorem A2F (h:PA X es t):PE X (.List es pos) (A2E t):=by intro pins s p H Q I hq;refine wpAny_List_spliced (thn (h pos pins s p H _ I hq) λv m #[i,n,J,r,z,q]=>#[by rw[<-r.length];exact z,?_]);have M:n m.heap.objs.size=none:=J.hok.fresh (zR _);refine#[.ref m.heap.objs.size,upd n m.heap.objs.size (.lst i),J.laid (t':=m.toks) (λb u e=>zW _ e) (zR _) ?_,rfl,q _ M];exact#[z,v,0,r,yZ _ rfl]
end
abbrev Sp:=List V->Hp->VK->XK->Prop
abbrev CXT:=List ic->Hp->av->XK->ap->av->Prop
structure Env0 (P:bn) (w:bj) (K:Frg) (mg:Str->Option ap) (base:cc) (A:bx) (outer:List ic) (s:av) (H:Hp):Prop where
 frames:A.frames=ak outer
 mod:Mod K mg base
 bs:∀b o,base.get? b=ak o->s.heap.get? b=ak o/\H b=am
 bsz:base.objs.size<=s.heap.objs.size
 funs:s.heap.FunFrames base outer
 frf:∀b∈frs outer,H b=am
 hok:HOk P w H s.heap
 bare:g5 s.gens
def CE (outer:List ic) (P:bn) (w:bj) (H:Hp) (s:av) (Q:VK) (u:ap) (s':av):Prop:=∃v H',s'.os=s.os/\g5 s'.gens/\Un (frs outer) [] H H' s.heap s'.heap/\HOk P w H' s'.heap/\RelV v u/\Q v H'
def CR (CX:CXT) (outer:List ic) (P:bn) (w:bj) (H:Hp) (s:av) (Q:VK) (E:XK) (r:Result) (s':av):Prop:=
 match r with
 | .ok (.ret u)=>CE outer P w H s Q u s'
 | .ok _=>False
 | .error e=>CX outer H s E e s'
structure FnOk (P:bn) (w:bj) (K:Frg) (mg:Str->Option ap) (base:cc) (CX:CXT) (k:Nat) (f:Addr) (fd:dl) (ps:List Str) (sp:Sp):Prop where
 len:∀vs H Q E,sp vs H Q E->vs.length=ps.length
 run:∀(A:bx) (outer:List ic) (s:av) (H:Hp) (args:Args) (us:List ap) (vs:List V) (Q:VK) (E:XK),Room k A->Env0 P w K mg base A outer s H->BindsTo s fd args (ps.zip us)->Vals vs us->sp vs H Q E ->
   codeAny (model P w) A (.call (.ref f) args) (CR CX outer P w H s Q E) s
theorem Env0.make {K:Frg}(e:Env0 P w K mg base A outer s H) (C:Addr) (v:List ap) (y:List (Str×ap)) :
   Env0 P w K mg base (A.under (.builtin "type.__call__" #[.ref C::v,y])) outer s H:=#[by first | exact e.frames | (simpa [Around.under,Code.envs,Code.isFrame,pushEnvs] using e.frames),e.mod,e.bs,e.bsz,e.funs,e.frf,e.hok,e.bare]
section
variable {X:Cx}{pins:List (Addr×cy)}{σ:St}{H:Hp}{s s':av}
theorem Inv.env0 (I:Inv X pins σ H s):Env0 X.prog X.w X.K X.mg X.base X.A X.stack s H:=#[I.ok.frames,I.ok.mod,I.bs,zN I.ok.bsz I.sz,I.stack,I.stkFree,I.hok,I.bare]
theorem Inv.after (I:Inv X pins σ H s) (h:CE X.stack X.prog X.w H s Q u s'):EP X pins σ Q u s':=by obtain⟨v,H',U,bare,un,hok,r,q⟩:=h;obtain⟨n,g,d,t,e⟩:=s';obtain rfl:e=s.os:=U;exact#[v,H',I.call (h':=n) (g':=g) (d':=d) (t':=t) (ch:=[]) un hok bare (λb z=>absurd z (by simp)),r,q]
end
def fT (sp:Sp) (i:List V) (E:XK) (t:TA):TE:=λr H Q=>t r H λn e=>sp (n++i) e Q E
def Binds (K:Frg) (T:dl) (ps:List Str) (ds:List ap):Prop:=∀(s:av) (v:List ap),K.In s.heap->(v++ds).length=ps.length->BindsTo s T #[v,[]] (ps.zip (v++ds))
theorem Binds.all {K:Frg}(h:∀v:List ap,v.length=ps.length->bindArgs T #[v,[]]=pure (ps.zip v)):Binds K T ps []:=λs v _ r=>by rw[a4K] at r ⊢;exact .of_eq (h v r)
def cK (CX:CXT) (X:Cx) (E:XK):Prop:=∀(pins:List (Addr×cy)) (t:St) (H:Hp) (s:av) (e:ap) (s':av),Inv X pins t H s->CX X.stack H s E e s'->X.xe e s'
section
theorem A2G {n:St}(F:FnOk X.prog X.w X.K X.mg X.base CX k f fd ps sp) (hr:Room k X.A) (hb:Binds X.K fd ps ds) (hd:Vals wq ds) (hx:cK CX X E) (I:Inv X pins n H s) (r:Vals vs v) (h:sp (vs++wq) H Q E):wpAny (model X.prog X.w) X.A (call (.ref f) v) (EP X pins n Q) X.xe s:=by
 have i:Vals (vs++wq) (v++ds):=r.append hd;have b:(v++ds).length=ps.length:=by rw[<-i.length];exact F.len _ _ _ _ h
 refine wpAny_call (xN (F.run X.A X.stack s H #[v,[]] (v++ds) (vs++wq) Q E hr I.env0 (hb s v I.kIn b) i h) λr s' hq=>?_);cases r with
 | error e=>exact hx pins n H s e s' I hq
 | ok M=>
   cases M with
   | ret u=>exact I.after hq
   | next=>exact a6W hq
   | brk=>exact a6W hq
   | cont=>exact a6W hq
theorem uX{X:Cx}{CX:CXT}{k:Nat}{f:Addr}{fd:dl}{ps:List Str}{sp:Sp}{wq:List V}{ds:List ap}{E:XK}{x:Str}{p:en}{pos:en}{e:bp}{es:List bp}{t:TA} (F:FnOk X.prog X.w X.K X.mg X.base CX k f fd ps sp) (hr:Room k X.A) (hg:Gl X x) (b:X.mg x=ak (.ref f)) (hk:a3K X.K (.ref f)=au) (hb:Binds X.K fd ps ds) (hd:Vals wq ds) (hx:cK CX X E) (i:PA X (e::es) t) (n:(x==("__debug__":Str))=false:=by decide) (he:starEach (e::es) X.env=(aB,eval e X.env)::starEach es X.env:=by rfl) (c:(backTo pos (starEach es X.env)).any (·.1)=false:=by rfl) :
   PE X (.Call (.Name x p) (e::es) [] pos) (fT sp wq E t):=by intro pins s g H Q I h;refine c4 (G7 I hg b ?_ n);refine b6J (h₀:=X.base) I.ok.mod.kin hk (thn (i pos pins s g H _ I h) λv u #[y,j,J,r,q]=>#[J.kIn,?_]) he c;exact A2G F hr hb hd hx J r q
end
structure FnScope (N P:List Str) (sc:eN):Prop where
 kind:sc.kind = .function
 co:sc.isCoroutine=aB
 gen:sc.isGenerator=aB
 nd:N.Nodup
 pre:N.take P.length=P
 par:∀x∈P,sc.names.lookup x=ak .local\/sc.names.lookup x=ak .cell
 nofree:∀y∈sc.names,y.2≠.free
theorem UL {fx:Str->Option ed}:∀{binds:List (Str×ap)}{m:Str->Option ap},(∀v,(x,v)∉binds)->bindL fx binds m x=m x
 | [],_,_=>rfl
 | (n,v)::r,m,h=>by
   unfold bindL;rw[UL λw e=>h w (yV _ e)];split
   . have:x≠n:=by rintro rfl;exact h v a0J
     simp[this]
   . rfl
theorem UM {fx:Str->Option ed}:∀{binds:List (Str×ap)}{m:Str->Option ap},(∀v,(x,v)∉binds)->bindC fx binds m x=m x
 | [],_,_=>rfl
 | (n,v)::r,m,h=>by
   unfold bindC;rw[UM λw e=>h w (yV _ e)];split;. rfl
   . have:x≠n:=by rintro rfl;exact h v a0J
     simp[this]
theorem UN {fx:Str->Option ed}:∀{P:List Str}{vs:List ap}{i:Nat}{m:Str->Option ap},P.Nodup->P[i]?=ak x->vs[i]?=ak v->fx x=ak .local ->
   bindL fx (P.zip vs) m x=ak v
 | [],_,_,_,_,h,_,_=>by simp at h
 | _::_,[],_,_,_,_,h,_=>by simp at h
 | p::P,w::vs,0,m,nd,h1,n,hk=>by simp at h1 n;subst h1;subst n;show bindL fx ((p,w)::P.zip vs) m p=_;unfold bindL;rw[UL λv N=>(xV.mp nd).1 (b3K N).1,if_pos hk];simp
 | p::P,w::vs,i+1,m,nd,h1,n,hk=>by show bindL fx ((p,w)::P.zip vs) m x=_;unfold bindL;exact UN (i:=i) (xV.mp nd).2 (by simpa using h1) (by simpa using n) hk
theorem UO {fx:Str->Option ed}:∀{P:List Str}{vs:List ap}{i:Nat}{m:Str->Option ap},P.Nodup->P[i]?=ak x->vs[i]?=ak v->fx x≠ak .local ->
   bindC fx (P.zip vs) m x=ak v
 | [],_,_,_,_,h,_,_=>by simp at h
 | _::_,[],_,_,_,_,h,_=>by simp at h
 | p::P,w::vs,0,m,nd,h1,n,hk=>by simp at h1 n;subst h1;subst n;show bindC fx ((p,w)::P.zip vs) m p=_;unfold bindC;rw[UM λv N=>(xV.mp nd).1 (b3K N).1,if_neg hk];simp
 | p::P,w::vs,i+1,m,nd,h1,n,hk=>by show bindC fx ((p,w)::P.zip vs) m x=_;unfold bindC;exact UO (i:=i) (xV.mp nd).2 (by simpa using h1) (by simpa using n) hk
def E5 (N:List Str) (vs:List V):St:=vs.map ak++b3Q (N.length - vs.length) am
def IC (CX:CXT) (P:bn) (w:bj) (K:Frg) (mg:Str->Option ap) (base:cc) (N:List Str) (qual:Str) (scope:eN) (f:Addr) (cd:ap) (A:bx) (outer:List ic) (s:av) (H:Hp) (E:XK):Cx where
 prog:=P
 w:=w
 K:=K
 mg:=mg
 base:=base
 A:=A.deeper (fy qual scope s.heap.objs.size f cd)
 N:=N
 s₀:=s
 H₀:=H
 env:=fy qual scope s.heap.objs.size f cd
 outer:=outer
 stack:=fy qual scope s.heap.objs.size f cd::outer
 ex:=[]
 calm:=au
 fn:=λ_=>au
 pn:=[]
 xe:=λe s'=>wpAny (model P w) (A.deeper (fy qual scope s.heap.objs.size f cd)) (leaving (fy qual scope s.heap.objs.size f cd) e) (λ_ xl=>CX outer H s E e xl) (λe' xl=>CX outer H s E e' xl) s'
theorem YE {b:eN}(h:b.names.lookup x=ak .cell):∃c,(cellsFrom n b.names []).lookup x=ak c:=by have q:=b9Z b.names n [] (.inl h);exact xX.mp q
theorem UP {K:Frg} (S:FnScope N ps scope) (hd:A.handled=am) (M:Env0 P w K mg base A outer s H) (D:vs.length=ps.length) (r:Vals vs m) (x:InCallC s s.heap.objs.size (bindL (fy qual scope s.heap.objs.size f cd).kindOf (ps.zip m) λ_=>am) (cellsFrom (s.heap.objs.size+1) scope.names []) (bindC (fy qual scope s.heap.objs.size f cd).kindOf (ps.zip m) λ_=>am) T) :
   Inv (IC CX P w K mg base N qual scope f cd A outer s H E) [] (E5 N vs) H T:=by
 have B:ps.length<=N.length:=by have:=congrArg b9W S.pre;rw[a0K] at this;lia
 obtain⟨h1,J,rfl,hk⟩:=x.done;have g:∀b:Addr,b∉(IC CX P w K mg base N qual scope f cd A outer s H E).ex:=λb z=>absurd (show b∈([]:List Addr) from z) (by simp);refine#[#[M.mod,S.kind,rfl,rfl,zR _,λy z c h1 t=>?_,λy hy=>?_,λy c _ h=>?_,λ_=>hd,Around.frames_deeper M.frames,.inr #[rfl,rfl],λb z=>absurd z (g b),M.bs,M.bsz,λb _ _=>g b,λb z=>absurd z (g b),M.funs,M.frf],
   rfl,M.bare,Un.kept hk,#[_,x.toInCall.ns,λi y v h1 t G=>?_],λy c h=>#[_,x.cell y c h],M.hok.fresh (zR _),λy c h=>?_,λp hp=>absurd (show p∈([]:List (Addr×cy)) from hp) (by simp),M.hok.kept hk,?_]
 . exact name_of_addr x.apart (a5W h1) (a5W t)
 . have hy:scope.names.lookup y=ak .cell\/scope.names.lookup y=ak .free:=hy;rcases hy with hy | hy;. exact YE hy
   . exact absurd rfl (S.nofree _ (a5W hy))
 . exact xR (x.above y c (a5W h))
 . have hi:i < vs.length:=by
     unfold E5 at t;by_cases hi:i < vs.length;. exact hi
     . rw[List.getElem?_append_right (by simpa using hi)] at t;rw[List.getElem?_replicate] at t;split at t <;> cases t
   have O:vs[i]?=ak v:=by
     unfold E5 at t;rw[yQ (by simpa using hi),zF] at t;cases e:vs[i]? with
     | none=>rw[e] at t;cases t
     | some a=>rw[e] at t;cases t;rfl
   obtain⟨u,hu,I⟩:=r.get O;have hp:ps[i]?=ak y:=by rw[<-S.pre,List.getElem?_take_of_lt (by lia)];exact h1
   have j:ps.Nodup:=by rw[<-S.pre];exact S.nd.sublist (List.take_sublist _ _)
   refine#[u,I,?_];rcases S.par y (yN hp) with k | k;. exact .inl #[k,UN j hp hu k]
   . obtain⟨c,e⟩:=YE (n:=s.heap.objs.size+1) k;refine .inr #[.inl k,c,e,?_];have q:=x.cell y c e;rw[UO j hp hu (by show scope.names.lookup y≠_;rw[k];decide)] at q;exact q
 . exact M.hok.fresh (xR (x.above y c (a5W h)))
 . unfold E5;show _=N.length;rw[yY,zX,List.length_replicate];lia
theorem A1D {CX:CXT}{P:bn}{w:bj}{K:Frg}{mg:Str->Option ap}{base:cc}{k:Nat}{f:Addr}{name qual:Str}{params:Arguments}{body:List eg}{scope:eN}{p kV doc h cdv ct G:ap}{m L:Option Addr} {osl:Array (Option ap)}{N ps:List Str}{sp:Sp}(B:K.lookup f=ak #[G,L,.func (a5Q name qual params body scope p kV doc h m cdv ct),osl]) (U:b0Z K cdv qual=au) (S:FnScope N ps scope) (len:∀vs H Q E,sp vs H Q E->vs.length=ps.length) (z:∀(A:bx) (outer:List ic) (s:av) (H:Hp) (vs:List V) (Q:VK) (E:XK),Room k (A.deeper (fy qual scope s.heap.objs.size f cdv))->sp vs H Q E ->∃t,PSs (IC CX P w K mg base N qual scope f cdv A outer s H E) body t/\t { nx:=λ_ H'=>Q .non H',rt:=Q } (E5 N vs) H) :
   FnOk P w K mg base CX (k+1) f (a5Q name qual params body scope p kV doc h m cdv ct) ps sp:=by
 refine#[len,λA outer s H args Y vs Q E hr M hb r g=>?_];have O:=len _ _ _ _ g;have KX:K.In s.heap:=M.mod.kin.keeps λb o e=>(M.bs b o e).1;have lim:s.heap.NoLimit:=M.mod.nolimit.keeps λb o e=>(M.bs b o e).1;have X:∀y∈ps.zip Y,scope.names.lookup y.1=ak .local\/(scope.names.lookup y.1=ak .cell/\((cellsFrom (s.heap.objs.size+1) scope.names []).lookup y.1).isSome=au):=λ#[n,v] hy=>by
   rcases S.par n (b3K hy).1 with q | q;. exact .inl q
   . exact .inr #[q,b9Z _ _ _ (.inl q)]
 refine codeAny_call_function hr.depth (KX _ _ B) rfl S.co S.gen rfl (PySem.W.codeRec_of KX U) (hb _ _ _ _ ?_);refine wpAny_newFunctionEnv_cells S.kind X λenv he j x=>?_;subst he;refine#[lim.keeps x.toInCall.keep,codeAny_func ?_];obtain⟨t,D,hq⟩:=z A outer s H vs Q E (hr.deeper _) g;have I:Inv (IC CX P w K mg base N qual scope f cdv A outer s H E) [] (E5 N vs) H j:=UP S hr.hd M O r x;refine bf (D [] j (E5 N vs) H _ I hq) (λT s' hs=>?_) λe s' hs=>hs;have fin:∀{c:St}{H':Hp}{v:V}{u:ap},Inv (IC CX P w K mg base N qual scope f cdv A outer s H E) [] c H' s'->RelV v u->Q v H'->CE outer P w H s Q u s':=
   λ{c H' v u} J i q=>#[v,H',J.os,J.bare,J.base,J.hok,i,q]
 cases T with
 | ret u=> obtain⟨v,c,H',J,i,q⟩:=hs;exact fin J i q
 | next=> obtain⟨c,H',J,q⟩:=hs;exact fin (v:=V.non) (u:=a1Z) J rfl q
 | brk=> obtain⟨_,_,_,q⟩:=hs;exact a6W q
 | cont=> obtain⟨_,_,_,q⟩:=hs;exact a6W q
section
variable {X:Cx}{x:Str}{p pos:en}{e:bp}{es:List bp}{t:TA}{id T:String}{r:List V->Hp->VK->Prop}
def tCB (r:List V->Hp->VK->Prop) (t:TA):TE:=λm H Q=>t m H λi n=>r i n Q
theorem GY (hc:D9 X (.builtin id) r) (hg:Gl X x) (q:X.mg x=am) (N:gc x=ak (.builtin id)) (b:PA X (e::es) t) (hn:x ≠ "__name__" := by decide) (m:(x==("__debug__":Str))=false:=by decide)
   (he:starEach (e::es) X.env=(aB,eval e X.env)::starEach es X.env:=by rfl) (c:(backTo pos (starEach es X.env)).any (·.1)=false:=by rfl):PE X (.Call (.Name x p) (e::es) [] pos) (tCB r t):=by intro pins s n H Q I h;refine c4 (OD I hg q N ?_ hn m);exact PyProof.Rows.callWith_builtin1 (thn (b pos pins s n H _ I h) λj g #[k,i,J,v,f]=>hc pins g n i k j Q J v f) he c
theorem UQ (hc:D9 X (.type T) r) (hg:Gl X x) (q:X.mg x=am) (N:gc x=ak (.type T)) (b:PA X (e::es) t) (hn:x ≠ "__name__" := by decide) (m:(x==("__debug__":Str))=false:=by decide)
   (he:starEach (e::es) X.env=(aB,eval e X.env)::starEach es X.env:=by rfl) (c:(backTo pos (starEach es X.env)).any (·.1)=false:=by rfl):PE X (.Call (.Name x p) (e::es) [] pos) (tCB r t):=by intro pins s n H Q I h;refine c4 (OD I hg q N ?_ hn m);exact xH (thn (b pos pins s n H _ I h) λj g #[k,i,J,v,f]=>hc pins g n i k j Q J v f) he c
end
end L2
namespace HT
open PySem PyProof.Rows
section
def sIx (n d:Nat):Option Int->Nat
 | none=>d
 | some v=>if v < 0 then (v+(n:Int)).toNat else min v.toNat n
theorem sIx_nat (n d k:Nat):sIx n d (ak (k:Int))=min k n:=by show(if (k:Int) < 0 then ((k:Int)+(n:Int)).toNat else min (k:Int).toNat n)=min k n;rw[if_neg (by lia),a7W]
theorem A2H (n d:Nat) (hd:d<=n) (o:Option Int):sIx n d o<=n:=by
 cases o with
 | none=>exact hd
 | some v=>
   show(if v < 0 then (v+(n:Int)).toNat else min v.toNat n)<=n;by_cases N:v < 0;. rw[if_pos N];lia
   . rw[if_neg N];exact Nat.min_le_right _ _
theorem fU (v:Int) (n d:Nat):(if v < 0 then max (v+(n:Int)) 0 else min v (n:Int))=((sIx n d (ak v):Nat):Int):=by
 show(if v < 0 then max (v+(n:Int)) 0 else min v (n:Int))=(((if v < 0 then (v+(n:Int)).toNat else min v.toNat n):Nat):Int);by_cases N:v < 0;. simp only[if_pos N];lia
 . simp only[if_neg N];lia
theorem cL (e hi:Option Int) (n:Nat):a7K e hi 1 (n:Int)=(((sIx n 0 e:Nat):Int),((sIx n n hi:Nat):Int)):=by
 have h1:¬((1:Int) < 0):=by lia
 unfold a7K;simp only[h1,if_false];refine Prod.ext ?_ ?_
 . cases e with
   | none=>rfl
   | some v=>exact fU v n 0
 . cases hi with
   | none=>rfl
   | some v=>exact fU v n n
theorem cM (i j:Nat):a3X (i:Int) (j:Int) 1=j - i:=by
 unfold a3X;have h1:(1:Int) > 0:=by lia
 simp only[h1,if_true,Int.ediv_one];split <;> lia
theorem RC (p:i3 v o) (h:Q o s):wpAny (model prog w) A (Builtin.Slice.slicePartIndex v) Q E s:=by
 cases p with
 | none=>exact iq h
 | int i t=>exact slicePart_int h
theorem GZ {n:Nat}(hs:s.heap.IsSliceOf sl i S .none) (Y:i3 i e) (q:i3 S hi) (h:Q (((sIx n 0 e:Nat):Int),1,sIx n n hi - sIx n 0 e) s):wpAny (model prog w) A (b0V (.ref sl) (pure (n:Int))) Q E s:=by obtain⟨U,Z,u,t⟩:=id hs;unfold b0V Builtin.Slice.sliceFields;refine zZ (zZ (bd Z t (x:=i) rfl (zZ (bd Z t (x:=S) rfl (zZ (bd Z t (x:=.none) rfl (zY ?_)))))));refine zZ (iq ?_);show wpAny _ _ (if ((1:Int)==0)=au then _ else _) _ _ s;rw[if_neg `kh];refine zZ (RC Y (zZ (RC q (zZ (zY ?_)))));show wpAny _ _ (match a7K e hi 1 (n:Int) with | (e,hi)=>pure (e,(1:Int),a3X e hi 1)) _ _ s;rw[cL e hi n];show wpAny _ _ (pure (((sIx n 0 e:Nat):Int),(1:Int),a3X ((sIx n 0 e:Nat):Int) ((sIx n n hi:Nat):Int) 1)) _ _ s;rw[cM];exact zY h
theorem nI (xs:Array ap) (i k:Nat):((a1X k).filterMap λ(m:Nat)=>xs[((i:Int)+(m:Int)*1).toNat]?).toArray=((xs.toList.drop i).take k).toArray:=by
 have e:(λ(m:Nat)=>xs[((i:Int)+(m:Int)*1).toNat]?)=λm=>xs[i+m]?:=by
   funext m;have:((i:Int)+(m:Int)*1).toNat=i+m:=by lia
   rw[this]
 rw[e];have:=pick_run xs i k;rw[List.filterMap_map] at this;have g:((λx=>xs[x]?)∘λx=>i+x)=λm=>xs[i+m]?:=rfl;rw[g] at this;rw[this]
theorem getItem_tuple_cut (n:IsTup s.heap t items) (hs:s.heap.IsSliceOf sl i S .none) (Y:i3 i e) (p:i3 S hi) (r:¬(sIx items.size 0 e=0/\sIx items.size items.size hi=items.size)) (h:Q (.ref s.heap.objs.size) { s with heap:=s.heap.push { cls:=.type "tuple", data:=.seq ((items.toList.drop (sIx items.size 0 e)).take (sIx items.size items.size hi - sIx items.size 0 e)).toArray } }) (hsz:items.size<=a0):wpAny (model prog w) A (fk (.ref t) (.ref sl)) Q E s:=by
 have z:sizeOk (.seq ((items.toList.drop (sIx items.size 0 e)).take (sIx items.size items.size hi - sIx items.size 0 e)).toArray):=by show((items.toList.drop (sIx items.size 0 e)).take (sIx items.size items.size hi - sIx items.size 0 e)).toArray.size<=a0;rw[zJ,a0K,b5J,a6Q];lia
 have c:sIx items.size items.size hi<=items.size:=A2H _ _ (zR _) hi;obtain⟨U,Z,u,j⟩:=id hs;have b:s.TypeIs (.ref sl) "slice" := #[U,Z,u]
 unfold fk;try with_reducible refine bt ?_
 first | refine zZ (zY ?_) | skip
 refine zZ (wpAny_sequenceKey n.typeIs `kh ?_);refine zZ (wpAny_callSpecial?_slot (name:=a0Q "__getitem__") n.typeIs a4X (ce a4X n.typeIs jg ?_ (args_tuple_getitem _ _)));show wpAny _ _ (b5X (.ref t) >>= _) _ _ s;refine zZ (tupleItemsOf_ n ?_);refine zZ (ga b ?_);rw[if_pos `kh];refine zZ (GZ hs Y p ?_);have M:¬((((sIx items.size 0 e:Nat):Int)==0&&(1:Int)==1&&(sIx items.size items.size hi - sIx items.size 0 e)==items.size)=au):=by intro q;rw[a0V,a0V] at q;have f:((sIx items.size 0 e:Nat):Int)=0:=eq_of_beq q.1.1;have g:sIx items.size items.size hi - sIx items.size 0 e=items.size:=eq_of_beq q.2;exact r #[by lia,by lia]
 show wpAny _ _ (if (((sIx items.size 0 e:Nat):Int)==0&&(1:Int)==1&&(sIx items.size items.size hi - sIx items.size 0 e)==items.size)=au then _ else _) _ _ s;rw[if_neg M,nI];first
   | exact zZ (m:=a3W _) (xM (zY #[_,rfl,zY h]) z)
   | exact zZ (m:=a3W _) (xM (zZ (zY (zY #[_,rfl,zY h]))) z)
   | exact zZ (zZ (m:=a3W _) (xM (zY (zY #[_,rfl,zY h])) z))
   | exact zZ (zZ (m:=a3W _) (xM (zY #[_,rfl,zY h]) z))
end
end HT
namespace L2
open PySem PySem.Spec PyProof.Rows
abbrev TO:=St->Hp->(Option Int->Hp->Prop)->Prop
def PO (X:Cx) (e:Option bp) (t:TO):Prop:=∀(pins:List (Addr×cy)) (s:av) (n:St) (H:Hp) (Q:Option Int->Hp->Prop),Inv X pins n H s->t n H Q ->
   wpAny (model X.prog X.w) X.A (evalPart e X.env) (λu s'=>∃o H',Inv X pins n H' s'/\i3 u o/\Q o H') X.xe s
def fV:TO:=λ_ H Q=>Q am H
def A1E (t:TE):TO:=λn H Q=>t n H λx e=>∃i,x = .int i/\Q (ak i) e
section
variable {X:Cx}{e:bp}{te:TE}{lo hi:Option bp}{tl th:TO}{pos p2:en}
theorem uY:PO X am fV:=by intro pins s t H Q I h;rw[evalPart_none];exact zY #[am,H,I,.none,h]
theorem uZ (h:PE X e te):PO X (ak e) (A1E te):=by intro pins s p H Q I r;rw[evalPart_some];refine thn (h pins s p H _ I r) λu b #[x,n,J,v,m]=>?_;obtain⟨i,rfl,q⟩:=m;obtain⟨t,rfl⟩:=v;exact#[ak i,n,J,.int i t,q]
def SlR (X:Cx) (r:V->Option Int->Option Int->Hp->VK->Prop):Prop:=∀(pins:List (Addr×cy)) (s:av) (n:St) (H:Hp) (x:V) (v t S:ap) (lo hi:Option Int) (sl:Addr) (Q:VK),Inv X pins n H s->RelV x v->s.heap.IsSliceOf sl t S .none->i3 t lo->i3 S hi->r x lo hi H Q ->∃T id,ew (.type T) "__getitem__"=pure (ak (.builtin id))/\s.TypeIs v T/\wpAny (model X.prog X.w) X.A (fk v (.ref sl)) (EP X pins n Q) X.xe s
theorem SlR.or (h:SlR X r) (h':SlR X L):SlR X (λx lo hi H Q=>r x lo hi H Q\/L x lo hi H Q):=by
 intro pins s m H x v i S lo hi sl Q I n hs Y t q;rcases q with q | q;. exact h pins s m H x v i S lo hi sl Q I n hs Y t q
 . exact h' pins s m H x v i S lo hi sl Q I n hs Y t q
def tSl (r:V->Option Int->Option Int->Hp->VK->Prop) (te:TE) (tl th:TO):TE:=λt H Q=>te t H λx n=>tl t n λl f=>th t f λu i=>r x l u i Q
theorem nJ {r:V->Option Int->Option Int->Hp->VK->Prop}(hr:SlR X r) (he:PE X e te) (y:PO X lo tl) (hu:PO X hi th):PE X (.Subscript e (.Slice lo hi am p2) pos) (tSl r te tl th):=by intro pins s n H Q I h;refine Subscript_ (thn (he pins s n H _ I h) λv G #[x,p,J,B,O]=>?_);refine wpAny_Slice (thn (y pins G n p _ J O) λi L #[l,f,c,Y,M]=>thn (hu pins L n f _ c M) λS t #[u,m,g,N,D]=>?_);rw[evalPart_none];refine zY ?_;have j:Inv X pins n m { t with heap:=t.heap.push { cls:=.type "slice", data:=.fields (y9 [i,S,.none]) } }:=g.kept (t':=t.toks) λb U q=>zW _ q;obtain⟨T,id,k,z,hg⟩:=hr pins { t with heap:=t.heap.push { cls:=.type "slice", data:=.fields (y9 [i,S,.none]) } } n m x v i S l u t.heap.objs.size Q j B (Heap.IsSliceOf.new ..) Y N D;show wpAny (model X.prog X.w) X.A (subscriptTail e (.Slice lo hi am p2) v (.ref t.heap.objs.size)) (EP X pins n Q) X.xe { t with heap:=t.heap.push { cls:=.type "slice", data:=.fields (y9 [i,S,.none]) } };exact tail_any (ops:=[.ref t.heap.objs.size,v]) z k hg (by with_unfolding_all rfl)
def MD (xs:List V) (lo hi:Option Int):List V:=(xs.drop (HT.sIx xs.length 0 lo)).take (HT.sIx xs.length xs.length hi - HT.sIx xs.length 0 lo)
theorem PQ (xs:List V) (lo hi:Option Int):(MD xs lo hi).length<=xs.length:=by unfold MD;rw[a0K,b5J];lia
def A5Q (K:Frg):V->Option Int->Option Int->Hp->VK->Prop:=λx lo hi H Q=>∃a t,x = .ref a/\SqT K H a t /\
 ¬(HT.sIx t.length 0 lo=0/\HT.sIx t.length t.length hi=t.length)/\∀p,H p=am->Q (.ref p) (upd H p (.tup (MD t lo hi)))
theorem A2I:SlR X (A5Q X.K):=by
 intro pins s j H x v g S lo hi sl Q I c hs Y p h;obtain⟨a,t,rfl,hx,m,q⟩:=h;cases c;obtain⟨i,r,n,u⟩:=I.tuple hx;have k:i.toArray.size=t.length:=by rw[zJ];exact r.length.symm
 refine#["tuple", _,PyProof.Rows.slot_tuple_getitem.lookup,n.typeIs,?_];refine HT.getItem_tuple_cut n hs Y p (by rw[k];exact m) ?_ (by rw[k];exact u);rw[k];refine#[.ref s.heap.objs.size,_,I.laid (t':=s.toks) (o:=.tup (MD t lo hi)) (λb f q=>zW _ q) (zR _) ?_,rfl,q _ (I.hok.fresh (zR _))];exact#[zN (PQ t lo hi) u,_,(r.drop (HT.sIx t.length 0 lo)).take (HT.sIx t.length t.length hi - HT.sIx t.length 0 lo),IsTup.new _ _]
end
def ixN (n:Nat) (i:Int):Option Nat:=if 0<=i then (if i < n then ak i.toNat else am) else if -(n:Int)<=i then ak (i+n).toNat else am
def atI {D:Type}(xs:List D) (i:Int):Option D:=(ixN xs.length i).bind λj=>xs[j]?
theorem v0 (h:ixN n i=ak j):seqIndex? i n=ak j/\j < n/\-(n:Int)<=i/\i < n:=by
 unfold ixN at h;by_cases I:0<=i
 . rw[if_pos I] at h;by_cases h1:i < n;. rw[if_pos h1] at h;have e:i.toNat=j:=Option.some.inj h;exact#[by rw[seqIndex_of I h1,e],by lia,by lia,h1]
   . rw[if_neg h1] at h;cases h
 . rw[if_neg I] at h;by_cases h1 : -(n:Int)<=i;. rw[if_pos h1] at h;have e:(i+n).toNat=j:=Option.some.inj h;exact#[by rw[seqIndex_neg (by lia) h1,e],by lia,h1,by lia]
   . rw[if_neg h1] at h;cases h
theorem W3 {v:D}(h:atI xs i=ak v):∃j,seqIndex? i xs.length=ak j/\xs[j]?=ak v/\j < xs.length/\-(xs.length:Int)<=i/\i < xs.length:=by
 unfold atI at h;cases e:ixN xs.length i with
 | none=>rw[e] at h;cases h
 | some j=> rw[e] at h;obtain⟨h1,n,G,t⟩:=v0 e;exact#[j,h1,h,n,G,t]
theorem AJ {D:Type}{xs:List D}{j:Nat}{v:D}(h:xs[j]?=ak v):atI xs (j:Int)=ak v:=by
 have u:j < xs.length:=(yT.mp h).1;have e:ixN xs.length (j:Int)=ak j:=by unfold ixN;rw[if_pos (by lia),if_pos (by lia)];simp
 unfold atI;rw[e];exact h
def v3 (b:bp):Prop:=∀o i,subscripted b aB o i=operate [o,i] (fk o i)
def IxR (X:Cx) (r:R2):Prop:=∀(value slice:bp) (pins:List (Addr×cy)) (s:av) (e:St) (H:Hp) (x y:V) (v u:ap) (Q:VK),Inv X pins e H s->RelV x v->RelV y u->r x y H Q ->
   subscripted slice aB v u=operate [v,u] (fk v u)->wpAny (model X.prog X.w) X.A (subscriptTail value slice v u) (EP X pins e Q) X.xe s
def MtR (X:Cx) (id:String) (r:V->List V->Hp->VK->Prop):Prop:=∀(pins:List (Addr×cy)) (s:av) (n:St) (H:Hp) (x:V) (t:List V) (v:ap) (e:List ap) (Q:VK),Inv X pins n H s->RelV x v->Vals t e->r x t H Q ->
   wpAny (model X.prog X.w) X.A (call (.builtin id) (v::e)) (EP X pins n Q) X.xe s
section
variable {X:Cx}{a b:bp}{ta tb:TE}{pos:en}
theorem IxR.or (h:IxR X r) (h':IxR X L):IxR X (λx y H Q=>r x y H Q\/L x y H Q):=by
 intro value slice pins s n H x y v u Q I e t q hs;rcases q with q | q;. exact h value slice pins s n H x y v u Q I e t q hs
 . exact h' value slice pins s n H x y v u Q I e t q hs
theorem A4P {r:R2}(hr:IxR X r) (t:PE X a ta) (hb:PE X b tb) (hs:v3 b):PE X (.Subscript a b pos) (tOp r ta tb):=by intro pins s p H Q I h;exact Subscript_ (A1t t hb I h λv u m x y f e n i q=>hr a b pins m p f x y v u Q e n i q (hs _ _))
def A2J (K:Frg):R2:=λx y H Q=>∃p t i v,x = .ref p/\y = .int i/\SqL K H p t/\atI t i=ak v/\Q v H
def A2K (K:Frg):R2:=λx y H Q=>∃p t i v,x = .ref p/\y = .int i/\SqT K H p t/\atI t i=ak v/\Q v H
def A2L:R2:=λx y H Q=>∃z i c,x = .str z/\y = .int i/\z.length<=a0/\atI z.cps.toList i=ak c/\Q (.str #[(y9 [c])]) H
theorem v4:IxR X (A2J X.K):=by
 intro value slice pins s m H x y v u Q I N O h hs;obtain⟨p,D,i,z,rfl,rfl,hq,he,q⟩:=h;cases N;obtain⟨t,rfl⟩:=O;obtain⟨c,r,Y,M⟩:=I.list hq;obtain⟨j,h1,f,G,g,Z⟩:=W3 he;obtain⟨w,S,T⟩:=r.get f;have k:=r.length;have hn:=W0;have fin:EP X pins m Q w s:=#[z,H,I,T,q]
 by_cases n:0<=i
 . have e:i.toNat=j:=by rw[seqIndex_of n Z] at h1;exact Option.some.inj h1
   exact item_listR Y.isList n (by lia) (by rw[e];simpa using S) fin hs
 . have e:(i+(c.toArray.size:Int)).toNat=j:=by rw[seqIndex_neg (by lia) g] at h1;rw[zJ,<-k];exact Option.some.inj h1
   exact subscriptTail_builtinR (x:=w) Y.isList.typeIs slot_list_getitem.lookup (wpAny_getItem_list_neg (Q:=λr s'=>r=w/\EP X pins m Q r s') Y.isList (by lia) (by rw[zJ] <;> lia) (by lia) (by rw[e];simpa using S) #[rfl,fin]) hs
theorem A2M:IxR X (A2K X.K):=by
 intro value slice pins s e H x y v u Q I f g h hs;obtain⟨p,O,i,z,rfl,rfl,hq,he,q⟩:=h;cases f;obtain⟨t,rfl⟩:=g;obtain⟨k,r,Y,N⟩:=I.tuple hq;obtain⟨j,h1,n,G,T,Z⟩:=W3 he;obtain⟨w,S,c⟩:=r.get n;have m:=r.length;have hn:=W0;have fin:EP X pins e Q w s:=#[z,H,I,c,q]
 exact subscriptTail_builtinR (x:=w) Y.typeIs slot_tuple_getitem.lookup (getItem_tuple (j:=j) (Q:=λr s'=>r=w/\EP X pins e Q r s') Y (by lia) (by lia) (by rw[zJ,<-m];exact h1) (by simpa using S) #[rfl,fin]) hs
theorem A2N:IxR X A2L:=by
 intro value slice pins s N H x y v u Q I p f h hs;obtain⟨z,i,c,rfl,rfl,k,he,q⟩:=h;obtain⟨t,rfl⟩:=p;obtain⟨T,rfl⟩:=f;obtain⟨j,h1,n,G,r,Z⟩:=W3 he;have m:z.cps.toList.length=z.length:=by simp[Str.length]
 rw[m] at h1 r Z;have hn:=W0;exact tail_any (typeIs_str s z t) slot_str_getitem.lookup (getItem_str (c:=c) (by
   have e:decide (i < -(2 ^ 63:Int))=false:=decide_eq_false (by lia);have g:decide (i≥2 ^ 63)=false:=decide_eq_false (by lia);rw[e,g,Bool.or_false]) (by rw[h1];simpa using n) #[.str #[(y9 [c])],H,I.tok _,#[_,rfl],q]) hs
theorem W4 (e hi:Option Int) (n:Nat):(ft e hi am n).1=((HT.sIx n 0 e:Nat):Int)/\(ft e hi am n).2.1=((HT.sIx n n hi:Nat):Int)/\(ft e hi am n).2.2=1:=by
 refine#[?_,?_,rfl]
 . cases e with
   | none=>simp[ft,HT.sIx]
   | some i=>
     simp only[ft,HT.sIx,Option.getD_none,show(1:Int) > 0 by decide,if_true];by_cases h:i < 0;. simp only[h,if_true] <;> lia
     . simp only[h,if_false] <;> lia
 . cases hi with
   | none=>simp[ft,HT.sIx]
   | some i=>
     simp only[ft,HT.sIx,Option.getD_none,show(1:Int) > 0 by decide,if_true];by_cases h:i < 0;. simp only[h,if_true] <;> lia
     . simp only[h,if_false] <;> lia
theorem TY (e:List ap) (t hi:Option Int):slicePick e.toArray t hi am=((e.drop (HT.sIx e.length 0 t)).take (HT.sIx e.length e.length hi - HT.sIx e.length 0 t)).toArray:=by obtain⟨h1,n,G⟩:=W4 t hi e.toArray.size;unfold slicePick;rw[h1,n,G];simp only[sliceRange_one,pick_run,zJ] <;> rfl
def A2O (K:Frg):V->Option Int->Option Int->Hp->VK->Prop:=λx e hi H Q=>∃a t,x = .ref a/\SqL K H a t/\∀p,H p=am->Q (.ref p) (upd H p (.lst (MD t e hi)))
theorem v6:SlR X (A2O X.K):=by intro pins s g H x v f S e hi sl Q I m hs Y i h;obtain⟨a,t,rfl,hx,q⟩:=h;cases m;obtain⟨p,r,n,u⟩:=I.list hx;have k:=r.length;refine#["list", _,slot_list_getitem.lookup,n.isList.typeIs,?_];refine wpAny_getItem_list_slice n.isList hs Y i .none (by simp) ?_ (by rw[zJ] <;> lia);rw[TY,<-k];refine#[.ref s.heap.objs.size,_,I.laid (t':=s.toks) (o:=.lst (MD t e hi)) (λb c q=>zW _ q) (zR _) ?_,rfl,q _ (I.hok.fresh (zR _))];exact#[zN (PQ t e hi) u,_,0,(r.drop (HT.sIx t.length 0 e)).take (HT.sIx t.length t.length hi - HT.sIx t.length 0 e),yZ _ rfl]
def LN:V->Bool
 | .non=>au
 | .bl _=>au
 | .int _=>au
 | .str _=>au
 | _=>aB
def eqV:V->V->Bool
 | .non,.non=>au
 | .bl a,.bl b=>a==b
 | .bl a,.int b=>(if a then 1 else 0)==b
 | .int a,.bl b=>a==(if b then 1 else 0)
 | .int a,.int b=>a==b
 | .str a,.str b=>a==b
 | _,_=>aB
theorem A2P (r:RelV y u) (e:RelV x v) (m:LN y=au) (i:LN x=au):SeqAt.EqAt A s u v (eqV y x):=by
 cases y with
 | non=>
   cases r;cases x with
   | non=>cases e;exact SeqAt.EqAt.same _
   | bl b=>cases e;exact SeqAt.EqAt.none_bool b
   | int b=>obtain⟨t,rfl⟩:=e;exact SeqAt.EqAt.none_int b t
   | str b=>obtain⟨t,rfl⟩:=e;exact SeqAt.EqAt.none_str b t
   | _=>exact absurd (show aB=au from i) nft
 | bl a=>
   cases r;cases x with
   | non=>cases e;exact SeqAt.EqAt.bool_none a
   | bl b=>cases e;exact SeqAt.EqAt.bool_bool a b
   | int b=>obtain⟨t,rfl⟩:=e;exact SeqAt.EqAt.bool_int a b t
   | str b=>obtain⟨t,rfl⟩:=e;exact SeqAt.EqAt.bool_str a b t
   | _=>exact absurd (show aB=au from i) nft
 | int a=>
   obtain⟨n,rfl⟩:=r;cases x with
   | non=>cases e;exact SeqAt.EqAt.int_none a n
   | bl b=>cases e;exact SeqAt.EqAt.int_bool a n b
   | int b=>obtain⟨t,rfl⟩:=e;exact SeqAt.EqAt.int_int a n b t
   | str b=>obtain⟨t,rfl⟩:=e;exact SeqAt.EqAt.int_str a n b t
   | _=>exact absurd (show aB=au from i) nft
 | str a=>
   obtain⟨n,rfl⟩:=r;cases x with
   | non=>cases e;exact SeqAt.EqAt.str_none a n
   | bl b=>cases e;exact SeqAt.EqAt.str_bool a n b
   | int b=>obtain⟨t,rfl⟩:=e;exact SeqAt.EqAt.str_int a n b t
   | str b=>obtain⟨t,rfl⟩:=e;exact SeqAt.EqAt.str_str a n b t
   | _=>exact absurd (show aB=au from i) nft
 | _=>exact absurd (show aB=au from m) nft
def eqU (x:V) (u:ap):Bool:=match u with
 | .none=>eqV .non x
 | .bool b=>eqV (.bl b) x
 | .int i _=>eqV (.int i) x
 | .str z _=>eqV (.str z) x
 | _=>aB
theorem nK (r:RelV y u) (f:LN y=au):eqU x u=eqV y x:=by
 cases y with
 | non=>cases r;rfl
 | bl b=>cases r;rfl
 | int i=>obtain⟨t,rfl⟩:=r;rfl
 | str z=>obtain⟨t,rfl⟩:=r;rfl
 | _=>exact absurd (show aB=au from f) nft
theorem N5 :∀{xs:List V}{v:List ap},Vals xs v->xs.all LN=au->v.any (eqU x)=xs.any λy=>eqV y x
 | _,_,.nil,_=>rfl
 | y::xs,u::v,.cons r t,f=>by rw[List.all_cons,a0V] at f;rw[b3V,b3V,nK r f.1,N5 t f.2]
theorem JR (i:RelV x v) (n:LN x=au):∀{xs:List V}{e:List ap},Vals xs e->xs.all LN=au->∀u∈e,SeqAt.EqAt A s u v (eqU x u)
 | _,_,.nil,_=>λu hu=>by cases hu
 | y::xs,u::e,.cons r t,f=>λm hu=>by
   rw[List.all_cons,a0V] at f;rcases yX.mp hu with rfl | hu;. rw[nK r f.1];exact A2P r i f.1 n
   . exact JR i n t f.2 m hu
def inV (x:V) (xs:List V):Bool:=xs.any λy=>eqV y x
def rIn (K:Frg) (neg:Bool):R2:=λx y H Q=>∃p t,y = .ref p/\(SqL K H p t\/SqT K H p t)/\LN x=au/\t.all LN=au/\Q (.bl (if neg then !inV x t else inV x t)) H
theorem jG:OpR X (bq .In) (rIn X.K aB):=by
 intro pins s g H x y v u Q I i c h;obtain⟨p,f,rfl,hq,n,fs,q⟩:=h;cases c;rcases hq with hq | hq;. obtain⟨e,r,Y,m⟩:=I.list hq;refine SeqAt.in_listAt (eqU x) Y.isList (λw t=>JR i n r fs w (by simpa using t)) #[.bl _,H,I,rfl,?_];rw[show e.toArray.any (eqU x)=e.any (eqU x) by simp,N5 r fs];exact q
 . obtain⟨e,r,Y,m⟩:=I.tuple hq;refine SeqAt.in_tupleAt (eqU x) Y (λw t=>JR i n r fs w (by simpa using t)) #[.bl _,H,I,rfl,?_];rw[show e.toArray.any (eqU x)=e.any (eqU x) by simp,N5 r fs];exact q
theorem W5:OpR X (bq .NotIn) (rIn X.K au):=by
 intro pins s g H x y v u Q I i c h;obtain⟨p,f,rfl,hq,n,fs,q⟩:=h;cases c;rcases hq with hq | hq;. obtain⟨e,r,Y,m⟩:=I.list hq;refine SeqAt.notIn_listAt (eqU x) Y.isList (λw t=>JR i n r fs w (by simpa using t)) #[.bl _,H,I,rfl,?_];rw[show e.toArray.any (eqU x)=e.any (eqU x) by simp,N5 r fs];exact q
 . obtain⟨e,r,Y,m⟩:=I.tuple hq;refine SeqAt.notIn_tupleAt (eqU x) Y (λw t=>JR i n r fs w (by simpa using t)) #[.bl _,H,I,rfl,?_];rw[show e.toArray.any (eqU x)=e.any (eqU x) by simp,N5 r fs];exact q
theorem TZ:D9 X (.type "tuple") (λxs H Q=>∃p ys,xs=[.ref p]/\((SqL X.K H p ys/\∀l,H l=am->Q (.ref l) (upd H l (.tup ys)))\/(SqT X.K H p ys/\Q (.ref p) H))):=by
 intro pins s m H xs v Q I r h;obtain⟨p,ys,rfl,h⟩:=h;obtain⟨u,rfl,g⟩:=JB r;cases g;rcases h with ⟨hq,q⟩ | ⟨hq,q⟩
 . obtain⟨n,L,Y,i⟩:=I.list hq;have k:=L.length;refine call_tuple_list Y.isList (λt f=>?_) (by simp only[zJ] <;> lia);have J:Inv X pins m H { s with heap:=t }:=I.kept (t':=s.toks) f;have c:Inv X pins m (upd H t.objs.size (.tup ys)) { s with heap:=t.push { cls:=.type "tuple", data:=.seq n.toArray } }:=
     J.laid (t':=s.toks) (λb o e=>zW _ e) (zR _) (show ObjOk X.prog X.w _ _ _ (.tup ys) from #[i,n,L,IsTup.new _ _]);exact#[.ref t.objs.size,_,c,rfl,q _ (J.hok.fresh (zR _))]
 . obtain⟨n,L,Y,i⟩:=I.tuple hq;exact call_tuple_same Y #[.ref p,H,I,rfl,q]
def tyV (K:Frg) (T:String) (x:V) (H:Hp):Prop:=match x with
 | .str _=>T = "str"
 | .int _=>T = "int"
 | .ref p=>(T = "list" /\ ∃t,SqL K H p t)\/(T = "tuple" /\ ∃o,K.lookup p=ak o/\o.cls = .type "tuple" /\ o.dict=am) \/(T = "dict" /\ ((∃kvs,H p=ak (.dK kvs))\/∃kvs,H p=ak (.dT kvs)))\/(T = "set" /\ ∃S n,H p=ak (.set S n))
 | _=>False
theorem A2Q {h:St}(I:Inv X pins h H s) (r:RelV x v) (ty:tyV X.K T x H) :
   s.TypeIs v T/\∀a,v = .ref a->∃f,s.heap.get? a=ak f/\f.dict=none:=by
 cases x with
 | str z=> obtain⟨t,rfl⟩:=r;cases (show T = "str" from ty);exact#[typeIs_str s z t,λ_ e=>nomatch e]
 | int i=> obtain⟨t,rfl⟩:=r;cases (show T = "int" from ty);exact#[typeIs_int s i t,λ_ e=>nomatch e]
 | ref p=>
   cases r;rcases ty with ⟨rfl,k,hq⟩ | ⟨rfl,o,hk,hc,hd⟩ | ⟨rfl,hk⟩ | ⟨rfl,S,n,hk⟩
   . obtain⟨j,_,Y,_⟩:=I.list hq;refine#[Y.isList.typeIs,λa e=>?_];cases e;obtain⟨o,n,e,c,hd,_⟩:=Y;exact#[o,e,hd]
   . refine#[#[o,I.kIn p o hk,hc],λa e=>?_];cases e;exact#[o,I.kIn _ o hk,hd]
   . have z:∃o,s.heap.get? p=ak o/\o.ExactDict:=by
       rcases hk with ⟨kvs,hk⟩ | ⟨kvs,hk⟩
       . obtain⟨_,_,_,_,o,_,_,e,m,_⟩:=I.hok p _ hk;exact#[o,e,m]
       . obtain⟨_,_,_,_,o,_,_,e,m,_⟩:=I.hok p _ hk;exact#[o,e,m]
     obtain⟨o,e,m⟩:=z;refine#[#[o,e,m.1],λa g=>?_];cases g;exact#[o,e,m.2.1]
   . obtain⟨o,_,_,_,e,m,_⟩:=I.hok p _ hk;refine#[#[o,e,m.1],λa g=>?_];cases g;exact#[o,e,m.2.1]
 | _=>exact a6W ty
def tBM (K:Frg) (T:String) (r:V->List V->Hp->VK->Prop) (to:TE) (t:TA):TE:=λn H Q=>to n H λx e=>tyV K T x e/\t n e λi f=>r x i f Q
variable {o e:bp}{es:List bp}{to:TE}{t:TA}{name:Str}{apos ag:en}{T id:String}{r:V->List V->Hp->VK->Prop}
theorem A4Q (D:PlainAttrs T) (slot:Slot T name id) (G:typeOf (.builtin id)=pure (.type "method_descriptor")) (q:MtR X id r) (ho:PE X o to) (g:PA X (e::es) t) (hbase:attributeBase o name X.env (eval o X.env)=eval o X.env:=by rfl)
   (j:((backTo ag (starEach (e::es) X.env)).all (λx=>!x.1)&&(backToKw ag (keywordEach [] X.env)).all (λx=>x.1.isSome)
     && decide ((e::es).length+([]:List Keyword).length+(if ([]:List Keyword).isEmpty then 0 else 1) < 30))=true:=by rfl)
   (S:(apos.endLine==ag.line)=true:=by rfl) (hs:starEach (e::es) X.env=(aB,eval e X.env)::starEach es X.env:=by rfl) (k:(backTo ag (starEach es X.env)).any (·.1)=false:=by rfl) :
   PE X (.Call (.Attribute o name apos) (e::es) [] ag) (tBM X.K T r to t):=by intro pins s n H Q I h;refine wpAny_Call_method_late hbase j S rfl (thn (ho pins s n H _ I h) λv N #[x,m,J,i,ty,u]=>?_);obtain⟨h1,c⟩:=A2Q J i ty;refine#[T,id,D,slot,G,h1,c,?_];have hA:=g ag pins N n m _ J u;rw[hs] at hA ⊢;refine b9V (by show(aB||(backTo ag (starEach es X.env)).any (·.1))=aB;rw[k] <;> rfl) (Calls.evalArgs_plain ?_);exact thn hA λM O #[B,f,p,z,y]=>q pins O n f x B v M Q p i z y
end
def MtM (X:Cx) (id:String) (r:V->List V->Hp->VK->Prop):Prop:=∀(pins:List (Addr×cy)) (s:av) (n:St) (H:Hp) (x:V) (t:List V) (v:ap) (e:List ap) (Q:VK),Inv X pins n H s->RelV x v->Vals t e->r x t H Q ->
   wpAny (model X.prog X.w) X.A (call (.builtin id) (v::e)) (EP X pins n Q) X.xe s
theorem Vals.one:∀{x:V}{v:List ap},Vals [x] v->∃u,v=[u]/\RelV x u
 | _,_,.cons r .nil=>#[_,rfl,r]
theorem Vals.reverse (h:Vals xs v):Vals xs.reverse v.reverse:=by
 induction h with
 | nil=>exact .nil
 | cons r t Q=>rw[b9Q,b9Q];exact Vals.append Q (.cons r .nil)
section
variable {X:Cx}{pins:List (Addr×cy)}{σ:St}{H:Hp}{s:av}{l b:Addr}{xs ys zs:List V}
theorem Inv.lset {t:List ap}(I:Inv X pins σ H s) (hH:H l=ak (.lst xs)) (e:s.heap.get? l=ak { cls:=.type "list", data:=.seq t.toArray n }) (M:f t.toArray=its'.toArray) (N:Vals ys its') (hz:ys.length<=a0) :
   Inv X pins σ (upd H l (.lst ys)) { s with heap:=s.heap.update l (a7J f),toks:=t' }:=by have q:=PySem.IsL.update e f;rw[M] at q;refine I.write (x:=l) (e:=l) (by rw[hH];exact trivial) (.inl rfl) (λv u hb hu=>(yC s.heap (a7J f) (a4Q hb)).trans hu) #[_,q] ?_;exact#[hz,its',_,N,q]
theorem Inv.lnew (I:Inv X pins σ H s) (N:Vals ys e) (hz:ys.length<=a0) :
   Inv X pins σ (upd H s.heap.objs.size (.lst ys)) { s with heap:=s.heap.push { cls:=.type "list", data:=.seq e.toArray },toks:=t' }:=
 I.laid (λ_ _ q=>zW _ q) (zR _) #[hz,e,0,N,yZ _ rfl]
theorem Inv.fresh (I:Inv X pins σ H s):H s.heap.objs.size=none:=I.hok.fresh (zR _)
theorem Inv.lstM (I:Inv X pins σ H s) (hH:H l=ak (.lst xs)):xs.length<=a0/\∃(t:List ap) (n:Nat),Vals xs t/\xs.length=t.length/\s.heap.get? l=ak { cls:=.type "list", data:=.seq t.toArray n }:=by obtain⟨z,t,n,r,e⟩:=I.hok l _ hH;exact#[z,t,n,r,r.length,e]
theorem nL (h:n<=a0):b2Q n=false:=by unfold b2Q;exact decide_eq_false (by lia)
end
section
def W6:V->List V->Hp->VK->Prop:=λx e H Q=>∃l t y,x = .ref l/\e=[y]/\H l=ak (.lst t)/\t.length < a0/\Q .non (upd H l (.lst (t++[y])))
theorem OF:MtM X "list.append" W6:=by intro pins s g H x c v b Q I i S h;obtain⟨l,f,y,rfl,rfl,hH,p,q⟩:=h;cases i;obtain⟨u,rfl,T⟩:=S.one;obtain⟨z,t,n,r,m,e⟩:=I.lstM hH;refine call_meets F.slot_list_append #[_,e,rfl] F.entry_list_append (F.args_list_append_2 _ _) (PySem.list_append l t.toArray n u (by rw[zJ];lia)) #[e,?_];refine#[.non,_,I.lset (its':=t++[u]) hH e (by simp) (r.append (.cons T .nil)) ?_,rfl,q];rw[yY,List.length_singleton];lia
end
section
variable {κ:Type}[DecidableEq κ]
def G5 (kvs:List (κ×V)) (k:κ):Option V:=(kvs.find? λkv=>decide (kv.1=k)).map (·.2)
def EX (kvs:List (κ×V)) (k:κ) (v:V):List (κ×V):=
 if (kvs.any λkv=>decide (kv.1=k))=au then kvs.map (λkv=>if kv.1=k then (kv.1,v) else kv) else kvs++[(k,v)]
def N6 (kvs:List (κ×V)) (k:κ):List (κ×V):=kvs.filter λkv=>decide (kv.1≠k)
theorem N7 {k:κ}(e:p.1=k):G5 (p::r) k=ak p.2:=by simp[G5,b1W,e]
theorem JS {k:κ}(e:¬p.1=k):G5 (p::r) k=G5 r k:=by simp[G5,b1W,e]
theorem YF (k:κ):∀kvs:List (κ×V),(kvs.any λkv=>decide (kv.1=k))=(G5 kvs k).isSome
 | []=>rfl
 | p::r=>by
   rw[b3V];by_cases e:p.1=k;. simp only[N7 e,decide_eq_true e,Bool.true_or,Option.isSome_some]
   . rw[JS e,decide_eq_false e,Bool.false_or];exact YF k r
theorem G9 (kvs:List (κ×V)) (k:κ) (v:V):(EX kvs k v).length<=kvs.length+1:=by
 unfold EX;split;. rw[zX];lia
 . rw[yY,yR,b6W];lia
theorem RelO.isSome_eq (r:RelO o u):o.isSome=u.isSome:=by
 cases o with
 | none=>cases u with
   | none=>rfl
   | some _=>exact(show False from r).elim
 | some _=>cases u with
   | none=>exact(show False from r).elim
   | some _=>rfl
theorem RelO.getD (r:RelO o u) (e:RelV d d'):RelV (o.getD d) (u.getD d'):=by
 cases o with
 | none=>cases u with
   | none=>exact e
   | some _=>exact(show False from r).elim
 | some _=>cases u with
   | none=>exact(show False from r).elim
   | some _=>exact r
theorem KV.val (r:KV kvs vs) (k:κ):RelO (G5 kvs k) (jf vs k):=by
 unfold KV at r;induction r with
 | nil=>exact a8J
 | @cons p q Z j h t Q=>
   obtain⟨h1,n⟩:=h;by_cases e:p.1=k
   . have e':q.1=k:=h1.symm.trans e;have b:jf (q::j) k=ak q.2:=by simp[jf,b1W,e']
     rw[N7 e,b];exact n
   . have e':¬q.1=k:=λz=>e (h1.trans z);have b:jf (q::j) k=jf j k:=by simp[jf,b1W,e']
     rw[JS e,b];exact Q
theorem KV.any (r:KV kvs vs) (k:κ):(kvs.any λkv=>decide (kv.1=k))=vs.any λkv=>decide (kv.1=k):=by
 unfold KV at r;induction r with
 | nil=>rfl
 | cons h t Q=>rw[b3V,b3V,Q,h.1]
theorem KV.repl (r:KV kvs vs) (k:κ) (i:RelV y u) :
   KV (kvs.map λkv=>if kv.1=k then (kv.1,y) else kv) (vs.map λkv=>if kv.1=k then (kv.1,u) else kv):=by
 unfold KV at r ⊢;induction r with
 | nil=>exact .nil
 | @cons p q Z j h t Q=>
   rw[zI,zI];refine .cons ?_ Q;obtain⟨h1,n⟩:=h;by_cases e:p.1=k;. rw[if_pos e,if_pos (h1.symm.trans e)];exact#[h1,i]
   . rw[if_neg e,if_neg (λz=>e (h1.trans z))];exact#[h1,n]
theorem KV.put (r:KV kvs vs) (k:κ) (t:RelV y u):KV (EX kvs k y) (stored vs k u):=by
 unfold EX stored;rw[r.any k];by_cases e:(vs.any λkv=>decide (kv.1=k))=au;. rw[if_pos e,if_pos e];exact r.repl k t
 . rw[if_neg e,if_neg e];exact Paired.snoc r #[rfl,t]
theorem KV.drop (r:KV kvs vs) (k:κ):KV (N6 kvs k) (without vs k):=by
 unfold KV at r ⊢;unfold N6 without;induction r with
 | nil=>exact .nil
 | @cons p q Z j h t Q=>
   obtain⟨h1,n⟩:=h;rw[a8V,a8V];by_cases e:p.1=k
   . have a:¬decide (p.1≠k)=true:=by simp[e]
     have b:¬decide (q.1≠k)=true:=by simp[h1.symm.trans e]
     rw[if_neg a,if_neg b];exact Q
   . have e':¬q.1=k:=λz=>e (h1.trans z);have a:decide (p.1≠k)=true:=by simp[e]
     have b:decide (q.1≠k)=true:=by simp[e']
     rw[if_pos a,if_pos b];exact .cons #[h1,n] Q
theorem KV.length {kvs:List (κ×V)}(r:KV kvs vs):kvs.length=vs.length:=Paired.length r
theorem YG (kvs:List (κ×V)) (k:κ):(N6 kvs k).length<=kvs.length:=yJ _ _
end
theorem LO (r:RelV (kV k) u):(AV P w).is k u=true:=by
 cases k with
 | inl i=>obtain⟨t,e⟩:=(show ∃t,u=Value.int i t from r);subst e;exact YA P w i t
 | inr x=>obtain⟨t,e⟩:=(show ∃t,u=c0V x t from r);subst e;exact PP P w x t
theorem UR :∀{ks:List Key}{v:List ap},Vals (ks.map kV) v->ItemsAre (AV P w) ks v
 | [],_,r=>by rw[b8X] at r;cases r;exact .nil
 | k::ks,_,r=>by
   rw[zI] at r;cases r with
   | cons h t=>exact .cons (LO h) (UR t)
abbrev KT (H:Hp):List (List Key×V)->List (List Key×Addr×ap)->Prop:=Paired λp q=>p.1=q.1/\H q.2.1=ak (.tup (p.1.map kV))/\RelV p.2 q.2.2
theorem KT.val (r:KT H kvs xs) (k:List Key):RelO (G5 kvs k) ((atKey xs k).map (·.2)):=by
 induction r with
 | nil=>exact a8J
 | @cons p q Z j h t Q=>
   obtain⟨h1,_,n⟩:=h;by_cases e:p.1=k
   . have e':q.1=k:=h1.symm.trans e;have b:atKey (q::j) k=ak q.2:=by simp[atKey,b1W,e']
     rw[N7 e,b];exact n
   . have e':¬q.1=k:=λz=>e (h1.trans z);have b:atKey (q::j) k=atKey j k:=by simp[atKey,b1W,e']
     rw[JS e,b];exact Q
theorem KT.repl (r:KT H kvs xs) (k:List Key) (i:RelV y u) :
   KT H (kvs.map λkv=>if kv.1=k then (kv.1,y) else kv) (xs.map (putAt k u)):=by
 induction r with
 | nil=>exact .nil
 | @cons p q Z j h t Q=>
   rw[zI,zI];refine .cons ?_ Q;obtain⟨h1,n,G⟩:=h;unfold putAt;by_cases e:p.1=k;. rw[if_pos e,if_pos (h1.symm.trans e)];exact#[h1,n,i]
   . rw[if_neg e,if_neg (λz=>e (h1.trans z))];exact#[h1,n,G]
theorem KT.put (r:KT H kvs xs) (k:List Key) (hb:H b=ak (.tup (k.map kV))) (t:RelV y u) :
   KT H (EX kvs k y) (storedH xs k b u):=by
 have e:(kvs.any λkv=>decide (kv.1=k))=(atKey xs k).isSome:=by rw[YF,(r.val k).isSome_eq,a3Q]
 unfold EX storedH;rw[e];by_cases q:(atKey xs k).isSome=au;. rw[if_pos q,if_pos q];exact r.repl k t
 . rw[if_neg q,if_neg q];exact Paired.snoc r #[rfl,hb,t]
theorem KT.keeps (r:KT H kvs xs) (e:∀b ys,H b=ak (.tup ys)->H' b=ak (.tup ys)):KT H' kvs xs:=
 Paired.mapP r λ_ _ z=>#[z.1,e _ _ z.2.1,z.2.2]
section
theorem A1F (ok:HOk P w H h) (e:Rd H a u):ObjOk P w H h a u:=e.ok ok
theorem N8 (ok:HOk P w H h) (e:Rd H a (.dK kvs)):kvs.length<=a0/\(a==c0)=aB/\∃vs,KV kvs vs/\h.DictOf (AV P w) a vs:=
 show ObjOk P w H h a (.dK kvs) from A1F ok e
theorem YH (ok:HOk P w H h) (e:H a=ak (.dK kvs)):kvs.length<=a0/\(a==c0)=aB/\∃vs,KV kvs vs/\h.DictOf (AV P w) a vs:=N8 ok (.inl e)
theorem RD (ok:HOk P w H h) (e:H a=ak (.tup (ks.map kV))):(tupleKind (AV P w)).is h ks a:=by
 obtain⟨_,t,r,o,h1,i,n,G⟩:=(show ObjOk P w H h a (.tup (ks.map kV)) from ok a _ e)
 exact#[o,t.toArray,n,h1,i,G,by simpa using UR r]
theorem US (ok:HOk P w H h) (e:Rd H a (.dT kvs)):kvs.length<=a0/\(a==c0)=aB /\∃xs,KT H kvs xs/\h.DictOfH (tupleKind (AV P w)) a xs:=by
 obtain⟨z,y,xs,r,o,O,n,h1,i,G,b,Z⟩:=(show ObjOk P w H h a (.dT kvs) from A1F ok e)
 refine#[z,y,xs,r,o,O,n,h1,i,G,b,λx hx=>?_,Z];have all:∀{l:List (List Key×V)}{m:List (List Key×Addr×ap)},KT H l m->∀x∈m,(tupleKind (AV P w)).is h x.1 x.2.1:=by
   intro l m q;induction q with
   | nil=>intro x hx;exact nomatch hx
   | @cons p q c j hq t Q=>
     intro x hx;rcases yX.mp hx with e | hx;. subst e;exact RD ok (by rw[<-hq.1];exact hq.2.1)
     . exact Q x hx
 exact all r x hx
theorem A4R (ok:HOk P w H h) (e:H a=ak (.dT kvs)):kvs.length<=a0/\(a==c0)=aB /\∃xs,KT H kvs xs/\h.DictOfH (tupleKind (AV P w)) a xs:=US ok (.inl e)
end
def cO (H:Hp) (a:Addr) (y:V) (r:Option V):Prop:=(∃kvs k,Rd H a (.dK kvs)/\y=kV k/\r=G5 kvs k)\/∃kvs k b,Rd H a (.dT kvs)/\y = .ref b/\H b=ak (.tup (k.map kV))/\r=G5 kvs k
def A4S (H:Hp) (a:Addr) (y v:V) (H':Hp):Prop:=(∃kvs k,H a=ak (.dK kvs)/\y=kV k/\kvs.length < a0/\H'=upd H a (.dK (EX kvs k v))) \/∃kvs k b,H a=ak (.dT kvs)/\y = .ref b/\H b=ak (.tup (k.map kV))/\kvs.length < a0/\H'=upd H a (.dT (EX kvs k v))
section
variable {X:Cx}{pins:List (Addr×cy)}{σ:St}{H:Hp}{s:av}{a:Addr}{y v:V}{u r:ap}{o:Option V}{A:bx}{E:ap->av->Prop}
theorem Inv.big (I:Inv X pins σ H s):c0 < s.heap.objs.size:=by have h:bc < s.heap.objs.size:=(I.mod.glob.keeps I.bk).lt;exact xQ `kh h
theorem jH (hu:A.units+1 < eh) (I:Inv X pins σ H s) (g:cO H a y (ak v)) (c:RelV y u) (h:∀t s',Inv X pins σ H s'->RelV v t->Q t s') :
   wpAny (model X.prog X.w) A (fk (.ref a) u) Q E s:=by
 rcases g with ⟨kvs,k,e,f,l⟩ | ⟨kvs,k,b,e,f,j,l⟩
 . subst f;obtain⟨z,hd,q,rel,n⟩:=N8 I.hok e;obtain⟨t,i,m⟩:=RelO.some_of (v:=v) (o:=jf q k) (by rw[l];exact rel.val k);exact wpAny_getItem_of (LO c) n.mapOf i (h t _ (I.tok _) m)
 . subst f;cases (show u=a0X b from c);obtain⟨z,hd,x,rel,n⟩:=US I.hok e;obtain⟨t,i,m⟩:=RelO.some_of (v:=v) (o:=(atKey x k).map (·.2)) (by rw[l];exact rel.val k);obtain⟨p,hp,hp2⟩:=Option.map_eq_some_iff.mp i;refine wpAny_getItem_heap (gt hu) (RD I.hok j) n hp ?_;rw[hp2];exact h t _ (I.tok _) m
theorem A5R (hu:A.units+1 < eh) (I:Inv X pins σ H s) (g:cO H a y o) (n:RelV y u) (h:∀s',Inv X pins σ H s'->Q (.bool o.isSome) s') :
   wpAny (model X.prog X.w) A (bq .In u (.ref a)) Q E s:=by
 rcases g with ⟨kvs,k,e,f,l⟩ | ⟨kvs,k,b,e,f,i,l⟩
 . subst f;obtain⟨z,hd,m,rel,t⟩:=N8 I.hok e;refine wpAny_in_of (LO n) hd t.mapOf ?_;rw[<-(rel.val k).isSome_eq,<-l];exact h _ (I.tok _)
 . subst f;cases (show u=a0X b from n);obtain⟨z,hd,p,rel,t⟩:=US I.hok e;refine wpAny_in_heap (gt hu) (RD I.hok i) hd t ?_;have q:=(rel.val k).isSome_eq;rw[a3Q] at q;rw[<-q,<-l];exact h _ (I.tok _)
theorem v7 (hu:A.units+1 < eh) (I:Inv X pins σ H s) (g:cO H a y o) (n:RelV y u) (h:∀s',Inv X pins σ H s'->Q (.bool (!o.isSome)) s') :
   wpAny (model X.prog X.w) A (bq .NotIn u (.ref a)) Q E s:=by
 rcases g with ⟨kvs,k,e,f,l⟩ | ⟨kvs,k,b,e,f,i,l⟩
 . subst f;obtain⟨z,hd,m,rel,t⟩:=N8 I.hok e;refine wpAny_notIn_of (LO n) hd t.mapOf ?_;rw[<-(rel.val k).isSome_eq,<-l];exact h _ (I.tok _)
 . subst f;cases (show u=a0X b from n);obtain⟨z,hd,p,rel,t⟩:=US I.hok e;refine wpAny_notIn_heap (gt hu) (RD I.hok i) hd t ?_;have q:=(rel.val k).isSome_eq;rw[a3Q] at q;rw[<-q,<-l];exact h _ (I.tok _)
theorem KR (I:Inv X pins σ H s) (S:Mut (H a)) (hs:Heap.SameBut a s.heap h') (he:∃q,h'.get? a=ak q) (new:ObjOk X.prog X.w (upd H a t) h' a t) :
   Inv X pins σ (upd H a t) { s with heap:=h',toks:=t' }:=
 I.write (x:=a) (e:=a) S (.inl rfl) (λb q hb z=>(hs.2 b hb).trans z) he new
theorem OG (z:kvs.length<=a0) (hd:(a==c0)=aB) (rel:KV kvs vs) (dd:h'.DictOf (AV P w) a vs) :
   ObjOk P w H' h' a (.dK kvs):=#[z,hd,vs,rel,dd]
theorem jI (hu:A.units+1 < eh) (I:Inv X pins σ H s) (g:A4S H a y v H') (N:RelV y u) (S:RelV v r) (h:∀s',Inv X pins σ H' s'->Q () s') :
   wpAny (model X.prog X.w) A (setItem (.ref a) u r) Q E s:=by
 rcases g with ⟨kvs,k,e,f,l,i⟩ | ⟨kvs,k,b,e,f,j,l,i⟩
 . subst f i;obtain⟨z,hd,J,rel,n⟩:=YH I.hok e;have p:J.length<=sizeLine:=by rw[<-rel.length];exact z
   have m:(EX kvs k v).length<=sizeLine:=by have:=G9 kvs k v;lia
   refine wpAny_setItem_pairs (hsz:=p) (LO N) n λT t hs=>h _ ?_;have he:∃q,T.get? a=ak q:=let #[q,_,_,hq,_]:=t;#[q,hq];exact KR I (by rw[e];exact a8J) hs he (OG m hd (rel.put k S) t)
 . subst f i;cases (show u=a0X b from N);obtain⟨z,hd,L,rel,n⟩:=A4R I.hok e;have p:L.length<=sizeLine:=by rw[<-Paired.length rel];exact z
   have m:(EX kvs k v).length<=sizeLine:=by have:=G9 kvs k v;lia
   refine wpAny_setItem_heap (hsz:=p) (gt hu) (RD I.hok j) n λT t hs=>h _ ?_;obtain⟨q,M,O,hq,D,G,B,_,Z⟩:=t;refine KR I (by rw[e];exact a8J) hs #[q,hq] #[m,hd,_,(rel.put k j S).keeps λc U x=>?_,q,M,O,hq,D,G,B,Z];rw[AH (A4C x e (λz=>nomatch z))];exact x
end
section
variable {X:Cx}{pins:List (Addr×cy)}{σ:St}{H:Hp}{s:av}{a:Addr}{kvs:List (Key×V)}{k:Key}{u:ap}{A:bx}{E:ap->av->Prop}
theorem jJ (I:Inv X pins σ H s) (e:H a=ak (.dK kvs)) (i:RelV (kV k) u) (l:(G5 kvs k).isSome=au) (h:∀s',Inv X pins σ (upd H a (.dK (N6 kvs k))) s'->Q () s') :
   wpAny (model X.prog X.w) A (delItem (.ref a) u) Q E s:=by obtain⟨z,hd,r,rel,t⟩:=YH I.hok e;refine wpAny_delItem_slot t.typeIs `kh PySem.F.slot_dict_delitem (call_meetsIn PySem.F.slot_dict_delitem t.typeIs PySem.F.entry_dict_delitem (PySem.F.args_dict_delitem_2 _ _) (meets_dict_delitem_pairs (AV X.prog X.w) a (LO i)) #[r,t,by rw[<-rel.length];exact z,by rw[<-(rel.val k).isSome_eq];exact l,λb n hs=>h _ ?_]);have he:∃q,b.get? a=ak q:=let #[q,_,_,hq,_]:=n;#[q,hq];exact KR I (by rw[e];exact a8J) hs he (OG (zN (YG kvs k) z) hd (rel.drop k) n)
theorem A4T (I:Inv X pins σ H s) (e:H a=ak (.dK kvs)) (r:RelV (kV k) u) (l:G5 kvs k=ak v) (p:more=[]\/∃x,more=[x]) (h:∀n s',Inv X pins σ (upd H a (.dK (N6 kvs k))) s'->RelV v n->Q n s'):wpAny (model X.prog X.w) A (call (.builtin "dict.pop") (.ref a::u::more)) Q E s:=by
 obtain⟨z,hd,c,rel,m⟩:=YH I.hok e;obtain⟨n,j,y⟩:=RelO.some_of (v:=v) (o:=jf c k) (by rw[<-l];exact rel.val k);have hp:(keyPart u).isSome=true:=by
   cases k with
   | inl i=>obtain⟨t,q⟩:=(show ∃t,u=Value.int i t from r);subst q;rfl
   | inr x=>obtain⟨t,q⟩:=(show ∃t,u=c0V x t from r);subst q;rfl
 have g:argsOk "dict.pop" #[.ref a::u::more,[]]:=by
   rcases p with q | ⟨x,q⟩
   . subst q;exact PySem.F.args_dict_pop_2 _ _
   . subst q;exact PySem.F.args_dict_pop_3 _ _ _
 refine call_meetsIn PySem.F.slot_dict_pop m.typeIs PySem.F.entry_dict_pop g (meets_dict_pop_there (AV X.prog X.w) a (LO r) more p hp) #[c,n,m,by rw[<-rel.length];exact z,j,λf b hs=>h n _ ?_ y];have he:∃q,f.get? a=ak q:=let #[q,_,_,hq,_]:=b;#[q,hq];exact KR I (by rw[e];exact a8J) hs he (OG (zN (YG kvs k) z) hd (rel.drop k) b)
end
def A4U (i:bp):Prop:=∀t e,subscripted i aB t e=operate [t,e] (fk t e)
theorem v8 {id:String} (n:ew (.type T) "__getitem__"=pure (ak (.builtin id))) (hs:A4U slice) (h:wpAny (model prog w) A (eval value env) (λo y=>wpAny (model prog w) A (eval slice env) (λi G=>G.TypeIs o T/\wpAny (model prog w) A (fk o i) Q E G) E y) E s) :
   wpAny (model prog w) A (eval (.Subscript value slice pos) env) Q E s:=by
 refine Subscript_ (bf h (λo y c=>bf c (λi G U=>?_) λ_ _ x=>x) λ_ _ x=>x);obtain⟨t,U⟩:=U;unfold subscriptTail;refine zZ ?_;rw[getitemInPython_of_ne t.not_modules];refine zZ (wpAny_specialOf t n ?_);have fin:wpAny (model prog w) A (subscripted slice aB o i) (λr S=>wpAny (model prog w) A (letTemporaryGo value o r >>= λ_=>pure r) Q E S) E G:=by rw[hs o i];exact wpAny_operating (bf U (λr S e=>zZ (wpAny_letTemporaryGo (zY e))) λ_ _ x=>x)
 first
   | exact zY (zZ fin)
   | exact zZ (zY (zZ fin))
   | exact zZ fin
theorem YI {n:St}(I:Inv X pins n H s) (g:cO H a y o):s.TypeIs (.ref a) "dict" := by
 rcases g with ⟨kvs,k,e,_,_⟩ | ⟨kvs,k,b,e,_,_,_⟩
 . obtain⟨_,_,i,_,t⟩:=N8 I.hok e;exact t.typeIs
 . obtain⟨_,_,r,_,t⟩:=US I.hok e;exact t.typeIs
def fW (B ty:TE):TE:=λe H Q=>B e H λx t=>ty e t λy f=>∃a v,x = .ref a/\cO f a y (ak v)/\Q v f
def v9 (ty B:TE):TE:=λe H Q=>ty e H λy t=>B e t λx f=>∃a o,x = .ref a/\cO f a y o/\Q (.bl o.isSome) f
def fX (ty B:TE):TE:=λe H Q=>ty e H λy t=>B e t λx f=>∃a o,x = .ref a/\cO f a y o/\Q (.bl (!o.isSome)) f
def A1G (B ty n:TE):TS:=λD e H=>n e H λv t=>B e t λx f=>ty e f λy r=>∃a m,x = .ref a/\A4S r a y v m/\D.nx e m
def A1H (B ty:TE):TS:=λD e H=>B e H λx t=>ty e t λy f=>∃a kvs k,x = .ref a/\f a=ak (.dK kvs)/\y=kV k/\(G5 kvs k).isSome=au/\D.nx e (upd f a (.dK (N6 kvs k)))
section
variable {X:Cx}{o i e value:bp}{pos pos' jx:en}{td ty tv:TE}
theorem CS (hu:X.A.units+1 < eh) (ho:PE X o td) (hi:PE X i ty) (hs:A4U i):PE X (.Subscript o i pos) (fW td ty):=by intro pins s t H Q I h;refine v8 PySem.F.slot_dict_getitem.lookup hs (thn (ho pins s t H _ I h) λu k #[x,n,J,c,r]=>thn (hi pins k t n _ J r) λq N #[y,f,b,j,a,v,p,g,m]=>?_);subst p;obtain rfl:u=a0X a:=c;exact#[YI b g,jH hu b g j λS O T z=>#[v,f,T,z,m]]
theorem OH (hu:X.A.units+1 < eh) (hi:PE X i ty) (ho:PE X o td):PC X .In i o (v9 ty td):=by intro pins s t H Q I h;refine thn (hi pins s t H _ I h) λv q #[y,n,J,k,m]=>thn (ho pins q t n _ J m) λu z #[x,f,b,j,a,r,p,g,c]=>?_;subst p;obtain rfl:u=a0X a:=j;exact A5R hu b g k λN T=>#[.bl r.isSome,f,T,rfl,c]
theorem UT (hu:X.A.units+1 < eh) (hi:PE X i ty) (ho:PE X o td):PC X .NotIn i o (fX ty td):=by intro pins s t H Q I h;refine thn (hi pins s t H _ I h) λv q #[y,n,J,k,m]=>thn (ho pins q t n _ J m) λu z #[x,f,b,j,a,r,p,g,c]=>?_;subst p;obtain rfl:u=a0X a:=j;exact v7 hu b g k λN T=>#[.bl (!r.isSome),f,T,rfl,c]
theorem ID (hu:X.A.units+1 < eh) (ho:PE X o td) (hi:PE X i ty) (N:PE X value tv) (hs:ge value (ak (.Subscript o i pos')) pos.line X.env=pure aB) :
   PS X (.Assign [.Subscript o i pos'] value pos) (A1G td ty tv):=by intro pins s t H D I h;refine wpAny_Assign_Subscript (thn (N pins s t H _ I h) λr M #[v,n,J,S,j]=>thn (ho pins M t n _ J j) λu B #[x,f,b,z,k]=>thn (hi pins B t f _ b k) λL Q #[y,G,T,O,a,m,c,g,q]=>?_) hs;subst c;obtain rfl:u=a0X a:=z;exact jI hu T g O S λU p=>#[t,m,p,q]
theorem vA (ho:PE X o td) (hi:PE X i ty):PS X (.Delete [.Subscript o i jx] pos) (A1H td ty):=by intro pins s t H D I h;refine wpAny_Delete (wpAny_deleteEach_cons (wpAny_delete_Subscript (thn (ho pins s t H _ I h) λu j #[x,n,J,c,r]=>thn (hi pins j t n _ J r) λv z #[y,q,b,g,a,kvs,k,p,e,f,l,m]=>?_)));subst p f;obtain rfl:u=a0X a:=c;exact jJ b e g l λN T=>wpAny_deleteEach_nil #[t,_,T,m]
end
theorem RE (h:cc) (hb:c0 < h.objs.size):ObjOk P w H (h.push { cls:=.type "dict", data:=.dict #[] }) h.objs.size (.dK []):=#[xT _,beq_eq_false_iff_ne.mpr (a4Q (zC hb)),[],.nil,Heap.DictOf.new h]
def nM:TE:=λ_ H Q=>∀p,H p=am->Q (.ref p) (upd H p (.dK []))
section
variable {X:Cx}{pos:en}
theorem RF:PE X (.Dict [] [] pos) nM:=λpins s e H Q I h=>
 wpAny_Dict_empty #[.ref s.heap.objs.size,_,I.laid (a:=s.heap.objs.size) (o:=.dK []) (t':=s.toks) (λ_ _ q=>zW _ q) (zR _) (RE s.heap I.big),rfl,h _ (I.hok.fresh (zR _))]
end
def W7:List (TE×TE)->St->Hp->(List (V×V)->Hp->Prop)->Prop
 | [],_,H,Q=>Q [] H
 | (i,m)::r,e,H,Q=>i e H λx t=>m e t λy f=>W7 r e f λZ n=>Q ((x,y)::Z) n
abbrev VV:List (V×V)->List (ap×ap)->Prop:=Paired λp q=>RelV p.1 q.1/\RelV p.2 q.2
def PPs (X:Cx) (pos:en) (keys:List (Option bp)) (values:List bp) (t:List (TE×TE)):Prop:=∀(pins:List (Addr×cy)) (s:av) (e:St) (H:Hp) (Q:List (V×V)->Hp->Prop),Inv X pins e H s->W7 t e H Q ->
   wpAny (model X.prog X.w) X.A (evalPairs (pairTrees keys values X.env pos)) (λn s'=>∃Z H',Inv X pins e H' s'/\VV Z n/\Q Z H') X.xe s
theorem vB {X:Cx}{pos:en}:PPs X pos [] [] []:=λpins s e H Q I h=>pairTrees_nil_walk #[[],H,I,.nil,h]
theorem YJ {X:Cx}{pos:en}{k v:bp}{ks:List (Option bp)}{vs:List bp}{tk n:TE}{t:List (TE×TE)}(hk:PE X k tk) (N:PE X v n) (hr:PPs X pos ks vs t) :
   PPs X pos (ak k::ks) (v::vs) ((tk,n)::t):=λpins s e H Q I h=>
 pairTrees_cons_walk (thn (hk pins s e H _ I h) λu q #[x,i,J,g,m]=>thn (N pins q e i _ J m) λS z #[y,f,b,j,p]=>
   thn (hr pins z e f _ b p) λM O #[Z,r,T,rel,c]=>#[(x,y)::Z,r,T,.cons #[g,j] rel,c])
def JT (kvs more:List (Key×V)):List (Key×V):=more.foldl (λacc kv=>EX acc kv.1 kv.2) kvs
theorem KV.merge:∀{more:List (Key×V)}{i:List (Key×ap)}{kvs:List (Key×V)}{vs:List (Key×ap)},KV more i->KV kvs vs->KV (JT kvs more) (merged vs i):=by
 intro more i kvs vs r;unfold KV at r;induction r generalizing kvs vs with
 | nil=>intro q;exact q
 | @cons p q Z j h t Q=>
   intro c;have e:KV (EX kvs p.1 p.2) (stored vs q.1 q.2):=by have:=c.put p.1 h.2;rw[<-h.1];exact this
   exact Q e
theorem LP:∀(more kvs:List (Key×V)),(JT kvs more).length<=kvs.length+more.length
 | [],kvs=>by show kvs.length<=kvs.length+0;lia
 | p::r,kvs=>by have h1:=LP r (EX kvs p.1 p.2);have n:=G9 kvs p.1 p.2;show(JT (EX kvs p.1 p.2) r).length<=_;rw[yR];lia
theorem RG :∀{kvs:List (Key×V)}{e:List (ap×ap)},VV (kvs.map λkv=>(kV kv.1,kv.2)) e->∃i,Carries (AV P w) e i/\KV kvs i
 | [],_,r=>by rw[b8X] at r;cases r;exact#[[],a8J,.nil]
 | p::kvs,_,r=>by
   rw[zI] at r;cases r with
   | @cons a b as bs h t=> obtain⟨i,c,q⟩:=RG (P:=P) (w:=w) t;obtain⟨b1,z⟩:=b;exact#[(p.1,z)::i,#[LO h.1,rfl,c],.cons #[rfl,h.2] q]
def A1I (e:List (TE×TE)):TE:=λt H Q=>∀p,H p=am->W7 e t (upd H p (.dK [])) λZ f=>f p=ak (.dK [])/\∃kvs:List (Key×V),Z=kvs.map (λkv=>(kV kv.1,kv.2))/\kvs.length<=15/\Q (.ref p) (upd f p (.dK (JT [] kvs)))
theorem vC {X:Cx}{pos:en}{keys:List (Option bp)}{values:List bp}{t:List (TE×TE)}(h:PPs X pos keys values t) (x:keys.all (·.isSome)=au) (p:keys.length=values.length) (m:keys≠[]) (i:keys.length<=15):PE X (.Dict keys values pos) (A1I t):=by
 intro pins s y H Q I q;have hn:=I.hok.fresh (zR s.heap.objs.size);have J:=I.laid (a:=s.heap.objs.size) (o:=.dK []) (h':=s.heap.push { cls:=.type "dict", data:=.dict #[] }) (t':=s.toks) (λ_ _ q=>zW _ q) (zR _) (RE s.heap I.big);refine wpAny_Dict_walk (knd:=AV X.prog X.w) x p m i (thn (h pins _ y _ _ J (q _ hn)) λM S #[Z,T,b,rel,e,kvs,r,O,g]=>?_);subst r;obtain⟨v,c,k⟩:=RG (P:=X.prog) (w:=X.w) rel;obtain⟨z,hd,N,j,n⟩:=YH b.hok e;cases j;refine#[v,c,n,λh' u hs=>#[.ref s.heap.objs.size,_,?_,rfl,g]];have f:(JT [] kvs).length<=sizeLine:=by have h1:=LP kvs [];rw[b6W] at h1;rw[cN];lia
 have he:∃q,h'.get? s.heap.objs.size=ak q:=let #[q,_,_,hq,_]:=u;#[q,hq];exact KR b (by rw[e];exact a8J) hs he (OG f hd (k.merge .nil) u)
structure M1 (X:Cx) (o:bp) (m:Str) (apos:en) (e:bp) (ag:en):Prop where
 base:attributeBase o m X.env (eval o X.env)=eval o X.env
 few:((backTo ag (starEach [e] X.env)).all (λx=>!x.1)&&(backToKw ag (keywordEach [] X.env)).all (λx=>x.1.isSome)
   && decide (([e]:List bp).length+([]:List Keyword).length+(if ([]:List Keyword).isEmpty then 0 else 1) < 30))=au
 line:(apos.endLine==ag.line)=au
 trees:backTo ag (starEach [e] X.env)=[(aB,eval e X.env)]
def IsD (H:Hp) (a:Addr):Prop:=(∃kvs,Rd H a (.dK kvs))\/∃kvs,Rd H a (.dT kvs)
theorem A2R {r:St}(I:Inv X pins r H s) (d:IsD H a) :
   s.TypeIs (.ref a) "dict" /\ (∀b,a0X a = .ref b->∃t,s.heap.get? b=ak t/\t.dict=am)/\(a==c0)=false:=by
 rcases d with ⟨kvs,e⟩ | ⟨kvs,e⟩
 . obtain⟨_,hd,m,_,n⟩:=N8 I.hok e;refine#[n.typeIs,λb q=>?_,hd];cases q;obtain⟨t,_,_,h1,i,_⟩:=n;exact#[t,h1,i.2.1]
 . obtain⟨_,hd,p,_,n⟩:=US I.hok e;refine#[n.typeIs,λb q=>?_,hd];cases q;obtain⟨t,_,_,h1,i,_⟩:=n;exact#[t,h1,i.2.1]
def nN (B ty:TE):TE:=λt H Q=>B t H λx e=>∃a,x = .ref a/\IsD e a/\ty t e λy f=>∃kvs k v,f a=ak (.dK kvs)/\y=kV k/\G5 kvs k=ak v/\Q v (upd f a (.dK (N6 kvs k)))
section
variable {X:Cx}{o e f:bp}{apos ag:en}{td ty tx:TE}
theorem YK (ho:PE X o td) (he:PE X e ty) (m:M1 X o "pop" apos e ag):PE X (.Call (.Attribute o "pop" apos) [e] [] ag) (nN td ty):=by intro pins s t H Q I h;refine wpAny_Call_method m.base m.few m.line PySem.F.plainAttrs_dict PySem.F.slot_dict_pop PySem.F.type_dict_pop (thn (ho pins s t H _ I h) λu N #[x,n,J,j,a,p,d,c]=>?_);subst p;obtain rfl:u=a0X a:=j;obtain⟨O,S,_⟩:=A2R J d;refine#[O,S,?_];rw[m.trees];refine b9V rfl (Calls.evalArgs_plain (Calls.spliced_cons (thn (he pins N t n _ J c) λD B #[y,M,b,q,kvs,k,v,i,r,l,g]=>Calls.spliced_nil ?_)));subst r;exact A4T b i q l (.inl rfl) λL G T z=>#[v,_,T,z,g]
end
end L2
namespace Att
open PySem PySem.W PySem.Calls PyProof.Rows
theorem QA :∀(ns:List Int) (vs:List ap),WellAll P h vs (ns.map WData.int)->IntsAre vs ns:=by
 intro ns;induction ns with
 | nil=> intro vs w;rw[b8X] at w;cases w;exact .nil
 | cons n ns Q=>
   intro vs w;rw[zI] at w;cases w with
   | cons a b=> cases a;exact .cons _ _ (Q _ b)
theorem script_of {l:OpenLaw}(hn:l.most=ak n)  (M:l.row.toRowW.claim.pre args=au) (D:WellAll P h vals args) : ∃a vs ns,vals=[a0X a]/\args=[WData.list (ns.map WData.int)]/\h.get? a=ak { cls:=.type "list", data:=.seq vs.toArray }/\IntsAre vs ns/\ns.length<=n:=by
 have x:WShape.hasAll [] args [.list .int]=true:=(pre_splitW M).1;have hc:l.pre.holds [] { args:=args }=true:=(pre_splitW M).2;obtain⟨d,r,rfl,h1,t⟩:=hasAllW_cons x;obtain rfl:=hasAllW_nil t;obtain⟨m,rfl,G⟩:=hasW_list h1;obtain⟨ns,rfl⟩:=items_int G;have k:ns.length<=n:=by
   unfold OpenLaw.pre at hc;have e:(WTm.not (.lt (.lit (.int (n:Int))) (.len (.arg 0)))).holds [] { args:=[.list (ns.map .int)] }=true:=by have e:=(holds_andW hc).1;rw[hn] at e;exact e
   have Z:=condW_of e (w_not (w_lt w_lit (w_len_list (w_arg rfl))));rw[zX] at Z;refine Nat.le_of_not_lt λq=>?_;have g:(n:Int) < ((ns.length:Nat):Int):=by lia
   first
     | (rw[decide_eq_true g] at Z;exact absurd Z `kh)
     | (simp at Z;lia)
 cases D with
 | cons i z=>
   cases z;cases i with
   | list ho f=>exact#[_,_,ns,rfl,rfl,ho,QA ns _ f,k]
theorem post_true (l:OpenLaw) (args:List WData):l.row.toRowW.claim.post args (.bool au) args=true:=
 postW_of (r:=l.row.toRowW) (X:=(au==au)) (show WShape.has [] (.bool au) .bool=au by first | rfl | decide | simp[WShape.has,WShape.arms,WShape.armsAll])
   (show(WTm.eq .res (.lit (.bool au))).value [] { args:=args,res:=ak (.bool au),after:=args }=ak (.bool (au==au)) from w_eq_bool (w_res rfl) w_lit) rfl
end Att
namespace L2
open PySem PySem.Spec PyProof.Rows
theorem UU:∀{vs:List ap}{ns:List Int},IntsAre vs ns->Vals (ns.map V.int) vs
 | _,_,.nil=>.nil
 | _,_,.cons n t h=>.cons #[t,rfl] (UU h)
def A2S (H:Hp):Prop:=∀b,H b=am\/∃o t,H b=ak (.frz o (.lst t))
theorem nO {K:Frg} (KX:K.In y.heap) (D:y.heap.Ns bc mg) (hb:y.heap.Ns builtinsNs g) (L:∀x:Str,x ≠ "__name__" -> g x=gc x) (B:y.heap.NoLimit) (hg:y.gens=#[]) (p:y.heap.get? a=ak { cls:=.type "list", data:=.seq vs.toArray }) (hi:IntsAre vs ns) (I:ns.length<=a0) (hr:Room k callerA) (F:∀base:cc,K.In base->base.Ns bc mg->FnOk P w K mg base CX k c N [x] sp) (zr:∀(s:av) (u:ap),BindsTo s N #[[u],[]] [(x,u)]) (jw:∀H:Hp,A2S H->SqL K H a (ns.map V.int)->sp [.ref a] H (λv _=>v = .bl au) λ_ _ _=>False) (G:∀H e s',CX [] H y (λ_ _ _=>False) e s'->False) :
   codeAny (model P w) callerA (.call (.ref c) #[[.ref a],[]]) (λr s'=>r = .ok (.ret (.bool au))/\OldK y.heap s'.heap/\s'.os=y.os/\g5 s'.gens) y:=by
 have M:=UU hi;have J:=hi.length;have core:∀H:Hp,A2S H->SqL K H a (ns.map V.int)->HOk P w H y.heap->(∀b,H b≠am->b=a)->(H a≠am->K.lookup a=am) ->
     codeAny (model P w) callerA (.call (.ref c) #[[.ref a],[]]) (λr s'=>r = .ok (.ret (.bool au))/\OldK y.heap s'.heap/\s'.os=y.os/\g5 s'.gens) y:=by
   intro H hO hS hok hA hK;have S:∀{b:Addr}{o:cy},y.heap.get? b=ak o->H b=am->(VT y.heap H).get? b=ak o:=λe n=>mO e n;have zm:∀{b:Addr}{o:cy}{O:Array DictEntry}{t:Nat},y.heap.get? b=ak o->o.data = .dict O t->H b=none:=λ{b o O t} e d=>by
     cases q:H b with
     | none=>rfl
     | some u=> have e':b=a:=hA b (by rw[q];simp);subst e';rw[p] at e;cases e;have Q:Data.seq vs.toArray _=Data.dict O t:=d;cases Q
   have i:∀{b:Addr}{m:Str->Option ap},y.heap.Ns b m->(VT y.heap H).Ns b m:=λ{b m} #[o,O,t,e,d,r]=>#[o,O,t,S e (zm e d),d,r]
   have j:K.In (VT y.heap H):=λb o e=>S (KX b o e) (by
     cases q:H b with
     | none=>rfl
     | some u=> have e':b=a:=hA b (by rw[q];simp);subst e';rw[hK (by rw[q];simp)] at e;cases e);have hM:Mod K mg (VT y.heap H):=#[j,i D,#[g,i hb,L],let #[mc,h1,Z]:=B;#[mc,i h1,Z]]
   have U:Env0 P w K mg (VT y.heap H) callerA [] y H:=#[rfl,hM,λb o e=>uO e,Nat.le_of_eq (j8 _ _),trivial,λb hb=>absurd (show b∈([]:List Addr) from hb) (by simp),hok,.of_eq hg]
   refine xN ((F _ j (i D)).run callerA [] y H #[[.ref a],[]] [.ref a] [.ref a] _ _ hr U (zr y (.ref a)) (.cons rfl .nil) (jw H hO hS)) λr s' h=>?_;cases r with
   | error e=>exact(G H e s' h).elim
   | ok Y=>
     cases Y with
     | next=>exact a6W h
     | brk=>exact a6W h
     | cont=>exact a6W h
     | ret u=>
       obtain⟨v,H',os,bare,un,xq,r',q⟩:=h;have q':v = .bl true:=q;subst q';obtain rfl:u=Value.bool true:=r';refine#[rfl,OldK.of_keep λb o e=>?_,os,bare];cases q:H b with
       | none=>exact un.keep b o e q (by intro z;exact absurd (show b∈([]:List Addr) from z) (by simp)) (by simp)
       | some u=>
         rcases hO b with z | ⟨ob,xs,z⟩
         . rw[q] at z;cases z
         . have z2:=un.frzs b ob _ z;obtain⟨T,_⟩:=hok b _ z;obtain⟨X,_⟩:=xq b _ z2;rw[e] at T;cases T;exact X
 cases hk:K.lookup a with
 | some o=> have e:=KX a o hk;rw[p] at e;cases e;refine core (λ_=>am) (λ_=>.inl rfl) (.inr #[_,vs.toArray,_,hk,rfl,rfl,rfl,by rw[zJ,J];exact I,by simpa using M]) (λb u z=>by have f:(am:Option HO)=ak u:=z;cases f) (λb z=>absurd rfl z) λz=>absurd rfl z
 | none=>
   refine core (λb=>if b=a then ak (.frz { cls:=.type "list", data:=.seq vs.toArray } (.lst (ns.map V.int))) else am) (λb=>?_) (.inl (.inr #[{ cls:=.type "list", data:=.seq vs.toArray },if_pos rfl])) (λb u z=>?_) (λb z=>?_) λ_=>hk
   . by_cases hb:b=a;. exact .inr #[_,_,if_pos hb]
     . exact .inl (if_neg hb)
   . by_cases hb:b=a;. have f:=(if_pos hb).symm.trans z;cases f;subst hb;exact#[p,by rw[zX];exact I,vs,_,M,p]
     . have f:=(if_neg hb).symm.trans z;cases f
   . by_cases hb:b=a;. exact hb
     . exact absurd (if_neg hb) z
def E1 (s:eg):Arguments:=match s with
 | .FunctionDef _ a _ _ _ _ _ _ _ _=>a
 | _=>{ posonlyargs:=[],args:=[],vararg:=am,kwonlyargs:=[],kw_defaults:=[],kwarg:=am,defaults:=[] }
def BH (s:eg):List Stmt:=match s with
 | .FunctionDef _ _ b _ _ _ _ _ _ _=>b
 | _=>[]
def AB (s:eg):Scope:=match s with
 | .FunctionDef _ _ _ _ _ _ b _ _ _=>b
 | _=>{ kind:=.function,names:=[],isGenerator:=aB,isCoroutine:=aB }
abbrev CX0:CXT:=λ_ _ _ _ _ _=>False
abbrev E0:XK:=λ_ _ _=>False
theorem A4V :cK CX0 X E0:=λ_ _ _ _ _ _ _ h=>h.elim
structure Fun (K:Frg) (x qual:Str) (st:eg) (f:Addr) (fd:dl):Prop where
 ex:∃(oc:ap) (od:Option Addr) (kV doc pm:ap) (an:Option Addr) (cdv ct:ap) (osl:Array (Option ap)),
   fd=a5Q x qual (E1 st) (BH st) (AB st) .none kV doc pm an cdv ct/\K.lookup f=ak #[oc,od,.func fd,osl]/\b0Z K cdv qual=au
 kp:a3K K (.ref f)=au
section
variable {P:bn}{w:bj}{K:Frg}{mg:Str->Option ap}{base:cc}
theorem Fun.ok {st:eg}(F:Fun K x qual st f T) (S:FnScope N ps (AB st)) (len:∀vs H Q E,sp vs H Q E->vs.length=ps.length) (u:∀(cdv:ap) (A:bx) (outer:List ic) (s:av) (H:Hp) (vs:List V) (Q:VK) (E:XK),Room k (A.deeper (fy qual (AB st) s.heap.objs.size f cdv))->sp vs H Q E ->∃t,PSs (IC CX0 P w K mg base N qual (AB st) f cdv A outer s H E).nox (BH st) t/\t { nx:=λ_ H'=>Q .non H',rt:=Q } (E5 N vs) H):FnOk P w K mg base CX0 (k+1) f T ps sp:=by obtain⟨i,r,kV,doc,m,J,cdv,n,osl,rfl,c,U⟩:=F.ex;refine A1D c U S len λA outer s H vs Q E hr e=>?_;obtain⟨t,h,q⟩:=u cdv A outer s H vs Q E hr e;exact#[t,h.nox,q]
theorem Fun.binds {st:eg}(F:Fun K x qual st f T) (h:∀(kV doc e:ap) (J:Option Addr) (cdv ct:ap) (v:List ap),v.length=ps.length->bindArgs (a5Q x qual (E1 st) (BH st) (AB st) .none kV doc e J cdv ct) #[v,[]]=pure (ps.zip v)):Binds K T ps []:=by obtain⟨t,r,kV,doc,e,J,cdv,ct,osl,rfl,c,U⟩:=F.ex;exact .all (h kV doc e J cdv ct)
theorem cP {x qual:Str}{st:eg}{f:Addr}{t:ap}{r J:Option Addr}{osl:Array (Option ap)}{kV doc e cdv ct:ap}(l:K.lookup f=ak #[t,r,.func (a5Q x qual (E1 st) (BH st) (AB st) .none kV doc e J cdv ct),osl]) (c:b0Z K cdv qual=au) (k:a3K K (.ref f)=au):Fun K x qual st f (a5Q x qual (E1 st) (BH st) (AB st) .none kV doc e J cdv ct):=#[#[t,r,kV,doc,e,J,cdv,ct,osl,rfl,l,c],k]
end
section
variable {X:Cx}
theorem pv (i:Nat) {x:Str}{pos:en}(hN:X.N[i]?=ak x:=by rfl) (e:Vis X.env.scope x:=by first | exact Or.inl rfl | exact Or.inr (Or.inl rfl) | exact Or.inr (Or.inr rfl)) (hd:(x==("__debug__":Str))=false:=by decide)
   (U:(x==("__classdict__":Str))=false:=by decide):PE X (.Name x pos) (YC i):=mP hN e hd U
end
theorem nP {A:Prop}(h:B):if aB=au then A else B:=by rw[if_neg nft];exact h
theorem jK {A:Prop}(h:A):if au=au then A else B:=by rw[if_pos rfl];exact h
theorem A2T {A:Prop}[Decidable c] (h1:c->A) (n:¬c->B):if c then A else B:=by
 by_cases h:c;. rw[if_pos h];exact h1 h
 . rw[if_neg h];exact n h
end L2
namespace L2
open PySem PySem.Spec PyProof.Rows
def OI (cells:List (Str×Addr)):List (Str×ed)->List (Str×Addr)->List (Str×Addr)
 | [],e=>e
 | (n,k)::r,e=>OI cells r (if k==.free then (match cells.lookup n with | some c=>(n,c)::e | none=>e) else e)
theorem W8 (env:ic):∀(names:List (Str×ed)) (cs:List (Str×Addr)),(∀y∈names,y.2 = .free->∃c,env.cells.lookup y.1=ak c) ->(forIn (m:=Sem) names cs λx r=>do
     let (name,kind):=x
     if (kind==.free)=au then do let c <- cellOf env name;pure (b3X ((name,c)::r)) else pure (b3X r))=pure (OI env.cells names cs)
 | [],cs,_=>rfl
 | (n,k)::r,cs,h=>by
   have hr:∀y∈r,y.2 = .free->∃c,env.cells.lookup y.1=ak c:=λy hy=>h y (yV _ hy);rw[List.forIn_cons];by_cases hk:(k==a8Q)=au;. obtain⟨c,hc⟩:=h (n,k) a0J (by simpa using hk);have e:env.cells.lookup n=ak c:=hc;simp only[hk,if_true,cellOf,e,OI];exact W8 env r _ hr
   . simp only[hk,if_false,OI];exact W8 env r _ hr
theorem vD (h:∀y∈scope.names,y.2 = .free->∃c,env.cells.lookup y.1=ak c):closureFor scope env=pure (OI env.cells scope.names []):=by
 have e:=W8 env scope.names [] h;have g:closureFor scope env=((forIn (m:=Sem) scope.names ([]:List (Str×Addr)) λx r=>do
     let (name,kind):=x
     if (kind==.free)=au then do let c <- cellOf env name;pure (b3X ((name,c)::r)) else pure (b3X r)) >>= λr=>pure r):=rfl;rw[g,e];rfl
theorem YL :∀{names:List (Str×ed)}{cs:List (Str×Addr)},(∀p∈cs,cells.lookup p.1=ak p.2)->∀p∈OI cells names cs,cells.lookup p.1=ak p.2
 | [],_,h=>h
 | (n,k)::r,cs,h=>by
   refine YL (names:=r) ?_;split
   . cases e:cells.lookup n with
     | none=>exact h
     | some c=>
       intro p hp;rcases yX.mp hp with rfl | hp;. exact e
       . exact h p hp
   . exact h
theorem UV :∀{names:List (Str×ed)}{cs:List (Str×Addr)}{p:Str×Addr},p∈cs->p∈OI cells names cs
 | [],_,_,h=>h
 | (n,k)::r,cs,p,h=>by
   refine UV (names:=r) ?_;split
   . cases e:cells.lookup n with
     | none=>exact h
     | some c=>exact yV _ h
   . exact h
theorem YM (hc:cells.lookup x=ak c):∀{names:List (Str×ed)}{cs:List (Str×Addr)},(x,a8Q)∈names->(x,c)∈OI cells names cs
 | [],_,h=>absurd h (by simp)
 | (n,k)::r,cs,h=>by
   rcases yX.mp h with e | h;. cases e;refine UV (names:=r) ?_;simp[hc]
   . exact YM hc (names:=r) h
theorem RH {D:Type}:∀{l:List (Str×D)}{x:Str}{c:D},(x,c)∈l->∃t,l.lookup x=ak t
 | [],_,_,h=>absurd h (by simp)
 | (n,k)::r,x,c,h=>by
   rw[a3V];cases e:x==n with
   | true=>exact#[k,rfl]
   | false=>
     rcases yX.mp h with e' | h;. cases e';simp at e
     . exact RH h
theorem CM (h:(OI cells names []).lookup x=ak c):cells.lookup x=ak c:=
 YL (names:=names) (cs:=[]) (by simp) (x,c) (a5W h)
structure CSc (X:Cx) (scope:eN) (NC:List Str) (fr:List (Option Nat)):Prop where
 kind:scope.kind = .function
 nocell:∀y∈scope.names,y.2≠.cell
 names:∀y∈scope.names,y.2 = .local->scope.names.lookup y.1=ak .local
 free:∀y∈scope.names,y.2 = .free->X.env.kindOf y.1=ak .cell\/X.env.kindOf y.1=ak .free
 len:fr.length=NC.length
 slot:∀(i j:Nat) (x:Str),NC[i]?=ak x->fr[i]?=ak (ak j)->X.N[j]?=ak x/\scope.names.lookup x=ak .free/\Vis X.env.scope x/\X.env.kindOf x≠ak .local
def capt (q:List (Option Nat)) (e:St):St:=q.map λo=>o.bind λj=>(e[j]?).join
def AT (X:Cx) (scope:eN) (NC:List Str) (C:Addr) (s:av) (H:Hp) (ex:List Addr) (pn:List (Addr×cy)):Cx where
 prog:=X.prog
 w:=X.w
 K:=X.K
 mg:=X.mg
 base:=X.base
 A:=X.A
 N:=NC
 s₀:=s
 H₀:=H
 env:=compEnvC scope (OI X.env.cells scope.names []) C X.env
 outer:=X.stack
 stack:=X.stack
 ex:=ex
 fn:=λ_=>aB
 calm:=X.calm
 pn:=pn
 xe:=λ_ _=>False
theorem LQ {scope:eN}{env:ic}{x:Str}:∀{names:List (Str×ed)},((names.map λ(n,k)=>if (k==a8Q&&env.scope.kind==.function&&env.kindOf n==ak .cell) then (n,NameKind.cell) else (n,k)).lookup x=ak .cell \/(names.map λ(n,k)=>if (k==a8Q&&env.scope.kind==.function&&env.kindOf n==ak .cell) then (n,NameKind.cell) else (n,k)).lookup x=ak .free) ->(∀y∈names,y.2≠.cell)->(x,a8Q)∈names
 | [],h,_=>by simp at h
 | (n,k)::r,h,hn=>by
   have Q:=@LQ scope env x r;have J:∀y∈r,y.2≠.cell:=λy hy=>hn y (yV _ hy);have hk:=hn (n,k) a0J;simp only[zI] at h;by_cases hc:(k==a8Q&&env.scope.kind==.function&&env.kindOf n==ak .cell)=au
   . simp only[hc,if_true,a3V] at h;cases hx:x==n with
     | true=>
       have e:x=n:=by simpa using hx
       have g:k = .free:=by simp at hc;exact hc.1.1
       subst e g;exact a0J
     | false=> simp only[hx] at h;exact yV _ (Q h J)
   . simp only[hc,a3V] at h;cases hx:x==n with
     | true=>
       have e:x=n:=by simpa using hx
       subst e;simp[a3V] at h;rcases h with h | h;. exact absurd h hk
       . subst h;exact a0J
     | false=> simp[a3V,hx] at h;exact yV _ (Q (by simpa using h) J)
section
theorem CSc.has (S:CSc X scope NC fr) (ok:X.Ok):∀y∈scope.names,y.2 = .free->∃c,X.env.cells.lookup y.1=ak c:=λy hy M=>ok.has y.1 (S.free y hy M)
theorem CSc.cells (S:CSc X scope NC fr) (ok:X.Ok) (h:(x,a8Q)∈scope.names):∃c,(OI X.env.cells scope.names []).lookup x=ak c/\X.env.cells.lookup x=ak c:=by obtain⟨c,hc⟩:=S.has ok _ h rfl;have e:X.env.cells.lookup x=ak c:=hc;obtain⟨t,b⟩:=RH (YM e h (cs:=[]));have:=CM b;rw[e] at this;cases this;exact#[_,b,e]
theorem W9 (hn:∀y∈scope.names,y.2 = .local->scope.names.lookup y.1=ak .local) (h:(x,a8Q)∈scope.names) (t:scope.names.lookup x≠ak .free->False):(relabel scope env).names.lookup x=ak .cell\/(relabel scope env).names.lookup x=ak .free:=by
 have M:scope.names.lookup x=ak .free:=by
   cases e:scope.names.lookup x with
   | none=>exact(t (by rw[e];intro z;cases z)).elim
   | some k=>
     cases k <;> first
       | rfl
       | exact(t (by rw[e];intro z;cases z)).elim
 have i:∀(names:List (Str×ed)),names.lookup x=ak .free ->((names.map λ(n,k)=>if (k==a8Q&&env.scope.kind==.function&&env.kindOf n==ak .cell) then (n,NameKind.cell) else (n,k)).lookup x=ak .cell \/(names.map λ(n,k)=>if (k==a8Q&&env.scope.kind==.function&&env.kindOf n==ak .cell) then (n,NameKind.cell) else (n,k)).lookup x=ak .free):=by
   intro names;induction names with
   | nil=>intro h;simp at h
   | cons y r Q=>
     obtain⟨n,k⟩:=y;intro h;rw[a3V] at h;simp only[zI];cases hx:x==n with
     | true=>
       simp only[hx] at h;cases h;split;. left;simp[a3V,hx]
       . right;simp[a3V,hx]
     | false=>
       simp only[hx] at h;have:=Q h;split;. simpa [a3V,hx] using this
       . simpa [a3V,hx] using this
 exact i scope.names M
end
end L2
namespace L2
open PySem PySem.Spec PyProof.Rows
theorem AN {t:Sem D}(h:wpAny M A t Q (λ_ _=>False) s):wpAny M A t Q E s:=
 bf h (λ_ _ q=>q) λ_ _ f=>f.elim
def ME (ifs:List bp) (env:ic):Sem Bool:=forIn ifs au λc r=>if r=au then do let ok <- isTrue c env (eval c env);pure (b3X ok) else pure (b3X r)
def WA (prog:bn) (w:bj) (A:bx) (i target:bp) (ifs:List bp) (tl:ic->Addr->(av->Prop)->av->Prop):Prop:=∀(L D:Addr) (env:ic) (R:Result->av->Prop) (I:Nat->av->Prop),(∀n s,I n s->wpAny (model prog w) A (pyNext (.ref L)) (λr y=>match r with
     | none=>R (.ok .next) y
     | some v=>wpAny (model prog w) A (letOwnedTupleGo target (.ref L) v) (λ_ b=>wpAny (model prog w) A (iD target env v) (λ_ G=>
         wpAny (model prog w) A (ME ifs env) (λok S=>if ok=au then tl env D (λs'=>∃m,m < n/\I m s') S else ∃m,m < n/\I m S) (λ_ _=>False) G) (λ_ _=>False) b) (λ_ _=>False) y) (λ_ _=>False) s) ->
   ∀n s,I n s->codeAny (model prog w) A (.compLoop i 0 (.ref L) (.ref D) env) R s
def tlL (prog:bn) (w:bj) (A:bx) (elt:bp):ic->Addr->(av->Prop)->av->Prop:=λenv D P s=>wpAny (model prog w) A (eval elt env) (λx e=>wpAny (model prog w) A (call (.builtin "list.append") [.ref D,x]) (λ_ v=>P v) (λ_ _=>False) e) (λ_ _=>False) s
theorem vE :WA prog w A (.ListComp elt [#[target,iter,ifs,0]] scope pos) target ifs (tlL prog w A elt):=by
 intro L D env R I turn n s h;refine codeAny_loop rfl I (λn s hI=>?_) n h;show wpAny _ A ((compTurn (.ListComp elt [#[target,iter,ifs,0]] scope pos) 0 (.ref L) (.ref D) env).onRaise (λx=>do gg x env;theTreesLotGoes x)) _ _ s;refine wpAny_noted ?_;rw[compTurn_list];refine zZ (bv (zZ (bf (AN (turn n s hI)) (λr y c=>?_) λ_ _ b=>b)));cases r with
 | none=>exact zY c
 | some v=>
   refine zZ (bf (AN c) (λ_ i p=>?_) λ_ _ b=>b);refine zZ (bf (AN p) (λ_ G U=>zZ (bf (AN U) (λok S e=>?_) λ_ _ b=>b)) λ_ _ b=>b);cases ok with
   | false=>exact zY #[rfl,e]
   | true=> exact zZ (zZ (bf (AN e) (λx m X=>zZ (bf (AN X) (λ_ f t=>zY (zY #[rfl,t])) λ_ _ b=>b)) λ_ _ b=>b))
def PTs (X:Cx) (ifs:List bp) (t:TT):Prop:=∀(pins:List (Addr×cy)) (s:av) (e:St) (H:Hp) (Q:Bool->Hp->Prop),Inv X pins e H s->t e H Q->wpAny (model X.prog X.w) X.A (ME ifs X.env) (TP X pins e Q) X.xe s
def vF:TT:=λ_ H Q=>Q au H
theorem fY {X:Cx}:PTs X [] vF:=λ_ _ _ H _ I h=>wpAny_tests_nil #[H,I,h]
theorem vG {X:Cx}{c:bp}{t:TT}(h:PT X c t):PTs X [c] t:=λpins s e H Q I q=>wpAny_tests_one (h pins s e H Q I q)
def PR (q:List (Option Nat)) (X:TI) (g:TG) (u:TT) (k:TE):TE:=λn H Q=>X n H λJ r=>∀D,r D=am->∃W:Nat->Nat->List V->Hp->Prop,(∃m,W 0 m [] (upd r D (.lst []))) /\∀i m h f,W i m h f->f D=ak (.lst h)/\((J.stop i f/\Q (.ref D) f)\/(J.go i f/\∀x p,J.yld i f x p->g x (capt q n) p λt j=>
   (∀(i:Nat) v,(capt q n)[i]?=ak (ak v)->t[i]?=ak (ak v))/\u t j λc b=>if c=au then k t b λy z=>∃O,z D=ak (.lst O)/\O.length < a0/\∃e,e < m/\W (i+1) e (O++[y]) (upd z D (.lst (O++[y])))
     else ∃O e,e < m/\W (i+1) e O b))
section
variable {X:Cx}{scope:eN}{NC:List Str}{fr:List (Option Nat)}{pins:List (Addr×cy)}{σ:St}{H:Hp}{s:av}
theorem cQ {n:List Addr}(S:CSc X scope NC fr) (I:Inv X pins σ H s) (B:∀b∈n,N4 X pins H b) (J:∀b∈n,b < s.heap.objs.size) (zq:h1.Ns s.heap.objs.size m) (hk:∀b o,s.heap.get? b=ak o->h1.get? b=ak o) :
   Inv (AT X scope NC s.heap.objs.size s H n (X.pn++pins)) [] (capt fr σ) H { s with heap:=h1,toks:=tk }:=by
 have t:Inv X pins σ H { s with heap:=h1,toks:=tk }:=I.kept hk;have O:∀b,b≠X.env.locals->b∉X.fs->b∉frs X.stack:=λb h1 f z=>(yX.mp (I.stkSub b z)).elim h1 f;refine#[#[I.ok.mod,S.kind,I.ok.glob,I.ok.blt,zR _,λx y c h1 f=>I.ok.inj x y c (CM h1) (CM f),λx hx=>?_,λx c h=>absurd h (by intro z;cases z),I.ok.hd,I.ok.frames,.inl rfl,λb hb=>?_,I.bs,zN I.ok.bsz I.sz,λb o e hb=>?_,λb hb=>?_,I.stack,I.stkFree],
   rfl,I.bare,Un.kept hk,#[m,zq,λi x v L g e3=>?_],λx c e=>t.cell x c (CM e),I.hok.fresh (zR _),λx c e=>t.freeC x c (CM e),λp hp=>?_,t.hok,?_]
 . have pb:=LQ (scope:=scope) (env:=X.env) (x:=x) (names:=scope.names) hx S.nocell;obtain⟨c,h,_⟩:=S.cells I.ok pb;exact#[c,h]
 . exact#[zC (J b hb),λx c e=>(B b hb).2.2.2.2.1 x c (CM e)]
 . rcases (B b hb).2.2.2.1 with z | z;. exact I.ok.noex b o e z
   . exact absurd (zP (zM e) (zN I.ok.bsz z)) (yF _)
 . exact O b (B b hb).2.1 (B b hb).2.2.1
 . have D:∃j,fr[i]?=ak (ak j)/\σ[j]?=ak (ak v):=by
     unfold capt at g;rw[zF] at g;cases M:fr[i]? with
     | none=>rw[M] at g;cases g
     | some o=>
       rw[M] at g;cases o with
       | none=>cases g
       | some j=>
         refine#[j,rfl,?_];have g:((σ[j]?).join)=ak v:=Option.some.inj g;cases hs:σ[j]? with
         | none=>rw[hs] at g;cases g
         | some q=>rw[hs] at g;cases q with
           | none=>cases g
           | some v'=>cases g;rfl
   obtain⟨j,Q,U⟩:=D;obtain⟨Y,G,Z,g4⟩:=S.slot i j x L Q;obtain⟨m',cx,lj⟩:=t.loc;obtain⟨u,r,l⟩:=lj j x v Y U Z;rcases l with ⟨k,_⟩ | ⟨k,c,hc,jh⟩
   . exact absurd k g4
   . obtain⟨c',q1,T⟩:=S.cells I.ok (a5W G);rw[hc] at T;cases T;exact#[u,r,.inr #[W9 S.names (a5W G) (λz=>z G),c,q1,jh]]
 . have N:p∈X.pn++pins:=by rw[a4K] at hp;exact hp
   obtain⟨p1,p2,p3,p4,p5⟩:=t.pin p N;exact#[p1,p2,zC (zM (I.pin p N).1),O _ p3 p4,p5]
 . unfold capt;rw[zX];exact S.len
def A1J (fr:List (Option Nat)) (k:TI) (g:TG) (j:TT) {Y:Type}(y0:Y) (at_:Y->HO) (el:Addr->Nat->(Nat->Y->Hp->Prop)->St->Hp->Prop):TE:=λσ H Q=>k σ H λJ e=>∀D,e D=am->∃W:Nat->Nat->Y->Hp->Prop,(∃m,W 0 m y0 (upd e D (at_ y0))) /\∀i m b f,W i m b f->f D=ak (at_ b)/\((J.stop i f/\Q (.ref D) f)\/(J.go i f/\∀x r,J.yld i f x r->g x (capt fr σ) r λt h=>
   (∀(i:Nat) v,(capt fr σ)[i]?=ak (ak v)->t[i]?=ak (ak v))/\j t h λc n=>if c=au then el D m (W (i+1)) t n else ∃O p,p < m/\W (i+1) p O n))
def A2U (X:Cx) (pins:List (Addr×cy)) (σ:St) (use:Option (ap->Sem Unit)) (Q:VK) (QQ:ap->av->Prop):Prop:=∀(D C:Addr) (H':Hp) (s':av) (m:Str->Option ap) (e:cy),Inv X (pins++[(C,e)]) σ H' s'->s'.heap.Ns C m->Q (.ref D) H' ->(∀(p:List (Addr×cy)) (t:St) (f:Hp) (n:av) (r:cc),Inv X (pins++[(C,e)]) t f n->Heap.SameBut C n.heap r->Inv X pins t f { n with heap:=r }) ->
     s'.heap.get? C=ak e ->
     match use with
     | none=>∀b,Heap.SameBut C s'.heap b->QQ (.ref D) { s' with heap:=b }
     | some u=>wpAny (model X.prog X.w) X.A (u (.ref D)) (λ_ i=>∃m,i.heap.Ns C m/\∀b,Heap.SameBut C i.heap b->QQ .none { i with heap:=b }) X.xe s'
theorem OJ {L iter tg:bp}{ifs:List bp}{ag:en}{wi:TI}{g:TG}{tt:TT}{Y:Type}{y0:Y}{at_:Y->HO}{Ty:String}{dt:Data}{mk:Sem ap}{tl:ic->Addr->(av->Prop)->av->Prop}{el:Addr->Nat->(Nat->Y->Hp->Prop)->St->Hp->Prop}{use:Option (ap->Sem Unit)}{Q:VK}{QQ:ap->av->Prop} {gs:List Comprehension}(zu:clausesOf L=#[tg,iter,ifs,0]::gs) (yu:mk=newObj (.type Ty) dt am) (hsz:sizeOk dt) (Bz:∀(H:Hp) (h:cc),c0 < h.objs.size->ObjOk X.prog X.w H (h.push { cls:=.type Ty,dict:=am,data:=dt }) h.objs.size (at_ y0)) (vh:WA X.prog X.w X.A L tg ifs tl) (bw:∀{it acc:ap}{env:ic}{R:Result->av->Prop}{s:av},codeAny (model X.prog X.w) X.A (.compLoop L 0 it acc env) R s->wpAny (model X.prog X.w) X.A (pyIter it) (λzw s'=>codeAny (model X.prog X.w) X.A (.compLoop L 0 zw acc env) R s') (notedBy (model X.prog X.w) X.A env λx s'=>R (.error x) s') s->codeAny (model X.prog X.w) X.A (.compStart L 0 it acc env) R s) (hc:X.calm=au) (S:CSc X scope NC fr) (hi:PI X tg iter wi) (hb:∀(C:Addr) (s:av) (H:Hp) (ex:List Addr) (pn:List (Addr×cy)),PG (AT X scope NC C s H ex pn) tg g/\PTs (AT X scope NC C s H ex pn) ifs tt/\∀(vi:List (Addr×cy)) (s':av) (σ:St) (H':Hp) (D:Addr) (n:Nat) (W:Nat->Y->Hp->Prop) (P:av->Prop),Inv (AT X scope NC C s H ex pn) vi σ H' s'->el D n W σ H'->(∀m y N t,m < n->W m y N->Inv (AT X scope NC C s H ex pn) vi σ N t->P t)->tl (AT X scope NC C s H ex pn).env D P s') (I:Inv X pins σ H s) (h:A1J fr wi g tt y0 at_ el σ H Q) (fin:A2U X pins σ use Q QQ) (hs:∀x,ca iter X.env x=pure x) :
   wpAny (model X.prog X.w) X.A (hX L scope X.env ag mk aB (eval iter X.env) use) QQ X.xe s:=by
 refine wpAny_comprehension_free (use:=use) zu hs (vD (S.has I.ok)) S.kind S.names (thn (hi pins s σ H _ I h) λv s1 h1=>thn h1 λBv t h2=>?_);obtain⟨it,j,tn,J,N,e,I2,T,fo,f2,hq⟩:=h2;subst e;have Kv:N t.heap.objs.size=none:=I2.hok.fresh (zR _);obtain⟨W,⟨m0,w0⟩,turn⟩:=hq t.heap.objs.size Kv;rw[yu];refine xM (hd:=hsz) (wpAny_newFunctionEnv S.nocell (by intro y hy;simp at hy) (λk vo vp=>?_) S.kind);dsimp only at vo vp ⊢;generalize hs3:({ t with heap:=t.heap.push { cls:=.type Ty,dict:=am,data:=dt } }:av)=M;have B_:t.heap.push { cls:=.type Ty,dict:=am,data:=dt }=M.heap:=by rw[<-hs3]
 have B:Inv X pins σ (upd N t.heap.objs.size (at_ y0)) M:=by rw[<-hs3];refine I2.laid (t':=t.toks) (λb u e=>zW _ e) (zR _) ?_;exact Bz _ _ I2.big
 rw[B_] at vo vp ⊢;have Kw:M.heap.objs.size=t.heap.objs.size+1:=by rw[<-B_,a9K]
 have Ft:∀b∈j,b < t.heap.objs.size:=λb hb=>by obtain⟨o,e,_⟩:=T.obj _ _ fo b hb;exact zM e
 have Fu:∀b∈j,b < M.heap.objs.size:=λb hb=>by rw[Kw];exact b9K (Ft b hb)
 have U:∀b∈j,N4 X pins (upd N t.heap.objs.size (at_ y0)) b:=λb hb=>#[by rw[AH (zC (Ft b hb))];exact(f2 b hb).1,(f2 b hb).2]
 have sh:∀b o,M.heap.get? b=ak o->k.get? b=ak o:=λb o e=>vp.extBut b o (zC (zM e)) (zW _ e);generalize hC:M.heap.objs.size=C at vo vp ⊢;have I0:Inv (AT X scope NC C M (upd N t.heap.objs.size (at_ y0)) j (X.pn++pins)) [] (capt fr σ) (upd N t.heap.objs.size (at_ y0)) { t with heap:=k,toks:=t.toks+([]:List (Str×ap)).length }:=by have:=cQ (tk:=t.toks+([]:List (Str×ap)).length) (h1:=k) S B U Fu (hC▸vo) sh;rw[hC] at this;rw[<-hs3] at this;rw[<-hs3];exact this
 obtain⟨Fv,B',Fw⟩:=hb C M (upd N t.heap.objs.size (at_ y0)) j (X.pn++pins);generalize hX':AT X scope NC C M (upd N t.heap.objs.size (at_ y0)) j (X.pn++pins)=f at I0 Fv B' Fw;have eP:f.prog=X.prog:=by rw[<-hX'];rfl
 have eW:f.w=X.w:=by rw[<-hX'];rfl
 have eK:f.K=X.K:=by rw[<-hX'];rfl
 have eA:f.A=X.A:=by rw[<-hX'];rfl
 have eE:f.env=compEnvC scope (OI X.env.cells scope.names []) C X.env:=by rw[<-hX'];rfl
 have eX:f.xe=λ_ _=>False:=by rw[<-hX'];rfl
 have ec:f.calm=true:=by rw[<-hX'];exact hc
 have stat:∀{H':Hp},(∀b∈j,H' b=am)->∀b∈j,N4 f [] H' b:=λ{H'} hn b hb=>by obtain⟨q1,q2,q3,q4,q5,q6⟩:=U b hb;rw[<-hX'];exact#[hn b hb,by show b≠C;rw[<-hC];exact zC (Fu b hb),λz=>(yX.mp (B.stkSub b z)).elim q2 q3,.inl hb,λx c e=>q5 x c (CM e),λp hp=>q6 p (by rw[a4K] at hp;exact hp)]
 have ends:∀(i m:Nat) (G:Y) (H':Hp) (s':av),Inv f [] (capt fr σ) H' s'->Q (.ref t.heap.objs.size) H' ->
     compPost (model X.prog X.w) X.A X.xe use QQ (.ref t.heap.objs.size) C (.ok .next) s':=by
   intro i m G H' s' O q';have eC:f.env.locals=C:=by rw[eE];rfl
   obtain⟨mC,Ca,_⟩:=O.loc;rw[eC] at Ca;have Kx:H' C=none:=by have:=O.free;rw[eC] at this;exact this
   have un:Un (frs X.stack) j (upd N t.heap.objs.size (at_ y0)) H' M.heap s'.heap:=by have:=O.base;rw[<-hX'] at this;exact this
   have C':s'.os=M.os:=by have:=O.os;rw[<-hX'] at this;exact this
   have xq:HOk X.prog X.w H' s'.heap:=by have:=O.hok;rw[eP,eW] at this;exact this
   have zz:Inv X pins σ H' s':=B.call' (ch:=j) C' un xq O.bare λb hb=>#[(U b hb).2.2.2.1,(U b hb).2.1,(U b hb).2.2.2.2.1,(U b hb).2.2.2.2.2]
   have C1:C≠X.env.locals:=by rw[<-hC];exact a9J B.lt
   have C2:C∉X.fs:=by rw[<-hC];exact B.nofs (zR _)
   have C3:X.s₀.heap.objs.size<=C:=by rw[<-hC];exact B.sz
   have C4:∀x c,X.env.cells.lookup x=ak c->c≠C:=λx c e z=>by obtain⟨v,q⟩:=B.cell x c e;rw[z,<-hC] at q;exact absurd q.lt (yF _)
   have C5:∀p∈X.pn++pins,p.1≠C:=λp hp z=>by have:=zM (B.pin p hp).1;rw[z,<-hC] at this;exact absurd this (yF _)
   obtain⟨oC,Oy,Oz,yw,Ky,O_⟩:=id Ca;have Df:Inv X (pins++[(C,oC)]) σ H' s':=zz.pins_of λp hp=>(yW.mp hp).elim (λz=>zz.pin p (zB _ z)) λz=>by
     have e:p=(C,oC):=by simpa using z
     subst e;exact⟨yw,Kx,C1,C2,λv z=>by rw[Ky] at z;cases z⟩
   have res:=fin t.heap.objs.size C H' s' mC oC Df Ca q' (λ_ σ2 H3 s4 h4 I4 sb=>by have J4:Inv X pins σ2 H3 s4:=I4.unpinned;have Kz:H3 C=none:=(I4.pin (C,oC) (zB _ (zB _ (by simp)))).2.1;exact J4.turned (t':=s4.toks) (it:=C) (λb o hb e=>sb.extBut b o hb e) Kz C1 (.inr C3) C4 C5) yw;cases use with
   | none=>exact#[mC,Ca,res]
   | some u=>exact res
 have loop:∀s':av,s'={ t with heap:=k,toks:=t.toks+([]:List (Str×ap)).length } ->
     codeAny (model X.prog X.w) X.A (.compLoop L 0 (.ref it) (.ref t.heap.objs.size) (compEnvC scope (OI X.env.cells scope.names []) C X.env)) (compPost (model X.prog X.w) X.A X.xe use QQ (.ref t.heap.objs.size) C) s':=by
   rintro s' rfl;refine vh _ _ _ _ (λn s'=>∃i G H',Inv f [] (capt fr σ) H' s'/\tn i s'.heap/\(∀b∈j,H' b=am)/\W i n G H') ?_ m0 _ #[0,y0,_,I0,T.keep _ _ _ fo (λb hb o e=>sh b o (by rw[<-B_];exact zW _ e)),λb hb=>(U b hb).1,w0];rintro n s5 ⟨i,G,H5,I5,ji,yt,w5⟩;obtain⟨hD5,z_⟩:=turn i n G H5 w5;rcases z_ with ⟨stop,qn⟩ | ⟨go,step⟩
   . have:=T.done f eP eW eK ec i [] s5 (capt fr σ) H5 (λ_ _=>False) I5 (stat yt) ji stop;rw[eA] at this;refine thn this ?_;rintro r s6 ⟨hr,I6⟩;subst hr;exact ends i n G H5 s6 I6 qn
   . have:=T.item f eP eW eK ec i [] s5 (capt fr σ) H5 (λ_ _=>False) I5 (stat yt) ji go;rw[eA] at this;refine thn this ?_;rintro r s6 ⟨u,hr,h6⟩;subst hr;refine thn h6 ?_;rintro _ s7 ⟨x,H7,I7,r7,y7,wt,K_⟩;have K':=I7.pinned (stat K_) (T.obj _ _ wt);have Aa:=Fv _ s7 (capt fr σ) H7 x u _ K' r7 (step x H7 y7);rw[eP,eW,eA,eE,eX] at Aa;refine thn Aa ?_;rintro _ s8 ⟨Z,H8,I8,Dg,q8⟩;have Fx:=B' _ s8 Z H8 _ I8 q8;rw[eP,eW,eA,eE,eX] at Fx;refine thn Fx ?_;rintro ok s9 ⟨H9,I9,q9⟩;have weak:∀{H':Hp}{s':av},Inv f ([]++R6 j s7.heap) Z H' s'->Inv f [] (capt fr σ) H' s'/\tn (i+1) s'.heap/\∀b∈j,H' b=none:=λ{H' s'} O=>by refine#[O.unpinned.weak (by rw[O.len];rw[I0.len]) Dg,T.keep _ _ _ wt λb hb o e=>(O.pin (b,o) (zB _ (zB _ (E8 hb e)))).1,λb hb=>?_];obtain⟨o,e,d⟩:=T.obj _ _ wt b hb;exact(O.pin (b,o) (zB _ (zB _ (E8 hb e)))).2.1
     cases ok with
     | false=> rw[if_neg nft] at q9;obtain⟨b_,m',vq,w'⟩:=q9;obtain⟨a1,a2,a3⟩:=weak I9;exact#[m',vq,i+1,b_,H9,a1,a2,a3,w']
     | true=>
       rw[if_pos rfl] at q9;have Cb:=Fw _ s9 Z H9 _ n (W (i+1)) (λs'=>∃Ab,Ab < n/\∃i G H',Inv f [] (capt fr σ) H' s'/\tn i s'.heap/\(∀b∈j,H' b=am)/\W i Ab G H') I9 q9 λm y N t hm w' O=>by obtain⟨a1,a2,a3⟩:=weak O;exact#[m,hm,i+1,y,N,a1,a2,a3,w']
       rw[eE] at Cb;exact Cb
 refine bw (loop _ rfl) (T.self _ 0 _ _ _ ?_ (loop _ rfl));exact T.keep _ _ _ fo (λb hb o e=>sh b o (by rw[<-B_];exact zW _ e))
theorem YN (hc:X.calm=au) (S:CSc X scope NC fr) (hi:PI X r iter b) (hb:∀(C:Addr) (s:av) (H:Hp) (p:List Addr) (pn:List (Addr×cy)),PG (AT X scope NC C s H p pn) r g/\PTs (AT X scope NC C s H p pn) ifs c/\PE (AT X scope NC C s H p pn) elt t) (I:Inv X pins σ H s) (h:PR fr b g c t σ H Q) (fin:A2U X pins σ use Q QQ) (hs:∀x,ca iter X.env x=pure x) :
   wpAny (model X.prog X.w) X.A (hX (.ListComp elt [#[r,iter,ifs,0]] scope pos) scope X.env B (newList []) aB (eval iter X.env) use) QQ X.xe s:=by refine OJ (y0:=[]) (at_:=.lst) (Ty:= "list") (dt:=.seq #[]) (tl:=tlL X.prog X.w X.A elt) (el:=λD m W i M=>t i M λy z=>∃O,z D=ak (.lst O)/\O.length < a0/\∃e,e < m/\W e (O++[y]) (upd z D (.lst (O++[y])))) rfl rfl (by size_fits) (λH h _=>#[xT _,[],0,.nil,yZ _ rfl]) vE codeAny_compStart_list hc S hi (λC s H p pn=>#[(hb C s H p pn).1,(hb C s H p pn).2.1,λvi s' σ H' D n W P I q k=>?_]) I h fin hs;refine thn ((hb C s H p pn).2.2 _ s' σ H' _ I q) ?_;rintro y f ⟨Y,j,u,v,O,hD,hsz,e,G,J⟩;exact thn (OF _ f σ j (.ref D) [Y] (.ref D) [y] (λ_ H'=>∃e,e < n/\W e (O++[Y]) H') u rfl (.cons v .nil) #[_,O,Y,rfl,rfl,hD,hsz,e,G,J]) (by rintro _ Z ⟨_,La,T,_,U,L,N⟩;exact k _ _ _ _ L N T)
end
end L2
namespace L2
open PySem PySem.Spec PyProof.Rows
section
variable {X:Cx}{scope:eN}{NC:List Str}{fr:List (Option Nat)}{elt iter tg:bp}{ifs:List bp}{pos:en}{wi:TI}{g:TG}{tt:TT}{te:TE}
theorem vH (hc:X.calm=au) (S:CSc X scope NC fr) (hi:PI X tg iter wi) (hb:∀(C:Addr) (s:av) (H:Hp) (p:List Addr) (pn:List (Addr×cy)),PG (AT X scope NC C s H p pn) tg g/\PTs (AT X scope NC C s H p pn) ifs tt/\PE (AT X scope NC C s H p pn) elt te) (hs:∀x,ca iter X.env x=pure x:=by intro _;rfl):PE X (.ListComp elt [#[tg,iter,ifs,0]] scope pos) (PR fr wi g tt te):=by intro pins s n H Q I h;rw[eval_ListComp];refine YN (use:=am) (Q:=Q) hc S hi hb I h (λD C H' s' m i e hn q back _ b t=>?_) hs;exact#[.ref D,H',back pins n H' s' b e t,rfl,q]
theorem vI {i:Nat}{x:Str}{j u:en}(hc:X.calm=au) (hN:X.N.Nodup) (yx:X.N[i]?=ak x) (hx:Loc X.env.scope x) (S:CSc X scope NC fr) (hi:PI X tg iter wi) (hb:∀(C:Addr) (s:av) (H:Hp) (p:List Addr) (pn:List (Addr×cy)),PG (AT X scope NC C s H p pn) tg g/\PTs (AT X scope NC C s H p pn) ifs tt/\PE (AT X scope NC C s H p pn) elt te) (y:ge (.ListComp elt [#[tg,iter,ifs,0]] scope pos) (ak (.Name x j)) u.line X.env=pure au) (J:X.fn x=au\/X.env.scope.names.lookup x=ak .local:=by first | exact .inl rfl | exact .inr rfl | assumption)
   (hs:∀x,ca iter X.env x=pure x:=by intro _;rfl) :
   PS X (.Assign [.Name x j] (.ListComp elt [#[tg,iter,ifs,0]] scope pos) u) (λD e H=>PR fr wi g tt te e H λv H'=>D.nx (e.set i (ak v)) H'):=by intro pins s e H D I h;rw[exec_Assign_Name_used _ _ _ _ y];refine zZ (bv (zZ ?_));show wpAny _ X.A (do let _ <- hX (.ListComp elt [#[tg,iter,ifs,0]] scope pos) scope X.env _ (newList []) aB (eval iter X.env) (ak (iD (.Name x j) X.env))) _ _ s;refine zZ (thn (YN (use:=ak (iD (.Name x j) X.env)) (Q:=λv H'=>D.nx (e.set i (ak v)) H') (QQ:=λ_ s'=>∃c H',Inv X pins c H' s'/\D.nx c H') hc S hi hb I h (λA C H' s' m n T hn q back yw=>?_) hs) λ_ s' hq=>zY (zY hq));have O:=VW (X:=X) (pos:=j) hN yx hx J (pins++[(C,n)]) s' e H' (.ref A) (.ref A) (λc H'=>D.nx c H') T rfl q;refine thn O ?_;rintro _ k ⟨t,f,b,U⟩;have z:k.heap.get? C=ak n:=(b.pin (C,n) (zB _ (zB _ (by simp)))).1;obtain⟨o',B,M,r,L,Z⟩:=hn;rw[yw] at r;cases r;exact#[m,#[_,B,M,z,L,Z],λG Y=>#[t,f,back pins t f k G b Y,U]]
end
def Its (x:Str):It:=#[λi _=>i < x.cps.size,λi H v H'=>H'=H/\∃c,x.cps[i]?=ak c/\v = .str #[(y9 [c])],λi _=>i=x.cps.size]
theorem YO {P:bn}{w:bj}{K:Frg}{tg:bp}(it:Addr) (ty:String) (x:Str) (t:Tok) (zp:["enumerate","zip","dict_itemiterator","dict_reverseitemiterator","odict_iterator","itertools.zip_longest","itertools.pairwise"].contains ty=aB) (W:∀A:bx,A.handled=am->Walks P w A it [it] [it] x.cps.size (SignAt x) (λi h=>h.IsStrIter it ty x t i)) (Ac:∀(A:bx) (i:Nat) (s:av) (Q:ap->av->Prop) (E:ap->av->Prop),s.heap.IsStrIter it ty x t i->Q (.ref it) s->wpAny (model P w) A (pyIter (.ref it)) Q E s) :
   Turn P w K tg (Its x) [it] it (λi h=>h.IsStrIter it ty x t i) where
 mem:=by simp
 obj:=λi h st b hb=>by
   have e:b=it:=by simpa using hb
   subst e;obtain⟨o,e,c,d⟩:=st;exact⟨o,e,λv z=>by rw[d] at z;cases z⟩
 keep:=λi h h' st k=>by obtain⟨o,e,r⟩:=st;exact#[o,k it (by simp) o e,r]
 item:=by intro X hP hw hK hc i pins s σ H E I hf st hg;subst hP hw hK;obtain⟨f0,f1,f2,f3,f4,f5⟩:=hf it (by simp);refine(W X.A (I.ok.hd hc)).item i s _ _ hg st λv h' tk hv ie kk=>?_;obtain⟨c,u,Dr,rfl⟩:=hv;have I1:Inv X pins σ H { s with heap:=h',toks:=tk }:=I.turned (λb o hb e=>kk b o (by simpa using hb) e) f0 f1 f3 f4 f5;obtain⟨o,e,c',d⟩:=id ie;exact#[_,rfl,fR (s:={ s with heap:=h',toks:=tk }) e c' d zp #[.str #[(y9 [c])],H,I1,#[u,rfl],#[rfl,c,Dr,rfl],ie,λb hb=>(hf b hb).1]]
 done:=by intro X hP hw hK hc i pins s σ H E I hf st hg;subst hP hw hK;obtain⟨f0,f1,f2,f3,f4,f5⟩:=hf it (by simp);have hi:i=x.cps.size:=hg;subst hi;refine(W X.A (I.ok.hd hc)).done s _ _ st λh' tk kk=>#[rfl,I.turned (λb o hb e=>kk b o (by simpa using hb) e) f0 f1 f3 f4 f5]
 self:=Ac
theorem WB (bs:List Bool):(a1X bs.length).all (λi=>(bs[i]?).getD aB)=bs.all id:=by
 rw[a1K,a9X,a9X];constructor;. intro h b hb;obtain⟨i,hi,rfl⟩:=List.mem_iff_getElem.mp hb;have:=h i (by simpa using hi);simpa [hi] using this
 . intro h i hi;have hi:i < bs.length:=by simpa using hi
   have:=h bs[i] (a1V hi);simpa [hi] using this
theorem WC (bs:List Bool):(a1X bs.length).any (λi=>(bs[i]?).getD aB)=bs.any id:=by
 rw[a1K,a9Q,a9Q];constructor
 . rintro⟨i,hi,h⟩;have hi:i < bs.length:=by simpa using hi
   exact#[bs[i],a1V hi,by simpa [hi] using h]
 . rintro⟨b,hb,h⟩;obtain⟨i,hi,rfl⟩:=List.mem_iff_getElem.mp hb;exact#[i,by simpa using hi,by simpa [hi] using h]
section
variable {X:Cx}
theorem fZ {bs:List Bool}{t:List ap}(r:Vals (bs.map V.bl) t) {i:Nat}{v:ap}(h:t.toArray[i]?=ak v):v = .bool ((bs[i]?).getD aB):=by
 have b:t[i]?=ak v:=by simpa using h
 have n:i < t.length:=(yT.mp b).1;have e:=r.length;rw[zX] at e;have hb:(bs.map V.bl)[i]?=ak (V.bl bs[i]):=by rw[zF];simp[show i < bs.length by omega]
 obtain⟨u,hu,T⟩:=r.get hb;rw[b] at hu;cases hu;simp[show i < bs.length by omega];exact T
def A5S (X:Cx):List V->Hp->VK->Prop:=λt H Q=>∃(p:Addr) (bs:List Bool),t=[.ref p]/\SqL X.K H p (bs.map V.bl)/\Q (.bl (bs.all id)) H
theorem nQ (hc:X.calm=au):D9 X (.builtin "all") (A5S X):=by
 intro pins s D H M z Q I r h;obtain⟨p,bs,rfl,hp,q⟩:=h;obtain⟨u,rfl,T⟩:=JB r;cases T;obtain⟨m,S,Y,y⟩:=I.list hp;have O:p≠s.heap.objs.size:=by obtain⟨o,n,e,_⟩:=Y;exact zC (zM e)
 have t:=S.length;rw[zX] at t;refine call_all_walk (g0 Y.isList ?_);refine#[s.heap.objs.size,_,_,_,_,_,λi=>(bs[i]?).getD aB,rfl,Walks.list (show X.A.in1.handled=am from I.ok.hd hc) s.heap.objs.size p O m.toArray,#[#[_,yZ _ rfl,rfl,rfl],?_],λi v s' k j N hq=>?_,λx g hk=>?_];. obtain⟨o,n,e,c,d,f⟩:=Y;exact#[o,zW _ e,c,n,f]
 . rw[fZ S N];exact cr hq
 . refine#[.bl (bs.all id),H,?_,?_,q];. exact I.kept (t':=g) λb o e=>hk b o (by simp;exact zC (zM e)) (zW _ e)
   . rw[zJ,<-t,WB];rfl
def A5T (X:Cx):List V->Hp->VK->Prop:=λt H Q=>∃(p:Addr) (bs:List Bool),t=[.ref p]/\SqL X.K H p (bs.map V.bl)/\Q (.bl (bs.any id)) H
theorem nR (hc:X.calm=au):D9 X (.builtin "any") (A5T X):=by
 intro pins s D H M z Q I r h;obtain⟨p,bs,rfl,hp,q⟩:=h;obtain⟨u,rfl,T⟩:=JB r;cases T;obtain⟨m,S,Y,y⟩:=I.list hp;have O:p≠s.heap.objs.size:=by obtain⟨o,n,e,_⟩:=Y;exact zC (zM e)
 have t:=S.length;rw[zX] at t;refine call_any_walk (g0 Y.isList ?_);refine#[s.heap.objs.size,_,_,_,_,_,λi=>(bs[i]?).getD aB,rfl,Walks.list (show X.A.in1.handled=am from I.ok.hd hc) s.heap.objs.size p O m.toArray,#[#[_,yZ _ rfl,rfl,rfl],?_],λi v s' k j N hq=>?_,λx g hk=>?_];. obtain⟨o,n,e,c,d,f⟩:=Y;exact#[o,zW _ e,c,n,f]
 . rw[fZ S N];exact cr hq
 . refine#[.bl (bs.any id),H,?_,?_,q];. exact I.kept (t':=g) λb o e=>hk b o (by simp;exact zC (zM e)) (zW _ e)
   . rw[zJ,<-t,WC];rfl
def A2V:V->Option Int->Option Int->Hp->VK->Prop:=λx e hi H Q=>∃y,x = .str y/\y.length<=a0/\Q (.str (b1V y e hi)) H
theorem A2W:SlR X A2V:=by
 intro pins s f H x v c S b hi sl Q I p hs Y m h;obtain⟨y,rfl,e,q⟩:=h;obtain⟨t,rfl⟩:=p;refine#["str", _,F.slot_str_getitem.lookup,typeIs_str _ _ _,?_];cases Y with
 | none=>
   cases m with
   | none=>exact eH (l:=am) (u:=am) (st:=am) hs rfl (ig #[zN (Txt.slice_le y _ _) e,λn k=>#[.str _,H,I.tok _,#[_,rfl],q]])
   | int j r=>exact eH (l:=am) (u:=ak (j,r)) (st:=am) hs rfl (ig #[zN (Txt.slice_le y _ _) e,λn k=>#[.str _,H,I.tok _,#[_,rfl],q]])
 | int i g=>
   cases m with
   | none=>exact eH (l:=ak (i,g)) (u:=am) (st:=am) hs rfl (ig #[zN (Txt.slice_le y _ _) e,λn k=>#[.str _,H,I.tok _,#[_,rfl],q]])
   | int j r=>exact eH (l:=ak (i,g)) (u:=ak (j,r)) (st:=am) hs rfl (ig #[zN (Txt.slice_le y _ _) e,λn k=>#[.str _,H,I.tok _,#[_,rfl],q]])
theorem QG:∀{ys:List Str}{e:List ap},Vals (ys.map V.str) e->StrsAre e ys
 | [],_,.nil=>.nil
 | y::r,_,.cons h t=>by obtain⟨n,rfl⟩:=h;exact .cons y n (QG t)
def nS (K:Frg):V->List V->Hp->VK->Prop:=λx t H Q=>∃(y:Str) (p:Addr) (e:List Str),x = .str y/\t=[.ref p]/\SqL K H p (e.map V.str)/\(e.map (·.length)).sum+e.length*y.length<=16777216/\Q (.str (Txt.join y e)) H
theorem vJ:MtR X "str.join" (nS X.K):=by intro pins s g H x c v b Q I n S h;obtain⟨y,p,f,rfl,rfl,hp,e,q⟩:=h;obtain⟨t,rfl⟩:=n;obtain⟨u,rfl,T⟩:=JB S;cases T;obtain⟨i,r,Y,_⟩:=I.list hp;exact join_list Y.isList (by simpa using QG r) e λm k=>#[.str _,H,I.tok _,#[_,rfl],q]
def A1K (K:Frg):R2:=λx y H Q=>∃a b t e,x = .ref a/\y = .ref b/\SqL K H a t/\SqL K H b e/\t.length+e.length<=a0/\∀p,H p=am->Q (.ref p) (upd H p (.lst (t++e)))
theorem vK:OpR X (ea .Add) (A1K X.K):=by
 intro pins s k H x y v u Q I f g h;obtain⟨l,b,G,J,rfl,rfl,hH,hB,S,q⟩:=h;cases f;cases g;obtain⟨e,r,Y,N⟩:=I.list hH;obtain⟨M,t,i,B⟩:=I.list hB;have z:=r.length;have T:=t.length;obtain⟨⟨cls,m,data,sl⟩,n,ho,hc,_,hd⟩:=Y;obtain⟨⟨D,j,data2,O⟩,c,ho2,hc2,_,hd2⟩:=i;dsimp only at hc hd hc2 hd2;subst hc hd hc2 hd2;have p:e.toArray++M.toArray=(e++M).toArray:=by simp
 have fin:EP X pins k Q (.ref s.heap.objs.size) { s with heap:=s.heap.push { cls:=.type "list", data:=.seq (e.toArray++M.toArray) } }:=by rw[p];exact#[.ref _,_,I.lnew (t':=s.toks) (r.append t) (by rw[yY];omega),rfl,q _ I.fresh]
 exact concat_meets #[_,ho,rfl] #[_,ho2,rfl] noFill_list_add seq_list_add PySem.F.slot_list_add PySem.F.entry_list_add (PySem.F.args_list_add_2 _ _) (list_addW l b e.toArray M.toArray n c m j sl O (by rw[zJ,zJ];omega)) #[ho,ho2,fin]
def A1L (i j:Int):Prop:=0 < j/\j < 2 ^ 64
theorem nT:OpR X (ea .FloorDiv) (rI A1L λi j=>.int (i/j)):=opI λi j _ _ _ _ _ hc q=>by
 have h1:(0:Int) < j:=hc.1;have n:j.natAbs.log2 < 9000:=by
   have I:j.natAbs≠0:=by omega
   have:j.natAbs < 2 ^ 64:=by have:=hc.2;omega
   exact zP ((Nat.log2_lt I).mpr this) `kh
 exact floordiv_int (by omega) (by rw[Int.fdiv_eq_ediv_of_nonneg i (by omega)];exact q) (.inl (PyProof.noPylong_of_log2 n))
end
end L2
namespace L2
open PySem PySem.Spec PyProof.Rows
def A4W:Key->PyData
 | .inl i=>.int i
 | .inr x=>.str x
def LW (K:Frg) (H:Hp) (W:Addr->Prop) (a:Addr) (xs:List V):Prop:=(¬W a/\Rd H a (.lst xs))\/∃(o:cy) (e:Array ap) (n:Nat),K.lookup a=ak o/\o.cls = .type "list" /\ o.dict=am/\o.data = .seq e n/\e.size<=a0/\Vals xs e.toList
def TW (K:Frg) (H:Hp) (W:Addr->Prop) (a:Addr) (xs:List V):Prop:=(¬W a/\Rd H a (.tup xs))\/∃(o:cy) (e:Array ap) (n:Nat),K.lookup a=ak o/\o.cls = .type "tuple" /\ o.data = .seq e n/\e.size<=a0/\Vals xs e.toList
theorem LW.sq {K:Frg}(h:LW K H W a xs):SqL K H a xs:=h.elim (λz=>.inl z.2) .inr
theorem TW.sq {K:Frg}(h:TW K H W a xs):SqT K H a xs:=h.elim (λz=>.inl z.2) .inr
mutual
def DV (K:Frg) (H:Hp) (W:Addr->Prop):PyData->V->Prop
 | .none,v=>v = .non
 | .bool b,v=>v = .bl b
 | .int i,v=>v = .int i
 | .str x,v=>v = .str x
 | .list ds,v=>∃a e,v = .ref a/\LW K H W a e/\DVs K H W ds e
 | .tuple ds,v=>∃a e,v = .ref a/\TW K H W a e/\DVs K H W ds e
 | .dict kvs,v=>∃a t,v = .ref a/\¬W a/\Rd H a (.dK t)/\DKV K H W kvs t
def DVs (K:Frg) (H:Hp) (W:Addr->Prop):List PyData->List V->Prop
 | [],e=>e=[]
 | d::ds,e=>∃v r,e=v::r/\DV K H W d v/\DVs K H W ds r
def DKV (K:Frg) (H:Hp) (W:Addr->Prop):List (PyData×PyData)->List (Key×V)->Prop
 | [],e=>e=[]
 | (k,d)::ds,e=>∃t v r,e=(t,v)::r/\k=A4W t/\DV K H W d v/\DKV K H W ds r
end
structure Grow (K:Frg) (W W':Addr->Prop) (H H':Hp):Prop where
 keep:∀b o,H b=ak o->¬W b->H' b=ak o\/∃ks ob,o = .dK ks/\H' b=ak (.frz ob o)
 new:∀b,W' b->W b\/H b=am
theorem Grow.refl {K:Frg}:Grow K W W H H:=#[λ_ _ h _=>.inl h,λ_ h=>.inl h]
section
variable {K:Frg}{W W' W2:Addr->Prop}{H H' H2:Hp}
theorem Rd.grow (g:Grow K W W' H H') (nw:¬W a) (h:Rd H a o):Rd H' a o:=by
 rcases h with h | ⟨i,h⟩
 . rcases g.keep _ _ h nw with e | ⟨n,t,_,e⟩
   . exact .inl e
   . exact .inr #[t,e]
 . rcases g.keep _ _ h nw with e | ⟨n,t,e,_⟩
   . exact .inr #[i,e]
   . cases e
theorem Grow.kept (g:Grow K W W' H H') (h:H a=ak o) (nw:¬W a) (n:∀ks,o≠.dK ks):H' a=ak o:=(g.keep a o h nw).elim id (by rintro⟨ks,_,e,_⟩;exact absurd e (n ks))
theorem Rd.ne_none (h:Rd H a o):H a≠none:=by rcases h with h | ⟨n,h⟩ <;> rw[h] <;> simp
theorem Rd.nw (g:Grow K W W' H H') (nw:¬W a) (h:Rd H a o):¬W' a:=λw=>by
 rcases g.new a w with z | z;. exact nw z
 . exact Rd.ne_none h z
theorem LW.grow (g:Grow K W W' H H') (h:LW K H W a xs):LW K H' W' a xs:=h.elim (λz=>.inl #[z.2.nw g z.1,z.2.grow g z.1]) .inr
theorem TW.grow (g:Grow K W W' H H') (h:TW K H W a xs):TW K H' W' a xs:=h.elim (λz=>.inl #[z.2.nw g z.1,z.2.grow g z.1]) .inr
mutual
theorem DV.grow (g:Grow K W W' H H'):∀{d:PyData}{v:V},DV K H W d v->DV K H' W' d v
 | .none,v,h=>by unfold DV at h ⊢;exact h
 | .bool b,v,h=>by unfold DV at h ⊢;exact h
 | .int i,v,h=>by unfold DV at h ⊢;exact h
 | .str x,v,h=>by unfold DV at h ⊢;exact h
 | .list ds,v,h=>by unfold DV at h ⊢;obtain⟨a,t,e,hs,hd⟩:=h;exact#[a,t,e,hs.grow g,DVs.grow g hd]
 | .tuple ds,v,h=>by unfold DV at h ⊢;obtain⟨a,t,e,hs,hd⟩:=h;exact#[a,t,e,hs.grow g,DVs.grow g hd]
 | .dict kvs,v,h=>by unfold DV at h ⊢;obtain⟨a,t,e,nw,hs,hd⟩:=h;exact#[a,t,e,hs.nw g nw,hs.grow g nw,DKV.grow g hd]
theorem DVs.grow (g:Grow K W W' H H'):∀{ds:List PyData}{vs:List V},DVs K H W ds vs->DVs K H' W' ds vs
 | [],vs,h=>by unfold DVs at h ⊢;exact h
 | d::ds,vs,h=>by unfold DVs at h ⊢;obtain⟨v,r,e,h1,n⟩:=h;exact#[v,r,e,DV.grow g h1,DVs.grow g n]
theorem DKV.grow (g:Grow K W W' H H'):∀{ds:List (PyData×PyData)}{vs:List (Key×V)},DKV K H W ds vs->DKV K H' W' ds vs
 | [],vs,h=>by unfold DKV at h ⊢;exact h
 | (k,d)::ds,vs,h=>by unfold DKV at h ⊢;obtain⟨i,v,r,e,t,h1,n⟩:=h;exact#[i,v,r,e,t,DV.grow g h1,DKV.grow g n]
end
theorem Grow.trans (a:Grow K W W' H H') (b:Grow K W' W2 H' H2):Grow K W W2 H H2:=by
 refine#[λx o h nw=>?_,λx w=>?_]
 . have B:¬W' x:=λw=>by
     rcases a.new x w with z | z;. exact nw z
     . rw[h] at z;cases z
   rcases a.keep x o h nw with e | ⟨t,n,j,g⟩
   . exact b.keep x o e B
   . exact .inr #[t,n,j,b.kept g B λ_ z=>nomatch z]
 . rcases b.new x w with z | z1;. exact a.new x z
   . by_cases hx:W x;. exact .inl hx
     . refine .inr ?_;cases e:H x with
       | none=>rfl
       | some o=> rcases a.keep x o e hx with q | ⟨_,_,_,q⟩ <;> (rw[q] at z1;cases z1)
theorem DVs.length:∀{ds:List PyData}{vs:List V},DVs K H W ds vs->vs.length=ds.length
 | [],vs,h=>by unfold DVs at h;subst h;rfl
 | d::ds,vs,h=>by unfold DVs at h;obtain⟨v,r,e,h1,n⟩:=h;subst e;simp[DVs.length n]
theorem DVs.get:∀{ds:List PyData}{vs:List V}{i:Nat}{v:V},DVs K H W ds vs->vs[i]?=ak v->∃d,ds[i]?=ak d/\DV K H W d v
 | [],vs,i,v,h,e=>by unfold DVs at h;subst h;simp at e
 | d::ds,vs,i,v,h,e=>by
   unfold DVs at h;obtain⟨u,r,e',h1,n⟩:=h;subst e';cases i with
   | zero=>simp at e;subst e;exact#[d,rfl,h1]
   | succ i=>simpa using DVs.get n (by simpa using e)
theorem DVs.get':∀{ds:List PyData}{vs:List V}{i:Nat}{d:PyData},DVs K H W ds vs->ds[i]?=ak d->∃v,vs[i]?=ak v/\DV K H W d v
 | [],vs,i,v,h,e=>by simp at e
 | d::ds,vs,i,v,h,e=>by
   unfold DVs at h;obtain⟨u,r,e',h1,n⟩:=h;subst e';cases i with
   | zero=>simp at e;subst e;exact#[u,rfl,h1]
   | succ i=>simpa using DVs.get' n (by simpa using e)
theorem DVs.nil:DVs K H W [] []:=by unfold DVs;rfl
theorem DVs.cons {d:PyData}{v:V}{ds:List PyData}{vs:List V}(h:DV K H W d v) (t:DVs K H W ds vs):DVs K H W (d::ds) (v::vs):=by unfold DVs;exact#[v,vs,rfl,h,t]
theorem DVs.append:∀{ds es:List PyData}{vs v:List V},DVs K H W ds vs->DVs K H W es v->DVs K H W (ds++es) (vs++v)
 | [],es,vs,v,h,t=>by unfold DVs at h;subst h;exact t
 | d::ds,es,vs,v,h,t=>by unfold DVs at h;obtain⟨u,r,e',h1,n⟩:=h;subst e';exact DVs.cons h1 (DVs.append n t)
theorem DVs.drop:∀{ds:List PyData}{vs:List V}(i:Nat),DVs K H W ds vs->DVs K H W (ds.drop i) (vs.drop i)
 | ds,vs,0,h=>h
 | [],vs,i+1,h=>by unfold DVs at h;subst h;exact DVs.nil
 | e::ds,vs,i+1,h=>by unfold DVs at h;obtain⟨u,r,e',h1,n⟩:=h;subst e';exact DVs.drop i n
theorem DVs.take:∀{ds:List PyData}{vs:List V}(i:Nat),DVs K H W ds vs->DVs K H W (ds.take i) (vs.take i)
 | ds,vs,0,h=>DVs.nil
 | [],vs,i+1,h=>by unfold DVs at h;subst h;exact DVs.nil
 | e::ds,vs,i+1,h=>by unfold DVs at h;obtain⟨u,r,e',h1,n⟩:=h;subst e';exact DVs.cons h1 (DVs.take i n)
theorem OK:∀{bs:List Bool}{vs:List V},DVs K H W (bs.map PyData.bool) vs->vs=bs.map V.bl
 | [],vs,h=>by unfold DVs at h;exact h
 | b::bs,vs,h=>by simp only[zI] at h;unfold DVs at h;obtain⟨u,r,e',h1,n⟩:=h;unfold DV at h1;subst e' h1;rw[OK n];rfl
theorem H0:∀{bs:List Str}{vs:List V},DVs K H W (bs.map a0Z) vs->vs=bs.map V.str
 | [],vs,h=>by unfold DVs at h;exact h
 | b::bs,vs,h=>by simp only[zI] at h;unfold DVs at h;obtain⟨u,r,e',h1,n⟩:=h;unfold DV at h1;subst e' h1;rw[H0 n];rfl
end
section
variable {X:Cx}{pins:List (Addr×cy)}{σ:St}{H:Hp}{s:av}{W:Addr->Prop}
mutual
theorem DV.reads (I:Inv X pins σ H s):∀{d:PyData}{v:V}{u:ap},d.canLay0=au->DV X.K H W d v->RelV v u->∃as,PySem.Reads s.heap u d as
 | .none,v,u,c,h,r=>by unfold DV at h;subst h;cases r;exact#[_,.none]
 | .bool b,v,u,c,h,r=>by unfold DV at h;subst h;cases r;exact#[_,.bool b]
 | .int i,v,u,c,h,r=>by unfold DV at h;subst h;obtain⟨t,rfl⟩:=r;exact#[_,.int i t]
 | .str x,v,u,c,h,r=>by unfold DV at h;subst h;obtain⟨t,rfl⟩:=r;exact#[_,.str x t]
 | .list ds,v,u,c,h,r=>by unfold DV at h;obtain⟨a,f,rfl,hs,hd⟩:=h;cases r;obtain⟨p,S,⟨o,n,e,hc,_,m⟩,_⟩:=I.list hs.sq;obtain⟨as,q⟩:=DVs.reads I (by simpa [b7J] using c) hd S;exact#[_,.list e hc m (by simpa using q)]
 | .tuple ds,v,u,c,h,r=>by unfold DV at h;obtain⟨a,f,rfl,hs,hd⟩:=h;cases r;obtain⟨p,S,⟨o,e,hc,n,m⟩,_⟩:=I.tuple hs.sq;obtain⟨as,q⟩:=DVs.reads I (by simpa [b7J] using c) hd S;exact#[_,.tuple e hc m (by simpa using q)]
 | .dict kvs,v,u,c,h,r=>by simp[b7J] at c
theorem DVs.reads (I:Inv X pins σ H s):∀{ds:List PyData}{vs:List V}{e:List ap},b8K ds=au->DVs X.K H W ds vs->Vals vs e->∃as,PySem.ReadsAll s.heap e ds as
 | [],vs,e,c,h,r=>by unfold DVs at h;subst h;cases r;exact#[_,.nil]
 | d::ds,vs,e,c,h,r=>by
   unfold DVs at h;obtain⟨v,q,rfl,h1,n⟩:=h;cases r with
   | cons m p=> simp[b8K] at c;obtain⟨as,t⟩:=DV.reads I c.1 h1 m;obtain⟨bs,i⟩:=DVs.reads I c.2 n p;exact#[_,.cons t i]
end
def cS (K:Frg) (neg:Bool):R2:=λx y H Q=>∃(W:Addr->Prop) (e I:PyData),DV K H W e x/\DV K H W I y/\zH e=au/\zH I=au/\Q (.bl (if neg then !a0W e I else a0W e I)) H
theorem A2X (hu:X.A.units+64 < eh):OpR X (bq .Eq) (cS X.K aB):=by intro pins s σ H x y v u Q I r p h;obtain⟨W,b,c,h1,n,m,e,q⟩:=h;obtain⟨as,t⟩:=h1.reads I (zG m) r;obtain⟨bs,i⟩:=n.reads I (zG e) p;exact PySem.SeqAt.compareEq_shaped t i m e hu #[.bl _,H,I,rfl,q]
theorem A2Y (hu:X.A.units+64 < eh):OpR X (bq .NotEq) (cS X.K au):=by intro pins s σ H x y v u Q I r p h;obtain⟨W,b,c,h1,n,m,e,q⟩:=h;obtain⟨as,t⟩:=h1.reads I (zG m) r;obtain⟨bs,i⟩:=n.reads I (zG e) p;exact PySem.SeqAt.compareNe_shaped t i m e hu #[.bl _,H,I,rfl,q]
end
end L2
namespace DL
open PySem PySem.Spec L2
abbrev St:=L2.St
set_option genInjectivity true
inductive MO where
 | l (ds:List PyData)
 | d (kvs:List (PyData×PyData))
 | t (kvs:List (List Key×PyData))
 | x (C:Addr) (fs:List (Str×PyData))
abbrev Own:=Addr->Option MO
def Own.W (M:Own):Addr->Prop:=λa=>M a≠am
def Own.put (M:Own) (a:Addr) (o:MO):Own:=λb=>if b=a then ak o else M b
def Own.del (M:Own) (a:Addr):Own:=λb=>if b=a then am else M b
def Own.Sub (M N:Own):Prop:=∀a o,M a=ak o->N a=ak o
theorem zU {M:Own}:M.put a o a=ak o:=by unfold Own.put;rw[if_pos rfl]
theorem yH {M:Own}(h:b≠a):M.put a o b=M b:=by unfold Own.put;rw[if_neg h]
theorem yI {M:Own}:(M.put a o).put a n=M.put a n:=by funext b;unfold Own.put;by_cases h:b=a <;> simp[h]
theorem yG {M:Own}(h:M a=am):(M.put a o).del a=M:=by
 funext b;unfold Own.put Own.del;by_cases e:b=a;. subst e;simp[h]
 . simp[e]
theorem Own.del_put_ne {M:Own}(h:a≠b):(M.put a o).del b=(M.del b).put a o:=by
 funext c;unfold Own.put Own.del;by_cases h1:c=b;. subst h1;simp[a4Q h]
 . simp[h1]
theorem zT (M:Own):M.Sub M:=λ_ _ h=>h
theorem Own.Sub.put {M:Own}(h:M.Sub N) (n:M a=am):M.Sub (N.put a o):=λb x e=>by rw[yH (by rintro rfl;rw[n] at e;cases e)];exact h b x e
inductive DS where
 | d (x:PyData)
 | loc (a:Addr)
 | ty (n:String)
 | tl (ds:List PyData) (a:Addr)
def SI (K:Frg) (H:Hp) (M:Own):DS->V->Prop
 | .d x,v=>DV K H M.W x v
 | .loc a,v=>v = .ref a
 | .ty n,v=>v = .ty n
 | .tl ds a,v=>∃b e,v = .ref b/\TW K H M.W b (e++[.ref a])/\DVs K H M.W ds e
def SIs (K:Frg) (H:Hp) (M:Own):List DS->List V->Prop
 | [],e=>e=[]
 | d::ds,e=>∃v r,e=v::r/\SI K H M d v/\SIs K H M ds r
def XI (K:Frg) (H:Hp) (W:Addr->Prop):Option Addr->List (Str×PyData)->Prop
 | none,[]=>True
 | some d,[(n,x)]=>∃v,¬W d/\H d=ak (.xd [(n,v)])/\DV K H W x v
 | _,_=>False
theorem XI.grow (g:Grow K W T H H') (h:XI K H W dd fs):XI K H' T dd fs:=by
 unfold XI at h ⊢;split at h;. trivial
 . obtain⟨v,nw,a,b⟩:=h;exact#[v,λz=>(g.new _ z).elim nw λq=>by(rw[a] at q;cases q),g.kept a nw (λ_ z=>nomatch z),b.grow g]
 . exact h.elim
def exK (a C:Addr) (dd:Option Addr):HO:=.ext λh=>∃o e,h.get? a=ak o/\o.cls = .ref C/\o.dict=dd/\o.data = .fields e
def DTV (K:Frg) (H:Hp) (W:Addr->Prop) (kvs:List (List Key×PyData)) (ks:List (List Key×V)):Prop:=ks.map (·.1)=kvs.map (·.1)/\DVs K H W (kvs.map (·.2)) (ks.map (·.2))
theorem DTV.grow (g:Grow K W T H H') (h:DTV K H W kvs ks):DTV K H' T kvs ks:=#[h.1,h.2.grow g]
def OA1 (K:Frg) (H:Hp) (M:Own) (a:Addr):MO->Prop
 | .x C fs=>∃n,H a=ak (exK a C n)/\XI K H M.W n fs
 | .l ds=>∃i,H a=ak (.lst i)/\DVs K H M.W ds i
 | .d kvs=>∃e,H a=ak (.dK e)/\DKV K H M.W kvs e
 | .t kvs=>∃e,H a=ak (.dT e)/\DTV K H M.W kvs e
def OA (K:Frg) (H:Hp) (M:Own):Prop:=∀a o,M a=ak o->OA1 K H M a o
structure Step (K:Frg) (M M':Own) (H H':Hp):Prop where
 grow:Grow K M.W M'.W H H'
structure Rel (K:Frg) (M:Own) (ρ:List (Option DS)) (σ:St) (H:Hp):Prop where
 own:OA K H M
 len:ρ.length=σ.length
 slot:∀(i:Nat) x,ρ[i]?=ak (ak x)->∃v,σ[i]?=ak (ak v)/\SI K H M x v
section
theorem Step.refl:Step K M M H H:=#[Grow.refl]
theorem Step.trans (a:Step K M M' H H') (b:Step K M' M2 H' H2):Step K M M2 H H2:=#[a.grow.trans b.grow]
theorem SI.step (st:Step K M M' H H'):∀{x:DS}{v:V},SI K H M x v->SI K H' M' x v
 | .d _,_,h=>DV.grow st.grow h
 | .loc _,_,h=>h
 | .ty _,_,h=>h
 | .tl _ _,_,#[b,t,e,h1,n]=>#[b,t,e,h1.grow st.grow,n.grow st.grow]
theorem Rel.step (R:Rel K M ρ σ H) (z:OA K H' M') (st:Step K M M' H H'):Rel K M' ρ σ H':=#[z,R.len,λi x e=>let #[v,h1,n]:=R.slot i x e;#[v,h1,n.step st]]
theorem Rel.set (R:Rel K M ρ σ H) (h:SI K H M x v) (i:Nat):Rel K M (ρ.set i (ak x)) (σ.set i (ak v)) H:=by
 refine#[R.own,by rw[List.length_set,List.length_set];exact R.len,λj y e=>?_];rw[List.getElem?_set] at e ⊢;by_cases p:i=j
 . rw[if_pos p] at e ⊢;subst p;by_cases r:i < ρ.length;. rw[if_pos r] at e;cases e;rw[if_pos (by rw[<-R.len];exact r)];exact#[v,rfl,h]
   . rw[if_neg r] at e;cases e
 . rw[if_neg p] at e ⊢;exact R.slot j y e
theorem OA.none (z:OA K H M) (h:H p=b8V):M p=b8V:=by
 cases e:M p with
 | none=>rfl
 | some o=> have:=z p o e;cases o <;> (obtain⟨t,q,_⟩:=this;rw[h] at q;cases q)
theorem AZ (W:Addr->Prop) (h:H p=b8V):Grow K W W H (upd H p o):=#[λb u e _=>.inl (by rw[AH (B5 e h)];exact e),λ_ w=>.inl w]
theorem OA.grow (z:OA K H M) (g:Grow K M.W M.W H H') (hk:∀a o,M a=ak o->H' a=H a):OA K H' M:=λa o e=>by have q:=z a o e;cases o <;> (obtain⟨i,t,n⟩:=q;exact#[i,by rw[hk a _ e];exact t,n.grow g])
theorem OA.new (z:OA K H M) (h:H p=b8V):OA K (upd H p o) M:=z.grow (AZ _ h) λa x e=>by rw[AH (by rintro rfl;rw[z.none h] at e;cases e)]
theorem QH (z:OA K H M) (h:H p=b8V) (hd:DVs K H M.W ds vs) :
   OA K (upd H p (.lst vs)) (M.put p (.l ds))/\Step K M (M.put p (.l ds)) H (upd H p (.lst vs)):=by
 have r:=z.none h;have g:Grow K M.W (M.put p (.l ds)).W H (upd H p (.lst vs)):=#[λb u e _=>.inl (by rw[AH (B5 e h)];exact e),λb w=>by
   by_cases hb:b=p;. subst hb;exact .inr h
   . left;unfold Own.W at w ⊢;rw[yH hb] at w;exact w]
 refine#[λa o e=>?_,#[g]]
 . by_cases t:a=p;. subst t;rw[zU] at e;cases e;exact#[vs,AF,hd.grow g]
   . rw[yH t] at e;have q:=z a o e;cases o <;> (obtain⟨vs,n,i⟩:=q;exact#[vs,by rw[AH t];exact n,i.grow g])
theorem HA (z:OA K H M) (h:M p=ak o) (hd:DVs K H M.W N t) :
   OA K (upd H p (.lst t)) (M.put p (.l N))/\Step K M (M.put p (.l N)) H (upd H p (.lst t)):=by
 have i:∀b,(M.put p (.l N)).W b->M.W b:=λb w=>by
   unfold Own.W at w ⊢;by_cases hb:b=p;. subst hb;rw[h];simp
   . rw[yH hb] at w;exact w
 have g:Grow K M.W (M.put p (.l N)).W H (upd H p (.lst t)):=#[λb u e nw=>.inl (by
   rw[AH (by rintro rfl;exact nw (by unfold Own.W;rw[h];simp))];exact e),λb w=>.inl (i b w)]
 refine#[λa o e=>?_,#[g]]
 . by_cases n:a=p;. subst n;rw[zU] at e;cases e;exact#[t,AF,hd.grow g]
   . rw[yH n] at e;have q:=z a o e;cases o <;> (obtain⟨c,r,m⟩:=q;exact#[c,by rw[AH n];exact r,m.grow g])
theorem BB{K:Frg}{M:Own}{M':Own}{H:Hp} (hs:M'.Sub M):Grow K M.W M'.W H H:=#[λ_ _ e _=>.inl e,λb w=>.inl (by
 unfold Own.W at w ⊢;cases e:M' b with
 | none=>exact absurd e w
 | some o=>rw[hs b o e];simp)]
theorem OA.sub (z:OA K H M) (hs:M'.Sub M):OA K H M':=λa o e=>by have q:=z a o (hs a o e);cases o <;> (obtain⟨i,t,n⟩:=q;exact#[i,t,n.grow (BB hs)])
theorem SI.sub (hs:M'.Sub M):∀{x:DS}{v:V},SI K H M x v->SI K H M' x v
 | .d _,_,h=>DV.grow (BB hs) h
 | .loc _,_,h=>h
 | .ty _,_,h=>h
 | .tl _ _,_,#[b,t,e,h1,n]=>#[b,t,e,h1.grow (BB hs),n.grow (BB hs)]
end
def DE (K:Frg) (t:TE) (N:List (Option DS)) (M:Own) (Q:DS->Own->Prop):Prop:=∀(e:St) (H:Hp) (QQ:VK),Rel K M N e H->(∀v H' x i,OA K H' i->SI K H' i x v->Step K M i H H'->Q x i->QQ v H')->t e H QQ
def DT (K:Frg) (t:TT) (N:List (Option DS)) (M:Own) (Q:Bool->Own->Prop):Prop:=∀(e:St) (H:Hp) (QQ:Bool->Hp->Prop),Rel K M N e H->(∀b H' i,OA K H' i->Step K M i H H'->Q b i->QQ b H')->t e H QQ
def DA (K:Frg) (t:TA) (N:List (Option DS)) (M:Own) (Q:List DS->Own->Prop):Prop:=∀(r:St) (H:Hp) (QQ:List V->Hp->Prop),Rel K M N r H->(∀e H' n i,OA K H' i->SIs K H' i n e->Step K M i H H'->Q n i->QQ e H')->t r H QQ
def DP (K:Frg) (t:TO) (N:List (Option DS)) (M:Own) (Q:Option Int->Own->Prop):Prop:=∀(e:St) (H:Hp) (QQ:Option Int->Hp->Prop),Rel K M N e H->(∀b H' i,OA K H' i->Step K M i H H'->Q b i->QQ b H')->t e H QQ
set_option genInjectivity false
structure EndsD where
 nx:List (Option DS)->Own->Prop
 rt:DS->Own->Prop
 bk:List (Option DS)->Own->Prop:=λ_ _=>False
 ct:List (Option DS)->Own->Prop:=λ_ _=>False
def DSt (K:Frg) (t:TS) (N:List (Option DS)) (M:Own) (D:EndsD):Prop:=∀(e:St) (H:Hp) (E:Ends),Rel K M N e H->(∀I i c H',Rel K i I c H'->Step K M i H H'->D.nx I i->E.nx c H')->(∀v H' x i,OA K H' i->SI K H' i x v->Step K M i H H'->D.rt x i->E.rt v H') ->(∀I i c H',Rel K i I c H'->Step K M i H H'->D.bk I i->E.bk c H')->(∀I i c H',Rel K i I c H'->Step K M i H H'->D.ct I i->E.ct c H')->t E e H
def D1 (K:Frg) (r:V->Hp->VK->Prop) (x:DS) (M:Own) (Q:DS->Own->Prop):Prop:=∀(H:Hp) (v:V) (QQ:VK),OA K H M->SI K H M x v->(∀w H' z i,OA K H' i->SI K H' i z w->Step K M i H H'->Q z i->QQ w H')->r v H QQ
def D2 (K:Frg) (r:R2) (x y:DS) (M:Own) (Q:DS->Own->Prop):Prop:=∀(H:Hp) (v u:V) (QQ:VK),OA K H M->SI K H M x v->SI K H M y u->(∀w H' z i,OA K H' i->SI K H' i z w->Step K M i H H'->Q z i->QQ w H')->r v u H QQ
def DR (K:Frg) (r:List V->Hp->VK->Prop) (xs:List DS) (M:Own) (Q:DS->Own->Prop):Prop:=∀(H:Hp) (e:List V) (QQ:VK),OA K H M->SIs K H M xs e->(∀w H' z i,OA K H' i->SI K H' i z w->Step K M i H H'->Q z i->QQ w H')->r e H QQ
def DM (K:Frg) (r:V->List V->Hp->VK->Prop) (x:DS) (xs:List DS) (M:Own) (Q:DS->Own->Prop):Prop:=∀(H:Hp) (v:V) (e:List V) (QQ:VK),OA K H M->SI K H M x v->SIs K H M xs e->(∀w H' z i,OA K H' i->SI K H' i z w->Step K M i H H'->Q z i->QQ w H')->r v e H QQ
def DSl (K:Frg) (r:V->Option Int->Option Int->Hp->VK->Prop) (x:DS) (e hi:Option Int) (M:Own) (Q:DS->Own->Prop):Prop:=∀(H:Hp) (v:V) (QQ:VK),OA K H M->SI K H M x v->(∀w H' z i,OA K H' i->SI K H' i z w->Step K M i H H'->Q z i->QQ w H')->r v e hi H QQ
def DTy (K:Frg) (T:String) (x:DS) (M:Own):Prop:=∀(H:Hp) (v:V),OA K H M->SI K H M x v->tyV K T v H
section
variable {K:Frg}{ρ:List (Option DS)}{M:Own}{Q:DS->Own->Prop}{QB:Bool->Own->Prop}{ta tb tc:TE}{tA vm:TT}{r r':R2}
theorem WE (h:DE K t ρ M Q) (hq:∀x i,Q x i->g x i):DE K t ρ M g:=λe H QQ R k=>h e H QQ R λv H' x i a b c q=>k v H' x i a b c (hq x i q)
theorem A2Z (e:ρ[i]?=ak (ak x)) (h:Q x M):DE K (YC i) ρ M Q:=λt H QQ R k=>by obtain⟨v,h1,n⟩:=R.slot i x e;exact#[v,h1,k v H x M R.own n Step.refl h]
theorem A2a (h:Q (.d (.int i)) M):DE K (tC (.int i)) ρ M Q:=λe H QQ R k=>k _ H (.d (.int i)) M R.own (by unfold SI DV;rfl) Step.refl h
theorem A4X (h:Q (.d (.bool i)) M):DE K (tC (.bl i)) ρ M Q:=λe H QQ R k=>k _ H (.d (.bool i)) M R.own (by unfold SI DV;rfl) Step.refl h
theorem A2b (h:Q (.d (.str i)) M):DE K (tC (.str i)) ρ M Q:=λe H QQ R k=>k _ H (.d (.str i)) M R.own (by unfold SI DV;rfl) Step.refl h
theorem A2c (h:Q (.d .none) M):DE K (tC .non) ρ M Q:=λe H QQ R k=>k _ H (.d .none) M R.own (by unfold SI DV;rfl) Step.refl h
theorem A4Y (h:Q (.ty n) M):DE K (tC (.ty n)) ρ M Q:=λe H QQ R k=>k _ H (.ty n) M R.own rfl Step.refl h
theorem A4Z (h:DE K ta ρ M λx M1=>DE K tb ρ M1 λy e=>D2 K r x y e Q):DE K (tOp r ta tb) ρ M Q:=λi H QQ R k=>
 h i H _ R λv m x M1 S j t h1=>h1 i m _ (R.step S t) λu f y e c T n b=>b f v u QQ c (j.step n) T λw p z B g N D q=>k w p z B g N ((t.trans n).trans D) q
theorem A4a {r:V->Hp->VK->Prop}(h:DE K ta ρ M λx M1=>D1 K r x M1 Q):DE K (tUn r ta) ρ M Q:=λb H QQ R k=>
 h b H _ R λv e x M1 S m p h1=>h1 e v QQ S m λw t z B n i D q=>k w t z B n i (p.trans D) q
theorem nU (h:DE K ta ρ M λx M1=>DE K tb ρ M1 λy m=>D2 K r x y m λz B=>∃c,z = .d (.bool c)/\if c=au then DE K tc ρ B (λw p=>D2 K r' y w p Q) else Q (.d (.bool aB)) B) :
   DE K (cI r r' ta tb tc) ρ M Q:=λn H QQ R k=>
 h n H _ R λv T x M1 L s1 e h1=>h1 n T _ (R.step L e) λu N y m U f t G=>G N v u _ U (s1.step t) f λw i z B b g D q=>by
   obtain⟨c,rfl,q⟩:=q;unfold SI DV at g;refine#[c,g,?_];cases c with
   | false=> rw[if_neg nft] at q ⊢;exact k _ i _ B b (by unfold SI DV;rfl) ((e.trans t).trans D) q
   | true=> rw[if_pos rfl] at q ⊢;exact q n i _ (R.step b ((e.trans t).trans D)) λw4 O z4 p X s4 j J=>J O u w4 QQ X (f.step (D.trans j)) s4 λw5 I z5 S Y s5 t5 Z=>k w5 I z5 S Y s5 ((((e.trans t).trans D).trans j).trans t5) Z
theorem vL (h:DE K ta ρ M λx M1=>∃c,x = .d (.bool c)/\QB c M1):DT K (n5 ta) ρ M QB:=λn H QQ R k=>
 h n H _ R λv e x M1 S m t h1=>by obtain⟨c,rfl,q⟩:=h1;unfold SI DV at m;exact#[c,m,k c e M1 S t q]
theorem A5U (h:DE K ta ρ M λx M1=>∃c,x = .d (.bool c)/\QB c M1):DT K (L2.tB ta) ρ M QB:=λn H QQ R k=>
 h n H _ R λv e x M1 S m t h1=>by obtain⟨c,rfl,q⟩:=h1;unfold SI DV at m;exact#[c,m,k c e M1 S t q]
theorem A2d (h:DT K tA ρ M λc M1=>if c=au then DT K vm ρ M1 QB else QB aB M1):DT K (A4E tA vm) ρ M QB:=λt H QQ R k=>
 h t H _ R λc e M1 S x h1=>by
   cases c with
   | false=>rw[if_neg nft] at h1 ⊢;exact k _ e M1 S x h1
   | true=>rw[if_pos rfl] at h1 ⊢;exact h1 t e QQ (R.step S x) λb f n i m q=>k b f n i (x.trans m) q
theorem A4b (h:DT K tA ρ M λc M1=>if c=au then QB au M1 else DT K vm ρ M1 QB):DT K (tOr tA vm) ρ M QB:=λt H QQ R k=>
 h t H _ R λc e M1 S x h1=>by
   cases c with
   | true=>rw[if_pos rfl] at h1 ⊢;exact k _ e M1 S x h1
   | false=>rw[if_neg nft] at h1 ⊢;exact h1 t e QQ (R.step S x) λb f n i m q=>k b f n i (x.trans m) q
theorem A2e (h:DT K tA ρ M λc M1=>QB (!c) M1):DT K (A4F tA) ρ M QB:=λt H QQ R k=>h t H _ R λc e M1 S x h1=>k _ e M1 S x h1
theorem A2f (h:QB au M):DT K vF ρ M QB:=λe H QQ R k=>k au H M R.own Step.refl h
theorem A2g (h:DE K ta ρ M λx M1=>∃c,x = .d (.bool c)/\if c=au then DE K tb ρ M1 Q else Q (.d (.bool aB)) M1):DE K (A07 ta tb) ρ M Q:=λn H QQ R k=>
 h n H _ R λv t x M1 S m e h1=>by
   obtain⟨c,rfl,q⟩:=h1;unfold SI DV at m;refine#[c,m,?_];cases c with
   | false=>rw[if_neg nft] at q ⊢;exact k _ t _ M1 S (by unfold SI DV;rfl) e q
   | true=>rw[if_pos rfl] at q ⊢;exact q n t QQ (R.step S e) λw f z i p b g q=>k w f z i p b (e.trans g) q
theorem A4c (h:DE K ta ρ M λx M1=>∃c,x = .d (.bool c)/\if c=au then Q (.d (.bool au)) M1 else DE K tb ρ M1 Q):DE K (A4G ta tb) ρ M Q:=λn H QQ R k=>
 h n H _ R λv t x M1 S m e h1=>by
   obtain⟨c,rfl,q⟩:=h1;unfold SI DV at m;refine#[c,m,?_];cases c with
   | true=>rw[if_pos rfl] at q ⊢;exact k _ t _ M1 S (by unfold SI DV;rfl) e q
   | false=>rw[if_neg nft] at q ⊢;exact q n t QQ (R.step S e) λw f z i p b g q=>k w f z i p b (e.trans g) q
theorem A2h (h:DE K ta ρ M λx M1=>∃c,x = .d (.bool c)/\Q (.d (.bool (!c))) M1):DE K (A08 ta) ρ M Q:=λn H QQ R k=>
 h n H _ R λv e x M1 S m t h1=>by obtain⟨c,rfl,q⟩:=h1;unfold SI DV at m;exact#[c,m,k _ e _ M1 S (by unfold SI DV;rfl) t q]
theorem A4d (h:DT K tA ρ M λc M1=>if c=au then DE K ta ρ M1 Q else DE K tb ρ M1 Q):DE K (tIf tA ta tb) ρ M Q:=λm H QQ R k=>
 h m H _ R λc p M1 S x h1=>by
   cases c with
   | true=>rw[if_pos rfl] at h1 ⊢;exact h1 m p QQ (R.step S x) λw f z e i t n q=>k w f z e i t (x.trans n) q
   | false=>rw[if_neg nft] at h1 ⊢;exact h1 m p QQ (R.step S x) λw f z e i t n q=>k w f z e i t (x.trans n) q
variable {QL:List DS->Own->Prop}{tl:TA}
theorem nV (h:QL [] M):DA K A2C ρ M QL:=λe H QQ R k=>k [] H [] M R.own rfl Step.refl h
theorem vM (h:DE K ta ρ M λx M1=>DA K tl ρ M1 λxs e=>QL (x::xs) e):DA K (YD ta tl) ρ M QL:=λm H QQ R k=>
 h m H _ R λv p x M1 S c t h1=>h1 m p _ (R.step S t) λi f xs e b g n q=>k (v::i) f (x::xs) e b #[v,i,rfl,c.step n,g] (t.trans n) q
def U0:List DS->Option (List PyData)
 | []=>ak []
 | .d x::r=>match U0 r with
   | some l=>ak (x::l)
   | none=>am
 | .loc _::_=>am
 | .ty _::_=>am
 | .tl _ _::_=>am
theorem SIs.data :∀{xs:List DS}{ds:List PyData}{vs:List V},U0 xs=ak ds->SIs K H M xs vs->DVs K H M.W ds vs
 | [],ds,vs,e,h=>by cases e;cases h;exact DVs.nil
 | .d x::r,ds,vs,e,#[v,q,g,h1,n]=>by
   cases t:U0 r with
   | none=>rw[U0,t] at e;cases e
   | some O=> rw[U0,t] at e;cases e;subst g;exact DVs.cons h1 (SIs.data t n)
 | .loc _::_,ds,vs,e,_=>by cases e
 | .ty _::_,ds,vs,e,_=>by cases e
 | .tl _ _::_,ds,vs,e,_=>by cases e
theorem SIs.length :∀{xs:List DS}{vs:List V},SIs K H M xs vs->vs.length=xs.length
 | [],vs,h=>by cases h;rfl
 | _::r,vs,#[v,q,g,h1,n]=>by subst g;simp[SIs.length n]
theorem A2i (h:DA K tl ρ M λxs M1=>∃ds,U0 xs=ak ds/\ds.length<=a0/\Q (.d (.tuple ds)) M1):DE K (A2D tl) ρ M Q:=λi H QQ R k=>
 h i H _ R λn t xs M1 S m x h1=>by obtain⟨ds,e,u,q⟩:=h1;have hd:=m.data e;refine#[by rw[hd.length];exact u,λp hp=>?_];have g:Grow K M1.W M1.W t (upd t p (.tup n)):=AZ _ hp;refine k _ _ (.d (.tuple ds)) M1 (S.new hp) ?_ (x.trans #[g]) q;unfold SI DV;exact#[p,n,rfl,.inl #[λw=>w (S.none hp),.inl AF],hd.grow g]
theorem IE (h:DA K tl ρ M λxs M1=>∃ds,U0 xs=ak ds/\ds.length<=a0/\Q (.d (.list ds)) M1):DE K (A2E tl) ρ M Q:=λi H QQ R k=>
 h i H _ R λn t xs M1 S m x h1=>by obtain⟨ds,e,u,q⟩:=h1;have hd:=m.data e;refine#[by rw[hd.length];exact u,λp hp=>?_];have g:Grow K M1.W M1.W t (upd t p (.lst n)):=AZ _ hp;refine k _ _ (.d (.list ds)) M1 (S.new hp) ?_ (x.trans #[g]) q;unfold SI DV;exact#[p,n,rfl,.inl #[λw=>w (S.none hp),.inl AF],hd.grow g]
theorem N9 (h:DA K tl ρ M λxs M1=>∃ds,U0 xs=ak ds/\ds.length<=a0/\∀p,M1 p=am->Q (.loc p) (M1.put p (.l ds))):DE K (A2E tl) ρ M Q:=λt H QQ R k=>
 h t H _ R λi n xs M1 S m x h1=>by obtain⟨ds,e,u,q⟩:=h1;have hd:=m.data e;refine#[by rw[hd.length];exact u,λp hp=>?_];obtain⟨a,b⟩:=QH S hp hd;exact k _ _ (.loc p) _ a rfl (x.trans b) (q p (S.none hp))
theorem A4e {r:List V->Hp->VK->Prop}(h:DA K tl ρ M λxs M1=>DR K r xs M1 Q):DE K (tCB r tl) ρ M Q:=λc H QQ R k=>
 h c H _ R λb e xs M1 S m x h1=>h1 e b QQ S m λw f z t i n p q=>k w f z t i n (x.trans p) q
structure FSp where
 pre:List DS->Own->Prop
 post:List DS->Own->DS->Own->Prop
def spD (K:Frg) (n:Nat) (S:FSp):Sp:=λe H Q _=>∃t M,t.length=n/\OA K H M/\SIs K H M t e/\S.pre t M/\∀x i v H',S.post t M x i->Step K M i H H'->OA K H' i->SI K H' i x v->Q v H'
theorem g6 :∀vs H Q E,spD K n S vs H Q E->vs.length=n:=by rintro vs H Q E ⟨t,M,e,_,h,_⟩;rw[h.length,e]
theorem vN (h:DA K tl ρ M λxs M1=>xs.length=n/\S.pre xs M1/\∀x i,S.post xs M1 x i->Q x i):DE K (fT (spD K n S) [] E tl) ρ M Q:=λq H QQ R k=>
 h q H _ R λj e xs M1 m b g Z=>by obtain⟨I,h1,t⟩:=Z;show spD K n S (j++[]) e QQ E;rw[a4K];exact#[xs,M1,I,m,b,h1,λx i v H' p f z c=>k v H' x i z c (g.trans f) (t x i p)]
theorem PU {r:V->List V->Hp->VK->Prop}(h:DE K ta ρ M λx M1=>DTy K T x M1/\DA K tl ρ M1 λxs t=>DM K r x xs t Q):DE K (tBM K T r ta tl) ρ M Q:=λp H QQ R k=>
 h p H _ R (by rintro v e x M1 S m n ⟨I,h1⟩;exact#[I e v S m,h1 p e _ (R.step S n) λN f xs t g u i c=>c f v N QQ g (m.step i) u λw b z B j y D q=>k w b z B j y ((n.trans i).trans D) q])
theorem vO (h:QP am M):DP K fV ρ M QP:=λe H QQ R k=>k _ H M R.own Step.refl h
theorem vP (h:DE K ta ρ M λx M1=>∃i,x = .d (.int i)/\QP (ak i) M1):DP K (A1E ta) ρ M QP:=λn H QQ R k=>
 h n H _ R λv e x M1 S m t h1=>by obtain⟨i,rfl,q⟩:=h1;unfold SI DV at m;exact#[i,m,k _ e M1 S t q]
theorem A4f {r:V->Option Int->Option Int->Hp->VK->Prop}{tl:TO}(h:DE K ta ρ M λx M1=>DP K tl ρ M1 λm i=>DP K p ρ i λhi B=>DSl K r x m hi B Q):DE K (tSl r ta tl p) ρ M Q:=λn H QQ R k=>
 h n H _ R λv b x M1 S O e h1=>h1 n b _ (R.step S e) λm f i y t j=>j n f _ (R.step y (e.trans t)) λhi c B T D G=>G c v QQ T (O.step (t.trans D)) λw g z u N I J q=>k w g z u N I (((e.trans t).trans D).trans J) q
theorem g9 (h:D.nx ρ M):DSt K A09 ρ M D:=λe H E R N _ _ _=>N ρ M e H R Step.refl h
theorem nW (h:DE K ta ρ M D.rt):DSt K (A1m ta) ρ M D:=λn H E R _ e _ _=>h n H E.rt R λv H' x i a b c q=>e v H' x i a b c q
theorem gA (h:DE K ta ρ M λ_ M1=>D.nx ρ M1):DSt K (mT ta) ρ M D:=λe H E R N _ _ _=>h e H _ R λv H' x i a b c q=>N ρ i e H' (R.step a c) c q
theorem nX (h:DE K ta ρ M λx M1=>D.nx (ρ.set i (ak x)) M1):DSt K (uT ta (R5 i)) ρ M D:=λn H E R N _ _ _=>
 h n H _ R λv H' x e a b c q=>N _ e _ H' ((R.step a c).set b i) c q
theorem gB (h:DE K ta ρ M λx M1=>D.nx (ρ.set i (ak x)) M1):DSt K (λD e H=>ta e H λv H'=>D.nx (e.set i (ak v)) H') ρ M D:=λe H E R N _ _ _=>
 h e H _ R λv H' x n a b c q=>N _ n _ H' ((R.step a c).set b i) c q
theorem nY (h:DSt K t ρ M { D with nx:=λB M1=>DSt K u B M1 D }):DSt K (mS t u) ρ M D:=λk H E R N m p v=>by refine h k H { E with nx:=λn H'=>u E n H' } R (λB M1 i j S x q=>?_) m p v;exact q i j E S (λa b c d e f g=>N a b c d e (x.trans f) g) (λa b c d e f g q=>m a b c d e f (x.trans g) q) (λa b c d e f g=>p a b c d e (x.trans f) g) (λa b c d e f g=>v a b c d e (x.trans f) g)
theorem A4g (h:DT K tA ρ M λc M1=>if c=au then DSt K t ρ M1 D else DSt K u ρ M1 D):DSt K (A1o tA t u) ρ M D:=λn H E R N m p v=>
 h n H _ R λc i M1 S x h1=>by
   have X:∀{w:TS},DSt K w ρ M1 D->w E n i:=λq=>q n i E (R.step S x) (λa b c d e f g=>N a b c d e (x.trans f) g) (λa b c d e f g q=>m a b c d e f (x.trans g) q) (λa b c d e f g=>p a b c d e (x.trans f) g) (λa b c d e f g=>v a b c d e (x.trans f) g);cases c with
   | true=>rw[if_pos rfl] at h1 ⊢;exact X h1
   | false=>rw[if_neg nft] at h1 ⊢;exact X h1
theorem vQ (h:DSt K t ρ M D) (h1:∀I i,D.nx I i->n.nx I i) (m:∀x i,D.rt x i->n.rt x i) (G:∀I i,D.bk I i->n.bk I i) (p:∀I i,D.ct I i->n.ct I i):DSt K t ρ M n:=
 λy H E R N j k v=>h y H E R (λa b c d e f g=>N a b c d e f (h1 _ _ g)) (λa b c d e f g q=>j a b c d e f g (m _ _ q)) (λa b c d e f g=>k a b c d e f (G _ _ g)) (λa b c d e f g=>v a b c d e f (p _ _ g))
theorem F8 (e:ρ[i]?=ak (ak (.loc a))) (m:M a=ak (.l ds)) (h:DSt K t (ρ.set i (ak (.d (.list ds)))) (M.del a) D):DSt K t ρ M D:=λp H E R N O I B=>by
 have hs:(M.del a).Sub M:=λb o q=>by
   unfold Own.del at q;by_cases hb:b=a;. rw[if_pos hb] at q;cases q
   . rw[if_neg hb] at q;exact q
 have n:Step K M (M.del a) H H:=#[BB hs]
 obtain⟨v,k,z⟩:=R.slot i _ e;obtain⟨L,G,J⟩:=R.own a _ m;have S:Rel K (M.del a) ρ p H:=R.step (R.own.sub hs) n;have R2:=S.set (x:=.d (.list ds)) (v:=v) (by
   unfold SI DV;refine#[a,L,z,.inl #[λw=>w (by unfold Own.del;rw[if_pos rfl]),.inl G],J.grow (BB hs)]) i;have T:p.set i (ak v)=p:=by
   apply b2X;intro j;rw[List.getElem?_set];by_cases y:i=j
   . subst y;rw[if_pos rfl,k];split;. rfl
     . rename_i U;rw[a6K (by lia)] at k;cases k
   . rw[if_neg y]
 rw[T] at R2;exact h p H E R2 (λa b c d e f g=>N a b c d e (n.trans f) g) (λa b c d e f g q=>O a b c d e f (n.trans g) q) (λa b c d e f g=>I a b c d e (n.trans f) g) (λa b c d e f g=>B a b c d e (n.trans f) g)
end
end DL
namespace DL
open PySem PySem.Spec L2
section
theorem E9 (h:SI K H M (.d (.int i)) v):v = .int i:=by unfold SI DV at h;exact h
theorem A4h (h:SI K H M (.d (.bool i)) v):v = .bl i:=by unfold SI DV at h;exact h
theorem BC (h:SI K H M (.d (.str i)) v):v = .str i:=by unfold SI DV at h;exact h
theorem nZ (h:SI K H M (.d .none) v):v = .non:=by unfold SI DV at h;exact h
theorem EA :SI K H M (.d (.int i)) (.int i):=by unfold SI DV;rfl
theorem AK :SI K H M (.d (.bool i)) (.bl i):=by unfold SI DV;rfl
theorem HB :SI K H M (.d (.str i)) (.str i):=by unfold SI DV;rfl
theorem A4i {g:Int->Int->Int}(q:Q (.d (.int (g i j))) M):D2 K (rI0 λi j=>.int (g i j)) (.d (.int i)) (.d (.int j)) M Q:=λH v u QQ z m e k=>by rw[E9 m,E9 e];exact#[i,j,rfl,rfl,k _ H _ M z EA Step.refl q]
theorem A4j {g:Int->Int->Bool}(q:Q (.d (.bool (g i j))) M):D2 K (rI0 λi j=>.bl (g i j)) (.d (.int i)) (.d (.int j)) M Q:=λH v u QQ z m e k=>by rw[E9 m,E9 e];exact#[i,j,rfl,rfl,k _ H _ M z AK Step.refl q]
theorem RI {g:Int->Int->Int}(c:C i j) (q:Q (.d (.int (g i j))) M):D2 K (rI C λi j=>.int (g i j)) (.d (.int i)) (.d (.int j)) M Q:=λH v u QQ z m e k=>by rw[E9 m,E9 e];exact#[i,j,rfl,rfl,c,k _ H _ M z EA Step.refl q]
theorem A5V {g:Int->Int}(q:Q (.d (.int (g i))) M):D1 K (rU λi=>.int (g i)) (.d (.int i)) M Q:=λH v QQ z m k=>by rw[E9 m];exact#[i,rfl,k _ H _ M z EA Step.refl q]
theorem vR (hz:i.length+j.length<=a0) (q:Q (.d (.str (i++j))) M) :
   D2 K (λx y H Q=>∃i j,x = .str i/\y = .str j/\i.length+j.length<=a0/\Q (.str (i++j)) H) (.d (.str i)) (.d (.str j)) M Q:=λH v u QQ z m e k=>by rw[BC m,BC e];exact#[i,j,rfl,rfl,hz,k _ H _ M z HB Step.refl q]
theorem A2j (q:Q (.d (.bool (!(a4Z j i 0 j.length 1).isEmpty))) M) :
   D2 K (λx y H Q=>∃i j,x = .str i/\y = .str j/\Q (.bl (!(a4Z j i 0 j.length 1).isEmpty)) H) (.d (.str i)) (.d (.str j)) M Q:=λH v u QQ z m e k=>by rw[BC m,BC e];exact#[i,j,rfl,rfl,k _ H _ M z AK Step.refl q]
theorem B2 {neg:Bool}(h:zH a=au) (hb:zH b=au) (q:Q (.d (.bool (if neg then !a0W a b else a0W a b))) M):D2 K (cS K neg) (.d a) (.d b) M Q:=λH v u QQ z m e k=>
 #[M.W,a,b,m,e,h,hb,k _ H _ M z AK Step.refl q]
theorem YQ (x:Str) (ys:List Str):inV (.str x) (ys.map V.str)=decide (x∈ys):=by
 unfold inV;rw[a1K,a9Q,decide_eq_true_iff];constructor
 . rintro⟨y,hy,e⟩;obtain⟨z,u,rfl⟩:=zL.mp hy;have:z=x:=by simpa [eqV] using e
   subst this;exact u
 . intro h;exact#[.str x,zL.mpr #[x,h,rfl],by simp[eqV]]
theorem A2k {neg:Bool}{ys:List Str}(q:Q (.d (.bool (if neg then !decide (x∈ys) else decide (x∈ys)))) M):D2 K (rIn K neg) (.d (.str x)) (.d (.list (ys.map .str))) M Q:=λH v u QQ z m t k=>by rw[BC m];unfold SI DV at t;obtain⟨a,n,rfl,r,hd⟩:=t;have e:=H0 hd;subst e;exact#[a,_,rfl,.inl r.sq,rfl,by simp[LN],k _ H (.d (.bool (if neg then !decide (x∈ys) else decide (x∈ys)))) M z (by rw[YQ];exact AK) Step.refl q]
theorem o0 (h:DVs K H W ds vs) (e:atI ds i=ak d):∃v,atI vs i=ak v/\DV K H W d v:=by
 unfold atI at e ⊢;rw[h.length];cases hx:ixN ds.length i with
 | none=>rw[hx] at e;cases e
 | some j=>rw[hx] at e;simpa using h.get' (by simpa using e)
theorem A2l (e:atI ds i=ak d) (q:Q (.d d) M):D2 K (A2J K) (.d (.list ds)) (.d (.int i)) M Q:=λH v u QQ z m t k=>by rw[E9 t];unfold SI DV at m;obtain⟨a,p,rfl,r,hd⟩:=m;obtain⟨w,h1,n⟩:=o0 hd e;exact#[a,p,i,w,rfl,rfl,r.sq,h1,k _ H (.d d) M z n Step.refl q]
theorem A2m (e:atI ds i=ak d) (q:Q (.d d) M):D2 K (A2K K) (.d (.tuple ds)) (.d (.int i)) M Q:=λH v u QQ z m t k=>by rw[E9 t];unfold SI DV at m;obtain⟨a,p,rfl,r,hd⟩:=m;obtain⟨w,h1,n⟩:=o0 hd e;exact#[a,p,i,w,rfl,rfl,r.sq,h1,k _ H (.d d) M z n Step.refl q]
theorem A2n (hz:z.length<=a0) (e:atI z.cps.toList i=ak c) (q:Q (.d (.str #[(y9 [c])])) M):D2 K A2L (.d (.str z)) (.d (.int i)) M Q:=λH v u QQ t m n k=>by rw[E9 n,BC m];exact#[z,i,c,rfl,rfl,hz,e,k _ H _ M t HB Step.refl q]
theorem FC {L:R2}(h:D2 K r x y M Q):D2 K (λx y H Q=>r x y H Q\/L x y H Q) x y M Q:=λH v u QQ z m e k=>.inl (h H v u QQ z m e k)
theorem GO {r:R2}(h:D2 K L x y M Q):D2 K (λx y H Q=>r x y H Q\/L x y H Q) x y M Q:=λH v u QQ z m e k=>.inr (h H v u QQ z m e k)
theorem A2o (hz:as.length+bs.length<=a0) (q:Q (.d (.list (as++bs))) M):D2 K (λx y H Q=>∃a b xs ys,x = .ref a/\y = .ref b/\SqL K H a xs/\SqL K H b ys/\xs.length+ys.length<=a0/\∀p,H p=am->Q (.ref p) (upd H p (.lst (xs++ys)))) (.d (.list as)) (.d (.list bs)) M Q:=λH v u QQ z m e k=>by unfold SI DV at m e;obtain⟨a,n,rfl,r,hd⟩:=m;obtain⟨b,t,rfl,i,hd2⟩:=e;refine#[a,b,n,t,rfl,rfl,r.sq,i.sq,by rw[hd.length,hd2.length];exact hz,λp hp=>?_];have g:Grow K M.W M.W H (upd H p (.lst (n++t))):=AZ _ hp;refine k _ _ (.d (.list (as++bs))) M (z.new hp) ?_ #[g] q;unfold SI DV;exact#[p,_,rfl,.inl #[λw=>w (z.none hp),.inl AF],(hd.append hd2).grow g]
theorem vT (hz:z.length<=a0) (q:Q (.d (.int z.length)) M):DR K (λxs H Q=>∃x n,xs=[x]/\n9 K x H n/\Q (.int (n:Nat)) H) [.d (.str z)] M Q:=λH i QQ t s k=>by obtain⟨v,r,rfl,h1,e⟩:=s;cases e;rw[BC h1];exact#[_,_,rfl,#[hz,rfl],k _ H _ M t EA Step.refl q]
theorem vU (q:Q (.d (.int ds.length)) M):DR K (λxs H Q=>∃x n,xs=[x]/\n9 K x H n/\Q (.int (n:Nat)) H) [.d (.list ds)] M Q:=λH e QQ z s k=>by obtain⟨v,r,rfl,h1,t⟩:=s;cases t;unfold SI DV at h1;obtain⟨a,e,rfl,i,hd⟩:=h1;exact#[_,_,rfl,.inl #[e,i.sq,rfl],k _ H (.d (.int ds.length)) M z (by rw[hd.length];exact EA) Step.refl q]
theorem vV (q:Q (.d (.int ds.length)) M):DR K (λxs H Q=>∃x n,xs=[x]/\n9 K x H n/\Q (.int (n:Nat)) H) [.d (.tuple ds)] M Q:=λH e QQ z s k=>by obtain⟨v,r,rfl,h1,t⟩:=s;cases t;unfold SI DV at h1;obtain⟨a,e,rfl,i,hd⟩:=h1;exact#[_,_,rfl,.inr #[e,i.sq,rfl],k _ H (.d (.int ds.length)) M z (by rw[hd.length];exact EA) Step.refl q]
theorem A2p {bs:List Bool}(q:Q (.d (.bool (bs.all id))) M):DR K (λxs H Q=>∃(p:Addr) (bs:List Bool),xs=[.ref p]/\SqL K H p (bs.map V.bl)/\Q (.bl (bs.all id)) H) [.d (.list (bs.map .bool))] M Q:=λH t QQ z s k=>by obtain⟨v,r,rfl,h1,n⟩:=s;cases n;unfold SI DV at h1;obtain⟨a,t,rfl,e,hd⟩:=h1;rw[OK hd] at e;exact#[a,bs,rfl,e.sq,k _ H _ M z AK Step.refl q]
theorem A2q {bs:List Bool}(q:Q (.d (.bool (bs.any id))) M):DR K (λxs H Q=>∃(p:Addr) (bs:List Bool),xs=[.ref p]/\SqL K H p (bs.map V.bl)/\Q (.bl (bs.any id)) H) [.d (.list (bs.map .bool))] M Q:=λH t QQ z s k=>by obtain⟨v,r,rfl,h1,n⟩:=s;cases n;unfold SI DV at h1;obtain⟨a,t,rfl,e,hd⟩:=h1;rw[OK hd] at e;exact#[a,bs,rfl,e.sq,k _ H _ M z AK Step.refl q]
theorem gC :DTy K "str" (.d (.str z)) M:=λH v _ s=>by rw[BC s];exact rfl
theorem IF (m:M a=ak (.l ds)):DTy K "list" (.loc a) M:=λH v z s=>by unfold SI at s;subst s;obtain⟨e,I,hd⟩:=z a _ m;exact .inl #[rfl,e,SqL.of I]
theorem vW (hz:(ys.map (·.length)).sum+ys.length*y.length<=16777216) (q:Q (.d (.str (Txt.join y ys))) M):DM K (nS K) (.d (.str y)) [.d (.list (ys.map .str))] M Q:=λH v p QQ z m t k=>by obtain⟨u,r,rfl,h1,n⟩:=t;cases n;rw[BC m];unfold SI DV at h1;obtain⟨a,i,rfl,e,hd⟩:=h1;rw[H0 hd] at e;exact#[y,a,ys,rfl,rfl,e.sq,hz,k _ H _ M z HB Step.refl q]
theorem EB (m:M a=ak (.l ds)) (hz:ds.length < a0) (q:Q (.d .none) (M.put a (.l (ds++[d])))):DM K W6 (.loc a) [.d d] M Q:=λH v p QQ z e t k=>by obtain⟨u,r,rfl,h1,n⟩:=t;cases n;unfold SI at e;subst e;obtain⟨i,I,hd⟩:=z a _ m;obtain⟨x,y⟩:=HA z m (hd.append (DVs.cons h1 DVs.nil));exact#[a,i,u,rfl,rfl,I,by rw[hd.length];exact hz,k _ _ (.d .none) _ x (by unfold SI DV;rfl) y q]
theorem vX (hz:z.length<=a0) (q:Q (.d (.str (b1V z e hi))) M):DSl K A2V (.d (.str z)) e hi M Q:=λH v QQ t m k=>by rw[BC m];exact#[z,rfl,hz,k _ H _ M t HB Step.refl q]
def F0 (xs:List PyData) (e hi:Option Int):List PyData:=(xs.drop (HT.sIx xs.length 0 e)).take (HT.sIx xs.length xs.length hi - HT.sIx xs.length 0 e)
theorem o8 (q:Q (.d (.list (F0 ds e hi))) M):DSl K (A2O K) (.d (.list ds)) e hi M Q:=λH v QQ z m k=>by
 unfold SI DV at m;obtain⟨a,t,rfl,r,hd⟩:=m;refine#[a,t,rfl,r.sq,λp hp=>?_];have g:Grow K M.W M.W H (upd H p (.lst (MD t e hi))):=AZ _ hp;have key:DVs K H M.W (F0 ds e hi) (MD t e hi):=by unfold F0 MD;rw[hd.length];exact(hd.drop _).take _
 refine k _ _ (.d (.list (F0 ds e hi))) M (z.new hp) ?_ #[g] q;unfold SI DV;exact#[p,_,rfl,.inl #[λw=>w (z.none hp),.inl AF],key.grow g]
end
end DL
namespace DL
open PySem PySem.Spec L2
structure WD (K:Frg) (J:It) (ds:List PyData) (H1:Hp) (M1:Own):Prop where
 go:∀(i:Nat) H' M',i < ds.length->OA K H' M'->Step K M1 M' H1 H'->J.go i H'
 stop:∀H' M',OA K H' M'->Step K M1 M' H1 H'->J.stop ds.length H'
 yld:∀(i:Nat) H' M' x H2,OA K H' M'->Step K M1 M' H1 H'->i < ds.length->J.yld i H' x H2->OA K H2 M'/\Step K M' M' H' H2/\∃d,ds[i]?=ak d/\DV K H2 M'.W d x
def DI (K:Frg) (X:TI) (N:List (Option DS)) (M:Own) (Q:List PyData->Own->Prop):Prop:=∀(t:St) (H:Hp) (R:It->Hp->Prop),Rel K M N t H->(∀J ds e M1,OA K e M1->Step K M M1 H e->WD K J ds e M1->Q ds M1->R J e)->X t H R
def DG (K:Frg) (g:TG) (d:PyData) (N:List (Option DS)) (M:Own) (P:List (Option DS)->Own->Prop):Prop:=∀(e:St) (H:Hp) (v:V) (QQ:St->Hp->Prop),Rel K M N e H->DV K H M.W d v->(∀I i c H',Rel K i I c H'->Step K M i H H'->P I i->QQ c H')->g v e H QQ
def JU (g:TG) (T:List Nat):Prop:=∀(v:V) (e:St) (H:Hp) (QQ:St->Hp->Prop),g v e H (λt f=>(∀i,i∉T->t[i]?=e[i]?)->QQ t f)->g v e H QQ
section
variable {K:Frg}{ρ:List (Option DS)}{M:Own}{D:EndsD}{tl:TE}{tb:TS}{i:Nat}{QI:List PyData->Own->Prop}{g:TG}{wi:TI}
def DB (z:Str):List PyData:=z.cps.toList.map λc=>.str #[(y9 [c])]
def GA (e:Int) (n:Nat):List PyData:=(a1X n).map λ(i:Nat)=>.int (e+i)
theorem GB (h:DA K p ρ M λxs M1=>∃j:Int,xs=[.d (.int j)]/\-(2 ^ 62)<=j/\j < 2 ^ 62/\QI (GA 0 j.toNat) M1):DI K (A1A p) ρ M QI:=λO H R Y k=>
 h O H _ Y λB c xs M1 S T N b=>by
   obtain⟨j,e,h1,f,q⟩:=b;subst e;obtain⟨v,r,rfl,G,u⟩:=T;cases u;rw[show v = .int j by unfold SI DV at G;exact G];have t:(GA 0 j.toNat).length=j.toNat:=by simp[GA]
   refine#[j,rfl,h1,f,k _ (GA 0 j.toNat) c M1 S N #[λi H' n hi z m=>?_,λH' n z m=>?_,λi H' n x I z m hi y=>?_] q];. show i < j.toNat;rw[<-t];exact hi
   . show j.toNat<=(GA 0 j.toNat).length;rw[t];exact zR _
   . obtain⟨rfl,rfl⟩:=y;refine#[z,Step.refl,.int (0+i),?_,by unfold DV;rfl];unfold GA;rw[zF];rw[t] at hi;simp[hi]
theorem vY (h:P (ρ.set i (ak (.d d))) M):DG K (R5 i) d ρ M P:=λt H v QQ R e k=>k _ M _ H (R.set (x:=.d d) e i) Step.refl h
theorem B0 (i:Nat):JU (R5 i) [i]:=λv e H QQ h=>h λj u=>by rw[b5K (by rintro rfl;exact u (by simp))]
abbrev EndsD.turn (D:EndsD) (P:List (Option DS)->Own->Prop):EndsD:={ nx:=P,ct:=P,bk:=D.nx,rt:=D.rt }
theorem E2 (h:DI K wi ρ M λds M1=>∃P:Nat->List (Option DS)->Own->Prop,P 0 ρ M1/\(∀k d I t,ds[k]?=ak d->P k I t->DG K g d I t λn j=>DSt K tb n j (D.turn (P (k+1))))/\∀I t,P ds.length I t->D.nx I t) :
   DSt K (A1s wi g tb) ρ M D:=λσ H E R Z k2 k3 k4=>
 h σ H _ R λJ ds X M1 o1 B Q Lc=>by
   obtain⟨P,p0,pt,pe⟩:=Lc;refine#[λi m f H'=>m=ds.length - i/\i<=ds.length/\∃I t,Rel K t I f H'/\Step K M1 t X H'/\P i I t,#[_,rfl,xT _,ρ,M1,R.step o1 B,Step.refl,p0],?_];rintro i m f H' ⟨rfl,hi,I,t,L,N,p⟩;by_cases G:i < ds.length;. refine .inr #[Q.go i H' t G L.own N,λO u=>∃n j,Rel K j n O u/\Step K M1 j X u/\P (i+1) n j,(by rintro O u ⟨n,j,a,b,c⟩;exact#[ds.length - (i+1),by omega,rfl,G,n,j,a,b,c]),λx u y=>?_];obtain⟨Du,Y,d,e1,e2⟩:=Q.yld i H' t x u L.own N G y;refine pt i d I t e1 p f u x _ (L.step Du Y) e2 λρ3 M3 U H3 R3 fq b3=>?_;have S:=(N.trans Y).trans fq;exact b3 U H3 _ R3 (λr m s z v T q=>#[r,m,v,S.trans T,q]) (λw z x m a b c q=>k2 w z x m a b (B.trans (S.trans c)) q) (λr m s z v T q=>Z r m s z v (B.trans (S.trans T)) q) (λr m s z v T q=>#[r,m,v,S.trans T,q])
   . have e:i=ds.length:=by omega
     subst e;exact .inl #[Q.stop H' t L.own N,Z I t f H' L (B.trans N) (pe I t p)]
def GC (q:List (Option Nat)) (ρ:List (Option DS)):List (Option DS):=q.map λo=>o.bind λj=>(ρ[j]?).join
theorem F9 {t:List (Option Nat)}{r:Type}{ρ:List (Option r)}{i:Nat}{x:r}(h:(t.map λo=>o.bind λj=>(ρ[j]?).join)[i]?=ak (ak x)):∃j,t[i]?=ak (ak j)/\ρ[j]?=ak (ak x):=by
 rw[zF] at h;cases n:t[i]? with
 | none=>rw[n] at h;cases h
 | some o=>
   rw[n] at h;cases o with
   | none=>cases h
   | some j=>
     refine#[j,rfl,?_];have e:((ρ[j]?).join)=ak x:=Option.some.inj h;cases hs:ρ[j]? with
     | none=>rw[hs] at e;cases e
     | some q=>rw[hs] at e;cases q with
       | none=>cases e
       | some O=>cases e;rfl
theorem Rel.capt (R:Rel K M ρ t H):Rel K M (GC q ρ) (L2.capt q t) H:=by refine#[R.own,by unfold GC L2.capt;rw[zX,zX],λi x e=>?_];obtain⟨j,n,r⟩:=F9 e;obtain⟨v,h1,m⟩:=R.slot j x r;refine#[v,?_,m];unfold L2.capt;rw[zF,n];simp[h1]
theorem gD (ho:JU g T) (hT:∀i∈T,∀j,u[i]?≠ak (ak j)) (h:DI K wi ρ M λds M1=>ds.length < a0/\∀D,M1 D=am->∃P:Nat->List PyData->Own->Prop,P 0 [] (M1.put D (.l []))/\(∀k acc t,P k acc t->t D=ak (.l acc)/\acc.length<=k) /\(∀k d acc t,ds[k]?=ak d->P k acc t->DG K g d (GC u ρ) t λG M2=>DT K tt G M2 λc Y=>if c=au then DE K te G Y λy M4=>∃r,y = .d r/\M4 D=ak (.l acc)/\P (k+1) (acc++[r]) (M4.put D (.l (acc++[r]))) else P (k+1) acc Y) /\∀acc t,P ds.length acc t->Q (.d (.list acc)) (t.del D)) :
   DE K (PR u wi g tt te) ρ M Q:=λσ H QQ R k=>
 h σ H _ R λJ ds H1 M1 o1 t1 wd Ld=>by
   obtain⟨hsz,hq⟩:=Ld;intro A hA;obtain⟨P,p0,pa,pt,pe⟩:=hq A (o1.none hA);obtain⟨oA,sA⟩:=QH o1 hA (DVs.nil (K:=K) (H:=H1) (W:=M1.W));refine#[λi m ys f=>m=ds.length - i/\i<=ds.length/\f A=ak (.lst ys)/\∃acc t,OA K f t/\Step K M1 t H1 f/\P i acc t,#[_,rfl,xT _,AF,[],_,oA,sA,p0],?_];rintro i m ys f ⟨rfl,hi,vz,acc,t,O,v,p⟩;refine#[vz,?_];have xv:∀{N:Own},(N.del A).Sub N:=λ{N} b o q=>by
     unfold Own.del at q;by_cases hb:b=A;. rw[if_pos hb] at q;cases q
     . rw[if_neg hb] at q;exact q
   by_cases L:i < ds.length
   . refine .inr #[wd.go i f t L O v,λx X y=>?_];obtain⟨xw,fq,d,e1,e2⟩:=wd.yld i f t x X O v L y;have Rc:Rel K t (GC u ρ) (L2.capt u σ) X:=((R.step o1 t1).step xw (v.trans fq)).capt;refine ho _ _ _ _ (pt i d acc t e1 p (L2.capt u σ) X x _ Rc e2 λρ3 Y U H4 R3 ib b3 hext=>#[λi' v' lp=>?_,?_]);. obtain⟨j,f1,f2⟩:=F9 lp;rw[hext i' λn=>hT i' n j f1];exact lp
     . refine b3 U H4 _ R3 λc H5 M5 o5 ji Z=>?_;have sx:=((v.trans fq).trans ib).trans ji;cases c with
       | false=> rw[if_neg nft] at Z ⊢;obtain⟨n,_⟩:=pa _ _ _ Z;obtain⟨B,I,S⟩:=o5 A _ n;exact#[B,ds.length - (i+1),by omega,rfl,L,I,acc,M5,o5,sx,Z]
       | true=> rw[if_pos rfl] at Z ⊢;refine Z U H5 _ (R3.step o5 ji) λy H6 z M6 o6 s6 oj h6=>?_;obtain⟨r,rfl,n,p'⟩:=h6;obtain⟨B,I,S⟩:=o6 A _ n;obtain⟨w1,w2⟩:=HA o6 n (S.append (DVs.cons s6 DVs.nil));have ac:acc.length<=i:=(pa _ _ _ p).2;exact#[B,I,by rw[S.length];omega,ds.length - (i+1),by omega,rfl,L,AF,_,_,w1,(sx.trans oj).trans w2,p']
   . have e:i=ds.length:=by omega
     subst e;refine .inl #[wd.stop f t O v,?_];obtain⟨n,_⟩:=pa _ _ _ p;obtain⟨B,I,S⟩:=O A _ n;have bw:Step K t (t.del A) f f:=#[BB xv]
     refine k _ f (.d (.list acc)) (t.del A) (O.sub xv) ?_ ((t1.trans v).trans bw) (pe acc t p);unfold SI DV;exact#[A,B,rfl,.inl #[λw=>w (by unfold Own.del;rw[if_pos rfl]),.inl I],S.grow (BB xv)]
theorem BO (ho:JU g T) (hT:∀i∈T,∀j,u[i]?≠ak (ak j)) (h:DI K wi ρ M λds M1=>ds.length < a0/\∃(c:PyData->Bool) (f:PyData->PyData),(∀d∈ds,∀e,DG K g d (GC u ρ) e λr m=>m=e/\DT K U r m λb B=>B=e/\b=c d/\(c d=au->DE K G r B λy O=>y = .d (f d)/\O=e))/\Q (.d (.list ((ds.filter c).map f))) M1) :
   DE K (PR u wi g U G) ρ M Q:=by
 refine gD ho hT λx H R Rl k=>h x H R Rl λJ ds Y M1 o1 t1 wd q=>k J ds Y M1 o1 t1 wd ?_;obtain⟨hsz,c,f,he,q⟩:=q;refine#[hsz,λA hA=>#[λk acc e=>acc=((ds.take k).filter c).map f/\e=M1.put A (.l acc),#[by simp,rfl],λk acc e #[n,t]=>#[by rw[t];exact zU,?_],λk d acc e hd #[n,t]=>?_,λacc e #[n,t]=>?_]];. rw[n,zX];exact zN (yJ _ _) (by rw[a0K];omega)
 . have hm:d∈ds:=yN hd;intro x H v QQ R dv kk;refine he d hm e x H v QQ R dv λI m z H' R' st ww7=>kk I m z H' R' st λN Z QQ2 R2 k2=>?_;obtain⟨eM,q2⟩:=ww7;refine q2 N Z QQ2 R2 λb H3 B o3 fq Le=>k2 b H3 B o3 fq ?_;obtain⟨X,p,q3⟩:=Le;have L:(ds.take (k+1)).filter c=(ds.take k).filter c++(if c d then [d] else []):=hY c ds k d hd;cases hb:c d with
   | false=> rw[hb] at p;subst p;refine L2.nP #[?_,by rw[X,t]];rw[L,hb,n];simp
   | true=>
     rw[hb] at p;subst p;refine L2.jK ?_;refine WE (q3 hb) λy O #[ey,S]=>#[f d,ey,by rw[S,t];exact zU,?_,by rw[S,t,yI]]
     rw[L,hb,n];simp
 . rw[t,yG hA,n,a1Q];exact q
end
def MF (N:List Str) (xs:List DS):List (Option DS):=xs.map ak++b3Q (N.length - xs.length) am
section
theorem SIs.get :∀{xs:List DS}{vs:List V}{i:Nat}{x:DS},SIs K H M xs vs->xs[i]?=ak x->∃v,vs[i]?=ak v/\SI K H M x v
 | [],_,_,_,_,e=>by simp at e
 | d::ds,vs,i,x,#[v,r,e',h1,n],e=>by
   subst e';cases i with
   | zero=>simp at e;subst e;exact#[v,rfl,h1]
   | succ i=>simpa using SIs.get n (by simpa using e)
theorem UW (z:OA K H M) (h:SIs K H M xs vs):Rel K M (MF N xs) (L2.E5 N vs) H:=by
 have r:=h.length;refine#[z,by unfold MF L2.E5;simp[r],λi x e=>?_];unfold MF at e;by_cases hi:i < xs.length
 . rw[yQ (by simpa using hi),zF] at e;cases q:xs[i]? with
   | none=>rw[q] at e;cases e
   | some y=> rw[q] at e;cases e;obtain⟨v,h1,n⟩:=h.get q;refine#[v,?_,n];unfold L2.E5;rw[yQ (by rw[zX,r];exact hi),zF,h1];rfl
 . rw[List.getElem?_append_right (by simpa using hi),List.getElem?_replicate] at e;split at e <;> cases e
theorem fnD (F:Fun K x qual st f T) (n:FnScope N ps (AB st)) (u:∀(cdv:ap) (A:bx) (outer:List ic) (s:av) (H:Hp) (E:XK),Room k (A.deeper (xL qual (AB st) s.heap.objs.size f cdv)) ->∃t,PSs (IC CX0 P w K mg base N qual (AB st) f cdv A outer s H E).nox (BH st) t/\∀xs M,xs.length=ps.length->S.pre xs M->DSt K t (MF N xs) M { nx:=λ_ M1=>∃e:Own,e.Sub M1/\S.post xs M (.d .none) e,rt:=λy M1=>∃e:Own,e.Sub M1/\S.post xs M y e }) :
   FnOk P w K mg base CX0 (k+1) f T ps (spD K ps.length S):=by
 refine F.ok n g6 λcdv A outer s H g Q E hr h=>?_;obtain⟨t,i,hq⟩:=u cdv A outer s H E hr;obtain⟨xs,M,r,m,c,pre,post⟩:=h;refine#[t,i,hq xs M r pre (L2.E5 N g) H _ (UW m c) ?_ ?_ (λ_ _ _ _ _ _ z=>z.elim) (λ_ _ _ _ _ _ z=>z.elim)];. rintro I M1 j H' R st ⟨e,hs,p⟩;exact post (.d .none) e .non H' p (st.trans #[BB hs]) (R.own.sub hs) (by unfold SI DV;rfl)
 . rintro v H' y M1 o b st ⟨e,hs,p⟩;exact post y e v H' p (st.trans #[BB hs]) (o.sub hs) (b.sub hs)
end
end DL
namespace L2
open PySem PySem.Spec PyProof.Rows
section
variable {X:Cx}{tg:bp}
def YR (K:Frg):R2:=λx y H Q=>(rI0 λi j=>.int (i+j)) x y H Q\/((∃i j,x = .str i/\y = .str j/\i.length+j.length<=a0/\Q (.str (i++j)) H)\/A1K K x y H Q)
theorem vZ:OpR X (ea .Add) (YR X.K):=A1v.or (cJ.or vK)
def RJ (K:Frg):R2:=λx y H Q=>A2J K x y H Q\/(A2K K x y H Q\/A2L x y H Q)
theorem A2r:IxR X (RJ X.K):=v4.or (A2M.or A2N)
def w6 (K:Frg):V->Option Int->Option Int->Hp->VK->Prop:=λx e hi H Q=>A2O K x e hi H Q\/A2V x e hi H Q
theorem A2s:SlR X (w6 X.K):=v6.or A2W
def A4k:R2:=λx y H Q=>(rI0 λi j=>.bl (decide (i < j))) x y H Q\/∃i j,x = .str i/\y = .str j/\Q (.bl (decide (i.cps.toList < j.cps.toList))) H
theorem oG:OpR X (bq .Lt) A4k:=A4N.or jD
def oH (K:Frg):R2:=λx y H Q=>(∃i j,x = .str i/\y = .str j/\Q (.bl (!(a4Z j i 0 j.length 1).isEmpty)) H)\/rIn K aB x y H Q
theorem A2t:OpR X (bq .In) (oH X.K):=jE.or jG
def WF (K:Frg):R2:=λx y H Q=>(∃i j,x = .str i/\y = .str j/\Q (.bl (!(!(a4Z j i 0 j.length 1).isEmpty))) H)\/rIn K au x y H Q
theorem jL:OpR X (bq .NotIn) (WF X.K):=VZ.or W5
def oI (K:Frg) (tl:TE):TI:=λn H R=>tl n H λx e=>(∃a,x = .ref a/\(∃t,SqL K e a t)/\R (Itl K a) e)\/(∃a,x = .ref a/\(∃t,SqT K e a t)/\R (Itt K a) e)\/∃y,x = .str y/\R (Its y) e
theorem A2u (j:PE X l tl):PI X tg l (oI X.K tl):=by
 intro pins s T H R I h;refine thn (j pins s T H _ I h) ?_;rintro v m ⟨x,n,J,r,k⟩;have i:∀b∈[m.heap.objs.size],N4 X pins n b:=λb hb=>by
   have e:b=m.heap.objs.size:=by simpa using hb
   subst e;exact J.fpOk (zR _) (J.hok.fresh (zR _))
 rcases k with ⟨a,e,⟨z,hq⟩,q⟩ | ⟨a,e,⟨z,hq⟩,q⟩ | ⟨y,e,q⟩
 . subst e;cases r;obtain⟨f,S,p,u⟩:=J.list hq;refine g0 p.isList ?_;exact#[m.heap.objs.size,[m.heap.objs.size],_,_,n,rfl,J.kept (t':=m.toks) λb o e=>zW _ e,jA a _,#[_,yZ _ rfl,rfl,rfl],i,q]
 . subst e;cases r;obtain⟨f,S,p,u⟩:=J.tuple hq;refine gl (show m.heap.IsTuple a f.toArray from p) ?_;exact#[m.heap.objs.size,[m.heap.objs.size],_,_,n,rfl,J.kept (t':=m.toks) λb o e=>zW _ e,cG a _,#[_,yZ _ rfl,rfl,rfl],i,q]
 . subst e;obtain⟨t,rfl⟩:=r;cases g:y.cps.all (· < 128)
   . exact wpAny_pyIter_wide g #[m.heap.objs.size,[m.heap.objs.size],_,_,n,rfl,J.kept (t':=m.toks) λb o e=>zW _ e,
       YO m.heap.objs.size "str_iterator" y t `kh (λA hA=>Walks.strWide hA _ y t) (λ_ _ _ _ _ c h=>wpAny_pyIter_striter_wide c h),#[_,yZ _ rfl,rfl,rfl],i,q]
   . exact wpAny_pyIter_ascii g #[m.heap.objs.size,[m.heap.objs.size],_,_,n,rfl,J.kept (t':=m.toks) λb o e=>zW _ e,
       YO m.heap.objs.size "str_ascii_iterator" y t `kh (λA hA=>Walks.strAscii hA _ y t) (λ_ _ _ _ _ c h=>wpAny_pyIter_striter_ascii c h),#[_,yZ _ rfl,rfl,rfl],i,q]
end
def oJ:ed->Bool | .free=>au | _=>aB
def oK:ed->Bool | .cell=>au | _=>aB
def gE:ed->Bool | .local=>au | _=>aB
def oM (Z:eN) (ON:List Str) (scope:eN) (NC:List Str) (q:List (Option Nat)):Bool:=(match scope.kind with | .function=>au | _=>aB)&&scope.names.all (λy=>!oK y.2) &&
 scope.names.all (λy=>!gE y.2||(match scope.names.lookup y.1 with | some .local=>au | _=>aB)) &&
 scope.names.all (λy=>!oJ y.2||(match Z.names.lookup y.1 with | some .cell=>au | some .free=>au | _=>aB)) &&
 q.length==NC.length &&
 (a1X NC.length).all λi=>match q[i]?,NC[i]? with
   | some (ak j),ak x=>ON[j]?==ak x&&(match scope.names.lookup x with | some .free=>au | _=>aB)&&(match Z.names.lookup x with | some .cell=>au | some .free=>au | _=>aB)
   | _,_=>au
theorem CSc.of (h:oM Z ON scope NC q=au) (e:X.env.scope=Z) (T:X.N=ON):CSc X scope NC q:=by
 subst e T;unfold oM at h;simp only[a0V,a9X,List.mem_range,beq_iff_eq] at h;obtain⟨⟨⟨⟨⟨h1,m⟩,G⟩,p⟩,b⟩,c⟩:=h;refine#[?_,λy hy e=>?_,λy hy e=>?_,λy hy e=>?_,b,λi j x n g=>?_];. cases hk:scope.kind <;> rw[hk] at h1 <;> simp at h1 ⊢
 . have:=m y hy;rw[e] at this;simp[oK] at this
 . have:=G y hy;rw[e] at this;simp only[gE,Bool.not_true,Bool.false_or] at this;cases r:scope.names.lookup y.1 with
   | none=>rw[r] at this;cases this
   | some k=>rw[r] at this;cases k <;> first | rfl | cases this
 . have:=p y hy;rw[e] at this;simp only[oJ,Bool.not_true,Bool.false_or] at this;cases r:X.env.scope.names.lookup y.1 with
   | none=>rw[r] at this;cases this
   | some k=>
     rw[r] at this;cases k <;> first
       | exact .inl r
       | exact .inr r
       | cases this
 . have hi:i < NC.length:=(yT.mp n).1;have:=c i hi;rw[n,g] at this;simp only[a0V,beq_iff_eq] at this;obtain⟨⟨u,t⟩,J⟩:=this;refine#[u,?_,?_]
   . cases r:scope.names.lookup x with
     | none=>rw[r] at t;cases t
     | some k=>rw[r] at t;cases k <;> first | rfl | cases t
   . cases r:X.env.scope.names.lookup x with
     | none=>rw[r] at J;cases J
     | some k=>
       rw[r] at J;cases k <;> first
         | exact⟨.inr (.inl r),λz=>by have f:X.env.scope.names.lookup x=ak .local:=z;rw[r] at f;cases f⟩
         | exact⟨.inr (.inr r),λz=>by have f:X.env.scope.names.lookup x=ak .local:=z;rw[r] at f;cases f⟩
         | cases J
end L2
namespace DL
open PySem PySem.Spec L2
section
theorem oN (q:Q (.d (.int (i+j))) M):D2 K (YR K) (.d (.int i)) (.d (.int j)) M Q:=FC (A4i q)
theorem oO (hz:i.length+j.length<=a0) (q:Q (.d (.str (i++j))) M):D2 K (YR K) (.d (.str i)) (.d (.str j)) M Q:=GO (FC (vR hz q))
theorem oP (hz:a.length+b.length<=a0) (q:Q (.d (.list (a++b))) M):D2 K (YR K) (.d (.list a)) (.d (.list b)) M Q:=GO (GO (A2o hz q))
theorem AW (e:atI ds i=ak d) (q:Q (.d d) M):D2 K (RJ K) (.d (.list ds)) (.d (.int i)) M Q:=FC (A2l e q)
theorem AM (e:atI ds i=ak d) (q:Q (.d d) M):D2 K (RJ K) (.d (.tuple ds)) (.d (.int i)) M Q:=GO (FC (A2m e q))
theorem gF (hz:z.length<=a0) (e:atI z.cps.toList i=ak c) (q:Q (.d (.str #[(y9 [c])])) M):D2 K (RJ K) (.d (.str z)) (.d (.int i)) M Q:=GO (GO (A2n hz e q))
theorem oQ (hz:z.length<=a0) (q:Q (.d (.str (b1V z e hi))) M):DSl K (w6 K) (.d (.str z)) e hi M Q:=λH v QQ t m k=>.inr (vX hz q H v QQ t m k)
theorem jM (q:Q (.d (.list (F0 ds e hi))) M):DSl K (w6 K) (.d (.list ds)) e hi M Q:=λH v QQ z m k=>.inl (o8 q H v QQ z m k)
theorem w8 (q:Q (.d (.bool (decide (i < j)))) M):D2 K A4k (.d (.int i)) (.d (.int j)) M Q:=FC (A4j q)
theorem w9 (q:Q (.d (.bool (!(a4Z j i 0 j.length 1).isEmpty))) M):D2 K (oH K) (.d (.str i)) (.d (.str j)) M Q:=FC (A2j q)
theorem WG {ys:List Str}(q:Q (.d (.bool (decide (x∈ys)))) M):D2 K (oH K) (.d (.str x)) (.d (.list (ys.map .str))) M Q:=GO (A2k (neg:=aB) q)
theorem CN (h:DE K tl ρ M λx M1=>∃ds,x = .d (.list ds)/\QI ds M1):DI K (oI K tl) ρ M QI:=λf H R Y k=>
 h f H _ Y λv b x M1 S p c Z=>by
   obtain⟨ds,e,q⟩:=Z;subst e;unfold SI DV at p;obtain⟨a,n,rfl,r,hd⟩:=p;refine .inl #[a,rfl,#[n,r.sq],k _ ds b M1 S c #[λi H' m hi z t=>?_,λH' m z t=>?_,λi H' m x u z t hi y=>?_] q];. exact#[n,n[i]'(by rw[hd.length];exact hi),(r.grow t.grow).sq,by simp[hd.length,hi]]
   . exact#[n,(r.grow t.grow).sq,by rw[hd.length];exact zR _]
   . obtain⟨rfl,y⟩:=y;obtain⟨d,j,g⟩:=hd.get (y n (r.grow t.grow).sq);exact#[z,Step.refl,d,j,g.grow t.grow]
theorem BP (h:DE K tl ρ M λx M1=>∃ds,x = .d (.tuple ds)/\QI ds M1):DI K (oI K tl) ρ M QI:=λf H R Y k=>
 h f H _ Y λv b x M1 S p c G=>by
   obtain⟨ds,e,q⟩:=G;subst e;unfold SI DV at p;obtain⟨a,n,rfl,r,hd⟩:=p;refine .inr (.inl #[a,rfl,#[n,r.sq],k _ ds b M1 S c #[λi H' m hi z t=>?_,λH' m z t=>?_,λi H' m x u z t hi y=>?_] q]);. exact#[n,n[i]'(by rw[hd.length];exact hi),(r.grow t.grow).sq,by simp[hd.length,hi]]
   . exact#[n,(r.grow t.grow).sq,by rw[hd.length];exact zR _]
   . obtain⟨rfl,y⟩:=y;obtain⟨d,j,g⟩:=hd.get (y n (r.grow t.grow).sq);exact#[z,Step.refl,d,j,g.grow t.grow]
theorem wA (h:DE K tl ρ M λx M1=>∃z,x = .d (.str z)/\QI (DB z) M1):DI K (oI K tl) ρ M QI:=λg H R Y k=>
 h g H _ Y λv b x M1 S m f N=>by
   obtain⟨z,e,q⟩:=N;subst e;have r:(DB z).length=z.cps.size:=by simp[DB]
   rw[show v = .str z by unfold SI DV at m;exact m];refine .inr (.inr #[z,rfl,k _ (DB z) b M1 S f #[λi H' n hi t p=>?_,λH' n t p=>?_,λi H' n x u t p hi y=>?_] q]);. show i < z.cps.size;rw[<-r];exact hi
   . exact r
   . obtain⟨rfl,c,j,rfl⟩:=y;exact#[t,Step.refl,.str #[(y9 [c])],by unfold DB;rw[zF];simp[j],by unfold DV;rfl]
def tyD:PyData->String
 | .none => "NoneType"
 | .bool _ => "bool"
 | .int _ => "int"
 | .str _ => "str"
 | .list _ => "list"
 | .tuple _ => "tuple"
 | .dict _ => "dict"
end
end DL
namespace L2
open PySem PySem.Spec PyProof.Rows
section
def oR (K:Frg):List V->Hp->VK->Prop:=λt H Q=>∃(x:V) (T:String) (d:PyData) (W:Addr->Prop) (b:Bool),t=[x,.ty T]/\DV K H W d x/\PySem.W.kitOne K (.type (DL.tyD d)) (.type T)=ak b/\Q (.bl b) H
theorem jN:D9 X (.builtin "isinstance") (oR X.K):=by
 intro pins s N H D M Q I r h;obtain⟨x,T,d,W,b,rfl,t,e,q⟩:=h;obtain⟨u,O,rfl,p,B⟩:=A4O r;cases B;have fin:∀f,EP X pins N Q (.bool b) { s with toks:=f }:=λf=>#[.bl b,H,I.tok _,rfl,q]
 cases d with
 | none=>unfold DV at t;subst t;exact GW I p (TyOf.non) e fin
 | bool y=>unfold DV at t;subst t;exact GW I p (TyOf.bl _) e fin
 | int i=>unfold DV at t;subst t;exact GW I p (TyOf.int _) e fin
 | str y=>unfold DV at t;subst t;exact GW I p (TyOf.str _) e fin
 | list ds=> unfold DV at t;obtain⟨a,g,rfl,m,_⟩:=t;cases p;obtain⟨j,S,⟨o,n,h1,c,_,_⟩,_⟩:=I.list m.sq;exact a3J PySem.W.kitx_list I.kIn #[o,h1,c] e (λz=>nomatch z) fin
 | tuple ds=> unfold DV at t;obtain⟨a,g,rfl,m,_⟩:=t;cases p;obtain⟨j,S,⟨o,h1,c,_⟩,_⟩:=I.tuple m.sq;exact a3J PySem.W.kitx_tuple I.kIn #[o,h1,c] e (λz=>nomatch z) fin
 | dict kvs=>
   unfold DV at t;obtain⟨a,g,rfl,_,m,_⟩:=t;rcases m with m | ⟨v,m⟩
   . exact GW I p (TyOf.dK m) e fin
   . cases p;obtain⟨_,_,G,_,k⟩:=N8 I.hok (.inr #[v,m]);exact a3J PySem.W.kitx_dict I.kIn k.typeIs e (λz=>nomatch z) fin
end
end L2
namespace DL
open PySem PySem.Spec L2
section
theorem oS{K:Frg}{M:Own}{Q:DS->Own->Prop} (e:PySem.W.kitOne K (.type (tyD d)) (.type T)=ak b) (q:Q (.d (.bool b)) M):DR K (oR K) [.d d,.ty T] M Q:=λH m QQ z s k=>by obtain⟨v,r,rfl,h1,t,i,rfl,n,G⟩:=s;cases G;rw[show t = .ty T from n];exact#[v,T,d,M.W,b,rfl,h1,e,k _ H _ M z AK Step.refl q]
theorem NA (z:OA K H M) (h:H p=b8V) (hd:DKV K H M.W kvs ks) :
   OA K (upd H p (.dK ks)) (M.put p (.d kvs))/\Step K M (M.put p (.d kvs)) H (upd H p (.dK ks)):=by
 have m:=z.none h;have g:Grow K M.W (M.put p (.d kvs)).W H (upd H p (.dK ks)):=#[λb u e _=>.inl (by rw[AH (B5 e h)];exact e),λb w=>by
   by_cases hb:b=p;. subst hb;exact .inr h
   . left;unfold Own.W at w ⊢;rw[yH hb] at w;exact w]
 refine#[λa o e=>?_,#[g]];by_cases t:a=p;. subst t;rw[zU] at e;cases e;exact#[ks,AF,hd.grow g]
 . rw[yH t] at e;have q:=z a o e;cases o <;> (obtain⟨r,n,i⟩:=q;exact#[r,by rw[AH t];exact n,i.grow g])
theorem FD (z:OA K H M) (h:M p=ak o) (hd:DKV K H M.W kvs ks) :
   OA K (upd H p (.dK ks)) (M.put p (.d kvs))/\Step K M (M.put p (.d kvs)) H (upd H p (.dK ks)):=by
 have n:∀b,(M.put p (.d kvs)).W b->M.W b:=λb w=>by
   unfold Own.W at w ⊢;by_cases hb:b=p;. subst hb;rw[h];simp
   . rw[yH hb] at w;exact w
 have g:Grow K M.W (M.put p (.d kvs)).W H (upd H p (.dK ks)):=#[λb u e nw=>.inl (by
   rw[AH (by rintro rfl;exact nw (by unfold Own.W;rw[h];simp))];exact e),λb w=>.inl (n b w)]
 refine#[λa o e=>?_,#[g]];by_cases t:a=p;. subst t;rw[zU] at e;cases e;exact#[ks,AF,hd.grow g]
 . rw[yH t] at e;have q:=z a o e;cases o <;> (obtain⟨m,i,r⟩:=q;exact#[m,by rw[AH t];exact i,r.grow g])
end
structure Has (P:bn) (w:bj) (K:Frg) (mg:Str->Option ap) (base:cc) (x:Str) (k:Nat) (ps:List Str) (S:FSp):Prop where
 ex:∃f fd,FnOk P w K mg base CX0 k f fd ps (spD K ps.length S)/\mg x=ak (.ref f)/\a3K K (.ref f)=au/\Binds K fd ps []
theorem oU {X:Cx}{x:Str}{k:Nat}{ps:List Str}{S:FSp}{e:bp}{es:List bp}{t:TA}{p pos:en}(h:Has X.prog X.w X.K X.mg X.base x k ps S) (hr:Room k X.A) (hg:Gl X x) (i:PA X (e::es) t) (n:(x==("__debug__":Str))=false:=by decide) (he:starEach (e::es) X.env=(aB,eval e X.env)::starEach es X.env:=by rfl) (r:(backTo pos (starEach es X.env)).any (·.1)=false:=by rfl) :
   PE X (.Call (.Name x p) (e::es) [] pos) (fT (spD X.K ps.length S) [] E0 t):=by obtain⟨f,T,F,q,hk,hb⟩:=h.ex;exact uX F hr hg q hk hb .nil A4V i n he r
theorem wB {X:Cx}{x z:Str}{pos:en}(hg:Gl X x) (h:∃t,X.mg x=ak (.str z t)) (hd:(x==("__debug__":Str))=false:=by decide):PE X (.Name x pos) (tC (.str z)):=by obtain⟨t,h⟩:=h;exact VU hg h #[t,rfl] hd
theorem wC {X:Cx}{x:Str}{z:Int}{pos:en}(hg:Gl X x) (h:∃t,X.mg x=ak (.int z t)) (hd:(x==("__debug__":Str))=false:=by decide):PE X (.Name x pos) (tC (.int z)):=by obtain⟨t,h⟩:=h;exact VU hg h #[t,rfl] hd
section
variable {X:Cx}{K:Frg}
theorem kIx (h:X.K=K):IxR X (RJ K):=h▸A2r
theorem kIn (h:X.K=K):OpR X (bq .In) (oH K):=h▸A2t
theorem A2v (h:X.K=K):OpR X (bq .NotIn) (WF K):=h▸jL
theorem kEq (h:X.K=K) (hu:X.A.units+64 < eh):OpR X (bq .Eq) (cS K aB):=h▸A2X hu
theorem kNe (h:X.K=K) (hu:X.A.units+64 < eh):OpR X (bq .NotEq) (cS K au):=h▸A2Y hu
def wE (K:Frg):List V->Hp->VK->Prop:=λt H Q=>∃x n,t=[x]/\n9 K x H n/\Q (.int (n:Nat)) H
def A1M (K:Frg):List V->Hp->VK->Prop:=λt H Q=>∃(p:Addr) (bs:List Bool),t=[.ref p]/\SqL K H p (bs.map V.bl)/\Q (.bl (bs.all id)) H
def A1N (K:Frg):List V->Hp->VK->Prop:=λt H Q=>∃(p:Addr) (bs:List Bool),t=[.ref p]/\SqL K H p (bs.map V.bl)/\Q (.bl (bs.any id)) H
theorem A5W (h:X.K=K):D9 X (.builtin "len") (wE K):=h▸nC
theorem A5X (h:X.K=K) (hc:X.calm=au):D9 X (.builtin "all") (A1M K):=h▸nQ hc
theorem A5Y (h:X.K=K) (hc:X.calm=au):D9 X (.builtin "any") (A1N K):=h▸nR hc
theorem A5Z (h:X.K=K):D9 X (.builtin "isinstance") (oR K):=h▸jN
theorem A4l (h:X.K=K):MtR X "str.join" (nS K):=h▸vJ
theorem A4m {e l:bp}{tl:TE}(h:X.K=K) (r:PE X l tl):PI X e l (oI K tl):=h▸A2u r
theorem A1O {P:bn}{w:bj}{mg:Str->Option ap}{base:cc}{x:Str}{k:Nat}{ps:List Str}{S:FSp}{e:bp}{es:List bp}{t:TA}{p pos:en}(hK:X.K=K) (i:X.prog=P) (m:X.w=w) (c:X.mg=mg) (f:X.base=base) (h:Has P w K mg base x k ps S) (hr:Room k X.A) (hg:Gl X x) (r:PA X (e::es) t) (n:(x==("__debug__":Str))=false:=by decide) (he:starEach (e::es) X.env=(aB,eval e X.env)::starEach es X.env:=by rfl) (b:(backTo pos (starEach es X.env)).any (·.1)=false:=by rfl) :
   PE X (.Call (.Name x p) (e::es) [] pos) (fT (spD K ps.length S) [] E0 t):=by subst hK i m c f;exact oU h hr hg r n he b
variable {o e:bp}{es:List bp}{to:TE}{t:TA}{name:Str}{apos ag:en}{T id:String}{r:V->List V->Hp->VK->Prop}
theorem kBm (h:X.K=K) (D:PlainAttrs T) (slot:Slot T name id) (b:typeOf (.builtin id)=pure (.type "method_descriptor")) (q:MtR X id r) (ho:PE X o to) (n:PA X (e::es) t) (hbase:attributeBase o name X.env (eval o X.env)=eval o X.env:=by rfl)
   (i:((backTo ag (starEach (e::es) X.env)).all (λx=>!x.1)&&(backToKw ag (keywordEach [] X.env)).all (λx=>x.1.isSome)
     && decide ((e::es).length+([]:List Keyword).length+(if ([]:List Keyword).isEmpty then 0 else 1) < 30))=true:=by rfl)
   (p:(apos.endLine==ag.line)=true:=by rfl) (hs:starEach (e::es) X.env=(aB,eval e X.env)::starEach es X.env:=by rfl) (m:(backTo ag (starEach es X.env)).any (·.1)=false:=by rfl) :
   PE X (.Call (.Attribute o name apos) (e::es) [] ag) (tBM K T r to t):=h▸A4Q D slot b q ho n hbase i p hs m
end
section
theorem gG (hz:z.length<=a0) (q:Q (.d (.int z.length)) M):DR K (wE K) [.d (.str z)] M Q:=vT hz q
theorem KS (q:Q (.d (.int ds.length)) M):DR K (wE K) [.d (.list ds)] M Q:=vU q
theorem NB (q:Q (.d (.int ds.length)) M):DR K (wE K) [.d (.tuple ds)] M Q:=vV q
theorem WH {bs:List Bool}(q:Q (.d (.bool (bs.all id))) M):DR K (A1M K) [.d (.list (bs.map .bool))] M Q:=A2p q
theorem A2w {bs:List Bool}(q:Q (.d (.bool (bs.any id))) M):DR K (A1N K) [.d (.list (bs.map .bool))] M Q:=A2q q
end
end DL
namespace L2
open PySem PySem.Spec PyProof.Rows
section
theorem gH:∀{e:List ap}{ss:List Str},StrsAre e ss->Vals (ss.map V.str) e
 | _,_,.nil=>.nil
 | _,_,.cons y t r=>.cons #[t,rfl] (gH r)
def WI (K:Frg):List V->Hp->VK->Prop:=λt H Q=>∃(p:Addr) (e:List Str),t=[.ref p]/\SqL K H p (e.map V.str)/\e.length < 64/\∀(i:List Str) (q:Addr),i.Perm e->sortedS i=au->H q=am->Q (.ref q) (upd H q (.lst (i.map V.str)))
theorem cT:D9 X (.builtin "sorted") (WI X.K):=by intro pins s z H y x Q I r h;obtain⟨p,v,rfl,hp,m,q⟩:=h;obtain⟨u,rfl,T⟩:=JB r;cases T;obtain⟨t,S,Y,j⟩:=I.list hp;have hS:=QG S;have c:=S.length;rw[zX] at c;refine sorted_strs Y.isList hS (by lia) λout i h1 n G=>?_;obtain⟨e,he⟩:=sortedAll_at s.heap t out;have hn:H (s.heap.objs.size+1)=none:=I.hok.fresh (a5Z _);have k:=n.length_eq;refine#[.ref (s.heap.objs.size+1),_,I.laid (t':=s.toks) (o:=.lst (i.map V.str)) (λb o g=>sortedAll_old g) (a5Z _) ?_,rfl,q i _ n G hn];refine#[by rw[zX,k];exact zN (xR m) `kh,out.toList,e,gH h1,?_];have f:=he;simpa [cw] using f
end
end L2
namespace DL
open PySem PySem.Spec L2
section
variable {X:Cx}{K:Frg}
def YS (K:Frg):List V->Hp->VK->Prop:=λt H Q=>∃p e,t=[.ref p]/\((SqL K H p e/\∀l,H l=am->Q (.ref l) (upd H l (.tup e)))\/(SqT K H p e/\Q (.ref p) H))
theorem A2x (h:X.K=K):D9 X (.type "tuple") (YS K):=h▸TZ
end
section
theorem KU (q:Q (.d (.tuple ds)) M):DR K (YS K) [.d (.list ds)] M Q:=λH e QQ z s k=>by obtain⟨v,r,rfl,h1,n⟩:=s;cases n;unfold SI DV at h1;obtain⟨a,e,rfl,t,hd⟩:=h1;refine#[a,e,rfl,.inl #[t.sq,λp hp=>?_]];have g:Grow K M.W M.W H (upd H p (.tup e)):=AZ _ hp;refine k _ _ (.d (.tuple ds)) M (z.new hp) ?_ #[g] q;unfold SI DV;exact#[p,e,rfl,.inl #[λw=>w (z.none hp),.inl AF],hd.grow g]
theorem GD :∀{bs:List Str},DVs K H W (bs.map a0Z) (bs.map V.str)
 | []=>DVs.nil
 | b::bs=>DVs.cons (by unfold DV;rfl) GD
theorem wF (t:ss.length < 64) (q:∀i:List Str,i.Perm ss->xG i=au->Q (.d (.list (i.map .str))) M):DR K (WI K) [.d (.list (ss.map .str))] M Q:=λH b QQ z s k=>by obtain⟨v,r,rfl,h1,n⟩:=s;cases n;unfold SI DV at h1;obtain⟨a,b,rfl,e,hd⟩:=h1;rw[H0 hd] at e;refine#[a,ss,rfl,e.sq,t,λi p G m hp=>?_];have g:Grow K M.W M.W H (upd H p (.lst (i.map V.str))):=AZ _ hp;refine k _ _ (.d (.list (i.map .str))) M (z.new hp) ?_ #[g] (q i G m);unfold SI DV;exact#[p,_,rfl,.inl #[λw=>w (z.none hp),.inl AF],GD]
def CT:PyData->Bool | .none=>au | _=>aB
theorem A2y (q:Q (.d (.bool (CT d))) M):D2 K (λx y H Q=>y = .non/\Q (.bl (decide (x = .non))) H) (.d d) (.d .none) M Q:=λH v u QQ z m e k=>by
 refine#[nZ e,k _ H (.d (.bool (CT d))) M z ?_ Step.refl q];cases d <;> unfold SI DV at m;. rw[m];exact AK
 . rw[m];exact AK
 . rw[m];exact AK
 . rw[m];exact AK
 . obtain⟨a,_,rfl,_⟩:=m;exact AK
 . obtain⟨a,_,rfl,_⟩:=m;exact AK
 . obtain⟨a,_,rfl,_⟩:=m;exact AK
theorem wG (q:Q (.d (.bool (!CT d))) M):D2 K (λx y H Q=>y = .non/\Q (.bl (!decide (x = .non))) H) (.d d) (.d .none) M Q:=λH v u QQ z m e k=>by
 refine#[nZ e,k _ H (.d (.bool (!CT d))) M z ?_ Step.refl q];cases d <;> unfold SI DV at m;. rw[m];exact AK
 . rw[m];exact AK
 . rw[m];exact AK
 . rw[m];exact AK
 . obtain⟨a,_,rfl,_⟩:=m;exact AK
 . obtain⟨a,_,rfl,_⟩:=m;exact AK
 . obtain⟨a,_,rfl,_⟩:=m;exact AK
end
def DGs (K:Frg) (g:TGs) (ds:List PyData) (N:List (Option DS)) (M:Own) (P:List (Option DS)->Own->Prop):Prop:=∀(t:St) (H:Hp) (e:List V) (QQ:St->Hp->Prop),Rel K M N t H->DVs K H M.W ds e->(∀I i c H',Rel K i I c H'->Step K M i H H'->P I i->QQ c H')->g e t H QQ
section
theorem wH (h:P ρ M):DGs K A1p [] ρ M P:=λe H t QQ R hd k=>by unfold DVs at hd;subst hd;exact#[rfl,k ρ M e H R Step.refl h]
theorem oV (h:DGs K g ds (ρ.set i (ak (.d d))) M P):DGs K (mU (R5 i) g) (d::ds) ρ M P:=λe H t QQ R hd k=>by unfold DVs at hd;obtain⟨v,r,rfl,h1,n⟩:=hd;exact#[v,r,rfl,h (e.set i (ak v)) H r QQ (R.set (x:=.d d) h1 i) n k]
theorem A2z (hn:ds.length=n) (h:DGs K g ds ρ M P):DG K (uS K n g) (.tuple ds) ρ M P:=λi H v QQ R e k=>by unfold DV at e;obtain⟨a,t,rfl,r,hd⟩:=e;exact#[a,t,rfl,r.sq,by rw[hd.length];exact hn,h i H t QQ R hd k]
def wI (g:TGs) (T:List Nat):Prop:=(∀(t:List V) (e:St) (H:Hp) (Q r:St->Hp->Prop),(∀a b,Q a b->r a b)->g t e H Q->g t e H r) /\(∀(t:List V) (e:St) (H:Hp) (QQ:St->Hp->Prop),g t e H QQ->g t e H λn f=>(∀i,i∉T->n[i]?=e[i]?)/\QQ n f)
theorem cU:wI A1p []:=#[(by rintro t n H Q g m ⟨e,h⟩;exact#[e,m _ _ h]),by rintro t n H QQ ⟨e,h⟩;exact#[e,λ_ _=>rfl,h]]
theorem F3 (hg:wI g T):wI (mU (R5 i) g) (i::T):=by refine#[(by rintro b t H Q n m ⟨v,r,e,h⟩;exact#[v,r,e,hg.1 r _ H Q n m h]),λb t H QQ #[v,r,e,h]=>#[v,r,e,?_]];refine hg.1 r _ H _ _ (λc f #[h1,p]=>#[λj u=>?_,p]) (hg.2 r (t.set i (ak v)) H QQ h);rw[h1 j λz=>u (yV _ z),b5K (by rintro rfl;exact u a0J)]
theorem cV (hg:wI g T):JU (uS K n g) T:=λv i H QQ #[a,t,e,hs,m,h]=>
 #[a,t,e,hs,m,hg.1 t i H _ _ (by rintro p f ⟨h1,r⟩;exact r h1) (hg.2 t i H _ h)]
end
end DL
namespace L2
open PySem PySem.Spec PyProof.Rows
section
variable {X:Cx}{pins:List (Addr×cy)}{σ:St}{H:Hp}{s:av}{h':cc}
theorem Inv.turnedT {ch:List Addr}{T:Addr}{ys:List V}{t':Nat}(I:Inv X pins σ H s) (k:∀b o,b∉ch->s.heap.get? b=ak o->h'.get? b=ak o) (hn:∀b∈ch,H b=am) (L:∀b∈ch,(b∈X.ex\/X.s₀.heap.objs.size<=b)/\b≠X.env.locals/\(∀x c,X.env.cells.lookup x=ak c->c≠b)/\∀p∈X.pn++pins,p.1≠b) (i:s.heap.objs.size<=T) (new:ObjOk X.prog X.w (upd H T (.tup ys)) h' T (.tup ys)):Inv X pins σ (upd H T (.tup ys)) { s with heap:=h',toks:=t' }:=by
 have t:H T=none:=I.hok.fresh i;have M:∀b u,H b=ak u->b∉ch:=λb u e z=>by rw[hn b z] at e;cases e
 refine I.step (g':=s.gens) (d':=s.drawn) (ch:=ch) L (λb o _ _ hc e _=>k b o hc e) (λb o _ _ hc e _=>#[o.slots,k b o hc e]) (λb o hc e n=>?_) (λb o hc e=>#[o,k b o hc e]) (λb h e=>?_) (λb o u e=>?_) (λb Z e=>#[#[],?_]) (λm g=>?_) (λb u e=>?_) I.bare;. rw[AH (zC (zP (zM e) i))];exact n
 . rw[AH (B5 e t)];exact e
 . rw[AH (B5 e t)];exact e
 . rw[AH (B5 e t),e];simp
 . obtain⟨o,O,f,ho,r⟩:=g;exact#[o,O,f,k _ o (λz=>(L _ z).2.1 rfl) ho,r]
 . by_cases hb:b=T;. subst hb;rw[AF] at e;cases e;exact new
   . rw[AH hb] at e;refine(I.hok b u e).stay (λc v hc q=>k c v ?_ q) (λc q=>by rw[AH (B5 q t)];exact q) λc h q=>by rw[AH (B5 q t)];exact q
     rcases hc with z | z;. rw[z];exact M b u e
     . exact M c _ z
theorem Inv.turnedL {ch:List Addr}(I:Inv X pins σ H s) (k:∀b o,b∉ch->s.heap.get? b=ak o->h'.get? b=ak o) (hn:∀b∈ch,H b=am) (L:∀b∈ch,(b∈X.ex\/X.s₀.heap.objs.size<=b)/\b≠X.env.locals/\(∀x c,X.env.cells.lookup x=ak c->c≠b)/\∀p∈X.pn++pins,p.1≠b):Inv X pins σ H { s with heap:=h',toks:=t' }:=by
 have M:∀b u,H b=ak u->b∉ch:=λb u e z=>by rw[hn b z] at e;cases e
 refine I.step (g':=s.gens) (d':=s.drawn) (ch:=ch) L (λb o _ _ hc e _=>k b o hc e) (λb o _ _ hc e _=>#[o.slots,k b o hc e]) (λb o hc e n=>n) (λb o hc e=>#[o,k b o hc e]) (λb f e=>e) (λb o u e=>e) (λb Z e=>#[#[],by rw[e];simp]) (λm i=>?_) (λb u e=>?_) I.bare;. obtain⟨o,O,t,ho,r⟩:=i;exact#[o,O,t,k _ o (λz=>(L _ z).2.1 rfl) ho,r]
 . refine(I.hok b u e).stay (λc v hc q=>k c v ?_ q) (λc q=>q) λc f q=>q;rcases hc with z | z;. rw[z];exact M b u e
   . exact M c _ z
end
end L2
namespace DL
open PySem PySem.Spec L2
section
def YT (as bs:List PyData):List PyData:=(as.zip bs).map λp=>.tuple [p.1,p.2]
end
end DL
namespace HT
open PySem PySem.Spec PyProof.Rows
section
theorem getItem_tuple_whole (n:IsTup s.heap t items) (hs:s.heap.IsSliceOf sl r S .none) (Y:i3 r e) (q:i3 S hi) (i:sIx items.size 0 e=0/\sIx items.size items.size hi=items.size) (h:Q (.ref t) s):wpAny (model prog w) A (fk (.ref t) (.ref sl)) Q E s:=by
 obtain⟨U,Z,u,b⟩:=id hs;have p:s.TypeIs (.ref sl) "slice" := #[U,Z,u]
 unfold fk;try with_reducible refine bt ?_
 first | refine zZ (zY ?_) | skip
 refine zZ (wpAny_sequenceKey n.typeIs `kh ?_);refine zZ (wpAny_callSpecial?_slot (name:=a0Q "__getitem__") n.typeIs a4X (ce a4X n.typeIs jg ?_ (args_tuple_getitem _ _)));show wpAny _ _ (b5X (.ref t) >>= _) _ _ s;refine zZ (tupleItemsOf_ n ?_);refine zZ (ga p ?_);rw[if_pos `kh];refine zZ (GZ hs Y q ?_);have M:((((sIx items.size 0 e:Nat):Int)==0&&(1:Int)==1&&(sIx items.size items.size hi - sIx items.size 0 e)==items.size)=au):=by rw[i.1,i.2];simp
 show wpAny _ _ (if (((sIx items.size 0 e:Nat):Int)==0&&(1:Int)==1&&(sIx items.size items.size hi - sIx items.size 0 e)==items.size)=au then _ else _) _ _ s;rw[if_pos M];refine zZ (m:=Builtin.Tuple.tupleIsExact _) (zZ (ga n.typeIs (zY ?_)));show wpAny _ _ (if au=au then _ else _) _ _ s;rw[if_pos rfl];first
   | exact zZ (db (zZ (zY #[_,rfl,zY h])))
   | exact zZ (db (zY #[_,rfl,zY h]))
   | exact zZ (db (zZ (zY (zY #[_,rfl,zY h]))))
end
end HT
namespace L2
open PySem PySem.Spec PyProof.Rows
section
def A1P (K:Frg):V->Option Int->Option Int->Hp->VK->Prop:=λx e hi H Q=>∃a t,x = .ref a/\SqT K H a t/\(MD t e hi=t->Q (.ref a) H)/\∀p,H p=am->Q (.ref p) (upd H p (.tup (MD t e hi)))
theorem wJ:SlR X (A1P X.K):=by
 intro pins s g H x v f S i hi sl Q I c hs Y q h;obtain⟨a,t,rfl,hx,p,b⟩:=h;cases c;obtain⟨m,r,n,u⟩:=I.tuple hx;have k:m.toArray.size=t.length:=by rw[zJ];exact r.length.symm
 by_cases e:HT.sIx t.length 0 i=0/\HT.sIx t.length t.length hi=t.length;. refine#["tuple", _,PyProof.Rows.slot_tuple_getitem.lookup,n.typeIs,?_];refine HT.getItem_tuple_whole n hs Y q (by rw[k];exact e) #[.ref a,H,I,rfl,p ?_];unfold MD;rw[e.1,e.2];simp
 . exact A2I pins s g H (.ref a) (.ref a) f S i hi sl Q I rfl hs Y q #[a,t,rfl,hx,e,b]
def cW (K:Frg):R2:=λx y H Q=>∃a b t e,x = .ref a/\y = .ref b/\SqT K H a t/\SqT K H b e/\t.length+e.length<=a0 /\(t=[]->Q (.ref b) H)/\(e=[]->Q (.ref a) H)/\(∀p,H p=am->Q (.ref p) (upd H p (.tup (t++e))))
theorem oW:OpR X (ea .Add) (cW X.K):=by
 intro pins s σ H x y v u Q I L U h;obtain⟨t,b,j,k,rfl,rfl,hx,hy,D,B,G,J⟩:=h;cases L;cases U;obtain⟨i,r,T,_⟩:=I.tuple hx;obtain⟨M,f,hb,_⟩:=I.tuple hy;have Z:=r.length;have e2:=f.length;obtain⟨⟨cls,m,data,sl⟩,ho,hc,n,hd⟩:=id T;obtain⟨⟨Y,g,data2,O⟩,ho2,hc2,c,hd2⟩:=id hb;dsimp only at hc hd hc2 hd2;subst hc hd hc2 hd2;have e:i.toArray++M.toArray=(i++M).toArray:=by simp
 by_cases N:i=[]
 . have z:j=[]:=by cases r with | nil=>rfl | cons _ _=>cases N
   exact concat_meets #[_,ho,rfl] #[_,ho2,rfl] ef fi a7Z a7X (a6J _ _) (tuple_addW0 t b i.toArray M.toArray n c m g sl O (by simp[N])) #[ho,ho2,#[.ref b,H,I,rfl,B z]]
 . by_cases p:M=[]
   . have S:k=[]:=by cases f with | nil=>rfl | cons _ _=>cases p
     exact concat_meets #[_,ho,rfl] #[_,ho2,rfl] ef fi a7Z a7X (a6J _ _) (tuple_addW1 t b i.toArray M.toArray n c m g sl O (by simpa using N) (by simp[p])) #[ho,ho2,#[.ref t,H,I,rfl,G S]]
   . refine concat_meets #[_,ho,rfl] #[_,ho2,rfl] ef fi a7Z a7X (a6J _ _) (tuple_addW2 t b i.toArray M.toArray n c m g sl O (by simpa using N) (by simpa using p) (by rw[zJ,zJ];lia)) #[ho,ho2,?_];rw[e];refine#[.ref s.heap.objs.size,_,I.laid (t':=s.toks) (o:=.tup (j++k)) (λb ob q=>zW _ q) (zR _) ?_,rfl,J _ I.fresh];exact#[by rw[yY];exact D,i++M,r.append f,IsTup.new _ _]
end
end L2
namespace DL
open PySem PySem.Spec L2
section
variable {X:Cx}{K:Frg}
def YU (K:Frg):R2:=λx y H Q=>YR K x y H Q\/cW K x y H Q
theorem A4n (h:X.K=K):OpR X (ea .Add) (YU K):=h▸vZ.or oW
def wK (K:Frg):V->Option Int->Option Int->Hp->VK->Prop:=λx e hi H Q=>w6 K x e hi H Q\/A1P K x e hi H Q
theorem A5a (h:X.K=K):SlR X (wK K):=h▸A2s.or wJ
end
section
theorem oX (q:Q (.d (.int (i+j))) M):D2 K (YU K) (.d (.int i)) (.d (.int j)) M Q:=FC (oN q)
theorem oY (hz:i.length+j.length<=a0) (q:Q (.d (.str (i++j))) M):D2 K (YU K) (.d (.str i)) (.d (.str j)) M Q:=FC (oO hz q)
theorem RK (hz:a.length+b.length<=a0) (q:Q (.d (.list (a++b))) M):D2 K (YU K) (.d (.list a)) (.d (.list b)) M Q:=FC (oP hz q)
theorem CD (hz:as.length+bs.length<=a0) (q:Q (.d (.tuple (as++bs))) M):D2 K (YU K) (.d (.tuple as)) (.d (.tuple bs)) M Q:=GO λH v u QQ z m t k=>by
 have h:=m;have r:=t;unfold SI DV at m t;obtain⟨a,i,rfl,c,hd⟩:=m;obtain⟨b,n,rfl,f,hd2⟩:=t;refine#[a,b,i,n,rfl,rfl,c.sq,f.sq,by rw[hd.length,hd2.length];exact hz,λe=>?_,λe=>?_,λp hp=>?_]
 . have:as=[]:=by have:=hd.length;rw[e] at this;exact List.length_eq_zero_iff.mp this.symm
   subst this;exact k _ H (.d (.tuple ([]++bs))) M z r Step.refl q
 . have:bs=[]:=by have:=hd2.length;rw[e] at this;exact List.length_eq_zero_iff.mp this.symm
   subst this;rw[a4K] at q;exact k _ H (.d (.tuple as)) M z h Step.refl q
 . have g:Grow K M.W M.W H (upd H p (.tup (i++n))):=AZ _ hp;refine k _ _ (.d (.tuple (as++bs))) M (z.new hp) ?_ #[g] q;unfold SI DV;exact#[p,_,rfl,.inl #[λw=>w (z.none hp),.inl AF],(hd.append hd2).grow g]
theorem YV (hz:z.length<=a0) (q:Q (.d (.str (b1V z e hi))) M):DSl K (wK K) (.d (.str z)) e hi M Q:=λH v QQ t m k=>.inl (oQ hz q H v QQ t m k)
theorem KW (q:Q (.d (.list (F0 ds e hi))) M):DSl K (wK K) (.d (.list ds)) e hi M Q:=λH v QQ z m k=>.inl (jM q H v QQ z m k)
theorem RL (q:Q (.d (.tuple (F0 ds t hi))) M):DSl K (wK K) (.d (.tuple ds)) t hi M Q:=λH v QQ z m k=>.inr (by
 have i:=m;unfold SI DV at m;obtain⟨a,n,rfl,r,hd⟩:=m;have key:DVs K H M.W (F0 ds t hi) (MD n t hi):=by unfold F0 MD;rw[hd.length];exact(hd.drop _).take _
 refine#[a,n,rfl,r.sq,λe=>?_,λp hp=>?_];. refine k _ H (.d (.tuple (F0 ds t hi))) M z ?_ Step.refl q;unfold SI DV;exact#[a,n,rfl,r,by rw[<-e];rw[e] at key;rw[e];exact key]
 . have g:Grow K M.W M.W H (upd H p (.tup (MD n t hi))):=AZ _ hp;refine k _ _ (.d (.tuple (F0 ds t hi))) M (z.new hp) ?_ #[g] q;unfold SI DV;exact#[p,_,rfl,.inl #[λw=>w (z.none hp),.inl AF],key.grow g])
end
theorem jO {X:Cx}{K:Frg}{pos:en}{es:List bp}{k:Nat}{t:TGs}{n:Nat}(hK:X.K=K) (hc:X.calm=au) (h:PGs X es t) (hn:(da es X.env).length=n:=by rfl) (u:(da es X.env).findIdx? (·.1)=none:=by rfl):PG X (.Tuple es k pos) (uS K n t):=hK▸mW hc h hn u
end DL
namespace HT
open PySem PySem.Spec PyProof.Rows
section
theorem cX (n:Nat):a7K am am (-1) (n:Int)=((n:Int) - 1,-1):=rfl
theorem cY (n:Nat):a3X ((n:Int) - 1) (-1) (-1)=n:=by
 unfold a3X;have h1:¬((-1:Int) > 0):=by lia
 simp only[h1,if_false];have e : -(-1:Int)=1:=rfl;rw[e,Int.ediv_one];split <;> lia
theorem OL {n:Nat}(hs:s.heap.IsSliceOf sl .none .none (.int (-1) t)) (h:Q ((n:Int) - 1,-1,n) s):wpAny (model prog w) A (b0V (.ref sl) (pure (n:Int))) Q E s:=by obtain⟨U,Z,u,e⟩:=id hs;unfold b0V Builtin.Slice.sliceFields;refine zZ (zZ (bd Z e (x:=.none) rfl (zZ (bd Z e (x:=.none) rfl (zZ (bd Z e (x:=.int (-1) t) rfl (zY ?_)))))));refine zZ (slicePart_int ?_);show wpAny _ _ (if ((-1:Int)==0)=au then _ else _) _ _ s;rw[if_neg `kh];refine zZ (iq (zZ (iq (zZ (zY ?_)))));show wpAny _ _ (match a7K am am (-1) (n:Int) with | (i,hi)=>pure (i,(-1:Int),a3X i hi (-1))) _ _ s;rw[cX n];show wpAny _ _ (pure ((n:Int) - 1,(-1:Int),a3X ((n:Int) - 1) (-1) (-1))) _ _ s;rw[cY];exact zY h
theorem oZ (xs:Array ap):((a1X xs.size).filterMap λ(m:Nat)=>xs[((xs.size:Int) - 1+(m:Int)*(-1)).toNat]?).toArray=xs.toList.reverse.toArray:=by
 congr 1;apply b2X;intro i;have key:∀k,k<=xs.size->((a1X k).filterMap λ(m:Nat)=>xs[((xs.size:Int) - 1+(m:Int)*(-1)).toNat]?)=xs.toList.reverse.take k:=by
   intro k;induction k with
   | zero=>intro _;simp
   | succ k Q=>
     intro hk;rw[b3J,List.filterMap_append,Q (by lia),a2Q];have j:((xs.size:Int) - 1+(k:Int)*(-1)).toNat=xs.size - 1 - k:=by lia
     have g:xs.toList.reverse[k]?=xs[xs.size - 1 - k]?:=by rw[List.getElem?_reverse (by simp;lia)];simp
     simp only[a4V,List.filterMap_nil,j,g];cases xs[xs.size - 1 - k]? <;> simp
 rw[key xs.size (zR _),b1Q (by simp)]
theorem getItem_tuple_rev (e:IsTup s.heap t items) (hs:s.heap.IsSliceOf sl .none .none (.int (-1) u)) (h:Q (.ref s.heap.objs.size) { s with heap:=s.heap.push { cls:=.type "tuple", data:=.seq items.toList.reverse.toArray } }) (hsz:items.size<=a0):wpAny (model prog w) A (fk (.ref t) (.ref sl)) Q E s:=by
 have z:sizeOk (.seq items.toList.reverse.toArray):=by show items.toList.reverse.toArray.size<=a0;rw[zJ,List.length_reverse,a6Q];exact hsz
 obtain⟨U,Z,n,i⟩:=id hs;have p:s.TypeIs (.ref sl) "slice" := #[U,Z,n]
 unfold fk;try with_reducible refine bt ?_
 first | refine zZ (zY ?_) | skip
 refine zZ (wpAny_sequenceKey e.typeIs `kh ?_);refine zZ (wpAny_callSpecial?_slot (name:=a0Q "__getitem__") e.typeIs a4X (ce a4X e.typeIs jg ?_ (args_tuple_getitem _ _)));show wpAny _ _ (b5X (.ref t) >>= _) _ _ s;refine zZ (tupleItemsOf_ e ?_);refine zZ (ga p ?_);rw[if_pos `kh];refine zZ (OL hs ?_);have M:¬((((items.size:Int) - 1)==0&&(-1:Int)==1&&items.size==items.size)=au):=by intro q;rw[a0V,a0V] at q;exact absurd q.1.2 `kh
 show wpAny _ _ (if ((((items.size:Int) - 1)==0&&(-1:Int)==1&&items.size==items.size)=au) then _ else _) _ _ s;rw[if_neg M,oZ];first
   | exact zZ (m:=a3W _) (xM (zY #[_,rfl,zY h]) z)
   | exact zZ (m:=a3W _) (xM (zZ (zY (zY #[_,rfl,zY h]))) z)
   | exact zZ (zZ (m:=a3W _) (xM (zY (zY #[_,rfl,zY h])) z))
   | exact zZ (zZ (m:=a3W _) (xM (zY #[_,rfl,zY h]) z))
end
end HT
namespace L2
open PySem PySem.Spec PyProof.Rows
section
variable {X:Cx}{e st:bp}{te ts:TE}{pos p2:en}
def A4o (K:Frg):V->Hp->VK->Prop:=λx H Q=>∃a t,x = .ref a/\SqT K H a t/\∀p,H p=am->Q (.ref p) (upd H p (.tup t.reverse))
def A3A (K:Frg) (te ts:TE):TE:=λt H Q=>te t H λx n=>ts t n λk f=>k = .int (-1)/\A4o K x f Q
theorem A3B (he:PE X e te) (N:PE X st ts):PE X (.Subscript e (.Slice am am (ak st) p2) pos) (A3A X.K te ts):=by
 intro pins s n H Q I h;refine Subscript_ (thn (he pins s n H _ I h) λv G Z=>?_);obtain⟨x,g,J,D,S⟩:=Z;refine wpAny_Slice ?_;rw[evalPart_none];refine zY (zY ?_);rw[evalPart_some];refine thn (N pins G n g _ J S) ?_;rintro u t ⟨k,j,y,B,M⟩;obtain⟨rfl,a,f,rfl,hx,q⟩:=M;obtain⟨m,rfl⟩:=B;cases D;have T:Inv X pins n j { t with heap:=t.heap.push { cls:=.type "slice", data:=.fields (y9 [.none,.none,.int (-1) m]) } }:=y.kept (t':=t.toks) λb O q=>zW _ q;obtain⟨i,r,p,c⟩:=T.tuple hx;have z:i.toArray.size=f.length:=by rw[zJ];exact r.length.symm
 show wpAny (model X.prog X.w) X.A (subscriptTail e (.Slice am am (ak st) p2) (.ref a) (.ref t.heap.objs.size)) (EP X pins n Q) X.xe { t with heap:=t.heap.push { cls:=.type "slice", data:=.fields (y9 [.none,.none,.int (-1) m]) } };refine tail_any (ops:=[.ref a,.ref t.heap.objs.size]) p.typeIs PyProof.Rows.slot_tuple_getitem.lookup ?_ (by with_unfolding_all rfl);refine HT.getItem_tuple_rev p (Heap.IsSliceOf.new ..) ?_ (by rw[z];exact c);refine#[.ref _,_,T.laid (t':=t.toks) (o:=.tup f.reverse) (λb O q=>zW _ q) (zR _) ?_,rfl,q _ (T.hok.fresh (zR _))];refine#[by rw[List.length_reverse];exact c,i.reverse,r.reverse,?_];have:=IsTup.new { t with heap:=t.heap.push { cls:=.type "slice", data:=.fields (y9 [.none,.none,.int (-1) m]) } }.heap i.reverse.toArray;exact this
end
end L2
namespace DL
open PySem PySem.Spec L2
theorem A5b {X:Cx}{K:Frg}{e st:bp}{t ts:TE}{pos T:en}(h:X.K=K) (he:PE X e t) (u:PE X st ts):PE X (.Subscript e (.Slice am am (ak st) T) pos) (A3A K t ts):=h▸A3B he u
section
theorem DVs.reverse :∀{ds:List PyData}{vs:List V},DVs K H W ds vs->DVs K H W ds.reverse vs.reverse
 | [],vs,h=>by unfold DVs at h;subst h;exact DVs.nil
 | d::ds,vs,h=>by unfold DVs at h;obtain⟨v,r,rfl,h1,n⟩:=h;rw[b9Q,b9Q];exact(DVs.reverse n).append (DVs.cons h1 DVs.nil)
theorem p6 (h:DE K te ρ M λx M1=>∃ds,x = .d (.tuple ds)/\DE K ts ρ M1 λk e=>k = .d (.int (-1))/\Q (.d (.tuple ds.reverse)) e):DE K (A3A K te ts) ρ M Q:=λb H QQ R k=>
 h b H _ R λv c x M1 S T n h1=>by obtain⟨ds,rfl,h1⟩:=h1;refine h1 b c _ (R.step S n) λu f y e i N r j=>?_;obtain⟨rfl,q⟩:=j;have t:=T.step r;unfold SI DV at t;obtain⟨a,m,rfl,z,hd⟩:=t;refine#[E9 N,a,m,rfl,z.sq,λp hp=>?_];have g:Grow K e.W e.W f (upd f p (.tup m.reverse)):=AZ _ hp;refine k _ _ (.d (.tuple ds.reverse)) e (i.new hp) ?_ ((n.trans r).trans #[g]) q;unfold SI DV;exact#[p,_,rfl,.inl #[λw=>w (i.none hp),.inl AF],(DVs.reverse hd).grow g]
end
end DL
namespace DL
open PySem PySem.Spec L2
def fn1 (pre:PyData->Prop) (f:PyData->PyData):FSp:=#[λt _=>∃d,t=[.d d]/\pre d,λt M y i=>∀d,t=[.d d]->y = .d (f d)/\i=M]
theorem DC {Q:DS->Own->Prop}(p:pre d) (q:Q (.d (f d)) M):[DS.d d].length=1/\(fn1 pre f).pre [.d d] M/\∀x i,(fn1 pre f).post [.d d] M x i->Q x i:=#[rfl,#[d,rfl,p],λx i h=>by obtain⟨rfl,rfl⟩:=h d rfl;exact q]
def JC (c:Nat):Bool:=decide (97<=c)&&decide (c<=122)
def OM:PyData->Bool | .int _=>au | _=>aB
def D3:PyData->Bool | .str z=>decide (1<=z.cps.size)&&decide (z.cps.size<=8)&&z.cps.toList.all JC | _=>aB
def MG:PyData->Bool | .int i=>decide (0<=i)&&decide (i<=999) | _=>aB
def okS (z:Str):Prop:=z.cps.size<=5000/\∀c∈z.cps.toList,c < 128
def okD:PyData->Prop | .str z=>okS z | _=>True
def MH:FSp:=fn1 (λ_=>True) λd=>.bool (OM d)
def UX:FSp:=fn1 okD λd=>.bool (D3 d)
def RM:FSp:=fn1 (λ_=>True) λd=>.bool (MG d)
def ND (d:PyData) (e hi:Int):Bool:=match d with | .int i=>decide (e<=i)&&decide (i<=hi) | _=>aB
def GF:FSp:=#[λt _=>∃(d:PyData) (e hi:Int),t=[.d d,.d (.int e),.d (.int hi)],λt M y i=>∀(d:PyData) (e hi:Int),t=[.d d,.d (.int e),.d (.int hi)]->y = .d (.bool (ND d e hi))/\i=M]
theorem YW {Q:DS->Own->Prop}(q:Q (.d (.bool (ND d e hi))) M):[DS.d d,.d (.int e),.d (.int hi)].length=3/\GF.pre [.d d,.d (.int e),.d (.int hi)] M/\∀x i,GF.post [.d d,.d (.int e),.d (.int hi)] M x i->Q x i:=#[rfl,#[d,e,hi,rfl],λx i h=>by obtain⟨rfl,rfl⟩:=h d e hi rfl;exact q]
theorem WJ (d:PyData):ND d 0 999=MG d:=by cases d <;> rfl
theorem cZ:∀c:Nat,c < 128->(!(a4Z (a0Q "abcdefghijklmnopqrstuvwxyz") #[(y9 [c])] 0 (a0Q "abcdefghijklmnopqrstuvwxyz").length 1).isEmpty)=JC c:=by decide +kernel
def wL:PyData->Bool | .str z=>z.cps.toList.all JC | _=>aB
theorem jP (z:Str):((DB z).filter λ_=>au).map (λd=>PyData.bool (wL d))=(z.cps.toList.map JC).map .bool:=by rw[List.filter_eq_self.mpr (by simp)];unfold DB;rw[zD,zD];apply yM;intro c hc;simp[wL]
theorem d0 (l:List Nat) (f:Nat->Bool):(l.map f).all id=l.all f:=by simp
section
theorem IG (P:List (Option DS)->Own->Prop) (h:DSt K t ρ M { D with nx:=P }) (n:∀B M1,P B M1->DSt K u B M1 D):DSt K (mS t u) ρ M D:=
 nY (vQ h (λI i p=>n I i p) (λ_ _ q=>q) (λ_ _ q=>q) (λ_ _ q=>q))
end
def D4 (z:Str):Prop:=1<=z.cps.size/\z.cps.size<=8/\∀c∈z.cps.toList,JC c=au
theorem p64:(2:Int) ^ 64=18446744073709551616:=by decide
theorem WK (h1 : -1000000000000000 < i) (n:i < 1000000000000000):CMul i j:=by refine .inl #[?_,?_] <;> rw[p64] <;> lia
theorem p7 (h1 : -1000000000000000 < j) (n:j < 1000000000000000):CMul i j:=by refine .inr #[?_,?_] <;> rw[p64] <;> lia
theorem A5c {Q:List PyData->Prop}(e:U0 xs=ak ds) (h:ds.length<=a0) (q:Q ds):∃ds,U0 xs=ak ds/\ds.length<=a0/\Q ds:=#[ds,e,h,q]
theorem wN {x:Str}(h:x.cps.toList=y.cps.toList):x=y:=by obtain⟨⟨a⟩⟩:=x;obtain⟨⟨b⟩⟩:=y;simp at h;subst h;rfl
theorem RN:∀(cs:List Nat) (acc:Array Nat),((cs.map λc=>(#[(y9 [c])]:Str)).foldl (λacc p=>acc++(a0Q "").cps++p.cps) acc)=acc++cs.toArray
 | [],acc=>by simp
 | c::cs,acc=>by
   rw[zI,b3W,RN cs];have e:(a0Q "").cps=#[]:=by decide +kernel
   rw[e];apply Array.ext';simp
theorem dA (cs:List Nat):Txt.join (a0Q "") (cs.map λc=>(#[(y9 [c])]:Str))=#[cs.toArray]:=by
 unfold Txt.join Builtin.Str.glued;cases cs with
 | nil=>rfl
 | cons c cs=> simp only[zI,List.drop_succ_cons,List.drop_zero,List.headD_cons];rw[RN];congr 1;apply Array.ext';simp
theorem p9 (n len:Nat):Builtin.Str.strSliceIndices am (ak (n:Int)) 1 len=a1X (min n len):=by
 unfold Builtin.Str.strSliceIndices sliceRange;have h1:¬((n:Int) < 0):=by lia
 have e:max 0 (min (n:Int) (len:Int))=((min n len:Nat):Int):=by lia
 simp only[show(1:Int) > 0 by decide,if_true,h1,if_false,e];have G:(if (0:Int) < ((min n len:Nat):Int) then (((min n len:Nat):Int) - 0+1 - 1)/1 else 0).toNat=min n len:=by
   split;. rw[Int.ediv_one];lia
   . lia
 rw[G];apply b2X;intro i;rw[zF];by_cases h:i < min n len;. simp[xZ h]
 . simp[a6K (show(a1X (min n len)).length<=i by simp;lia)]
theorem jQ (l:List Nat) (a:Array Nat) (m:Nat) (h:a.toList=l):(a1X m).filterMap (λi=>a[i]?)=l.take m:=by
 induction m with
 | zero=>simp
 | succ m Q=>
   rw[b3J,List.filterMap_append,Q,a2Q];have e:a[m]?=l[m]?:=by rw[<-h];simp
   simp only[a4V,List.filterMap_nil,e];cases l[m]? <;> simp
theorem dB (z:Str) (n:Nat):(b1V z am (ak (n:Int))).cps.toList=z.cps.toList.take n:=by
 unfold b1V;rw[p9];have r:z.length=z.cps.toList.length:=by simp[Str.length]
 split;. rename_i h;simp only[xY,beq_self_eq_true,b6Q,beq_iff_eq] at h;rw[b1Q (by rw[<-r];lia)]
 . show(List.filterMap _ _).toArray.toList=_;rw[jQ z.cps.toList z.cps _ rfl,List.toList_toArray,r,List.take_eq_take_iff];lia
theorem U1 (x y:Str):(x++y).cps.toList=x.cps.toList++y.cps.toList:=by show(x.cps++y.cps).toList=_;simp
theorem PV:(a0Q "abcdefghijklmnopqrstuvwxyz").length=26:=by decide +kernel
theorem UY:∀cs:List Nat,((cs.map λc=>(#[(y9 [c])]:Str)).map (·.length)).sum=cs.length
 | []=>rfl
 | c::cs=>by rw[zI,zI,b0J,UY cs];show 1+cs.length=cs.length+1;lia
theorem flt (l:List PyData):l.filter (λ_=>au)=l:=List.filter_eq_self.mpr (by simp)
theorem jR (z:Str) (l u:Option Int) (h:z.length<=n):(b1V z l u).length<=n:=zN (Txt.slice_le z l u) h
theorem pA (h:JC c=au):c < 128:=by unfold JC at h;simp at h;lia
theorem UZ (s:Str):D3 (.str s)=(decide (1<=s.cps.size)&&decide (s.cps.size<=8)&&s.cps.toList.all JC):=rfl
theorem V0 (s:Str):s.cps.size=s.cps.toList.length:=by simp
theorem pB (h:D4 z):okD (.str z):=#[by have:=h.2.1;lia,λc hc=>pA (h.2.2 c hc)]
end DL
namespace DL
open PySem PySem.Spec L2
def sl (a b:Str):Bool:=b3Z a.cps.toList b.cps.toList
theorem V1:∀a:List Nat,b3Z a a=aB
 | []=>rfl
 | a::r=>by simp[b3Z,V1 r]
theorem YX:∀a b c:List Nat,b3Z a b=au->b3Z b c=au->b3Z a c=au
 | [],[],_,h,_=>by cases h
 | [],_::_,[],_,h=>by cases h
 | [],_::_,_::_,_,_=>rfl
 | _::_,[],_,h,_=>by cases h
 | _::_,_::_,[],_,h=>by cases h
 | a::r,b::t,c::u,h1,n=>by
   simp only[b3Z,Bool.or_eq_true,decide_eq_true_eq,a0V,beq_iff_eq] at h1 n ⊢;rcases h1 with h1 | ⟨rfl,h1⟩
   . rcases n with n | ⟨rfl,n⟩
     . exact .inl (xQ h1 n)
     . exact .inl h1
   . rcases n with n | ⟨rfl,n⟩
     . exact .inl n
     . exact .inr #[rfl,YX r t u h1 n]
theorem YY:∀a b:List Nat,b3Z a b=aB->b3Z b a=aB->a=b
 | [],[],_,_=>rfl
 | [],_::_,h,_=>by cases h
 | _::_,[],_,h=>by cases h
 | a::r,b::t,h1,n=>by
   simp only[b3Z,Bool.or_eq_false_iff,decide_eq_false_iff_not,Bool.and_eq_false_iff] at h1 n;have e:a=b:=by lia
   subst e;simp at h1 n;rw[YY r t h1 n]
theorem V2 (a:Str):sl a a=false:=V1 _
theorem NE (h1:sl a b=au) (n:sl b c=au):sl a c=true:=YX _ _ _ h1 n
theorem FE (h1:sl a b=aB) (n:sl b a=aB):a=b:=wN (YY _ _ h1 n)
theorem RO (h:sl a b=au):sl b a=false:=by
 cases e:sl b a with
 | false=>rfl
 | true=>have:=NE h e;rw[V2] at this;cases this
theorem A4p (a b:Str):decide (a.cps.toList < b.cps.toList)=sl a b:=PyProof.Rows.lt_meets a b
def Ris (ss:List Str):Prop:=ss.Pairwise λa b=>sl a b=au
theorem V3:∀ss:List Str,xG ss=au->ss.Pairwise λa b=>sl b a=aB
 | [],_=>.nil
 | a::r,h=>by
   have key:∀(r:List Str) (p:Str),PyProof.Rows.risingS p r=au->(p::r).Pairwise λa b=>sl b a=false:=by
     intro r;induction r with
     | nil=>intro p _;simp
     | cons x r Q=>
       intro p h;unfold PyProof.Rows.risingS at h;simp only[a0V,b2Z] at h;have n:=Q x h.2;refine List.pairwise_cons.mpr #[λc hc=>?_,n];have hx:sl x p=false:=h.1;rcases yX.mp hc with rfl | hc;. exact hx
       . have t:sl c x=false:=(List.pairwise_cons.mp n).1 c hc;cases e:sl c p with
         | false=>rfl
         | true=>
           cases g:sl x c with
           | true=>have:=NE g e;rw[hx] at this;cases this
           | false=>have:=FE t g;subst this;rw[hx] at e;cases e
   exact key r a h
theorem dC (h:xG ss=au) (nd:ss.Nodup):Ris ss:=by
 unfold Ris;have h1:=V3 ss h;refine(List.Pairwise.and h1 nd).imp λ{a b} Z=>?_;obtain⟨x,y⟩:=Z;cases e:sl a b with
 | true=>rfl
 | false=>exact absurd (FE e x) y
theorem Ris.nodup (h:Ris ss):ss.Nodup:=h.imp λ{a b} q=>by rintro rfl;rw[V2] at q;cases q
theorem CU (h1:d.canLay0=au) (n:d.depth<=64):zH d=true:=by unfold zH;rw[h1,decide_eq_true n];rfl
theorem IH (h:∀d∈ds,d.canLay0=au):b8K ds=true:=by
 induction ds with
 | nil=>rfl
 | cons d r Q=>rw[b8K,h d a0J,Q λx hx=>h x (yV _ hx)];rfl
theorem JV (h:∀d∈ds,d.depth<=n):a2X ds<=n:=by
 induction ds with
 | nil=>simp[a2X]
 | cons d r Q=> have h1:=h d a0J;have e:=Q λx hx=>h x (yV _ hx);simp only[a2X];lia
theorem CO (h:D4 z):c0J z=true:=by unfold c0J;rw[Array.all_eq_true'];intro c hc;have:=pA (h.2.2 c (by simpa using hc));simp;lia
end DL
namespace DL
open PySem PySem.Spec L2
theorem sIx_nat (n d k:Nat):HT.sIx n d (ak (k:Int))=min k n:=HT.sIx_nat n d k
theorem pC (xs:List PyData) (k:Nat):F0 xs (ak (k:Int)) am=xs.drop k:=by
 unfold F0;rw[sIx_nat];show(xs.drop (min k xs.length)).take (xs.length - min k xs.length)=_;rw[b1Q (by rw[b5J];lia)];by_cases h:k<=xs.length;. rw[Nat.min_eq_left h]
 . rw[Nat.min_eq_right (by lia),b4V (zR _),b4V (by lia)]
theorem dD (xs:List PyData) (k:Nat):F0 xs am (ak (k:Int))=xs.take k:=by unfold F0;rw[sIx_nat];show(xs.drop 0).take (min k xs.length - 0)=_;rw[List.drop_zero,Nat.sub_zero,List.take_eq_take_iff];lia
theorem WL (xs:List PyData) (a b:Nat):F0 xs (ak (a:Int)) (ak (b:Int))=(xs.take b).drop a:=by
 unfold F0;rw[sIx_nat,sIx_nat,List.drop_take];by_cases h:a<=xs.length;. rw[Nat.min_eq_left h,List.take_eq_take_iff,b5J];lia
 . rw[b4V (show xs.length<=min a xs.length by lia),b4V (show xs.length<=a by lia)];simp
def fn2 (pre:PyData->PyData->Prop) (f:PyData->PyData->PyData):FSp:=#[λt _=>∃a b,t=[.d a,.d b]/\pre a b,λt M y i=>∀a b,t=[.d a,.d b]->y = .d (f a b)/\i=M]
theorem pG {Q:DS->Own->Prop}(p:pre a b) (q:Q (.d (f a b)) M):[DS.d a,.d b].length=2/\(fn2 pre f).pre [.d a,.d b] M/\∀x i,(fn2 pre f).post [.d a,.d b] M x i->Q x i:=#[rfl,#[a,b,rfl,p],λx i h=>by obtain⟨rfl,rfl⟩:=h a b rfl;exact q]
def A5d:PyData->PyData | .tuple (a::_)=>a | d=>d
def YZ:PyData->Str | .str z=>z | _=>#[#[]]
def nm0 (d:PyData):Str:=YZ (A5d d)
abbrev Th:=Str×Int×Int
def thD (t:Th):PyData:=.tuple [.str t.1,.int t.2.1,.int t.2.2]
def wD (w:List Th):PyData:=.tuple (w.map thD)
def A4q (w:List Th):Prop:=Ris (w.map (·.1))/\∀t∈w,D4 t.1/\0<=t.2.1/\t.2.1<=999/\-1000000000000<=t.2.2/\t.2.2<=1000000000000
theorem V4 (h:D3 d=au):∃z,d = .str z/\D4 z:=by
 cases d with
 | str z=> rw[UZ] at h;simp only[a0V,decide_eq_true_eq,a9X] at h;exact#[z,rfl,h.1.1,h.1.2,h.2]
 | _=>cases h
theorem pH (h:D4 z):D3 (.str z)=true:=by rw[UZ,decide_eq_true h.1,decide_eq_true h.2.1,List.all_eq_true.mpr h.2.2];rfl
theorem wP (w:List Th):(w.map thD).map nm0=w.map (·.1):=by rw[zD];rfl
end DL
namespace DL
open PySem PySem.Spec L2
section
theorem B7 (ho:JU g T) (hT:∀i∈T,∀j,u[i]?≠ak (ak j)) (h:DI K wi ρ M λds M1=>ds.length < a0/\∃(c:PyData->Bool) (f:PyData->PyData),(∀d∈ds,∀A acc e,M1 A=am->e=M1.put A (.l acc)->DG K g d (GC u ρ) e λr m=>m=e/\DT K L r m λb B=>B=e/\b=c d/\(c d=au->DE K D r B λy O=>y = .d (f d)/\O=e))/\Q (.d (.list ((ds.filter c).map f))) M1) :
   DE K (PR u wi g L D) ρ M Q:=by
 refine gD ho hT λx H R Rl k=>h x H R Rl λJ ds X M1 o1 t1 wd q=>k J ds X M1 o1 t1 wd ?_;obtain⟨hsz,c,f,he,q⟩:=q;refine#[hsz,λA hA=>#[λk acc e=>acc=((ds.take k).filter c).map f/\e=M1.put A (.l acc),#[by simp,rfl],λk acc e #[n,t]=>#[by rw[t];exact zU,?_],λk d acc e hd #[n,t]=>?_,λacc e #[n,t]=>?_]];. rw[n,zX];exact zN (yJ _ _) (by rw[a0K];lia)
 . have hm:d∈ds:=yN hd;intro x H v QQ R dv kk;refine he d hm A acc e hA t x H v QQ R dv λI m z H' R' st dr=>kk I m z H' R' st λN Y QQ2 R2 k2=>?_;obtain⟨eM,q2⟩:=dr;refine q2 N Y QQ2 R2 λb Z B o3 fq sk=>k2 b Z B o3 fq ?_;obtain⟨U,p,q3⟩:=sk;have G:(ds.take (k+1)).filter c=(ds.take k).filter c++(if c d then [d] else []):=hY c ds k d hd;cases hb:c d with
   | false=> rw[hb] at p;subst p;refine L2.nP #[?_,by rw[U,t]];rw[G,hb,n];simp
   | true=>
     rw[hb] at p;subst p;refine L2.jK ?_;refine WE (q3 hb) λy O #[ey,S]=>#[f d,ey,by rw[S,t];exact zU,?_,by rw[S,t,yI]]
     rw[G,hb,n];simp
 . rw[t,yG hA,n,a1Q];exact q
end
theorem JW {as:List Str}(h:as.map a0Z=bs.map a0Z):as=bs:=by have:=congrArg (List.map YZ) h;rw[zD,zD] at this;simpa [show(YZ∘a0Z)=id from rfl] using this
theorem dE (h:DE K n N M λx M1=>∃d,x = .d d/\DG K g d N M1 D.nx):DSt K (uT n g) N M D:=λi H E R m _ _ _=>
 h i H _ R λv H' x j a b c q=>by obtain⟨d,rfl,q⟩:=q;exact q i H' v _ (R.step a c) b λe k t f R2 r p=>m e k t f R2 (c.trans r) p
theorem pI {X:Cx}:MtR X "list.append" W6:=OF
end DL
namespace L2
open PySem PySem.Spec PyProof.Rows
def EntS (w:bj):List DictEntry->List (Str×Str)->Prop
 | [],[]=>True
 | e::O,kv::r=>e.hash=hashStr w kv.1/\(∃t,e.key = .str kv.1 t)/\(∃t,e.val = .str kv.2 t)/\EntS w O r
 | _,_=>False
def GDict (w:bj) (K:Frg) (a:Addr) (kvs:List (Str×Str)):Prop:=(a==c0)=aB/\(kvs.map (·.1)).Nodup/\∃O e,K.lookup a=ak { cls:=.type "dict", data:=.dict O e }/\EntS w O.toList kvs
theorem EntS.pairs :∀{es:List DictEntry}{kvs:List (Str×Str)},EntS w es kvs->∃vs:List (Key×ap),Pairs (AV P w) es vs/\KV (kvs.map λkv=>((a1W kv.1:Key),V.str kv.2)) vs/\vs.map (·.1)=kvs.map (λkv=>(a1W kv.1:Key))/\∀e∈es,∃k,(AV P w).is k e.key=au/\e.hash=(AV P w).hash k
 | [],[],_=>#[[],.nil,.nil,rfl,by simp]
 | e::es,kv::r,#[h1,#[t,n],#[X,G],i]=>by
   obtain⟨vs,a,b,c,d⟩:=EntS.pairs (P:=P) i;have hk:(AV P w).is (a1W kv.1) e.key=true:=by rw[n];exact PP P w kv.1 t
   refine#[(a1W kv.1,e.val)::vs,.cons hk rfl a,.cons #[rfl,#[X,G]] b,by rw[zI,zI,c],λx hx=>?_];rcases yX.mp hx with rfl | hx;. exact#[_,hk,h1]
   . exact d x hx
section
variable {X:Cx}{pins:List (Addr×cy)}{σ:St}{H:Hp}{s:av}
theorem GDict.at (g:GDict X.w X.K a kvs) (I:Inv X pins σ H s):∃vs,KV (kvs.map λkv=>((a1W kv.1:Key),V.str kv.2)) vs/\s.heap.DictOf (AV X.prog X.w) a vs:=by
 obtain⟨_,nd,O,t,hk,he⟩:=g;obtain⟨vs,n,T,S,k⟩:=he.pairs (P:=X.prog);refine#[vs,T,_,O,t,I.kIn a _ hk,#[rfl,rfl,rfl],rfl,λe he=>k e (by simpa using he),n,?_];rw[S];have:kvs.map (λkv=>(a1W kv.1:Key))=(kvs.map (·.1)).map a1W:=by rw[zD];rfl
 rw[this];unfold List.Nodup;rw[b0Q];exact nd.imp λ{a b} q e=>q (by injection e)
def A1Q (kvs:List (Str×Str)) (ty:TE):TE:=λσ H Q=>ty σ H λy e=>∃k:Str,y = .str k/\Q (((kvs.lookup k).map V.str).getD .non) e
theorem Z0 (kvs:List (Str×Str)) (k:Str):G5 (kvs.map λkv=>((a1W kv.1:Key),V.str kv.2)) (a1W k)=(kvs.lookup k).map V.str:=by
 induction kvs with
 | nil=>rfl
 | cons kv r Q=>
   obtain⟨a,b⟩:=kv;unfold G5 at Q ⊢;rw[zI,b1W,a3V];by_cases h:a=k;. subst h;simp
   . have h1:decide ((a1W a:Key)=a1W k)=false:=decide_eq_false λe=>h (by injection e);have n:(k==a)=false:=by simpa using λe=>h e.symm
     simp only[h1,n];exact Q
theorem wR {x:Str}{p apos i:en}{e:bp}{ty:TE}{kvs:List (Str×Str)}(hg:Gl X x) (t:∃a,X.mg x=ak (.ref a)/\GDict X.w X.K a kvs) (he:PE X e ty) (m:M1 X (.Name x p) "get" apos e i) (hd:(x==("__debug__":Str))=false:=by decide) :
   PE X (.Call (.Attribute (.Name x p) "get" apos) [e] [] i) (A1Q kvs ty):=by
 obtain⟨a,t,g⟩:=t;intro pins s σ H Q I h;refine wpAny_Call_method m.base m.few m.line PySem.F.plainAttrs_dict PySem.F.slot_dict_get PySem.F.type_dict_get (G7 I hg t ?_ hd);obtain⟨M,rel,r⟩:=g.at I;refine#[r.typeIs,λb q=>?_,?_];. cases q;obtain⟨z,_,_,h1,v,_⟩:=r;exact#[z,h1,v.2.1]
 rw[m.trees];refine b9V rfl (Calls.evalArgs_plain (Calls.spliced_cons (thn (he pins s σ H _ I h) λO S Z=>Calls.spliced_nil ?_)));obtain⟨y,f,n,N,k,j,T⟩:=Z;subst j;obtain⟨D,c,u⟩:=g.at n;refine call_meetsIn PySem.F.slot_dict_get u.typeIs PySem.F.entry_dict_get (PySem.F.args_dict_get_2 _ _) (meets_dict_get (AV X.prog X.w) a (LO (k:=a1W k) N) g.1) #[_,u.mapOf,?_];refine#[_,f,n.tok _,?_,T];have:=(c.val (a1W k)).getD (show RelV .non .none from rfl);rw[Z0] at this;exact this
end
end L2
namespace DL
open PySem PySem.Spec L2
section
def jS:Option Str->PyData | some z=>.str z | none=>.none
theorem wS (h:DE K ty ρ M λy M1=>∃k,y = .d (.str k)/\Q (.d (jS (kvs.lookup k))) M1):DE K (A1Q kvs ty) ρ M Q:=λi H QQ R k=>
 h i H _ R λv t x M1 S m n h1=>by
   obtain⟨z,rfl,q⟩:=h1;refine#[z,BC m,?_];cases e:kvs.lookup z with
   | none=>rw[e] at q;exact k _ t (.d .none) M1 S (by unfold SI DV;rfl) n q
   | some y=>rw[e] at q;exact k _ t (.d (.str y)) M1 S HB n q
theorem gI (hg:Gl X x) (q:X.mg x=ak (.ref a)) (hd:(x==("__debug__":Str))=false:=by decide):PE X (.Name x pos) (tC (.ref a)):=VU hg q rfl hd
theorem pJ {neg:Bool}{ys:List Str}(q:Q (.d (.bool (if neg then !decide (x∈ys) else decide (x∈ys)))) M):D2 K (rIn K neg) (.d (.str x)) (.d (.tuple (ys.map .str))) M Q:=λH v u QQ z m t k=>by rw[BC m];unfold SI DV at t;obtain⟨a,n,rfl,r,hd⟩:=t;have e:=H0 hd;subst e;exact#[a,_,rfl,.inr r.sq,rfl,by simp[LN],k _ H (.d (.bool (if neg then !decide (x∈ys) else decide (x∈ys)))) M z (by rw[YQ];exact AK) Step.refl q]
theorem gJ {ys:List Str}(q:Q (.d (.bool (decide (x∈ys)))) M):D2 K (oH K) (.d (.str x)) (.d (.tuple (ys.map .str))) M Q:=GO (pJ (neg:=aB) q)
theorem NF {ys:List Str}(q:Q (.d (.bool (!decide (x∈ys)))) M):D2 K (WF K) (.d (.str x)) (.d (.tuple (ys.map .str))) M Q:=GO (pJ (neg:=au) q)
end
end DL
namespace L2
open PySem PySem.Spec PyProof.Rows
section
def WM:V->List V->Hp->VK->Prop:=λv e H Q=>∃x y,v = .str x/\e=[.str y]/\Q (.bl (Txt.startswith x y)) H
theorem jT:MtR X "str.startswith" WM:=by intro pins s m H x r v i Q I e S h;obtain⟨y,z,rfl,rfl,q⟩:=h;obtain⟨t,rfl⟩:=e;obtain⟨u,rfl,n,rfl⟩:=JB S;exact SC.startswith #[.bl _,H,I,rfl,q]
def A4r (z:Str) (n:Int):Str:=if (n==1||z.length==0)=au then z else #[(b3Q n.toNat z.cps).foldl (·++·) #[]]
def pK:R2:=λx y H Q=>(rI (λi j=>IntMulOk i j) λi j=>.int (i*j)) x y H Q\/∃z n,x = .str z/\y = .int n/\1<=n/\n<=8/\z.length<=1000/\Q (.str (A4r z n)) H
theorem Z1 (a:Array Nat):∀(n:Nat) (b:Array Nat),(List.foldl (λN t=>N++t) b (b3Q n a)).size=b.size+n*a.size
 | 0,b=>by simp
 | n+1,b=>by rw[List.replicate_succ,b3W,Z1 a n,Array.size_append,Nat.succ_mul];lia
theorem wU:OpR X (ea .Mult) pK:=by
 intro pins s f H x y v u Q I p b h;rcases h with h | ⟨z,n,rfl,rfl,h1,m,G,q⟩
 . exact(opI (C:=λi j=>IntMulOk i j) λ_ _ _ _ _ _ _ hc q=>mul_int q hc) pins s f H x y v u Q I p b h
 . obtain⟨t,rfl⟩:=p;obtain⟨k,rfl⟩:=b;have hp:(2:Int) ^ 63=9223372036854775808:=by decide
   refine P.mul_str ?_ (λ_ _=>?_) (λ_ _=>?_) ?_;. rw[decide_eq_false (Int.not_lt.mpr (Int.le_trans `kh h1)),decide_eq_false (Int.not_le.mpr (Int.lt_of_le_of_lt m `kh))];rfl
   . rw[hp];have Z:(1000:Int)<=(9223372036854775808 - 1)/n:=Int.le_ediv_of_mul_le (Int.lt_of_lt_of_le `kh h1) (Int.le_trans (Int.mul_le_mul_of_nonneg_left m `kh) `kh);exact λhc=>absurd (Int.lt_of_le_of_lt Z hc) (Int.not_lt.mpr (Int.ofNat_le.mpr G))
   . have r:z.length*n.toNat<=1000*1000:=Nat.mul_le_mul G (by lia);unfold Builtin.Str.tooLong;rw[decide_eq_false];exact λhc=>absurd (zP hc r) `kh
   . rw[if_neg (by lia)];have g:=q;unfold A4r at g;split;. rename_i e;rw[if_pos e] at g;exact#[.str z,H,I,#[_,rfl],g]
     . rename_i e;rw[if_neg e] at g;refine#[?_,#[.str _,H,I.tok _,#[_,rfl],g]];show(List.foldl (λN c=>N++c) #[] (b3Q n.toNat z.cps)).size<=a0;rw[Z1];have r:(#[]:Array Nat).size+n.toNat*z.cps.size<=8*1000:=by rw[show(#[]:Array Nat).size=0 from rfl,Nat.zero_add];exact Nat.mul_le_mul (by lia) G
       exact zN r `kh
end
end L2
namespace DL
open PySem PySem.Spec L2
section
variable {X:Cx}{K:Frg}
theorem Z2 (_:X.K=K):MtR X "str.startswith" WM:=jT
theorem pM (_:X.K=K):OpR X (ea .Mult) pK:=wU
end
section
theorem jU (q:Q (.d (.bool (Txt.startswith x y))) M):DM K WM (.d (.str x)) [.d (.str y)] M Q:=λH v t QQ z m e k=>by obtain⟨u,r,rfl,h1,n⟩:=e;cases n;rw[BC m,BC h1];exact#[x,y,rfl,rfl,k _ H _ M z AK Step.refl q]
theorem pN (c:IntMulOk i j) (q:Q (.d (.int (i*j))) M):D2 K pK (.d (.int i)) (.d (.int j)) M Q:=λH v u QQ z m e k=>by rw[E9 m,E9 e];exact .inl #[i,j,rfl,rfl,c,k _ H _ M z EA Step.refl q]
end
end DL
namespace L2
open PySem PySem.Spec PyProof.Rows PySem.W
theorem WN {ns:List Int}(h:WData.layableAll [WData.list (ns.map WData.int)]=au):∀i∈ns,xJ i<=2 ^ 20:=by
 have h1:WData.weightAll (ns.map WData.int)<=2 ^ 20:=by
   have I:WData.layable (WData.list (ns.map WData.int))=true:=by unfold WData.layableAll at h;simpa using h
   unfold WData.layable at I;rw[a0V] at I;exact of_decide_eq_true I.2
 intro i hi;refine zN ?_ h1;clear h h1;induction ns with
 | nil=>cases hi
 | cons n r Q=>
   rw[zI];show _<=WData.weight (.int n)+1+WData.weightAll (r.map WData.int);rcases yX.mp hi with rfl | hi;. have:WData.weight (.int i)=xJ i:=rfl;lia
   . have:=Q hi;lia
theorem pO {l:PySem.W.OpenLaw}{n k:Nat}{q:bn}{loose:List Str}{XP:(Str->Option ap)->cc->Prop}{YP:bj->cc->Prop}{d:DefRec}{K:e5->Frg}{CX:bj->CXT}{sp:bj->Sp}{x:Str} (hn:l.most=ak n) (S:n<=a0) (O:d.params.defaults=[]) (hr:Room k callerA) (L:∀(w:bj) (h:cc),YP w h->(K w.params).In h) (F:∀(w:bj) (mg:Str->Option ap) (t:Addr) (h:cc),(K w.params).In h->h.Ns bc mg->mg d.name=ak (.ref t) ->∃m:dl,(∀(s:av) (u:ap),BindsTo s m #[[u],[]] [(x,u)]) /\∀base:cc,(K w.params).In base->base.Ns bc mg->FnOk l.prog w (K w.params) mg base (CX w) k t m [x] (sp w)) (U:∀(w:bj) (H:Hp) (a:Addr) (ns:List Int),ns.length<=n->(∀i∈ns,xJ i<=2 ^ 20)->A2S H->SqL (K w.params) H a (ns.map V.int)->sp w [.ref a] H (λv _=>v = .bl au) λ_ _ _=>False) (N:∀(w:bj) (H:Hp) (s:av) (e:ap) (s':av),CX w [] H s (λ_ _ _=>False) e s'->False) :
   PySem.W.WalkO q loose XP YP l.row.toRowW d [] (λf vs=>PySem.call f vs):=by
 intro w c y mg mb G Y t o pm cd doc M kV ho hd ii hD X hg args vals as Z I O' D Pa;have B:M = .none:=Dflts.none hD O;subst B;have J:kV = .none:=Dflts.noKw hD;subst J;obtain⟨a,vs,ns,rfl,rfl,z,j,p⟩:=Att.script_of hn Z D;have ww:=WN I;refine enter_call (xN (R:=λr s'=>r = .ok (.ret (.bool au))/\OldK y.heap s'.heap/\s'.os=y.os/\g5 s'.gens) ?_ λr s' hq=>?_);. have KX:=L w _ Y;obtain⟨m,hb,hF⟩:=F w mg t _ KX G.T.g X;exact nO KX G.T.g G.T.b G.T.builtins G.T.nolimit hg z j (zN p S) hr hF hb (λH hO hS=>U w H a ns p ww hO hS) λH e s'=>N w H y e s'
 . have h1:=hq.1;subst h1;exact#[.inl #[.bool au,.bool au,[],rfl,λ_=>rfl,.bool au,Att.post_true l _,λ_=>#[a8X,λ_ Q=>(nomatch Q)]],hq.2.1,hq.2.2.1,hq.2.2.2]
end L2
namespace DL
open PySem PySem.Spec L2
def A5e (z:Str):Prop:=∀c∈z.cps.toList,JC c=au
theorem pP (h:A5e z) (h1:1<=z.cps.toList.length) (n:z.cps.toList.length<=8):D4 z:=#[by rw[V0];exact h1,by rw[V0];exact n,h]
end DL
namespace L2
open PySem PySem.Spec PyProof.Rows
abbrev FF (F:List Addr) (S:cc->Prop):Prop:=∀h b:cc,S h->(∀c∈F,∀o,h.get? c=ak o->b.get? c=ak o)->S b
abbrev NxI (P:bn) (w:bj) (A:bx) (i:Addr) (S M:cc->Prop) (R:ap->Prop):Prop:=∀(s:av) (Q:ap->av->Prop) (E:ap->av->Prop),S s.heap->(∀b n x,R x->M b->Heap.SameBut i s.heap b->Q x { s with heap:=b,toks:=n })->wpAny (model P w) A (a2Z (.ref i)) Q E s
abbrev NxE (P:bn) (w:bj) (A:bx) (i:Addr) (S:cc->Prop):Prop:=∀(s:av) (Q:ap->av->Prop) (E:ap->av->Prop),S s.heap->(∀b e,Heap.ExtBut i s.heap b->(∃o,b.get? e=ak o/\o.cls = .type "StopIteration")->E (.ref e) { s with heap:=b })->wpAny (model P w) A (a2Z (.ref i)) Q E s
structure ZAp (z TI TO i1 i2:Addr) (F1 F2:List Addr):Prop where
 tz:TO≠z
 az:i1≠z
 bz:i2≠z
 ta:TO≠i1
 tb:TO≠i2
 ab:i1≠i2
 f1:∀c∈F1,c≠z/\c≠TO/\c≠i2
 f2:∀c∈F2,c≠z/\c≠TO/\c≠i1
section
variable {prog:bn}{w:bj}{A:bx}{E:ap->av->Prop}{s:av}{z TI TO i1 i2:Addr}{F1 F2:List Addr}{S1 rl S2 vj:cc->Prop}{R1 R2:ap->Prop}{a b:ap}
theorem jV {Q:ap->av->Prop}(D:ZAp z TI TO i1 i2 F1 F2) (t1:FF F1 S1) (U:FF F1 rl) (t2:FF F2 S2) (Z:FF F2 vj) (n1:NxI prog w A i1 S1 rl R1) (n2:NxI prog w A i2 S2 vj R2) (hz:fN s.heap z TI TO .none) (ya:dj s.heap TI (.ref i1) (.ref i2)) (yz:dj s.heap TO a b) (h1:S1 s.heap) (h2:S2 s.heap) (l1:∀h,rl h->i1 < h.objs.size) (l2:∀h,vj h->i2 < h.objs.size) (hQ:∀h' tk x y,R1 x->R2 y->fN h' z TI TO (dc s.heap.objs.size)->dj h' TO x y->rl h'->vj h'->dj h' s.heap.objs.size x y->h'.objs.size=s.heap.objs.size+1 ->(∀c o,c≠z->c≠TO->c≠i1->c≠i2->s.heap.get? c=ak o->h'.get? c=ak o)->Q (.ref s.heap.objs.size) { s with heap:=h',toks:=tk }) :
   wpAny (model prog w) A (Builtin.«zip.__next__» #[[.ref z],[]]) (λfin s'=>∃v,fin = .done (.ret v)/\Q v s') E s:=by
 show wpAny _ _ (ik (.ref z) 2 >>= _) _ _ _;refine zZ (bd hz rfl (x:=.bool aB) rfl ?_);show wpAny _ _ (ik (.ref z) 3 >>= _) _ _ _;refine zZ (bd hz rfl (x:=.ref TI) rfl ?_);refine zZ (cR ya rfl ?_);show wpAny _ _ (a2V (.ref z) >>= _) _ _ _;refine zZ ?_;unfold a2V;refine zZ (bd hz rfl (x:=.none) rfl (zY ?_));simp only[if_true];refine zZ (db ?_);refine zZ (bd hz rfl (x:=.ref TO) rfl ?_);refine zZ (c3 hz (by simp) λg1 O n=>?_);replace O:fN g1 z TI TO .ellipsis:=O;refine zZ ?_;simp only[List.forIn_cons,List.forIn_nil,List.zipIdx_cons,List.zipIdx_nil];refine zZ (zZ (fc ?_));show wpAny _ _ (a2Z (.ref i1) >>= _) _ _ _;refine zZ (n1 _ _ _ (t1 _ _ h1 λc hc o e=>n.extBut _ _ (D.f1 c hc).1 e) λg2 k2 x rx x2 i=>zY ?_);have N:dj g2 TO a b:=i.extBut _ _ D.ta (n.extBut _ _ D.tz yz);refine zZ (cR N rfl ?_);refine zZ (im N λg3 S J=>?_);replace S:dj g3 TO x b:=S;refine zZ (wpAny_letGo (zY ?_));refine zZ (zZ (fc ?_));show wpAny _ _ (a2Z (.ref i2) >>= _) _ _ _;refine zZ (n2 _ _ _ (t2 _ _ h2 λc hc o e=>J.extBut _ _ (D.f2 c hc).2.1 (i.extBut _ _ (D.f2 c hc).2.2 (n.extBut _ _ (D.f2 c hc).1 e))) λg4 k4 y ry x4 B=>zY ?_);have I:dj g4 TO x b:=B.extBut _ _ D.tb S;refine zZ (cR I rfl ?_);refine zZ (im I λL f r=>?_);replace f:dj L TO x y:=f;refine zZ (wpAny_letGo (zY (zY ?_)));refine zZ (cR f rfl ?_);refine zZ (wpAny_newTuple ?_);have hsz:L.objs.size=s.heap.objs.size:=by rw[r.1,B.1,J.1,i.1,n.1]
 have X:fN L z TI TO .ellipsis:=r.extBut _ _ D.tz.symm (B.extBut _ _ D.bz.symm (J.extBut _ _ D.tz.symm (i.extBut _ _ D.az.symm O)));have k5:∀c o,c≠z->c≠TO->c≠i1->c≠i2->s.heap.get? c=ak o->L.get? c=ak o:=λc o q Y u p e=>r.extBut _ _ Y (B.extBut _ _ p (J.extBut _ _ Y (i.extBut _ _ u (n.extBut _ _ q e))));have Lg:rl L:=U _ _ x2 λc hc o e=>r.extBut _ _ (D.f1 c hc).2.1 (B.extBut _ _ (D.f1 c hc).2.2 (J.extBut _ _ (D.f1 c hc).2.1 e));have Lh:vj L:=Z _ _ x4 λc hc o e=>r.extBut _ _ (D.f2 c hc).2.1 e;have T:z < L.objs.size:=zM X;show wpAny _ _ (b7Z (.ref z) (.ref L.objs.size) >>= _) _ _ _;refine zZ ?_;unfold b7Z;have y6:fN (L.push { cls:=.type "tuple", data:=.seq (y9 [x,y]) }) z TI TO .ellipsis:=zW _ X;refine zZ (c3 y6 (by simp) λg7 k g=>?_);replace k:fN g7 z TI TO (dc L.objs.size):=k;refine c3 k (by simp) λt m j=>?_;replace m:fN t z TI TO (dc L.objs.size):=m;have up:∀c o,c≠z->L.get? c=ak o->t.get? c=ak o:=λc o q e=>j.extBut _ _ q (g.extBut _ _ q (zW _ e));have M:dj t L.objs.size x y:=j.extBut _ _ (a9J T) (g.extBut _ _ (a9J T) (yZ _ rfl));have G:t.objs.size=L.objs.size+1:=by rw[j.1,g.1,a9K]
 rw[hsz] at m M G;refine zY #[_,rfl,?_];show Q (.ref L.objs.size) _;rw[hsz];exact hQ t _ x y rx ry m (up _ _ D.tz f) (U _ _ Lg λc hc o e=>up c o (D.f1 c hc).1 e) (Z _ _ Lh λc hc o e=>up c o (D.f2 c hc).1 e) M G λc o q Y u p e=>up c o q (k5 c o q Y u p e)
theorem jW (D:ZAp z TI TO i1 i2 F1 F2) (h:FF F1 S1) (n1:NxE prog w A i1 S1) (hz:fN s.heap z TI TO .none) (j:dj s.heap TI (.ref i1) (.ref i2)) (k:dj s.heap TO a b) (h1:S1 s.heap) (hE:∀h' e tk,(∀c o,c≠z->c≠TO->c≠i1->c≠i2->s.heap.get? c=ak o->h'.get? c=ak o)->(∃o,h'.get? e=ak o/\o.cls = .type "StopIteration")->E (.ref e) { s with heap:=h',toks:=tk }) :
   wpAny (model prog w) A (Builtin.«zip.__next__» #[[.ref z],[]]) Q E s:=by
 show wpAny _ _ (ik (.ref z) 2 >>= _) _ _ _;refine zZ (bd hz rfl (x:=.bool aB) rfl ?_);show wpAny _ _ (ik (.ref z) 3 >>= _) _ _ _;refine zZ (bd hz rfl (x:=.ref TI) rfl ?_);refine zZ (cR j rfl ?_);show wpAny _ _ (a2V (.ref z) >>= _) _ _ _;refine zZ ?_;unfold a2V;refine zZ (bd hz rfl (x:=.none) rfl (zY ?_));simp only[if_true];refine zZ (db ?_);refine zZ (bd hz rfl (x:=.ref TO) rfl ?_);refine zZ (c3 hz (by simp) λm O n=>?_);replace O:fN m z TI TO .ellipsis:=O;refine zZ ?_;simp only[List.forIn_cons,List.forIn_nil,List.zipIdx_cons,List.zipIdx_nil];refine zZ (zZ (fc ?_));show wpAny _ _ (a2Z (.ref i1) >>= _) _ _ _;refine zZ (n1 _ _ _ (h _ _ h1 λc hc o e=>n.extBut _ _ (D.f1 c hc).1 e) λG e i he=>?_);obtain⟨g,B,t⟩:=he;have r:fN G z TI TO .ellipsis:=i _ _ D.az.symm O;have p:e≠z:=λx=>by subst x;rw[r] at B;cases B;simp at t
 exact c3 r (by simp) λf _ J=>hE f e _ (λc o q _ u _ x=>J.extBut _ _ q (i _ _ u (n.extBut _ _ q x))) #[g,J.extBut _ _ p B,t]
theorem jX (D:ZAp z TI TO i1 i2 F1 F2) (N:FF F1 S1) (I:FF F2 S2) (n1:NxI prog w A i1 S1 rl R1) (v:NxE prog w A i2 S2) (hz:fN s.heap z TI TO .none) (S:dj s.heap TI (.ref i1) (.ref i2)) (M:dj s.heap TO a b) (h1:S1 s.heap) (k:S2 s.heap) (hE:∀h' e tk,(∀c o,c≠z->c≠TO->c≠i1->c≠i2->s.heap.get? c=ak o->h'.get? c=ak o)->(∃o,h'.get? e=ak o/\o.cls = .type "StopIteration")->E (.ref e) { s with heap:=h',toks:=tk }) :
   wpAny (model prog w) A (Builtin.«zip.__next__» #[[.ref z],[]]) Q E s:=by
 show wpAny _ _ (ik (.ref z) 2 >>= _) _ _ _;refine zZ (bd hz rfl (x:=.bool aB) rfl ?_);show wpAny _ _ (ik (.ref z) 3 >>= _) _ _ _;refine zZ (bd hz rfl (x:=.ref TI) rfl ?_);refine zZ (cR S rfl ?_);show wpAny _ _ (a2V (.ref z) >>= _) _ _ _;refine zZ ?_;unfold a2V;refine zZ (bd hz rfl (x:=.none) rfl (zY ?_));simp only[if_true];refine zZ (db ?_);refine zZ (bd hz rfl (x:=.ref TO) rfl ?_);refine zZ (c3 hz (by simp) λh O t=>?_);replace O:fN h z TI TO .ellipsis:=O;refine zZ ?_;simp only[List.forIn_cons,List.forIn_nil,List.zipIdx_cons,List.zipIdx_nil];refine zZ (zZ (fc ?_));show wpAny _ _ (a2Z (.ref i1) >>= _) _ _ _;refine zZ (n1 _ _ _ (N _ _ h1 λc hc o e=>t.extBut _ _ (D.f1 c hc).1 e) λG X x rx x2 n=>zY ?_);have T:dj G TO a b:=n.extBut _ _ D.ta (t.extBut _ _ D.tz M);refine zZ (cR T rfl ?_);refine zZ (im T λU Z J=>?_);refine zZ (wpAny_letGo (zY ?_));refine zZ (zZ (fc ?_));show wpAny _ _ (a2Z (.ref i2) >>= _) _ _ _;refine zZ (v _ _ _ (I _ _ k λc hc o e=>J.extBut _ _ (D.f2 c hc).2.1 (n.extBut _ _ (D.f2 c hc).2.2 (t.extBut _ _ (D.f2 c hc).1 e))) λj e r he=>?_);obtain⟨y,B,i⟩:=he;have p:fN j z TI TO .ellipsis:=r _ _ D.bz.symm (J.extBut _ _ D.tz.symm (n.extBut _ _ D.az.symm O));have g:e≠z:=λx=>by subst x;rw[p] at B;cases B;simp at i
 exact c3 p (by simp) λL _ m=>hE L e _ (λc o q Y u f x=>m.extBut _ _ q (r _ _ f (J.extBut _ _ Y (n.extBut _ _ u (t.extBut _ _ q x))))) #[y,m.extBut _ _ g B,i]
theorem jY (D:ZAp z TI TO i1 i2 F1 F2) (j:FF F1 S1) (q:FF F1 rl) (k:FF F2 S2) (v:FF F2 vj) (n1:∀A:bx,NxI prog w A i1 S1 rl R1) (g:∀A:bx,NxI prog w A i2 S2 vj R2) (hz:fN s.heap z TI TO .none) (u:dj s.heap TI (.ref i1) (.ref i2)) (T:dj s.heap TO a b) (h1:S1 s.heap) (m:S2 s.heap) (f:∀h,rl h->i1 < h.objs.size) (M:∀h,vj h->i2 < h.objs.size) (p:∀h' tk x y,R1 x->R2 y->fN h' z TI TO (dc s.heap.objs.size)->dj h' TO x y->rl h'->vj h'->dj h' s.heap.objs.size x y->h'.objs.size=s.heap.objs.size+1 ->(∀c o,c≠z->c≠TO->c≠i1->c≠i2->s.heap.get? c=ak o->h'.get? c=ak o)->Q (ak (.ref s.heap.objs.size)) { s with heap:=h',toks:=tk }) :
   wpAny (model prog w) A (pyNext (.ref z)) Q E s:=by
 have e:s.TypeIs (.ref z) "zip" := #[_,hz,rfl]
 unfold pyNext;exact zZ (wpAny_attempt (wpAny_callSpecial?_slot (name:=a0Q "__next__") e F.slot_zip_next (ce F.slot_zip_next e F.entry_zip_next (jV D j q k v (n1 _) (g _) hz u T h1 m f M λh' tk x y b1 t B J n i Y r Z=>zY (p h' tk x y b1 t B J n i Y r Z)) (F.args_zip_next_1 _))))
theorem jZ (hh:A.handled=am) (hz:fN s.heap z TI TO .none) (h:∀(g:Fin->av->Prop) (m:ap->av->Prop),(∀h' e tk,(∀c o,c≠z->c≠TO->c≠i1->c≠i2->s.heap.get? c=ak o->h'.get? c=ak o)->(∃o,h'.get? e=ak o/\o.cls = .type "StopIteration")->m (.ref e) { s with heap:=h',toks:=tk }) ->∀y:bx,y.handled=am->wpAny (model prog w) y (Builtin.«zip.__next__» #[[.ref z],[]]) g m s) (n:∀h' tk,(∀c o,c≠z->c≠TO->c≠i1->c≠i2->s.heap.get? c=ak o->h'.get? c=ak o)->Q am { s with heap:=h',toks:=tk }):wpAny (model prog w) A (pyNext (.ref z)) Q E s:=by
 have t:s.TypeIs (.ref z) "zip" := #[_,hz,rfl]
 unfold pyNext;refine zZ (wpAny_attempt (wpAny_callSpecial?_slot (name:=a0Q "__next__") t F.slot_zip_next (ce F.slot_zip_next t F.entry_zip_next (h _ _ (λh' e tk hk he=>?_) _ ?_) (F.args_zip_next_1 _))));. obtain⟨o,ho,hc⟩:=he;refine zZ (wpAny_isInstance (T:= "StopIteration") (b:=au) #[o,ho,hc] isSubtype_stop ?_);exact zY (n _ _ hk)
 . exact hh
end
end L2
namespace L2
open PySem PySem.Spec PyProof.Rows
section
variable {prog:bn}{w:bj}{A:bx}{E:ap->av->Prop}{s:av}
theorem pQ (hx:x.cps[k]?=ak c):NxI prog w A i (λh=>h.IsStrIter i "str_ascii_iterator" x t k) (λh=>h.IsStrIter i "str_ascii_iterator" x t (k+1)) (λv=>RelV (.str #[(y9 [c])]) v):=
 λs Q E hit n=>wpAny_nextOf_ascii_item hit hx λe a b=>n e _ _ #[_,rfl] a b
theorem k6 (hh:A.handled=am) (hx:x.cps[k]?=am):NxE prog w A i (λh=>h.IsStrIter i "str_ascii_iterator" x t k):=
 λs Q E hit hE=>wpAny_nextOf_ascii_end hh hit hx hE
theorem pR (O:t≠i) (hx:items[k]?=ak y):NxI prog w A i (λh=>h.IsTupleIter i t k/\h.IsTuple t items) (λh=>h.IsTupleIter i t (k+1)/\h.IsTuple t items) (λv=>v=y):=λs Q E hS r=>by obtain⟨hit,e⟩:=hS;obtain⟨o,ho,hc,hd⟩:=id hit;obtain⟨L,n,j,p,m⟩:=id e;unfold a2Z;refine zZ (wpAny_callSpecial?_slot (name:=a0Q "__next__") hit.typeIs a6X (ce a6X hit.typeIs b7V ?_ (b7X _)));show wpAny _ _ (ik (.ref i) 0 >>= _) _ _ s;refine zZ (bd ho hd (x:=.ref t) rfl ?_);show wpAny _ _ (if (a0X t==a1Z)=au then _ else _) _ _ s;rw[if_neg (show ¬((a0X t==a1Z)=au) from nft)];show wpAny _ _ (ik (.ref i) 1 >>= _) _ _ s;refine zZ (bd ho hd (x:=.int k 0) rfl ?_);show wpAny _ _ (seqItems? (.ref t) >>= _) _ _ s;refine zZ (cR n m ?_);simp only[a7W,hx];refine zZ (di ho hd (by simp) (zY #[y,rfl,zY (r _ s.toks y rfl #[?_,e.extBut (b5Q ..).extBut O] (b5Q ..))]));exact#[_,a3Z _ ho (Obj.isFreed_of_fields (b1Z hd _)),(Obj.cls_mapFields ..).trans hc,by rw[b1Z hd];simp[dc]]
abbrev RP (v:ap) (o:cy) (Pre:cc->Prop):Prop:=∀(prog:bn) (w:bj) (A:bx) (E:ap->av->Prop) (s:av) (Q:ap->av->Prop),Pre s.heap->Q (.ref s.heap.objs.size) { s with heap:=s.heap.push o }->wpAny (model prog w) A (pyIter v) Q E s
theorem k7 (h:x.cps.all (· < 128)=au):RP (.str x t) { cls:=.type "str_ascii_iterator", data:=.fields (y9 [.str x t,.int 0 0]) } (λ_=>True):=λprog w A E s Q _ e=>wpAny_pyIter_ascii h e
theorem wV :RP (.ref t) { cls:=.type "tuple_iterator", data:=.fields (y9 [.ref t,.int 0 0]) } (λh=>h.IsTuple t items):=λprog w A E s Q n e=>gl n e
abbrev zH1 (h:cc) (S:cy):Heap:=h.push S
abbrev zH2 (h:cc) (S i:cy):Heap:=(zH1 h S).push i
abbrev zH3 (h:cc) (S i:cy):Heap:=(zH2 h S i).push { cls:=.type "tuple", data:=.seq (y9 [.ref h.objs.size,.ref (zH1 h S).objs.size]) }
abbrev zH4 (h:cc) (S i:cy):Heap:=(zH3 h S i).push { cls:=.type "tuple", data:=.seq (y9 [.none,.none]) }
abbrev zH5 (h:cc) (S i:cy):Heap:=(zH4 h S i).push { cls:=.type "zip", data:=.fields (y9 [.none,.bool aB,.bool aB,.ref (zH2 h S i).objs.size,.ref (zH3 h S i).objs.size]) }
theorem dF (n1:RP e S G) (n:RP t i c) (k:∀h o,c h->c (h.push o)) :
   Meets (Builtin.«zip.__new__» #[[.type "zip", e,t],[]]) (λ_ R s=>G s.heap/\c s.heap/\R (.ok (.ret (.ref (zH4 s.heap S i).objs.size))) { s with heap:=zH5 s.heap S i }):=
 .of_wp λprog w A R s h=>by
   obtain⟨hp,g,d,r,U⟩:=s;obtain⟨I,T,h⟩:=h;have Y:=sub_zip;have Q:c (hp.push S):=k _ _ T
   wp_walk using n1 _ _ _ _ _ _ I,n _ _ _ _ _ _ Q
   exact#[_,rfl,h]
theorem k8 (n1:RP p S G) (y:RP b i e) (u:∀h o,e h->e (h.push o)) (k:S.isFreed=aB) (q:i.isFreed=aB) (h1:G s.heap) (v:e s.heap) (h:∀h',fN h' (s.heap.objs.size+4) (s.heap.objs.size+2) (s.heap.objs.size+3) .none->dj h' (s.heap.objs.size+2) (.ref s.heap.objs.size) (.ref (s.heap.objs.size+1)) ->
     dj h' (s.heap.objs.size+3) .none .none->h'.get? s.heap.objs.size=ak S->h'.get? (s.heap.objs.size+1)=ak i->(∀c o,s.heap.get? c=ak o->h'.get? c=ak o)->Q (.ref (s.heap.objs.size+4)) { s with heap:=h' }) :
   wpAny (model prog w) A (call (.type "zip") [p,b]) Q E s:=by
 refine callType_new F.called_zip `kh (F.typeCall_zip_2 _ _) (F.newCall_zip_2 _ _) (λobj=>F.args_object_init_3 obj _ _) F.entry_zip_new (dF n1 y u) #[h1,v,?_];have z1:(zH1 s.heap S).objs.size=s.heap.objs.size+1:=a9K ..;have I:(zH2 s.heap S i).objs.size=s.heap.objs.size+2:=by rw[a9K,z1]
 have n:(zH3 s.heap S i).objs.size=s.heap.objs.size+3:=by rw[a9K,I]
 have f:(zH4 s.heap S i).objs.size=s.heap.objs.size+4:=by rw[a9K,n]
 have t:(zH5 s.heap S i).get? (zH4 s.heap S i).objs.size=ak _:=yZ _ rfl;have m:(zH5 s.heap S i).get? (zH3 s.heap S i).objs.size=ak _:=zW _ (yZ _ rfl);have r:(zH5 s.heap S i).get? (zH2 s.heap S i).objs.size=ak _:=zW _ (zW _ (yZ _ rfl));have g:(zH5 s.heap S i).get? (zH1 s.heap S).objs.size=ak i:=zW _ (zW _ (zW _ (yZ _ q)));have j:(zH5 s.heap S i).get? s.heap.objs.size=ak S:=zW _ (zW _ (zW _ (zW _ (yZ _ k))));show _/\_;rw[I,n,f] at t;rw[z1,I] at r;rw[n] at m;rw[z1] at g;rw[f];exact#[#[_,t,rfl],h _ t r m j g λc o x=>zW _ (zW _ (zW _ (zW _ (zW _ x))))]
end
section
theorem RQ{X:Cx}{pins:List (Addr×cy)}{σ:St}{H:Hp}{s:av} (I:Inv X pins σ H s) (M:N4 X pins H z) (h:SqT X.K H a xs):a≠z:=by
 rintro rfl;rcases h with h | ⟨o,t,n,hk,_⟩
 . rcases h with h | ⟨i,h⟩ <;> rw[M.1] at h <;> cases h
 . have e:=I.ok.mod.kin a o hk;rcases M.2.2.2.1 with z | z;. exact I.ok.noex a o e z
   . exact absurd (zP (zM e) (zN I.ok.bsz z)) (yF _)
end
end L2
namespace L2
open PySem PySem.Spec PyProof.Rows
section
variable {X:Cx}
def A4s:R2:=λx y H Q=>(y = .non/\Q (.bl (decide (x = .non))) H)\/∃a b:Bool,x = .bl a/\y = .bl b/\Q (.bl (a==b)) H
theorem pT:OpR X (bq .Is) A4s:=by
 intro pins s n H x y v u Q I e t h;rcases h with h | ⟨a,b,rfl,rfl,q⟩
 . exact A2B pins s n H x y v u Q I e t h
 . cases e;cases t;refine wpAny_is_plain rfl #[.bl (a==b),H,I,?_,q];cases a <;> cases b <;> rfl
def A1R:R2:=λx y H Q=>(y = .non/\Q (.bl (!decide (x = .non))) H)\/∃a b:Bool,x = .bl a/\y = .bl b/\Q (.bl (!(a==b))) H
theorem gK:OpR X (bq .IsNot) A1R:=by
 intro pins s n H x y v u Q I e t h;rcases h with h | ⟨a,b,rfl,rfl,q⟩
 . exact uV pins s n H x y v u Q I e t h
 . cases e;cases t;refine wpAny_isNot_plain rfl #[.bl (!(a==b)),H,I,?_,q];cases a <;> cases b <;> rfl
end
end L2
namespace DL
open PySem PySem.Spec L2
section
variable {K:Frg}{ρ:List (Option DS)}{M:Own}{Q:DS->Own->Prop}{QI:List PyData->Own->Prop}
theorem QJ (q:Q (.d (.bool (CT d))) M):D2 K A4s (.d d) (.d .none) M Q:=FC (A2y q)
theorem Z3 (q:Q (.d (.bool (!CT d))) M):D2 K A1R (.d d) (.d .none) M Q:=FC (wG q)
def DPs (K:Frg) (n:List (TE×TE)) (ρ:List (Option DS)) (M:Own) (Q:List (Str×PyData)->Own->Prop):Prop:=∀(t:St) (H:Hp) (QQ:List (V×V)->Hp->Prop),Rel K M ρ t H->(∀Z H' g i,OA K H' i->(∃e,DVs K H' i.W (g.map (·.2)) e/\Z=(g.map λk=>V.str k.1).zip e)->Step K M i H H'->Q g i->QQ Z H')->W7 n t H QQ
theorem wW {Q:List (Str×PyData)->Own->Prop}(h:Q [] M):DPs K [] ρ M Q:=λe H QQ R k=>k [] H [] M R.own #[[],DVs.nil,rfl] Step.refl h
theorem Z4 {Q:List (Str×PyData)->Own->Prop}(h:DE K tk ρ M λx M1=>∃k,x = .d (.str k)/\DE K p ρ M1 λy i=>∃d,y = .d d/\DPs K r ρ i λg B=>Q ((k,d)::g) B):DPs K ((tk,p)::r) ρ M Q:=λt H QQ R z=>
 h t H _ R λv b x M1 S O e h1=>by obtain⟨k,rfl,h1⟩:=h1;refine h1 t b _ (R.step S e) λu f y i T I m n=>?_;obtain⟨d,rfl,n⟩:=n;refine n t f _ (R.step T (e.trans m)) ?_;rintro Z c g B N ⟨J,G,j⟩ D q;refine z _ c ((k,d)::g) B N #[u::J,DVs.cons (DV.grow D.grow I) G,?_] ((e.trans m).trans D) q;rw[BC O,j];rfl
theorem PX:∀(kvs acc:List (Key×V)),((acc++kvs).map (·.1)).Nodup->JT acc kvs=acc++kvs
 | [],acc,_=>by simp[JT]
 | kv::r,acc,h=>by
   have h1:(acc.any λx=>decide (x.1=kv.1))=false:=by rw[List.any_eq_false];intro x hx;rw[xI,b9X] at h;have:=h.2.2 x.1 (zL.mpr #[x,hx,rfl]) kv.1 (by simp);simpa using this
   show JT (EX acc kv.1 kv.2) r=_;have e:EX acc kv.1 kv.2=acc++[kv]:=by unfold EX;rw[h1];rfl
   rw[e,PX r (acc++[kv]) (by rw[List.append_assoc];exact h)];simp
theorem pU :∀{g:List (Str×PyData)}{vs:List V},DVs K H W (g.map (·.2)) vs->DKV K H W (g.map λk=>(.str k.1,k.2)) ((g.map λk=>(a1W k.1:Key)).zip vs)
 | [],vs,h=>by unfold DKV;rfl
 | (k,d)::r,vs,h=>by rw[zI] at h;unfold DVs at h;obtain⟨v,L,rfl,h1,n⟩:=h;rw[zI];unfold DKV;exact#[a1W k,v,_,rfl,rfl,h1,pU n]
theorem Z5:∀(g:List (Str×PyData)) (vs:List V),vs.length=g.length->(g.map λk=>V.str k.1).zip vs=((g.map λk=>(a1W k.1:Key)).zip vs).map λkv=>(kV kv.1,kv.2)
 | [],vs,_=>by simp
 | a::r,[],h=>by cases h
 | a::r,v::vs,h=>by rw[zI,zI,a9Z,a9Z,zI,Z5 r vs (by simpa using h)];rfl
end
end DL
namespace L2
open PySem PySem.Spec PyProof.Rows
section
theorem Z6 (O:l≠it):∀(n i:Nat) (s:av) (Q:List ap->av->Prop),s.heap.IsListIter it l i->s.heap.IsList l e->i+n<=e.size ->(∀h',h'.IsListIter it l (i+n)->Heap.SameBut it s.heap h'->Q ((e.toList.drop i).take n) { s with heap:=h' })->wpAny (model prog w) A (draw (.ref it) n) Q E s
 | 0,i,s,Q,hit,_,_,t=>by show wpAny _ _ (pure []) Q E s;exact zY (by simpa using t s.heap hit (Heap.SameBut.refl ..))
 | n+1,i,s,Q,hit,r,hle,t=>by
   have B:i < e.size:=by lia
   show wpAny _ _ (pyNext (.ref it) >>= _) Q E s;refine zZ (wpAny_pyNext_list_item hit r (x:=e[i]) (by simp[B]) λg c m=>?_);refine zZ (bt (Z6 O n (i+1) _ _ c (r.extBut m.extBut O) (by lia) λp f b=>zY ?_));have hd:e.toList.drop i=e[i]::e.toList.drop (i+1):=by simp[List.drop_eq_getElem_cons,B]
   have G:=t p (by rw[show i+(n+1)=i+1+n by lia];exact f) (m.trans b);rw[hd,List.take_succ_cons] at G;exact G
theorem dG (hh:A.handled=am) (r:s.heap.IsList l t) (i:∀h',Heap.ExtBut s.heap.objs.size s.heap h'->Q t.toList { s with heap:=h' }):wpAny (model prog w) A (unpackItems (.ref l) t.size am) Q E s:=by
 have O:l≠s.heap.objs.size:=by obtain⟨o,ho,_⟩:=r;exact zC (zM ho)
 unfold unpackItems;refine zZ ?_;unfold notIterableAtAll;refine zZ (wpAny_specialOf r.typeIs F.slot_list_iter.lookup ?_);refine zY ?_;simp only[b4Q,if_false];refine zZ (bt (g0 r ?_));refine zZ (bt (Z6 O t.size 0 _ _ #[_,yZ _ rfl,rfl,rfl] (r.push _) (by lia) λm x n=>?_));rw[show List.take t.size (List.drop 0 t.toList)=t.toList by rw[List.drop_zero];exact b1Q (by simp),if_neg (by simp)];refine zZ (bt (wpAny_pyNext_list_end hh x ((r.push _).extBut n.extBut O) (by simp) λG g=>?_));simp only[Option.isSome_none,b4Q,if_false];exact zY (i G λb o hb e=>g b o hb (n.extBut b o hb (zW _ e)))
end
section
def pV (K:Frg) (n:Nat) (t:TGs):TG:=λv i H Q=>∃a e,v = .ref a/\(SqT K H a e\/SqL K H a e)/\e.length=n/\t e i H Q
theorem wX{X:Cx}{pos:en} {es:List bp}{k:Nat}{t:TGs}{n:Nat}(hc:X.calm=au) (h:PGs X es t) (hn:(da es X.env).length=n:=by rfl) (p:(da es X.env).findIdx? (·.1)=none:=by rfl):PG X (.Tuple es k pos) (pV X.K n t):=by
 intro pins s m H v u Q I r i;obtain⟨a,f,j,hq,c,i⟩:=i;rcases hq with hq | hq;. exact mW hc h hn p pins s m H v u Q I r #[a,f,j,hq,c,i]
 . subst j;cases r;obtain⟨g,S,Y,x⟩:=I.list hq;rw[arm_assign_Tuple];refine zZ (bv ?_);unfold unpack;rw[show(da es X.env).length=g.toArray.size by simp[hn,<-c,S.length],p];refine zZ (bt (dG (I.ok.hd hc) Y.isList λq hx=>?_));have J:Inv X pins m H { s with heap:=q }:=I.kept (t':=s.toks) λb o e=>hx b o (zC (zM e)) e;exact h pins _ m H f _ Q J (by simpa using S) i
end
end L2
namespace DL
open PySem PySem.Spec L2
theorem pW {X:Cx}{K:Frg}{pos:en}{es:List bp}{k:Nat}{t:TGs}{n:Nat}(hK:X.K=K) (hc:X.calm=au) (h:PGs X es t) (hn:(da es X.env).length=n:=by rfl) (u:(da es X.env).findIdx? (·.1)=none:=by rfl):PG X (.Tuple es k pos) (pV K n t):=hK▸wX hc h hn u
section
theorem wY (hn:ds.length=n) (h:DGs K g ds ρ M P):DG K (pV K n g) (.tuple ds) ρ M P:=λi H v QQ R e k=>by unfold DV at e;obtain⟨a,t,rfl,r,hd⟩:=e;exact#[a,t,rfl,.inl r.sq,by rw[hd.length];exact hn,h i H t QQ R hd k]
end
end DL
namespace L2
open PySem PySem.Spec PyProof.Rows PySem.W
section
variable {n:Nat}{lt:Nat->Nat->Bool}
def Good (n:Nat) (lt:Nat->Nat->Bool) {D:Type}(P:D->Prop):KasT D->Prop
 | .ret a=>P a
 | .ask i j k=>i < n/\j < n/\i≠j/\Good n lt P (k (lt i j))
theorem Good.mono {P:D->Prop}(h:∀a,P a->Q a):∀{t:KasT D},Good n lt P t->Good n lt Q t
 | .ret _,g=>h _ g
 | .ask _ _ _,#[a,b,c,g]=>#[a,b,c,Good.mono h g]
theorem Good.bind {P:e->Prop}:∀{t:KasT D},Good n lt (λa=>Good n lt P (f a)) t->Good n lt P (t.bind f)
 | .ret _,g=>g
 | .ask _ _ _,#[a,b,c,g]=>#[a,b,c,Good.bind g]
theorem Good.wp {P:D->Prop} (hc:∀i j (C:Bool->av->Prop),i < n->j < n->i≠j->C (lt i j) s->cmp i j C s) (hq:∀a,P a->Q a s):∀{t:KasT D},Good n lt P t->t.kasWp cmp Q s
 | .ret a,g=>hq a g
 | .ask i j k,#[a,b,c,g]=>hc i j _ a b c (Good.wp hc hq g)
structure Strict (n:Nat) (lt:Nat->Nat->Bool):Prop where
 irr:∀i,lt i i=aB
 tr:∀i j k,lt i j=au->lt j k=au->lt i k=au
 tot:∀i j,i < n->j < n->i≠j->lt i j=au\/lt j i=au
def Pm (n:Nat) (p:Array Nat):Prop:=p.toList.Perm (a1X n)
theorem Pm.size (h:Pm n p):p.size=n:=by have:=h.length_eq;simpa using this
theorem Pm.bel (h:Pm n p) (hi:i < n):p.getD i 0 < n:=by
 have hs:i < p.size:=by rw[h.size];exact hi
 have:p[i]∈a1X n:=h.mem_iff.mp (by simp);simp only[Array.getD,hs,dite_true];exact List.mem_range.mp this
theorem A3C {l:List Nat}(nd:l.Nodup) {i j:Nat}{hi:i < l.length}{u:j < l.length}(e:l[i]=l[j]):i=j:=by
 rcases b9J i j with h | h | h;. exact absurd e (List.pairwise_iff_getElem.mp nd i j hi u h)
 . exact h
 . exact absurd e.symm (List.pairwise_iff_getElem.mp nd j i u hi h)
theorem Pm.inj (h:Pm n p) (hi:i < n) (u:j < n) (r:i≠j):p.getD i 0≠p.getD j 0:=by
 have t:i < p.size:=by rw[h.size];exact hi
 have U:j < p.size:=by rw[h.size];exact u
 simp only[Array.getD,t,U,dite_true];have nd:p.toList.Nodup:=h.nodup_iff.mpr List.nodup_range;intro e;have e':p.toList[i]'(by simpa using t)=p.toList[j]'(by simpa using U):=by simpa using e
 exact r (A3C nd e')
def Up (lt:Nat->Nat->Bool) (p:Array Nat) (k:Nat):Prop:=∀i j,i < j->j < k->lt (p.getD i 0) (p.getD j 0)=au
def Dn (lt:Nat->Nat->Bool) (p:Array Nat) (k:Nat):Prop:=∀i j,i < j->j < k->lt (p.getD j 0) (p.getD i 0)=au
theorem RR (S:Strict n lt) (hp:Pm n p):∀(f m:Nat),1<=m->m+f<=n->Up lt p m ->
   Good n lt (λr=>m<=r/\r<=m+f/\Up lt p r/\(r=m+f\/lt (p.getD r 0) (p.getD (r - 1) 0)=au)) (kas_asc p f m)
 | 0,m,h1,h,G=>#[zR _,zR _,G,.inl rfl]
 | f+1,m,h1,h,G=>by
   unfold kas_asc;refine#[hp.bel (by lia),hp.bel (by lia),hp.inj (by lia) (by lia) (by lia),?_];cases hc:lt (p.getD m 0) (p.getD (m - 1) 0) with
   | true=>exact#[zR _,by lia,G,.inr hc]
   | false=>
     have t:lt (p.getD (m - 1) 0) (p.getD m 0)=true:=(S.tot _ _ (hp.bel (by lia)) (hp.bel (by lia)) (hp.inj (i:=m - 1) (j:=m) (by lia) (by lia) (by lia))).elim id λz=>by rw[hc] at z;cases z
     dsimp only;rw[if_neg nft];refine(RR S hp f (m+1) (by lia) (by lia) λi j g u=>?_).mono (by rintro r ⟨a,b,c,d⟩;exact#[by lia,by lia,c,d.elim (λz=>.inl (by lia)) .inr]);by_cases hjm:j < m;. exact G i j g hjm
     . have e:j=m:=by lia
       subst e;by_cases hi:i=j - 1;. subst hi;exact t
       . exact S.tr _ _ _ (G i (j - 1) (by lia) (by lia)) t
theorem V5 (S:Strict n lt) (hp:Pm n p):∀(f m:Nat),1<=m->m+f<=n->Dn lt p m ->
   Good n lt (λr=>r.1=p/\r.2.2=0/\m<=r.2.1/\r.2.1<=m+f/\Dn lt p r.2.1) (kas_desc f p m 0)
 | 0,m,h1,g,G=>#[rfl,rfl,zR _,zR _,G]
 | f+1,m,h1,g,G=>by
   unfold kas_desc;refine#[hp.bel (by lia),hp.bel (by lia),hp.inj (by lia) (by lia) (by lia),?_];cases hc:lt (p.getD m 0) (p.getD (m - 1) 0) with
   | true=>
     dsimp only;rw[if_pos rfl,if_neg (yF 0)];refine(V5 S hp f (m+1) (by lia) (by lia) λi j t u=>?_).mono (by rintro r ⟨a,b,c,d,e⟩;exact#[a,b,by lia,by lia,e]);by_cases hjm:j < m;. exact G i j t hjm
     . have e:j=m:=by lia
       subst e;by_cases hi:i=j - 1;. subst hi;exact hc
       . exact S.tr _ _ _ hc (G i (j - 1) (by lia) (by lia))
   | false=>
     have h:lt (p.getD (m - 1) 0) (p.getD m 0)=true:=(S.tot _ _ (hp.bel (by lia)) (hp.bel (by lia)) (hp.inj (i:=m - 1) (j:=m) (by lia) (by lia) (by lia))).elim id λz=>by rw[hc] at z;cases z
     dsimp only;rw[if_neg nft];refine#[hp.bel (by lia),hp.bel (by lia),hp.inj (by lia) (by lia) (by lia),?_];dsimp only;rw[h,if_pos rfl];exact#[rfl,rfl,zR _,(show m<=_ by lia),G]
theorem QK {D:Type}{xs ys:Array D}{i j:Nat}{d:D}(h:xs[i]?=ys[j]?):xs.getD i d=ys.getD j d:=by rw[b6Z,b6Z,h]
theorem pX (hp:Pm n p) (i j:Nat):Pm n (kas_rev p i j):=(Array.perm_iff_toList_perm.mp (mirror_perm _ _ _ _)).trans hp
theorem dH (S:Strict n lt) (hp:Pm n p) (h1:1<=m) (t:m<=n) (G:Dn lt p m) :
   Good n lt (λr=>1<=r.1/\r.1<=n/\Pm n r.2/\Up lt r.2 r.1) (kas_tail3 m n p):=by
 unfold kas_tail3;refine Good.bind ((RR S (pX hp 0 m) (n - m) m h1 (by lia) λi j f g=>?_).mono (by rintro r ⟨a,b,c,_⟩;exact#[by lia,by lia,pX hp 0 m,c]));have u:m<=p.size:=by rw[hp.size];exact t
 have e:∀k,k < m->(kas_rev p 0 m).getD k 0=p.getD (m - 1 - k) 0:=λk hk=>by refine QK ?_;unfold kas_rev;rw[getElem?_mirror_all (i:=0) u k,if_pos #[xT _,hk],Nat.zero_add]
 rw[e i (by lia),e j (by lia)];exact G _ _ (by lia) (by lia)
theorem U2 (S:Strict n lt) (hp:Pm n p) (t:m+1<=n) (G:Dn lt p (m+1)) :
   Good n lt (λr=>1<=r.1/\r.1<=n/\Pm n r.2/\Up lt r.2 r.1) (kas_descPart m n p):=by unfold kas_descPart;refine Good.bind ((V5 S hp (n - (m+1)) (m+1) (by lia) (by lia) G).mono λr Z=>?_);obtain⟨a,b,c,d,e⟩:=Z;rw[b,if_neg (yF 0),a];exact dH S hp (by lia) (by lia) e
theorem dI (S:Strict n lt) (hp:Pm n p) (f:1<=n) :
   Good n lt (λr=>1<=r.1/\r.1<=n/\Pm n r.2/\Up lt r.2 r.1) (kas_count n p):=by
 unfold kas_count;refine Good.bind ((RR S hp (n - 1) 1 (zR _) (by lia) λi j t u=>by lia).mono λr G=>?_);obtain⟨a,b,c,d⟩:=G;by_cases hr:r=n;. subst hr;rw[if_pos (by simp)];exact#[a,zR _,hp,c]
 . rw[if_neg (by simpa using hr)];have B:lt (p.getD r 0) (p.getD (r - 1) 0)=true:=d.resolve_left (by lia);by_cases h1:r > 1;. rw[if_pos h1];refine#[hp.bel (by lia),hp.bel (by lia),hp.inj (by lia) (by lia) (by lia),?_];dsimp only;rw[c 0 (r - 1) (by lia) (by lia),if_pos rfl];exact#[a,by lia,hp,c]
   . rw[if_neg h1];have e:r=1:=by lia
     subst e;refine U2 S hp (by lia) λi j t u=>?_;have m:i=0:=by lia
     have g:j=1:=by lia
     subst m g;exact B
theorem MI (S:Strict n lt) (hp:Pm n p) (hk:k < n) (hu:Up lt p k):∀(f l r:Nat),l<=r->r<=k->r - l<=f ->(∀i,i < l->lt (p.getD i 0) (p.getD k 0)=au)->(∀i,r<=i->i < k->lt (p.getD k 0) (p.getD i 0)=au) ->
   Good n lt (λx=>x<=k/\(∀i,i < x->lt (p.getD i 0) (p.getD k 0)=au)/\∀i,x<=i->i < k->lt (p.getD k 0) (p.getD i 0)=au) (kas_place p k f l r)
 | 0,l,r,h1,c,G,b,Z=>by unfold kas_place;exact#[by lia,b,λi hi J=>Z i (by lia) J]
 | f+1,l,r,h1,c,G,b,Z=>by
   unfold kas_place;by_cases hge:l≥r;. rw[if_pos hge];exact#[by lia,b,λi hi J=>Z i (by lia) J]
   . rw[if_neg hge];have q:l<=(l+r)/2/\(l+r)/2 < r:=by lia
     generalize (l+r)/2=m at q ⊢;obtain⟨U,h⟩:=q;have g:m < k:=zP h c;have t:m < n:=xQ g hk;refine#[hp.bel hk,hp.bel t,hp.inj hk t (a9J g),?_];cases hc:lt (p.getD k 0) (p.getD m 0) with
     | true=>
       dsimp only;rw[if_pos rfl];refine MI S hp hk hu f l m U (xR g) (by lia) b λi hi J=>?_;by_cases e:i=m;. subst e;exact hc
       . exact S.tr _ _ _ hc (hu _ _ (Nat.lt_of_le_of_ne hi (a4Q e)) J)
     | false=>
       dsimp only;rw[if_neg nft];have u:lt (p.getD m 0) (p.getD k 0)=true:=(S.tot _ _ (hp.bel t) (hp.bel hk) (hp.inj (i:=m) (j:=k) t hk (zC g))).elim id λz=>by rw[hc] at z;cases z
       refine MI S hp hk hu f (m+1) r h c (by lia) (λi hi=>?_) Z;by_cases e:i=m;. subst e;exact u
       . exact S.tr _ _ _ (hu _ _ (by lia) (by lia)) u
theorem Z7 (S:Strict n lt):∀(f:Nat) {p:Array Nat}{k:Nat},Pm n p->k+f=n->Up lt p k->Good n lt (λq=>Pm n q/\Up lt q n) (kas_bin f p k)
 | 0,p,k,hp,h1,u=>by
   have e:k=n:=by lia
   subst e;exact#[hp,u]
 | f+1,p,k,hp,h1,u=>by
   unfold kas_bin;refine Good.bind ((MI S hp (by lia) u k 0 k (xT _) (zR _) (by lia) (λi hi=>by lia) λi hi hk=>by lia).mono λx I=>?_);obtain⟨hx,a,b⟩:=I;have M:k < p.size:=by rw[hp.size];lia
   refine Z7 S f ((Array.perm_iff_toList_perm.mp (bubble_perm _ _ _)).trans hp) (by lia) λi j r D=>?_;have e:∀q,(bubble p k (k - x)).getD q 0=if q=x then p.getD k 0 else if x < q/\q<=k then p.getD (q - 1) 0 else p.getD q 0:=λq=>by
     have:=getElem?_bubble M (k - x) (by lia) q;rw[show k - (k - x)=x by lia] at this;by_cases O:q=x;. rw[if_pos O] at this ⊢;exact QK this
     . rw[if_neg O] at this ⊢;by_cases Y:x < q/\q<=k;. rw[if_pos Y] at this ⊢;exact QK this
       . rw[if_neg Y] at this ⊢;exact QK this
   obtain⟨g,hg⟩:∃g:Nat->Nat,∀i,p.getD i 0=g i:=#[_,λ_=>rfl]
   have v:∀i j,i < j->j < k->lt (g i) (g j)=true:=λi j x y=>by rw[<-hg,<-hg];exact u i j x y
   rw[e,e];simp only[hg] at a b ⊢;clear e;rcases b9J j x with hj' | hj' | hj';. have hi':i < x:=xQ r hj';rw[if_neg (zC hi'),if_neg (λz=>Nat.lt_asymm z.1 hi'),if_neg (zC hj'),if_neg (λz=>Nat.lt_asymm z.1 hj')];exact v _ _ r (zP hj' hx)
   . subst hj';rw[if_neg (zC r),if_neg (λz=>Nat.lt_asymm z.1 r),if_pos rfl];exact a _ r
   . obtain⟨t,rfl⟩:∃t,j=t+1:=#[j - 1,by lia]
     have m:t < k:=Nat.lt_of_succ_le (Nat.le_of_lt_succ D);have N:x<=t:=Nat.le_of_lt_succ hj';rw[if_neg (a9J hj') (c:=t+1=x),if_pos (c:=x < t+1/\t+1<=k) #[hj',m],Nat.add_sub_cancel];rcases b9J i x with hi' | hi' | hi';. rw[if_neg (zC hi'),if_neg (λz=>Nat.lt_asymm z.1 hi')];exact v _ _ (zP hi' N) m
     . rw[if_pos hi'];exact b _ N m
     . obtain⟨h,rfl⟩:∃h,i=h+1:=#[i - 1,by lia]
       have T:h < t:=Nat.lt_of_succ_lt_succ r;rw[if_neg (a9J hi'),if_pos (c:=x < h+1/\h+1<=k) #[hi',xQ T m],Nat.add_sub_cancel];exact v _ _ T m
theorem k9 (S:Strict n lt) (h1:1<=n):Good n lt (λq=>Pm n q/\Up lt q n) (kas_sort n):=by
 unfold kas_sort;refine Good.bind ((dI S (show Pm n _ from .refl _) h1).mono λr z=>?_);obtain⟨a,b,c,d⟩:=z;have e:max r.1 1=r.1:=by lia
 rw[e];by_cases hr:r.1 < n;. rw[if_pos hr];exact Z7 S _ c (by lia) d
 . rw[if_neg hr];have e:r.1=n:=by lia
   rw[e] at d;exact#[c,d]
end
end L2
namespace L2
open PySem PySem.Spec PyProof.Rows PySem.W
def TupsN (h:cc) (vs:List ap) (ns:List Str):Prop:=
 vs.length=ns.length/\∀(i:Nat) (v:ap) (e:Str),vs[i]?=ak v->ns[i]?=ak e->∃(a:Addr) (o:cy) (n:Array ap) (k:Nat) (t:Tok),v=a0X a/\h.get? a=ak o/\o.cls = .type "tuple" /\ o.data = .seq n k/\n[0]?=ak (.str e t)
theorem TupsN.keep (t:TupsN h vs ns) (hk:∀b o,o.cls = .type "tuple" -> h.get? b=ak o->h'.get? b=ak o):TupsN h' vs ns:=#[t.1,λi v r j g=>let #[a,o,m,k,X,h1,n,G,e,Z]:=t.2 i v r j g;#[a,o,m,k,X,h1,hk a o G n,G,e,Z]]
theorem TupsN.kat :∀{vs:List ap}{ns:List Str},TupsN h vs ns->∃fs,KatTups h vs fs/\fs.length=ns.length/\∀v∈fs,∃x t,v=c0V x t
 | [],[],_=>#[[],trivial,rfl,λv N=>nomatch N]
 | [],_::_,t=>by have:=t.1;simp at this
 | _::_,[],t=>by have:=t.1;simp at this
 | v::vs,n::ns,t=>by obtain⟨a,o,c,k,X,rfl,r,G,m,Z⟩:=t.2 0 v n rfl rfl;obtain⟨fs,p,b,J⟩:=TupsN.kat (vs:=vs) (ns:=ns) #[by have:=t.1;simpa using this,λi v n j g=>t.2 (i+1) v n (by simpa using j) (by simpa using g)];exact#[_,KatTups.cons r G m Z p,by simp[b],λv N=>(yX.mp N).elim (λe=>#[_,_,e]) (J v)]
section
theorem pY (t:TupsN s.heap vs ns) (nd:ns.Nodup) (hi:i < ns.length) (m:j < ns.length) (D:i≠j) (h:C (decide ((ns.getD i "").cps.toList < (ns.getD j "").cps.toList)) s) :
   kas_ask prog w A (tuples' au) vs i j C s:=by
 unfold kas_ask;have X:=t.1;have f:vs[i]?=ak (vs.getD i a1Z):=by rw[yU,zV (by lia)];rfl
 have g:vs[j]?=ak (vs.getD j a1Z):=by rw[yU,zV (by lia)];rfl
 have B:ns[i]?=ak (ns.getD i ""):=by rw[yU,zV hi];rfl
 have G:ns[j]?=ak (ns.getD j ""):=by rw[yU,zV m];rfl
 have I:ns.getD i "" ≠ ns.getD j "" := λe=>by
   rw[yU,yU,zV hi,zV m] at e;rcases Nat.lt_or_gt_of_ne D with q | q;. exact List.pairwise_iff_getElem.mp nd i j hi m q e
   . exact List.pairwise_iff_getElem.mp nd j i m hi q e.symm
 generalize vs.getD i a1Z=v at f ⊢;generalize vs.getD j a1Z=u at g ⊢;obtain⟨a,o,p,k,x,rfl,z,L,Q,T⟩:=t.2 i v _ f B;obtain⟨b,Z,c,Y,y,rfl,S,U,J,M⟩:=t.2 j u _ g G;refine kat_lt z Q S J ?_;have N:p.toList[0]?=ak (.str (ns.getD i "") x):=by rw[b5Z];exact T
 have O:c.toList[0]?=ak (.str (ns.getD j "") y):=by rw[b5Z];exact M
 obtain⟨xr,hx⟩:∃r,p.toList = .str (ns.getD i "") x::r:=by
   cases n:p.toList with
   | nil=>rw[n] at N;cases N
   | cons q r=>rw[n] at N;cases N;exact#[r,rfl]
 obtain⟨yr,hy⟩:∃r,c.toList = .str (ns.getD j "") y::r:=by
   cases n:c.toList with
   | nil=>rw[n] at O;cases O
   | cons q r=>rw[n] at O;cases O;exact#[r,rfl]
 rw[hx,hy,a9Z];refine kat_cons (wpAny_eqBool_str ?_);rw[decide_eq_false I];refine kat_no ?_;show wpAny (model prog w) A (oneLt' au _ _) C (λ_ _=>False) s;exact oneLt_str h
theorem RS (ho:s.heap.get? a=ak (cw "list" vs.toArray n)) (t:TupsN s.heap vs ns) (nd:ns.Nodup) (L:vs.length < 64) (h:∀p:List Nat,p.Perm (a1X vs.length)->(∀i j,i < j->j < vs.length->(ns.getD (p.getD i 0) "").cps.toList < (ns.getD (p.getD j 0) "").cps.toList) ->
     P (.done (.ret .none)) { s with heap:=sortedHeap s.heap a vs (p.map λi=>vs.getD i a1Z).toArray }) :
   wpAny (model prog w) A (Builtin.«list.sort» #[[.ref a],[]]) P E s:=by
 have ha:a < s.heap.objs.size:=zM ho;rw[list_sort_plain];refine zZ (listItems_at ho rfl ?_);refine zZ (listUpdate_at ho rfl ?_ (by rw[zJ,cN];lia) (xT _));obtain⟨O,I⟩:∃O,(s.heap.update a (a7J λ_=>(#[]:Array ap))).get? a=ak (cw "list" #[] O):=#[_,get?_update_seq ho (λ_=>#[])]
 refine zZ (seqEpoch_at I rfl (zZ (wpAny_newTuple ?_ (by show vs.length<=_;rw[cN];lia))));refine zZ (g8 (bt ?_) (xT _));have hsz:vs.toArray.size=vs.length:=zJ ..;have M:∀b o,o.cls = .type "tuple" -> s.heap.get? b=ak o->(((s.heap.update a (a7J λ_=>(#[]:Array ap))).push (cw "tuple" vs.toArray 0)).push (cw "list" #[] 0)).get? b=ak o:=λb o hc q=>by
   have hb:b≠a:=λe=>by subst e;rw[ho] at q;cases q;exact absurd hc (show ¬(Value.type "list"=Value.type "tuple") by decide)
   refine zW _ (zW _ ?_);rw[yB _ _ _ _ hb];exact q
 have m:(((s.heap.update a (a7J λ_=>(#[]:Array ap))).push (cw "tuple" vs.toArray 0)).push (cw "list" #[] 0)).get? a=ak (cw "list" #[] O):=zW _ (zW _ I);show wpAny (model prog w) A _ P E { s with heap:=((s.heap.update a (a7J λ_=>(#[]:Array ap))).push (cw "tuple" vs.toArray 0)).push (cw "list" #[] 0) };dsimp only;by_cases f:vs.toArray.size < 2
 . rw[if_pos f,if_pos f];refine zZ (zY ?_);rw[StateT.run_pure];refine zZ (zY (zZ (seqEpoch_at m rfl ?_)));have U:(arrOf (SortSt.mk' general' (vs.toArray.zip vs.toArray) #[] 7 am)).map (·.2)=vs.toArray:=by show(vs.toArray.zip vs.toArray).map (·.2)=vs.toArray;apply Array.toList_inj.mp;rw[Array.toList_map,Array.toList_zip];exact List.map_snd_zip (zR _)
   rw[U];refine zZ (listUpdate_at m rfl ?_ (xT _) (by rw[zJ,cN];lia));simp only[bne_self_eq_false,b4Q,if_false];have:=h (a1X vs.length) (.refl _) (λi j r u=>by lia);have Z:(a1X vs.length).map (λi=>vs.getD i a1Z)=vs:=by
     apply b2X;intro i;rw[zF];by_cases hi:i < vs.length;. rw[xZ hi];simp[hi]
     . rw[a6K (by simp;lia),a6K (by lia)];rfl
   rw[Z] at this;exact zY this
 . rw[if_neg f,if_neg f];have y_:2<=vs.length:=by lia
   have X:=t.keep M;obtain⟨fs,q1,q2,q3⟩:=X.kat;refine zZ (kat_kind (T:=.type "str") q1 (by have:=t.1;lia) (λv hv=>?_) rfl ?_);. obtain⟨x,tt,rfl⟩:=q3 v hv;exact Looks.of_pure rfl
   have hn:vs.length=ns.length:=t.1;have S:Strict vs.length (λi j=>decide (i < vs.length)&&(decide (j < vs.length)&&decide ((ns.getD i "").cps.toList < (ns.getD j "").cps.toList))):=by
     refine#[λi=>?_,λi j k a b=>?_,λi j hi u r=>?_];. simp[List.lt_irrefl]
     . simp only[a0V,decide_eq_true_eq] at a b ⊢;exact#[a.1,b.2.1,List.lt_trans a.2.2 b.2.2]
     . simp only[a0V,decide_eq_true_eq,hi,u,true_and];have J:(ns.getD i "").cps.toList≠(ns.getD j "").cps.toList:=λe=>by
         have e':ns.getD i ""=ns.getD j "" := by generalize ns.getD i ""=x at e;generalize ns.getD j ""=y at e;obtain⟨⟨x⟩⟩:=x;obtain⟨⟨y⟩⟩:=y;simp at e;rw[e]
         rw[yU,yU,zV (by lia),zV (by lia)] at e';rcases Nat.lt_or_gt_of_ne r with q | q;. exact List.pairwise_iff_getElem.mp nd i j (by lia) (by lia) q e'
         . exact List.pairwise_iff_getElem.mp nd j i (by lia) (by lia) q e'.symm
       by_cases c:(ns.getD i "").cps.toList < (ns.getD j "").cps.toList;. exact .inl c
       . refine .inr ?_;rcases List.le_iff_lt_or_eq.mp (List.not_lt.mp c) with z | z;. exact z
         . exact absurd z.symm J
   refine zZ (bf (kat_run (ks:=vs) (G:=λp s'=>s'={ s with heap:=((s.heap.update a (a7J λ_=>(#[]:Array ap))).push (cw "tuple" vs.toArray 0)).push (cw "list" #[] 0) }/\Pm vs.length p/\Up _ p vs.length) (Q:=λg s'=>s'={ s with heap:=((s.heap.update a (a7J λ_=>(#[]:Array ap))).push (cw "tuple" vs.toArray 0)).push (cw "list" #[] 0) }/\failedOf g=am/\∃p:Array Nat,Pm vs.length p/\Up _ p vs.length/\(arrOf g).map (·.2)=List.toArray (p.toList.map λi=>vs.getD i a1Z))
     rfl y_ L (λp g s' a1 D B N=>#[N.1,B,p,N.2.1,N.2.2,kat_snds rfl D]) ((k9 S (by lia)).wp (λi j C hi u r hC=>?_) λp hp=>#[rfl,hp.1,hp.2])) ?_ λ_ _ e=>e)
   . refine pY X nd (by lia) (by lia) r ?_;simp only[hi,u,decide_true,b6Q] at hC;exact hC
   . rintro⟨⟨⟩,g⟩ s' ⟨rfl,hf,p,hp,hu,hm⟩;dsimp only;refine zZ (seqEpoch_at m rfl ?_);rw[hm];refine zZ (listUpdate_at m rfl ?_ (xT _) (by
       have z:=hp.length_eq;simp only[xY,a6Q] at z;simp only[zJ,zX,a6Q];rw[cN];lia));rw[hf];simp only[bne_self_eq_false,b4Q,if_false];refine zY (h p.toList hp λi j r u=>?_);have:=hu i j r u;simp only[a0V,decide_eq_true_eq] at this;have Y:∀k,p.toList.getD k 0=p.getD k 0:=λk=>by rw[yU,b6Z,b5Z]
     rw[Y,Y];exact this.2.2
theorem PY (r:s.heap.IsList l vs.toArray\/s.heap.IsTuple l vs.toArray) (h:Q vs { s with heap:=(s.heap.push (cw "list" #[] 0)).update s.heap.objs.size (a7J (·++vs.toArray)) }) (hsz:vs.length<=a0) :
   wpAny (model prog w) A (collect (.ref l)) Q E s:=by
 rcases r with r | ⟨o,ho,hc,n,hd⟩
 . exact collect_list r h hsz
 unfold collect;refine zZ (wpAny_runValue (codeAny_builtin entry_proto_collect' ?_));show wpAny _ _ (do again (.builtin "list.__iadd__" #[[<-newList [],.ref l],[]])) _ _ s;refine zZ (g8 (zY #[Code.quiet_builtin _ (by decide +kernel),codeAny_builtin entry_list_iadd' ?_]));show wpAny _ _ (Builtin.List.listExtendWith (.ref s.heap.objs.size) (.ref l) (.ref s.heap.objs.size)) _ _ { s with heap:=s.heap.push (cw "list" #[] 0) };unfold Builtin.List.listExtendWith;have e:(s.heap.push (cw "list" #[] 0)).get? l=ak o:=zW _ ho;refine zZ (ga (T:= "tuple") #[o,e,hc] ?_);have t:(Value.type "tuple" == Value.type "tuple")=true:=by rfl
 rw[if_pos (by rw[t];simp)];refine zZ (listItems_at e hd ?_);refine zZ (listItems_at (xs:=#[]) (n:=0) (yZ _ rfl) rfl ?_);rw[if_neg (by simp)];refine zZ (listUpdate_at (xs:=#[]) (n:=0) (yZ _ rfl) rfl ?_ (xT _) (by show(#[]++vs.toArray).size<=a0+1;simp only[Array.size_append,zJ,b6W];lia));refine zY ?_;show wpAny (model prog w) A (do
     let o <- load s.heap.objs.size
     match o.data with
     | .seq xs _=>pure xs.toList
     | _=>unsupported "internal:collect") Q E { s with heap:=(s.heap.push (cw "list" #[] 0)).update s.heap.objs.size (a7J (·++vs.toArray)) };refine zZ (wpAny_load (get?_update_seq (yZ _ rfl) _) ?_);show wpAny _ _ (pure ((#[]:Array ap)++vs.toArray).toList) Q E _;rw[show((#[]:Array ap)++vs.toArray).toList=vs by simp];exact zY h
theorem Z8 (g:s.heap.IsList l vs.toArray\/s.heap.IsTuple l vs.toArray) (t:TupsN s.heap vs ns) (nd:ns.Nodup) (c:vs.length < 64) (h:∀p:List Nat,p.Perm (a1X vs.length)->(∀i j,i < j->j < vs.length->(ns.getD (p.getD i 0) "").cps.toList < (ns.getD (p.getD j 0) "").cps.toList) ->
     Q (.ref (s.heap.objs.size+1)) { s with heap:=sortedAll s.heap vs (p.map λi=>vs.getD i a1Z).toArray }) :
   wpAny (model prog w) A (call (.builtin "sorted") [.ref l]) Q E s:=by
 refine b8Q kind_sorted plain_sorted entry_sorted (args_sorted1 _) ?_;unfold Builtin.«sorted»;refine zZ (m:=checkCount "sorted" 1 1 _) (zY (zZ (PY g (zZ (g8 ?_ (by rw[cN];lia))) (by rw[cN];lia))));generalize hH:(s.heap.push (cw "list" #[] 0)).update s.heap.objs.size (a7J (·++vs.toArray))=e;have hsz:e.objs.size=s.heap.objs.size+1:=by rw[<-hH,Heap.size_update,size_push']
 have old:∀b o,s.heap.get? b=ak o->(e.push (cw "list" vs.toArray 0)).get? b=ak o:=λb o q=>by refine zW _ ?_;rw[<-hH,yB _ _ _ _ (zC (zM q))];exact zW _ q
 have n:(e.push (cw "list" vs.toArray 0)).get? (s.heap.objs.size+1)=ak (cw "list" vs.toArray 0):=by rw[<-hsz];exact yZ _ rfl
 show wpAny _ _ _ _ _ { s with heap:=e.push (cw "list" vs.toArray 0) };rw[hsz];refine zZ (bt (ce slot_list_sort #[_,n,rfl] entry_list_sort (RS n (t.keep λb o _ q=>old b o q) nd c λp r f=>#[_,rfl,?_]) (args_list_sort _)));have:=h p r f;unfold sortedAll at this;rw[hH] at this;exact zY #[_,rfl,this]
theorem Z9{prog:bn}{w:bj}{A:bx}{E:ap->av->Prop}{s:av} {ss:List Str}(hh:A.handled=am) (hd:(d==c0)=aB) (dd:s.heap.DictOf (AV prog w) d kvs) (hk:kvs.map (·.1)=ss.map a1W) (D:ss.length < 64) (h:∀(h1 h':cc) (tk:Nat) (out:List ap) (e:Nat) (p:List Str),(∀b o,s.heap.get? b=ak o->h1.get? b=ak o)->(∀b o,h1.get? b=ak o->h'.get? b=ak o)->h'.get? h1.objs.size=ak (cw "list" out.toArray e)->StrsAre out p->p.Perm ss->sortedS p=au->Q (.ref h1.objs.size) { s with heap:=h',toks:=tk }) :
   wpAny (model prog w) A (call (.builtin "sorted") [.ref d]) Q E s:=by
 refine b8Q kind_sorted plain_sorted entry_sorted (args_sorted1 _) ?_;obtain⟨ep,yd⟩:=dd.dictAt;have T:kvs.length=ss.length:=by have:=congrArg b9W hk;simpa using this
 unfold Builtin.«sorted»;refine zZ (m:=checkCount "sorted" 1 1 _) (zY (zZ (kdu_collect (A:=A.in1) (kdl_dict (kvs:=kvs) (ep:=ep) hd) hh yd (by rw[T,cN];lia) λh' tk acc hold Z=>?_)));have c:acc.toList.length=ss.length:=by rw[a6Q,Z.1,T]
 have hS:StrsAre acc.toList ss:=by
   have X:∀(r:List ap) (n:List Str),r.length=n.length->(∀(i:Nat) v x,r[i]?=ak v->n[i]?=ak x->∃t,v=c0V x t)->StrsAre r n:=by
     intro r;induction r with
     | nil=>intro n u _;cases n with
       | nil=>exact .nil
       | cons _ _=>simp at u
     | cons v r Y=>intro n u O;cases n with
       | nil=>simp at u
       | cons x n=> obtain⟨t,rfl⟩:=O 0 v x rfl rfl;exact .cons x t (Y n (by simpa using u) λi v x j g=>O (i+1) v x (by simpa using j) (by simpa using g))
   refine X _ _ c λi v x j g=>?_;obtain⟨k,y,B,G⟩:=Z.2 i v (by rw[<-b5Z];exact j);have N:(kvs.map (·.1))[i]?=ak k:=by rw[zF,B];rfl
   rw[hk,zF,g] at N;cases N;have M:PN (.inr x) v=true:=G;rcases BA M with ⟨i,t,e,_⟩ | ⟨z,t,e,e'⟩
   . cases e
   . cases e;exact#[t,e']
 refine zZ (g8 ?_ (by rw[c,cN];lia));have f:(h'.push (cw "list" acc.toList.toArray 0)).get? h'.objs.size=ak (cw "list" acc.toList.toArray 0):=yZ _ rfl;show wpAny _ _ _ _ _ { s with heap:=h'.push (cw "list" acc.toList.toArray 0),toks:=tk };refine zZ (bt (ce (s:={ s with heap:=h'.push (cw "list" acc.toList.toArray 0),toks:=tk }) slot_list_sort #[_,f,rfl] entry_list_sort (list_sort_treeK strKind_oneLt f hS.keysOf (λL S rest e=>keyKind_strs (by rw[<-e];exact hS)) (by rw[c];exact D) λI hp hs=>#[_,rfl,?_]) (args_list_sort _)));obtain⟨p,h1,J,U⟩:=sorted_out_str hS hp hs;obtain⟨e,he⟩:=sortedHeap_at (out:=(arrOf I).map (·.2)) f;refine zY #[_,rfl,h h' _ tk ((arrOf I).map (·.2)).toList e p hold (λb o q=>?_) (by rw[Array.toArray_toList];exact he) h1 J U];have lt:b < h'.objs.size:=zM q;rw[sortedHeap_old (zC lt) (by rw[size_push'];exact b9K lt)];exact zW _ q
end
end L2
namespace L2
open PySem PySem.Spec PyProof.Rows
def tlD (prog:bn) (w:bj) (A:bx) (U n:bp):ic->Addr->(av->Prop)->av->Prop:=λenv D P s=>wpAny (model prog w) A (eval U env) (λkv e=>wpAny (model prog w) A (eval n env) (λi v=>wpAny (model prog w) A (dictSet D kv i) (λ_ t=>P t) (λ_ _=>False) v) (λ_ _=>False) e) (λ_ _=>False) s
theorem wZ :WA prog w A (.DictComp m f [#[target,iter,ifs,0]] scope pos) target ifs (tlD prog w A m f):=by
 intro L D env R I turn n s h;refine codeAny_loop rfl I (λn s hI=>?_) n h;show wpAny _ A ((compTurn (.DictComp m f [#[target,iter,ifs,0]] scope pos) 0 (.ref L) (.ref D) env).onRaise (λx=>do gg x env;theTreesLotGoes x)) _ _ s;refine wpAny_noted ?_;rw[compTurn_dict];refine zZ (bv (zZ (bf (AN (turn n s hI)) (λr y c=>?_) λ_ _ b=>b)));cases r with
 | none=>exact zY c
 | some v=>
   refine zZ (bf (AN c) (λ_ g p=>?_) λ_ _ b=>b);refine zZ (bf (AN p) (λ_ G U=>zZ (bf (AN U) (λok S e=>?_) λ_ _ b=>b)) λ_ _ b=>b);cases ok with
   | false=>exact zY #[rfl,e]
   | true=> exact zZ (zZ (bf (AN e) (λkv j X=>zZ (bt (bf (AN X) (λu k t=>zZ (bv (bt (bf (AN t) (λ_ q i=>zY #[rfl,i]) λ_ _ b=>b)))) λ_ _ b=>b))) λ_ _ b=>b))
theorem A3D {n:St} (I:Inv X pins n H s) (e:H a=ak (.dK kvs)) (l:kvs.length < a0) (c:RelV (kV k) u) (S:RelV v r) (h:∀s',Inv X pins n (upd H a (.dK (EX kvs k v))) s'->Q () s'):wpAny (model X.prog X.w) A (dictSet a u r) Q E s:=by
 obtain⟨z,hd,f,rel,i⟩:=YH I.hok e;have p:f.length<=sizeLine:=by rw[<-rel.length];exact z
 have m:(EX kvs k v).length<=sizeLine:=by have:=G9 kvs k v;lia
 refine wpAny_dictSet_pairs (hsz:=p) (LO c) i λb t hs=>h _ ?_;have he:∃q,b.get? a=ak q:=let #[q,_,_,hq,_]:=t;#[q,hq];exact KR I (by rw[e];exact a8J) hs he (OG m hd (rel.put k S) t)
def RT (q:List (Option Nat)) (X:TI) (g:TG) (T:TT) (tk N:TE):TE:=λn H Q=>X n H λJ r=>∀D,r D=am->∃W:Nat->Nat->List (Key×V)->Hp->Prop,(∃m,W 0 m [] (upd r D (.dK []))) /\∀i m j f,W i m j f->f D=ak (.dK j)/\((J.stop i f/\Q (.ref D) f)\/(J.go i f/\∀x p,J.yld i f x p->g x (capt q n) p λt u=>
   (∀(i:Nat) v,(capt q n)[i]?=ak (ak v)->t[i]?=ak (ak v))/\T t u λc b=>if c=au then tk t b λx z=>N t z λy h=>∃O k,x=kV k/\h D=ak (.dK O)/\O.length < a0/\∃e,e < m/\W (i+1) e (EX O k y) (upd h D (.dK (EX O k y)))
     else ∃O e,e < m/\W (i+1) e O b))
section
variable {X:Cx}{scope:eN}{NC:List Str}{fr:List (Option Nat)}{pins:List (Addr×cy)}{σ:St}{H:Hp}{s:av}
theorem V6  (hc:X.calm=au) (S:CSc X scope NC fr) (hi:PI X r iter u) (hb:∀(C:Addr) (s:av) (H:Hp) (p:List Addr) (pn:List (Addr×cy)),PG (AT X scope NC C s H p pn) r g/\PTs (AT X scope NC C s H p pn) ifs j/\PE (AT X scope NC C s H p pn) U tk/\PE (AT X scope NC C s H p pn) c i) (I:Inv X pins σ H s) (hu:X.A.units+1 < eh) (h:RT fr u g j tk i σ H Q) (fin:A2U X pins σ use Q QQ) (hs:∀x,ca iter X.env x=pure x) :
   wpAny (model X.prog X.w) X.A (hX (.DictComp U c [#[r,iter,ifs,0]] scope pos) scope X.env Z newDict aB (eval iter X.env) use) QQ X.xe s:=by refine OJ (y0:=[]) (at_:=.dK) (Ty:= "dict") (dt:=.dict #[]) (tl:=tlD X.prog X.w X.A U c) (el:=λD m W t B=>tk t B λx G=>i t G λy f=>∃O k,x=kV k/\f D=ak (.dK O)/\O.length < a0/\∃e,e < m/\W e (EX O k y) (upd f D (.dK (EX O k y)))) rfl rfl (by size_fits) (λH h b=>RE h b) wZ codeAny_compStart_dict hc S hi (λC s H p pn=>#[(hb C s H p pn).1,(hb C s H p pn).2.1,λvi s' σ H' D n W P I q k=>?_]) I h fin hs;refine thn ((hb C s H p pn).2.2.1 _ s' σ H' _ I q) λyk v #[kv,z,T,N,L]=>thn ((hb C s H p pn).2.2.2 _ v σ z _ T L) ?_;rintro yv Cc ⟨vv,La,M,Y,O,kk,ek,hD,hsz,e,vq,w'⟩;subst ek;exact A3D (X:=AT X scope NC C s H p pn) M hD hsz N Y λs' J=>k e _ _ _ vq w' J
theorem pZ {U e iter r:bp}{ifs:List bp}{pos:en}{n:TI}{g:TG}{c:TT}{tk t:TE}(hc:X.calm=au) (hu:X.A.units+1 < eh) (S:CSc X scope NC fr) (hi:PI X r iter n) (hb:∀(C:Addr) (s:av) (H:Hp) (p:List Addr) (pn:List (Addr×cy)),PG (AT X scope NC C s H p pn) r g/\PTs (AT X scope NC C s H p pn) ifs c/\PE (AT X scope NC C s H p pn) U tk/\PE (AT X scope NC C s H p pn) e t) (hs:∀x,ca iter X.env x=pure x:=by intro _;rfl):PE X (.DictComp U e [#[r,iter,ifs,0]] scope pos) (RT fr n g c tk t):=by intro pins s σ H Q I h;rw[arm_eval_DictComp];refine V6 (use:=am) (Q:=Q) hc S hi hb I hu h (λD C H' s' m j i hn q back _ b f=>?_) hs;exact#[.ref D,H',back pins σ H' s' b i f,rfl,q]
end
end L2
namespace L2
open PySem PySem.Spec PyProof.Rows PySem.W
def qD (K:Frg):List V->Hp->VK->Prop:=λn H Q=>∃(p:Addr) (O:List (Addr×Str×List V)),n=[.ref p]/\(SqL K H p (O.map λe=>V.ref e.1)\/SqT K H p (O.map λe=>V.ref e.1))/\(∀e∈O,SqT K H e.1 (.str e.2.1::e.2.2))/\(O.map λe=>e.2.1).Nodup/\O.length < 64 /\∀(t:List (Addr×Str×List V)) (q:Addr),t.Perm O->t.Pairwise (λx y=>x.2.1.cps.toList < y.2.1.cps.toList)->H q=am->Q (.ref q) (upd H q (.lst (t.map λe=>V.ref e.1)))
def qE:List V->Hp->VK->Prop:=λt H Q=>∃(p:Addr) (kvs:List (Key×V)) (e:List Str),t=[.ref p]/\Rd H p (.dK kvs)/\kvs.map (·.1)=e.map a1W/\e.length < 64 /\∀(i:List Str) (q:Addr),i.Perm e->sortedS i=au->H q=am->Q (.ref q) (upd H q (.lst (i.map V.str)))
def OO (K:Frg):List V->Hp->VK->Prop:=λt H Q=>WI K t H Q\/qD K t H Q\/qE t H Q
section
theorem V7:∀{es:List (Addr×Str×List V)}{n:List ap},Vals (es.map λe=>V.ref e.1) n->n=es.map λe=>a0X e.1
 | [],_,.nil=>rfl
 | _::_,_,.cons r t=>by rw[V7 t];cases r;rfl
theorem V8:∀{es:List (Addr×Str×List V)},Vals (es.map λe=>V.ref e.1) (es.map λe=>a0X e.1)
 | []=>.nil
 | _::_=>.cons rfl V8
theorem dJ:D9 X (.builtin "sorted") (qD X.K):=by
 intro pins s σ H xs us Q I r h;obtain⟨p,O,rfl,hp,ht,nd,B,q⟩:=h;obtain⟨u,rfl,ru⟩:=JB r;cases ru;obtain⟨f,S,Y⟩:∃f:List ap,Vals (O.map λe=>V.ref e.1) f/\(s.heap.IsList p f.toArray\/s.heap.IsTuple p f.toArray):=by
   rcases hp with hp | hp;. obtain⟨f,S,Y,_⟩:=I.list hp;exact#[f,S,.inl Y.isList]
   . obtain⟨f,S,Y,_⟩:=I.tuple hp;exact#[f,S,.inr Y]
 have ei:=V7 S;subst ei;have tn:TupsN s.heap (O.map λe=>a0X e.1) (O.map λe=>e.2.1):=by
   refine#[by simp,λi v nm z N=>?_];rw[zF] at z N;cases he:O[i]? with
   | none=>rw[he] at z;cases z
   | some e=>
     rw[he] at z N;cases z;cases N;obtain⟨js,rj,⟨o,ho,hc,n,hd⟩,_⟩:=I.tuple (ht e (yN he));cases rj with
     | cons r0 _=> obtain⟨t,rfl⟩:=r0;exact#[e.1,o,_,n,t,rfl,ho,hc,hd,by simp]
 refine Z8 Y tn nd (by simpa using B) λm h1 G=>?_;simp only[zX] at h1 G;obtain⟨e,he⟩:=sortedAll_at s.heap (O.map λe=>a0X e.1) (m.map λi=>(O.map λe=>a0X e.1).getD i a1Z).toArray;have hn:H (s.heap.objs.size+1)=none:=I.hok.fresh (a5Z _);obtain⟨c,T⟩:∃c:List (Addr×Str×List V),c=m.filterMap λi=>O[i]?:=#[_,rfl]
 have M:∀i∈m,i < O.length:=λi hi=>List.mem_range.mp (h1.mem_iff.mp hi);have D:∀(l:List Nat),(∀i∈l,i < O.length)->(l.filterMap λi=>O[i]?)=l.attach.map λi=>O.getD i.1 (0, "", []):=λl=>by
   intro L;induction l with
   | nil=>rfl
   | cons a l ih=> have J:=L a (by simp);rw[a4V,zV J];simp only[List.attach_cons,zI,zD];rw[ih λi hi=>L i (yV _ hi)];simp[yU,zV J]
 have U:c=m.map λi=>O.getD i (0, "", []):=by rw[T,D m M];simp
 have perm:c.Perm O:=by
   rw[T];refine(h1.filterMap _).trans ?_;rw[show((a1X O.length).filterMap λi=>O[i]?)=O from ?_];apply b2X;intro i;have:((a1X O.length).filterMap λi=>O[i]?)=(a1X O.length).map λi=>O.getD i (0, "", []):=by rw[D _ λi hi=>List.mem_range.mp hi];simp
   rw[this,zF];by_cases hi:i < O.length;. rw[xZ hi];simp[hi]
   . rw[a6K (by simp;lia),a6K (by lia)];rfl
 have outs:(m.map λi=>(O.map λe=>a0X e.1).getD i a1Z)=c.map λe=>a0X e.1:=by rw[U,zD];apply yM;intro i hi;have hi:=M i hi;simp[yU,zF,zV hi]
 have Ln:m.length=O.length:=by have:=h1.length_eq;simpa using this
 have srt:c.Pairwise (λx y=>x.2.1.cps.toList < y.2.1.cps.toList):=by
   rw[U,b0Q,List.pairwise_iff_getElem];intro i j hi hj bh;have:=G i j bh (by lia);have g:∀k (hk:k < m.length),(O.map λe=>e.2.1).getD (m.getD k 0) (a0Q "")=(O.getD m[k] (0, "", [])).2.1:=λk hk=>by have Z:=M m[k] (a1V hk);rw[yU (l:=m),zV hk];simp[yU,zF,zV Z]
   rw[g i hi,g j hj] at this;exact this
 rw[outs] at he ⊢;refine#[.ref (s.heap.objs.size+1),_,I.laid (t':=s.toks) (o:=.lst (c.map λe=>V.ref e.1)) (λb o eb=>sortedAll_old eb) (a5Z _) ?_,rfl,q c _ perm srt hn];refine#[by rw[zX,perm.length_eq];exact zN (xR B) `kh,c.map λe=>a0X e.1,e,V8,?_];have T:=he;simpa [cw] using T
theorem dL (hc:X.calm=au):D9 X (.builtin "sorted") qE:=by
 intro pins s y H S O Q I r h;obtain⟨p,kvs,v,rfl,hp,hk,n,q⟩:=h;obtain⟨u,rfl,T⟩:=JB r;cases T;obtain⟨z,hd,x,rel,m⟩:=N8 I.hok hp;have f:x.map (·.1)=v.map a1W:=by
   rw[<-hk];clear hk m z hp q;unfold KV at rel;induction rel with
   | nil=>rfl
   | cons h t j=>simp[h.1,j]
 refine Z9 (I.ok.hd hc) hd m f n λh1 h' b out e i N k ho hS c g=>?_;have J:Inv X pins y H { s with heap:=h1,toks:=b }:=I.kept N;have hn:H h1.objs.size=none:=J.hok.fresh (zR _);refine#[.ref h1.objs.size,_,J.laid (t':=b) (o:=.lst (i.map V.str)) (h':=h') k (zR _) ?_,rfl,q i _ c g hn];refine#[by rw[zX,c.length_eq];exact zN (xR n) `kh,out,e,gH hS,?_];simpa [cw] using ho
theorem dM (hc:X.calm=au):D9 X (.builtin "sorted") (OO X.K):=by
 intro pins s e H t v Q I r h;rcases h with h | h | h;. exact cT pins s e H t v Q I r h
 . exact dJ pins s e H t v Q I r h
 . exact dL hc pins s e H t v Q I r h
end
end L2
namespace DL
open PySem PySem.Spec L2
def AG (ts:List (Str×PyData)):List (PyData×PyData):=ts.map λt=>(a0Z t.1,t.2)
def G6 (ts:List (Str×PyData)) (k:Str) (d:PyData):List (Str×PyData):=
 if (ts.any λt=>decide (t.1=k))=au then ts.map (λt=>if t.1=k then (t.1,d) else t) else ts++[(k,d)]
def V9 (ts:List (Str×PyData)) (k:Str):List (Str×PyData):=ts.filter λt=>decide (t.1≠k)
def B3:List (Str×PyData)->Str->Option PyData
 | [],_=>am
 | t::r,k=>if t.1=k then ak t.2 else B3 r k
section
theorem CF :DKV K H W (AG (t::ts)) ks↔∃v r,ks=(a1W t.1,v)::r/\DV K H W t.2 v/\DKV K H W (AG ts) r:=by
 unfold AG;rw[zI];constructor
 . intro h;unfold DKV at h;obtain⟨p,v,r,e,g,h1,n⟩:=h;cases p with
   | inl i=>cases g
   | inr x=>
     have m:t.1=x:=by simpa [A4W] using g
     subst m;exact#[v,r,e,h1,n]
 . rintro⟨v,r,e,h1,n⟩;unfold DKV;exact#[a1W t.1,v,r,e,rfl,h1,n]
theorem EI :DKV K H W (AG []) ks↔ks=[]:=by unfold AG;simp only[b8X];unfold DKV;exact Iff.rfl
theorem ZA:∀{ts:List (Str×PyData)}{ks:List (Key×V)},DKV K H W (AG ts) ks->ks.map (·.1)=(ts.map (·.1)).map a1W
 | [],ks,h=>by rw[EI.mp h];rfl
 | t::ts,ks,h=>by obtain⟨v,r,rfl,_,n⟩:=CF.mp h;simp[ZA n]
theorem gL :∀{ts:List (Str×PyData)}{ks:List (Key×V)},DKV K H W (AG ts) ks->(ks.any λkv=>decide (kv.1=a1W k))=ts.any λt=>decide (t.1=k)
 | [],ks,h=>by rw[EI.mp h];rfl
 | t::ts,ks,h=>by
   obtain⟨v,r,rfl,_,n⟩:=CF.mp h;rw[b3V,b3V,gL n];congr 1;by_cases e:t.1=k;. rw[decide_eq_true e,decide_eq_true (by rw[e])]
   . rw[decide_eq_false e,decide_eq_false λq=>e (by injection q)]
theorem RU (hd:DV K H W d v):∀{ts:List (Str×PyData)}{ks:List (Key×V)},DKV K H W (AG ts) ks ->
   DKV K H W (AG (ts.map λt=>if t.1=k then (t.1,d) else t)) (ks.map λkv=>if kv.1=a1W k then (kv.1,v) else kv)
 | [],ks,h=>by rw[EI.mp h];exact EI.mpr rfl
 | t::ts,ks,h=>by
   obtain⟨u,r,rfl,h1,n⟩:=CF.mp h;rw[zI,zI];by_cases e:t.1=k;. rw[if_pos e,if_pos (by rw[e])];exact CF.mpr #[v,_,rfl,hd,RU hd n]
   . rw[if_neg e,if_neg λq=>e (by injection q)];exact CF.mpr #[u,_,rfl,h1,RU hd n]
theorem ZB (hd:DV K H W d v):∀{ts:List (Str×PyData)}{ks:List (Key×V)},DKV K H W (AG ts) ks->DKV K H W (AG (ts++[(k,d)])) (ks++[(a1W k,v)])
 | [],ks,h=>by rw[EI.mp h];exact CF.mpr #[v,[],rfl,hd,EI.mpr rfl]
 | t::ts,ks,h=>by obtain⟨u,r,rfl,h1,n⟩:=CF.mp h;exact CF.mpr #[u,_,rfl,h1,ZB hd n]
theorem gN (h:DKV K H W (AG ts) ks) (hd:DV K H W d v):DKV K H W (AG (G6 ts k d)) (EX ks (a1W k) v):=by
 unfold G6 EX;rw[gL h];by_cases c:(ts.any λt=>decide (t.1=k))=au;. rw[if_pos c,if_pos c];exact RU hd h
 . rw[if_neg c,if_neg c];exact ZB hd h
theorem RV :∀{ts:List (Str×PyData)}{ks:List (Key×V)},DKV K H W (AG ts) ks->DKV K H W (AG (V9 ts k)) (N6 ks (a1W k))
 | [],ks,h=>by rw[EI.mp h];exact EI.mpr rfl
 | t::ts,ks,h=>by
   obtain⟨u,r,rfl,h1,n⟩:=CF.mp h;have Q:=RV (k:=k) n;unfold V9 N6 at Q ⊢;by_cases e:t.1=k;. rw[a8V,a8V,if_neg (by simp[e]),if_neg (by simp[e])];exact Q
   . rw[a8V,a8V,if_pos (by simpa using e),if_pos (by simp;exact e)];exact CF.mpr #[u,_,rfl,h1,Q]
theorem DD :∀{ts:List (Str×PyData)}{ks:List (Key×V)},DKV K H W (AG ts) ks->(∃d v,B3 ts k=ak d/\G5 ks (a1W k)=ak v/\DV K H W d v)\/(B3 ts k=am/\G5 ks (a1W k)=am)
 | [],ks,h=>by rw[EI.mp h];exact .inr #[rfl,rfl]
 | t::ts,ks,h=>by
   obtain⟨u,r,rfl,h1,i⟩:=CF.mp h;by_cases e:t.1=k;. exact .inl #[t.2,u,by simp[B3,e],N7 (by rw[e]),h1]
   . have e':¬(a1W t.1:Key)=a1W k:=λq=>e (by injection q);rcases DD (k:=k) i with ⟨d,v,m,f,n⟩ | ⟨m,f⟩
     . exact .inl #[d,v,by simp[B3,e,m],by rw[JS (p:=(a1W t.1,u)) e'];exact f,n]
     . exact .inr #[by simp[B3,e,m],by rw[JS (p:=(a1W t.1,u)) e'];exact f]
theorem QM:∀{kvs:List (PyData×PyData)}{ks:List (Key×V)},DKV K H W kvs ks->ks.length=kvs.length
 | [],ks,h=>by unfold DKV at h;subst h;rfl
 | (k,d)::r,ks,h=>by unfold DKV at h;obtain⟨_,_,_,rfl,_,_,n⟩:=h;simp[QM n]
end
section
theorem FG (h:DE K td ρ M λx M1=>DE K ty ρ M1 λy t=>∃(a:Addr) (ts:List (Str×PyData)) (k:Str) (d:PyData),x = .loc a/\y = .d (.str k)/\t a=ak (.d (AG ts))/\B3 ts k=ak d/\Q (.d d) t):DE K (fW td ty) ρ M Q:=λp H QQ R N=>
 h p H _ R λv b x M1 S n r h1=>h1 p b _ (R.step S r) λu c y t i I B T=>by
   obtain⟨a,ts,k,d,rfl,rfl,m,l,q⟩:=T;unfold SI at n;subst n;rw[BC I];obtain⟨O,j,z⟩:=i a _ m;rcases DD (k:=k) z with ⟨J,G,e,f,g⟩ | ⟨e,f⟩
   . rw[l] at e;cases e;exact#[a,G,rfl,.inl #[O,a1W k,.inl j,rfl,f.symm],N _ c (.d d) t i g (r.trans B) q]
   . rw[l] at e;cases e
theorem HC (h:DE K td ρ M λx M1=>DE K ty ρ M1 λy e=>∃(ts:List (Str×PyData)) (k:Str) (d:PyData),x = .d (.dict (AG ts))/\y = .d (.str k)/\B3 ts k=ak d/\Q (.d d) e):DE K (fW td ty) ρ M Q:=λr H QQ R T=>
 h r H _ R λv p x M1 S I t h1=>h1 r p _ (R.step S t) λu b y e O B n z=>by
   obtain⟨ts,k,d,rfl,rfl,l,q⟩:=z;have i:=I.step n;unfold SI DV at i;obtain⟨a,N,rfl,nw,j,g⟩:=i;rw[BC B];rcases DD (k:=k) g with ⟨J,G,m,f,c⟩ | ⟨m,f⟩
   . rw[l] at m;cases m;exact#[a,G,rfl,.inl #[N,a1W k,j,rfl,f.symm],T _ b (.d d) e O c (t.trans n) q]
   . rw[l] at m;cases m
theorem QN (h:DE K ty ρ M λy M1=>DE K td ρ M1 λx e=>∃(a:Addr) (ts:List (Str×PyData)) (k:Str),x = .loc a/\y = .d (.str k)/\e a=ak (.d (AG ts))/\Q (.d (.bool (B3 ts k).isSome)) e):DE K (v9 ty td) ρ M Q:=λb H QQ R N=>
 h b H _ R λv c x M1 S O p h1=>h1 b c _ (R.step S p) λu g y e i r I T=>by
   obtain⟨a,ts,k,rfl,rfl,m,q⟩:=T;unfold SI at r;subst r;rw[BC O];obtain⟨n,j,z⟩:=i a _ m;refine#[a,G5 n (a1W k),rfl,.inl #[n,a1W k,.inl j,rfl,rfl],N _ g _ e i ?_ (p.trans I) q];rcases DD (k:=k) z with ⟨G,J,t,f,B⟩ | ⟨t,f⟩
   . rw[t,f];exact AK
   . rw[t,f];exact AK
theorem BG (h:DE K tv ρ M λz M1=>DE K td ρ M1 λx i=>DE K ty ρ i λy B=>∃(a:Addr) (ts:List (Str×PyData)) (k:Str) (d:PyData),z = .d d/\x = .loc a/\y = .d (.str k)/\B a=ak (.d (AG ts))/\ts.length < a0/\D.nx ρ (B.put a (.d (AG (G6 ts k d))))):DSt K (A1G td ty tv) ρ M D:=λe H E R L k2 k3 k4=>
 h e H _ R λv f z M1 U Z t h1=>h1 e f _ (R.step U t) λu T x i X b n S=>S e T _ (R.step X (t.trans n)) λyv N y B p s3 c G=>by
   obtain⟨a,ts,k,d,rfl,rfl,rfl,m,J,q⟩:=G;unfold SI at b;subst b;rw[BC s3];obtain⟨r,I,g⟩:=p a _ m;have hd:DV K N B.W d v:=DV.grow (n.trans c).grow Z;obtain⟨Y,t4⟩:=FD p m (gN (k:=k) g hd);have O:r.length < sizeLine:=by rw[QM g];unfold AG;rw[zX];exact J
   have j:=((t.trans n).trans c).trans t4;exact#[a,_,rfl,.inl #[r,a1W k,I,rfl,O,rfl],L ρ _ e _ (R.step Y j) j q]
theorem gQ (h:DE K td ρ M λx M1=>DE K ty ρ M1 λy e=>∃(a:Addr) (ts:List (Str×PyData)) (k:Str),x = .loc a/\y = .d (.str k)/\e a=ak (.d (AG ts))/\(B3 ts k).isSome=au/\D.nx ρ (e.put a (.d (AG (V9 ts k))))):DSt K (A1H td ty) ρ M D:=λt H E R N X Y Z=>
 h t H _ R λv b x M1 S r p h1=>h1 t b _ (R.step S p) λu J y e i I B z=>by
   obtain⟨a,ts,k,rfl,rfl,m,l,q⟩:=z;unfold SI at r;subst r;rw[BC I];obtain⟨T,c,g⟩:=i a _ m;obtain⟨O,G⟩:=FD i m (RV (k:=k) g);have j:=(p.trans B).trans G;refine#[a,T,a1W k,rfl,c,rfl,?_,N ρ _ t _ (R.step O j) j q];rcases DD (k:=k) g with ⟨U,w',n,f,L⟩ | ⟨n,f⟩
   . rw[f];rfl
   . rw[n] at l;cases l
theorem QO (h:DE K td ρ M λx M1=>∃(a:Addr) (n:List (Str×PyData)),x = .loc a/\M1 a=ak (.d (AG n))/\DE K ty ρ M1 λy t=>∃(ts:List (Str×PyData)) (k:Str) (d:PyData),y = .d (.str k)/\t a=ak (.d (AG ts))/\B3 ts k=ak d/\Q (.d d) (t.put a (.d (AG (V9 ts k))))):DE K (nN td ty) ρ M Q:=λc H QQ R B=>
 h c H _ R λv j x M1 S r p h1=>by
   obtain⟨a,n,rfl,J,h1⟩:=h1;unfold SI at r;subst r;obtain⟨z,N,_⟩:=S a _ J;refine#[a,rfl,.inl #[z,.inl N],h1 c j _ (R.step S p) λu Z y t i U X I=>?_];obtain⟨ts,k,d,rfl,m,l,q⟩:=I;rw[BC U];obtain⟨G,O,g⟩:=i a _ m;rcases DD (k:=k) g with ⟨d',Y,e,f,T⟩ | ⟨e,f⟩
   . rw[l] at e;cases e;obtain⟨L,b⟩:=FD i m (RV (k:=k) g);exact#[G,a1W k,Y,O,rfl,f,B _ _ (.d d) _ L (DV.grow b.grow T) ((p.trans X).trans b) q]
   . rw[l] at e;cases e
theorem qF (m:M a=ak (.d (AG ts))) (e:ts.length < 64) (q:∀ss:List Str,ss.Perm (ts.map (·.1))->xG ss=au->Q (.d (.list (ss.map .str))) M):DR K (OO K) [.loc a] M Q:=λH f QQ z s k=>by obtain⟨v,r,rfl,h1,n⟩:=s;cases n;unfold SI at h1;subst h1;obtain⟨c,j,t⟩:=z a _ m;refine .inr (.inr #[a,c,ts.map (·.1),rfl,.inl j,ZA t,by rw[zX];exact e,λi p G b hp=>?_]);have g:Grow K M.W M.W H (upd H p (.lst (i.map V.str))):=AZ _ hp;refine k _ _ (.d (.list (i.map .str))) M (z.new hp) ?_ #[g] (q i G b);unfold SI DV;exact#[p,_,rfl,.inl #[λw=>w (z.none hp),.inl AF],GD]
def OP (t:Str×List PyData):PyData:=.tuple (.str t.1::t.2)
theorem ZC :∀{ts:List (Str×List PyData)}{vs:List V},DVs K H W (ts.map OP) vs->∃es:List (Addr×Str×List V),vs=es.map (λe=>V.ref e.1)/\es.map (λe=>e.2.1)=ts.map (·.1)/\(∀e∈es,SqT K H e.1 (.str e.2.1::e.2.2)) /\
   es.length=ts.length/\∀(i:Nat) e t,es[i]?=ak e->ts[i]?=ak t->DV K H W (OP t) (.ref e.1)/\e.2.1=t.1
 | [],vs,h=>by unfold DVs at h;subst h;exact#[[],rfl,rfl,(λe he=>by simp at he),rfl,λi e t h1 p=>by simp at h1]
 | t::ts,vs,h=>by
   rw[zI] at h;unfold DVs at h;obtain⟨v,r,rfl,h1,p⟩:=h;obtain⟨es,rfl,g,c,f,j⟩:=ZC p;have m:=h1;unfold OP DV at m;obtain⟨a,q,rfl,k,hd⟩:=m;unfold DVs at hd;obtain⟨u,b,rfl,hu,Y⟩:=hd;unfold DV at hu;subst hu;refine#[(a,t.1,b)::es,rfl,by simp[g],λe he=>?_,by simp[f],λi e X G n=>?_]
   . rcases yX.mp he with rfl | he;. exact k.sq
     . exact c e he
   . cases i with
     | zero=>simp at G n;subst G n;exact#[h1,rfl]
     | succ i=>exact j i e X (by simpa using G) (by simpa using n)
theorem ZD :∀{es:List (Addr×Str×List V)}{ts:List (Str×List PyData)},es.length=ts.length->(∀(i:Nat) e t,es[i]?=ak e->ts[i]?=ak t->DV K H W (OP t) (.ref e.1))->DVs K H W (ts.map OP) (es.map λe=>V.ref e.1)
 | [],[],_,_=>by simp only[b8X];exact DVs.nil
 | [],_::_,h,_=>by simp at h
 | _::_,[],h,_=>by simp at h
 | e::es,t::ts,h,k=>by rw[zI,zI];exact DVs.cons (k 0 e t rfl rfl) (ZD (by simpa using h) λi e t h1 n=>k (i+1) e t (by simpa using h1) (by simpa using n))
theorem dN {g i:Type}:∀{as t:List g},t.Perm as->∀{bs:List i},as.length=bs.length->∃e:List i,e.Perm bs/\(t.zip e).Perm (as.zip bs)/\t.length=e.length:=by
 intro as t h;induction h with
 | nil=>intro bs r;exact#[bs,.refl _,.refl _,r]
 | cons x _ f=>
   intro bs r;cases bs with
   | nil=>simp at r
   | cons b bs=> obtain⟨e,h1,n,G⟩:=f (bs:=bs) (by simpa using r);exact#[b::e,h1.cons b,by rw[a9Z,a9Z];exact n.cons _,by simp[G]]
 | swap x y l=>
   intro bs r
   match bs,r with
   | b1::z::bs,r=>exact#[z::b1::bs,.swap _ _ _,by simp only[a9Z];exact .swap _ _ _,by simpa using r]
 | trans I T ih1 ih2=> intro bs r;obtain⟨z,h1,n,G⟩:=ih2 r;obtain⟨B,m,p,c⟩:=ih1 G;exact#[B,m.trans h1,p.trans n,c]
theorem RW (f:OA K H M) (I:SqL K H a vs\/SqT K H a vs) (hd:DVs K H M.W (ts.map OP) vs) (nd:(ts.map (·.1)).Nodup) (q:ts.length < 64) (k:∀(w:V) (H':Hp) (z:DS) (m:Own),OA K H' m->SI K H' m z w->Step K M m H H'->(∃n:List (Str×List PyData),n.Perm ts/\n.Pairwise (λx y=>x.1.cps.toList < y.1.cps.toList)/\z = .d (.list (n.map OP))/\m=M)->QQ w H'):OO K [.ref a] H QQ:=by
 obtain⟨O,rfl,v,T,c,N⟩:=ZC hd;refine .inr (.inl #[a,O,rfl,I,T,by rw[v];exact nd,by rw[c];exact q,λr p hp hs hn=>?_]);obtain⟨n,B,G,J⟩:=dN hp c;have each:∀(i:Nat) e t,r[i]?=ak e->n[i]?=ak t->DV K H M.W (OP t) (.ref e.1)/\e.2.1=t.1:=λi e t h1 b=>by have S:(e,t)∈O.zip ts:=G.mem_iff.mp (yN (i:=i) (by rw[a9V];exact#[h1,b]));obtain⟨j,u⟩:=List.getElem?_of_mem S;rw[a9V] at u;exact N j e t u.1 u.2
 have g:Grow K M.W M.W H (upd H p (.lst (r.map λe=>V.ref e.1))):=AZ _ hn;refine k _ _ (.d (.list (n.map OP))) M (f.new hn) ?_ #[g] #[n,B,?_,rfl,rfl];. unfold SI DV;exact#[p,_,rfl,.inl #[λw=>w (f.none hn),.inl AF],(ZD J λi e t h1 b=>(each i e t h1 b).1).grow g]
 . rw[List.pairwise_iff_getElem] at hs ⊢;intro i j hi u h;have hi':i < r.length:=by lia
   have hj':j < r.length:=by lia
   have:=hs i j hi' hj' h;rw[(each i r[i] n[i] (zV hi') (zV hi)).2,(each j r[j] n[j] (zV hj') (zV u)).2] at this;exact this
theorem qG (nd:(ts.map (·.1)).Nodup) (t:ts.length < 64) (q:∀e:List (Str×List PyData),e.Perm ts->e.Pairwise (λx y=>x.1.cps.toList < y.1.cps.toList)->Q (.d (.list (e.map OP))) M):DR K (OO K) [.d (.list (ts.map OP))] M Q:=λH c QQ m s k=>by obtain⟨v,r,rfl,h1,n⟩:=s;cases n;unfold SI DV at h1;obtain⟨a,c,rfl,i,hd⟩:=h1;exact RW m (.inl i.sq) hd nd t (by rintro w H' z f o p b ⟨e,I,T,j,g⟩;subst j g;exact k w H' _ _ o p b (q e I T))
theorem qH (h:DR K (WI K) xs M Q):DR K (OO K) xs M Q:=λH e QQ z s k=>.inl (h H e QQ z s k)
end
end DL
namespace DL
open PySem PySem.Spec L2
section
variable {X:Cx}{K:Frg}
theorem A3E (h:X.K=K) (hc:X.calm=au):D9 X (.builtin "sorted") (OO K):=h▸dM hc
end
section
theorem qI (h:k∉ts.map (·.1)):G6 ts k d=ts++[(k,d)]:=by unfold G6;rw[if_neg];intro e;obtain⟨t,n,e⟩:=List.any_eq_true.mp e;exact h (zL.mpr #[t,n,by simpa using e])
def JX (f:PyData->Str) (w:PyData->PyData) (ds:List PyData):List (Str×PyData):=ds.foldl (λe d=>G6 e (f d) (w d)) []
theorem dO :JX f w (ds++[d])=G6 (JX f w ds) (f d) (w d):=a6Z ..
theorem kA :(JX f w ds).length<=ds.length:=by
 have X:∀(ds:List PyData) (e:List (Str×PyData)),(ds.foldl (λe d=>G6 e (f d) (w d)) e).length<=e.length+ds.length:=λds=>by
   induction ds with
   | nil=>exact λe=>zR _
   | cons d r Q=>
     intro e;refine zN (Q _) ?_;have:(G6 e (f d) (w d)).length<=e.length+1:=by unfold G6;split <;> simp
     show(G6 e (f d) (w d)).length+_<=_;rw[yR];lia
 exact zN (X ds []) (by simp)
theorem qJ (nd:(ds.map f).Nodup):JX f w ds=ds.map λd=>(f d,w d):=by
 have X:∀(ds:List PyData) (e:List (Str×PyData)),(e.map (·.1)++ds.map f).Nodup->ds.foldl (λe d=>G6 e (f d) (w d)) e=e++ds.map λd=>(f d,w d):=λds=>by
   induction ds with
   | nil=>intro e _;simp
   | cons d r Q=> intro e h;rw[b3W,qI (λq=>(List.nodup_append.mp h).2.2 _ q _ a0J rfl),Q _ (by simpa using h)];simp
 exact X ds [] nd
theorem VA (ho:JU g T) (hT:∀i∈T,∀j,q[i]?≠ak (ak j)) (h:DI K wi ρ M λds M1=>ds.length < a0/\∃(c:PyData->Bool) (f:PyData->Str) (w:PyData->PyData),(∀d∈ds,∀v,DG K g d (GC q ρ) v λr M2=>M2=v/\DT K tt r M2 λb D=>D=v/\b=c d/\(c d=au->DE K tk r D λy M4=>y = .d (.str (f d))/\M4=v/\DE K tv r M4 λz M5=>z = .d (w d)/\M5=v)) /\∀p,M1 p=am->Q (.loc p) (M1.put p (.d (AG (JX f w (ds.filter c)))))) :
   DE K (RT q wi g tt tk tv) ρ M Q:=λσ H QQ R k=>
 h σ H _ R λJ ds H1 M1 X t1 wd dr=>by
   obtain⟨hsz,c,f,w,he,hq⟩:=dr;intro A hA;obtain⟨oA,sA⟩:=NA (kvs:=[]) (ks:=[]) X hA (by unfold DKV;rfl);have hM:=X.none hA;let acc:Nat->List (Str×PyData):=λi=>JX f w ((ds.take i).filter c);refine#[λi m ys t=>m=ds.length - i/\i<=ds.length/\t A=ak (.dK ys)/\OA K t (M1.put A (.d (AG (acc i))))/\Step K M1 (M1.put A (.d (AG (acc i)))) H1 t,#[_,rfl,xT _,AF,oA,sA],?_];rintro i m ys t ⟨rfl,hi,vz,I,u⟩;refine#[vz,?_];by_cases B:i < ds.length
   . refine .inr #[wd.go i t _ B I u,λx S y=>?_];obtain⟨xw,fq,d,e1,e2⟩:=wd.yld i t _ x S I u B y;have Rc:Rel K (M1.put A (.d (AG (acc i)))) (GC q ρ) (L2.capt q σ) S:=((R.step X t1).step xw (u.trans fq)).capt;have ts:(ds.take (i+1)).filter c=(ds.take i).filter c++(if c d then [d] else []):=hY c ds i d e1;refine ho _ _ _ _ (he d (yN e1) _ (L2.capt q σ) S x _ Rc e2 λρ3 D U H4 G ib #[eM,b3] hext=>#[λi' v' lp=>?_,?_]);. obtain⟨j,f1,f2⟩:=F9 lp;rw[hext i' λhm=>hT i' hm j f1];exact lp
     . subst eM;refine b3 U H4 _ G ?_;rintro b H5 M5 O L ⟨Ec,N,h5⟩;subst Ec;have sx:=((u.trans fq).trans ib).trans L;cases hb:c d with
       | false=>
         rw[hb] at N;subst N;rw[if_neg nft];obtain⟨ks,Y,Z⟩:=O A _ zU;have n:acc (i+1)=acc i:=by show JX f w ((ds.take (i+1)).filter c)=_;rw[ts,hb];simp[acc]
         refine#[ks,ds.length - (i+1),by lia,rfl,B,Y,?_,?_];. rw[n];exact O
         . rw[n];exact sx
       | true=>
         rw[hb] at N;subst N;rw[if_pos rfl];refine h5 hb U H5 _ (G.step O L) ?_;rintro y H6 z M6 o6 s6 oj ⟨ez,Lq,h6⟩;subst ez Lq;refine h6 U H6 _ ((G.step O L).step o6 oj) ?_;rintro y2 H7 z2 M7 o7 s7 wt ⟨Lr,Ls⟩;subst Lr Ls;obtain⟨ks,Y,Z⟩:=o7 A _ zU;obtain⟨w1,w2⟩:=FD o7 zU (gN (k:=f d) Z s7);have n:acc (i+1)=G6 (acc i) (f d) (w d):=by show JX f w ((ds.take (i+1)).filter c)=_;rw[ts,hb,if_pos rfl,dO]
         have ac:ks.length < sizeLine:=by rw[QM Z];unfold AG;rw[zX];refine zQ (zN kA (zN (yJ _ _) ?_)) hsz;rw[a0K];lia
         rw[yI] at w1 w2;refine#[ks,a1W (f d),BC s6,Y,ac,ds.length - (i+1),by lia,rfl,B,AF,?_,?_];. rw[n];exact w1
         . rw[n];exact((sx.trans oj).trans wt).trans w2
   . have e:i=ds.length:=by lia
     subst e;refine .inl #[wd.stop t _ I u,k _ t (.loc A) _ I rfl (t1.trans u) ?_];have:=hq A hM;have n:acc ds.length=JX f w (ds.filter c):=by show JX f w ((ds.take ds.length).filter c)=_;rw[a1Q]
     rw[n];exact this
theorem RX (ho:JU g T) (O:∀i∈T,∀j,n[i]?≠ak (ak j)) (h:DI K wi ρ M λds M1=>ds.length < a0/\∃(c:PyData->Bool) (f:PyData->Str) (w:PyData->PyData),((ds.filter c).map f).Nodup /\(∀d∈ds,∀t,DG K g d (GC n ρ) t λe r=>r=t/\DT K m e r λb B=>B=t/\b=c d/\(c d=au->DE K tk e B λy u=>y = .d (.str (f d))/\u=t/\DE K v e u λz N=>z = .d (w d)/\N=t)) /\∀p,M1 p=am->Q (.loc p) (M1.put p (.d (AG ((ds.filter c).map λd=>(f d,w d)))))) :
   DE K (RT n wi g m tk v) ρ M Q:=VA ho O λG H QQ R k=>h G H QQ R (by rintro J ds x M1 S I D ⟨a,c,f,w,nd,b,q⟩;exact k J ds x M1 S I D #[a,c,f,w,b,λp hp=>by rw[qJ nd];exact q p hp])
theorem qK (h:DA K t ρ M λxs M1=>∃x y,xs=[x,y]/\D.nx ((ρ.set i (ak x)).set j (ak y)) M1):DSt K (A4J i j t) ρ M D:=λk H E R N _ _ _=>
 h k H _ R λu n xs M1 S m e h1=>by obtain⟨x,y,rfl,q⟩:=h1;obtain⟨v,r,rfl,c,p⟩:=m;obtain⟨w,L,rfl,f,b⟩:=p;cases b;exact#[v,w,rfl,N _ M1 _ n (((R.step S e).set c i).set f j) e q]
end
end DL
namespace DL
open PySem PySem.Spec L2
set_option genInjectivity true
inductive Deed where
 | put (x:Str) (p k:Int) | take (x:Str) | move (x:Str) (p:Int) | count (x:Str) (k:Int) | name (x y:Str) | split (x y:Str) (p k:Int) | join (x y:Str)
def Deed.d:Deed->PyData
 | .put x p k=>.tuple [.str (a0Q "put"),.str x,.int p,.int k]
 | .take x=>.tuple [.str (a0Q "take"),.str x]
 | .move x p=>.tuple [.str (a0Q "move"),.str x,.int p]
 | .count x k=>.tuple [.str (a0Q "count"),.str x,.int k]
 | .name x y=>.tuple [.str (a0Q "name"),.str x,.str y]
 | .split x y p k=>.tuple [.str (a0Q "split"),.str x,.str y,.int p,.int k]
 | .join x y=>.tuple [.str (a0Q "join"),.str x,.str y]
def Deed.names:Deed->List Str
 | .put x _ _=>[x] | .take x=>[x] | .move x _=>[x] | .count x _=>[x] | .name x y=>[x,y] | .split x y _ _=>[x,y] | .join x y=>[x,y]
def Deed.ok (D:Deed):Prop:=∀x∈D.names,D4 x
def HD:List (Str×Str):=[("put","npk"),("take","n"),("move","np"),("count","nk"),("name","nn"),("split","nnpk"),("join","nn")]
def RY:PyData->PyData | .str z=>jS (HD.lookup z) | _=>.none
def ZE (z:Str):Bool:=z == "name" || z == "split" || z == "join"
def OQ:PyData->PyData | .tuple (.str w::r)=>.tuple (r.take (if ZE w then 2 else 1)) | d=>d
theorem qL (h:HD.lookup w=ak f):(w = "put" /\ f = "npk")\/(w = "take" /\ f = "n")\/(w = "move" /\ f = "np")\/(w = "count" /\ f = "nk")\/(w = "name" /\ f = "nn")\/(w = "split" /\ f = "nnpk")\/(w = "join" /\ f = "nn"):=by
 unfold HD at h;simp only[a3V,List.lookup_nil] at h;split at h;. rename_i e;exact .inl #[eq_of_beq e,by injection h with h;exact h.symm]
 split at h;. rename_i e;exact .inr (.inl #[eq_of_beq e,by injection h with h;exact h.symm])
 split at h;. rename_i e;exact .inr (.inr (.inl #[eq_of_beq e,by injection h with h;exact h.symm]))
 split at h;. rename_i e;exact .inr (.inr (.inr (.inl #[eq_of_beq e,by injection h with h;exact h.symm])))
 split at h;. rename_i e;exact .inr (.inr (.inr (.inr (.inl #[eq_of_beq e,by injection h with h;exact h.symm]))))
 split at h;. rename_i e;exact .inr (.inr (.inr (.inr (.inr (.inl #[eq_of_beq e,by injection h with h;exact h.symm])))))
 split at h;. rename_i e;exact .inr (.inr (.inr (.inr (.inr (.inr #[eq_of_beq e,by injection h with h;exact h.symm])))))
 cases h
theorem RZ (h:HD.lookup w=ak f):f.cps.all (· < 128)=au/\f.cps.size<=4/\Txt.startswith f (a0Q "nn")=ZE w/\(ZE w=au->2<=f.cps.size/\f.cps[0]?=ak 110/\f.cps[1]?=ak 110)/\1<=f.cps.size:=by rcases qL h with ⟨rfl,rfl⟩ | ⟨rfl,rfl⟩ | ⟨rfl,rfl⟩ | ⟨rfl,rfl⟩ | ⟨rfl,rfl⟩ | ⟨rfl,rfl⟩ | ⟨rfl,rfl⟩ <;> decide +kernel
def qM (d:PyData):Prop:=∃w f r,d = .tuple (.str w::r)/\HD.lookup w=ak f
theorem qN (D:Deed):qM D.d:=by cases D <;> exact#[_,_,_,rfl,rfl]
theorem ZF (D:Deed):OQ D.d = .tuple (D.names.map .str):=by cases D <;> rfl
def BE:PyData->Str->Nat
 | .tuple (.str w::.str x::_),n=>if w == "move" then 0 else if (w == "count" || w == "split" || w == "join")&&x==n then 1 else 2
 | _,_=>2
def BL:Nat->Str | 0 => "moves" | 1 => "adds" | _ => "more"
def JY (u v:Nat):Bool:=(u==1||v==1)&&u != 2&&v != 2
def nmS:PyData->List Str | .tuple ds=>ds.map YZ | _=>[]
def WO (d:PyData):List Str:=nmS (OQ d)
theorem JZ (D:Deed):WO D.d=D.names:=by unfold WO;rw[ZF];show(D.names.map a0Z).map YZ=_;rw[zD];exact a9W _
def C6 (a b:PyData):Bool:=(WO a).any λn=>decide (n∈WO b)&&!JY (BE a n) (BE b n)
theorem S0 (u v:Nat):JY u v=JY v u:=by unfold JY;cases (u==1) <;> cases (v==1) <;> cases (u != 2) <;> cases (v != 2) <;> rfl
theorem ZG (a b:PyData):C6 a b=C6 b a:=by
 rw[a1K];unfold C6;simp only[a9Q,a0V,decide_eq_true_eq];constructor;. rintro⟨n,h1,e,G⟩;exact#[n,e,h1,by rw[S0];exact G]
 . rintro⟨n,h1,e,G⟩;exact#[n,e,h1,by rw[S0];exact G]
def dP (d:PyData):Prop:=∃D:Deed,d=D.d/\D.ok
def OR:FSp:=fn1 (λ_=>True) RY
def MJ:FSp:=fn1 qM OQ
theorem C7 (h:D4 z):zH (.str z)=true:=CU (CO h) (by simp[a2J])
def Deed.word:Deed->Str
 | .put .. => "put" | .take .. => "take" | .move .. => "move" | .count .. => "count" | .name .. => "name" | .split .. => "split" | .join .. => "join"
def Deed.fst:Deed->Str
 | .put x _ _=>x | .take x=>x | .move x _=>x | .count x _=>x | .name x _=>x | .split x _ _ _=>x | .join x _=>x
def Deed.rest:Deed->List PyData
 | .put _ p k=>[.int p,.int k] | .take _=>[] | .move _ p=>[.int p] | .count _ k=>[.int k] | .name _ y=>[.str y] | .split _ y p k=>[.str y,.int p,.int k] | .join _ y=>[.str y]
theorem Deed.d_eq (D:Deed):D.d = .tuple (.str D.word::.str D.fst::D.rest):=by cases D <;> rfl
theorem Deed.word_ok (D:Deed):zH (.str D.word)=true:=by cases D <;> (simp only[Deed.word];decide +kernel)
theorem BQ (a b:Str):a0W (.str a) (.str b)=(a==b):=by simp[a0W]
theorem PZ {ss:List Str}(h:∀s∈ss,c0J s=au):zH (.list (ss.map .str))=true:=by
 refine CU (IH λd hd=>?_) ?_;. obtain⟨y,h1,rfl⟩:=zL.mp hd;exact h y h1
 . have:a2X (ss.map a0Z)<=0:=JV λd hd=>by obtain⟨y,h1,rfl⟩:=zL.mp hd;exact zR 0
   simp only[a2J];lia
theorem gR {ys:List Str}{v:Int}(I:0<=v) (h1:v < ys.length):∃y,atI (ys.map a0Z) v=ak (.str y)/\y∈ys:=by
 obtain⟨n,rfl⟩:∃n:Nat,v=(n:Int):=#[v.toNat,by lia]
 have hn:n < ys.length:=by lia
 exact#[ys[n],AJ (by rw[zF,zV hn];rfl),a1V hn]
def qO (D E:Deed) (n:Str):Bool:=decide (n∈E.names)&&!JY (BE D.d n) (BE E.d n)
theorem qP (D E:Deed):C6 D.d E.d=D.names.any (qO D E):=by unfold C6;rw[JZ,JZ];rfl
def VB:FSp:=#[λt M=>∃e:List Int,t=[.d (.list (e.map .int))]/\e.length<=63/\∀i∈e,xJ i<=2 ^ 20,λt M y n=>y = .d (.bool au)]
end DL
namespace DL
open PySem PySem.Spec L2
def NG:PyData->PyData->Bool
 | .str s,p=>if s == "n" then D3 p else if s == "p" then MG p else OM p
 | _,p=>OM p
def qQ:FSp:=fn2 (λa b=>∃c:Nat,a = .str #[(y9 [c])]/\c < 128/\okD b) λa b=>.bool (NG a b)
def II (f:Str) (r:List PyData):Bool:=((DB f).zip r).all λp=>NG p.1 p.2
def B8:List PyData->Bool
 | .str w::r=>match HD.lookup w with
   | some f=>(r.length==f.cps.size)&&II f r&&(!ZE w||!a0W (r.getD 0 .none) (r.getD 1 .none))
   | none=>aB
 | _=>aB
def gS:PyData->Bool | .tuple ds=>B8 ds | _=>aB
def okP:PyData->Prop | .tuple ds=>ds.length<=5000/\∀d∈ds,okD d | _=>True
def OS:FSp:=fn1 okP λd=>.bool (gS d)
def A4t:PyData->PyData | .tuple [a,b]=>.bool (NG a b) | d=>d
theorem qR (f:Str) (r:List PyData):((YT (DB f) r).filter λ_=>au).map A4t=(((DB f).zip r).map λp=>NG p.1 p.2).map .bool:=by rw[flt];unfold YT;rw[zD,zD];rfl
theorem qS (I:f.cps[0]?=ak 110) (h1:f.cps[1]?=ak 110) (h:II f (a::b::r)=au):D3 a=au/\D3 b=true:=by
 unfold II at h;rw[a9X] at h;have M:((DB f).zip (a::b::r))[0]?=ak (.str #[(y9 [110])],a):=by rw[a9V];exact#[by unfold DB;rw[zF];simp[I],rfl]
 have j:((DB f).zip (a::b::r))[1]?=ak (.str #[(y9 [110])],b):=by rw[a9V];exact#[by unfold DB;rw[zF];simp[h1],rfl]
 have q:∀d,NG (.str #[(y9 [110])]) d=D3 d:=λd=>rfl;exact#[by rw[<-q];exact h _ (yN M),by rw[<-q];exact h _ (yN j)]
def ZH:PyData->PyData
 | .tuple (.str w::r)=>if w == "put" then r.getD 0 .none else if w == "name" || w == "split" then r.getD 1 .none else .none
 | _=>.none
def VC:FSp:=fn1 dP ZH
def Deed.isPut:Deed->Bool | .put ..=>au | _=>aB
def Deed.isNS:Deed->Bool | .name ..=>au | .split ..=>au | _=>aB
theorem qT (D:Deed):(D.word==a0Q "put")=D.isPut:=by cases D <;> (simp only[Deed.word,Deed.isPut];decide +kernel)
theorem A5f (w a b:Str):decide (w∈[a,b])=(w==a||w==b):=by rw[a1K];simp
theorem xA (D:Deed):(D.word==a0Q "name" || D.word==a0Q "split")=D.isNS:=by cases D <;> (simp only[Deed.word,Deed.isNS];decide +kernel)
theorem xB {D:Deed}(h:D.ok):zH (ZH D.d)=true:=by
 cases D with
 | put x p k=>exact C7 (h x `jj)
 | name x y=>exact C7 (h y `jj)
 | split x y p k=>exact C7 (h y `jj)
 | _=>rfl
end DL
namespace DL
open PySem PySem.Spec L2
def pcD (p c:Int):PyData:=.tuple [.int p,.int c]
def tsD (ts:List Th):List (Str×PyData):=ts.map λt=>(t.1,pcD t.2.1 t.2.2)
def CL (ts:List Th) (k:Str) (p c:Int):List Th:=if (ts.any λt=>decide (t.1=k))=au then ts.map (λt=>if t.1=k then (t.1,p,c) else t) else ts++[(k,p,c)]
def DQ (ts:List Th) (k:Str):List Th:=ts.filter λt=>decide (t.1≠k)
def AA:List Th->Str->Option (Int×Int)
 | [],_=>am
 | t::r,k=>if t.1=k then ak t.2 else AA r k
theorem C8 (ts:List Th) (k:Str) (p c:Int):G6 (tsD ts) k (pcD p c)=tsD (CL ts k p c):=by
 unfold G6 CL tsD;have e:((ts.map λt=>(t.1,pcD t.2.1 t.2.2)).any λt=>decide (t.1=k))=ts.any λt=>decide (t.1=k):=by rw[List.any_map];rfl
 rw[e];split;. rw[zD,zD];apply yM;intro t _;show(if t.1=k then (t.1,pcD p c) else _)=_;simp only[Function.comp];split <;> rfl
 . simp
theorem HE (ts:List Th) (k:Str):V9 (tsD ts) k=tsD (DQ ts k):=by unfold V9 DQ tsD;rw[xU];rfl
theorem AL (k:Str):∀ts:List Th,B3 (tsD ts) k=(AA ts k).map λv=>pcD v.1 v.2
 | []=>rfl
 | t::r=>by
   have Q:=AL k r;unfold tsD at Q ⊢;simp only[zI,B3,AA];split;. rfl
   . exact Q
theorem EC :∀{ts:List Th}{v:Int×Int},AA ts k=ak v->(k,v)∈ts
 | t::r,v,h=>by
   unfold AA at h;split at h;. rename_i e;cases h;subst e;exact a0J
   . exact yV _ (EC h)
theorem FH :∀{ts:List Th},AA ts k=am↔k∉ts.map (·.1)
 | []=>by simp[AA]
 | t::r=>by
   unfold AA;rw[zI,yX];split;. rename_i e;simp[e]
   . rename_i e;rw[FH];constructor;. intro h q;rcases q with q | q;exact e q.symm;exact h q
     . intro h q;exact h (.inr q)
theorem IJ :(AA ts k).isSome=decide (k∈ts.map (·.1)):=by
 cases h:AA ts k with
 | none=>rw[decide_eq_false (FH.mp h)];rfl
 | some v=>rw[decide_eq_true (zL.mpr #[_,EC h,rfl])];rfl
theorem C9 :∀{ts:List Th},(ts.map (·.1)).Nodup->t∈ts->AA ts t.1=ak t.2
 | u::r,nd,h=>by
   unfold AA;rcases yX.mp h with rfl | h;. rw[if_pos rfl]
   . rw[zI,xV] at nd;rw[if_neg λe=>nd.1 (by rw[e];exact zL.mpr #[t,h,rfl])];exact C9 nd.2 h
def dQ (t:Th):List Th->List Th
 | []=>[t]
 | u::r=>if sl t.1 u.1=au then t::u::r else u::dQ t r
def BF:List Th->List Th
 | []=>[]
 | t::r=>dQ t (BF r)
theorem OT (t:Th):∀ts:List Th,(dQ t ts).Perm (t::ts)
 | []=>.refl _
 | u::r=>by
   unfold dQ;split;. exact .refl _
   . exact((OT t r).cons u).trans (.swap _ _ _)
theorem BV:∀ts:List Th,(BF ts).Perm ts
 | []=>.refl _
 | t::r=>(OT t _).trans ((BV r).cons t)
theorem ZI (t:Th):∀{ts:List Th},Ris (ts.map (·.1))->t.1∉ts.map (·.1)->Ris ((dQ t ts).map (·.1))
 | [],_,_=>by simp[dQ,Ris]
 | u::r,h,hn=>by
   unfold dQ;unfold Ris at h;rw[zI,a5X] at h;rw[zI,yX] at hn;split
   . rename_i e;unfold Ris;rw[zI,zI,a5X,a5X];refine#[λx hx=>?_,h];rcases yX.mp hx with rfl | hx;. exact e
     . exact NE e (h.1 x hx)
   . rename_i e;have e':sl t.1 u.1=false:=by simpa using e
     have B:sl u.1 t.1=true:=by
       cases hq:sl u.1 t.1 with
       | true=>rfl
       | false=>exact absurd (FE e' hq) λq=>hn (.inl q)
     unfold Ris;rw[zI,a5X];refine#[λx hx=>?_,ZI t h.2 λq=>hn (.inr q)];have:=((OT t r).map (·.1)).mem_iff.mp hx;rcases yX.mp this with rfl | hx;. exact B
     . exact h.1 x hx
theorem EM:∀{ts:List Th},(ts.map (·.1)).Nodup->Ris ((BF ts).map (·.1))
 | [],_=>a8X
 | t::r,nd=>by rw[zI,xV] at nd;exact ZI t (EM nd.2) λq=>nd.1 (((BV r).map (·.1)).mem_iff.mp q)
theorem ZJ:∀{as bs:List Th},as.Perm bs->Ris (as.map (·.1))->Ris (bs.map (·.1))->as=bs
 | [],bs,p,_,_=>(List.nil_perm.mp p).symm
 | a::as,[],p,_,_=>by have:=p.length_eq;simp at this
 | a::as,b::bs,p,h1,n=>by
   unfold Ris at h1 n;rw[zI,a5X] at h1 n;have e:a=b:=by
     rcases yX.mp (p.mem_iff.mp (a0J (a:=a) (l:=as))) with e | e;. exact e
     . rcases yX.mp (p.mem_iff.mpr (a0J (a:=b) (l:=bs))) with e' | e';. exact e'.symm
       . have N:=h1.1 b.1 (zL.mpr #[b,e',rfl]);have t:=n.1 a.1 (zL.mpr #[a,e,rfl]);rw[RO N] at t;cases t
   subst e;rw[ZJ (b5V p) h1.2 n.2]
theorem VD (p:as.Perm bs) (h:Ris (as.map (·.1))):as=BF bs:=
 ZJ (p.trans (BV bs).symm) h (EM ((p.map (·.1)).nodup_iff.mp h.nodup))
theorem kB (h:Ris (w.map (·.1))):BF w=w:=(VD (.refl w) h).symm
def IK (ts:List Th) (x:Str) (k:Int):List Th:=match AA ts x with | some v=>CL ts x v.1 (v.2+k) | none=>ts
def doT (ts:List Th):Deed->List Th
 | .put x p k=>CL ts x p k
 | .take x=>DQ ts x
 | .move x p=>match AA ts x with | some v=>CL ts x p v.2 | none=>ts
 | .count x k=>IK ts x k
 | .name x y=>match AA ts x with | some v=>CL (DQ ts x) y v.1 v.2 | none=>ts
 | .split x y p k=>CL (IK ts x (-k)) y p k
 | .join x y=>match AA ts y with | some v=>DQ (IK ts x v.2) y | none=>ts
def Deed.made:Deed->Option Str | .put x _ _=>ak x | .name _ y=>ak y | .split _ y _ _=>ak y | _=>am
def Deed.apart:Deed->Prop | .name x y=>x≠y | .split x y _ _=>x≠y | .join x y=>x≠y | _=>True
def Deed.placed:Deed->Prop | .put _ p _=>0<=p/\p<=999 | .move _ p=>0<=p/\p<=999 | .split _ _ p _=>0<=p/\p<=999 | _=>True
def Deed.real (D:Deed):Prop:=D.ok/\D.apart/\D.placed
theorem ZK {D:Deed}(h:D.real):dP D.d:=#[D,rfl,h.1]
def AE (ns:List Str) (D:Deed):Option Str:=D.names.find? λn=>decide (n∈ns)==decide (D.made=ak n)
theorem BI (h:AE ns D=am):∀n∈D.names,(n∈ns)↔¬D.made=ak n:=λn hn=>by have:=List.find?_eq_none.mp h n hn;by_cases h1:n∈ns <;> by_cases e:D.made=ak n <;> simp_all
theorem xC (D:Deed):ZH D.d=match D.made with | some x=>.str x | none=>.none:=by cases D <;> rfl
def B4 (ts:List Th):Deed->Deed
 | .put x _ _=>.take x
 | .take x=>match AA ts x with | some v=>.put x v.1 v.2 | none=>.take x
 | .move x p=>match AA ts x with | some v=>.move x v.1 | none=>.move x p
 | .count x k=>.count x (-k)
 | .name x y=>.name y x
 | .split x y _ _=>.join x y
 | .join x y=>match AA ts y with | some v=>.split x y v.1 v.2 | none=>.join x y
abbrev tsO (ts:List Th):MO:=.d (AG (tsD ts))
def JD (ts:List Th):Prop:=(ts.map (·.1)).Nodup/\ts.length < 63
def ED:FSp:=#[λt M=>∃w:List Th,t=[.d (wD w)]/\JD w,λt M y i=>∀w:List Th,t=[.d (wD w)]->∃p,M p=am/\y = .loc p/\i=M.put p (tsO w)]
def E3:FSp:=#[λt M=>∃(p:Addr) (e:List Th) (D:Deed),t=[.loc p,.d D.d]/\M p=ak (tsO e)/\D.real/\AE (e.map (·.1)) D=am,λt M y i=>y = .d .none/\i=M]
def GG:FSp:=#[λt M=>∃(p:Addr) (e:List Th) (x:Str) (k:Int) (v:Int×Int),t=[.loc p,.d (.str x),.d (.int k)]/\M p=ak (tsO e)/\AA e x=ak v/\e.length < 64,
 λt M y i=>∀(p:Addr) (e:List Th) (x:Str) (k:Int),t=[.loc p,.d (.str x),.d (.int k)]->M p=ak (tsO e)->y = .d .none/\i=M.put p (tsO (IK e x k))]
def NH:FSp:=#[λt M=>∃(p:Addr) (e:List Th) (D:Deed),t=[.loc p,.d D.d]/\M p=ak (tsO e)/\JD e/\D.real/\AE (e.map (·.1)) D=am,
 λt M y i=>∀(p:Addr) (e:List Th) (D:Deed),t=[.loc p,.d D.d]->M p=ak (tsO e)->y = .d .none/\i=M.put p (tsO (doT e D))]
def goD (w:List Th) (D:Deed):Prop:=JD w/\D.real/\AE (w.map (·.1)) D=am
def WP:FSp:=#[λt M=>∃(w:List Th) (D:Deed),t=[.d (wD w),.d D.d]/\goD w D,λt M y i=>∀(w:List Th) (D:Deed),t=[.d (wD w),.d D.d]->y = .d (wD (BF (doT w D)))/\i=M]
theorem xD (h:thD t=thD u):t=u:=by obtain⟨a,b,c⟩:=t;obtain⟨e,v,n⟩:=u;simp only[thD,PyData.tuple.injEq,List.cons.injEq,PyData.str.injEq,PyData.int.injEq,and_true] at h;obtain⟨rfl,rfl,rfl⟩:=h;rfl
theorem Q0:∀{v w:List Th},v.map thD=w.map thD->v=w
 | [],[],_=>rfl
 | [],_::_,h=>by simp at h
 | _::_,[],h=>by simp at h
 | a::v,b::w,h=>by rw[zI,zI,List.cons.injEq] at h;rw[xD h.1,Q0 h.2]
theorem OU (h:wD v=wD w):v=w:=Q0 (by unfold wD at h;exact PyData.tuple.inj h)
theorem BW {D:Deed}(h:D.d=E.d):D=E:=by
 cases D <;> cases E <;> simp only[Deed.d,PyData.tuple.injEq,List.cons.injEq,PyData.str.injEq,PyData.int.injEq,and_true,true_and,reduceCtorEq,and_false,false_and,List.nil_eq] at h <;>
   first
   | (obtain⟨_,h⟩:=h;first | (obtain⟨rfl,rfl,rfl,rfl⟩:=h;rfl) | (obtain⟨rfl,rfl,rfl⟩:=h;rfl) | (obtain⟨rfl,rfl⟩:=h;rfl) | (subst h;rfl))
   | (obtain⟨rfl,rfl,rfl,rfl⟩:=h;rfl) | (obtain⟨rfl,rfl,rfl⟩:=h;rfl) | (obtain⟨rfl,rfl⟩:=h;rfl) | (subst h;rfl)
   | exact absurd h.1 (by decide +kernel)
theorem A3F (h:pcD a b=pcD c d):a=c/\b=d:=by simp only[pcD,PyData.tuple.injEq,List.cons.injEq,PyData.int.injEq,and_true] at h;exact h
theorem gT:∀{ts v:List Th},tsO ts=tsO v->ts=v:=by
 intro ts v h;have h:AG (tsD ts)=AG (tsD v):=by injection h
 unfold AG tsD at h;rw[zD,zD] at h;have X:∀(ts v:List Th),ts.map ((λt:Str×PyData=>(a0Z t.1,t.2))∘λt:Th=>(t.1,pcD t.2.1 t.2.2))=v.map ((λt:Str×PyData=>(a0Z t.1,t.2))∘λt:Th=>(t.1,pcD t.2.1 t.2.2))->ts=v:=by
   intro ts;induction ts with
   | nil=>intro v h;cases v with | nil=>rfl | cons _ _=>simp at h
   | cons t ts Q=>
     intro v h;cases v with
     | nil=>simp at h
     | cons u v=> rw[zI,zI,List.cons.injEq] at h;obtain⟨h1,i⟩:=h;simp only[Function.comp,Prod.mk.injEq,PyData.str.injEq] at h1;obtain⟨j,g⟩:=h1;obtain⟨e,n⟩:=A3F g;rw[Q v i];obtain⟨a,b,c⟩:=t;obtain⟨r,m,p⟩:=u;simp only at j e n;rw[j,e,n]
 exact X ts v h
section
variable {M:Own}{Q:DS->Own->Prop}
theorem GP (h:JD w) (q:∀p,M p=am->Q (.loc p) (M.put p (tsO w))):[DS.d (wD w)].length=1/\ED.pre [.d (wD w)] M/\∀x i,ED.post [.d (wD w)] M x i->Q x i:=#[rfl,#[w,rfl,h],λx i h=>by obtain⟨p,h1,rfl,rfl⟩:=h w rfl;exact q p h1]
theorem ZL (m:M p=ak (tsO ts)) (hr:D.real) (e:AE (ts.map (·.1)) D=am) (q:Q (.d .none) M):[DS.loc p,.d D.d].length=2/\E3.pre [.loc p,.d D.d] M/\∀x i,E3.post [.loc p,.d D.d] M x i->Q x i:=#[rfl,#[p,ts,D,rfl,m,hr,e],λx i h=>by obtain⟨rfl,rfl⟩:=h;exact q]
theorem S3 (m:M p=ak (tsO ts)) (r:AA ts x=ak v) (hz:ts.length < 64) (q:Q (.d .none) (M.put p (tsO (IK ts x k)))):[DS.loc p,.d (.str x),.d (.int k)].length=3/\GG.pre [.loc p,.d (.str x),.d (.int k)] M/\∀n i,GG.post [.loc p,.d (.str x),.d (.int k)] M n i->Q n i:=#[rfl,#[p,ts,x,k,v,rfl,m,r,hz],λn i h=>by obtain⟨rfl,rfl⟩:=h p ts x k rfl m;exact q]
theorem ZM (m:M p=ak (tsO ts)) (hc:JD ts) (hr:D.real) (e:AE (ts.map (·.1)) D=am) (q:Q (.d .none) (M.put p (tsO (doT ts D)))):[DS.loc p,.d D.d].length=2/\NH.pre [.loc p,.d D.d] M/\∀x i,NH.post [.loc p,.d D.d] M x i->Q x i:=#[rfl,#[p,ts,D,rfl,m,hc,hr,e],λx i h=>by obtain⟨rfl,rfl⟩:=h p ts D rfl m;exact q]
theorem kC (h:goD w D) (q:Q (.d (wD (BF (doT w D)))) M):[DS.d (wD w),.d D.d].length=2/\WP.pre [.d (wD w),.d D.d] M/\∀x i,WP.post [.d (wD w),.d D.d] M x i->Q x i:=#[rfl,#[w,D,rfl,h],λx i h=>by obtain⟨rfl,rfl⟩:=h w D rfl;exact q]
end
end DL
namespace DL
open PySem PySem.Spec L2
theorem QC (ds:List PyData):(ds.filter λ_=>au)=ds:=List.filter_eq_self.mpr (by simp)
def A5g:PyData->PyData | .tuple [_,p,c]=>.tuple [p,c] | d=>d
theorem VE:∀{as bs:List Str},as.Perm bs->Ris as->Ris bs->as=bs
 | [],bs,p,_,_=>(List.nil_perm.mp p).symm
 | a::as,[],p,_,_=>by have:=p.length_eq;simp at this
 | a::as,b::bs,p,h1,n=>by
   unfold Ris at h1 n;rw[a5X] at h1 n;have e:a=b:=by
     rcases yX.mp (p.mem_iff.mp (a0J (a:=a) (l:=as))) with e | e;. exact e
     . rcases yX.mp (p.mem_iff.mpr (a0J (a:=b) (l:=bs))) with e' | e';. exact e'.symm
       . have N:=h1.1 b e';have t:=n.1 a e;rw[RO N] at t;cases t
   subst e;rw[VE (b5V p) h1.2 n.2]
def gU (ts:List Th):PyData->PyData
 | .str s=>match AA ts s with | some v=>.tuple [.str s,.int v.1,.int v.2] | none=>.none
 | d=>d
theorem kF (nd:(ts.map (·.1)).Nodup) (p:ss.Perm (ts.map (·.1))) (h:xG ss=au):(ss.map a0Z).map (gU ts)=(BF ts).map thD:=by have M:ss.Nodup:=p.nodup_iff.mpr nd;have e:ss=(BF ts).map (·.1):=VE (p.trans ((BV ts).map (·.1)).symm) (dC h M) (EM nd);rw[e,zD,zD];apply yM;intro t n;have:=C9 nd ((BV ts).mem_iff.mp n);simp only[Function.comp,gU,this];rfl
def wT (s:String):PyData:=.str (a0Q s)
theorem A3G (a b c:PyData):B8 [wT "put", a,b,c]=(D3 a&&(MG b&&(OM c&&au))&&au):=rfl
theorem xE (a:PyData):B8 [wT "take", a]=(D3 a&&au&&au):=rfl
theorem xF (a b:PyData):B8 [wT "move", a,b]=(D3 a&&(MG b&&au)&&au):=rfl
theorem qU (a b:PyData):B8 [wT "count", a,b]=(D3 a&&(OM b&&au)&&au):=rfl
theorem xK (a b:PyData):B8 [wT "name", a,b]=(D3 a&&(D3 b&&au)&&(!a0W a b)):=rfl
theorem xO (a b:PyData):B8 [wT "join", a,b]=(D3 a&&(D3 b&&au)&&(!a0W a b)):=rfl
theorem qV (a b c d:PyData):B8 [wT "split", a,b,c,d]=(D3 a&&(D3 b&&(MG c&&(OM d&&au)))&&(!a0W a b)):=rfl
theorem xP {D:Deed}(h:D.real):gS D.d=true:=by
 obtain⟨h1,nd,Y⟩:=h;have e:∀x∈D.names,D3 (.str x)=true:=λx hx=>pH (h1 x hx);have ne:∀x y:Str,x≠y->a0W (.str x) (.str y)=false:=λx y hn=>by simp[a0W,hn]
 have t:∀p:Int,0<=p/\p<=999->MG (.int p)=true:=λp hp=>by show(decide (0<=p)&&decide (p<=999))=au;rw[decide_eq_true hp.1,decide_eq_true hp.2];rfl
 cases D with
 | put x p k=>show B8 [wT "put", .str x,.int p,.int k]=au;rw[A3G,e x `jj,t p Y];rfl
 | take x=>show B8 [wT "take", .str x]=au;rw[xE,e x `jj];rfl
 | move x p=>show B8 [wT "move", .str x,.int p]=au;rw[xF,e x `jj,t p Y];rfl
 | count x k=>show B8 [wT "count", .str x,.int k]=au;rw[qU,e x `jj];rfl
 | name x y=>show B8 [wT "name", .str x,.str y]=au;rw[xK,e x `jj,e y `jj,ne x y nd];rfl
 | split x y p k=>show B8 [wT "split", .str x,.str y,.int p,.int k]=au;rw[qV,e x `jj,e y `jj,ne x y nd,t p Y];rfl
 | join x y=>show B8 [wT "join", .str x,.str y]=au;rw[xO,e x `jj,e y `jj,ne x y nd];rfl
theorem xS {D:Deed}(h:D.ok):okP D.d:=by
 have y:∀s:Str,(decide (s.cps.size<=5000)&&s.cps.toList.all (λc=>decide (c < 128)))=au->okD (.str s):=λs h=>by simp only[a0V,decide_eq_true_eq,a9X] at h;exact h
 have p:∀x∈D.names,okD (.str x):=λx hx=>pB (h x hx);cases D <;> (refine#[by simp,?_];simp only[List.forall_mem_cons])
 . exact#[y _ (by decide +kernel),p _ `jj,trivial,trivial,by simp]
 . exact#[y _ (by decide +kernel),p _ `jj,by simp]
 . exact#[y _ (by decide +kernel),p _ `jj,trivial,by simp]
 . exact#[y _ (by decide +kernel),p _ `jj,trivial,by simp]
 . exact#[y _ (by decide +kernel),p _ `jj,p _ `jj,by simp]
 . exact#[y _ (by decide +kernel),p _ `jj,p _ `jj,trivial,trivial,by simp]
 . exact#[y _ (by decide +kernel),p _ `jj,p _ `jj,by simp]
theorem yE (D:Deed) (n:Str):a0W (.str n) (ZH D.d)=decide (D.made=ak n):=by
 rw[xC];cases h:D.made with
 | none=>simp[a0W]
 | some x=>simp only[a0W,Option.some.injEq];rw[a1K];simp;exact eq_comm
theorem kG (a b:Bool):a0W (.bool a) (.bool b)=(a==b):=by cases a <;> cases b <;> rfl
theorem ZN (h:x∈ts.map (·.1)):CL ts x p c=ts.map λt=>if t.1=x then (t.1,p,c) else t:=by unfold CL;obtain⟨t,n,e⟩:=zL.mp h;rw[if_pos (List.any_eq_true.mpr #[t,n,by simpa using e])]
theorem NI (h:x∉ts.map (·.1)):CL ts x p c=ts++[(x,p,c)]:=by unfold CL;rw[if_neg];intro e;obtain⟨t,n,e⟩:=List.any_eq_true.mp e;exact h (zL.mpr #[t,n,by simpa using e])
theorem S4 (h:x∈ts.map (·.1)):(CL ts x p c).map (·.1)=ts.map (·.1):=by rw[ZN h,zD];apply yM;intro t _;simp only[Function.comp];split <;> rfl
theorem B1 (h:x∈ts.map (·.1)):∃v,AA ts x=ak v:=by
 cases e:AA ts x with
 | none=>exact absurd h (FH.mp e)
 | some v=>exact#[v,rfl]
theorem gV (h:AA ts x=ak v):x∈ts.map (·.1):=zL.mpr #[_,EC h,rfl]
theorem EE :(IK ts x k).map (·.1)=ts.map (·.1):=by
 unfold IK;cases e:AA ts x with
 | none=>rfl
 | some v=>exact S4 (gV e)
theorem qW :(IK ts x k).length=ts.length:=by have:=congrArg b9W (EE (ts:=ts) (x:=x) (k:=k));simpa using this
theorem IL {M:Own}{p p':Addr}{ts n:List Th}{D t:Deed}(m:M p=ak (tsO ts)) (e:[DS.loc p,.d D.d]=[.loc p',.d t.d]) (i:M p'=ak (tsO n)):p=p'/\ts=n/\D=t:=by simp only[List.cons.injEq,DS.loc.injEq,DS.d.injEq,and_true] at e;obtain⟨rfl,e⟩:=e;exact#[rfl,gT (Option.some.inj (m.symm.trans i)),BW e]
theorem IM {D:Deed}(e:[DS.d (wD w),.d D.d]=[.d (wD h),.d t.d]):w=h/\D=t:=by simp only[List.cons.injEq,DS.d.injEq,and_true] at e;exact#[OU e.1,BW e.2]
theorem CV (h:ts.length < 64):(tsD ts).length < sizeLine:=by unfold tsD;rw[zX];exact zP h `kh
theorem GH (ts:List Th) (x:Str):(DQ ts x).map (·.1)=(ts.map (·.1)).filter λn=>decide (n≠x):=by unfold DQ;rw[xU];rfl
def WQ (ns:List Str):Deed->List Str
 | .put x _ _=>ns++[x]
 | .take x=>ns.filter λn=>decide (n≠x)
 | .move _ _=>ns
 | .count _ _=>ns
 | .name x y=>(ns.filter λn=>decide (n≠x))++[y]
 | .split _ y _ _=>ns++[y]
 | .join _ y=>ns.filter λn=>decide (n≠y)
theorem JE (h:AE ns D=am) (hn:n∈D.names) (q:D.made≠ak n):n∈ns:=(BI h n hn).mpr q
theorem MK (h:AE ns D=am) (hn:n∈D.names) (e:D.made=ak n):n∉ns:=λq=>(BI h n hn).mp q e
theorem OV (hr:D.real) (h:AE (ts.map (·.1)) D=am):(doT ts D).map (·.1)=WQ (ts.map (·.1)) D:=by
 cases D with
 | put x p k=> show(CL ts x p k).map (·.1)=_;rw[NI (MK h `jj rfl),xI];rfl
 | take x=>exact GH ts x
 | move x p=> obtain⟨v,N⟩:=B1 (JE h (n:=x) `jj (by simp[Deed.made]));simp only[doT,N];exact S4 (gV N)
 | count x k=>exact EE
 | name x y=>
   obtain⟨v,N⟩:=B1 (JE h (n:=x) `jj (by simp[Deed.made];exact λe=>hr.2.1 e.symm));simp only[doT,N];have hy:y∉(DQ ts x).map (·.1):=by rw[GH];intro q;exact MK h (n:=y) `jj rfl (yL.mp q).1
   rw[NI hy,xI,GH];rfl
 | split x y p k=>
   show(CL (IK ts x (-k)) y p k).map (·.1)=_;have hy:y∉(IK ts x (-k)).map (·.1):=by rw[EE];exact MK h (n:=y) `jj rfl
   rw[NI hy,xI,EE];rfl
 | join x y=> obtain⟨v,N⟩:=B1 (JE h (n:=y) `jj (by simp[Deed.made]));simp only[doT,N];rw[GH,EE];rfl
theorem WR (nd:ns.Nodup) (h:AE ns D=am):(WQ ns D).Nodup:=by
 have t:∀{l:List Str}{y:Str},l.Nodup->y∉l->(l++[y]).Nodup:=λ{l y} h1 i=>by rw[b9X];exact#[h1,by simp,λa h b hb e=>by simp at hb;subst hb;subst e;exact i h]
 cases D with
 | put x p k=>exact t nd (MK h `jj rfl)
 | take x=>exact nd.sublist a4W
 | move x p=>exact nd
 | count x k=>exact nd
 | name x y=>exact t (nd.sublist a4W) λq=>MK h (n:=y) `jj rfl (yL.mp q).1
 | split x y p k=>exact t nd (MK h (n:=y) `jj rfl)
 | join x y=>exact nd.sublist a4W
theorem S5 (ns:List Str) (D:Deed):(WQ ns D).length<=ns.length+1:=by cases D <;> simp only[WQ,yY,yR,b6W];all_goals first | lia | exact zN (yJ _ _) (a5Z _) | exact Nat.add_le_add_right (yJ _ _) 1
theorem OW (h:goD ts D):((doT ts D).map (·.1)).Nodup/\(doT ts D).length < 64:=by obtain⟨⟨nd,r⟩,hr,t⟩:=h;have e:=OV hr t;refine#[by rw[e];exact WR nd t,?_];have h1:=S5 (ts.map (·.1)) D;have n:=congrArg b9W e;simp only[zX] at h1 n;lia
end DL
namespace DL
open PySem PySem.Spec L2
theorem BX (ts:List Th) (x:Str) (p c:Int) (n:Str):AA (CL ts x p c) n=if n=x then ak (p,c) else AA ts n:=by
 by_cases h:x∈ts.map (·.1)
 . rw[ZN h];induction ts with
   | nil=>simp at h
   | cons t r Q=>
     rw[zI];by_cases e:t.1=x
     . rw[if_pos e];unfold AA;by_cases v:n=x;. subst v;rw[if_pos e,if_pos rfl]
       . have j:¬t.1=n:=λq=>v (q.symm.trans e);rw[if_neg j,if_neg v,if_neg j];by_cases hr:x∈r.map (·.1);. rw[Q hr,if_neg v]
         . have i:(r.map λt=>if t.1=x then (t.1,p,c) else t)=r:=by
             conv=>rhs;rw[<-a9W r]
             apply yM;intro u hu;rw[if_neg λq=>hr (by rw[<-q];exact zL.mpr #[u,hu,rfl])];rfl
           rw[i]
     . rw[if_neg e];have hr:x∈r.map (·.1):=by rw[zI,yX] at h;exact h.resolve_left λq=>e q.symm
       unfold AA;by_cases j:t.1=n;. rw[if_pos j,if_pos j,if_neg λq=>e (j.trans q)]
       . rw[if_neg j,if_neg j,Q hr]
 . rw[NI h];have:∀ts:List Th,x∉ts.map (·.1)->AA (ts++[(x,p,c)]) n=if n=x then ak (p,c) else AA ts n:=by
     intro ts;induction ts with
     | nil=>
       intro _;show(if x=n then _ else _)=_;by_cases e:n=x;. rw[if_pos e,if_pos e.symm]
       . rw[if_neg e,if_neg λq=>e q.symm]
     | cons t r Q=>
       intro hx;rw[zI,yX] at hx;rw[List.cons_append];unfold AA;by_cases j:t.1=n;. rw[if_pos j,if_pos j,if_neg λq=>hx (.inl (j.trans q).symm)]
       . rw[if_neg j,if_neg j,Q λq=>hx (.inr q)]
   exact this ts h
theorem CW (ts:List Th) (x n:Str):AA (DQ ts x) n=if n=x then am else AA ts n:=by
 induction ts with
 | nil=>show am=_;split <;> rfl
 | cons t r Q=>
   unfold DQ at Q ⊢;rw[a8V];by_cases e:t.1=x
   . rw[if_neg (by simp[e]),Q];by_cases v:n=x;. rw[if_pos v,if_pos v]
     . rw[if_neg v,if_neg v]
       conv=>rhs;unfold AA
       rw[if_neg λq=>v (q.symm.trans e)]
   . rw[if_pos (by simpa using e)];unfold AA;rw[Q];by_cases j:t.1=n;. rw[if_pos j,if_pos j,if_neg λq=>e (j.trans q)]
     . rw[if_neg j,if_neg j]
theorem S6 (ts:List Th) (x:Str) (k:Int) (n:Str):AA (IK ts x k) n=if n=x then (AA ts x).map λv=>(v.1,v.2+k) else AA ts n:=by
 unfold IK;cases h:AA ts x with
 | none=>
   by_cases e:n=x;. subst e;rw[if_pos rfl,h];rfl
   . rw[if_neg e]
 | some v=>rw[BX];rfl
theorem EN (nd:(ts.map (·.1)).Nodup) :t∈ts↔AA ts t.1=ak t.2:=#[λh=>C9 nd h,λh=>EC h]
theorem kH (n1:(as.map (·.1)).Nodup) (p:as.Perm bs) (n:Str):AA as n=AA bs n:=by
 have i:(bs.map (·.1)).Nodup:=(p.map (·.1)).nodup_iff.mp n1;cases h:AA as n with
 | none=>
   cases e:AA bs n with
   | none=>rfl
   | some v=>exact absurd (zL.mpr #[_,p.mem_iff.mpr (EC e),rfl]) (FH.mp h)
 | some v=>exact((EN i (t:=(n,v))).mp (p.mem_iff.mp (EC h))).symm
theorem kI (n1:(as.map (·.1)).Nodup) (i:(bs.map (·.1)).Nodup) (h:∀n,AA as n=AA bs n):as.Perm bs:=by
 have nd:∀{l:List Th},(l.map (·.1)).Nodup->l.Nodup:=λ{l} h=>by unfold List.Nodup at h ⊢;rw[b0Q] at h;exact h.imp λ{a b} q e=>q (by rw[e])
 rw[a8Z (nd n1) (nd i)];intro t;rw[EN n1,EN i,h]
theorem KY (nd:(ts.map (·.1)).Nodup) (e:Ris (w.map (·.1))) (h:∀n,AA ts n=AA w n):BF ts=w:=(VD (kI e.nodup nd λn=>(h n).symm) e).symm
theorem FI (nd:(ts.map (·.1)).Nodup) (n:Str):AA (BF ts) n=AA ts n:=
 kH (((BV ts).map (·.1)).nodup_iff.mpr nd) (BV ts) n
def EO (w:List Th):Prop:=Ris (w.map (·.1))/\∀t∈w,D4 t.1/\0<=t.2.1/\t.2.1<=999
theorem KZ (h:EO w) (e:AA w x=ak v):D4 x/\0<=v.1/\v.1<=999:=h.2 _ (EC e)
theorem AY {ts:List Th}{D:Deed}(hr:D.real) (h:AE (ts.map (·.1)) D=am) (n:Str) :
   AA (doT ts D) n=match D with
     | .put x p k=>if n=x then ak (p,k) else AA ts n
     | .take x=>if n=x then am else AA ts n
     | .move x p=>if n=x then (AA ts x).map λv=>(p,v.2) else AA ts n
     | .count x k=>if n=x then (AA ts x).map λv=>(v.1,v.2+k) else AA ts n
     | .name x y=>if n=y then AA ts x else if n=x then am else AA ts n
     | .split x y p k=>if n=y then ak (p,k) else if n=x then (AA ts x).map λv=>(v.1,v.2 + -k) else AA ts n
     | .join x y=>if n=y then am else if n=x then (AA ts x).bind λv=>(AA ts y).map λu=>(v.1,v.2+u.2) else AA ts n:=by
 cases D with
 | put x p k=>exact BX _ _ _ _ _
 | take x=>exact CW _ _ _
 | move x p=> obtain⟨v,N⟩:=B1 (JE h (n:=x) `jj (by simp[Deed.made]));simp only[doT,N];exact BX _ _ _ _ _
 | count x k=>exact S6 _ _ _ _
 | name x y=> obtain⟨v,N⟩:=B1 (JE h (n:=x) `jj (by simp[Deed.made];exact λe=>hr.2.1 e.symm));simp only[doT,N];rw[BX,CW]
 | split x y p k=> show AA (CL (IK ts x (-k)) y p k) n=_;rw[BX,S6]
 | join x y=> obtain⟨v,N⟩:=B1 (JE h (n:=x) `jj (by simp[Deed.made]));obtain⟨u,hu⟩:=B1 (JE h (n:=y) `jj (by simp[Deed.made]));simp only[doT,hu];rw[CW,S6,N];rfl
theorem here (h:goD w D) (hn:n∈D.names) (q:D.made≠ak n):∃v,AA w n=ak v:=B1 (JE h.2.2 hn q)
theorem A3H (h:goD w D) (hn:n∈D.names) (q:D.made=ak n):AA w n=none:=FH.mpr (MK h.2.2 hn q)
theorem NJ (h:∀n∈D.names,(n∈ns)↔¬D.made=ak n):AE ns D=none:=by unfold AE;rw[List.find?_eq_none];intro n hn;have:=h n hn;by_cases h1:n∈ns <;> by_cases e:D.made=ak n <;> simp_all
theorem AU :n∈ts.map (·.1)↔(AA ts n).isSome=true:=by rw[IJ];simp
theorem qX (f:EO w) (hg:goD w D) (J:w.length < 60) :
   goD (BF (doT w D)) (B4 w D)/\BF (doT (BF (doT w D)) (B4 w D))=w/\B4 (BF (doT w D)) (B4 w D)=D/\EO (BF (doT w D))/\(BF (doT w D)).length<=w.length+1:=by
 have hr:=hg.2.1;have j:=hg.2.2;obtain⟨nd,_⟩:=OW hg;have L:∀n,AA (BF (doT w D)) n=AA (doT w D) n:=FI nd;have q:((BF (doT w D)).map (·.1)).Nodup:=((BV _).map (·.1)).nodup_iff.mpr nd;have T:(BF (doT w D)).length<=w.length+1:=by rw[(BV _).length_eq];have h1:=S5 (w.map (·.1)) D;have h:=congrArg b9W (OV hr j);simp only[zX] at h1 h;lia
 have S:EO (BF (doT w D)):=by
   refine#[EM nd,λt M=>?_];have hk:AA (doT w D) t.1=ak t.2:=by rw[<-L];exact(EN q).mp M
   rw[AY hr j] at hk;have old:∀{n:Str}{v:Int×Int},AA w n=ak v->D4 n/\0<=v.1/\v.1<=999:=λe=>KZ f e;cases D with
   | put x p k=>
     dsimp only at hk;split at hk;. rename_i e;have hk:=Option.some.inj hk;rw[e,<-hk];exact#[hr.1 x `jj,hr.2.2.1,hr.2.2.2]
     . exact old hk
   | take x=>
     dsimp only at hk;split at hk;. cases hk
     . exact old hk
   | move x p=>
     dsimp only at hk;split at hk;. rename_i e;obtain⟨v,N,i⟩:=Option.map_eq_some_iff.mp hk;rw[e,<-i];exact#[(old N).1,hr.2.2.1,hr.2.2.2]
     . exact old hk
   | count x k=>
     dsimp only at hk;split at hk;. rename_i e;obtain⟨v,N,i⟩:=Option.map_eq_some_iff.mp hk;rw[e,<-i];exact#[(old N).1,(old N).2]
     . exact old hk
   | name x y=>
     dsimp only at hk;split at hk;. rename_i e;rw[e];exact#[hr.1 y `jj,(old hk).2]
     . split at hk;. cases hk
       . exact old hk
   | split x y p k=>
     dsimp only at hk;split at hk;. rename_i e;have hk:=Option.some.inj hk;rw[e,<-hk];exact#[hr.1 y `jj,hr.2.2.1,hr.2.2.2]
     . split at hk;. rename_i e;obtain⟨v,N,i⟩:=Option.map_eq_some_iff.mp hk;rw[e,<-i];exact#[(old N).1,(old N).2]
       . exact old hk
   | join x y=>
     dsimp only at hk;split at hk;. cases hk
     . split at hk;. rename_i e;obtain⟨v,N,i⟩:=Option.bind_eq_some_iff.mp hk;obtain⟨u,hu,I⟩:=Option.map_eq_some_iff.mp i;rw[e,<-I];exact#[(old N).1,(old N).2]
       . exact old hk
 have core:goD (BF (doT w D)) (B4 w D)/\(∀n,AA (doT (BF (doT w D)) (B4 w D)) n=AA w n)/\B4 (BF (doT w D)) (B4 w D)=D:=by
   have G:JD (BF (doT w D)):=#[q,by lia]
   have LD:∀n,AA (BF (doT w D)) n=_:=λn=>(L n).trans (AY hr j n);have mk:∀B:Deed,B.real->(∀n∈B.names,((AA (BF (doT w D)) n).isSome=au)↔¬B.made=ak n)->goD (BF (doT w D)) B:=λB h1 h=>#[G,h1,NJ λn hn=>AU.trans (h n hn)]
   cases D with
   | put x p k=>
     have hx:=A3H hg (n:=x) `jj rfl;have g:goD (BF (doT w (.put x p k))) (.take x):=mk (.take x) #[λn hn=>hr.1 n hn,trivial,trivial] λn hn=>by simp only[Deed.names,a6V] at hn;subst hn;rw[LD];simp[Deed.made]
     refine#[g,λn=>?_,?_]
     . show AA (doT (BF (doT w (.put x p k))) (.take x)) n=_;rw[AY g.2.1 g.2.2];dsimp only;rw[LD];dsimp only;by_cases e:n=x;. rw[if_pos e,e,hx]
       . rw[if_neg e,if_neg e]
     . have m:AA (BF (doT w (.put x p k))) x=ak (p,k):=by rw[LD];simp
       simp only[B4,m]
   | take x=>
     obtain⟨v,N⟩:=here hg (n:=x) `jj (by simp[Deed.made]);have b:B4 w (.take x) = .put x v.1 v.2:=by simp only[B4,N]
     rw[b];have g:goD (BF (doT w (.take x))) (.put x v.1 v.2):=mk (.put x v.1 v.2) #[λn hn=>hr.1 n hn,trivial,(KZ f N).2] λn hn=>by simp only[Deed.names,a6V] at hn;subst hn;rw[LD];simp[Deed.made]
     refine#[g,λn=>?_,rfl];rw[AY g.2.1 g.2.2];dsimp only;rw[LD];dsimp only;by_cases e:n=x;. rw[if_pos e,e,N]
     . rw[if_neg e,if_neg e]
   | move x p=>
     obtain⟨v,N⟩:=here hg (n:=x) `jj (by simp[Deed.made]);have b:B4 w (.move x p) = .move x v.1:=by simp only[B4,N]
     rw[b];have m:AA (BF (doT w (.move x p))) x=ak (p,v.2):=by rw[LD];simp[N]
     have g:goD (BF (doT w (.move x p))) (.move x v.1):=mk (.move x v.1) #[λn hn=>hr.1 n hn,trivial,(KZ f N).2] λn hn=>by simp only[Deed.names,a6V] at hn;subst hn;rw[m];simp[Deed.made]
     refine#[g,λn=>?_,by simp only[B4,m]];rw[AY g.2.1 g.2.2];dsimp only;rw[m];by_cases e:n=x;. rw[if_pos e,e,N];rfl
     . rw[if_neg e,LD];dsimp only;rw[if_neg e]
   | count x k=>
     obtain⟨v,N⟩:=here hg (n:=x) `jj (by simp[Deed.made]);have b:B4 w (.count x k) = .count x (-k):=rfl;rw[b];have m:AA (BF (doT w (.count x k))) x=ak (v.1,v.2+k):=by rw[LD];simp[N]
     have g:goD (BF (doT w (.count x k))) (.count x (-k)):=mk (.count x (-k)) #[λn hn=>hr.1 n hn,trivial,trivial] λn hn=>by simp only[Deed.names,a6V] at hn;subst hn;rw[m];simp[Deed.made]
     refine#[g,λn=>?_,by simp only[B4,Int.neg_neg]];rw[AY g.2.1 g.2.2];dsimp only;rw[m];by_cases e:n=x;. rw[if_pos e,e,N];show ak (v.1,v.2+k + -k)=ak v;rw[Int.add_neg_cancel_right]
     . rw[if_neg e,LD];dsimp only;rw[if_neg e]
   | name x y=>
     have r:x≠y:=hr.2.1;obtain⟨v,N⟩:=here hg (n:=x) `jj (by simp[Deed.made];exact λe=>r e.symm);have hy:=A3H hg (n:=y) `jj rfl;have b:B4 w (.name x y) = .name y x:=rfl;rw[b];have c:AA (BF (doT w (.name x y))) y=ak v:=by rw[LD];simp[N]
     have m:AA (BF (doT w (.name x y))) x=none:=by rw[LD];simp[r]
     have g:goD (BF (doT w (.name x y))) (.name y x):=mk (.name y x) #[λn hn=>hr.1 n (by simp[Deed.names] at hn ⊢;exact hn.symm),λe=>r e.symm,trivial] λn hn=>by
       simp only[Deed.names,yX,xW,or_false] at hn;rcases hn with rfl | rfl;. rw[c];simp[Deed.made];exact r
       . rw[m];simp[Deed.made]
     refine#[g,λn=>?_,rfl];rw[AY g.2.1 g.2.2];dsimp only;rw[c];by_cases e:n=x;. rw[if_pos e,e,N]
     . rw[if_neg e];by_cases i:n=y;. rw[if_pos i,i,hy]
       . rw[if_neg i,LD];dsimp only;rw[if_neg i,if_neg e]
   | split x y p k=>
     have r:x≠y:=hr.2.1;obtain⟨v,N⟩:=here hg (n:=x) `jj (by simp[Deed.made];exact λe=>r e.symm);have hy:=A3H hg (n:=y) `jj rfl;have b:B4 w (.split x y p k) = .join x y:=rfl;rw[b];have c:AA (BF (doT w (.split x y p k))) y=ak (p,k):=by rw[LD];simp
     have m:AA (BF (doT w (.split x y p k))) x=ak (v.1,v.2 + -k):=by rw[LD];simp[r,N]
     have g:goD (BF (doT w (.split x y p k))) (.join x y):=mk (.join x y) #[λn hn=>hr.1 n hn,r,trivial] λn hn=>by
       simp only[Deed.names,yX,xW,or_false] at hn;rcases hn with rfl | rfl;. rw[m];simp[Deed.made]
       . rw[c];simp[Deed.made]
     refine#[g,λn=>?_,by simp only[B4,c]];rw[AY g.2.1 g.2.2];dsimp only;rw[m,c];by_cases e:n=y;. rw[if_pos e,e,hy]
     . rw[if_neg e];by_cases i:n=x;. rw[if_pos i,i,N];show ak (v.1,v.2 + -k+k)=ak v;rw[Int.neg_add_cancel_right]
       . rw[if_neg i,LD];dsimp only;rw[if_neg e,if_neg i]
   | join x y=>
     have r:x≠y:=hr.2.1;obtain⟨v,N⟩:=here hg (n:=x) `jj (by simp[Deed.made]);obtain⟨u,hu⟩:=here hg (n:=y) `jj (by simp[Deed.made]);have b:B4 w (.join x y) = .split x y u.1 u.2:=by simp only[B4,hu]
     rw[b];have c:AA (BF (doT w (.join x y))) y=none:=by rw[LD];simp
     have m:AA (BF (doT w (.join x y))) x=ak (v.1,v.2+u.2):=by rw[LD];simp[r,N,hu]
     have g:goD (BF (doT w (.join x y))) (.split x y u.1 u.2):=mk (.split x y u.1 u.2) #[λn hn=>hr.1 n hn,r,(KZ f hu).2] λn hn=>by
       simp only[Deed.names,yX,xW,or_false] at hn;rcases hn with rfl | rfl;. rw[m];simp[Deed.made];exact λe=>r e.symm
       . rw[c];simp[Deed.made]
     refine#[g,λn=>?_,rfl];rw[AY g.2.1 g.2.2];dsimp only;rw[m];by_cases e:n=y;. rw[if_pos e,e,hu]
     . rw[if_neg e];by_cases i:n=x;. rw[if_pos i,i,N];show ak (v.1,v.2+u.2 + -u.2)=ak v;rw[Int.add_neg_cancel_right]
       . rw[if_neg i,LD];dsimp only;rw[if_neg e,if_neg i]
 obtain⟨z,Y,O⟩:=core;exact#[z,KY (OW z).1 f.1 Y,O,S,T]
end DL
namespace DL
open PySem PySem.Spec L2
def GI (w:List Th) (D:Deed):List Th:=BF (doT w D)
def CJ:List Th->List Deed->Prop
 | _,[]=>True
 | w,D::r=>goD w D/\CJ (GI w D) r
def K0:List Th->List Deed->List Th
 | w,[]=>w
 | w,D::r=>K0 (GI w D) r
theorem ZO:∀{Ds:List Deed}{w:List Th}{D:Deed},K0 w (Ds++[D])=GI (K0 w Ds) D
 | [],_,_=>rfl
 | _::Ds,w,D=>ZO (Ds:=Ds)
def namesOK (ys:List Str):Prop:=(∀z∈ys,D4 z)/\ys.Nodup/\ys.length<=26
theorem namesOK.sub (h:namesOK bs) (s:as.Sublist bs):namesOK as:=#[λz u=>h.1 z (s.subset u),h.2.1.sublist s,zN s.length_le h.2.2]
def CA (ys:List Str):PyData:=.list (ys.map .str)
theorem kJ (e:EO w) (hg:goD w D) (r:w.length < 60):EO (GI w D)/\(GI w D).length<=w.length+1:=by obtain⟨_,_,_,h1,n⟩:=qX e hg r;exact#[h1,n]
theorem NK (h:CA as=CA bs):as=bs:=JW (by unfold CA at h;exact PyData.list.inj h)
def wB2 (t:Th):Str×List PyData:=(t.1,[.int t.2.1,.int t.2.2])
def unB (u:Str×List PyData):Th:=match u with | (a,[.int p,.int c])=>(a,p,c) | (a,_)=>(a,0,0)
theorem qY (w:List Th):(w.map wB2).map OP=w.map thD:=by rw[zD];rfl
theorem qZ {ts:List (Str×List PyData)}(h:ts.Perm (w.map wB2)):(ts.map unB).Perm w/\ts.map OP=(ts.map unB).map thD/\(ts.map unB).map (·.1)=ts.map (·.1):=by
 have e:(w.map wB2).map unB=w:=by rw[zD];exact a9W _
 refine#[by have:=h.map unB;rw[e] at this;exact this,?_,?_];. rw[zD];apply yM;intro u hu;obtain⟨t,_,rfl⟩:=zL.mp (h.mem_iff.mp hu);rfl
 . rw[zD];apply yM;intro u hu;obtain⟨t,_,rfl⟩:=zL.mp (h.mem_iff.mp hu);rfl
theorem dR {ts:List (Str×List PyData)}(h:ts.Pairwise λx y=>x.1.cps.toList < y.1.cps.toList):Ris (ts.map (·.1)):=by unfold Ris;rw[b0Q];exact h.imp λ{a b} q=>by rw[<-A4p];exact decide_eq_true q
def wsF (w:List Th) (Ds:List Deed) (k:Nat):List Th:=K0 w (Ds.take k)
theorem gW (h:Ds[k]?=ak D):wsF w Ds (k+1)=GI (wsF w Ds k) D:=by unfold wsF;rw[a2Q,h];exact ZO
theorem L0:∀{Ds:List Deed}{w:List Th}{k:Nat},CJ w Ds->EO w->w.length+Ds.length < 60->k<=Ds.length->EO (wsF w Ds k)/\(wsF w Ds k).length<=w.length+k/\∀D,Ds[k]?=ak D->goD (wsF w Ds k) D
 | [],w,k,_,M,_,hk=>by
   have e:k=0:=by simpa using hk
   subst e;exact#[M,zR _,λD h=>by simp at h]
 | D::r,w,0,hb,M,_,_=>#[M,zR _,λt h=>by simp at h;subst h;exact hb.1]
 | D::r,w,k+1,hb,M,i,hk=>by
   have f:w.length+r.length+1 < 60:=by simpa [Nat.add_assoc] using i
   obtain⟨n,Q⟩:=kJ M hb.1 (by lia);obtain⟨a,b,c⟩:=L0 (Ds:=r) (w:=GI w D) (k:=k) hb.2 n (by lia) (by simpa using hk);have e:wsF w (D::r) (k+1)=wsF (GI w D) r k:=rfl;rw[e];exact#[a,by lia,λt h=>c t (by simpa using h)]
def bkF (w:List Th) (Ds:List Deed) (j:Nat):PyData:=match Ds[j]? with | some D=>(B4 (wsF w Ds j) D).d | none=>.none
def bkL (w:List Th) (Ds:List Deed) (k:Nat):List PyData:=(a1X k).map (bkF w Ds)
theorem r6 :bkL w Ds (k+1)=bkL w Ds k++[bkF w Ds k]:=by unfold bkL;rw[b3J,xI];rfl
theorem yK :(bkL w Ds k).length=k:=by simp[bkL]
end DL
namespace L2
open PySem PySem.Spec PyProof.Rows
def A4u:List Nat:=[0,1,2,3,4,5,6,7,8,9,10,11,12,13,14,15,16,17,18,19,20,21,22,23]
theorem r8 :∀(l:List Str) (k n:Nat),(l.zip (List.range' k n)).lookup x=ak i->k<=i/\l[i - k]?=ak x
 | [],_,_,h=>by cases h
 | _::_,_,0,h=>by cases h
 | a::r,k,n+1,h=>by
   rw[List.range'_succ,a9Z,a3V] at h;split at h;. rename_i e;have h:=Option.some.inj h;subst h;rw[Nat.sub_self];exact#[zR _,by rw[eq_of_beq e];rfl]
   . obtain⟨h1,t⟩:=r8 r (k+1) n h;refine#[by lia,?_];rw[show i - k=(i - (k+1))+1 by lia];exact t
theorem S7 {l:List Str}(h:(l.zip A4u).lookup x=ak i):l[i]?=ak x:=(r8 l 0 24 h).2
theorem pvx {X:Cx}{i:Nat}{x:Str}{pos:en}(h:(X.N.zip A4u).lookup x=ak i) (e:Vis X.env.scope x) (hd:(x==("__debug__":Str))=false:=by decide)
   (U:(x==("__classdict__":Str))=false:=by decide):PE X (.Name x pos) (YC i):=mP (S7 h) e hd U
end L2
namespace DL
open PySem PySem.Spec L2
theorem r9 (h:(zH (.str a)&&zH (.str b)&&(a0W (.str a) (.str b)==t))=au) (q:Q (.d (.bool t)) M):D2 K (cS K aB) (.d (.str a)) (.d (.str b)) M Q:=by simp only[a0V,beq_iff_eq] at h;exact B2 h.1.1 h.1.2 (by rw[if_neg nft,h.2];exact q)
end DL
namespace L2
open PySem PySem.Spec
def A4v (scope:eN) (NC:List Str):Bool:=(NC.all λx=>(scope.names.lookup x).isSome)&&scope.names.all λy=>!(y.2==.local||y.2==.free||y.2==.cell)||y.1==a0Q ".0" || NC.contains y.1
theorem HF {X:Cx}{scope:eN}{NC:List Str}{q:List (Option Nat)}{Z:eN}{ON:List Str}(_:A4v scope NC=au) (h:oM Z ON scope NC q=au) (e:X.env.scope=Z) (T:X.N=ON):CSc X scope NC q:=CSc.of h e T
end L2
namespace DL
open PySem PySem.Spec L2
section
theorem Q1 :∀{bs:List Int},DVs K H W (bs.map b8J) (bs.map V.int)
 | []=>DVs.nil
 | b::bs=>DVs.cons (by unfold DV;rfl) Q1
end
end DL
namespace XC
open PySem PySem.Spec
def NL (h:cc) (e:Addr) (cls:ap) (dd:Option Addr) (r:ap) (T:Option Addr) (M:ap):Prop:=∃f t,h.get? e=ak f/\f.cls=cls/\f.dict=dd/\f.data = .fields t/\t[2]?=ak r /\
   match T with
   | none=>t[1]?=ak .none
   | some T=>t[1]?=ak (.ref T)/\T≠e/\∃n i,h.get? T=ak n/\n.data = .fields i/\i[3]?=ak M
structure Moved (fs ch:List Addr) (h h':cc):Prop where
 keep:∀b o,h.get? b=ak o->b∉fs->b∉ch->h'.get? b=ak o
 slot:∀b o,h.get? b=ak o->b∉ch->∃sl,h'.get? b=ak { o with slots:=sl }
 there:∀b o,h.get? b=ak o->∃o',h'.get? b=ak o'
theorem Moved.refl (fs ch:List Addr) (h:cc):Moved fs ch h h:=#[λ_ _ e _ _=>e,λ_ o e _=>#[o.slots,e],λ_ o e=>#[o,e]]
theorem Moved.trans {fs ch:List Addr}{h h1 h2:cc}(a:Moved fs ch h h1) (b:Moved fs ch h1 h2):Moved fs ch h h2 where
 keep:=λc o e n m=>b.keep c o (a.keep c o e n m) n m
 slot:=λc o e m=>by obtain⟨sl,e1⟩:=a.slot c o e m;obtain⟨zk,e2⟩:=b.slot c _ e1 m;exact#[zk,e2]
 there:=λc o e=>by obtain⟨o',e1⟩:=a.there c o e;exact b.there c o' e1
theorem Moved.mono (a:Moved fs ch h h') (f:∀b∈fs,b∈r) (g:∀b∈ch,b∈t):Moved r t h h':=#[λb o e n m=>a.keep b o e (λz=>n (f b z)) λz=>m (g b z),λb o e m=>a.slot b o e λz=>m (g b z),a.there]
theorem Moved.drop (a:Moved fs ch h h') (g:∀b∈ch,b∈t\/h.get? b=am):Moved fs t h h':=#[λb o e n m=>a.keep b o e n λz=>(g b z).elim m λq=>by(rw[q] at e;cases e),λb o e m=>a.slot b o e λz=>(g b z).elim m λq=>by(rw[q] at e;cases e),a.there]
theorem Moved.frames (a:Moved fs ch h h') (r:h.FunFrames base l) (hc:∀b∈ch,b∉l.filterMap (·.frame)):h'.FunFrames base l:=by
 induction l with
 | nil=>trivial
 | cons env rest Q=> obtain⟨hk,⟨L,o,M,hn,ho,hd⟩,hr⟩:=r;obtain⟨sl,e⟩:=a.slot L o ho λz=>hc L z (by rw[a4V,M];exact .head _);exact#[hk,#[L,_,M,hn,e,hd],Q hr λb z q=>hc b z (by rw[a4V,M];exact .tail _ q)]
theorem GJ {o:cy}(f:Array ap->Array ap) (hd:o.data = .fields vs):(o.mapFields f).isFreed=false:=Obj.isFreed_of_fields (b1Z hd f)
theorem rA {o:cy}(f:Array ap->Array ap) (hd:o.data = .fields vs):o.mapFields f={ o with data:=.fields (f vs) }:=by obtain⟨c,d,e,sl⟩:=o;cases hd;rfl
theorem EF (f:Array ap->Array ap) (ho:h.get? a=ak o) (hd:o.data = .fields vs) (fs:List Addr):Moved fs [a] h (h.update a (b2J f)):=by
 have k:∀b u,h.get? b=ak u->b∉[a]->(h.update a (b2J f)).get? b=ak u:=λb u e m=>by rw[yC _ _ (λz=>m (by simp[z]))];exact e
 refine#[λb u e _ m=>k b u e m,λb u e m=>#[u.slots,k b u e m],λb u e=>?_];by_cases q:b=a;. subst q;exact#[_,a3Z _ ho (GJ f hd)]
 . exact#[u,k b u e (by simp[q])]
section
variable {M:Model}{A:bx}{E:ap->av->Prop}{s:av}{base:cc}{env:ic}{outer:List ic}{L e:Addr}{cls ar:ap}{dd:Option Addr}{T:Option Addr}
theorem HG {T:Addr}(x:NL s.heap e cls dd ar (ak T) i) (h:∀h',NL h' e cls dd ar (ak T) .none->Moved [] [T] s.heap h'->Q () { s with heap:=h' }):wpAny M A (setFlight (.ref e) am) Q E s:=by obtain⟨f,p,he,hc,r,hd,I,h1,n,b,m,t,y,G⟩:=x;unfold setFlight;refine zZ (bd he hd h1 ?_);rw[if_pos (show(a0X T != a1Z)=au from by simp)];have hsz:3 < m.size:=(Array.getElem?_eq_some_iff.mp G).1;refine di t y hsz (h _ #[f,p,?_,hc,r,hd,I,h1,n,_,_,a3Z _ t (GJ _ y),b1Z y _,by simp[hsz]] (EF _ t y []));rw[yC _ _ n];exact he
theorem ZP (I:A.frames=ak (env::outer)) (g:s.heap.FunFrames base (env::outer)) (v:env.frame=ak L) (he:s.heap.get? e=ak f) (hd:f.data = .fields vs) (hsz:1 < vs.size) (u:vs[2]?=ak ar) (h:∀h' i,NL h' e f.cls f.dict ar (ak i) (dc L)->s.heap.get? i=am->s.heap.objs.size<=i->Moved ((env::outer).filterMap (·.frame)) [e] s.heap h'->Q () { s with heap:=h' }) :
   wpAny M A (do let a <- frameOf env;let Y <- entryPlaceOf L hadNext;let b <- EntryCells.newEntry head a .none (dc L) .none Y;setField (.ref e) 1 b) Q E s:=by
 have k:e∉(env::outer).filterMap (·.frame):=λx=>by obtain⟨_,o,ho,X⟩:=g.mem x;rw[he] at ho;injection ho with ho;subst ho;exact X vs hd
 refine zZ (wpAny_frameOf_fun I g v λc t=>?_);refine zZ (wpAny_entryPlaceOf λY y=>?_);unfold EntryCells.newEntry newFields;refine zZ (xM ?_ (y.sizeOk5 _ _ _ _ _));have p:c.get? e=ak f:=(t.2.1 e k).trans he;generalize m:({ cls:=.type "traceback", dict:=am,data:=.fields ([head,.ref L,.none,dc L,.none]++(if Y.isEmpty then b3Q 6 a1Z else Y)).toArray }:cy)=r;have B:=zW (h:=c) r p;have j:c.objs.size≠e:=a9J (zM p);refine di B hd hsz (h _ c.objs.size #[_,_,a3Z _ B (GJ _ hd),?_,?_,b1Z hd _,?_,?_,j,r,([head,.ref L,.none,dc L,.none]++(if Y.isEmpty then b3Q 6 a1Z else Y)).toArray,?_,?_,?_] ?_ ?_ ?_);. rw[rA _ hd]
 . rw[rA _ hd]
 . rw[Array.getElem?_setIfInBounds_ne `kh];exact u
 . simp[hsz]
 . rw[yC _ _ (a4Q j)];exact yZ c (by rw[<-m];rfl)
 . rw[<-m]
 . simp
 . rw[t.1];exact Heap.get?_none_of_le (zR _)
 . rw[t.1];exact zR _
 . have N:Moved ((env::outer).filterMap (·.frame)) [e] s.heap c:=#[λb o q n _=>(t.2.1 b n).trans q,λb o q _=>t.2.2 b o q,λb o q=>let #[sl,z]:=t.2.2 b o q;#[_,z]]
   have O:Moved ((env::outer).filterMap (·.frame)) [e] c (c.push r):=#[λb o q _ _=>zW _ q,λb o q _=>#[o.slots,zW _ q],λb o q=>#[o,zW _ q]]
   exact(N.trans O).trans (EF _ B hd _)
theorem yO (I:A.frames=ak (env::outer)) (m:s.heap.FunFrames base (env::outer)) (r:env.frame=ak L) (x:NL s.heap e cls dd ar T .none) (h:∀h' t,NL h' e cls dd ar (ak t) (dc L)->s.heap.get? t=am->s.heap.objs.size<=t->Moved ((env::outer).filterMap (·.frame)) (e::T.toList) s.heap h'->Q () { s with heap:=h' }) :
   wpAny M A (gg (.ref e) env) Q E s:=by
 obtain⟨N,O,he,hc,k,hd,p,i⟩:=x;subst hc k;unfold gg;simp only[r];cases T with
 | none=> refine zZ (bd he hd i ?_);rw[if_neg `kh];exact ZP I m r he hd (Array.getElem?_eq_some_iff.mp i).1 p λh' t a b c d=>h h' t a b c d
 | some T=>
   obtain⟨h1,j,v,u,n,y,G⟩:=i;refine zZ (bd he hd h1 ?_);rw[if_pos (show(a0X T != a1Z)=au from by simp)];refine zZ (bd n y G ?_);rw[if_neg (show ¬((a1Z==dc L)=au) from by simp[dc])];refine zZ (di n y (Array.getElem?_eq_some_iff.mp G).1 ?_);have f:=EF (h:=s.heap) (·.setIfInBounds 3 a1Z) n y ((env::outer).filterMap (·.frame));have g:T∉(env::outer).filterMap (·.frame):=λq=>by obtain⟨_,o,ho,X⟩:=m.mem q;rw[n] at ho;injection ho with ho;subst ho;exact X u y
   refine ZP I (f.frames m λb hb=>by(rw[a6V] at hb;subst hb;exact g)) r (by rw[yC _ _ j];exact he) hd (Array.getElem?_eq_some_iff.mp h1).1 p λh' t a b c d=>?_;have hsz:(s.heap.update T (b2J (·.setIfInBounds 3 a1Z))).objs.size=s.heap.objs.size:=Heap.size_after_update ..;rw[hsz] at c;refine h h' t a (Heap.get?_none_of_le c) c ((f.mono (λ_ z=>z) λb z=>by simp at z;simp[z]).trans (d.mono (λ_ z=>z) λb z=>by simp at z;simp[z]))
theorem K1 (I:A.frames=ak (env::outer)) (m:s.heap.FunFrames base (env::outer)) (i:env.frame=ak L) (x:NL s.heap e cls dd ar T n) (z:n = .none\/(T≠am/\n=dc L)) (h:∀h' t,NL h' e cls dd ar (ak t) (dc L)->(T=ak t\/s.heap.get? t=am/\s.heap.objs.size<=t)->Moved ((env::outer).filterMap (·.frame)) (e::T.toList) s.heap h'->Q () { s with heap:=h' }) :
   wpAny M A (gg (.ref e) env) Q E s:=by
 rcases z with rfl | ⟨r,rfl⟩
 . exact yO I m i x λh' t a b c d=>h h' t a (.inr #[b,c]) d
 . cases T with
   | none=>exact absurd rfl r
   | some T=> obtain⟨j,v,he,hc,q,hd,f,h1,k,g,u,p,y,G⟩:=id x;unfold gg;simp only[i];refine zZ (bd he hd h1 ?_);rw[if_pos (show(a0X T != a1Z)=au from by simp)];refine zZ (bd p y G ?_);rw[if_pos (show(dc L==dc L)=au from by simp)];exact zY (h s.heap T x (.inl rfl) (Moved.refl ..))
theorem kK (I:A.frames=ak (env::outer)) (p:s.heap.FunFrames base (env::outer)) (m:env.frame=ak L) (x:NL s.heap e cls dd ar T n) (f:n = .none\/(T≠am/\n=dc L)) (h:∀h' t,NL h' e cls dd ar (ak t) .none->(T=ak t\/s.heap.objs.size<=t)->Moved ((env::outer).filterMap (·.frame)) (e::T.toList) s.heap h'->Q () { s with heap:=h' }) :
   wpAny M A (leaving env (.ref e)) Q E s:=by
 unfold leaving;refine zZ (K1 I p m x f λh1 t N n1 g=>?_);refine HG (s:={ s with heap:=h1 }) N λi k j=>h i t k (n1.imp id λz=>z.2) ?_;have r:Moved ((env::outer).filterMap (·.frame)) (t::e::T.toList) s.heap h1:=g.mono (λ_ z=>z) λb z=>.tail _ z;have c:Moved ((env::outer).filterMap (·.frame)) (t::e::T.toList) h1 i:=j.mono (λ_ z=>absurd z (by simp)) λb z=>by simp at z;simp[z]
 refine(r.trans c).drop λb z=>(yX.mp z).elim (λq=>?_) λq=>.inl q;rcases n1 with n1 | n1;. left;rw[q,n1];simp
 . right;rw[q];exact n1.1
theorem S8 {T f:Addr}(x:NL s.heap e cls dd ar (ak T) i) (h:∀h',NL h' e cls dd ar (ak T) (dc f)->Moved [] [T] s.heap h'->Q () { s with heap:=h' }):wpAny M A (setFlight (.ref e) (ak f)) Q E s:=by obtain⟨r,b,he,hc,m,hd,I,h1,n,c,p,t,y,G⟩:=x;unfold setFlight;refine zZ (bd he hd h1 ?_);rw[if_pos (show(a0X T != a1Z)=au from by simp)];have hsz:3 < p.size:=(Array.getElem?_eq_some_iff.mp G).1;refine di t y hsz (h _ #[r,b,?_,hc,m,hd,I,h1,n,_,_,a3Z _ t (GJ _ y),b1Z y _,by simp[hsz]] (EF _ t y []));rw[yC _ _ n];exact he
end
end XC
namespace XC
open PySem PySem.Spec
abbrev ZQ (C t:Addr):Obj:={ cls:=.ref C,data:=.fields (y9 [.ref t,.none,.none,.none,.bool aB,.none]) }
abbrev NM (h:cc) (C:Addr) (rest:List ap):Heap:=(h.push { cls:=.type "tuple", data:=.seq rest.toArray }).push (ZQ C h.objs.size)
theorem DJ :∀b o,h.get? b=ak o->(NM h C rest).get? b=ak o:=λb o e=>zW _ (zW _ e)
theorem QR :(NM h C rest).get? (h.objs.size+1)=ak (ZQ C h.objs.size):=by heap_get
section
variable {prog:bn}{w:bj}{A:bx}{E:ap->av->Prop}{h:cc}{g:Array GenState}{d:Drawn}{t:Nat}{os:ee}
variable {nm q:Str}{C N:Addr}{bs bm Az:List ap}{hdct:Bool}{sn:List Str}{sub:List ap}{ab:Bool}{col:Option Bool}{dd:Option Addr}{k0 k1 k2 k3 k5:Option ap}{B newId fu:String}{init:ap}
theorem ZR (F:h7 B newId fu Az) (hB:bm.contains (.type B)=au) (hC:h.get? C=ak (excClassObj nm q C N bs bm hdct sn sub ab col dd k0 k1 k2 k3 k5 newId)) (hq:Q () #[h,g,d,t,os]):wpAny M A (checkBuiltinCall newId #[.ref C::rest,[]]) Q E #[h,g,d,t,os]:=by
 have f:(a0X C::bm).contains (.type B)=true:=by rw[a1J,hB,Bool.or_true]
 have e:=F.noStar;simp only[checkBuiltinCall,F.newKind,F.newSplit,F.newRow];repeat (first | refine bb hC ?_ | (refine br hC ?_;rw[f]) | refine wpAny_staticBase_exc hC ?_ | refine wpAny_madeBy_exc hC ?_ | simp only[bne_self_eq_false,b4Q,if_false] | wp_step)
 exact hq
theorem A4w (F:h7 B newId fu Az) (hB:bm.contains (.type B)=au) (hA:bm.contains (.type "AttributeError")=aB) (hN:bm.contains (.type "NameError")=aB)  (hC:h.get? C=ak (excClassObj nm q C N bs bm hdct sn sub ab col dd k0 k1 k2 k3 k5 newId)) (hq:R (.ok (.ret (.ref (h.objs.size+1)))) #[NM h C rest,g,d,t,os]) (Y:rest.length<=a0) :
   codeAny (model prog w) A (.builtin newId #[.ref C::rest,[]]) R #[h,g,d,t,os]:=by
 have i:=F.ends;have J:(a0X C::bm).contains (.type B)=true:=by rw[a1J,hB,Bool.or_true]
 have e:(a0X C::bm).contains (.type "AttributeError")=false:=by rw[a1J,hA];rfl
 have n:(a0X C::bm).contains (.type "NameError")=false:=by rw[a1J,hN];rfl
 refine codeAny_builtinAt F.entry ?_;unfold Builtin.«BaseException.__new__»;refine wpAt_bind ?_;show wpAt _ _ _ (stack >>= _) _ _ _;refine wpAt_bind (wpAt_stack λp below=>wpAt_of_wpAny ?_)
 wp_walk
 refine wpAt_of_wpAny ?_;rw[F.owner];repeat (first | with_reducible refine wpAny_madeHere_exc F.canon hC ?_ | with_reducible refine bb hC ?_ | (with_reducible refine br hC ?_;first | rw[J] | rw[e] | rw[n]) | wp_step)
 show R _ _;rw[a9K];exact hq
theorem ZS (F:h7 B newId fu Az) (hB:bm.contains (.type B)=au) (hA:bm.contains (.type "AttributeError")=aB) (hN:bm.contains (.type "NameError")=aB)  (hC:h.get? C=ak (excClassObj nm q C N bs bm hdct sn sub ab col dd k0 k1 k2 k3 k5 newId)) (hi:PySem.W.Looks (model prog w) h (ew (.ref C) "__init__") (ak init)) (hb:∀self:ap,PySem.W.Looks (model prog w) h (bindSpecial init self) (init,[self])) (hq:codeAny (model prog w) A (.call init #[.ref (h.objs.size+1)::rest,[]]) (λr s'=>match r with | .ok (.ret v)=>v = .none/\Q (.done (.ret (.ref (h.objs.size+1)))) s' | .ok _=>False | .error e=>E e s') #[NM h C rest,g,d,t,os]) (Y:rest.length<=a0) :
   wpAny (model prog w) A (Builtin.«type.__call__» #[.ref C::rest,[]]) Q E #[h,g,d,t,os]:=by
 repeat (first | with_reducible refine bb hC ?_ | with_reducible refine wpAny_madeBy_exc hC ?_ | wp_step)
 refine codeAny_call_builtin_code (Code.quiet_builtin _ F.quiet) (ZR F hB hC ?_);refine A4w F hB hA hN hC ?_ Y;show wpAny _ _ _ _ _ _;have n:(NM h C rest).get? C=_:=DJ _ _ hC;have i:(NM h C rest).get? (h.objs.size+1)=ak (ZQ C h.objs.size):=QR;have j:(a0X C::bm).contains (.ref C)=true:=by simp
 unfold isInstance;repeat (first | with_reducible refine bb i ?_ | (with_reducible refine br n ?_;rw[j]) | wp_step)
 show wpAny _ _ (ew (.ref C) _) _ _ _;refine(hi.keeps DJ).here (s:=#[NM h C rest,g,d,t,os]) ?_;refine bt (zZ (((hb _).keeps DJ).here (s:=#[NM h C rest,g,d,t,os]) ?_));refine zZ (wpAny_call (xN hq λr s' z=>?_));rcases r with e | (v | _ | _ | _) <;> first | exact z | exact z.elim | skip
 obtain⟨rfl,z⟩:=z
 wp_walk
 exact z
theorem dS (F:h7 B newId fu Az) (hB:bm.contains (.type B)=au) (hA:bm.contains (.type "AttributeError")=aB) (hN:bm.contains (.type "NameError")=aB)  (hC:h.get? C=ak (excClassObj nm q C N bs bm hdct sn sub ab col dd k0 k1 k2 k3 k5 newId)) (hi:PySem.W.Looks (model prog w) h (ew (.ref C) "__init__") (ak init)) (hb:∀self:ap,PySem.W.Looks (model prog w) h (bindSpecial init self) (init,[self])) (hq:codeAny (model prog w) (A.under (.builtin "type.__call__" #[.ref C::rest,[]])) (.call init #[.ref (h.objs.size+1)::rest,[]]) (λr s'=>match r with | .ok (.ret v)=>v = .none/\Q (.ref (h.objs.size+1)) s' | .ok _=>False | .error e=>E e s') #[NM h C rest,g,d,t,os]) (Y:rest.length<=a0) :
   wpAny (model prog w) A (call (.ref C) rest) Q E #[h,g,d,t,os]:=by
 have n:=tc_lookup;have i:=tc_bind (.ref C);have m:(#[h,g,d,t,os]:av).TypeIs (.ref C) "type" := #[_,hC,rfl]
 refine wpAny_call (codeAny_of_tree ?_);show wpAny _ _ (callAny (.ref C) _) _ _ _;repeat (any_goals (first | assumption | with_reducible refine bb hC ?_ | wp_step))
 refine#[rfl,?_];refine codeAny_call_builtin_at (Code.quiet_builtin _ (by decide +kernel)) entry_typeCall (wpAny_check_type_call_sub hC (ZS F hB hA hN hC hi hb (xN hq λr s' z=>?_) Y));rcases r with e | (v | _ | _ | _) <;> first | exact z | exact z.elim
theorem kL (F:h7 B newId fu Az) (hB:bm.contains (.type B)=au)  (hC:h.get? C=ak (excClassObj nm q C N bs bm hdct sn sub ab col dd k0 k1 k2 k3 k5 newId)) (hq:∀h' t',(∀b o,h.get? b=ak o->h'.get? b=ak o)->h'.get? (h.objs.size+1)=ak (ZQ C t')->R (.ok (.ret .none)) #[h',g,d,t,os]) (Y:rest.length<=a0) :
   codeAny (model prog w) A (.call (.builtin fu) #[.ref (h.objs.size+1)::rest,[]]) R #[NM h C rest,g,d,t,os]:=by
 have e:(NM h C rest).get? C=_:=DJ _ _ hC;have r:(NM h C rest).get? (h.objs.size+1)=ak (ZQ C h.objs.size):=QR;have J:(a0X C::bm).contains (.type B)=true:=by rw[a1J,hB,Bool.or_true]
 have i:=F.noStar;refine codeAny_call_builtin F.init.plain F.initEntry ?_;simp only[checkBuiltinCall,F.initKind,F.initSplit,F.initRow];repeat (first | with_reducible refine bb r ?_ | with_reducible refine bb e ?_ | (with_reducible refine br e ?_;rw[J]) | wp_step)
 refine fc ?_;rw[show ∀(a b:String) (n:Nat),Bind.check #[.positional, "*", B,.self,[#["args", .varPos,aB]]] a b n (List.map (λx=>x.fst) ({ pos:=a0X (h.objs.size+1)::rest }:Args).kw)=pure () from
   λa b n=>check_star_args _ _ _ _ _ _];refine zY ?_
 wp_walk
 refine hq _ (h.objs.size+2) (λb o hb=>?_) ?_;. rw[yC _ _ (a9J (b9K (zM hb)))];exact zW _ (DJ _ _ hb)
 . rw[a3Z _ (zW _ r) rfl];simp only[a9K];rfl
theorem VF (hbase:bm.contains (.type "BaseException")=au) (hh:A.handled=am) (hx:wpAny (model prog w) A x (λv y=>∃e t n,v = .ref e/\y.heap.get? C=ak (excClassObj nm q C N bs bm hdct sn sub ab col dd k0 k1 k2 k3 k5 newId) /\
     y.heap.get? e=ak { cls:=.ref C,dict:=n,data:=.fields (y9 [.ref t,.none,.none,.none,.bool aB,.none]) }/\E (.ref e) y) E s) :
   wpAny (model prog w) A (raiseStmt env (ak x) am) Q E s:=by
 have J:(a0X C::bm).contains (.type "BaseException")=true:=by rw[a1J,hbase,Bool.or_true]
 unfold raiseStmt;refine zZ (bf hx (λv y c=>?_) λ_ _ x=>x);obtain⟨e,t,n,rfl,hC,he,hE⟩:=c;obtain⟨hp,g,d,i,os⟩:=y;repeat (first | with_reducible refine bb he ?_ | with_reducible refine bb hC ?_ | (with_reducible refine br hC ?_;rw[J]) | wp_step)
 exact wpAny_raiseNew_none hh hE
end
end XC
namespace XC
open PySem PySem.Spec PySem.W Builtin Builtin.ObjectAttr
section
theorem yP (X:K.In s.heap) (hx:s.heap.get? x=ak o) (hc:o.cls = .ref C) (f:o.dict=am) (Z:o.data = .fields vs) (U:clsIn K C=ak cd) (i:cd.mro.contains (.type "object")=au) (hp:∀self,refuseLoop self "__setattr__" cd.mro=pure ()) (S:takerIn K C name=ak am) (hh:cd.hasDict=au) (hq:∀h' M n,s.heap.objs.size<=n->h'.get? x=ak { o with dict:=ak n }->h'.Ns1 n (λy=>if y=name then ak v else am)->(∀b u,b≠x->s.heap.get? b=ak u->h'.get? b=ak u) ->
     R (.ok (.ret .none)) { s with heap:=h',toks:=M }) :
   codeAny (model prog w) A (.call (.builtin "object.__setattr__") #[[.ref x,.str name tk,v],[]]) R s:=by
 have SF:=PySem.F.store_object;have ne:cd.mro.isEmpty=false:=by cases q:cd.mro with | nil=>rw[q] at i;cases i | cons _ _=>rfl
 have ty:Looks (model prog w) s.heap (typeOf (.ref x)) (.ref C):=(Looks.ld hx).andThen (by rw[hc];exact .now);have sub:Looks (model prog w) s.heap (isInstance (.ref x) (.type "object")) true:=ty.andThen (looks_mroIn X (by unfold mroIn;rw[U,Option.bind_some,if_neg (by rw[ne];decide),i]));refine codeAny_call_builtin SF.slot.plain SF.entry (@check_slot (model prog w) _ _ s "object.__setattr__" "object" "__setattr__" (.ref x) [.str name tk,v] [] _ SF.kind SF.split sub (SF.args (.ref x) (.str name tk) v) ?_);obtain⟨attr,I,hr⟩:=Option.bind_eq_some_iff.mp S;have k:Looks (model prog w) s.heap (mroOf (.ref C)) cd.mro:=(looks_clsIn X U).andThen .now;have h:Looks (model prog w) s.heap (storeTaker? attr) none:=by
   cases attr with
   | none=>cases hr;exact .now
   | some a=> obtain⟨b,hb,e⟩:=Option.map_eq_some_iff.mp hr;refine(looks_takesIn X hb).andThen ?_;cases b <;> first | exact .now | cases e
 rw[osa_eq,refuse_eq];refine zZ (zZ (ty.here (zZ (k.here ?_))));rw[hp];refine zY (zZ (ty.here (zZ ((looks_findIn X I).here (zZ (h.here ?_))))));obtain⟨J,g,d,t,os⟩:=s;obtain⟨Y,od,D,osl⟩:=o;dsimp only at hc f Z hq;subst hc f Z;have r:J.get? x=ak #[.ref C,am,.fields vs,osl]:=hx;refine zZ (zY (zZ (zZ (wpAny_loadPart r (zZ ((looks_clsIn X U).here ?_))))));rw[hh];have m:(J.push { cls:=.type "dict", data:=.dict #[] }).get? x=ak #[.ref C,am,.fields vs,osl]:=zW _ r;have p:x≠J.objs.size:=zC (zM r);refine zZ (wpAny_alloc' ?_);refine zZ (wpAny_update' m ?_);refine zY (a:=ak J.objs.size) ?_;have j:((J.push { cls:=.type "dict", data:=.dict #[] }).update x λo=>{ cls:=o.cls,dict:=ak J.objs.size,data:=o.data,slots:=o.slots }).get? J.objs.size
     = ak { cls:=.type "dict", data:=.dict #[] }:=
   (yB _ _ _ _ p.symm).trans (Heap.get?_push_at rfl rfl);have B:((J.push { cls:=.type "dict", data:=.dict #[] }).update x λo=>{ cls:=o.cls,dict:=ak J.objs.size,data:=o.data,slots:=o.slots }).Ns J.objs.size (λ_=>am):=#[_,#[],_,j,rfl,λe he=>absurd he (by simp),λ_=>rfl]
 show wpAny _ _ (storeInDict J.objs.size (.str name tk) name v) _ _ _;unfold storeInDict newKeyGuard;refine zZ (zY (zZ (wpAny_nsSet1 (Heap.Ns1.of_empty B) λh' c hs=>?_)));obtain⟨Q,G,L,z,T,N⟩:=c.count (Within.cons name v Within.nil);refine zZ (wpAny_lookBehind z (by rw[T];exact pastItsLine_dict (zN N (by rw[yR,b6W,cN];omega))) ?_);refine zY (hq h' _ J.objs.size (zR _) ?_ c λb u O hb=>?_);. exact(hs.2 x p).trans (a3Z _ m rfl)
 . exact(hs.2 b (zC (zM hb))).trans ((yB _ _ _ _ O).trans (zW _ hb))
theorem yS (X:K.In s.heap) (hx:s.heap.get? x=ak o) (hc:o.cls = .ref C) (n:o.dict=am) (Z:o.data = .fields vs) (hs:findIn K (.ref C) "__setattr__"=ak (ak (.builtin "object.__setattr__"))) (U:clsIn K C=ak cd) (q:cd.mro.contains (.type "object")=au) (hp:∀self,refuseLoop self "__setattr__" cd.mro=pure ()) (i:takerIn K C name=ak am) (hh:cd.hasDict=au) (hq:∀h' t e,s.heap.objs.size<=e->h'.get? x=ak { o with dict:=ak e }->h'.Ns1 e (λy=>if y=name then ak v else am)->(∀b u,b≠x->s.heap.get? b=ak u->h'.get? b=ak u) ->
     Q () { s with heap:=h',toks:=t }) :
   wpAny (model prog w) A (setAttr (.ref x) name v) Q E s:=by
 have J:InstAt s.heap x o C none:=#[hx,hc,by obtain⟨_,_,_,_⟩:=o;cases Z;rfl,by rw[n];trivial]
 exact set_plain X J hs (yP (s:={ s with toks:=s.toks+1 }) X hx hc n Z U q hp i hh λh' t e a b c d=>hq h' t e a b c d)
end
end XC
namespace XC
open PySem PySem.Spec L2
open PyProof.Rows (envOfC AllBare)
abbrev St:=L2.St
theorem VG (ok:HOk P w H h) (m:Moved fs ch h h') (t:∀b∈fs,H b=am) (Q:∀b∈ch,H b=am):HOk P w H h':=λa o e=>by
 have ne:∀b u,H b=ak u->b∉fs/\b∉ch:=λb u q=>#[λz=>(by rw[t b z] at q;cases q),λz=>(by rw[Q b z] at q;cases q)]
 refine(ok a o e).stay (λb u hb q=>?_) (λ_ q=>q) λ_ _ q=>q;rcases hb with rfl | hb;. exact m.keep b u q (ne b o e).1 (ne b o e).2
 . exact m.keep b u q (ne b _ hb).1 (ne b _ hb).2
def rB (dd:Option Addr) (H:Hp):Prop:=∃d v,dd=ak d/\H d=ak (.xd [(a0Q "number", v)])
def CXE (P:bn) (w:bj):CXT:=λouter H s E e s'=>∃(a T:Addr) (cls:ap) (t:Option Addr) (n:ap) (H':Hp),e = .ref a/\s'.os=s.os/\g5 s'.gens/\Un (frs outer) [] H H' s.heap s'.heap/\HOk P w H' s'.heap /\
 NL s'.heap a cls t n (ak T) .none/\s.heap.objs.size<=a/\s.heap.objs.size<=T/\H' a=am/\H' T=am/\(n = .none\/rB t H')/\E cls t H'
structure Loose (X:Cx) (H:Hp) (b:Addr):Prop where
 above:X.s₀.heap.objs.size<=b
 loc:b≠X.env.locals
 cel:∀x c,X.env.cells.lookup x=ak c->c≠b
 fre:H b=am
 pn:∀p∈X.pn,p.1≠b
theorem Loose.of {X:Cx}{pins:List (Addr×cy)}{t:St}{H H':Hp}{s:av}{b:Addr}(I:Inv X pins t H s) (h:s.heap.objs.size<=b) (f:H' b=am):Loose X H' b:=by
 refine#[zN I.sz h,λz=>?_,λx c e z=>?_,f,λp hp z=>?_];. have:=I.lt;rw[<-z] at this;exact absurd (zP this h) (yF _)
 . obtain⟨v,o,ho,_⟩:=I.cell x c e;have:=zM ho;rw[z] at this;exact absurd (zP this h) (yF _)
 . have:=zM (I.pin p (zA _ hp)).1;rw[z] at this;exact absurd (zP this h) (yF _)
def Fly (X:Cx) (R:St->XK) (e:ap) (s':av):Prop:=∃(a:Addr) (T:Option Addr) (cls:ap) (n:Option Addr) (i:ap) (r:St) (H:Hp) (M:ap),e = .ref a/\Inv X [] r H s'/\(NL s'.heap a cls n i T M/\(M = .none\/(T≠am/\M=dc X.env.locals)))/\Loose X H a/\(∀t,T=ak t->Loose X H t)/\(i = .none\/rB n H)/\R r cls n H
theorem WS {e:St}(I:Inv X pins e H s):Inv X [] e H s:=I.pins_of λp hp=>nomatch hp
theorem rC {n:St}(I:Inv (X.wish (Fly X R)) pins n H s) (h:CXE X.prog X.w X.stack H s (R n) e s'):Fly X R e s':=by obtain⟨a,T,cls,m,i,H',rfl,U,bare,un,hok,x,h1,f,p,c,g,r⟩:=h;have Q:=I.unwish;have J:Inv X pins n H' s':=Q.call' (ch:=[]) U un hok bare λb z=>absurd z (by simp);exact#[a,ak T,cls,m,i,n,H',.none,rfl,WS J,#[x,.inl rfl],Loose.of Q h1 p,λt e=>(by cases e;exact Loose.of Q f c),g,r]
def WT (sp:Sp) (R:St->XK) (t:TA):TE:=λe H Q=>t e H λi n=>sp i n Q (R e)
theorem rD {X:Cx}{R:St->XK}{k:Nat}{f:Addr}{T:dl}{ps:List Str}{sp:Sp}{x:Str}{p pos:en}{e:bp}{es:List bp}{t:TA}(F:FnOk X.prog X.w X.K X.mg X.base (CXE X.prog X.w) k f T ps sp) (hr:Room k X.A) (hg:Gl X x) (y:X.mg x=ak (.ref f)) (hk:a3K X.K (.ref f)=au) (hb:Binds X.K T ps []) (g:PA (X.wish (Fly X R)) (e::es) t) (c:(x==("__debug__":Str))=false:=by decide) (he:starEach (e::es) X.env=(aB,eval e X.env)::starEach es X.env:=by rfl) (z:(backTo pos (starEach es X.env)).any (·.1)=false:=by rfl) :
   PE (X.wish (Fly X R)) (.Call (.Name x p) (e::es) [] pos) (WT sp R t):=by
 intro pins s i H Q I h;refine c4 (G7 (X:=X.wish (Fly X R)) I hg y ?_ c);refine b6J (h₀:=X.base) I.ok.mod.kin hk (thn (g pos pins s i H _ I h) λv m #[n,b,J,r,q]=>#[J.kIn,?_]) he z;have j:(v++[]).length=ps.length:=by rw[a4K,<-r.length];exact F.len _ _ _ _ q
 have N:Vals n (v++[]):=by rw[a4K];exact r
 refine wpAny_call (xN (F.run X.A X.stack m b #[v,[]] (v++[]) n Q (R i) hr J.env0 (hb m v J.kIn j) N q) λL s' hq=>?_);cases L with
 | error e=>exact rC J hq
 | ok M=>
   cases M with
   | ret u=>exact J.after hq
   | next=>exact a6W hq
   | brk=>exact a6W hq
   | cont=>exact a6W hq
theorem BY {e:St}(I:Inv X pins e H s) (m:Moved (frs X.stack) ch s.heap h') (L:∀b∈ch,H b=am/\X.s₀.heap.objs.size<=b/\b≠X.env.locals/\(∀x c,X.env.cells.lookup x=ak c->c≠b)/\∀p∈X.pn++pins,p.1≠b) :
   Inv X pins e H { s with heap:=h' }:=by
 refine I.call' (s':={ s with heap:=h' }) (ch:=ch) rfl #[λb o q n f c=>m.keep b o q f c,λb o q n f c=>m.slot b o q c,λ_ _ _ n _=>n,λb o q _=>m.there b o q,λ_ _ q=>q,λ_ _ _ q=>q,λb Z q=>#[#[],by rw[q];simp]]
   (VG I.hok m I.stkFree λb hb=>(L b hb).1) I.bare λb hb=>#[.inr (L b hb).2.1,(L b hb).2.2]
theorem Loose.ch (l:Loose X H b):H b=am/\X.s₀.heap.objs.size<=b/\b≠X.env.locals/\(∀x c,X.env.cells.lookup x=ak c->c≠b)/\∀p∈X.pn++[],p.1≠b:=#[l.fre,l.above,l.loc,l.cel,λp hp=>l.pn p (by simpa using hp)]
theorem dU {X:Cx}{R:St->XK}(m:X.stack=X.env::X.outer) (c:X.env.frame=ak X.env.locals):PassesOwn (model X.prog X.w) X.A X.env (Fly X R):=λe s' h=>by
 obtain⟨a,T,cls,y,v,p,H,U,rfl,I,⟨x,M⟩,O,g,D,r⟩:=h;have N:X.A.frames=ak (X.env::X.outer):=by rw[<-m];exact I.ok.frames
 have S:s'.heap.FunFrames X.base (X.env::X.outer):=by rw[<-m];exact I.stack
 refine K1 N S c x M λi n j J Q=>?_;have L:(X.env::X.outer).filterMap (·.frame)=frs X.stack:=by rw[m];rfl
 rw[L] at Q;have k:Inv X [] p H { s' with heap:=i }:=BY I Q λb hb=>by
   rcases yX.mp hb with q | q;. rw[q];exact O.ch
   . exact(g b (by cases T with | none=>simp at q | some t=>simp at q;rw[q])).ch
 have f:Loose X H n:=J.elim (λz=>g n z) λz=>Loose.of I z.2 (I.hok.fresh z.2);obtain⟨oe,vs,he,hc,su,hd,Z,h1,rn,_⟩:=id j;unfold cameBackBy;refine zZ (bd (s:={ s' with heap:=i }) he hd h1 ?_);rw[if_neg (by simp)];rw[c];refine S8 (s:={ s' with heap:=i }) j λG Y B=>?_;have u:Inv X [] p H { s' with heap:=G }:=BY (s:={ s' with heap:=i }) (ch:=[n]) k (B.mono (λb z=>absurd z (by simp)) λb z=>z) λb hb=>by
   have:b=n:=by simpa using hb
   rw[this];exact f.ch
 exact#[a,ak n,cls,y,v,p,H,_,rfl,u,#[Y,.inr #[by simp,rfl]],O,λt e=>(by cases e;exact f),D,r]
section
theorem A3I  (h:Fly (IC (CXE P w) P w K mg base N qual scope f cd A outer s H E) (λ_=>E) e s'):(IC (CXE P w) P w K mg base N qual scope f cd A outer s H E).xe e s':=by
 obtain⟨a,T,cls,S,u,σ,H',Y,rfl,I,⟨x,G⟩,O,p,J,r⟩:=h;have v:=I.stack;have y:=I.stkFree;refine kK (base:=base) (env:=fy qual scope s.heap.objs.size f cd) (outer:=outer) (L:=s.heap.objs.size) I.ok.frames v rfl x G λh' i X z m=>?_;have D:∀b∈(fy qual scope s.heap.objs.size f cd::outer).filterMap (·.frame),H' b=none:=y;have j:∀b∈a::T.toList,Loose (IC (CXE P w) P w K mg base N qual scope f cd A outer s H E) H' b:=λb hb=>by
   rcases yX.mp hb with q | q;. rw[q];exact O
   . exact p b (by cases T with | none=>simp at q | some t=>simp at q;rw[q])
 have M:∀b o,s.heap.get? b=ak o->b∉a::T.toList:=λb o q hb=>absurd (zP (zM q) (j b hb).above) (yF _);have k:∀b o,s.heap.get? b=ak o->b∉frs outer->b∉(fy qual scope s.heap.objs.size f cd::outer).filterMap (·.frame):=λb o q n hb=>by
   rcases yX.mp (show b∈s.heap.objs.size::frs outer from hb) with z | z;. rw[z] at q;exact absurd (zM q) (yF _)
   . exact n z
 have B:=I.base;have hok:=VG I.hok m D λb hb=>(j b hb).fre;have sz:=I.sz;have g:s.heap.objs.size<=i/\H' i=none:=by
   rcases z with z | z;. exact#[(p i z).above,(p i z).fre]
   . exact#[zN sz z,I.hok.fresh z]
 refine#[a,i,cls,S,u,H',rfl,I.os,I.bare,#[λb o q n hb hx=>?_,λb o q n hb hx=>?_,B.free,λb o q hx=>?_,B.tups,B.frzs,B.tbls],hok,X,O.above,g.1,O.fre,g.2,J,r];. exact m.keep b o (B.keep b o q n hb hx) (k b o q hb) (M b o q)
 . obtain⟨sl,c⟩:=B.slot b o q n hb hx;obtain⟨Z,U⟩:=m.slot b _ c (M b o q);exact#[Z,U]
 . obtain⟨Q,c⟩:=B.there b o q hx;exact m.there b Q c
theorem rE (h:PSs (X.wish E) st t) (hE:∀e s,E e s->X.xe e s):PSs X st t:=λpins s i H D I n=>
 bf (h pins s i H D (I.wish _) n) (λ_ _ q=>q.unwish) hE
theorem A5h (F:Fun K x qual st f T) (S:FnScope N ps (AB st)) (len:∀vs H Q E,sp vs H Q E->vs.length=ps.length) (u:∀(cdv:ap) (A:bx) (outer:List ic) (s:av) (H:Hp) (vs:List V) (Q:VK) (E:XK),Room k (A.deeper (fy qual (AB st) s.heap.objs.size f cdv))->sp vs H Q E ->∃t,PSs ((IC (CXE P w) P w K mg base N qual (AB st) f cdv A outer s H E).wish (Fly (IC (CXE P w) P w K mg base N qual (AB st) f cdv A outer s H E) λ_=>E)) (BH st) t/\t { nx:=λ_ H'=>Q .non H',rt:=Q } (E5 N vs) H):FnOk P w K mg base (CXE P w) (k+1) f T ps sp:=by obtain⟨r,m,kV,doc,p,J,cdv,i,osl,rfl,c,U⟩:=F.ex;refine A1D c U S len λA outer s H vs Q E hr n=>?_;obtain⟨t,h,q⟩:=u cdv A outer s H vs Q E hr n;exact#[t,rE h λe s' z=>A3I z,q]
end
end XC
namespace XC
open PySem PySem.Spec L2
open PyProof.Rows (envOfC AllBare)
abbrev bmV:List Value:=[.type "ValueError", .type "Exception", .type "BaseException", .type "object"]
structure XCls (K:Frg) (C S:Addr) (init:ap):Prop where
 lk:∃(nm q:Str) (N:Addr) (bs:List ap) (sn:List Str) (sub:List ap) (ab:Bool) (col:Option Bool) (dd:Option Addr) (k0 k1 k2 k3 k5:Option ap),K.lookup C=ak (excClassObj nm q C N bs (.ref S::bmV) au sn sub ab col dd k0 k1 k2 k3 k5 "ValueError.__new__")
 init:a8W K (.ref C) "__init__"=ak (ak init)
 kp:a3K K (.ref C)=au
theorem QS :(a0X S::bmV).contains (.type "ValueError")=true:=by rw[a1J];rfl
theorem WU :(a0X S::bmV).contains (.type "AttributeError")=false:=by rw[a1J];rfl
theorem WV :(a0X S::bmV).contains (.type "NameError")=false:=by rw[a1J];rfl
theorem NN :(a0X S::bmV).contains (.type "BaseException")=true:=by rw[a1J];rfl
section
variable {X:Cx}{R:St->XK}{C S f:Addr}{x:Str}{np ag pos:en}
def gX (C:Addr) (R:St->XK):TS:=λ_ e H=>R e (.ref C) am H
theorem kM (c:XCls X.K C S (.builtin "ValueError.__init__")) (hg:Gl X x) (j:X.mg x=ak (.ref C)) (hh:X.A.handled=am) (p:(x==("__debug__":Str))=false:=by decide) :
   PS (X.wish (Fly X R)) (.Raise (ak (.Call (.Name x np) [] [] ag)) am pos) (gX C R):=by
 intro pins s i H D I h;have F:=b6X;obtain⟨nm,q,N,bs,sn,sub,ab,col,dd,k0,k1,k2,k3,k5,u⟩:=c.lk;have n:=I.unwish;have hC:=n.kIn _ _ u;rw[arm_exec_Raise];refine zZ (bv (VF (C:=C) (hbase:=NN (S:=S)) (hh:=hh) (nm:=nm) (q:=q) (N:=N) (bs:=bs) (hdct:=au) (sn:=sn) (sub:=sub) (ab:=ab) (col:=col) (dd:=dd) (k0:=k0) (k1:=k1) (k2:=k2) (k3:=k3) (k5:=k5) (newId:= "ValueError.__new__") ?_));refine zZ (thn (c4 (G7 I (X:=X.wish (Fly X R)) hg j (PySem.W.callWith_K0 (X:=n.kIn) c.kp (Q:=λv y=>∃e t m,v = .ref e/\y.heap.get? C=ak (excClassObj nm q C N bs (.ref S::bmV) au sn sub ab col dd k0 k1 k2 k3 k5 "ValueError.__new__") /\
     y.heap.get? e=ak { cls:=.ref C,dict:=m,data:=.fields (y9 [.ref t,.none,.none,.none,.bool aB,.none]) }/\Fly X R (.ref e) y) ?_) p)) λv z G=>zZ (bv (zY G)));obtain⟨hp,g,d,t,U⟩:=s;refine dS F QS WU WV hC (c0W n.kIn c.init) (λself=>PySem.W.Looks.of_pure (F.init.bind self)) (kL F QS hC (λb t' k r=>?_) (xT _)) (xT _);have J:Inv X pins i H #[b,g,d,t,U]:=n.kept (t':=t) k;have sz:hp.objs.size<=hp.objs.size+1:=a5Z _;exact#[rfl,hp.objs.size+1,t',am,rfl,k _ _ hC,r,hp.objs.size+1,am,.ref C,am,.none,i,H,.none,rfl,WS J,#[#[_,_,r,rfl,rfl,rfl,rfl,rfl],.inl rfl],Loose.of n sz (n.hok.fresh sz),λt e=>(by cases e),.inl rfl,h]
end
end XC
namespace XC
open PySem PySem.Spec L2
open PyProof.Rows (envOfC AllBare)
def xo (e C t:Addr) (y:Option Addr):HO:=.ext λh=>h.get? e=ak { cls:=.ref C,dict:=y,data:=.fields (y9 [.ref t,.none,.none,.none,.bool aB,.none]) }
theorem rF (q:h.get? e=ak { cls:=.ref C,dict:=y,data:=.fields (y9 [.ref t,.none,.none,.none,.bool aB,.none]) }):ObjOk P w H h e (xo e C t y):=#[q,#[_,q],λ_ _ a b=>b _ a]
structure XSet (K:Frg) (C:Addr) (fn:Str):Prop where
 sa:a8W K (.ref C) "__setattr__"=ak (ak (.builtin "object.__setattr__"))
 ta:PySem.W.takerIn K C fn=ak am
def sX (C:Addr) (fn:Str) (j r:TE):TS:=λD n H=>r n H λy i=>j n i λx f=>∃e t,x = .ref e/\f e=ak (xo e C t am) /\∀d,f d=am->d≠e->D.nx n (upd (upd f d (.xd [(fn,y)])) e (xo e C t (ak d)))
section
theorem rG{X:Cx}{pins:List (Addr×cy)}{σ:St}{H:Hp}{s:av} {i:Addr}(I:Inv X pins σ H s) (he:H e=ak (xo e C t am)) (T:RelV y u) (hd:s.heap.objs.size<=i) (m:h'.get? e=ak { cls:=.ref C,dict:=ak i,data:=.fields (y9 [.ref t,.none,.none,.none,.bool aB,.none]) }) (x:h'.Ns1 i (λz=>if z=fn then ak u else am)) (k:∀b o,b≠e->s.heap.get? b=ak o->h'.get? b=ak o):Inv X pins σ (upd (upd H i (.xd [(fn,y)])) e (xo e C t (ak i))) { s with heap:=h',toks:=t' }:=by
 have r:H i=none:=I.hok.fresh hd;have O:i≠e:=λz=>by rw[z,he] at r;cases r
 have j:∀b o,s.heap.get? b=ak o->b≠i:=λb o q z=>by rw[z] at q;exact absurd (zP (zM q) hd) (yF _)
 have same:∀b,b≠e->b≠i->upd (upd H i (.xd [(fn,y)])) e (xo e C t (ak i)) b=H b:=λb h1 h=>by rw[AH h1,AH h]
 have S:∀b o,H b=ak o->b≠i:=λb o q z=>by rw[z,r] at q;cases q
 refine I.un #[λb o q n _ _=>k b o (λz=>by rw[z,he] at n;cases n) q,λb o q n _ _=>#[o.slots,k b o (λz=>by rw[z,he] at n;cases n) q],λb o q n _=>?_,λb o q _=>?_,λb p q=>?_,λb o p q=>?_,λb Z q=>#[#[],?_]] λb o q=>?_;. rw[same b (λz=>by rw[z,he] at n;cases n) (j b o q)];exact n
 . by_cases z:b=e;. rw[z];exact#[_,m]
   . exact#[o,k b o z q]
 . rw[same b (λz=>by rw[z,he] at q;cases q) (S b _ q)];exact q
 . rw[same b (λz=>by rw[z,he] at q;cases q) (S b _ q)];exact q
 . rw[same b (λz=>by rw[z,he] at q;cases q) (S b _ q)];rw[q];simp
 . by_cases z:b=e;. subst z;rw[AF] at q;cases q;exact rF m
   . by_cases g:b=i
     . subst g;rw[AH z,AF] at q;cases q;refine#[_,x,λf=>?_];by_cases M:f=fn;. subst M;simp[List.lookup];exact T
       . have:(f==fn)=false:=by simp[M]
         simp[List.lookup,this,M,RelO]
     . rw[same b z g] at q;refine(I.hok b o q).stay (λc v hc Q=>k c v ?_ Q) (λc Q=>?_) λc p Q=>?_
       . rcases hc with rfl | hc;. exact z
         . rintro rfl;rw[he] at hc;cases hc
       . rw[same c (λz=>by rw[z,he] at Q;cases Q) (S c _ Q)];exact Q
       . rw[same c (λz=>by rw[z,he] at Q;cases Q) (S c _ Q)];exact Q
theorem gY (c:XCls X.K C S init) (cs:XSet X.K C fn) (v:PE X o j) (T:PE X value m) (hs:ge value (ak (.Attribute o fn pos')) pos.line X.env=pure aB) :
   PS X (.Assign [.Attribute o fn pos'] value pos) (sX C fn j m):=by
 intro pins s σ H D I h;refine plainObj_wpAny_Assign_Attribute (thn (T pins s σ H _ I h) λu Y #[y,p,J,U,q]=>thn (v pins Y σ p _ J q) λG s2 Z=>?_) hs;obtain⟨x,f,b,Q,e,t,k,i,L⟩:=Z;subst k;obtain rfl:G=a0X e:=Q;obtain⟨B,q,N,bs,sn,sub,g,col,dd,k0,k1,k2,k3,k5,M⟩:=c.lk;have hx:=(b.hok e _ i).1;refine yS (cd:={ name:=B,bases:=bs,mro:=.ref C::.ref S::bmV,ns:=N,qualname:=q,hasDict:=au,slotNames:=sn,subclasses:=sub,abstract:=g,collection:=col,hasDel:=aB }) b.kIn hx rfl rfl rfl cs.sa (by unfold PySem.W.clsIn;rw[M]) (by rw[a1J,a1J];rfl)
   (λself=>by show refuseLoop self "__setattr__" (.ref C::.ref S::bmV)=pure ();rw[refuseLoop_ref,refuseLoop_ref];exact PySem.F.store_ValueError.passes self) cs.ta rfl λh' yf n z1 z2 z3 z4=>?_;have r:f n=none:=b.hok.fresh z1;have O:n≠e:=λz=>by rw[z,i] at r;cases r
 exact#[σ,_,rG (t':=yf) b i U z1 z2 z3 z4,L n r O]
end
def EY (C:Addr) (fn:Str):Sp:=λn H Q _=>∃e v t,n=[.ref e,v]/\H e=ak (xo e C t am)/\∀d,H d=am->d≠e->Q .non (upd (upd H d (.xd [(fn,v)])) e (xo e C t (ak d)))
theorem S9 {j:St}(I:Inv X pins j (upd H e (xo e C t y)) s) (hn:H e=am) (T:X.s₀.heap.objs.size<=e):Inv X pins j H s:=by
 have B:=I.base;have h:∀b,b≠e->upd H e (xo e C t y) b=H b:=λb z=>AH z;have ne:∀b o,X.s₀.heap.get? b=ak o->b≠e:=λb o q z=>by rw[z] at q;exact absurd (zP (zM q) T) (yF _)
 have r:∀b,upd H e (xo e C t y) b=am->H b=none:=λb q=>by
   by_cases z:b=e;. rw[z];exact hn
   . rw[h b z] at q;exact q
 have i:∀{b o},upd H e (xo e C t y) b=ak o->o≠xo e C t y->H b=ak o:=λ{b o} q N=>by
   by_cases z:b=e;. rw[z,AF] at q;cases q;exact absurd rfl N
   . rw[h b z] at q;exact q
 refine#[I.ok,I.os,I.bare,#[B.keep,B.slot,λb o q n hx=>r b (B.free b o q n hx),B.there,λb f q=>i (B.tups b f q) (by unfold xo;simp),λb o f q=>i (B.frzs b o f q) (by unfold xo;simp),λb Z q=>?_],I.loc,I.cell,r _ I.free,λx c q=>r _ (I.freeC x c q),λp hp=>?_,λb o q=>?_,I.len];. obtain⟨m,g⟩:=B.tbls b Z q;exact#[m,i g (by unfold xo;simp)]
 . obtain⟨k,u,v⟩:=I.pin p hp;exact#[k,r _ u,v]
 . have z:b≠e:=λz=>by rw[z,hn] at q;cases q
   have g:upd H e (xo e C t y) b=ak o:=by rw[h b z];exact q
   exact(I.hok b o g).stay (λ_ _ _ a=>a) (λc a=>i a (by unfold xo;simp)) λc f a=>i a (by unfold xo;simp)
section
variable {X:Cx}{R:St->XK}{C S f:Addr}{x fn:Str}{np ag pos:en}{arg:bp}{t:TA}{k:Nat}{fd:dl}{ps:List Str}
def WW (C:Addr) (fn:Str) (R:St->XK) (t:TA):TS:=λ_ n H=>t n H λi e=>∃v,i=[v]/\∀d,e d=am->R n (.ref C) (ak d) (upd e d (.xd [(fn,v)]))
theorem kN (c:XCls X.K C S (.ref f)) (vk:b4W X.K (.ref f)=au) (F:FnOk X.prog X.w X.K X.mg X.base CX0 k f fd ps (EY C fn)) (hb:Binds X.K fd ps []) (hr:Room (k+1) X.A) (hg:Gl X x) (hm:X.mg x=ak (.ref C)) (ha:PA (X.wish (Fly X R)) [arg] t) (dy:(x==("__debug__":Str))=false:=by decide) (he:starEach [arg] X.env=[(aB,eval arg X.env)]:=by rfl) :
   PS (X.wish (Fly X R)) (.Raise (ak (.Call (.Name x np) [arg] [] ag)) am pos) (WW C fn R t):=by
 intro pins s j H D I h;have FB:=b6X;obtain⟨nm,q,N,bs,sn,sub,ab,col,dd,k0,k1,k2,k3,k5,U⟩:=c.lk;rw[arm_exec_Raise];refine zZ (bv (VF (C:=C) (hbase:=NN (S:=S)) (hh:=hr.hd) (nm:=nm) (q:=q) (N:=N) (bs:=bs) (hdct:=au) (sn:=sn) (sub:=sub) (ab:=ab) (col:=col) (dd:=dd) (k0:=k0) (k1:=k1) (k2:=k2) (k3:=k3) (k5:=k5) (newId:= "ValueError.__new__") ?_));refine zZ (thn (c4 (G7 I (X:=X.wish (Fly X R)) hg hm (b6J (h₀:=X.base) I.ok.mod.kin c.kp (Q:=λv y=>∃e t dx,v = .ref e/\y.heap.get? C=ak (excClassObj nm q C N bs (.ref S::bmV) au sn sub ab col dd k0 k1 k2 k3 k5 "ValueError.__new__") /\
     y.heap.get? e=ak { cls:=.ref C,dict:=dx,data:=.fields (y9 [.ref t,.none,.none,.none,.bool aB,.none]) }/\Fly X R (.ref e) y) (thn (ha ag pins s j H _ I h) λus s1 #[vs,m,J,r,v,ev,q1]=>#[J.kIn,?_]) he rfl) dy)) λv s3 h3=>zZ (bv (zY h3)));subst ev;obtain⟨u,rfl,ru⟩:∃u,us=[u]/\RelV v u:=by cases r with | cons a b=>cases b;exact#[_,rfl,a]
 have i:=J.unwish;have hC:=i.kIn _ _ U;obtain⟨hp,g,d,Z,os⟩:=s1;have kk:=DJ (h:=hp) (C:=C) (rest:=[u]);have yd:=QR (h:=hp) (C:=C) (rest:=[u]);have p:Inv X pins j (upd m (hp.objs.size+1) (xo (hp.objs.size+1) C hp.objs.size am)) #[NM hp C [u],g,d,Z,os]:=i.laid (a:=hp.objs.size+1) (t':=Z) kk (a5Z _) (rF yd);have Ej:m (hp.objs.size+1)=none:=i.hok.fresh (a5Z _);have r2:Vals [V.ref (hp.objs.size+1),v] [a0X (hp.objs.size+1),u]:=.cons rfl (.cons ru .nil);have G:EY C fn [V.ref (hp.objs.size+1),v] (upd m (hp.objs.size+1) (xo (hp.objs.size+1) C hp.objs.size am)) (λw M=>w = .non/\∃n,m n=am/\n≠hp.objs.size+1/\M=upd (upd m n (.xd [(fn,v)])) (hp.objs.size+1) (xo (hp.objs.size+1) C hp.objs.size (ak n))) (λ_ _ _=>False):=by refine#[_,v,hp.objs.size,rfl,AF,λn L B=>#[rfl,n,by rw[AH B] at L;exact L,B,?_]];funext b;unfold upd;by_cases z:b=hp.objs.size+1 <;> simp[z]
 have hl:([a0X (hp.objs.size+1),u]++[]).length=ps.length:=by have:=F.len _ _ _ _ G;simpa using this
 refine dS FB QS WU WV hC (c0W i.kIn c.init) (λself=>PySem.W.bind_fn i.kIn self (beq_iff_eq.mp vk)) (xN (F.run _ X.stack _ _ #[[a0X (hp.objs.size+1),u],[]] ([a0X (hp.objs.size+1),u]++[]) _ _ _ (hr.make C [u] []) (p.env0.make C [u] []) (hb _ [a0X (hp.objs.size+1),u] p.kIn hl) r2 G) λr' s' O=>?_) (by show 1<=a0;decide);rcases r' with e | (w | _ | _ | _) <;> first | exact O.elim | skip
 obtain⟨w',M,T,jv,rfl,n,wa,hd2,rfl⟩:=p.after O;have hx:=(T.hok _ _ AF).1;have Y:(upd m n (.xd [(fn,v)])) (hp.objs.size+1)=none:=by rw[AH (a4Q hd2)];exact Ej
 have Cn:X.s₀.heap.objs.size<=hp.objs.size+1:=zN i.sz (a5Z _);have I4:=S9 T Y Cn;refine#[jv,hp.objs.size+1,hp.objs.size,ak n,rfl,T.kIn _ _ U,hx,hp.objs.size+1,am,.ref C,ak n,.none,j,_,.none,rfl,WS I4,#[#[_,_,hx,rfl,rfl,rfl,rfl,rfl],.inl rfl],Loose.of i (a5Z _) Y,λt e=>(by cases e),.inl rfl,q1 n wa]
end
end XC
namespace XC
open PySem PySem.Spec L2
open PyProof.Rows (envOfC AllBare)
def XM (K:Frg) (C D:Addr):Prop:=∀(prog:bn) (w:bj) (A:bx) (E:ap->av->Prop) (s:av) (e:Addr) (f:cy) (Q:Bool->av->Prop),K.In s.heap->s.heap.get? e=ak f->f.cls = .ref C->Q au s ->
 wpAny (model prog w) A (excMatches (.ref e) (.ref D)) Q E s
theorem z0 (c:XCls K C S init):XM K C C:=λprog w A E s e j Q X he hc q=>by obtain⟨h,k,N,bs,T,sub,i,col,r,b,m,p,f,D,n⟩:=c.lk;obtain⟨hp,g,d,t,U⟩:=s;exact wpAny_excMatches_sub_self (X _ _ n) he hc NN q
abbrev IN (X:Cx) (a:Addr):Cx:={ X with A:=X.A.mark (ak (.ref a)),calm:=aB,xe:=λ_ _=>False }
abbrev pinned (X:Cx) (pn:List (Addr×cy)):Cx:={ X with pn:=pn }
section
variable {X:Cx}{pins:List (Addr×cy)}{σ:St}{H:Hp}{s:av}{a:Addr}
theorem SA (I:Inv X pins σ H s) (a:Addr):Inv (IN X a) pins σ H s:=#[#[I.ok.mod,I.ok.kind,I.ok.glob,I.ok.blt,I.ok.above,I.ok.inj,I.ok.has,I.ok.cab,(λz=>nomatch z),I.ok.frames,I.ok.stk,I.ok.exf,I.ok.bs,I.ok.bsz,I.ok.noex,I.ok.exfs,I.ok.funs,I.ok.frf],I.os,I.bare,I.base,I.loc,I.cell,I.free,I.freeC,I.pin,I.hok,I.len]
theorem FJ (ok:X.Ok) (I:Inv (IN X a) pins σ H s):Inv X pins σ H s:=#[ok,I.os,I.bare,I.base,I.loc,I.cell,I.free,I.freeC,I.pin,I.hok,I.len]
theorem gZ (I:Inv X pins σ H s):Inv (pinned X (X.pn++pins)) [] σ H s:=#[#[I.ok.mod,I.ok.kind,I.ok.glob,I.ok.blt,I.ok.above,I.ok.inj,I.ok.has,I.ok.cab,I.ok.hd,I.ok.frames,I.ok.stk,I.ok.exf,I.ok.bs,I.ok.bsz,I.ok.noex,I.ok.exfs,I.ok.funs,I.ok.frf],I.os,I.bare,I.base,I.loc,I.cell,I.free,I.freeC,λp hp=>I.pin p (by simpa using hp),I.hok,I.len]
theorem FA (ok:X.Ok) (I:Inv (pinned X (X.pn++pins)) [] σ H s):Inv X pins σ H s:=#[ok,I.os,I.bare,I.base,I.loc,I.cell,I.free,I.freeC,λp hp=>I.pin p (by simpa using hp),I.hok,I.len]
theorem ZT (ok:X.Ok) (h:SP (pinned X (X.pn++pins)) [] D f s'):SP X pins D f s':=by
 cases f with
 | next=>obtain⟨c,H',I,q⟩:=h;exact#[c,H',FA ok I,q]
 | brk=>obtain⟨c,H',I,q⟩:=h;exact#[c,H',FA ok I,q]
 | cont=>obtain⟨c,H',I,q⟩:=h;exact#[c,H',FA ok I,q]
 | ret u=>obtain⟨v,c,H',I,r,q⟩:=h;exact#[v,c,H',FA ok I,r,q]
theorem kP (ok:X.Ok) (h:SP (IN X a) pins D f s'):SP X pins D f s':=by
 cases f with
 | next=>obtain⟨c,H',I,q⟩:=h;exact#[c,H',FJ ok I,q]
 | brk=>obtain⟨c,H',I,q⟩:=h;exact#[c,H',FJ ok I,q]
 | cont=>obtain⟨c,H',I,q⟩:=h;exact#[c,H',FJ ok I,q]
 | ret u=>obtain⟨v,c,H',I,r,q⟩:=h;exact#[v,c,H',FJ ok I,r,q]
end
def rH (K:Frg) (D:Addr) (cls:ap):Prop:=∃C,cls = .ref C/\XM K C D
def A3J (K:Frg) (D:Addr) (t:(St->XK)->TS) (ts:TS):TS:=λe n H=>t (λc cls _ H'=>rH K D cls/\ts e c H') e n H
theorem A3K (k:X.stack=X.env::X.outer) (gr:X.env.frame=ak X.env.locals) (hg:Gl X x) (hm:X.mg x=ak (.ref D)) (hb:∀(pn:List (Addr×cy)) (R:St->XK),PSs ((pinned X pn).wish (Fly (pinned X pn) R)) body (U R)) (hs:∀a,PSs (IN X a) (Z::B) ts) (dy:(x==("__debug__":Str))=false:=by decide) :
   PS X (.Try body [.ExceptHandler (ak (.Name x np)) am (Z::B) ko] [] [] pos) (A3J X.K D U ts):=by
 intro pins s σ H N I h;have ok:=I.ok;refine wpAny_Try_except ?_;have bo:=hb (X.pn++pins) _ [] s σ H N ((gZ I).wish _) h;refine bf bo (λf m q=>?_) λe m q=>?_
 . have g:=ZT ok q.unwish;cases f with
   | next=>exact et g
   | ret v=>exact g
   | brk=>exact g
   | cont=>exact g
 . obtain⟨a,T,cls,dd,ar,n,H',fl,rfl,J,⟨x1,lu⟩,la,L,lx,⟨C,rfl,xm⟩,r⟩:=q;have O:=FA ok J;have fr:X.A.frames=ak (X.env::X.outer):=by rw[<-k];exact ok.frames
   have hl:m.heap.FunFrames X.base (X.env::X.outer):=by rw[<-k];exact O.stack
   refine K1 fr hl gr x1 lu λu i x2 n2 Q=>?_;have yg:(X.env::X.outer).filterMap (·.frame)=frs X.stack:=by rw[k];rfl
   rw[yg] at Q;have y:∀b,Loose (pinned X (X.pn++pins)) H' b->H' b=am/\X.s₀.heap.objs.size<=b/\b≠X.env.locals/\(∀x c,X.env.cells.lookup x=ak c->c≠b)/\∀p∈X.pn++pins,p.1≠b:=λb l=>#[l.fre,l.above,l.loc,l.cel,l.pn]
   have I2:Inv X pins n H' { m with heap:=u }:=BY O Q λb hb=>by
     rcases yX.mp hb with q | q;. rw[q];exact y _ la
     . exact y _ (L b (by cases T with | none=>simp at q | some t=>simp at q;rw[q]))
   have M:=y _ (n2.elim (λz=>L i z) λz=>Loose.of (b:=i) J z.2 (J.hok.fresh z.2));refine HG (s:={ m with heap:=u }) x2 λG Y m3=>?_;have j:Inv X pins n H' { m with heap:=G }:=BY (s:={ m with heap:=u }) (ch:=[i]) I2 (m3.mono (λb z=>absurd z (by simp)) λb z=>z) λb hb=>by
     have:b=i:=by simpa using hb
     rw[this];exact M
   have I4:=SA j a;refine wpAny_handleBy_cons (codeAny_handlers_test (G7 (X:=IN X a) I4 hg hm ?_ dy)) (by intro q;cases q);obtain⟨oe,vs,he,hc,_⟩:=id Y;refine xm _ _ _ _ { m with heap:=G } a oe _ j.kIn he hc (codeAny_handlers_suite ?_);refine HG (s:={ m with heap:=G }) Y λS x4 m4=>?_;have I5:Inv X pins n H' { m with heap:=S }:=BY (s:={ m with heap:=G }) (ch:=[i]) j (m4.mono (λb z=>absurd z (by simp)) λb z=>z) λb hb=>by
     have:b=i:=by simpa using hb
     rw[this];exact M
   refine bf (hs a pins { m with heap:=S } n H' N (SA I5 a) r) (λf s' q=>?_) λ_ _ z=>a6W z;exact kP ok q
end XC
namespace DL
open PySem PySem.Spec L2 XC
open PyProof.Rows (envOfC AllBare)
abbrev Rx:=L2.St->XK
theorem XI.sub {i:Own}(hs:i.Sub M) (h:XI K H M.W dd fs):XI K H i.W dd fs:=h.grow (BB hs)
abbrev DXK:=List (Option DS)->ap->List (Str×PyData)->Own->Prop
def KX (K:Frg) (R:Rx) (M:Own) (H:Hp) (DX:DXK):Prop:=∀(I:List (Option DS)) (cls:ap) (fs:List (Str×PyData)) (i:Own) (c:St) (e:Option Addr) (H':Hp),Rel K i I c H'->Step K M i H H'->XI K H' i.W e fs->DX I cls fs i->R c cls e H'
theorem KX.step {M1:Own}(k:KX K R M H DX) (t:Step K M M1 H n):KX K R M1 n DX:=λa b c d e f g h i j l=>k a b c d e f g h (t.trans i) j l
def DXt (K:Frg) (R:Rx) (t:TS) (N:List (Option DS)) (M:Own) (D:EndsD) (DX:DXK):Prop:=∀(e:St) (H:Hp) (E:Ends),Rel K M N e H->(∀I i c H',Rel K i I c H'->Step K M i H H'->D.nx I i->E.nx c H')->(∀v H' x i,OA K H' i->SI K H' i x v->Step K M i H H'->D.rt x i->E.rt v H') ->(∀I i c H',Rel K i I c H'->Step K M i H H'->D.bk I i->E.bk c H')->(∀I i c H',Rel K i I c H'->Step K M i H H'->D.ct I i->E.ct c H')->KX K R M H DX->t E e H
def DEx (K:Frg) (R:Rx) (t:TE) (N:List (Option DS)) (M:Own) (Q:DS->Own->Prop) (DX:DXK):Prop:=∀(e:St) (H:Hp) (QQ:VK),Rel K M N e H->(∀v H' x i,OA K H' i->SI K H' i x v->Step K M i H H'->Q x i->QQ v H')->KX K R M H DX->t e H QQ
set_option genInjectivity false
structure FSpX where
 pre:List DS->Own->Prop
 post:List DS->Own->DS->Own->Prop
 xpost:List DS->Own->ap->List (Str×PyData)->Own->Prop
def spX (K:Frg) (n:Nat) (S:FSpX):Sp:=λr H Q E=>∃t M,t.length=n/\OA K H M/\SIs K H M t r/\S.pre t M/\(∀x i v H',S.post t M x i->Step K M i H H'->OA K H' i->SI K H' i x v->Q v H') /\∀cls fs i e H',S.xpost t M cls fs i->Step K M i H H'->OA K H' i->XI K H' i.W e fs->E cls e H'
section
theorem F4 (h:DSt K t ρ M D):DXt K R t ρ M D DX:=λi H E Y N e n v _=>h i H E Y N e n v
theorem rJ (h:DXt K R t ρ M { D with nx:=λB M1=>DXt K R u B M1 D DX } DX):DXt K R (mS t u) ρ M D DX:=λk H E Y N r m v p=>by refine h k H { E with nx:=λn H'=>u E n H' } Y (λB M1 i j S x q=>?_) r m v p;exact q i j E S (λa b c d e f g=>N a b c d e (x.trans f) g) (λa b c d e f g q=>r a b c d e f (x.trans g) q) (λa b c d e f g=>m a b c d e (x.trans f) g) (λa b c d e f g=>v a b c d e (x.trans f) g) (p.step x)
theorem A4x (h:DT K tA ρ M λc M1=>if c=au then DXt K R t ρ M1 D DX else DXt K R u ρ M1 D DX):DXt K R (A1o tA t u) ρ M D DX:=λn H E Y N r m v p=>
 h n H _ Y λc i M1 S x h1=>by
   have X:∀{w:TS},DXt K R w ρ M1 D DX->w E n i:=λq=>q n i E (Y.step S x) (λa b c d e f g=>N a b c d e (x.trans f) g) (λa b c d e f g q=>r a b c d e f (x.trans g) q) (λa b c d e f g=>m a b c d e (x.trans f) g) (λa b c d e f g=>v a b c d e (x.trans f) g) (p.step x);cases c with
   | true=>rw[if_pos rfl] at h1 ⊢;exact X h1
   | false=>rw[if_neg nft] at h1 ⊢;exact X h1
theorem rK (h:DI K wi ρ M λds M1=>∃P:Nat->List (Option DS)->Own->Prop,P 0 ρ M1/\(∀k d I n,ds[k]?=ak d->P k I n->DG K g d I n λf v=>DXt K R tb f v (D.turn (P (k+1))) DX)/\∀I n,P ds.length I n->D.nx I n) :
   DXt K R (A1s wi g tb) ρ M D DX:=λσ H E Rl k1 k2 k3 k4 k5=>
 h σ H _ Rl λJ ds H1 M1 o1 G Y dr=>by
   obtain⟨P,p0,pt,pe⟩:=dr;refine#[λi m j H'=>m=ds.length - i/\i<=ds.length/\∃I n,Rel K n I j H'/\Step K M1 n H1 H'/\P i I n,#[_,rfl,xT _,ρ,M1,Rl.step o1 G,Step.refl,p0],?_];rintro i m j H' ⟨rfl,hi,I,n,L,B,p⟩;by_cases X:i < ds.length;. refine .inr #[Y.go i H' n X L.own B,λU z=>∃f v,Rel K v f U z/\Step K M1 v H1 z/\P (i+1) f v,(by rintro U z ⟨f,v,a,b,c⟩;exact#[ds.length - (i+1),by omega,rfl,X,f,v,a,b,c]),λx z y=>?_];obtain⟨Du,fo,d,e1,e2⟩:=Y.yld i H' n x z L.own B X y;refine pt i d I n e1 p j z x _ (L.step Du fo) e2 λρ3 M3 Z H3 R3 fq b3=>?_;have S:=(B.trans fo).trans fq;exact b3 Z H3 _ R3 (λr m s N T O q=>#[r,m,T,S.trans O,q]) (λw N x m a b c q=>k2 w N x m a b (G.trans (S.trans c)) q) (λr m s N T O q=>k1 r m s N T (G.trans (S.trans O)) q) (λr m s N T O q=>#[r,m,T,S.trans O,q]) (k5.step (G.trans S))
   . have e:i=ds.length:=by omega
     subst e;exact .inl #[Y.stop H' n L.own B,k1 I n j H' L (G.trans B) (pe I n p)]
theorem kQ (h:DA K tl ρ M λxs M1=>∃d,xs=[.d d]/\DX ρ (.ref C) [(fn,d)] M1):DXt K R (WW C fn R tl) ρ M D DX:=λn H E Y _ _ _ _ m=>
 h n H _ Y λf e xs M1 S b x G=>by
   obtain⟨d,i,q⟩:=G;subst i;obtain⟨v,r,rfl,c,rfl⟩:=b;refine#[v,rfl,λp hp=>?_];have g:Step K M1 M1 e (upd e p (.xd [(fn,v)])):=#[AZ _ hp]
   exact m ρ _ [(fn,d)] M1 n (ak p) _ ((Y.step S x).step (S.new hp) g) (x.trans g) #[v,λz=>z (S.none hp),AF,DV.grow g.grow c] q
theorem HH (h:DA K tl ρ M λxs M1=>xs.length=n/\S.pre xs M1/\(∀x i,S.post xs M1 x i->Q x i)/\∀cls fs i,S.xpost xs M1 cls fs i->DX ρ cls fs i):DEx K R (WT (spX K n S) R tl) ρ M Q DX:=λb H QQ Y k g=>
 h b H _ Y λT y xs M1 m j r #[I,h1,f,G]=>
   #[xs,M1,I,m,j,h1,λx i v H' p e z q=>k v H' x i z q (r.trans e) (f x i p),λcls fs i c H' p e z U=>g ρ cls fs i b c H' ((Y.step m r).step z e) (r.trans e) U (G cls fs i p)]
theorem dW (h:DEx K R ta ρ M D.rt DX):DXt K R (A1m ta) ρ M D DX:=λr H E Y _ e _ _ n=>h r H E.rt Y (λv H' x i a b c q=>e v H' x i a b c q) n
theorem h8 (h:DEx K R ta ρ M (λ_ M1=>D.nx ρ M1) DX):DXt K R (mT ta) ρ M D DX:=λe H E Y N _ _ _ n=>h e H _ Y (λv H' x i a b c q=>N ρ i e H' (Y.step a c) c q) n
theorem A3L {k:Rx->TS}(h:∀R,DXt K R (k R) ρ M D λI cls fs m=>rH K r cls/\DSt K ts I m D):DSt K (A3J K r k ts) ρ M D:=λy H E Y N p j v=>by
 refine h _ y H E Y N p j v λI cls fs m i z H' L n _ #[x,q]=>#[x,?_]
 exact q i H' E L (λa b c d e f g=>N a b c d e (n.trans f) g) (λa b c d e f g q=>p a b c d e f (n.trans g) q) (λa b c d e f g=>j a b c d e (n.trans f) g) (λa b c d e f g=>v a b c d e (n.trans f) g)
end
section
variable {P:bn}{w:bj}{K:Frg}{mg:Str->Option ap}{base:cc}
theorem z6 :∀vs H Q E,spX K n S vs H Q E->vs.length=n:=by rintro vs H Q E ⟨t,M,r,_,h,_⟩;rw[h.length,r]
theorem A5i (F:Fun K x qual st f T) (n:FnScope N ps (AB st)) (u:∀(cdv:ap) (A:bx) (outer:List ic) (s:av) (H:Hp) (E:XK),Room k (A.deeper (fy qual (AB st) s.heap.objs.size f cdv)) ->∃t,PSs ((IC (CXE P w) P w K mg base N qual (AB st) f cdv A outer s H E).wish (Fly (IC (CXE P w) P w K mg base N qual (AB st) f cdv A outer s H E) λ_=>E)) (BH st) t /\∀xs M,xs.length=ps.length->S.pre xs M->DXt K (λ_=>E) t (MF N xs) M { nx:=λ_ M1=>∃e:Own,e.Sub M1/\S.post xs M (.d .none) e,rt:=λy M1=>∃e:Own,e.Sub M1/\S.post xs M y e } λ_ cls fs M1=>∃e:Own,e.Sub M1/\S.xpost xs M cls fs e) :
   FnOk P w K mg base (CXE P w) (k+1) f T ps (spX K ps.length S):=by
 refine A5h F n z6 λcdv A outer s H q Q E hr h=>?_;obtain⟨t,m,hq⟩:=u cdv A outer s H E hr;obtain⟨xs,M,r,b,j,pre,post,xpost⟩:=h;refine#[t,m,hq xs M r pre (L2.E5 N q) H _ (UW b j) ?_ ?_ (λ_ _ _ _ _ _ z=>z.elim) (λ_ _ _ _ _ _ z=>z.elim) ?_];. rintro I M1 c H' R st ⟨e,hs,p⟩;exact post (.d .none) e .non H' p (st.trans #[BB hs]) (R.own.sub hs) (by unfold SI DV;rfl)
 . rintro v H' y M1 o g st ⟨e,hs,p⟩;exact post y e v H' p (st.trans #[BB hs]) (o.sub hs) (g.sub hs)
 . rintro I cls fs M1 c i H' R st U ⟨e,hs,p⟩;exact xpost cls fs e i H' p (st.trans #[BB hs]) (R.own.sub hs) (U.sub hs)
structure HasX (P:bn) (w:bj) (K:Frg) (mg:Str->Option ap) (base:cc) (x:Str) (k:Nat) (ps:List Str) (S:FSpX):Prop where
 ex:∃f fd,FnOk P w K mg base (CXE P w) k f fd ps (spX K ps.length S)/\mg x=ak (.ref f)/\a3K K (.ref f)=au/\Binds K fd ps []
theorem kR {X:Cx}{R:Rx}{x:Str}{k:Nat}{ps:List Str}{S:FSpX}{e:bp}{es:List bp}{t:TA}{p pos:en}(h:HasX X.prog X.w X.K X.mg X.base x k ps S) (hr:Room k X.A) (hg:Gl X x) (i:PA (X.wish (Fly X R)) (e::es) t) (n:(x==("__debug__":Str))=false:=by decide) (he:starEach (e::es) X.env=(aB,eval e X.env)::starEach es X.env:=by rfl) (r:(backTo pos (starEach es X.env)).any (·.1)=false:=by rfl) :
   PE (X.wish (Fly X R)) (.Call (.Name x p) (e::es) [] pos) (WT (spX X.K ps.length S) R t):=by obtain⟨f,T,F,q,hk,hb⟩:=h.ex;exact rD F hr hg q hk hb i n he r
end
end DL
namespace DL
open PySem PySem.Spec L2 XC
def DAx (K:Frg) (R:Rx) (t:TA) (N:List (Option DS)) (M:Own) (Q:List DS->Own->Prop) (DX:DXK):Prop:=∀(r:St) (H:Hp) (QQ:List V->Hp->Prop),Rel K M N r H->(∀e H' n i,OA K H' i->SIs K H' i n e->Step K M i H H'->Q n i->QQ e H')->KX K R M H DX->t r H QQ
section
theorem rL (h:DA K tl ρ M QL):DAx K R tl ρ M QL DX:=λe H QQ Y k _=>h e H QQ Y k
theorem rM (h:DEx K R ta ρ M (λx M1=>DAx K R tl ρ M1 (λxs e=>QL (x::xs) e) DX) DX):DAx K R (YD ta tl) ρ M QL DX:=λr H QQ Y k D=>
 h r H _ Y (λv m x M1 S b t h1=>h1 r m _ (Y.step S t) (λi f xs e p c n q=>k (v::i) f (x::xs) e p #[v,i,rfl,b.step n,c] (t.trans n) q) (D.step t)) D
end
end DL
namespace DL
open PySem PySem.Spec L2 XC
open PyProof.Rows (envOfC AllBare)
def h9 (k:Nat):eg->eg
 | .ClassDef _ _ _ b _ _ _ _ _ _ _=>b.getD k (.Pass #[0,0,0,0])
 | _=>.Pass #[0,0,0,0]
section
variable {P:bn}{w:bj}{K:Frg}{mg:Str->Option ap}{base:cc}
theorem A3M (X:Cx) (R:Rx) {x:Str}{k:Nat}{ps:List Str}{S:FSpX}{e:bp}{es:List bp}{t:TA}{p pos:en}(hK:X.K=K) (i:X.prog=P) (m:X.w=w) (c:X.mg=mg) (f:X.base=base) (h:HasX P w K mg base x k ps S) (hr:Room k X.A) (hg:Gl X x) (r:PA (X.wish (Fly X R)) (e::es) t) (n:(x==("__debug__":Str))=false:=by decide) (he:starEach (e::es) X.env=(aB,eval e X.env)::starEach es X.env:=by rfl) (b:(backTo pos (starEach es X.env)).any (·.1)=false:=by rfl) :
   PE (X.wish (Fly X R)) (.Call (.Name x p) (e::es) [] pos) (WT (spX K ps.length S) R t):=by subst hK i m c f;exact kR h hr hg r n he b
structure HasR (P:bn) (w:bj) (K:Frg) (mg:Str->Option ap) (base:cc) (x fn:Str) (C S:Addr):Prop where
 ex:∃(f:Addr) (fd:dl) (ps:List Str),XCls K C S (.ref f)/\b4W K (.ref f)=au/\FnOk P w K mg base CX0 1 f fd ps (EY C fn)/\Binds K fd ps []/\mg x=ak (.ref C)
theorem HasR.at (h:HasR P w K mg base x fn C S):mg x=ak (.ref C):=let #[_,_,_,_,_,_,_,q]:=h.ex;q
theorem z7 (X:Cx) (R:Rx) {x fn:Str}{C S:Addr}{arg:bp}{t:TA}{p e pos:en}(hK:X.K=K) (i:X.prog=P) (m:X.w=w) (b:X.mg=mg) (g:X.base=base) (h:HasR P w K mg base x fn C S) (hr:Room 2 X.A) (hg:Gl X x) (r:PA (X.wish (Fly X R)) [arg] t) (n:(x==("__debug__":Str))=false:=by decide) (he:starEach [arg] X.env=[(aB,eval arg X.env)]:=by rfl) :
   PS (X.wish (Fly X R)) (.Raise (ak (.Call (.Name x p) [arg] [] e)) am pos) (WW C fn R t):=by subst hK i m b g;obtain⟨f,T,Z,c,M,F,hb,q⟩:=h.ex;exact kN c M F hb hr hg q r n he
structure HasN (K:Frg) (mg:Str->Option ap) (x:Str) (C S:Addr):Prop where
 c:XCls K C S (.builtin "ValueError.__init__")
 at_:mg x=ak (.ref C)
theorem z8 (X:Cx) (R:Rx) {x:Str}{C S:Addr}{n e pos:en}(hK:X.K=K) (i:X.mg=mg) (h:HasN K mg x C S) (hh:X.A.handled=am) (hg:Gl X x) (t:(x==("__debug__":Str))=false:=by decide) :
   PS (X.wish (Fly X R)) (.Raise (ak (.Call (.Name x n) [] [] e)) am pos) (gX C R):=by subst hK i;exact kM h.c hg h.at_ hh t
theorem A5j (X:Cx) {D:Addr}{body:List eg}{Z:eg}{e:List eg}{x:Str}{r i pos:en}{t:Rx->TS}{ts:TS}(hK:X.K=K) (b:X.stack=X.env::X.outer) (I:X.env.frame=ak X.env.locals) (hg:Gl X x) (q:X.mg x=ak (.ref D)) (hb:∀(pn:List (Addr×cy)) (R:Rx),PSs ((pinned X pn).wish (Fly (pinned X pn) R)) body (t R)) (hs:∀a,PSs (IN X a) (Z::e) ts) (n:(x==("__debug__":Str))=false:=by decide) :
   PS X (.Try body [.ExceptHandler (ak (.Name x r)) am (Z::e) i] [] [] pos) (A3J K D t ts):=by subst hK;exact A3K b I hg q hb hs n
theorem hU (F:Fun K "__init__" qual st f T) (r:FnScope ["self", pn] ["self", pn] (AB st)) (hb:BH st=[.Assign [.Attribute (.Name "self" I) fn i] (.Name pn n) k]) (c:XCls K C S (.ref f)) (cs:XSet K C fn) (nd:(["self", pn]:List Str).Nodup) (hs:∀env:ic,ge (.Name pn n) (ak (.Attribute (.Name "self" I) fn i)) k.line env=pure aB) (p:∀X:Cx,X.N=(["self", pn]:List Str)->X.env.scope=AB st->PE X (.Name "self" I) (YC 0)) (h1:∀X:Cx,X.N=(["self", pn]:List Str)->X.env.scope=AB st->PE X (.Name pn n) (YC 1)):FnOk P w K mg base CX0 1 f T ["self", pn] (EY C fn):=by refine F.ok r (by rintro b H Q E ⟨e,v,t,h,_⟩;rw[h];rfl) λcdv A outer s H b Q E hr Z=>?_;obtain⟨e,v,t,m,he,hq⟩:=Z;subst m;rw[hb];refine#[_,N3 (gY (C:=C) (S:=S) (fn:=fn) c cs (p _ rfl rfl) (h1 _ rfl rfl) (hs _)),?_];exact#[v,rfl,.ref e,rfl,e,t,rfl,he,λd hd O=>hq d hd O]
end
end DL
namespace L2
open PySem PySem.Spec PyProof.Rows
def Itk (a:Addr) (o:cy) (ks:List (Key×V)):It:=#[λi H=>H a=ak (.frz o (.dK ks))/\i < ks.length,λi H x H'=>H'=H/\∃k v,ks[i]?=ak (k,v)/\x=kV k,λi H=>H a=ak (.frz o (.dK ks))/\ks.length<=i]
theorem A3N {ks:List (Key×V)}{vs:List (Key×ap)}(r:KV ks vs) {i:Nat}{k:Key}{v:V}(e:ks[i]?=ak (k,v)):∃u,vs[i]?=ak (k,u):=by
 induction r generalizing i with
 | nil=>simp at e
 | cons h _ Q=>
   cases i with
   | zero=>simp at e;obtain⟨h1,n⟩:=h;rw[e] at h1;exact#[_,by simp;exact Prod.ext h1.symm rfl]
   | succ i=>simpa using Q (by simpa using e)
theorem z9 (h:PN k u=au):RelV (kV k) u:=by
 rcases BA h with ⟨i,t,rfl,rfl⟩ | ⟨x,t,rfl,rfl⟩
 . exact#[t,rfl]
 . exact#[t,rfl]
theorem kS {P:bn}{w:bj}{K:Frg}{tg:bp}(a it:Addr) (o:cy) (ks:List (Key×V)) :
   Turn P w K tg (Itk a o ks) [it] it (λi h=>∃es ep,o.data = .dict es ep/\h.IsKeyIter it a i ks.length ep) where
 mem:=by simp
 obj:=λi h st b hb=>by
   have e:b=it:=by simpa using hb
   subst e;obtain⟨es,ep,_,o',e,c,d⟩:=st;exact⟨o',e,λv z=>by rw[d] at z;cases z⟩
 keep:=by rintro i h h' ⟨es,ep,q,st⟩ k;exact#[es,ep,q,st.at λo e=>k it (by simp) o e]
 item:=by
   intro X hP hw hK hc i pins s σ H E I hf #[es,ep,Co,st] #[hg,hi];subst hP hw hK;obtain⟨f0,f1,f2,f3,f4,f5⟩:=hf it (by simp);obtain⟨fv,_,Ek,vs,rel,o',dk,og,d_,r⟩:=I.hok a _ hg;obtain rfl:o'=o:=Option.some.inj (d_.symm.trans fv);obtain⟨rfl,rfl⟩:dk=es/\og=ep:=by have:=r.2.1.symm.trans Co;injection this with a b;exact#[a,b]
   have dat:s.heap.DictAt (AV X.prog X.w) a vs og:=#[o',dk,d_,r]
   obtain⟨⟨k,v⟩,hk⟩:∃kv,ks[i]?=ak kv:=#[ks[i],zV hi]
   obtain⟨u,hu⟩:=A3N rel hk;have hl:vs.length=ks.length:=rel.length.symm;refine wpAny_pyNext_dict_item (by rw[hl];exact st) dat hu λkey h' xk ie sb=>?_;rw[hl] at ie;have I1:Inv X pins σ H { s with heap:=h' }:=I.turned (t':=s.toks) (λb o hb e=>(sb.2 b hb).trans e) f0 f1 f3 f4 f5;exact#[key,rfl,letGo_keyiter (s':={ s with heap:=h' }) ie #[kV k,H,I1,z9 xk,#[rfl,k,v,hk,rfl],#[dk,og,Co,ie],λb hb=>(hf b hb).1]]
 done:=by
   intro X hP hw hK hc i pins s σ H E I hf #[es,ep,Co,st] #[hg,hi];subst hP hw hK;obtain⟨f0,f1,f2,f3,f4,f5⟩:=hf it (by simp);obtain⟨fv,_,Ek,vs,rel,o',dk,og,d_,r⟩:=I.hok a _ hg;obtain rfl:o'=o:=Option.some.inj (d_.symm.trans fv);obtain⟨rfl,rfl⟩:dk=es/\og=ep:=by have:=r.2.1.symm.trans Co;injection this with a b;exact#[a,b]
   have dat:s.heap.DictAt (AV X.prog X.w) a vs og:=#[o',dk,d_,r]
   have hl:vs.length=ks.length:=rel.length.symm;exact wpAny_pyNext_dict_end (I.ok.hd hc) (by rw[hl];exact st) dat (List.getElem?_eq_none_iff.mpr (by rw[hl];exact hi)) λh' eb=>#[rfl,I.turned (t':=s.toks) (λb o hb e=>eb b o hb e) f0 f1 f3 f4 f5]
 self:=by rintro _ _ _ _ _ ⟨_,_,_,st⟩ h;exact wpAny_pyIter_keyiter st h
section
variable {X:Cx}{tg:bp}{pins:List (Addr×cy)}{σ:St}{H:Hp}{s:av}
theorem kT (I:Inv X pins σ H s) (e:H a=ak (.dK ks)) (ho:s.heap.get? a=ak o):Inv X pins σ (upd H a (.frz o (.dK ks))) s:=by
 have ne:∀b u,H b=ak u->(∀z,u≠.dK z)->b≠a:=λb u q n z=>by rw[z,e] at q;cases q;exact n _ rfl
 have J:=I.un (H':=upd H a (.frz o (.dK ks))) (h':=s.heap) (t':=s.toks) #[λ_ _ q _ _ _=>q,λb u q _ _ _=>#[u.slots,q],λb u _ n _=>by rw[AH (λz=>by rw[z,e] at n;cases n)];exact n,λb u q _=>#[u,q],
   λb i q=>by rw[AH (ne b _ q λ_ z=>nomatch z)];exact q,λb u i q=>by rw[AH (ne b _ q λ_ z=>nomatch z)];exact q,λb Z q=>#[#[],by rw[AH (ne b _ q λ_ z=>nomatch z),q];simp]] λb u q=>?_
 . exact J
 . have t:∀{b u},ObjOk X.prog X.w H s.heap b u->ObjOk X.prog X.w (upd H a (.frz o (.dK ks))) s.heap b u:=λ{b u} x=>x.stay (λ_ _ _ q=>q) (λc q=>by rw[AH (ne c _ q λ_ z=>nomatch z)];exact q) λc i q=>by rw[AH (ne c _ q λ_ z=>nomatch z)];exact q
   by_cases z:b=a;. subst z;rw[AF] at q;cases q;exact#[ho,t (I.hok b _ e)]
   . rw[AH z] at q;exact t (I.hok b u q)
def A1S (tl:TE):TI:=λσ H R=>tl σ H λx t=>∃a,x = .ref a/\((∃e,t a=ak (.dK e)/\∀o,R (Itk a o e) (upd t a (.frz o (.dK e))))\/∃o e,t a=ak (.frz o (.dK e))/\R (Itk a o e) t)
theorem hW {l:bp}{tl:TE}(p:PE X l tl):PI X tg l (A1S tl):=by
 intro pins s σ H R I h;refine thn (p pins s σ H _ I h) ?_;rintro v m ⟨x,S,J,O,a,y,N⟩;subst y;obtain rfl:v=a0X a:=O;have k:∀{f:Hp}{o:cy}{t:List (Key×V)},Inv X pins σ f m->f a=ak (.frz o (.dK t))->R (Itk a o t) f->wpAny (model X.prog X.w) X.A (pyIter (.ref a)) (PIE X pins σ tg R) X.xe m:=λ{f o t} n e q=>by
   obtain⟨z,_,G,c,rel,i,j,D,g,r⟩:=n.hok a _ e;obtain rfl:i=o:=Option.some.inj (g.symm.trans z);have dat:m.heap.DictAt (AV X.prog X.w) a c D:=#[i,j,g,r]
   have p:c.length=t.length:=rel.length.symm;refine wpAny_pyIter_dict G dat ?_;rw[p];have T:Inv X pins σ f { m with heap:=m.heap.push { cls:=.type "dict_keyiterator", data:=.fields (y9 [.ref a,.int 0 0,.int t.length 0,.int D 0]) } }:=n.kept (t':=m.toks) λb u q=>zW _ q;refine#[m.heap.objs.size,[m.heap.objs.size],_,Itk a i t,f,rfl,T,kS a _ i t,#[j,D,r.2.1,_,yZ _ rfl,rfl,rfl],λb hb=>?_,q];have:b=m.heap.objs.size:=by simpa using hb
   rw[this];exact n.fpOk (zR _) (n.hok.fresh (zR _))
 rcases N with ⟨t,e,q⟩ | ⟨o,t,e,q⟩
 . obtain⟨_,_,c,_,o,B,M,ho,_⟩:=J.hok a _ e;exact k (kT J e ho) AF (q o)
 . exact k J e q
end
end L2
namespace DL
open PySem PySem.Spec L2
abbrev LR (ts:List (Str×PyData)):List PyData:=ts.map λt=>.str t.1
section
theorem rN :∀{ts:List (Str×PyData)}{ks:List (Key×V)}{i:Nat}{k:Key}{v:V},DKV K H W (AG ts) ks->ks[i]?=ak (k,v)->∃u,ts[i]?=ak u/\k=a1W u.1
 | [],ks,i,k,v,h,e=>by rw[EI.mp h] at e;simp at e
 | u::ts,ks,i,k,v,h,e=>by
   obtain⟨w,r,rfl,h1,n⟩:=CF.mp h;cases i with
   | zero=>simp at e;exact#[u,rfl,e.1.symm]
   | succ i=>simpa using rN n (by simpa using e)
theorem i0 (h:DE K tl ρ M λx M1=>∃ts:List (Str×PyData),x = .d (.dict (AG ts))/\QI (LR ts) M1):DI K (A1S tl) ρ M QI:=λG H R Y k=>
 h G H _ Y λv p x M1 S T N h1=>by
   obtain⟨ts,rfl,q⟩:=h1;unfold SI DV at T;obtain⟨a,n,rfl,nw,hr,hd⟩:=T;have j:n.length=ts.length:=by have:=QM hd;unfold AG at this;simpa using this
   have O:∀{f:Hp}{o:cy},f a=ak (.frz o (.dK n))->WD K (Itk a o n) (LR ts) f M1:=λ{f o} e=>
     #[λi H' c hi r m=>#[m.grow.kept e nw (λ_ z=>nomatch z),by rw[j];simpa using hi],λH' c r m=>#[m.grow.kept e nw (λ_ z=>nomatch z),by rw[j];simp],λi H' c x J r m hi y=>by obtain⟨rfl,L,Z,B,rfl⟩:=y;obtain⟨u,hu,rfl⟩:=rN hd B;refine#[r,Step.refl,.str u.1,?_,by unfold DV;rfl];rw[zF,hu];rfl]
   refine#[a,rfl,?_];rcases hr with e | ⟨o,e⟩
   . refine .inl #[n,e,λo=>?_];have g:Grow K M1.W M1.W p (upd p a (.frz o (.dK n))):=#[λb u e' U=>by
       by_cases z:b=a;. subst z;rw[e] at e';cases e';exact .inr #[n,o,rfl,AF]
       . exact .inl (by rw[AH z];exact e'),λb z=>.inl z]
     have r:OA K (upd p a (.frz o (.dK n))) M1:=S.grow g λb X I=>by rw[AH];rintro rfl;exact nw (by unfold Own.W;rw[I];simp)
     exact k _ _ _ M1 r (N.trans #[g]) (O AF) q
   . exact .inr #[o,n,e,k _ _ _ M1 S N (O e) q]
theorem IP (e:ρ[i]?=ak (ak (.loc a))) (m:M a=ak (.d kvs)) (h:DSt K t (ρ.set i (ak (.d (.dict kvs)))) (M.del a) D):DSt K t ρ M D:=λr H E R N z T O=>by
 have hs:(M.del a).Sub M:=λb o q=>by
   unfold Own.del at q;by_cases hb:b=a;. rw[if_pos hb] at q;cases q
   . rw[if_neg hb] at q;exact q
 have n:Step K M (M.del a) H H:=#[BB hs]
 obtain⟨v,p,u⟩:=R.slot i _ e;obtain⟨G,I,B⟩:=R.own a _ m;have S:Rel K (M.del a) ρ r H:=R.step (R.own.sub hs) n;have R2:=S.set (x:=.d (.dict kvs)) (v:=v) (by
   unfold SI DV;refine#[a,G,u,(λw=>w (by unfold Own.del;rw[if_pos rfl])),.inl I,B.grow (BB hs)]) i;have y:r.set i (ak v)=r:=by
   apply b2X;intro j;rw[List.getElem?_set];by_cases k:i=j
   . subst k;rw[if_pos rfl,p];split;. rfl
     . rename_i J;rw[a6K (by lia)] at p;cases p
   . rw[if_neg k]
 rw[y] at R2;exact h r H E R2 (λa b c d e f g=>N a b c d e (n.trans f) g) (λa b c d e f g q=>z a b c d e f (n.trans g) q) (λa b c d e f g=>T a b c d e (n.trans f) g) (λa b c d e f g=>O a b c d e (n.trans f) g)
end
end DL
namespace DL
open PySem PySem.Spec L2
section
def Q2 (as:List PyData):List PyData:=as.zipIdx.map λp=>.tuple [.int (p.2:Nat),p.1]
end
end DL
namespace L2
open PySem PySem.Spec PyProof.Rows
section
def zE (K:Frg) (neg:Bool):R2:=λx y H Q=>∃(W:Addr->Prop) (d:PyData) (ds:List PyData),DV K H W d x/\zH d=au/\((DV K H W (.list ds) y/\zH (.list ds)=au)\/(DV K H W (.tuple ds) y/\zH (.tuple ds)=au)) /\
 Q (.bl (if neg then !(ds.any λe=>a0W e d) else ds.any λe=>a0W e d)) H
theorem rO {A:bx}{d:PyData}(hu:A.units+64 < eh) (h:a2X ds+1<=64):A.units+1+min (a2X ds) d.depth < cLine:=by have:=Nat.min_le_left (a2X ds) d.depth;omega
theorem kU (hu:X.A.units+64 < eh):OpR X (bq .NotIn) (zE X.K au):=by
 intro pins s b H x y v u Q I r p h;obtain⟨W,d,ds,h1,m,⟨n,e⟩ | ⟨n,e⟩,q⟩:=h;all_goals
   obtain⟨as,t⟩:=h1.reads I (zG m) r;obtain⟨bs,i⟩:=n.reads I (zG e) p;have f:=PySem.SeqAt.depth_of_shaped e
 . exact PySem.SeqAt.notIn_list_reads i t (zG e) (zG m) (rO hu f) #[.bl _,H,I,rfl,q]
 . exact PySem.SeqAt.notIn_tuple_reads i t (zG e) (zG m) (rO hu f) #[.bl _,H,I,rfl,q]
end
end L2
namespace DL
open PySem PySem.Spec L2
section
variable {X:Cx}{K:Frg}
theorem zK (h:X.K=K) (hu:X.A.units+64 < eh):OpR X (bq .NotIn) (zE K au):=h▸kU hu
end
section
theorem A3O {neg:Bool}(m:zH d=au) (t:zH (.list ds)=au) (q:Q (.d (.bool (if neg then !(ds.any λe=>a0W e d) else ds.any λe=>a0W e d))) M):D2 K (zE K neg) (.d d) (.d (.list ds)) M Q:=λH v u QQ z h1 n k=>
 #[M.W,d,ds,h1,m,.inl #[n,t],k _ H _ M z AK Step.refl q]
theorem rP (ho:JU g T) (hT:∀i∈T,∀j,u[i]?≠ak (ak j)) (h:DI K wi ρ M λds M1=>ds.length < a0/\∀D,M1 D=am->∃P:Nat->List PyData->Own->Prop,P 0 [] (M1.put D (.l []))/\(∀k acc t,P k acc t->t D=ak (.l acc)/\acc.length<=k) /\(∀k d acc t,ds[k]?=ak d->P k acc t->DG K g d (GC u ρ) t λI M2=>DT K tt I M2 λc Y=>if c=au then DE K te I Y λy M4=>∃r,y = .d r/\M4 D=ak (.l acc)/\P (k+1) (acc++[r]) (M4.put D (.l (acc++[r]))) else P (k+1) acc Y) /\∀acc t,P ds.length acc t->Q (.loc D) t) :
   DE K (PR u wi g tt te) ρ M Q:=λσ H QQ R k=>
 h σ H _ R λJ ds H1 M1 o1 t1 wd dr=>by
   obtain⟨hsz,hq⟩:=dr;intro A hA;obtain⟨P,p0,pa,pt,pe⟩:=hq A (o1.none hA);obtain⟨oA,sA⟩:=QH o1 hA (DVs.nil (K:=K) (H:=H1) (W:=M1.W));refine#[λi m ys f=>m=ds.length - i/\i<=ds.length/\f A=ak (.lst ys)/\∃acc t,OA K f t/\Step K M1 t H1 f/\P i acc t,#[_,rfl,xT _,AF,[],_,oA,sA,p0],?_];rintro i m ys f ⟨rfl,hi,vz,acc,t,O,v,p⟩;refine#[vz,?_];have xv:∀{N:Own},(N.del A).Sub N:=λ{N} b o q=>by
     unfold Own.del at q;by_cases hb:b=A;. rw[if_pos hb] at q;cases q
     . rw[if_neg hb] at q;exact q
   by_cases B:i < ds.length
   . refine .inr #[wd.go i f t B O v,λx X y=>?_];obtain⟨xw,fq,d,e1,e2⟩:=wd.yld i f t x X O v B y;have Rc:Rel K t (GC u ρ) (L2.capt u σ) X:=((R.step o1 t1).step xw (v.trans fq)).capt;refine ho _ _ _ _ (pt i d acc t e1 p (L2.capt u σ) X x _ Rc e2 λρ3 Y U H4 R3 ib b3 hext=>#[λi' v' lp=>?_,?_]);. obtain⟨j,f1,f2⟩:=F9 lp;rw[hext i' λn=>hT i' n j f1];exact lp
     . refine b3 U H4 _ R3 λc H5 M5 o5 ji Z=>?_;have sx:=((v.trans fq).trans ib).trans ji;cases c with
       | false=> rw[if_neg nft] at Z ⊢;obtain⟨n,_⟩:=pa _ _ _ Z;obtain⟨L,S,G⟩:=o5 A _ n;exact#[L,ds.length - (i+1),by omega,rfl,B,S,acc,M5,o5,sx,Z]
       | true=> rw[if_pos rfl] at Z ⊢;refine Z U H5 _ (R3.step o5 ji) λy H6 z M6 o6 s6 oj h6=>?_;obtain⟨r,rfl,n,p'⟩:=h6;obtain⟨L,S,G⟩:=o6 A _ n;obtain⟨w1,w2⟩:=HA o6 n (G.append (DVs.cons s6 DVs.nil));have ac:acc.length<=i:=(pa _ _ _ p).2;exact#[L,S,by rw[G.length];omega,ds.length - (i+1),by omega,rfl,B,AF,_,_,w1,(sx.trans oj).trans w2,p']
   . have e:i=ds.length:=by omega
     subst e;refine .inl #[wd.stop f t O v,?_];obtain⟨n,_⟩:=pa _ _ _ p;obtain⟨L,S,G⟩:=O A _ n;exact k _ f (.loc A) t O rfl (t1.trans v) (pe acc t p)
end
end DL
namespace DL
open PySem PySem.Spec L2 XC
theorem HasX.calm (h:HasX P w K mg base x k ps S) (hp:∀xs M,t.pre xs M->S.pre xs M/\(∀y i,S.post xs M y i->t.post xs M y i)/\∀cls fs i,¬S.xpost xs M cls fs i):Has P w K mg base x k ps t:=by
 obtain⟨f,T,F,c,hk,hb⟩:=h.ex;refine#[f,T,#[g6,λA outer s H args O D Q E hr he J g hs=>?_],c,hk,hb];obtain⟨xs,M,p,j,u,pre,q⟩:=hs;obtain⟨n,G,m⟩:=hp xs M pre;refine xN (F.run A outer s H args O D Q (λ_ _ _=>False) hr he J g #[xs,M,p,j,u,n,λy i v H' I=>q y i v H' (G y i I),λcls fs i B H' I=>absurd I (m cls fs i)]) λr s' N=>?_;cases r with
 | ok z=>cases z <;> first | exact N | exact N.elim
 | error e=> obtain⟨_,_,_,_,_,_,_,_,_,_,_,_,_,_,_,_,_,b⟩:=N;exact b.elim
end DL
namespace DL
open PySem PySem.Spec L2
def Deed.must (D:Deed):List Str:=D.names.filter λn=>decide (¬D.made=ak n)
end DL
namespace DL
open PySem PySem.Spec L2 XC
section
variable {M:Own}{Q:DS->Own->Prop}{w:List Th}{ls:List (Str×Deed)}
def EQ:FSp:=#[λt M=>∃D:Deed,t=[.d D.d]/\D.real,λt M y i=>∀D:Deed,t=[.d D.d]->y = .d (CA D.must)/\i=M]
theorem kW {D:Deed}(hr:D.real) (q:Q (.d (CA D.must)) M):[DS.d D.d].length=1/\EQ.pre [.d D.d] M/\∀x i,EQ.post [.d D.d] M x i->Q x i:=#[rfl,#[D,rfl,hr],λx i h=>by obtain⟨rfl,rfl⟩:=h D rfl;exact q]
end
end DL
namespace DL
open PySem PySem.Spec L2 XC
theorem NO (a b:Int):a0W (.int a) (.int b)=decide (a=b):=by
 have:a0W (.int a) (.int b)=(a==b):=by simp[a0W]
 rw[this];rfl
end DL
namespace DL
open PySem PySem.Spec L2
theorem dX (h:D4 t.1):zH (thD t)=true:=by
 refine CU ?_ ?_
 . exact IH (ds:=[.str t.1,.int t.2.1,.int t.2.2]) λd hd=>by
     simp only[yX,xW,or_false] at hd;rcases hd with rfl | rfl | rfl;. exact CO h
     . rfl
     . rfl
 . simp[thD,a2J,a2X]
theorem VH (h:EO w):zH (wD w)=true:=by
 refine CU (IH λd hd=>?_) ?_;. obtain⟨t,e,rfl⟩:=zL.mp hd;exact zG (dX (h.2 t e).1)
 . have:a2X (w.map thD)<=3:=JV λd hd=>by obtain⟨t,e,rfl⟩:=zL.mp hd;simp[thD,a2J,a2X]
   simp only[wD,a2J];lia
theorem HI (h:zH d=au):a0W d d=true:=PySem.SeqAt.eqv_refl _ (zG h)
end DL
namespace DL
open PySem PySem.Spec L2 XC
theorem IQ (h:(GA 0 ((n:Nat):Int).toNat)[k]?=ak d):k < n/\d = .int (k:Int):=by
 have r:k < n:=by have:=(yT.mp h).1;simpa [GA] using this
 refine#[r,?_];unfold GA at h;rw[zF,xZ (by lia)] at h;simp at h;exact h.symm
theorem ZU (h:d∈GA 0 ((n:Nat):Int).toNat):∃k:Nat,k < n/\d = .int (k:Int):=by obtain⟨k,hk,e⟩:=List.mem_iff_getElem.mp h;exact#[k,IQ (n:=n) (by rw[zV hk,e])]
theorem HJ (n:Nat):(GA 0 ((n:Nat):Int).toNat).length=n:=by simp[GA]
end DL
namespace L2
open PySem PySem.Spec PyProof.Rows
section
theorem kX (hh:A.handled=am) (hx:items[k]?=am):NxE prog w A i (λh=>h.IsTupleIter i t k/\h.IsTuple t items):=λs Q E hS hE=>by
 obtain⟨hit,n⟩:=hS;obtain⟨o,ho,hc,hd⟩:=id hit;obtain⟨L,e,j,p,r⟩:=id n;unfold a2Z;refine zZ (wpAny_callSpecial?_slot (name:=a0Q "__next__") hit.typeIs a6X (ce a6X hit.typeIs b7V ?_ (b7X _)));show wpAny _ _ (ik (.ref i) 0 >>= _) _ _ s;refine zZ (bd ho hd (x:=.ref t) rfl ?_);show wpAny _ _ (if (a0X t==a1Z)=au then _ else _) _ _ s;rw[if_neg (show ¬((a0X t==a1Z)=au) from nft)];show wpAny _ _ (ik (.ref i) 1 >>= _) _ _ s;refine zZ (bd ho hd (x:=.int k 0) rfl ?_);show wpAny _ _ (seqItems? (.ref t) >>= _) _ _ s;refine zZ (cR e r ?_);simp only[a7W,hx];refine zZ (db (zZ (di ho hd (by simp) (zZ ?_))));simp only[newExc,newTuple];refine zZ (xM (zZ (m:=iv _ _) (io (a:=a1Z) (by first | rfl | (simp only[iv];rfl)) (xM ?_ (by size_fits)))) (by size_fits));simp only[raiseNew];refine zZ (wpAny_handled ?_);first | rw[show A.in1.handled=am from hh] | rw[hh]
 exact zZ (zY (wpAny_throw (hE _ _ (((b5Q ..).extBut.push _).push _) #[_,yZ _ rfl,rfl])))
end
end L2
namespace L2
open PySem PySem.Spec PyProof.Rows
theorem ML:ew (.type "tuple") (dunderI "add")=pure none:=by rw[typeLookup_type,builtinLookup_eq_fast];kernel_rfl
theorem MM {id:String}(e:s.TypeIs a T) (hb:s.TypeIs b T) (n:ew (.type T) (dunderI "add")=pure am) (M:fillsNumberSlot (.type T) "add"=pure aB) (hs:seqSlot? (.type T) "__add__"=pure (ak (.builtin id))) (sl:Slot T "__add__" id) (v:entryFor table id=ak B) (t:argsOk id #[[a,b],[]]) (g:Meets (B #[[a,b],[]]) S) (h:S A (wants Q E) s):wpAny (model prog w) A (inplaceOp .Add a b) Q E s:=
 wpAny_inplaceOp_concat e hb n M hs (call_meets sl e v t g h)
section
variable {X:Cx}
def A3P (K:Frg):R2:=λx y H Q=>ipI (λi j=>i+j) x y H Q\/cW K x y H Q
theorem dY {K:Frg}(hK:X.K=K):PIp X .Add (A3P K):=by
 subst hK;intro pins s Y H x y v u Q I j k h;rcases h with h | h;. exact A1r pins s Y H x y v u Q I j k h
 obtain⟨t,b,z,T,rfl,rfl,hx,hy,G,J,L,U⟩:=h;cases j;cases k;obtain⟨i,r,B,_⟩:=I.tuple hx;obtain⟨M,f,hb,_⟩:=I.tuple hy;have e1:=r.length;have e2:=f.length;obtain⟨⟨cls,m,data,sl⟩,ho,hc,n,hd⟩:=id B;obtain⟨⟨Z,g,data2,O⟩,ho2,hc2,c,hd2⟩:=id hb;dsimp only at hc hd hc2 hd2;subst hc hd hc2 hd2;have e:i.toArray++M.toArray=(i++M).toArray:=by simp
 by_cases N:i=[]
 . have S:z=[]:=by cases r with | nil=>rfl | cons _ _=>cases N
   exact MM #[_,ho,rfl] #[_,ho2,rfl] ML ef fi a7Z a7X (a6J _ _) (tuple_addW0 t b i.toArray M.toArray n c m g sl O (by simp[N])) #[ho,ho2,#[.ref b,H,I,rfl,J S]]
 . by_cases p:M=[]
   . have D:T=[]:=by cases f with | nil=>rfl | cons _ _=>cases p
     exact MM #[_,ho,rfl] #[_,ho2,rfl] ML ef fi a7Z a7X (a6J _ _) (tuple_addW1 t b i.toArray M.toArray n c m g sl O (by simpa using N) (by simp[p])) #[ho,ho2,#[.ref t,H,I,rfl,L D]]
   . refine MM #[_,ho,rfl] #[_,ho2,rfl] ML ef fi a7Z a7X (a6J _ _) (tuple_addW2 t b i.toArray M.toArray n c m g sl O (by simpa using N) (by simpa using p) (by rw[zJ,zJ];lia)) #[ho,ho2,?_];rw[e];refine#[.ref s.heap.objs.size,_,I.laid (t':=s.toks) (o:=.tup (z++T)) (λb ob q=>zW _ q) (zR _) ?_,rfl,U _ I.fresh];exact#[by rw[yY];exact G,i++M,r.append f,IsTup.new _ _]
end
end L2
namespace DL
open PySem PySem.Spec L2
section
theorem WX (h:∃x,ρ[i]?=ak (ak x)/\DE K m ρ M λy M1=>D2 K r x y M1 λz k=>D.nx (ρ.set i (ak z)) k):DSt K (A4K i m r) ρ M D:=λI H E R N _ _ _=>by obtain⟨x,e,h⟩:=h;obtain⟨v,b,O⟩:=R.slot i x e;refine#[v,b,h I H _ R λu p y M1 S j t q=>?_];exact q p v u _ S (SI.step t O) j λz f w k c T n g=>N _ k _ f (((R.step S t).step c n).set T i) (t.trans n) g
theorem i4 (q:Q (.d (.int (i+j))) M):D2 K (A3P K) (.d (.int i)) (.d (.int j)) M Q:=λH v u QQ z m e k=>by unfold SI DV at m e;subst m;subst e;exact .inl #[i,j,rfl,rfl,k _ H (.d (.int (i+j))) M z (by unfold SI DV;rfl) Step.refl q]
theorem zO (hz:as.length+bs.length<=a0) (q:Q (.d (.tuple (as++bs))) M):D2 K (A3P K) (.d (.tuple as)) (.d (.tuple bs)) M Q:=λH v u QQ z m t k=>by
 have h:=m;have r:=t;unfold SI DV at m t;obtain⟨a,i,rfl,c,hd⟩:=m;obtain⟨b,n,rfl,f,hd2⟩:=t;refine .inr #[a,b,i,n,rfl,rfl,c.sq,f.sq,by rw[hd.length,hd2.length];exact hz,λe=>?_,λe=>?_,λp hp=>?_]
 . have:as=[]:=by have:=hd.length;rw[e] at this;exact List.length_eq_zero_iff.mp this.symm
   subst this;exact k _ H (.d (.tuple ([]++bs))) M z r Step.refl q
 . have:bs=[]:=by have:=hd2.length;rw[e] at this;exact List.length_eq_zero_iff.mp this.symm
   subst this;rw[a4K] at q;exact k _ H (.d (.tuple as)) M z h Step.refl q
 . have g:Grow K M.W M.W H (upd H p (.tup (i++n))):=AZ _ hp;refine k _ _ (.d (.tuple (as++bs))) M (z.new hp) ?_ #[g] q;unfold SI DV;exact#[p,_,rfl,.inl #[λw=>w (z.none hp),.inl AF],(hd.append hd2).grow g]
theorem rQ (P:Nat->List (Option DS)->Own->Prop) (z:∃m,P m ρ M) (pt:∀m I i,P m I i->DT K G I i λc M1=>if c=au then DSt K B I M1 (D.turn λe k=>∃n,n < m/\P n e k) else D.nx I M1):DSt K (mX G B) ρ M D:=λZ H E R N Q X Y=>by
 obtain⟨U,z⟩:=z;refine#[λm t H'=>∃I i,Rel K i I t H'/\Step K M i H H'/\P m I i,#[U,ρ,M,R,Step.refl,z],?_];rintro m t H' ⟨I,i,L,O,p⟩;refine pt m I i p t H' _ L λc T M1 S v q=>?_;cases c with
 | false=> rw[if_neg nft] at q ⊢;exact N I M1 t T (L.step S v) (O.trans v) q
 | true=> rw[if_pos rfl] at q ⊢;refine#[λj y=>∃e k,Rel K k e j y/\Step K M k H y/\∃n,n < m/\P n e k,(by rintro j y ⟨e,k,a,b,n,J,c⟩;exact#[n,J,e,k,a,b,c]),?_];have u:=O.trans v;exact q t T _ (L.step S v) (λr m s g f h q=>#[r,m,f,u.trans h,q]) (λw g x m a b c q=>Q w g x m a b (u.trans c) q) (λr m s g f h q=>N r m s g f (u.trans h) q) (λr m s g f h q=>#[r,m,f,u.trans h,q])
end
end DL
namespace DL
open PySem PySem.Spec L2 XC
mutual
def plD:PyData->Bool
 | .int _=>au
 | .str _=>au
 | .tuple ds=>plAll ds
 | _=>aB
def plAll:List PyData->Bool
 | []=>au
 | d::r=>plD d&&plAll r
end
mutual
theorem dZ:∀(a b:PyData),plD a=au->plD b=au->a0W a b=au->a=b
 | .int i,.int j,_,_,h=>by simp only[a0W,beq_iff_eq] at h;rw[h]
 | .str i,.str j,_,_,h=>by simp only[a0W,beq_iff_eq] at h;rw[h]
 | .tuple t,.tuple p,h1,n,h=>by simp only[a0W] at h;rw[eqv_plAll t p (by simpa [plD] using h1) (by simpa [plD] using n) h]
 | .int _,.str _,_,_,h=>by cases h
 | .int _,.tuple _,_,_,h=>by cases h
 | .str _,.int _,_,_,h=>by cases h
 | .str _,.tuple _,_,_,h=>by cases h
 | .tuple _,.int _,_,_,h=>by cases h
 | .tuple _,.str _,_,_,h=>by cases h
 | .none,_,h,_,_=>by cases h
 | .bool _,_,h,_,_=>by cases h
 | .list _,_,h,_,_=>by cases h
 | .dict _,_,h,_,_=>by cases h
 | _,.none,_,h,_=>by cases h
 | _,.bool _,_,h,_=>by cases h
 | _,.list _,_,h,_=>by cases h
 | _,.dict _,_,h,_=>by cases h
theorem eqv_plAll:∀(a b:List PyData),plAll a=au->plAll b=au->b8W a b=au->a=b
 | [],[],_,_,_=>rfl
 | x::t,y::p,h1,n,h=>by simp only[plAll,a0V] at h1 n;simp only[b8W,a0V] at h;rw[dZ x y h1.1 n.1 h.1,eqv_plAll t p h1.2 n.2 h.2]
 | [],_::_,_,_,h=>by cases h
 | _::_,[],_,_,h=>by cases h
end
end DL
namespace DL
open PySem PySem.Spec L2 XC
theorem ZV {ss:List Str}(h:∀s∈ss,D4 s):zH (.tuple (ss.map .str))=true:=by
 refine CU (IH λd hd=>?_) ?_;. obtain⟨s,hs,rfl⟩:=zL.mp hd;exact CO (h s hs)
 . have:a2X (ss.map .str)<=2:=JV λd hd=>by obtain⟨s,hs,rfl⟩:=zL.mp hd;simp[a2J]
   simp only[a2J];lia
end DL
namespace DL
open PySem PySem.Spec L2 XC
theorem SB (q:∀p,M p=am->Q (.loc p) (M.put p (.d (AG [])))):DE K nM N M Q:=λt H QQ R k p hp=>by obtain⟨e,c⟩:=NA (kvs:=[]) (ks:=[]) R.own hp (by unfold DKV;rfl);exact k _ _ (.loc p) _ e (by unfold SI;rfl) c (q p (R.own.none hp))
end DL
namespace DL
open PySem PySem.Spec L2 XC
section
variable {M:Own}{Q:DS->Own->Prop}{ys:List Str}{w:List Th}{D:Deed}{p:Addr}{L:List Int}
def LS (x:Int):Nat:=97+(x % 26).toNat
def A4y (u:Int):PyData->PyData
 | .int k=>.str #[(y9 [LS (u/(1+5*k))])]
 | d=>d
def IR (u:Int):List Nat:=(a1X 8).map λk:Nat=>LS (u/(1+5*(k:Int)))
theorem rR (v:Int):atI (a0Q "abcdefghijklmnopqrstuvwxyz").cps.toList (v % 26)=ak (LS v):=by
 have I:0<=v % 26:=a7V _ `kh;have h1:v % 26 < 26:=b1J _ `kh;unfold LS;generalize v % 26=m at I h1;obtain⟨n,rfl⟩:∃n:Nat,m=(n:Int):=#[m.toNat,by lia]
 have hn:n < 26:=by lia
 rw[a7W];refine AJ ?_;have key:∀n:Fin 26,(a0Q "abcdefghijklmnopqrstuvwxyz").cps.toList[n.1]?=ak (97+n.1):=by decide +kernel
 exact key #[n,hn]
theorem ZW (x:Int):JC (LS x)=true:=by have I:0<=x % 26:=a7V _ `kh;have h1:x % 26 < 26:=b1J _ `kh;unfold JC LS;rw[a0V,decide_eq_true_iff,decide_eq_true_iff];lia
def z18 (u:Int):Str:=#[(IR u).toArray]
theorem rS (u:Int):(z18 u).cps.toList=IR u:=rfl
theorem SD (u:Int):(z18 u).length=8:=rfl
theorem MN (u:Int):(IR u).length=8:=rfl
def HK (u x:Int) (k:Nat):Str:=if x/8 % 2=0 then (#[(y9 [LS (x/16+(k:Int))])]:Str)++b1V (z18 u) am (ak (x/16 % 8)) else b1V (z18 u) am (ak (1+(x+(k:Int)) % 8))
theorem A1T (u:Int) (I:0<=m):(b1V (z18 u) am (ak m)).cps.toList=(IR u).take m.toNat:=by
 obtain⟨n,rfl⟩:∃n:Nat,m=(n:Int):=#[m.toNat,by lia]
 rw[dB,rS,a7W]
theorem OX (u x:Int) (k:Nat):(HK u x k).cps.toList=if x/8 % 2=0 then LS (x/16+(k:Int))::(IR u).take (x/16 % 8).toNat else (IR u).take (1+(x+(k:Int)) % 8).toNat:=by
 unfold HK;split;. rw[U1,A1T u (a7V _ `kh)];rfl
 . have:=a7V (x+(k:Int)) (b:=8) `kh;rw[A1T u (by lia)]
theorem kY (u x:Int) (k:Nat):D4 (HK u x k):=by
 have t:∀c∈IR u,JC c=true:=λc hc=>by obtain⟨j,_,rfl⟩:=zL.mp hc;exact ZW _
 have e:=OX u x k;have g:=MN u;refine pP (λc hc=>?_) ?_ ?_
 . rw[e] at hc;split at hc
   . rcases yX.mp hc with rfl | hc;. exact ZW _
     . exact t c (b2V hc)
   . exact t c (b2V hc)
 . rw[e];split;. simp
   . rw[a0K];have:=a7V (x+(k:Int)) (b:=8) `kh;lia
 . rw[e];split;. rw[yR,a0K];have:=b1J (x/16) (b:=8) `kh;lia
   . rw[a0K];lia
theorem rT (n:j < 8) (hk:k < 8) (h:HK u x j=HK u x k):j=k:=by
 have e:(HK u x j).cps.toList=(HK u x k).cps.toList:=by rw[h]
 rw[OX,OX] at e;split at e;. have t:=(List.cons.inj e).1;unfold LS at t;lia
 . have t:=congrArg b9W e;rw[a0K,a0K,MN] at t;lia
theorem zS (u x:Int) (hn:n<=6):namesOK ((a1X n).map (HK u x)):=by
 refine#[λz r=>?_,?_,by rw[zX,xY];lia];. obtain⟨k,_,rfl⟩:=zL.mp r;exact kY u x k
 . unfold List.Nodup;rw[b0Q];refine List.pairwise_iff_getElem.mpr λi j hi t m e=>?_;rw[xY] at hi t;rw[List.getElem_range,List.getElem_range] at e;have:=rT (by lia) (by lia) e;lia
theorem rV (B:(w.map (·.1)).Nodup) (h:w[k]?=ak t):CL (w.take k) t.1 t.2.1 t.2.2=w.take (k+1):=by
 unfold CL;rw[if_neg λq=>?_,a2Q,h];. rfl
 . obtain⟨s,hs,e⟩:=List.any_eq_true.mp q;have e:=of_decide_eq_true e;obtain⟨i,hi,rfl⟩:=List.mem_iff_getElem.mp hs;rw[a0K] at hi;rw[List.getElem_take] at e;obtain⟨hk,rfl⟩:=yT.mp h;have n:=List.pairwise_iff_getElem.mp B i k (by rw[zX];lia) (by rw[zX];exact hk) (by lia);rw[c0Q,c0Q] at n;exact n e
def inT (ns:List Str):PyData->PyData | .str z=>.bool (decide (z∈ns)) | d=>d
theorem ZX (ns l:List Str):(l.map a0Z).map (inT ns)=(l.map λz=>decide (z∈ns)).map .bool:=by rw[zD,zD];rfl
theorem kZ {p:Int}:(CL ts x p c).length<=ts.length+1:=by
 unfold CL;split;. rw[zX];lia
 . rw[yY];exact zR _
theorem ZY {p:Int}(h:n≠x):AA (CL ts x p c) n=AA ts n:=by rw[BX,if_neg h]
theorem e6 (h:tsO a=tsO b):a=b:=by
 have h1:AG (tsD a)=AG (tsD b):=MO.d.inj h;clear h;induction a generalizing b with
 | nil=>cases b with | nil=>rfl | cons _ _=>cases h1
 | cons x r t=>cases b with
   | nil=>cases h1
   | cons y s=> simp only[AG,tsD,pcD,zI,List.cons.injEq,Prod.mk.injEq,PyData.str.injEq,PyData.tuple.injEq,PyData.int.injEq,and_true] at h1;rw[t (b:=s) (by simpa [AG,tsD,pcD] using h1.2)];obtain⟨⟨j,g,e⟩,_⟩:=h1;obtain⟨N,n,Y⟩:=x;obtain⟨O,i,m⟩:=y;simp only at j g e;rw[j,g,e]
theorem A4z (ns:List Str) (D:Deed):decide (AE ns D=am)=((D.must.map λz=>decide (z∈ns)).all id&&!((D.made.toList.map λz=>decide (z∈ns)).any id)):=by
 rw[a1K,decide_eq_true_iff,a0V,a9X,b2Z,List.any_eq_false];constructor
 . intro h;have h:=BI h;refine#[λb hb=>?_,λb hb=>?_];. obtain⟨z,u,rfl⟩:=zL.mp hb;obtain⟨h1,t⟩:=yL.mp u;exact decide_eq_true ((h z h1).mpr (of_decide_eq_true t))
   . obtain⟨z,u,rfl⟩:=zL.mp hb;have e:D.made=ak z:=by simpa using u
     have hn:z∈D.names:=by cases D <;> simp_all [Deed.made,Deed.names]
     have:=(h z hn)
     simp only[id,decide_eq_true_eq];exact λq=>this.mp q e
 . rintro⟨h1,t⟩;refine NJ λn hn=>#[λq e=>?_,λe=>?_]
   . exact t _ (zL.mpr #[n,by simpa using e,rfl]) (decide_eq_true q)
   . exact of_decide_eq_true (h1 _ (zL.mpr #[n,yL.mpr #[hn,decide_eq_true e],rfl]))
def stT (ns:List Str):PyData->Bool | .str z=>decide (z∈ns) | _=>aB
def frT (ns:List Str) (d:PyData):Bool:=!stT ns d
theorem ZZ (ns l:List Str):((l.map a0Z).filter (stT ns)).map id=(l.filter λz=>decide (z∈ns)).map .str:=by rw[a9W,xU];rfl
theorem SE (ns l:List Str):((l.map a0Z).filter (frT ns)).map id=(l.filter λz=>!decide (z∈ns)).map .str:=by rw[a9W,xU];rfl
theorem a6 (l:List Str):a0W (.list (l.map a0Z)) (.list [])=l.isEmpty:=by
 cases l with
 | nil=>rfl
 | cons a r=>simp[a0W,b8W]
theorem a7 {e:Type}{l:List e}(h:l.isEmpty=aB):l≠[]:=by rintro rfl;cases h
def okX (L:List Int):Prop:=∀x∈L,0<=x/\x < 1000000000
def NP:FSp:=#[λt M=>∃(e:List Int) (k:Nat),t=[.d (.list (e.map .int)),.d (.int k)],λt M y i=>i=M/\∃c:Int,y = .d (.int c)]
theorem a8 {ns:List Int}{k:Nat}(q:∀c:Int,Q (.d (.int c)) M):[DS.d (.list (ns.map .int)),.d (.int k)].length=2/\NP.pre [.d (.list (ns.map .int)),.d (.int k)] M/\∀x i,NP.post [.d (.list (ns.map .int)),.d (.int k)] M x i->Q x i:=#[rfl,#[ns,k,rfl],λx i h=>by obtain⟨rfl,c,rfl⟩:=h;exact q c]
def GK:FSp:=#[λt M=>∃(c:Int) (n:Nat),t=[.d (.int c),.d (.int n)]/\n<=200,λt M y i=>∀(c:Int) (n:Nat),t=[.d (.int c),.d (.int n)]->i=M/\∃L:List Int,y = .d (.list (L.map .int))/\L.length=n/\okX L]
theorem WY (hn:n<=200) (q:∀L:List Int,L.length=n->okX L->Q (.d (.list (L.map .int))) M):[DS.d (.int c),.d (.int n)].length=2/\GK.pre [.d (.int c),.d (.int n)] M/\∀x i,GK.post [.d (.int c),.d (.int n)] M x i->Q x i:=#[rfl,#[c,n,rfl,hn],λx i h=>by obtain⟨rfl,L,rfl,h1,e⟩:=h c n rfl;exact q L h1 e]
def nxX (L:List Int) (a n:Nat):List DS:=[.d (.list (L.map .int)),.d (.int a),.d (.int n)]
def L1:FSp:=#[λt M=>∃(L:List Int) (a n:Nat),t=nxX L a n/\okX L/\a+1 < L.length/\n<=6/\L.length<=200,λt M y i=>∀(L:List Int) (a n:Nat),t=nxX L a n->i=M/\∃ys,y = .d (CA ys)/\namesOK ys/\ys.length=n]
theorem WZ (h:okX L) (t:a+1 < L.length) (hn:n<=6) (m:L.length<=200) (q:∀ys,namesOK ys->ys.length=n->Q (.d (CA ys)) M):(nxX L a n).length=3/\L1.pre (nxX L a n) M/\∀x i,L1.post (nxX L a n) M x i->Q x i:=#[rfl,#[L,a,n,rfl,h,t,hn,m],λx i r=>by obtain⟨rfl,ys,rfl,h1,e⟩:=r L a n rfl;exact q ys h1 e]
def HL:FSp:=#[λt M=>∃x:Int,t=[.d (.int x)]/\0<=x/\x < 1000000000,λt M y i=>i=M/\∃v:Int,y = .d (.int v)/\0<=v/\v<=999]
theorem NQ (h:0<=x/\x < 1000000000) (q:∀v:Int,0<=v->v<=999->Q (.d (.int v)) M):[DS.d (.int x)].length=1/\HL.pre [.d (.int x)] M/\∀y i,HL.post [.d (.int x)] M y i->Q y i:=#[rfl,#[x,rfl,h],λy i e=>by obtain⟨rfl,v,rfl,h1,n⟩:=e;exact q v h1 n]
def FK:FSp:=#[λt M=>∃x:Int,t=[.d (.int x)]/\0<=x/\x < 1000000000,λt M y i=>i=M/\∃v:Int,y = .d (.int v)/\-1000000000000<=v/\v<=1000000000000]
theorem LU (h:0<=x/\x < 1000000000) (q:∀v:Int,-1000000000000<=v->v<=1000000000000->Q (.d (.int v)) M):[DS.d (.int x)].length=1/\FK.pre [.d (.int x)] M/\∀y i,FK.post [.d (.int x)] M y i->Q y i:=#[rfl,#[x,rfl,h],λy i e=>by obtain⟨rfl,v,rfl,h1,n⟩:=e;exact q v h1 n]
def NR:FSp:=#[λt M=>∃(ys:List Str) (x:Int),t=[.d (CA ys),.d (.int x)]/\ys≠[]/\ys.length<=60,λt M y i=>∀(ys:List Str) (x:Int),t=[.d (CA ys),.d (.int x)]->i=M/\∃z,y = .d (.str z)/\z∈ys]
theorem ER (h:ys≠[]) (r:ys.length<=60) (q:∀z∈ys,Q (.d (.str z)) M):[DS.d (CA ys),.d (.int x)].length=2/\NR.pre [.d (CA ys),.d (.int x)] M/\∀y i,NR.post [.d (CA ys),.d (.int x)] M y i->Q y i:=#[rfl,#[ys,x,rfl,h,r],λy i e=>by obtain⟨rfl,z,rfl,h1⟩:=e ys x rfl;exact q z h1]
def SG (L:List Int) (a:Nat) (ys:List Str):List DS:=[.d (.list (L.map .int)),.d (.int a),.d (CA ys)]
def i5 (ys:List Str) (w:List Th):Prop:=A4q w/\∀t∈w,t.1∈ys
def L4:FSp:=#[λt M=>∃(L:List Int) (a:Nat) (ys:List Str),t=SG L a ys/\okX L/\a+ys.length < L.length/\L.length<=200/\namesOK ys/\ys.length<=6,λt M y i=>∀(L:List Int) (a:Nat) (ys:List Str),t=SG L a ys->i=M/\∃w,y = .d (wD w)/\i5 ys w]
theorem X0 (h:okX L) (t:a+ys.length < L.length) (r:L.length<=200) (hn:namesOK ys) (e:ys.length<=6) (q:∀w,i5 ys w->Q (.d (wD w)) M):(SG L a ys).length=3/\L4.pre (SG L a ys) M/\∀x i,L4.post (SG L a ys) M x i->Q x i:=#[rfl,#[L,a,ys,rfl,h,t,r,hn,e],λx i n=>by obtain⟨rfl,w,rfl,h1⟩:=n L a ys rfl;exact q w h1]
set_option genInjectivity true
structure There (ys:List Str) (w:List Th):Prop where
 nd:(w.map (·.1)).Nodup
 sub:∀t∈w,t.1∈ys
def L5:FSp:=#[λt M=>∃w:List Th,t=[.d (wD w)]/\(w.map (·.1)).Nodup/\w.length < 60,λt M y i=>∀w:List Th,t=[.d (wD w)]->∃p,M p=am/\y = .loc p/\i=M.put p (tsO w)]
theorem X1 (h:(w.map (·.1)).Nodup) (r:w.length < 60) (q:∀p,M p=am->Q (.loc p) (M.put p (tsO w))):[DS.d (wD w)].length=1/\L5.pre [.d (wD w)] M/\∀x i,L5.post [.d (wD w)] M x i->Q x i:=#[rfl,#[w,rfl,h,r],λx i e=>by obtain⟨p,h1,rfl,rfl⟩:=e w rfl;exact q p h1]
def K2:FSp:=#[λt M=>∃D:Deed,t=[.d D.d]/\D.real,λt M y i=>∀D:Deed,t=[.d D.d]->y = .d (CA D.made.toList)/\i=M]
theorem a9 (h:D.real) (q:Q (.d (CA D.made.toList)) M):[DS.d D.d].length=1/\K2.pre [.d D.d] M/\∀x i,K2.post [.d D.d] M x i->Q x i:=#[rfl,#[D,rfl,h],λx i e=>by obtain⟨rfl,rfl⟩:=e D rfl;exact q]
def ddX (L:List Int) (a:Nat) (ys:List Str) (p:Addr):List DS:=[.d (.list (L.map .int)),.d (.int a),.d (CA ys),.loc p]
def deed18 (ys:List Str) (D:Deed):Prop:=D.real/\∀x∈D.names,x∈ys
def rwX (L:List Int) (a n:Nat) (ys:List Str) (p:Addr):List DS:=[.d (.list (L.map .int)),.d (.int a),.d (.int n),.d (CA ys),.loc p]
theorem A0A (hn:namesOK ys) (t:0<=Y) (I:Y<=999) (hz:z∈ys):deed18 ys (.put z Y num)/\deed18 ys (.take z)/\deed18 ys (.move z Y)/\deed18 ys (.count z num):=by
 have T:=hn.1 z hz;have one:∀{D:Deed},D.names=[z]->D.ok/\∀x∈D.names,x∈ys:=λ{D} e=>by
   refine#[λx hx=>?_,λx hx=>?_];. rw[e] at hx;rw[List.mem_singleton.mp hx];exact T
   . rw[e] at hx;rw[List.mem_singleton.mp hx];exact hz
 exact#[#[#[(one rfl).1,trivial,t,I],(one rfl).2],#[#[(one rfl).1,trivial,trivial],(one rfl).2],#[#[(one rfl).1,trivial,t,I],(one rfl).2],#[#[(one rfl).1,trivial,trivial],(one rfl).2]]
theorem A0B (hn:namesOK ys) (t:0<=Y) (I:Y<=999) (ho:o∈ys) (hy:y∈ys) (O:y≠o):deed18 ys (.name o y)/\deed18 ys (.split o y Y num)/\deed18 ys (.join o y):=by
 have two:∀{D:Deed},D.names=[o,y]->D.ok/\∀x∈D.names,x∈ys:=λ{D} e=>by
   have h:∀x∈D.names,x∈ys:=λx hx=>by
     rw[e] at hx;rcases yX.mp hx with q | q;. rw[q];exact ho
     . rw[List.mem_singleton.mp q];exact hy
   exact#[λx hx=>hn.1 x (h x hx),h]
 exact#[#[#[(two rfl).1,a4Q O,trivial],(two rfl).2],#[#[(two rfl).1,a4Q O,t,I],(two rfl).2],#[#[(two rfl).1,a4Q O,trivial],(two rfl).2]]
def neT (o:Str):PyData->Bool | .str z=>!decide (z=o) | _=>aB
theorem rW (o:Str) (l:List Str):((l.map a0Z).filter (neT o)).map id=(l.filter λz=>!decide (z=o)).map .str:=by rw[a9W,xU];rfl
theorem NS :(M.put a o).del a=M.del a:=by funext b;unfold Own.del Own.put;by_cases h:b=a <;> simp[h]
theorem A3Q (h:b≠a):(M.del a) b=M b:=by unfold Own.del;rw[if_neg h]
theorem aA (h:M.Sub N) (n:N a=am):M a=none:=by
 cases e:M a with
 | none=>rfl
 | some o=>have:=h a o e;rw[n] at this;cases this
theorem HM (h:There ys w) (hg:goD w D) (hD:∀x∈D.names,x∈ys):There ys (doT w D):=by
 obtain⟨nd,r⟩:=OW hg;refine#[nd,λt n=>?_];have h1:t.1∈(doT w D).map (·.1):=zL.mpr #[t,n,rfl];rw[OV hg.2.1 hg.2.2] at h1;have e:∀z∈w.map (·.1),z∈ys:=λz u=>by obtain⟨s,hs,rfl⟩:=zL.mp u;exact h.sub s hs
 cases D with
 | put x p k=>rcases yW.mp h1 with q | q;exact e _ q;exact hD _ (by simpa [Deed.names] using q)
 | take x=>exact e _ (yL.mp h1).1
 | move x p=>exact e _ h1
 | count x k=>exact e _ h1
 | name x y=>rcases yW.mp h1 with q | q;exact e _ (yL.mp q).1;exact hD _ (by rw[List.mem_singleton.mp q];simp[Deed.names])
 | split x y p k=>rcases yW.mp h1 with q | q;exact e _ q;exact hD _ (by rw[List.mem_singleton.mp q];simp[Deed.names])
 | join x y=>exact e _ (yL.mp h1).1
theorem K3:∀{l ys:List Str},l.Nodup->(∀z∈l,z∈ys)->l.length<=ys.length
 | [],_,_,_=>xT _
 | a::r,ys,hn,hs=>by rw[xV] at hn;have h:=hs a (by simp);have:=K3 (l:=r) (ys:=ys.erase a) hn.2 λz u=>(List.mem_erase_of_ne (by rintro rfl;exact hn.1 u)).mpr (hs z (yV _ u));rw[List.length_erase_of_mem h] at this;have:=List.length_pos_of_mem h;rw[yR];lia
theorem There.few (h:There ys w):w.length<=ys.length:=by
 have:=K3 h.nd λz u=>by obtain⟨t,h1,rfl⟩:=zL.mp u;exact h.sub t h1
 rw[zX] at this;exact this
end
end DL
namespace L2
open PySem PySem.Spec PyProof.Rows
def e7:List V->Hp->VK->Prop:=λt H Q=>∃(p:Addr) (kvs:List (Key×V)),t=[.ref p]/\Rd H p (.dK kvs)/\∀q:Addr,H q=am->Q (.ref q) (upd H q (.dK kvs))
theorem e8 :D9 X (.type "dict") e7:=by intro pins s f H c v Q I r h;obtain⟨p,kvs,rfl,hp,q⟩:=h;obtain⟨u,rfl,T⟩:=JB r;cases T;obtain⟨t,N,m,rel,hd⟩:=N8 I.hok hp;have k:m.length=kvs.length:=(Paired.length rel).symm;refine kt_call_dict N hd (by rw[k];exact t) λn D i=>?_;have hn:H s.heap.objs.size=none:=I.hok.fresh (zR _);have keep:∀b o,s.heap.get? b=ak o->n.get? b=ak o:=λb o e=>i.extBut b o (zC (zM e)) (zW _ e);refine#[.ref s.heap.objs.size,_,I.laid (t':=s.toks) (o:=.dK kvs) keep (zR _) ?_,rfl,q _ hn];exact OG t (beq_eq_false_iff_ne.mpr (a4Q (zC I.big))) rel D
end L2
namespace DL
open PySem PySem.Spec L2
section
variable {X:Cx}{K:Frg}
theorem A3R (h:X.K=K):D9 X (.type "dict") e7:=e8
end
section
theorem aC (h:DE K ty ρ M λy M1=>DE K td ρ M1 λx e=>∃(a:Addr) (ts:List (Str×PyData)) (k:Str),x = .loc a/\y = .d (.str k)/\e a=ak (.d (AG ts))/\Q (.d (.bool (!(B3 ts k).isSome))) e):DE K (fX ty td) ρ M Q:=λb H QQ R N=>
 h b H _ R λv c x M1 S O p h1=>h1 b c _ (R.step S p) λu g y e i r I T=>by
   obtain⟨a,ts,k,rfl,rfl,m,q⟩:=T;unfold SI at r;subst r;rw[BC O];obtain⟨n,j,z⟩:=i a _ m;refine#[a,G5 n (a1W k),rfl,.inl #[n,a1W k,.inl j,rfl,rfl],N _ g _ e i ?_ (p.trans I) q];rcases DD (k:=k) z with ⟨B,G,t,f,D⟩ | ⟨t,f⟩
   . rw[t,f];exact AK
   . rw[t,f];exact AK
theorem l0 (h:∀p,M p=am->DPs K r ρ (M.put p (.d [])) λg M1=>M1 p=ak (.d [])/\g.length<=15/\(g.map (·.1)).Nodup/\Q (.loc p) (M1.put p (.d (AG g)))):DE K (A1I r) ρ M Q:=λO H QQ R k p hp=>by
 have x:=R.own.none hp;obtain⟨j,c⟩:=NA (kvs:=[]) (ks:=[]) R.own hp (by unfold DKV;rfl);refine h p x O _ _ (R.step j c) ?_;rintro Z u g v m ⟨t,hd,e⟩ N y;obtain⟨i,I,nd,q⟩:=y;obtain⟨ks,T,f⟩:=m p _ i;unfold DKV at f;subst f;have n:t.length=g.length:=by rw[hd.length,zX]
 refine#[T,(g.map λk=>(a1W k.1:Key)).zip t,?_,by rw[List.length_zip,zX];lia,?_];. rw[e];exact Z5 g t n
 . have hk:(((g.map λk=>(a1W k.1:Key)).zip t).map (·.1)).Nodup:=by
     rw[List.map_fst_zip (by rw[zX,n];exact zR _)];have:g.map (λk=>(a1W k.1:Key))=(g.map (·.1)).map a1W:=by rw[zD];rfl
     rw[this];unfold List.Nodup;rw[b0Q];exact nd.imp λ{a b} q e=>q (by injection e)
   rw[PX _ [] (by simpa using hk),List.nil_append];obtain⟨z,D⟩:=FD (kvs:=AG g) (ks:=(g.map λk:Str×PyData=>(a1W k.1:Key)).zip t) m i (show DKV K u v.W (AG g) _ from pU hd);exact k _ _ (.loc p) _ z rfl ((c.trans N).trans D) q
end
end DL
namespace L2
open PySem PySem.Spec PyProof.Rows
section
theorem X2 (c:s.heap.IsTuple l vs.toArray) (hS:StrsAre vs ss) (p:vs.length < 64) (h:∀(out:Array ap) (i:List Str),StrsAre out.toList i->i.Perm ss->sortedS i=au->Q (.ref (s.heap.objs.size+1)) { s with heap:=sortedAll s.heap vs out }) :
   wpAny (model prog w) A (call (.builtin "sorted") [.ref l]) Q E s:=by
 refine b8Q kind_sorted plain_sorted entry_sorted (args_sorted1 _) ?_;unfold Builtin.«sorted»;refine zZ (m:=checkCount "sorted" 1 1 _) (zY ?_);refine zZ (PY (.inr c) ?_ (by rw[cN];lia));refine zZ (g8 ?_ (by rw[cN];lia));have hsz:((s.heap.push (cw "list" #[] 0)).update s.heap.objs.size (a7J (·++vs.toArray))).objs.size=s.heap.objs.size+1:=by rw[Heap.size_update,size_push']
 have t:(((s.heap.push (cw "list" #[] 0)).update s.heap.objs.size (a7J (·++vs.toArray))).push (cw "list" vs.toArray 0)).get? (s.heap.objs.size+1)=ak (cw "list" vs.toArray 0):=by rw[<-hsz];exact yZ _ rfl
 show wpAny _ _ _ _ _ { s with heap:=((s.heap.push (cw "list" #[] 0)).update s.heap.objs.size (a7J (·++vs.toArray))).push (cw "list" vs.toArray 0) };rw[hsz];refine zZ (bt (ce slot_list_sort #[_,t,rfl] entry_list_sort (list_sort_treeK strKind_oneLt t hS.keysOf (λL n rest e=>keyKind_strs (by rw[<-e];exact hS)) p λg r f=>#[_,rfl,?_]) (args_list_sort _)));obtain⟨i,h1,b,G⟩:=sorted_out_str hS r f;exact zY #[_,rfl,h _ i h1 b G]
end
section
def X3 (K:Frg):List V->Hp->VK->Prop:=λt H Q=>∃(p:Addr) (e:List Str),t=[.ref p]/\SqT K H p (e.map V.str)/\e.length < 64/\∀(i:List Str) (q:Addr),i.Perm e->sortedS i=au->H q=am->Q (.ref q) (upd H q (.lst (i.map V.str)))
theorem aD:D9 X (.builtin "sorted") (X3 X.K):=by intro pins s z H y x Q I r h;obtain⟨p,v,rfl,hp,m,q⟩:=h;obtain⟨u,rfl,T⟩:=JB r;cases T;obtain⟨t,S,Y,j⟩:=I.tuple hp;have hS:=QG S;have c:=S.length;rw[zX] at c;refine X2 Y hS (by lia) λout i h1 n G=>?_;obtain⟨e,he⟩:=sortedAll_at s.heap t out;have hn:H (s.heap.objs.size+1)=none:=I.hok.fresh (a5Z _);have k:=n.length_eq;refine#[.ref (s.heap.objs.size+1),_,I.laid (t':=s.toks) (o:=.lst (i.map V.str)) (λb o g=>sortedAll_old g) (a5Z _) ?_,rfl,q i _ n G hn];refine#[by rw[zX,k];exact zN (xR m) `kh,out.toList,e,gH h1,?_];have f:=he;simpa [cw] using f
end
end L2
namespace DL
open PySem PySem.Spec L2
section
variable {X:Cx}{K:Frg}
theorem A0C (h:X.K=K):D9 X (.builtin "sorted") (X3 K):=h▸aD
end
section
theorem l6 (t:ss.length < 64) (q:∀i:List Str,i.Perm ss->xG i=au->Q (.d (.list (i.map .str))) M):DR K (X3 K) [.d (.tuple (ss.map .str))] M Q:=λH m QQ z s k=>by obtain⟨v,r,rfl,h1,n⟩:=s;cases n;unfold SI DV at h1;obtain⟨a,m,rfl,e,hd⟩:=h1;rw[H0 hd] at e;refine#[a,ss,rfl,e.sq,t,λi p hp hs hn=>?_];have g:Grow K M.W M.W H (upd H p (.lst (i.map V.str))):=AZ _ hn;refine k _ _ (.d (.list (i.map .str))) M (z.new hn) ?_ #[g] (q i hp hs);unfold SI DV;exact#[p,_,rfl,.inl #[λw=>w (z.none hn),.inl AF],GD]
end
end DL
namespace DL
open PySem PySem.Spec L2 XC
def e9 (a:Str):List Str->List Str
 | []=>[a]
 | b::r=>if sl b a then b::e9 a r else a::b::r
def BU:List Str->List Str
 | []=>[]
 | a::r=>e9 a (BU r)
theorem OY (a:Str):∀l:List Str,(e9 a l).Perm (a::l)
 | []=>.refl _
 | b::r=>by
   unfold e9;split;. exact((OY a r).cons b).trans (List.Perm.swap a b r)
   . exact .refl _
theorem AR:∀l:List Str,(BU l).Perm l
 | []=>.refl _
 | a::r=>(OY a (BU r)).trans ((AR r).cons a)
abbrev Pl:=Sum Int Str
abbrev Ent:=Pl×List Str×Int
def plE:Pl->PyData | .inl p=>.int p | .inr n=>.str n
def AO (l:List Str):PyData:=.tuple (l.map .str)
def DY (e:Ent):PyData:=.tuple [plE e.1,AO e.2.1,.int e.2.2]
def lfE (t:Str×Ent):PyData:=.tuple [.str t.1,plE t.2.1,AO t.2.2.1,.int t.2.2.2]
structure Eff where
 st:List Str
 fr:List Str
 lf:List (Str×Ent)
def Eff.d (E:Eff):PyData:=.tuple [AO E.st,AO E.fr,.tuple (E.lf.map lfE)]
def efO (o:Option Eff):PyData:=match o with | some E=>E.d | none=>.none
def U3 (ts:List (Str×Ent)):MO:=.d (AG (ts.map λt=>(t.1,DY t.2)))
def AC:List (Str×Ent)->Str->Option Ent
 | [],_=>am
 | t::r,k=>if t.1=k then ak t.2 else AC r k
section
variable {M:Own}{Q:DS->Own->Prop}
theorem i6 :∀{l:List Str},l.Pairwise (λx y=>sl y x=aB)->(e9 a l).Pairwise λx y=>sl y x=aB
 | [],_=>by simp[e9]
 | b::r,h=>by
   have n:=h;rw[a5X] at h;unfold e9;split
   . rename_i hb;rw[a5X];refine#[λy hy=>?_,i6 h.2];rcases yX.mp ((OY a r).mem_iff.mp hy) with rfl | q;. exact RO hb
     . exact h.1 y q
   . rename_i hb;rw[a5X];refine#[λy hy=>?_,n];have i:sl b a=false:=by simpa using hb
     rcases yX.mp hy with rfl | q;. exact i
     . cases hya:sl y a with
       | false=>rfl
       | true=>
         have O:=h.1 y q;exfalso;cases hby:sl b y with
         | true=>rw[NE hby hya] at i;cases i
         | false=>rw[FE hby O] at i;rw[i] at hya;cases hya
theorem L6:∀l:List Str,(BU l).Pairwise λx y=>sl y x=aB
 | []=>a8X
 | a::r=>i6 (L6 r)
theorem i7 (hp:ss.Perm l) (hs:xG ss=au):ss=BU l:=(hp.trans (AR l).symm).eq_of_pairwise (le:=λx y=>sl y x=aB) (λa b _ _ h1 n=>FE n h1) (V3 _ hs) (L6 l)
theorem VI (h:a.Perm b):BU a=BU b:=((AR a).trans (h.trans (AR b).symm)).eq_of_pairwise (le:=λx y=>sl y x=aB) (λa b _ _ h1 n=>FE n h1) (L6 a) (L6 b)
theorem A0D (h:l.Pairwise λx y=>sl y x=aB):BU l=l:=(AR l).eq_of_pairwise (le:=λx y=>sl y x=aB) (λa b _ _ h1 n=>FE n h1) (L6 l) h
def D6 (ts:List (Str×Ent)) (n:Str):Bool:=(AC ts n).isSome
def B6 (one other:Eff):Bool:=(other.st.any λn=>decide (n∈one.st++one.fr)&&!D6 one.lf n)||other.fr.any (D6 one.lf)
def AQ (one other:Eff):List Str:=one.st++other.st.filter λn=>!decide (n∈one.st++one.fr)
def D5 (one other:Eff):List Str:=one.fr++other.fr.filter λn=>!decide (n∈one.st++one.fr)
def NT (n:Str):Str×Ent:=(n,.inr n,[n],0)
def BJ (one other:Eff):List (Str×Ent):=one.lf++(other.st.filter λn=>!decide (n∈one.st++one.fr)).map NT
def AI (ts:List (Str×Ent)) (n:Str):Ent:=(AC ts n).getD (.inr n,[n],0)
def BD (ts:List (Str×Ent)) (e:Ent):Ent:=(match e.1 with | .inl p=>.inl p | .inr n=>(AI ts n).1,BU (e.2.1.flatMap λn=>(AI ts n).2.1),e.2.2+(e.2.1.map λn=>(AI ts n).2.2).sum)
def BZ (ts:List (Str×Ent)) (n:Str) (e:Ent):List (Str×Ent):=if D6 ts n=au then ts.map (λt=>if t.1=n then (t.1,e) else t) else ts++[(n,e)]
def DU (one other:Eff):List (Str×Ent):=other.lf.foldl (λe t=>BZ e t.1 (BD (BJ one other) t.2)) ((BJ one other).filter λt=>!decide (t.1∈other.st))
def DF (ts:List (Str×Ent)):List (Str×Ent):=(BU (ts.map (·.1))).map λn=>(n,AI ts n)
def B9 (one other:Eff):Option Eff:=if B6 one other=au then am else ak #[BU (AQ one other),BU (D5 one other),DF (DU one other)]
def AD:Deed->Eff
 | .put x p k=>#[[],[x],[(x,.inl p,[],k)]]
 | .take x=>#[[x],[],[]]
 | .move x p=>#[[x],[],[(x,.inl p,[x],0)]]
 | .count x k=>#[[x],[],[(x,.inr x,[x],k)]]
 | .name x y=>#[[x],[y],[(y,.inr x,[x],0)]]
 | .split x y p k=>#[[x],[y],DF [(x,.inr x,[x],-k),(y,.inl p,[],k)]]
 | .join x y=>#[BU [x,y],[],[(x,.inr x,BU [x,y],0)]]
def AX (Ds:List Deed):Option Eff:=Ds.foldl (λo D=>o.bind λE=>B9 E (AD D)) (ak #[[],[],[]])
structure OkE (ys:List Str) (E:Eff):Prop where
 st:E.st.Nodup/\∀n∈E.st,n∈ys
 fr:E.fr.Nodup/\∀n∈E.fr,n∈ys
 apart:∀n∈E.st,n∉E.fr
 keys:(E.lf.map (·.1)).Nodup
 known:∀t∈E.lf,t.1∈E.st++E.fr
 from_:∀t∈E.lf,t.2.2.1.Nodup/\∀n∈t.2.2.1,n∈E.st
 place:∀t∈E.lf,∀n,t.2.1 = .inr n->n∈E.st
 dis:(E.lf.flatMap λt=>t.2.2.1).Nodup
def EG:FSp:=#[λt M=>∃l:List Str,t=[.d (AO l)]/\l.length < 64,λt M y i=>∀l:List Str,t=[.d (AO l)]->y = .d (AO (BU l))/\i=M]
theorem EJ (h:l.length < 64) (q:Q (.d (AO (BU l))) M):[DS.d (AO l)].length=1/\EG.pre [.d (AO l)] M/\∀x i,EG.post [.d (AO l)] M x i->Q x i:=#[rfl,#[l,rfl,h],λx i e=>by obtain⟨rfl,rfl⟩:=e l rfl;exact q]
def IS:FSp:=#[λt M=>∃E:Eff,t=[.d E.d]/\(E.lf.map (·.1)).Nodup/\E.lf.length<=60,λt M y i=>∀E:Eff,t=[.d E.d]->∃p,M p=am/\y = .loc p/\i=M.put p (U3 E.lf)]
def clX (one other:Eff) (p:Addr):List DS:=[.d one.d,.loc p,.d other.d]
def HN:FSp:=#[λt M=>∃(e:List Str) (one other:Eff) (p:Addr),t=clX one other p/\M p=ak (U3 one.lf)/\OkE e one/\OkE e other/\namesOK e,λt M y i=>∀(one other:Eff) (p:Addr),t=clX one other p->y = .d (.bool (B6 one other))/\i=M]
def aE (ts:List (Str×Ent)):PyData:=.dict (AG (ts.map λt:Str×Ent=>(t.1,DY t.2)))
def taX (ts:List (Str×Ent)) (e:Ent):List DS:=[.d (aE ts),.d (plE e.1),.d (AO e.2.1),.d (.int e.2.2)]
def K4:FSp:=#[λi M=>∃(t:List (Str×Ent)) (e:Ent),i=taX t e/\(∀n∈e.2.1,D6 t n=au)/\(∀n,e.1 = .inr n->D6 t n=au)/\(e.2.1.flatMap λn=>(AI t n).2.1).length < 64,λi M y r=>∀(t:List (Str×Ent)) (e:Ent),i=taX t e->y = .d (DY (BD t e))/\r=M]
def HP:FSp:=#[λt M=>∃D:Deed,t=[.d D.d]/\D.real,λt M y i=>∀D:Deed,t=[.d D.d]->y = .d (AD D).d/\i=M]
def IT:FSp:=#[λt M=>∃(p:List Str) (one other:Eff),t=[.d one.d,.d other.d]/\OkE p one/\OkE p other/\namesOK p,λt M y i=>∀one other:Eff,t=[.d one.d,.d other.d]->y = .d (efO (B9 one other))/\i=M]
def IU:FSp:=#[λt M=>∃(p:List Str) (e:List Deed),t=[.d (.tuple (e.map Deed.d))]/\namesOK p/\(∀D∈e,deed18 p D)/\e.length<=60,λt M y i=>∀e:List Deed,t=[.d (.tuple (e.map Deed.d))]->y = .d (efO (AX e))/\i=M]
def HQ:FSp:=#[λt M=>∃c:Int,t=[.d (.int c)],λt M y i=>y = .d (.bool au)/\i=M]
end
def nmE:PyData->Str | .tuple (.str n::_)=>n | _=>#[#[]]
def vlE:PyData->PyData | .tuple (_::r)=>.tuple r | d=>d
theorem X4 (h:plE a=plE b):a=b:=by cases a <;> cases b <;> simp_all [plE]
theorem FL (h:AO a=AO b):a=b:=JW (PyData.tuple.inj h)
theorem A0E (h:lfE a=lfE b):a=b:=by obtain⟨n,p,f,k⟩:=a;obtain⟨I,x,t,i⟩:=b;simp only[lfE,PyData.tuple.injEq,List.cons.injEq,PyData.str.injEq,PyData.int.injEq,and_true] at h;obtain⟨rfl,e,G,rfl⟩:=h;obtain rfl:=X4 e;obtain rfl:=FL G;rfl
theorem OZ {D:Type}{f:D->PyData}(M:∀{a b},f a=f b->a=b):∀{l r:List D},l.map f=r.map f->l=r
 | [],[],_=>rfl
 | [],_::_,h=>by cases h
 | _::_,[],h=>by cases h
 | a::l,b::r,h=>by simp only[zI,List.cons.injEq] at h;rw[M h.1,OZ M h.2]
theorem F5 {a:Eff}(h:a.d=b.d):a=b:=by obtain⟨s,f,l⟩:=a;obtain⟨s',e,r⟩:=b;simp only[Eff.d,PyData.tuple.injEq,List.cons.injEq,and_true] at h;obtain⟨h1,n,G⟩:=h;obtain rfl:=FL h1;obtain rfl:=FL n;obtain rfl:=OZ A0E G;rfl
theorem rX (h:DY a=DY b):a=b:=by obtain⟨p,f,k⟩:=a;obtain⟨x,e,t⟩:=b;simp only[DY,PyData.tuple.injEq,List.cons.injEq,PyData.int.injEq,and_true] at h;obtain⟨n,G,rfl⟩:=h;obtain rfl:=X4 n;obtain rfl:=FL G;rfl
theorem rY (h:U3 a=U3 b):a=b:=by
 have h1:AG (a.map λt=>(t.1,DY t.2))=AG (b.map λt=>(t.1,DY t.2)):=MO.d.inj h;clear h;induction a generalizing b with
 | nil=>cases b with | nil=>rfl | cons _ _=>cases h1
 | cons x r Q=>cases b with
   | nil=>cases h1
   | cons y s=> simp only[AG,zI,List.cons.injEq,Prod.mk.injEq,PyData.str.injEq] at h1;rw[Q (b:=s) (by simpa [AG] using h1.2)];obtain⟨N,e⟩:=x;obtain⟨O,D⟩:=y;obtain⟨⟨j,g⟩,_⟩:=h1;simp only at j g;rw[j,rX g]
theorem HR (n:Str):∀ts:List (Str×Ent),B3 (ts.map λt=>(t.1,DY t.2)) n=(AC ts n).map DY
 | []=>rfl
 | t::r=>by
   show(if t.1=n then ak (DY t.2) else B3 (r.map λt=>(t.1,DY t.2)) n)=(if t.1=n then ak t.2 else AC r n).map DY;split;. rfl
   . exact HR n r
theorem aF {E:Eff}{Q:DS->Own->Prop}(h:(E.lf.map (·.1)).Nodup) (r:E.lf.length<=60) (q:∀p,M p=am->Q (.loc p) (M.put p (U3 E.lf))):[DS.d E.d].length=1/\IS.pre [.d E.d] M/\∀x i,IS.post [.d E.d] M x i->Q x i:=#[rfl,#[E,rfl,h,r],λx i e=>by obtain⟨p,h1,rfl,rfl⟩:=e E rfl;exact q p h1]
theorem E6 {l:List Str}(hn:namesOK ys) (h:l.Nodup/\∀n∈l,n∈ys):l.length<=26:=zN (K3 h.1 h.2) hn.2.2
theorem rZ (hn:namesOK ys) (h:OkE ys E):E.lf.length<=52:=by
 have h1:=E6 hn h.st;have n:=E6 hn h.fr;have:=K3 (ys:=E.st++E.fr) h.keys λz u=>by obtain⟨t,e,rfl⟩:=zL.mp u;exact h.known t e
 rw[zX,yY] at this;lia
def msT (f:List Str) (ts:List (Str×Ent)):PyData->Bool | .str n=>decide (n∈f)&&!D6 ts n | _=>aB
def wyT (ts:List (Str×Ent)):PyData->Bool | .str n=>D6 ts n | _=>aB
theorem A3S (f l:List Str) (ts:List (Str×Ent)):(((l.map a0Z).filter (msT f ts)).map id).length=(l.filter λn=>decide (n∈f)&&!D6 ts n).length:=by rw[a9W,xU,zX];rfl
theorem A3T (l:List Str) (ts:List (Str×Ent)):(((l.map a0Z).filter (wyT ts)).map id).length=(l.filter (D6 ts)).length:=by rw[a9W,xU,zX];rfl
theorem i8 {D:Type}(p:D->Bool) (l:List D):decide ((0:Int) < ((l.filter p).length:Int))=l.any p:=by
 rw[a1K,decide_eq_true_iff,a9Q];constructor
 . intro h;have:0 < (l.filter p).length:=by lia
   obtain⟨a,e⟩:=List.exists_mem_of_length_pos this;exact#[a,yL.mp e]
 . rintro⟨a,h1,n⟩;have:=List.length_pos_of_mem (yL.mpr #[h1,n]);lia
theorem sC :n∈ts.map (·.1)->∃v,AC ts n=ak v:=by
 induction ts with
 | nil=>intro h;cases h
 | cons t r Q=>
   intro h;show ∃v,(if t.1=n then ak t.2 else AC r n)=ak v;by_cases e:t.1=n;. rw[if_pos e];exact#[_,rfl]
   . rw[if_neg e];rcases yX.mp h with q | q;. exact absurd q.symm e
     . exact Q q
def sD (ts:List (Str×Ent)):PyData->PyData | .str n=>lfE (n,AI ts n) | d=>d
theorem l7 (ts:List (Str×Ent)) (ss:List Str):(ss.map a0Z).map (sD ts)=(ss.map λn=>(n,AI ts n)).map lfE:=by rw[zD,zD];rfl
theorem OkE.nil (ys:List Str):OkE ys #[[],[],[]]:=#[#[a8X,(λn h=>nomatch h)],#[a8X,(λn h=>nomatch h)],(λn h=>nomatch h),a8X,(λn h=>nomatch h),(λn h=>nomatch h),(λn h=>nomatch h),a8X]
theorem NU (h:AX A=ak E):AX (A++[D])=B9 E (AD D):=by unfold AX at h ⊢;rw[a6Z,h];rfl
theorem l9 (B:List Deed):B.foldl (λo D=>o.bind λE=>B9 E (AD D)) (am:Option Eff)=none:=by
 induction B with
 | nil=>rfl
 | cons D r Q=>exact Q
theorem aG (h:AX (Ds.take k)=am):AX Ds=none:=by have e:Ds=Ds.take k++Ds.drop k:=(b1K k Ds).symm;unfold AX at h ⊢;rw[e,a6Z,h];exact l9 _
theorem i9 (h:efO a=efO b):a=b:=by
 cases a <;> cases b;. rfl
 . cases h
 . cases h
 . rw[F5 h]
theorem ES {a:List Deed}(h:[DS.d (.tuple (a.map Deed.d))]=[.d (.tuple (b.map Deed.d))]):a=b:=by simp only[List.cons.injEq,DS.d.injEq,PyData.tuple.injEq,and_true] at h;exact OZ BW h
theorem eB {Q:DS->Own->Prop}(h:D.real) (q:Q (.d (AD D).d) M):[DS.d D.d].length=1/\HP.pre [.d D.d] M/\∀x i,HP.post [.d D.d] M x i->Q x i:=#[rfl,#[D,rfl,h],λx i e=>by obtain⟨rfl,rfl⟩:=e D rfl;exact q]
theorem aH {Q:DS->Own->Prop}(h1:OkE ys one) (n:OkE ys other) (hn:namesOK ys) (q:Q (.d (efO (B9 one other))) M):[DS.d one.d,.d other.d].length=2/\IT.pre [.d one.d,.d other.d] M/\∀x i,IT.post [.d one.d,.d other.d] M x i->Q x i:=#[rfl,#[ys,one,other,rfl,h1,n,hn],λx i e=>by obtain⟨rfl,rfl⟩:=e one other rfl;exact q]
theorem QT (nd:(ts.map (·.1)).Nodup) (n:t∈ts):AC ts t.1=ak t.2:=by
 induction ts with
 | nil=>cases n
 | cons a r Q=>
   show(if a.1=t.1 then ak a.2 else AC r t.1)=ak t.2;rw[zI,xV] at nd;rcases yX.mp n with rfl | q;. rw[if_pos rfl]
   . rw[if_neg λe=>nd.1 (by rw[e];exact zL.mpr #[t,q,rfl])];exact Q nd.2 q
theorem sE (nd:(ts.map (·.1)).Nodup) :t∈DF ts->t∈ts:=by intro h;obtain⟨n,hn,rfl⟩:=zL.mp h;have hn:=(AR _).mem_iff.mp hn;obtain⟨s,hs,rfl⟩:=zL.mp hn;have:=QT nd hs;unfold AI;rw[this];exact hs
theorem HS (nd:(ts.map (·.1)).Nodup):(DF ts).Perm ts:=by
 have e:ts=(ts.map (·.1)).map λn=>(n,AI ts n):=by
   rw[zD];have:∀t∈ts,t=((λn=>(n,AI ts n))∘λt:Str×Ent=>t.1) t:=λt i=>by
     have h1:(t.1,AI ts t.1)∈DF ts:=zL.mpr #[t.1,(AR _).mem_iff.mpr (zL.mpr #[t,i,rfl]),rfl];have m:=sE nd h1;have key:∀{ts:List (Str×Ent)},(ts.map (·.1)).Nodup->∀{a b:Str×Ent},a∈ts->b∈ts->a.1=b.1->a=b:=by
       intro ts;induction ts with
       | nil=>intro _ a b h;cases h
       | cons c r Q=>
         intro nd a b h hb J;rw[zI,xV] at nd;rcases yX.mp h with rfl | ha2 <;> rcases yX.mp hb with rfl | hb2;. rfl
         . exact absurd (show a.1∈r.map (·.1) from zL.mpr #[b,hb2,J.symm]) nd.1
         . exact absurd (show b.1∈r.map (·.1) from zL.mpr #[a,ha2,J]) nd.1
         . exact Q nd.2 ha2 hb2 J
     exact key nd i m rfl
   conv=>lhs;rw[<-a9W ts]
   exact yM this
 conv=>rhs;rw[e]
 exact(AR _).map _
theorem OkE.deed (hn:namesOK ys) (h:deed18 ys D):OkE ys (AD D):=by
 have hx:=h.2;have m:=h.1.2.1;cases D with
 | put x p k=> have:=hx x `jj;refine#[#[by simp[AD],by simp[AD]],#[by simp[AD],by simpa [AD] using this],by simp[AD],by simp[AD],by simp[AD],by simp[AD],by simp[AD],by simp[AD]]
 | take x=> have:=hx x `jj;refine#[#[by simp[AD],by simpa [AD] using this],#[by simp[AD],by simp[AD]],by simp[AD],by simp[AD],by simp[AD],by simp[AD],by simp[AD],by simp[AD]]
 | move x p=> have:=hx x `jj;refine#[#[by simp[AD],by simpa [AD] using this],#[by simp[AD],by simp[AD]],by simp[AD],by simp[AD],by simp[AD],by simp[AD],by simp[AD],by simp[AD]]
 | count x k=> have:=hx x `jj;refine#[#[by simp[AD],by simpa [AD] using this],#[by simp[AD],by simp[AD]],by simp[AD],by simp[AD],by simp[AD],by simp[AD],by simp[AD],by simp[AD]]
 | name x y=> have h1:=hx x `jj;have r:=hx y `jj;have O:x≠y:=m;refine#[#[by simp[AD],by simpa [AD] using h1],#[by simp[AD],by simpa [AD] using r],by simpa [AD] using O,by simp[AD],by simp[AD],by simp[AD],by simp[AD],by simp[AD]]
 | split x y p k=>
   have h1:=hx x `jj;have r:=hx y `jj;have O:x≠y:=m;have nd:([(x,((.inr x,[x],-k):Ent)),(y,.inl p,[],k)].map (·.1)).Nodup:=by simpa using O
   have c:=HS nd;have b:∀t∈DF [(x,((.inr x,[x],-k):Ent)),(y,.inl p,[],k)],t=(x,.inr x,[x],-k)\/t=(y,.inl p,[],k):=λt i=>by simpa using c.mem_iff.mp i
   refine#[#[by simp[AD],by simpa [AD] using h1],#[by simp[AD],by simpa [AD] using r],by simpa [AD] using O,((c.map (·.1)).nodup_iff).mpr nd,λt i=>?_,λt i=>?_,λt i n e=>?_,?_];. rcases b t i with rfl | rfl <;> simp[AD]
   . rcases b t i with rfl | rfl <;> simp[AD]
   . rcases b t i with rfl | rfl <;> simp_all [AD]
   . exact((c.flatMap_right _).nodup_iff).mpr (by simp)
 | join x y=>
   have h1:=hx x `jj;have r:=hx y `jj;have O:x≠y:=m;have hp:=AR [x,y];have nd:(BU [x,y]).Nodup:=hp.nodup_iff.mpr (by simpa using O);have q:∀n,n∈BU [x,y]↔n=x\/n=y:=λn=>by rw[hp.mem_iff];simp
   refine#[#[nd,λn J=>?_],#[by simp[AD],by simp[AD]],by simp[AD],by simp[AD],by simp[AD,q],by simpa [AD] using nd,by simp[AD,q],by simpa [AD] using nd];rcases (q n).mp J with rfl | rfl;. exact h1
   . exact r
abbrev LL (ts:List (Str×Ent)):List (Str×PyData):=ts.map λt:Str×Ent=>(t.1,DY t.2)
theorem CB :D6 ts n=au↔n∈ts.map (·.1):=by
 induction ts with
 | nil=>simp[D6,AC]
 | cons t r Q=>
   show((if t.1=n then ak t.2 else AC r n).isSome=au)↔_;by_cases e:t.1=n;. rw[if_pos e];simp[e]
   . rw[if_neg e];rw[zI,yX,<-Q];exact#[λh=>.inr h,λh=>h.elim (λq=>absurd q.symm e) id]
theorem iA (ts:List (Str×Ent)) (n:Str) (e:Ent):G6 (LL ts) n (DY e)=LL (BZ ts n e):=by
 unfold G6 BZ LL;have h:((ts.map λt:Str×Ent=>(t.1,DY t.2)).any λt=>decide (t.1=n))=D6 ts n:=by
   rw[a1K,CB,a9Q];constructor;. rintro⟨t,h1,i⟩;obtain⟨s,G,rfl⟩:=zL.mp h1;exact zL.mpr #[s,G,of_decide_eq_true i]
   . intro q;obtain⟨s,G,r⟩:=zL.mp q;exact#[_,zL.mpr #[s,G,rfl],decide_eq_true r]
 rw[h];split;. rw[zD,zD];refine yM λt m=>?_;show(if t.1=n then (t.1,DY e) else (t.1,DY t.2))=((if t.1=n then (t.1,e) else t).1,DY (if t.1=n then (t.1,e) else t).2);split <;> rfl
 . rw[xI];rfl
theorem lA (h:n∉ts.map (·.1)):BZ ts n e=ts++[(n,e)]:=by unfold BZ;rw[if_neg λq=>h (CB.mp q)]
theorem A0F (ts:List (Str×Ent)) (n:Str) (e:Ent):(BZ ts n e).length<=ts.length+1:=by
 unfold BZ;split;. rw[zX];lia
 . rw[yY];exact zR _
def P0 (one:Eff) (l:List Str):List Str:=l.filter λn=>!decide (n∈one.st++one.fr)
theorem A3U :P0 one one.st=[]:=List.filter_eq_nil_iff.mpr λn hn=>by simp[hn]
theorem K5 (h1:OkE ys one) (e:OkE ys other) (hc:B6 one other=aB) (hn:n∈other.st):D6 (BJ one other) n=true:=by
 unfold B6 at hc;rw[Bool.or_eq_false_iff] at hc;have h:=List.any_eq_false.mp hc.1 n hn;rw[CB];unfold BJ;rw[xI,yW];by_cases hk:n∈one.st++one.fr;. refine .inl (CB.mp ?_);rw[decide_eq_true hk,b6Q] at h;simpa using h
 . refine .inr ?_;rw[zD];exact zL.mpr #[n,yL.mpr #[hn,by simp[hk]],rfl]
theorem NV (h1:OkE ys one) (i:OkE ys other):((BJ one other).map (·.1)).Nodup:=by
 unfold BJ;rw[xI];have e:((other.st.filter λn=>!decide (n∈one.st++one.fr)).map NT).map (·.1)=other.st.filter λn=>!decide (n∈one.st++one.fr):=by rw[zD];exact a9W _
 rw[e];refine List.nodup_append.mpr #[h1.keys,i.st.1.sublist a4W,λa h b hb q=>?_];subst q;obtain⟨t,r,rfl⟩:=zL.mp h;have:=(yL.mp hb).2;simp[h1.known t r] at this
theorem L7 {ts:List (Str×Ent)}(h:(ts.flatMap λt=>t.2.2.1).Nodup) (hs:s∈ts) (n:t∈ts) (O:s.1≠t.1):∀x∈s.2.2.1,∀y∈t.2.2.1,x≠y:=by
 have hp:=(List.pairwise_flatMap.mp h).2;obtain⟨i,hi,rfl⟩:=List.mem_iff_getElem.mp hs;obtain⟨j,u,rfl⟩:=List.mem_iff_getElem.mp n;rcases b9J i j with q | q | q;. exact List.pairwise_iff_getElem.mp hp i j hi u q
 . subst q;exact absurd rfl O
 . exact λx hx y hy e=>List.pairwise_iff_getElem.mp hp j i u hi q y hy x hx e.symm
theorem MP (h:D6 ts n=au):(n,AI ts n)∈ts:=by
 induction ts with
 | nil=>cases h
 | cons a r Q=>
   unfold AI;have b:(if a.1=n then ak a.2 else AC r n).isSome=true:=h;show(n,(if a.1=n then ak a.2 else AC r n).getD (.inr n,[n],0))∈a::r;by_cases e:a.1=n;. rw[if_pos e];subst e;exact a0J
   . rw[if_neg e] at b ⊢;exact yV _ (Q b)
theorem X5 (hd:(ts.flatMap λt=>t.2.2.1).Nodup) {l:List Str}(r:l.Nodup) (hh:∀n∈l,D6 ts n=au):(l.flatMap λn=>(AI ts n).2.1).Nodup:=by refine List.pairwise_flatMap.mpr #[λn hn=>(List.pairwise_flatMap.mp hd).1 _ (MP (hh n hn)),?_];refine List.pairwise_iff_getElem.mpr λi j hi u p=>?_;have O:=List.pairwise_iff_getElem.mp r i j hi u p;exact L7 hd (MP (hh _ (a1V hi))) (MP (hh _ (a1V u))) O
theorem iB (h1:OkE ys one) (i:OkE ys other):((BJ one other).flatMap λt=>t.2.2.1).Nodup:=by
 unfold BJ;rw[b0K];have e:((other.st.filter λn=>!decide (n∈one.st++one.fr)).map NT).flatMap (λt=>t.2.2.1)=other.st.filter λn=>!decide (n∈one.st++one.fr):=by
   have X:∀l:List Str,(l.map NT).flatMap (λt=>t.2.2.1)=l:=by
     intro l;induction l with
     | nil=>rfl
     | cons a r Q=>rw[zI,b0X,Q];rfl
   exact X _
 rw[e];refine List.nodup_append.mpr #[h1.dis,i.st.1.sublist a4W,λa h b hb q=>?_];subst q;obtain⟨t,m,G⟩:=List.mem_flatMap.mp h;have hs:=(h1.from_ t m).2 a G;have:=(yL.mp hb).2;simp[hs] at this
theorem aI (h1:OkE ys one) (i:OkE ys other):∀t∈BJ one other,∀n∈t.2.2.1,n∈AQ one other:=λt e n hn=>by
 unfold BJ at e;unfold AQ;rcases yW.mp e with q | q;. exact zA _ ((h1.from_ t q).2 n hn)
 . obtain⟨z,u,rfl⟩:=zL.mp q;have:n=z:=by simpa [NT] using hn
   subst this;exact zB _ u
theorem sF (hn:namesOK ys) (h1:OkE ys one) (e:OkE ys other) (hc:B6 one other=aB) (r:t∈other.lf):(t.2.2.1.flatMap λn=>(AI (BJ one other) n).2.1).length < 64:=by
 have i:∀n∈t.2.2.1,D6 (BJ one other) n=true:=λn J=>K5 h1 e hc ((e.from_ t r).2 n J);have nd:=X5 (iB h1 e) (e.from_ t r).1 i;have:=E6 hn #[nd,λz u=>by
   obtain⟨n,J,u⟩:=List.mem_flatMap.mp u;have:=aI h1 e _ (MP (i n J)) z u;unfold AQ at this;rcases yW.mp this with q | q;. exact h1.st.2 z q
   . exact e.st.2 z (yL.mp q).1];lia
theorem SH :(BZ ts n e).map (·.1)=if D6 ts n=au then ts.map (·.1) else ts.map (·.1)++[n]:=by
 unfold BZ;split;. rw[zD];refine yM λt i=>?_;show(if t.1=n then (t.1,e) else t).1=t.1;split <;> rfl
 . rw[xI];rfl
theorem sG (h:(ts.map (·.1)).Nodup):((BZ ts n e).map (·.1)).Nodup:=by
 rw[SH];split;. exact h
 . rename_i hn;refine List.nodup_append.mpr #[h,by simp,λa t b hb q=>?_];subst q;rw[List.mem_singleton.mp hb] at t;exact hn (CB.mpr t)
theorem HU (h1:OkE ys one) (n:OkE ys other):((DU one other).map (·.1)).Nodup:=by
 unfold DU;have X:∀(l e:List (Str×Ent)),(e.map (·.1)).Nodup->((l.foldl (λe t=>BZ e t.1 (BD (BJ one other) t.2)) e).map (·.1)).Nodup:=by
   intro l;induction l with
   | nil=>intro e h;exact h
   | cons t r Q=>intro e h;exact Q _ (sG h)
 exact X _ _ ((NV h1 n).sublist (List.filter_sublist.map _))
theorem A0G (h1:OkE ys one) (i:OkE ys other):∀n∈(DU one other).map (·.1),n∈ys:=by
 unfold DU;have X:∀(l e:List (Str×Ent)),(∀t∈l,t.1∈ys)->(∀n∈e.map (·.1),n∈ys)->∀n∈(l.foldl (λe t=>BZ e t.1 (BD (BJ one other) t.2)) e).map (·.1),n∈ys:=by
   intro l;induction l with
   | nil=>intro e _ h;exact h
   | cons t r Q=>
     intro e p h;refine Q _ (λs hs=>p s (yV _ hs)) λn hn=>?_;have hn:n∈(BZ e t.1 (BD (BJ one other) t.2)).map (·.1):=hn;rw[SH] at hn;split at hn;. exact h n hn
     . rcases yW.mp hn with q | q;. exact h n q
       . rw[List.mem_singleton.mp q];exact p t (by simp)
 refine X _ _ (λt m=>(yW.mp (i.known t m)).elim (i.st.2 _) (i.fr.2 _)) λn hn=>?_;have hn:=(List.filter_sublist.map _).subset hn;unfold BJ at hn;rw[xI] at hn;rcases yW.mp hn with q | q;. obtain⟨t,m,rfl⟩:=zL.mp q;exact(yW.mp (h1.known t m)).elim (h1.st.2 _) (h1.fr.2 _)
 . rw[zD] at q;obtain⟨z,u,rfl⟩:=zL.mp q;exact i.st.2 z (yL.mp u).1
theorem lB (one other:Eff):P0 one (AQ one other)=other.st.filter λn=>!decide (n∈one.st++one.fr):=by unfold AQ;rw[show P0 one (one.st++other.st.filter λn=>!decide (n∈one.st++one.fr))=P0 one one.st++P0 one (other.st.filter λn=>!decide (n∈one.st++one.fr)) from b8Z ..,A3U,List.nil_append];unfold P0;rw[List.filter_filter];congr 1;funext n;simp
theorem NW (h1:OkE ys one) (t:OkE ys other):(AQ one other).Nodup/\∀n∈AQ one other,n∈ys:=by
 unfold AQ;refine#[List.nodup_append.mpr #[h1.st.1,t.st.1.sublist a4W,λa h b hb e=>?_],λn hn=>?_];. subst e;have:=(yL.mp hb).2;simp[h] at this
 . rcases yW.mp hn with q | q;. exact h1.st.2 n q
   . exact t.st.2 n (yL.mp q).1
theorem iC (h1:OkE ys one) (t:OkE ys other):(D5 one other).Nodup/\∀n∈D5 one other,n∈ys:=by
 unfold D5;refine#[List.nodup_append.mpr #[h1.fr.1,t.fr.1.sublist a4W,λa h b hb e=>?_],λn hn=>?_];. subst e;have:=(yL.mp hb).2;simp[h] at this
 . rcases yW.mp hn with q | q;. exact h1.fr.2 n q
   . exact t.fr.2 n (yL.mp q).1
theorem sH (h1:OkE ys one) (m:OkE ys other) (hk:(AQ one other)[k]?=ak n) (hn:n∉one.st++one.fr):n∉(one.lf++(P0 one ((AQ one other).take k)).map NT).map (·.1):=by
 rw[xI,yW];rintro (q | q);. obtain⟨t,b,rfl⟩:=zL.mp q;exact hn (h1.known t b)
 . rw[zD] at q;obtain⟨z,u,e⟩:=zL.mp q;have e:z=n:=e;subst e;have u:=(yL.mp u).1;obtain⟨i,hi,p⟩:=List.mem_iff_getElem.mp u;rw[a0K] at hi;rw[List.getElem_take] at p;obtain⟨c,r⟩:=yT.mp hk;have:=List.pairwise_iff_getElem.mp (NW h1 m).1 i k (by lia) c (by lia);exact this (p.trans r.symm)
theorem aJ {l:List Str}(hk:l[k]?=ak n):P0 one (l.take (k+1))=P0 one (l.take k)++(if decide (n∈one.st++one.fr)=au then [] else [n]):=by unfold P0;rw[a2Q,hk,Option.toList_some,b8Z];congr 1;rw[a8V];cases decide (n∈one.st++one.fr) <;> rfl
def SJ:PyData->Str | .str z=>z | _=>#[#[]]
def A5A (ts:List (Str×Ent)):PyData->PyData | .str z=>DY (AI ts z) | d=>d
theorem sI (nd:(ts.map (·.1)).Nodup) (l:List Str):(((LR (LL ts)).filter (frT l)).map λd=>(SJ d,A5A ts d))=LL (ts.filter λt=>!decide (t.1∈l)):=by
 have e:LR (LL ts)=ts.map λt:Str×Ent=>a0Z t.1:=by unfold LR LL;rw[zD];rfl
 rw[e,xU,zD];refine yM λt n=>?_;have n:=(yL.mp n).1;show(t.1,DY (AI ts t.1))=(t.1,DY t.2);unfold AI;rw[QT nd n];rfl
theorem lC (nd:(ts.map (·.1)).Nodup) (l:List Str):(((LR (LL ts)).filter (frT l)).map SJ).Nodup:=by
 have e:LR (LL ts)=ts.map λt:Str×Ent=>a0Z t.1:=by unfold LR LL;rw[zD];rfl
 rw[e,xU,zD];exact(nd.sublist (List.filter_sublist.map _))
def NX (one other:Eff) (k:Nat):List (Str×Ent):=(other.lf.take k).foldl (λe t=>BZ e t.1 (BD (BJ one other) t.2)) ((BJ one other).filter λt=>!decide (t.1∈other.st))
theorem lD (one other:Eff) (k:Nat):(NX one other k).length<=(BJ one other).length+k:=by
 unfold NX;have X:∀(l:List (Str×Ent)) (e:List (Str×Ent)),(l.foldl (λe t=>BZ e t.1 (BD (BJ one other) t.2)) e).length<=e.length+l.length:=by
   intro l;induction l with
   | nil=>intro e;exact zR _
   | cons t r Q=> intro e;have h1:=Q (BZ e t.1 (BD (BJ one other) t.2));have n:=A0F e t.1 (BD (BJ one other) t.2);rw[b3W,yR];lia
 have h1:=X (other.lf.take k) ((BJ one other).filter λt=>!decide (t.1∈other.st));have n:((BJ one other).filter λt=>!decide (t.1∈other.st)).length<=(BJ one other).length:=yJ _ _;have G:(other.lf.take k).length<=k:=List.length_take_le _ _;lia
theorem eD (h:other.lf[k]?=ak t):NX one other (k+1)=BZ (NX one other k) t.1 (BD (BJ one other) t.2):=by unfold NX;rw[a2Q,h,Option.toList_some,a6Z];rfl
theorem lE (one other:Eff):NX one other other.lf.length=DU one other:=by unfold NX DU;rw[a1Q]
theorem sJ (hn:namesOK ys) (h1:OkE ys one) (n:OkE ys other) (hc:B6 one other=aB):(DU one other).length < 64:=by have:=E6 hn #[HU h1 n,A0G h1 n];rw[zX] at this;lia
theorem A0H (nd:(ts.map (·.1)).Nodup) :s∈BZ ts n e↔(s∈ts/\s.1≠n)\/s=(n,e):=by
 unfold BZ;split
 . rename_i h;have m:=CB.mp h;rw[zL];constructor
   . rintro⟨t,i,rfl⟩;by_cases q:t.1=n;. rw[if_pos q,q];exact .inr rfl
     . rw[if_neg q];exact .inl #[i,q]
   . rintro (⟨h1,r⟩ | rfl);. exact#[s,h1,if_neg r]
     . obtain⟨t,i,q⟩:=zL.mp m;exact#[t,i,by rw[if_pos q,q]]
 . rename_i h;rw[yW,a6V];constructor
   . rintro (q | q);. exact .inl #[q,λe=>h (CB.mpr (by rw[<-e];exact zL.mpr #[s,q,rfl]))]
     . exact .inr q
   . rintro (q | q);. exact .inl q.1
     . exact .inr q
theorem FM (h1:OkE ys one) (b:OkE ys other) :s∈DU one other↔(s∈BJ one other/\s.1∉other.st/\s.1∉other.lf.map (·.1))\/∃t∈other.lf,s=(t.1,BD (BJ one other) t.2):=by
 unfold DU;have X:∀(l i:List (Str×Ent)),(l.map (·.1)).Nodup->(i.map (·.1)).Nodup->(s∈l.foldl (λi t=>BZ i t.1 (BD (BJ one other) t.2)) i↔(s∈i/\s.1∉l.map (·.1))\/∃t∈l,s=(t.1,BD (BJ one other) t.2)):=by
   intro l;induction l with
   | nil=>intro i _ _;simp
   | cons a r Q=>
     intro i m j;rw[zI,xV] at m;rw[b3W,Q _ m.2 (sG j),A0H j];constructor
     . rintro (⟨⟨n,e⟩ | rfl,J⟩ | ⟨t,p,rfl⟩);. exact .inl #[n,by rw[zI,yX];rintro (z | z);exact e z;exact J z]
       . exact .inr #[a,by simp,rfl]
       . exact .inr #[t,yV _ p,rfl]
     . rintro (⟨n,e⟩ | ⟨t,p,rfl⟩);. rw[zI,yX,not_or] at e;exact .inl #[.inl #[n,e.1],e.2]
       . rcases yX.mp p with rfl | q;. exact .inl #[.inr rfl,m.1]
         . exact .inr #[t,q,rfl]
 rw[X _ _ b.keys ((NV h1 b).sublist (List.filter_sublist.map _)),yL];constructor
 . rintro (⟨⟨n,e⟩,J⟩ | q);. exact .inl #[n,by simpa using e,J]
   . exact .inr q
 . rintro (⟨n,e,J⟩ | q);. exact .inl #[#[n,by simp[e]],J]
   . exact .inr q
theorem OkE.behind (hn:namesOK ys) (h1:OkE ys one) (r:OkE ys other) (h:B9 one other=ak F):OkE ys F:=by
 unfold B9 at h;split at h;. cases h
 rename_i hc;have hc:B6 one other=false:=by simpa using hc
 have e:=(Option.some.inj h).symm;subst e;have k:=AR (AQ one other);have S:=AR (D5 one other);have B:=HU h1 r;have T:=HS B;have sN:=NW h1 r;have U:=iC h1 r;have D:∀t∈BJ one other,t.1∈AQ one other++D5 one other/\∀n,t.2.1 = .inr n->n∈AQ one other:=λt c=>by
   unfold BJ at c;unfold AQ D5;rcases yW.mp c with q | q
   . refine#[?_,λn J=>zA _ (h1.place t q n J)];rcases yW.mp (h1.known t q) with z | z;. exact zA _ (zA _ z)
     . exact zB _ (zA _ z)
   . obtain⟨z,hz,rfl⟩:=zL.mp q;refine#[zA _ (zB _ hz),λn J=>?_];have:z=n:=Sum.inr.inj J;subst this;exact zB _ hz
 have g:=iB h1 r;have Q:=aI h1 r;have L:∀t∈other.lf,∀n∈t.2.2.1,D6 (BJ one other) n=true:=λt c n J=>K5 h1 r hc ((r.from_ t c).2 n J);have fo:∀n∈other.st++other.fr,n∈AQ one other++D5 one other:=λn J=>by
   unfold AQ D5;by_cases hk:n∈one.st++one.fr
   . rcases yW.mp hk with z | z;. exact zA _ (zA _ z)
     . exact zB _ (zA _ z)
   . rcases yW.mp J with z | z;. exact zA _ (zB _ (yL.mpr #[z,by simp[hk]]))
     . exact zB _ (zB _ (yL.mpr #[z,by simp[hk]]))
 have Mj:∀n,n∈AQ one other++D5 one other->n∈BU (AQ one other)++BU (D5 one other):=λn J=>by
   rcases yW.mp J with z | z;. exact zA _ (k.mem_iff.mpr z)
   . exact zB _ (S.mem_iff.mpr z)
 have N:∀t∈other.lf,∀x∈(BD (BJ one other) t.2).2.1,∃m∈t.2.2.1,(m,AI (BJ one other) m)∈BJ one other/\x∈(AI (BJ one other) m).2.1:=λt c x hx=>by have hx:x∈t.2.2.1.flatMap λn=>(AI (BJ one other) n).2.1:=(AR _).mem_iff.mp hx;obtain⟨m,f,hx⟩:=List.mem_flatMap.mp hx;exact#[m,f,MP (L t c m f),hx]
 refine#[#[k.nodup_iff.mpr sN.1,λn J=>sN.2 n (k.mem_iff.mp J)],#[S.nodup_iff.mpr U.1,λn J=>U.2 n (S.mem_iff.mp J)],λn hs M=>?_,(T.map (·.1)).nodup_iff.mpr B,λs hs=>?_,λs hs=>?_,λs hs n e=>?_,?_]
 . have hs:=k.mem_iff.mp hs;have M:=S.mem_iff.mp M;unfold AQ at hs;unfold D5 at M;rcases yW.mp hs with a | a <;> rcases yW.mp M with b | b;. exact h1.apart n a b
   . have:=(yL.mp b).2;simp[a] at this
   . have:=(yL.mp a).2;simp[b] at this
   . exact r.apart n (yL.mp a).1 (yL.mp b).1
 . refine Mj _ ?_;rcases (FM h1 r).mp (T.mem_iff.mp hs) with q | ⟨t,c,rfl⟩
   . exact(D s q.1).1
   . exact fo _ (r.known t c)
 . rcases (FM h1 r).mp (T.mem_iff.mp hs) with q | ⟨t,c,rfl⟩
   . exact#[(List.pairwise_flatMap.mp g).1 s q.1,λn J=>k.mem_iff.mpr (Q s q.1 n J)]
   . refine#[(AR _).nodup_iff.mpr (X5 g (r.from_ t c).1 (L t c)),λn J=>?_];obtain⟨m,f,hb,hx⟩:=N t c n J;exact k.mem_iff.mpr (Q _ hb n hx)
 . refine k.mem_iff.mpr ?_;rcases (FM h1 r).mp (T.mem_iff.mp hs) with q | ⟨t,c,rfl⟩
   . exact(D s q.1).2 n e
   . have e:(BD (BJ one other) t.2).1 = .inr n:=e;unfold BD at e;cases hp:t.2.1 with
     | inl p=>rw[hp] at e;cases e
     | inr m=> rw[hp] at e;exact(D _ (MP (K5 h1 r hc (r.place t c m hp)))).2 n e
 . refine((T.flatMap_right _).nodup_iff).mpr (List.pairwise_flatMap.mpr #[λs hs=>?_,?_])
   . rcases (FM h1 r).mp hs with q | ⟨t,c,rfl⟩
     . exact(List.pairwise_flatMap.mp g).1 s q.1
     . exact(AR _).nodup_iff.mpr (X5 g (r.from_ t c).1 (L t c))
   . refine List.pairwise_iff_getElem.mpr λi j hi Z bh=>?_;have I:(DU one other)[i].1≠(DU one other)[j].1:=by have:=List.pairwise_iff_getElem.mp B i j (by rw[zX];exact hi) (by rw[zX];exact Z) bh;rw[c0Q,c0Q] at this;exact this
     have Y:=(FM h1 r).mp (a1V hi);have hb:=(FM h1 r).mp (a1V Z);generalize (DU one other)[i]=s at I Y;generalize (DU one other)[j]=u at I hb;intro x hx y hy;rcases Y with q | ⟨t,c,rfl⟩ <;> rcases hb with G | ⟨X,O,rfl⟩
     . exact L7 g q.1 G.1 I x hx y hy
     . obtain⟨m,f,v,hy⟩:=N X O y hy;refine L7 g q.1 v (λe=>q.2.1 ?_) x hx y hy;have e:s.1=m:=e;rw[e];exact(r.from_ X O).2 m f
     . obtain⟨m,f,v,hx⟩:=N t c x hx;refine L7 g v G.1 (λe=>G.2.1 ?_) x hx y hy;have e:m=u.1:=e;rw[<-e];exact(r.from_ t c).2 m f
     . obtain⟨m,f,v,hx⟩:=N t c x hx;obtain⟨m',vq,Em,hy⟩:=N X O y hy;exact L7 g v Em (L7 r.dis c O I m f m' vq) x hx y hy
theorem Q3 {Q:DS->Own->Prop}(hn:namesOK ys) (h:∀D∈Ds,deed18 ys D) (r:Ds.length<=60) (q:Q (.d (efO (AX Ds))) M):[DS.d (.tuple (Ds.map Deed.d))].length=1/\IU.pre [.d (.tuple (Ds.map Deed.d))] M/\∀x i,IU.post [.d (.tuple (Ds.map Deed.d))] M x i->Q x i:=#[rfl,#[ys,Ds,rfl,hn,h,r],λx i e=>by obtain⟨rfl,rfl⟩:=e Ds rfl;exact q]
theorem X6 {Q:DS->Own->Prop}(q:Q (.d (.bool au)) M):[DS.d (.int c)].length=1/\HQ.pre [.d (.int c)] M/\∀x i,HQ.post [.d (.int c)] M x i->Q x i:=#[rfl,#[c,rfl],λx i e=>by obtain⟨rfl,rfl⟩:=e;exact q]
theorem P3 (hn:namesOK ys) (h:∀D∈Ds,deed18 ys D):∀E,AX Ds=ak E->OkE ys E:=by
 have X:∀k,k<=Ds.length->∀E,AX (Ds.take k)=ak E->OkE ys E:=by
   intro k;induction k with
   | zero=>intro _ E e;cases e;exact OkE.nil ys
   | succ k Q=>
     intro hk E e;have hD:Ds[k]?=ak Ds[k]:=zV hk;rw[a2Q,hD,Option.toList_some] at e;cases hF:AX (Ds.take k) with
     | none=>rw[show AX (Ds.take k++[Ds[k]])=am by unfold AX at hF ⊢;rw[a6Z,hF];rfl] at e;cases e
     | some F=> rw[NU hF] at e;exact OkE.behind hn (Q (by lia) F hF) (OkE.deed hn (h _ (a1V hk))) e
 intro E e;exact X Ds.length (zR _) E (by rw[a1Q];exact e)
section
variable {ys:List Str}{A B C:Eff}
theorem SK {D e:Type}{f g:D->List e}:∀{l:List D},(∀x∈l,f x=g x)->l.flatMap f=l.flatMap g
 | [],_=>rfl
 | a::r,h=>by rw[b0X,b0X,h a (by simp),SK λx hx=>h x (yV _ hx)]
theorem BK (nd:(ts.map (·.1)).Nodup) :AC ts n=ak e↔(n,e)∈ts:=by
 constructor
 . intro h;have t:D6 ts n=true:=by unfold D6;rw[h];rfl
   have:=MP t;unfold AI at this;rw[h] at this;exact this
 . intro h;exact QT nd h
theorem SL (nd:(ts.map (·.1)).Nodup) (h:(n,e)∈ts):AI ts n=e:=by unfold AI;rw[(BK nd).mpr h];rfl
theorem A0I (h:n∉ts.map (·.1)):AI ts n=(.inr n,[n],0):=by
 unfold AI;cases e:AC ts n with
 | none=>rfl
 | some v=>exact absurd (CB.mp (by unfold D6;rw[e];rfl)) h
theorem SM (hc:B6 A B=aB):(∀n∈B.st,n∈A.st++A.fr->n∈A.lf.map (·.1))/\∀n∈B.fr,n∉A.lf.map (·.1):=by
 unfold B6 at hc;rw[Bool.or_eq_false_iff] at hc;refine#[λn hn hk=>?_,λn hn hk=>?_];. have:=List.any_eq_false.mp hc.1 n hn;rw[decide_eq_true hk,b6Q] at this;exact CB.mp (by simpa using this)
 . exact List.any_eq_false.mp hc.2 n hn (CB.mpr hk)
theorem lG:B6 A B=au↔∃n,(n∈B.st/\n∈A.st++A.fr/\n∉A.lf.map (·.1))\/(n∈B.fr/\n∈A.lf.map (·.1)):=by
 unfold B6;rw[Bool.or_eq_true,a9Q,a9Q];constructor
 . rintro (⟨n,h1,t⟩ | ⟨n,h1,t⟩);. rw[a0V] at t;exact#[n,.inl ⟨h1,of_decide_eq_true t.1,λq=>by rw[CB.mpr q] at t;cases t.2⟩]
   . exact#[n,.inr #[h1,CB.mp t]]
 . rintro⟨n,⟨h1,t,G⟩ | ⟨h1,t⟩⟩
   . refine .inl #[n,h1,?_];rw[decide_eq_true t,b6Q];cases e:D6 A.lf n with
     | false=>rfl
     | true=>exact absurd (CB.mp e) G
   . exact .inr #[n,h1,CB.mpr t]
theorem iE (h1:OkE ys A) (r:OkE ys B) (hc:B6 A B=aB) (n:m∈B.st):AI (BJ A B) m=AI A.lf m:=by
 have bk:=NV h1 r;by_cases hk:m∈A.lf.map (·.1);. obtain⟨t,i,rfl⟩:=zL.mp hk;rw[SL h1.keys (e:=t.2) i,SL bk (e:=t.2) (zA _ i)]
 . rw[A0I hk];have hn:m∉A.st++A.fr:=λq=>hk ((SM hc).1 m n q);exact SL bk (zB _ (zL.mpr #[m,yL.mpr #[n,by simp[hn]],rfl]))
theorem eF (M:∀n∈e.2.1,AI ts n=AI v n) (hp:∀n,e.1 = .inr n->AI ts n=AI v n):BD ts e=BD v e:=by
 unfold BD;rw[SK (g:=λn=>(AI v n).2.1) λn hn=>by rw[M n hn],yM (g:=λn=>(AI v n).2.2) λn hn=>by rw[M n hn]];cases he:e.1 with
 | inl p=>rfl
 | inr n=>simp only[hp n he]
theorem aK (h1:OkE ys A) (e:OkE ys B) (hc:B6 A B=aB) (i:t∈B.lf):BD (BJ A B) t.2=BD A.lf t.2:=
 eF (λn hn=>iE h1 e hc ((e.from_ t i).2 n hn)) λn hp=>iE h1 e hc (e.place t i n hp)
theorem sK (h1:OkE ys A) (r:OkE ys B) (hc:B6 A B=aB) :(n,e)∈DU A B↔((n,e)∈A.lf/\n∉B.st/\n∉B.lf.map (·.1))\/∃M,(n,M)∈B.lf/\e=BD A.lf M:=by
 rw[FM h1 r];constructor
 . rintro (⟨p,i,J⟩ | ⟨t,b,q⟩)
   . rcases yW.mp p with z | z;. exact .inl #[z,i,J]
     . obtain⟨m,c,e'⟩:=zL.mp z;have:m=n:=congrArg (·.1) e';subst this;exact absurd (yL.mp c).1 i
   . rw[aK h1 r hc b] at q;obtain⟨rfl,rfl⟩:=Prod.mk.inj q;exact .inr #[t.2,b,rfl]
 . rintro (⟨p,i,J⟩ | ⟨M,I,rfl⟩);. exact .inl #[zA _ p,i,J]
   . exact .inr #[(n,M),I,by rw[aK h1 r hc I]]
theorem A1U {X:List (Str×Ent)}(h:(X.map (·.1)).Nodup):X.Nodup:=(List.pairwise_map.mp h).imp λ{a b} q e=>q (by rw[e])
theorem aL (nx:(X.map (·.1)).Nodup) (j:(Y.map (·.1)).Nodup) (h:∀n e,(n,e)∈X↔(n,e)∈Y):DF X=DF Y:=by have hp:X.Perm Y:=(a8Z (A1U nx) (A1U j)).mpr λt=>h t.1 t.2;unfold DF;rw[VI (hp.map _)];refine yM λn hn=>?_;have hn:n∈Y.map (·.1):=(AR _).mem_iff.mp hn;obtain⟨t,i,rfl⟩:=zL.mp hn;rw[SL j (e:=t.2) i,SL nx (e:=t.2) ((h t.1 t.2).mpr i)]
theorem X7 (e:a.Nodup) (hb:b.Nodup) (h:∀n,n∈a↔n∈b):BU a=BU b:=VI ((a8Z e hb).mpr h)
def QD (E:Eff):Prop:=BU E.st=E.st/\BU E.fr=E.fr/\DF E.lf=E.lf/\∀t∈E.lf,BU t.2.2.1=t.2.2.1
structure Beh (A B F:Eff):Prop where
 no:B6 A B=aB
 st:∀n,n∈F.st↔n∈A.st\/(n∈B.st/\n∉A.st++A.fr)
 fr:∀n,n∈F.fr↔n∈A.fr\/(n∈B.fr/\n∉A.st++A.fr)
 lf:∀n e,(n,e)∈F.lf↔((n,e)∈A.lf/\n∉B.st/\n∉B.lf.map (·.1))\/∃e0,(n,e0)∈B.lf/\e=BD A.lf e0
theorem sL (h1:OkE ys A) (t:OkE ys B) (h:B9 A B=ak F):Beh A B F:=by
 unfold B9 at h;split at h;. cases h
 rename_i hc;have hc:B6 A B=false:=by simpa using hc
 have e:=(Option.some.inj h).symm;subst e;refine#[hc,λn=>?_,λn=>?_,λn e=>?_];. rw[show(n∈BU (AQ A B))↔n∈AQ A B from(AR _).mem_iff];unfold AQ;rw[yW,yL];simp
 . rw[show(n∈BU (D5 A B))↔n∈D5 A B from(AR _).mem_iff];unfold D5;rw[yW,yL];simp
 . rw[show((n,e)∈DF (DU A B))↔(n,e)∈DU A B from(HS (HU h1 t)).mem_iff];exact sK h1 t hc
theorem aM {a:List Int}(h:a.Perm b):a.sum=b.sum:=by
 induction h with
 | nil=>rfl
 | cons x _ Q=>rw[b0J,b0J,Q]
 | swap x y l=>simp only[b0J];lia
 | trans _ _ ih1 ih2=>exact ih1.trans ih2
theorem aN (h:Str->List Str) (k:Str->Int):∀l:List Str,((l.flatMap h).map k).sum=(l.map λn=>((h n).map k).sum).sum
 | []=>rfl
 | a::r=>by rw[b0X,xI,List.sum_append,zI,b0J,aN h k r]
theorem VJ (a b:Str->Int):∀l:List Str,(l.map λn=>a n+b n).sum=(l.map a).sum+(l.map b).sum
 | []=>rfl
 | x::r=>by simp only[zI,b0J];rw[VJ a b r];lia
theorem lH (h:OkE ys A) (hn:n∈A.lf.map (·.1)):n∈A.st\/n∈A.fr:=by obtain⟨t,e,rfl⟩:=zL.mp hn;exact yW.mp (h.known t e)
theorem sM (h:B6 A B=au):B9 A B=none:=by unfold B9;rw[if_pos h]
theorem aO (h:B6 A B=aB):B9 A B=ak #[BU (AQ A B),BU (D5 A B),DF (DU A B)]:=by unfold B9;rw[h];rfl
theorem X8 (l:List Str):BU (BU l)=BU l:=A0D (L6 l)
theorem lI (nd:(ts.map (·.1)).Nodup):DF (DF ts)=DF ts:=by have t:=HS nd;exact aL (((t.map (·.1)).nodup_iff).mpr nd) nd λn e=>t.mem_iff
theorem eG (h1:OkE ys A) (n:OkE ys B) (r:QD A) (h:B9 A B=ak F):QD F:=by
 have hb:=sL h1 n h;rw[aO hb.no] at h;have e:=(Option.some.inj h).symm;refine#[by rw[e];exact X8 _,by rw[e];exact X8 _,by rw[e];exact lI (HU h1 n),λt i=>?_];rcases (hb.lf t.1 t.2).mp i with ⟨q,_⟩ | ⟨M,_,q⟩
 . exact r.2.2.2 _ q
 . rw[q];exact X8 _
theorem A0J:QD #[[],[],[]]:=⟨rfl,rfl,rfl,λt e=>by cases e⟩
theorem A0K (hn:namesOK ys):∀(k:Nat) (Ds:List Deed),Ds.length=k->(∀D∈Ds,deed18 ys D)->∀E,AX Ds=ak E->QD E:=by
 intro k;induction k with
 | zero=> intro Ds hk _ E h;have:Ds=[]:=List.length_eq_zero_iff.mp hk;subst this;cases h;exact A0J
 | succ k Q=>
   intro B hB hd E h;obtain⟨C,D,rfl⟩:∃C D,B=C++[D]:=#[B.dropLast,B.getLast (by rintro rfl;cases hB),(List.dropLast_concat_getLast _).symm]
   have hC:∀E∈C,deed18 ys E:=λE hE=>hd E (zA _ hE);have hD:=hd D (by simp);cases e:AX C with
   | none=>unfold AX at e h;rw[a6Z,e] at h;cases h
   | some X=> rw[NU e] at h;exact eG (P3 hn hC X e) (OkE.deed hn hD) (Q C (by simpa using hB) hC X e) h
end
theorem aP (hn:namesOK ys) (h:∀D∈Ds,deed18 ys D):∀E,AX Ds=ak E->QD E:=A0K hn _ Ds rfl h
theorem X9 (hn:namesOK ys) (h:∀n∈l,n∈ys):(AO l).canLay0=au/\(AO l).depth<=3:=by
 refine#[zG (ZV (ss:=l) λz u=>hn.1 z (h z u)),?_];have:a2X (l.map a0Z)<=1:=JV λd hd=>by obtain⟨z,_,rfl⟩:=zL.mp hd;simp[a2J]
 simp only[AO,a2J];lia
theorem A3V (hn:namesOK ys) (h:∀E,o=ak E->OkE ys E):(efO o).canLay0=au/\(efO o).depth<=9:=by
 cases o with
 | none=>exact#[rfl,by show a2J .none<=9;simp[a2J]]
 | some E=>
   have hE:=h E rfl;have q:=X9 hn hE.st.2;have Y:=X9 hn hE.fr.2;have u:∀d∈E.lf.map lfE,d.canLay0=au/\d.depth<=5:=λd hd=>by
     obtain⟨t,e,rfl⟩:=zL.mp hd;have N:=X9 hn (l:=t.2.2.1) λn J=>hE.st.2 n ((hE.from_ t e).2 n J);have S:D4 t.1:=hn.1 _ ((yW.mp (hE.known t e)).elim (hE.st.2 _) (hE.fr.2 _));have r:(plE t.2.1).canLay0=au/\(plE t.2.1).depth<=1:=by
       cases hp:t.2.1 with
       | inl p=>exact#[rfl,by simp[plE,a2J]]
       | inr n=>exact#[CO (hn.1 n (hE.st.2 n (hE.place t e n hp))),by simp[plE,a2J]]
     have b:(a0Z t.1).canLay0=true:=CO S;have all:∀d∈[a0Z t.1,plE t.2.1,AO t.2.2.1,.int t.2.2.2],d.canLay0=au/\d.depth<=3:=λd hd=>by
       simp only[yX,xW,or_false] at hd;rcases hd with rfl | rfl | rfl | rfl;. exact#[b,by simp[a2J]]
       . exact#[r.1,by lia]
       . exact N
       . exact#[rfl,by simp[a2J]]
     refine#[IH λd hd=>(all d hd).1,?_];have:a2X [a0Z t.1,plE t.2.1,AO t.2.2.1,.int t.2.2.2]<=3:=JV λd hd=>(all d hd).2;simp only[lfE,a2J];lia
   have i:(c0Z (E.lf.map lfE)).canLay0=au/\(c0Z (E.lf.map lfE)).depth<=7:=by refine#[IH λd hd=>(u d hd).1,?_];have:a2X (E.lf.map lfE)<=5:=JV λd hd=>(u d hd).2;simp only[a2J];lia
   have all:∀d∈[AO E.st,AO E.fr,.tuple (E.lf.map lfE)],d.canLay0=au/\d.depth<=7:=λd hd=>by
     simp only[yX,xW,or_false] at hd;rcases hd with rfl | rfl | rfl;. exact#[q.1,by lia]
     . exact#[Y.1,by lia]
     . exact i
   refine#[IH λd hd=>(all d hd).1,?_];have:a2X [AO E.st,AO E.fr,.tuple (E.lf.map lfE)]<=7:=JV λd hd=>(all d hd).2;show a2J (.tuple [AO E.st,AO E.fr,.tuple (E.lf.map lfE)])<=9;simp only[a2J];lia
theorem P4 (hn:namesOK ys) (h:∀E,o=ak E->OkE ys E):zH (efO o)=true:=by have h1:=A3V hn h;exact CU h1.1 (by lia)
open Classical in
theorem eI {Q:DS->Own->Prop}(m:M p=ak (U3 one.lf)) (h1:OkE ys one) (n:OkE ys other) (hn:namesOK ys) (q:Q (.d (.bool (B6 one other))) M):(clX one other p).length=3/\HN.pre (clX one other p) M/\∀x i,HN.post (clX one other p) M x i->Q x i:=#[rfl,#[ys,one,other,p,rfl,m,h1,n,hn],λx i e=>by obtain⟨rfl,rfl⟩:=e one other p rfl;exact q]
theorem aQ {Q:DS->Own->Prop}(r:∀n∈e.2.1,D6 ts n=au) (hp:∀n,e.1 = .inr n->D6 ts n=au) (t:(e.2.1.flatMap λn=>(AI ts n).2.1).length < 64) (q:Q (.d (DY (BD ts e))) M):(taX ts e).length=4/\K4.pre (taX ts e) M/\∀x i,K4.post (taX ts e) M x i->Q x i:=#[rfl,#[ts,e,rfl,r,hp,t],λx i m=>by obtain⟨rfl,rfl⟩:=m ts e rfl;exact q]
theorem sO (h:aE a=aE b):a=b:=rY (congrArg MO.d (PyData.dict.inj h))
end DL
namespace DL
open PySem PySem.Spec L2 XC
abbrev Gt:=Str->Option (Int×Int)
def plV (g:Gt):Pl->Int | .inl p=>p | .inr n=>((g n).getD (0,0)).1
def ctV (g:Gt) (l:List Str):Int:=(l.map λn=>((g n).getD (0,0)).2).sum
def enV (g:Gt) (e:Ent):Int×Int:=(plV g e.1,e.2.2+ctV g e.2.1)
def D7 (E:Eff) (g:Gt) (n:Str):Option (Int×Int):=match AC E.lf n with | some e=>ak (enV g e) | none=>if n∈E.st then am else g n
def okV (E:Eff) (g:Gt):Prop:=(∀n∈E.st,(g n).isSome=au)/\∀n∈E.fr,g n=am
section
theorem K6 (h:AC E.lf n=ak e):D7 E g n=ak (enV g e):=by unfold D7;rw[h]
theorem IV (h:AC E.lf n=am) (hs:n∈E.st):D7 E g n=none:=by unfold D7;rw[h];exact if_pos hs
theorem FN (h:AC E.lf n=am) (hs:n∉E.st):D7 E g n=g n:=by unfold D7;rw[h];exact if_neg hs
theorem QU (h:n∉ts.map (·.1)):AC ts n=none:=by
 cases e:AC ts n with
 | none=>rfl
 | some v=>exact absurd (CB.mp (by unfold D6;rw[e];rfl)) h
theorem K7 (h:n∈ts.map (·.1)):∃e,AC ts n=ak e:=sC h
theorem XA (h:OkE ys A) (hn:n∉A.st++A.fr):AC A.lf n=none:=QU λq=>hn (by
 rcases lH h q with q | q;. exact yW.mpr (.inl q)
 . exact yW.mpr (.inr q))
theorem XB (h1:OkE ys A) (m:OkE ys B) (hF:Beh A B F):okV F g↔okV A g/\okV B (D7 A g):=by
 obtain⟨i,Y⟩:=SM hF.no;constructor
 . rintro⟨hs,M⟩;have t:okV A g:=#[λn hn=>hs n ((hF.st n).mpr (.inl hn)),λn hn=>M n ((hF.fr n).mpr (.inl hn))]
   refine#[t,λn hn=>?_,λn hn=>?_]
   . by_cases hk:n∈A.st++A.fr;. obtain⟨e,he⟩:=K7 (i n hn hk);rw[K6 he];rfl
     . rw[FN (XA h1 hk) λq=>hk (yW.mpr (.inl q))];exact hs n ((hF.st n).mpr (.inr #[hn,hk]))
   . have r:=QU (Y n hn);by_cases hA:n∈A.st;. exact IV r hA
     . rw[FN r hA];by_cases hB:n∈A.fr;. exact t.2 n hB
       . exact M n ((hF.fr n).mpr (.inr #[hn,λq=>(yW.mp q).elim hA hB]))
 . rintro⟨t,hs,M⟩;refine#[λn hn=>?_,λn hn=>?_]
   . rcases (hF.st n).mp hn with q | ⟨q,hk⟩
     . exact t.1 n q
     . have:=hs n q;rwa [FN (XA h1 hk) λq=>hk (yW.mpr (.inl q))] at this
   . rcases (hF.fr n).mp hn with q | ⟨q,hk⟩
     . exact t.2 n q
     . have:=M n q;rwa [FN (XA h1 hk) λq=>hk (yW.mpr (.inl q))] at this
theorem lJ (h1:OkE ys A) (h:B6 A B=au):¬(okV A g/\okV B (D7 A g)):=by
 rintro⟨m,hs,M⟩;obtain⟨n,⟨t,i,J⟩ | ⟨t,i⟩⟩:=lG.mp h
 . have G:=hs n t;have r:=QU J;by_cases hA:n∈A.st;. rw[IV r hA] at G;cases G
   . rw[FN r hA,m.2 n ((yW.mp i).resolve_left hA)] at G;cases G
 . have G:=M n t;obtain⟨e,he⟩:=K7 i;rw[K6 he] at G;cases G
theorem iF (h1:OkE ys A) (hc:B6 A B=aB) (p:okV B (D7 A g)) (t:m∈B.st):D7 A g m=ak (enV g (AI A.lf m)):=by
 obtain⟨i,Y⟩:=SM hc;by_cases hk:m∈A.st++A.fr;. obtain⟨e,he⟩:=K7 (i m t hk);rw[K6 he];unfold AI;rw[he];rfl
 . have r:=XA h1 hk;have G:=p.1 m t;rw[FN r λq=>hk (yW.mpr (.inl q))] at G ⊢;unfold AI;rw[r];obtain⟨v,N⟩:=xX.mp G;rw[N];show ak v=ak (((g m).getD (0,0)).1,0+([m].map λn=>((g n).getD (0,0)).2).sum);simp[N]
theorem sP (h1:OkE ys A) (hc:B6 A B=aB) (t:okV B (D7 A g)) (M:∀m∈e.2.1,m∈B.st) (hp:∀m,e.1 = .inr m->m∈B.st):enV g (BD A.lf e)=enV (D7 A g) e:=by
 obtain⟨p,fs,k⟩:=e;have j:plV g (BD A.lf (p,fs,k)).1=plV (D7 A g) p:=by
   cases p with
   | inl p=>rfl
   | inr m=> show plV g (AI A.lf m).1=((D7 A g m).getD (0,0)).1;rw[iF h1 hc t (hp m rfl)];rfl
 have i:ctV (D7 A g) fs=(fs.map λm=>(AI A.lf m).2.2+ctV g (AI A.lf m).2.1).sum:=by unfold ctV;congr 1;refine yM λm q=>?_;rw[iF h1 hc t (M m q)];rfl
 have r:ctV g (BU (fs.flatMap λn=>(AI A.lf n).2.1))=(fs.map λm=>ctV g (AI A.lf m).2.1).sum:=by unfold ctV;rw[aM ((AR _).map _),aN]
 show(plV g (BD A.lf (p,fs,k)).1,(k+(fs.map λn=>(AI A.lf n).2.2).sum)+ctV g (BU (fs.flatMap λn=>(AI A.lf n).2.1)))=(plV (D7 A g) p,k+ctV (D7 A g) fs);rw[j,i,r,VJ];congr 1;lia
theorem sQ (h1:OkE ys A) (m:OkE ys B) (t:OkE ys F) (hF:Beh A B F) (c:okV A g) (f:okV B (D7 A g)) (n:Str):D7 F g n=D7 B (D7 A g) n:=by
 have hc:=hF.no;cases hB:AC B.lf n with
 | some M=> have b:=(BK m.keys).mp hB;have i:AC F.lf n=ak (BD A.lf M):=(BK t.keys).mpr ((hF.lf _ _).mpr (.inr #[M,b,rfl]));rw[K6 i,K6 hB,sP h1 hc f (m.from_ _ b).2 (m.place _ b)]
 | none=>
   have u:n∉B.lf.map (·.1):=λq=>by obtain⟨e,he⟩:=K7 q;rw[he] at hB;cases hB
   have v:∀M,(n,M)∉B.lf:=λM q=>u (zL.mpr #[_,q,rfl]);by_cases hs:n∈B.st
   . rw[IV hB hs];have r:AC F.lf n=none:=by
       cases p:AC F.lf n with
       | none=>rfl
       | some e=>
         rcases (hF.lf _ _).mp ((BK t.keys).mp p) with ⟨_,q,_⟩ | ⟨M,q,_⟩
         . exact absurd hs q
         . exact absurd q (v M)
     by_cases hk:n∈A.st++A.fr
     . rcases yW.mp hk with q | q;. exact IV r ((hF.st n).mpr (.inl q))
       . by_cases hFs:n∈F.st;. exact IV r hFs
         . rw[FN r hFs];exact c.2 n q
     . exact IV r ((hF.st n).mpr (.inr #[hs,hk]))
   . rw[FN hB hs];cases hA:AC A.lf n with
     | some e=> have i:AC F.lf n=ak e:=(BK t.keys).mpr ((hF.lf _ _).mpr (.inl #[(BK h1.keys).mp hA,hs,u]));rw[K6 i,K6 hA]
     | none=>
       have r:AC F.lf n=none:=by
         cases p:AC F.lf n with
         | none=>rfl
         | some e=>
           rcases (hF.lf _ _).mp ((BK t.keys).mp p) with ⟨q,_,_⟩ | ⟨M,q,_⟩
           . rw[(BK h1.keys).mpr q] at hA;cases hA
           . exact absurd q (v M)
       by_cases hAs:n∈A.st;. rw[IV hA hAs,IV r ((hF.st n).mpr (.inl hAs))]
       . rw[FN hA hAs,FN r λq=>?_];rcases (hF.st n).mp q with q | ⟨q,_⟩
         . exact hAs q
         . exact hs q
end
end DL
namespace DL
open PySem PySem.Spec L2 XC
section
variable {ys:List Str}{A B F:Eff}{g:Gt}{n:Str}{w:List Th}{D:Deed}
theorem lK :AE ns D=am↔∀n∈D.names,(n∈ns)↔¬D.made=ak n:=#[BI,NJ]
theorem XD (hr:D.real):okV (AD D) (AA w)↔AE (w.map (·.1)) D=none:=by
 rw[lK];have q:∀n,n∈w.map (·.1)↔(AA w n).isSome=true:=λn=>AU;have M:∀n,AA w n=am↔¬(n∈w.map (·.1)):=λn=>by rw[q];simp
 have t:=hr.2.1;have hp:∀x y n,n∈BU [x,y]↔n=x\/n=y:=λx y n=>by rw[(AR _).mem_iff];simp
 unfold okV;simp only[<-q,M];cases D with
 | put x p k=>simp[AD,Deed.names,Deed.made]
 | take x=>simp[AD,Deed.names,Deed.made]
 | move x p=>simp[AD,Deed.names,Deed.made]
 | count x k=>simp[AD,Deed.names,Deed.made]
 | name x y=> have h1:x≠y:=t;have e:=a4Q h1;simp[AD,Deed.names,Deed.made,h1,e]
 | split x y p k=> have h1:x≠y:=t;have e:=a4Q h1;simp[AD,Deed.names,Deed.made,h1,e]
 | join x y=>simp[AD,Deed.names,Deed.made,hp]
theorem lL (nd:(ts.map (·.1)).Nodup) (n:Str):AC (DF ts) n=AC ts n:=by
 have t:=HS nd;have M:((DF ts).map (·.1)).Nodup:=((t.map (·.1)).nodup_iff).mpr nd;cases h:AC ts n with
 | none=> exact QU λq=>by obtain⟨e,he⟩:=K7 ((t.map (·.1)).mem_iff.mp q);rw[h] at he;cases he
 | some e=>exact(BK M).mpr (t.mem_iff.mpr ((BK nd).mp h))
theorem sR (hr:D.real) (m:AE (w.map (·.1)) D=am) (n:Str):AA (doT w D) n=D7 (AD D) (AA w) n:=by
 rw[AY hr m];have r:=hr.2.1;have i:∀{n},n∈D.names->D.made≠ak n->∃v,AA w n=ak v:=λhn q=>B1 (JE m hn q);unfold D7;cases D with
 | put x p k=>
   by_cases h:n=x;. subst h;simp[AD,AC,enV,plV,ctV]
   . simp[AD,AC,h,a4Q h]
 | take x=>
   by_cases h:n=x;. subst h;simp[AD,AC]
   . simp[AD,AC,h]
 | move x p=>
   obtain⟨v,N⟩:=i (n:=x) `jj (by simp[Deed.made]);by_cases h:n=x;. subst h;simp[AD,AC,enV,plV,ctV,N]
   . simp[AD,AC,h,a4Q h]
 | count x k=>
   obtain⟨v,N⟩:=i (n:=x) `jj (by simp[Deed.made]);by_cases h:n=x;. subst h;simp[AD,AC,enV,plV,ctV,N,Int.add_comm]
   . simp[AD,AC,h,a4Q h]
 | name x y=>
   have h1:x≠y:=r;obtain⟨v,N⟩:=i (n:=x) `jj (by simp[Deed.made];exact λe=>h1 e.symm);by_cases h:n=y;. subst h;simp[AD,AC,enV,plV,ctV,N]
   . by_cases t:n=x;. subst t;simp[AD,AC,h,a4Q h]
     . simp[AD,AC,h,t,a4Q h]
 | split x y p k=>
   have h1:x≠y:=r;obtain⟨v,N⟩:=i (n:=x) `jj (by simp[Deed.made];exact λe=>h1 e.symm);have nd:([(x,((.inr x,[x],-k):Ent)),(y,.inl p,[],k)].map (·.1)).Nodup:=by simpa using h1
   have e:=lL nd n;show _=match AC (DF [(x,((.inr x,[x],-k):Ent)),(y,.inl p,[],k)]) n with | some e=>ak (enV (AA w) e) | none=>if n∈[x] then am else AA w n
   rw[e];by_cases h:n=y;. subst h;simp[AC,enV,plV,ctV,h1]
   . by_cases t:n=x;. subst t;simp[AC,enV,plV,ctV,N,h,Int.add_comm]
     . simp[AC,h,t,a4Q h,a4Q t]
 | join x y=>
   have h1:x≠y:=r;obtain⟨v,N⟩:=i (n:=x) `jj (by simp[Deed.made]);obtain⟨u,hu⟩:=i (n:=y) `jj (by simp[Deed.made]);have hp:∀n,n∈BU [x,y]↔n=x\/n=y:=λn=>by rw[(AR _).mem_iff];simp
   have hs:ctV (AA w) (BU [x,y])=v.2+u.2:=by unfold ctV;rw[aM ((AR _).map _)];simp[N,hu]
   by_cases h:n=y;. subst h;simp[AD,AC,hp,h1]
   . by_cases t:n=x;. subst t;simp[AD,AC,enV,plV,hs,N,hu,h]
     . simp[AD,AC,hp,h,t,a4Q t]
def E7 (o:Option (List Th)) (D:Deed):Option (List Th):=o.bind λw=>if AE (w.map (·.1)) D=am then ak (doT w D) else am
def AS (w:List Th) (Ds:List Deed):Option (List Th):=Ds.foldl E7 (ak w)
theorem NY (w:List Th) (Ds:List Deed) (D:Deed):AS w (Ds++[D])=E7 (AS w Ds) D:=by unfold AS;rw[a6Z];rfl
theorem sS (h:AS w (Ds.take k)=am):AS w Ds=none:=by
 have e:Ds=Ds.take k++Ds.drop k:=(b1K k Ds).symm;unfold AS at h ⊢;rw[e,a6Z,h];generalize Ds.drop k=l;induction l with
 | nil=>rfl
 | cons a r Q=>exact Q
theorem aR {Ds:List Deed}(h:AS w (Ds.take k)=ak w2) (hD:Ds[k]?=ak D) (e:AE (w2.map (·.1)) D=am):AS w (Ds.take (k+1))=ak (doT w2 D):=by rw[a2Q,hD];show AS w (Ds.take k++[D])=_;rw[NY,h];show(if AE (w2.map (·.1)) D=am then ak (doT w2 D) else am)=_;rw[if_pos e]
theorem SN (h:AS w (Ds.take k)=ak w2) (hD:Ds[k]?=ak D) (e:¬AE (w2.map (·.1)) D=am):AS w Ds=none:=by refine sS (k:=k+1) ?_;rw[a2Q,hD];show AS w (Ds.take k++[D])=_;rw[NY,h];show(if AE (w2.map (·.1)) D=am then ak (doT w2 D) else am)=_;rw[if_neg e]
def K8 (w:List Th) (o:Option Eff) (r:Option (List Th)):Prop:=match o with
 | none=>r=am
 | some E=>match r with
   | none=>¬okV E (AA w)
   | some z=>okV E (AA w)/\∀n,AA z n=D7 E (AA w) n
theorem CY (hn:namesOK ys) (w:List Th):∀(k:Nat) (Ds:List Deed),Ds.length=k->(∀D∈Ds,deed18 ys D)->K8 w (AX Ds) (AS w Ds)
 | 0,Ds,r,h=>by obtain rfl:=List.length_eq_zero_iff.mp r;exact#[#[(λn h=>nomatch h),(λn h=>nomatch h)],λn=>rfl]
 | k+1,Ds,r,h=>by
   obtain⟨C,D,rfl⟩:∃C D,Ds=C++[D]:=#[Ds.dropLast,Ds.getLast (by rintro rfl;cases r),(List.dropLast_concat_getLast _).symm]
   have hC:∀D∈C,deed18 ys D:=λD hD=>h D (yW.mpr (.inl hD));have hD:deed18 ys D:=h D (by simp);have Q:=CY hn w k C (by simpa using r) hC;cases hE:AX C with
   | none=> rw[hE] at Q;have Q:AS w C=none:=Q;rw[aG (k:=C.length) (by rw[List.take_left];exact hE),NY,Q];exact rfl
   | some E=>
     rw[hE] at Q;rw[NU hE,NY];have X:=P3 hn hC E hE;have L:=OkE.deed hn hD;cases hc:B6 E (AD D) with
     | true=>
       rw[sM hc];show E7 (AS w C) D=am;cases hr:AS w C with
       | none=>rfl
       | some z=> rw[hr] at Q;obtain⟨t,i⟩:=Q;have p:AA z=D7 E (AA w):=funext i;show(if AE (z.map (·.1)) D=am then ak (doT z D) else am)=am;rw[if_neg λq=>lJ X hc #[t,by rw[<-p];exact(XD hD.1).mpr q]]
     | false=>
       have hs:=aO hc;have hF:=sL X L hs;have m:=OkE.behind hn X L hs;rw[hs];generalize (#[BU (AQ E (AD D)),BU (D5 E (AD D)),DF (DU E (AD D))]:Eff)=F at hF m;cases hr:AS w C with
       | none=> rw[hr] at Q;have Q:¬okV E (AA w):=Q;show ¬okV F (AA w);exact λq=>Q ((XB X L hF).mp q).1
       | some z=>
         rw[hr] at Q;obtain⟨t,i⟩:=Q;have p:AA z=D7 E (AA w):=funext i;show K8 w (ak F) (if AE (z.map (·.1)) D=am then ak (doT z D) else am);by_cases e:AE (z.map (·.1)) D=am
         . rw[if_pos e];have b:okV (AD D) (D7 E (AA w)):=by rw[<-p];exact(XD hD.1).mpr e
           refine#[(XB X L hF).mpr #[t,b],λn=>?_];rw[sR hD.1 e,p,sQ X L m hF t b]
         . rw[if_neg e];show ¬okV F (AA w);exact λq=>e ((XD hD.1).mp (by rw[p];exact((XB X L hF).mp q).2))
end
end DL
namespace L2
open PySem PySem.Spec PyProof.Rows PySem.SeqAt
def A1V (as bs:List (Str×PyData)):Prop:=as.length=bs.length/\∀p∈as,∃d,DL.B3 bs p.1=ak d/\p.2.canLay0=au/\d.canLay0=au/\p.2.depth<=8/\a0W p.2 d=au
end L2
namespace DL
open PySem PySem.Spec L2
section
variable {K:Frg}{M:Own}{Q:DS->Own->Prop}{ρ:List (Option DS)}{td ty:TE}
def isTD (M:Own) (x:DS) (ts:List (Str×PyData)):Prop:=(∃a,x = .loc a/\M a=ak (.d (AG ts)))\/x = .d (.dict (AG ts))
theorem isTD.o (h:M a=ak (.d (AG ts))):isTD M (.loc a) ts:=.inl #[a,rfl,h]
theorem isTD.d :isTD M (.d (.dict (AG ts))) ts:=.inr rfl
theorem isTD.put (h:isTD M x ts) (e:M a=am):isTD (M.put a m) x ts:=by
 rcases h with ⟨b,rfl,hb⟩ | rfl
 . exact .inl #[b,rfl,by rw[yH (by rintro rfl;rw[hb] at e;cases e)];exact hb]
 . exact .inr rfl
theorem iG (h:DE K ty ρ M λy M1=>DE K td ρ M1 λx t=>∃(ts:List (Str×PyData)) (k:Str),isTD t x ts/\y = .d (.str k)/\Q (.d (.bool (B3 ts k).isSome)) t):DE K (v9 ty td) ρ M Q:=λz H QQ R O=>
 h z H _ R λv T x M1 S I c h1=>h1 z T _ (R.step S c) λu f y t b n D N=>by
   obtain⟨ts,k,hx,rfl,q⟩:=N;rw[BC I];obtain⟨a,e,p,j,g⟩:∃a e,u = .ref a/\Rd f a (.dK e)/\DKV K f t.W (AG ts) e:=by
     rcases hx with ⟨a,rfl,m⟩ | rfl
     . unfold SI at n;obtain⟨e,j,g⟩:=b a _ m;exact#[a,e,n,.inl j,g]
     . unfold SI DV at n;obtain⟨a,e,p,nw,j,g⟩:=n;exact#[a,e,p,j,g]
   subst p;refine#[a,G5 e (a1W k),rfl,.inl #[e,a1W k,j,rfl,rfl],O _ f _ t b ?_ (c.trans D) q];rcases DD (k:=k) g with ⟨G,J,i,r,B⟩ | ⟨i,r⟩
   . rw[i,r];exact AK
   . rw[i,r];exact AK
theorem sU (hx:isTD M x ts) (q:∀p,M p=am->Q (.loc p) (M.put p (.d (AG ts)))):DR K e7 [x] M Q:=λH b QQ z s k=>by
 obtain⟨v,r,rfl,h1,n⟩:=s;cases n;obtain⟨a,e,t,j,g⟩:∃a e,v = .ref a/\Rd H a (.dK e)/\DKV K H M.W (AG ts) e:=by
   rcases hx with ⟨a,rfl,m⟩ | rfl
   . unfold SI at h1;obtain⟨e,j,g⟩:=z a _ m;exact#[a,e,h1,.inl j,g]
   . unfold SI DV at h1;obtain⟨a,e,t,nw,j,g⟩:=h1;exact#[a,e,t,j,g]
 subst t;refine#[a,e,rfl,j,λp hp=>?_];obtain⟨S,i⟩:=NA z hp g;exact k _ _ (.loc p) _ S rfl i (q p (z.none hp))
end
end DL
namespace DL
open PySem PySem.Spec L2 XC
section
variable {ys:List Str}{E:Eff}{g:Gt}{n:Str}{w a b:List Th}{D:Deed}
abbrev wQ (w:List Th):PyData:=.dict (AG (tsD w))
theorem GL (h:(ts.map (·.1)).Nodup):((CL ts x p c).map (·.1)).Nodup:=by
 unfold CL;split
 . rw[zD];have e:((λt:Th=>t.1)∘λt:Th=>if t.1=x then (t.1,p,c) else t)=λt:Th=>t.1:=by funext t;show(if t.1=x then (t.1,p,c) else t).1=t.1;split <;> rfl
   rw[e];exact h
 . rename_i q;rw[xI,b9X];refine#[h,by simp,λa i b hb=>?_];obtain rfl:b=x:=by simpa using hb
   rintro rfl;obtain⟨t,r,e⟩:=zL.mp i;exact q (List.any_eq_true.mpr #[t,r,decide_eq_true e])
theorem A0L (i:(a.map (·.1)).Nodup) (U:(b.map (·.1)).Nodup) (h:∀n,AA a n=AA b n):A1V (tsD a) (tsD b):=by
 have hp:a.Perm b:=by
   refine(a8Z ?_ ?_).mpr λt=>?_;. exact(List.pairwise_map.mp i).imp λ{x y} q e=>q (by rw[e])
   . exact(List.pairwise_map.mp U).imp λ{x y} q e=>q (by rw[e])
   . rw[EN i,EN U,h]
 refine#[by unfold tsD;rw[zX,zX,hp.length_eq],λp m=>?_];obtain⟨t,r,rfl⟩:=zL.mp m;refine#[pcD t.2.1 t.2.2,?_,rfl,rfl,yD rfl,?_];. rw[AL,<-h,(EN i).mp r];rfl
 . exact HI (by rfl)
def aS (o:Option (List Th)):PyData:=match o with | some w=>wQ w | none=>.none
theorem CH (h:There zs w) (hz:zs.length < 60) (hD:∀D∈Ds,D.real/\∀x∈D.names,x∈zs):∀w2,AS w Ds=ak w2->There zs w2:=by
 induction Ds generalizing w with
 | nil=>intro w2 e;cases e;exact h
 | cons D r Q=>
   intro w2 e;have hd:=hD D (a0J ..);by_cases t:AE (w.map (·.1)) D=am
   . have e:AS (doT w D) r=ak w2:=by
       have:AS w (D::r)=AS (doT w D) r:=by show r.foldl E7 (E7 (ak w) D)=r.foldl E7 (ak (doT w D));show r.foldl E7 (if AE (w.map (·.1)) D=am then ak (doT w D) else am)=_;rw[if_pos t]
       rw[<-this];exact e
     have hg:goD w D:=#[#[h.nd,by have:=h.few;lia],hd.1,t]
     exact Q (HM h hg hd.2) (λi M=>hD i (yV _ M)) w2 e
   . have:AS w (D::r)=none:=SN (Ds:=D::r) (k:=0) (w2:=w) rfl rfl t;rw[this] at e;cases e
def sV (ys:List Str) (k:Nat):Th:=(ys.getD k #[#[]],1000+7*(k:Int),100000000000000*2 ^ k)
def eJ (m k:Nat):Bool:=decide (m/2 ^ k % 2=1)
def FO (ys:List Str) (m:Nat):List Th:=((a1X ys.length).filter (eJ m)).map (sV ys)
def GM (ys:List Str) (m j:Nat):List Th:=((a1X j).filter (eJ m)).map (sV ys)
theorem aT (hn:ys.Nodup) (m:Nat) (u:j<=ys.length):((GM ys m j).map (·.1)).Nodup:=by unfold GM;rw[zD];unfold List.Nodup;rw[b0Q];have hr:(a1X j).Pairwise (· < ·):=List.pairwise_lt_range;refine(hr.sublist a4W).imp_of_mem λ{a b} h hb J e=>?_;have h:=List.mem_range.mp (yL.mp h).1;have hb:=List.mem_range.mp (yL.mp hb).1;have e:ys.getD a #[#[]]=ys.getD b #[#[]]:=e;rw[yU,yU,zV (by lia),zV (by lia)] at e;exact(List.pairwise_iff_getElem.mp hn a b (by lia) (by lia) J) e
theorem SO (hn:ys.Nodup) (m:Nat):There ys (FO ys m):=by refine#[aT hn m (zR _),λt e=>?_];obtain⟨k,hk,rfl⟩:=zL.mp e;have hk:=List.mem_range.mp (yL.mp hk).1;show ys.getD k #[#[]]∈ys;rw[yU,zV hk];exact a1V hk
end
end DL
namespace DL
open PySem PySem.Spec L2 XC
section
variable {K:Frg}{ρ:List (Option DS)}{td ty:TE}{M:Own}{Q:DS->Own->Prop}{ys:List Str}{w:List Th}{D:Deed}{p:Addr}{x:DS}{Ds:List Deed}{E:Eff}
theorem ET (h:DE K td ρ M λx M1=>DE K ty ρ M1 λy t=>∃(ts:List (Str×PyData)) (k:Str) (d:PyData),isTD t x ts/\y = .d (.str k)/\B3 ts k=ak d/\Q (.d d) t):DE K (fW td ty) ρ M Q:=by
 intro N H QQ R G;refine h N H _ R λv O x M1 J i z h1=>h1 N O _ (R.step J z) λu f y t b L T B=>?_;obtain⟨ts,k,d,hx,rfl,l,q⟩:=B;rw[BC L];obtain⟨a,e,rfl,j,g⟩:∃a e,v = .ref a/\Rd f a (.dK e)/\DKV K f t.W (AG ts) e:=by
   rcases hx with ⟨a,rfl,m⟩ | rfl
   . unfold SI at i;obtain⟨e,j,g⟩:=b a _ m;exact#[a,e,i,.inl j,g]
   . have c:=i.step T;unfold SI DV at c;obtain⟨a,e,S,nw,j,g⟩:=c;exact#[a,e,S,j,g]
 rcases DD (k:=k) g with ⟨X,U,n,r,I⟩ | ⟨n,r⟩
 . rw[l] at n;cases n;exact#[a,U,rfl,.inl #[e,a1W k,j,rfl,r.symm],G _ f (.d d) t b I (z.trans T) q]
 . rw[l] at n;cases n
theorem eL (h:wQ a=wQ b):a=b:=e6 (by unfold wQ at h;injection h with h;unfold tsO;rw[h])
theorem isTD.inj (h1:isTD M x (tsD a)) (n:isTD M x (tsD b)):a=b:=by
 rcases h1 with ⟨p,rfl,m⟩ | rfl
 . rcases n with ⟨q,e,t⟩ | e
   . injection e with e;subst e;rw[m] at t;exact e6 (Option.some.inj t)
   . cases e
 . rcases n with ⟨q,e,t⟩ | e
   . cases e
   . injection e with e;exact eL e
def tdW (x:DS) (D:Deed):List DS:=[x,.d D.d]
def IW:FSp:=#[λt M=>∃(x:DS) (w:List Th) (D:Deed),t=tdW x D/\isTD M x (tsD w)/\D.real,λt M y i=>∀(x:DS) (w:List Th) (D:Deed),t=tdW x D->isTD M x (tsD w)->D.real->y = .d (.bool (decide (AE (w.map (·.1)) D=am)))/\i=M]
theorem MQ (m:isTD M x (tsD w)) (h:D.real) (q:Q (.d (.bool (decide (AE (w.map (·.1)) D=am)))) M):(tdW x D).length=2/\IW.pre (tdW x D) M/\∀y i,IW.post (tdW x D) M y i->Q y i:=#[rfl,#[x,w,D,rfl,m,h],λy i e=>by obtain⟨rfl,rfl⟩:=e x w D rfl m h;exact q]
def FP:FSp:=#[λt M=>∃(x:DS) (w:List Th) (D:Deed),t=tdW x D/\isTD M x (tsD w)/\goD w D/\w.length < 60,λt M y i=>∀(x:DS) (w:List Th) (D:Deed),t=tdW x D->isTD M x (tsD w)->∃q,M q=am/\y = .loc q/\i=M.put q (tsO (doT w D))]
theorem K9 (m:isTD M x (tsD w)) (h:goD w D) (t:w.length < 60) (q:∀r,M r=am->Q (.loc r) (M.put r (tsO (doT w D)))):(tdW x D).length=2/\FP.pre (tdW x D) M/\∀y i,FP.post (tdW x D) M y i->Q y i:=#[rfl,#[x,w,D,rfl,m,h,t],λy i e=>by obtain⟨r,h1,rfl,rfl⟩:=e x w D rfl m;exact q r h1]
def A5B (M M1:Own) (x:DS) (w:List Th):Prop:=(M1=M/\x = .d (wQ w))\/∃r,M r=am/\M1=M.put r (tsO w)/\x = .loc r
theorem VL {D:EndsD}{M1:Own}(h:A5B M M1 x w) (e:ρ[i]?=ak (ak x)) (hd:DSt K t (ρ.set i (ak (.d (wQ w)))) M D):DSt K t ρ M1 D:=by
 rcases h with ⟨rfl,rfl⟩ | ⟨r,hr,rfl,rfl⟩
 . have g:ρ.set i (ak (.d (wQ w)))=ρ:=by obtain⟨hi,n⟩:=yT.mp e;rw[<-n,List.set_getElem_self]
   rwa [g] at hd
 . refine IP (i:=i) (a:=r) e zU ?_;rw[yG hr];exact hd
def rnX (w:List Th) (Ds:List Deed):List DS:=[.d (wQ w),.d (.tuple (Ds.map Deed.d))]
structure Go17 (w:List Th) (Ds:List Deed):Prop where
 ex:∃zs,There zs w/\zs.length < 60/\∀D∈Ds,D.real/\∀x∈D.names,x∈zs
 few:Ds.length<=60
def A3W (w:List Th) (Ds:List Deed) (d:PyData):Prop:=∃(k:PyData) (z:List Th),d = .tuple [k,wQ z]/\((AS w Ds=ak z/\k = .none)\/(AS w Ds=am/\∃i:Int,k = .int i))
def NZ:FSp:=#[λt M=>∃(w:List Th) (Ds:List Deed),t=rnX w Ds/\Go17 w Ds,λt M y i=>∀(w:List Th) (Ds:List Deed),t=rnX w Ds->(∃d,y = .d d/\A3W w Ds d)/\i=M]
theorem eO (h:Go17 w Ds) (q:∀d,A3W w Ds d->Q (.d d) M):(rnX w Ds).length=2/\NZ.pre (rnX w Ds) M/\∀y i,NZ.post (rnX w Ds) M y i->Q y i:=#[rfl,#[w,Ds,rfl,h],λy i e=>by obtain⟨⟨d,rfl,h1⟩,rfl⟩:=e w Ds rfl;exact q d h1]
def HV:FSp:=#[λt M=>∃(w:List Th) (Ds:List Deed),t=rnX w Ds/\Go17 w Ds,λt M y i=>∀(w:List Th) (Ds:List Deed),t=rnX w Ds->y = .d (aS (AS w Ds))/\i=M]
theorem eQ (h:Go17 w Ds) (q:Q (.d (aS (AS w Ds))) M):(rnX w Ds).length=2/\HV.pre (rnX w Ds) M/\∀y i,HV.post (rnX w Ds) M y i->Q y i:=#[rfl,#[w,Ds,rfl,h],λy i e=>by obtain⟨rfl,rfl⟩:=e w Ds rfl;exact q]
theorem A0M (m k:Nat):decide ((m:Int)/(2:Int) ^ k % 2=1)=eJ m k:=by unfold eJ;rw[show((2:Int) ^ k)=((2 ^ k:Nat):Int) by rw[Int.natCast_pow];rfl,<-Int.natCast_ediv];generalize m/2 ^ k=q;rw[a1K,decide_eq_true_iff,decide_eq_true_iff];lia
theorem A0N (h:eJ m k=aB):GM ys m (k+1)=GM ys m k:=by unfold GM;rw[b3J,b8Z,List.filter_cons_of_neg (by rw[h];exact nft),List.filter_nil,a4K]
theorem sW (hn:ys.Nodup) (hk:k < ys.length) (h:eJ m k=au):CL (GM ys m k) (ys.getD k #[#[]]) (1000+7*(k:Int)) (100000000000000*2 ^ k)=GM ys m (k+1):=by
 have e:GM ys m (k+1)=GM ys m k++[sV ys k]:=by unfold GM;rw[b3J,b8Z,List.filter_cons_of_pos h,List.filter_nil,xI];rfl
 have nd:=aT hn m (j:=k+1) hk;rw[e] at nd ⊢;unfold CL;rw[if_neg λq=>?_];. rfl
 . obtain⟨t,n,g⟩:=List.any_eq_true.mp q;rw[xI,b9X] at nd;exact nd.2.2 _ (zL.mpr #[t,n,rfl]) _ (List.mem_singleton.mpr rfl) (of_decide_eq_true g)
theorem sY (m k:Nat):(GM ys m k).length<=k:=by unfold GM;rw[zX];exact zN (yJ _ _) (by rw[xY];exact zR _)
open Classical in
def noT (d:PyData):PyData:=.bool (CT d)
theorem A0O (Ds:List Deed) (ys:List Str):((a1X 32).map λm=>aS (AS (FO ys m) Ds)).map noT=((a1X 32).map λm=>(AS (FO ys m) Ds).isNone).map .bool:=by rw[zD,zD];refine yM λm _=>?_;show PyData.bool (CT (aS (AS (FO ys m) Ds))) = .bool (AS (FO ys m) Ds).isNone;cases AS (FO ys m) Ds <;> rfl
theorem A5k (h:There zs w) (hz:zs.length < 60) (hD:∀D∈Ds,deed18 ys D) (hs:∀y∈ys,y∈zs) (b:Ds.length<=60):Go17 w Ds:=#[#[zs,h,hz,λD hd=>#[(hD D hd).1,λx hx=>hs x ((hD D hd).2 x hx)]],b]
end
end DL
namespace DL
open PySem PySem.Spec L2
def SQ (w:List Th):Deed->Int×Int->Int×Int
 | .move _ p,v=>(p,v.2)
 | .count _ k,v=>(v.1,v.2+k)
 | .split _ _ _ k,v=>(v.1,v.2 + -k)
 | .join _ y,v=>(v.1,v.2+((AA w y).getD (0,0)).2)
 | _,v=>v
def Apart (D E:Deed):Prop:=∀n∈E.names,n∈D.names->BE D.d n≠2/\BE E.d n≠2/\(BE D.d n=1\/BE E.d n=1)
theorem aU (h:C6 D.d E.d=aB):Apart D E:=λn hE hD=>by rw[qP] at h;have:=List.any_eq_false.mp h n hD;unfold qO JY at this;simp only[hE,decide_true,b6Q,b2Z,yA,Bool.not_eq_false',a0V,Bool.or_eq_true,beq_iff_eq,bne_iff_ne,ne_eq,Bool.not_eq_false] at this;exact#[this.1.2,this.2,this.1.1]
theorem Apart.symm (h:Apart D E):Apart E D:=λn h1 e=>#[(h n e h1).2.1,(h n e h1).1,(h n e h1).2.2.symm]
theorem A0P (x:Str) (p k:Int) (n:Str):BE (Deed.put x p k).d n=2:=rfl
theorem sZ (x n:Str):BE (Deed.take x).d n=2:=rfl
theorem KA (x:Str) (p:Int) (n:Str):BE (Deed.move x p).d n=0:=rfl
theorem P5 (x:Str) (k:Int) (n:Str):BE (Deed.count x k).d n=if x=n then 1 else 2:=by show(if (x==n)=au then 1 else 2)=_;simp only[beq_iff_eq]
theorem t0 (x y n:Str):BE (Deed.name x y).d n=2:=rfl
theorem L8 (x y:Str) (p k:Int) (n:Str):BE (Deed.split x y p k).d n=if x=n then 1 else 2:=by show(if (x==n)=au then 1 else 2)=_;simp only[beq_iff_eq]
theorem FQ (x y n:Str):BE (Deed.join x y).d n=if x=n then 1 else 2:=by show(if (x==n)=au then 1 else 2)=_;simp only[beq_iff_eq]
theorem F6 (hg:goD w D) (hn:n∉D.names):AA (doT w D) n=AA w n:=by rw[AY hg.2.1 hg.2.2];cases D <;> simp only[Deed.names,yX,xW,or_false,not_or] at hn <;> simp[hn]
theorem P6 (hg:goD w D) (hn:n∈D.names) (hu:BE D.d n≠2):AA (doT w D) n=(AA w n).map (SQ w D):=by
 rw[AY hg.2.1 hg.2.2];cases D with
 | put x p k=>exact absurd rfl hu
 | take x=>exact absurd rfl hu
 | name x y=>exact absurd rfl hu
 | move x p=>simp only[Deed.names,a6V] at hn;subst hn;simp only[if_pos];rfl
 | count x k=>simp only[Deed.names,a6V] at hn;subst hn;simp only[if_pos];rfl
 | split x y p k=>
   rw[L8] at hu;have hx:x=n:=by by_cases e:x=n;exact e;rw[if_neg e] at hu;exact absurd rfl hu
   subst hx;simp only[if_neg hg.2.1.2.1,if_pos];rfl
 | join x y=>
   rw[FQ] at hu;have hx:x=n:=by by_cases e:x=n;exact e;rw[if_neg e] at hu;exact absurd rfl hu
   subst hx;obtain⟨u,hy⟩:=here hg (n:=y) `jj (by simp[Deed.made]);simp only[if_neg hg.2.1.2.1,if_pos,hy];cases AA w x <;> simp[SQ,hy]
theorem iH (hg:goD w D) (h:n∈D.names->BE D.d n≠2):(AA (doT w D) n).isSome=(AA w n).isSome:=by
 by_cases hn:n∈D.names;. rw[P6 hg hn (h hn),a3Q]
 . rw[F6 hg hn]
theorem aV (h:∀m∈E.names,BE E.d m=2->AA A m=AA w m) (hr:E.real):SQ A E=SQ w E:=by
 funext v;cases E with
 | join x y=>simp only[SQ];rw[h y `jj (by rw[FQ,if_neg hr.2.1])]
 | _=>rfl
theorem iI (h1:goD w E) (t:goD A E) (h:∀m∈E.names,BE E.d m=2->AA A m=AA w m) (hn:AA A n=AA w n):AA (doT A E) n=AA (doT w E) n:=by
 rw[AY h1.2.1 h1.2.2,AY t.2.1 t.2.2];cases E with
 | put x p k=>dsimp only;rw[hn]
 | take x=>dsimp only;rw[hn]
 | move x p=>
   dsimp only;by_cases e:n=x;. subst e;rw[hn]
   . rw[if_neg e,if_neg e,hn]
 | count x k=>
   dsimp only;by_cases e:n=x;. subst e;rw[hn]
   . rw[if_neg e,if_neg e,hn]
 | name x y=>dsimp only;rw[h x `jj rfl,hn]
 | split x y p k=>
   dsimp only;by_cases e:n=x;. subst e;rw[hn]
   . rw[if_neg e,if_neg e,hn]
 | join x y=>
   dsimp only;rw[h y `jj (by rw[FQ,if_neg h1.2.1.2.1])];by_cases e:n=x;. subst e;rw[hn]
   . rw[if_neg e,if_neg e,hn]
theorem A0Q (hn:n∈D.names) (h:BE D.d n=1) (v:Int×Int):(SQ w D v).1=v.1:=by
 cases D with
 | move x p=>rw[KA] at h;cases h
 | _=>rfl
theorem t7 (h:BE D.d n=1\/BE E.d n=1) (v:Int×Int):SQ w E (SQ w D v)=SQ w D (SQ w E v):=by
 cases D <;> cases E <;> first
   | rfl
   | (refine Prod.ext rfl ?_;simp only[SQ];lia)
   | (exfalso;rw[KA,KA] at h;lia)
theorem VM (hD:goD w D) (hE:goD w E) (t:Apart D E) (hA:∀n,AA A n=AA (doT w D) n):B4 A E=B4 w E:=by
 have e:∀m∈E.names,BE E.d m=2->AA A m=AA w m:=λm i hu=>by rw[hA,F6 hD λh=>(t m i h).2.1 hu]
 cases E with
 | take x=>simp only[B4];rw[e x `jj rfl]
 | join x y=>simp only[B4];rw[e y `jj (by rw[FQ,if_neg hE.2.1.2.1])]
 | move x p=>
   obtain⟨v,N⟩:=here hE (n:=x) `jj (by simp[Deed.made]);by_cases hx:x∈D.names
   . have q:=t x `jj hx;have r:BE D.d x=1:=q.2.2.elim id λz=>by rw[KA] at z;cases z
     have:=hA x;rw[P6 hD hx q.1,N] at this;simp only[B4,this,N,b5W,A0Q hx r]
   . have:=hA x;rw[F6 hD hx] at this;simp only[B4,this]
 | _=>rfl
theorem iJ (hc:JD A) (hE:goD w E) (h:∀n∈E.names,(AA A n).isSome=(AA w n).isSome):goD A E:=#[hc,hE.2.1,NJ λn hn=>by rw[AU,h n hn,<-AU];exact BI hE.2.2 n hn]
theorem SR (hD:goD w D) (hE:goD w E) (x:goD A E) (y:goD B D) (t:Apart D E) (hA:∀n,AA A n=AA (doT w D) n) (hB:∀n,AA B n=AA (doT w E) n) (n:Str):AA (doT A E) n=AA (doT B D) n:=by
 have r:∀m∈E.names,BE E.d m=2->AA A m=AA w m:=λm i hu=>by rw[hA,F6 hD λh=>(t m i h).2.1 hu]
 have p:∀m∈D.names,BE D.d m=2->AA B m=AA w m:=λm i hu=>by rw[hB,F6 hE λh=>(t m h i).1 hu]
 by_cases h1:n∈D.names
 . by_cases e:n∈E.names;. have q:=t n e h1;rw[P6 x e q.2.1,P6 y h1 q.1,hA,hB,P6 hD h1 q.1,P6 hE e q.2.1,aV r hE.2.1,aV p hD.2.1,Option.map_map,Option.map_map];congr 1;funext v;exact t7 q.2.2 v
   . rw[F6 x e,hA];exact(iI hD y p (by rw[hB,F6 hE e])).symm
 . rw[F6 y h1,hB];exact iI hE x r (by rw[hA,F6 hD h1])
end DL
namespace L2
open PySem PySem.Spec PyProof.Rows
open AutoSeq1 (wpAny_loadPart')
section
variable {prog:bn}{w:bj}{A:bx}{E:ap->av->Prop}{s:av}
theorem iK (hh:A.handled=am) (hx:items[i]?=am):NxE prog w A it (λh=>h.IsTupleIter it l i/\h.IsTuple l items):=λs Q E hS hE=>by
 obtain⟨hit,t⟩:=hS;obtain⟨o,ho,hc,hd⟩:=id hit;obtain⟨L,e,_,r,n⟩:=id t;unfold a2Z;refine zZ (wpAny_callSpecial?_slot (name:=a0Q "__next__") hit.typeIs a6X (ce a6X hit.typeIs b7V ?_ (b7X _)));show wpAny _ _ (ik (.ref it) 0 >>= _) _ _ s;refine zZ (bd ho hd (x:=.ref l) rfl ?_);show wpAny _ _ (if (a0X l==a1Z)=au then _ else _) _ _ s;rw[if_neg (show ¬((a0X l==a1Z)=au) from nft)];show wpAny _ _ (ik (.ref it) 1 >>= _) _ _ s;refine zZ (bd ho hd (x:=.int i 0) rfl ?_);show wpAny _ _ (seqItems? (.ref l) >>= _) _ _ s;refine zZ (cR e n ?_);simp only[a7W,hx];refine zZ (db (zZ (di ho hd (by simp) ?_)));show wpAny _ _ (newExc (.type "StopIteration") [] >>= _) _ _ _;refine zZ ?_;simp only[newExc,newTuple];refine zZ (xM ?_ (by size_fits));refine zZ (m:=iv _ _) (io (a:=a1Z) (by first | rfl | (simp only[iv];rfl)) ?_);refine xM ?_ (by size_fits);simp only[raiseNew];refine zZ (wpAny_handled ?_);first | rw[show A.in1.handled=am from hh] | rw[hh]
 refine zZ (zY (wpAny_throw ?_));exact hE _ _ (((b5Q ..).extBut.push _).push _) #[_,yZ _ rfl,rfl]
theorem lM (hh:A.handled=am) (it l:Addr) (ao:l≠it) (items:Array ap):Draws prog w A it [it,l] items.size (λi v=>items[i]?=ak v) (λi h=>h.IsTupleIter it l i/\h.IsTuple l items) where
 live:=λ_ _ st=>let #[o,ho,_]:=st.1;#[o,ho]
 frame:=λ_ _ _ st hk=>#[st.1.at λo e=>hk it (by simp) o e,let #[o,e,r]:=st.2;#[o,hk l (by simp) o e,r]]
 item:=λi s Q E hi st hQ=>pR ao (y:=items[i]) (by simp[hi]) s Q E st λh' tk x e a b=>hQ x h' tk (by rw[e];simp[hi]) a b
 done:=λs Q E st hE=>iK hh (by simp) s Q E st hE
theorem lN {i:Nat}(hh:A.handled=am) (he:IsEnum s.heap e it i old) (hit:s.heap.IsTupleIter it l i) (r:s.heap.IsTuple l items) (hx:items[i]?=am) (n:∀h',Heap.ExtBut it s.heap h'->Q am { s with heap:=h' }):wpAny (model prog w) A (pyNext (.ref e)) Q E s:=by have t:s.TypeIs (.ref e) "enumerate" := #[_,he,rfl];unfold pyNext;refine zZ (wpAny_attempt (wpAny_callSpecial?_slot (name:=a0Q "__next__") t F.slot_enumerate_next (ce F.slot_enumerate_next t F.entry_enumerate_next ?_ (F.args_enumerate_next_1 _))));show wpAny _ _ (ik (.ref e) 2 >>= _) _ _ _;refine zZ (bd he rfl (x:=.ref it) rfl (zZ (iK (A:=A.in1) hh hx _ _ _ #[hit,r] λh' x m X=>?_)));obtain⟨o,ho,hc⟩:=X;exact zZ (wpAny_isInstance (T:= "StopIteration") (b:=au) #[o,ho,hc] isSubtype_stop (zY (n _ m)))
theorem aW (l:Addr) (items:Array ap) :
   Meets (Builtin.«enumerate.__new__» #[[.type "enumerate", .ref l],[]]) (λ_ R s=>s.heap.IsTuple l items /\
     R (.ok (.ret (.ref (s.heap.push { cls:=.type "tuple_iterator", data:=.fields (y9 [.ref l,.int 0 0]) }).objs.size))) { s with heap:=(s.heap.push { cls:=.type "tuple_iterator", data:=.fields (y9 [.ref l,.int 0 0]) }).push { cls:=.type "enumerate", data:=.fields (y9 [.none,.bool aB,.ref s.heap.objs.size,dc 0,.none,.none]) } }):=
 .of_wp λprog w A R s h=>by
   obtain⟨hp,g,d,m,U⟩:=s;obtain⟨hL,h⟩:=h;have Y:=sub_enumerate;obtain⟨⟨c,e,t,sl⟩,r,hc,n,hd⟩:=id hL
   wp_walk using fw r
   refine wpAny_stack_any λi=>zY ?_;split;. rename_i c _ _ _ _ _;cases (c==Value.type "enumerate") <;> (wp_walk using fw r,gl hL;exact#[_,rfl,h])
   . (wp_walk using fw r,gl hL;exact#[_,rfl,h])
theorem eR (hL:s.heap.IsTuple l items) (h:∀h',IsEnum h' (s.heap.objs.size+1) s.heap.objs.size 0 .none->h'.IsTupleIter s.heap.objs.size l 0 ->(∀b o,s.heap.get? b=ak o->h'.get? b=ak o)->Q (.ref (s.heap.objs.size+1)) { s with heap:=h' }) :
   wpAny (model prog w) A (call (.type "enumerate") [.ref l]) Q E s:=by
 refine callType_new F.called_enumerate `kh (F.typeCall_enumerate_1 _) (F.newCall_enumerate_1 _) (λobj=>F.args_object_init_2 obj _) F.entry_enumerate_new (aW l items) #[hL,?_];have u:(s.heap.push { cls:=.type "tuple_iterator", data:=.fields (y9 [.ref l,.int 0 0]) }).objs.size=s.heap.objs.size+1:=a9K ..;show _/\_;rw[u];have he:IsEnum ((s.heap.push { cls:=.type "tuple_iterator", data:=.fields (y9 [.ref l,.int 0 0]) }).push { cls:=.type "enumerate", data:=.fields (y9 [.none,.bool aB,.ref s.heap.objs.size,dc 0,.none,.none]) }) (s.heap.objs.size+1) s.heap.objs.size 0 .none:=by have:=yZ (s.heap.push { cls:=.type "tuple_iterator", data:=.fields (y9 [.ref l,.int 0 0]) }) (o:={ cls:=.type "enumerate", data:=.fields (y9 [.none,.bool aB,.ref s.heap.objs.size,dc 0,.none,.none]) }) rfl;rw[u] at this;exact this
 exact#[#[_,he,rfl],h _ he #[_,zW _ (yZ _ rfl),rfl,rfl] λb o x=>zW _ (zW _ x)]
end
end L2
namespace L2
open PySem PySem.Spec PyProof.Rows
def A5C (K:Frg) (l:Addr):It:=#[λi H=>∃t,SqT K H l t/\i < t.length,
  λi H x H'=>∃p a,H p=am/\x = .ref p/\H'=upd H p (.tup [.int (i:Nat),a])/\∀t,SqT K H l t->t[i]?=ak a,
  λi H=>∃t,SqT K H l t/\t.length<=i]
theorem eT {P:bn}{w:bj}{K:Frg}{l_:List bp}{kk:Nat}{jx:en}(e it l:Addr) (d1:e≠it) :
   Turn P w K (.Tuple l_ kk jx) (A5C K l) [e,it] e (λi h=>(∃old,IsEnum h e it (i:Nat) old)/\h.IsTupleIter it l i) where
 mem:=by simp
 obj:=by
   rintro i h ⟨⟨old,a1⟩,a2⟩ b hb;simp only[yX,xW,or_false] at hb;rcases hb with rfl | rfl;. exact⟨_,a1,λv q=>by cases q⟩
   . obtain⟨o,q,c,d⟩:=a2;exact⟨o,q,λv z=>by rw[d] at z;cases z⟩
 keep:=by rintro i h h' ⟨⟨old,a1⟩,a2⟩ k;exact#[#[old,k e (by simp) _ a1],a2.at λo q=>k it (by simp) o q]
 item:=by
   intro X hP hw hK hc i pins s σ H E I hf #[#[old,a1],a2] hg;subst hP hw hK;obtain⟨xs,hx,lx⟩:=hg;obtain⟨aa,rx,px,_⟩:=I.tuple hx;obtain⟨u,hu,ru⟩:=rx.get (zV lx);have hle:l≠e:=RQ I (hf e (by simp)) hx;have Gq:l≠it:=RQ I (hf it (by simp)) hx;have Ml:=rx.length;refine wpAny_pyNext_enum_itemD (lM (items:=aa.toArray) (A:=X.A.in1) (I.ok.hd hc) it l Gq) a1 #[a2,px] (show i < aa.toArray.size by simp;lia) d1 (by simp;exact#[d1,hle.symm]) λx h' tk ex b1 b2 b3 b4 hk=>?_;have ex:x=u:=by
     have:aa[i]?=ak x:=by simpa using ex
     rw[hu] at this;exact(Option.some.inj this).symm
   subst ex;refine#[_,rfl,wpAny_letOwnedTupleGo_enum (s:={ s with heap:=h',toks:=tk+1 }) b1 λh2 c1 sb=>?_];have lt:∀{c o},s.heap.get? c=ak o->s.heap.objs.size≠c:=λq=>a9J (zM q);have keep:∀b o,b∉[e,it]->s.heap.get? b=ak o->h2.get? b=ak o:=λb o hb q=>by simp only[yX,xW,or_false,not_or] at hb;exact sb.extBut b o hb.1 (hk b o hb.1 hb.2 q)
   have rn:s.heap.objs.size≠e:=lt a1;have I1:Inv X pins σ (upd H s.heap.objs.size (.tup [.int (i:Nat),xs[i]])) { s with heap:=h2,toks:=tk+1 }:=I.turnedT (t':=tk+1) (ch:=[e,it]) keep (λb hb=>(hf b hb).1) (λb hb=>let q:=hf b hb;#[q.2.2.2.1,q.2.1,q.2.2.2.2.1,q.2.2.2.2.2]) (zR _) #[by show 2<=a0;decide,[.int (i:Nat) tk,x],.cons #[_,rfl] (.cons ru .nil),#[_,sb.extBut _ _ rn b3,rfl,_,rfl]];refine#[.ref s.heap.objs.size,_,I1,rfl,#[s.heap.objs.size,xs[i],I.hok.fresh (zR _),rfl,rfl,λPg pb=>?_],#[#[_,c1],let #[o,q,r]:=b2.1;#[o,sb.extBut it o (a4Q d1) q,r]],λb hb=>?_];. rw[I.tuple_inj pb hx];exact zV lx
   . have cf:s.heap.objs.size≠b:=by
       simp only[yX,xW,or_false] at hb;rcases hb with rfl | rfl;. exact lt a1
       . obtain⟨o,q,_⟩:=a2;exact lt q
     rw[AH (a4Q cf)];exact(hf b hb).1
 done:=by
   intro X hP hw hK hc i pins s σ H E I hf #[#[old,a1],a2] hg;subst hP hw hK;obtain⟨xs,hx,Mm⟩:=hg;obtain⟨aa,rx,px,_⟩:=I.tuple hx;have e1:=rx.length;have Gq:l≠it:=RQ I (hf it (by simp)) hx;refine lN (I.ok.hd hc) a1 a2 px (by rw[c0X];simp;lia) λh' hk=>#[rfl,I.turnedL (t':=s.toks) (ch:=[e,it]) (λb o hb q=>?_) (λb hb=>(hf b hb).1) λb hb=>let q:=hf b hb;#[q.2.2.2.1,q.2.1,q.2.2.2.2.1,q.2.2.2.2.2]]
   simp only[yX,xW,or_false,not_or] at hb;exact hk b o hb.2 q
 self:=λ_ _ _ _ _ st h=>let #[_,q]:=st.1;wpAny_pyIter_enum q h
section
variable {X:Cx}{K:Frg}
def t8 (K:Frg) (j:TA):TI:=λi H R=>j i H λt e=>∃a,t=[.ref a]/\(∃n,SqT K e a n)/\R (A5C K a) e
theorem A3X {a:bp}{j:TA}{p pos:en}{Y:List bp}{y:Nat}{c:en}(hk:X.K=K) (hg:Gl X "enumerate") (r:X.mg "enumerate"=am) (i:PA X [a] j) (hs:starEach [a] X.env=[(aB,eval a X.env)]:=by rfl) :
   PI X (.Tuple Y y c) (.Call (.Name "enumerate" p) [a] [] pos) (t8 K j):=by
 subst hk;intro pins s k H R I h;refine Call_ (OD I hg r boot_enumerate (xH (thn (i pos pins s k H _ I h) λO m Z=>?_) hs rfl));obtain⟨S,t,J,v,g⟩:=Z;obtain⟨l,e,⟨M,hx⟩,q⟩:=g;subst e;obtain⟨u,rfl,T⟩:=JB v;cases T;obtain⟨x,N,f,_⟩:=J.tuple hx;refine eR f λn b1 z hk=>?_;refine wpAny_pyIter_enum (s:={ m with heap:=n }) b1 ?_;refine#[m.heap.objs.size+1,[m.heap.objs.size+1,m.heap.objs.size],_,_,t,rfl,J.kept (t':=m.toks) hk,eT (m.heap.objs.size+1) m.heap.objs.size l (Nat.succ_ne_self _),#[#[_,b1],z],λb hb=>?_,q];have hle:m.heap.objs.size<=b:=by
   simp only[yX,xW,or_false] at hb;rcases hb with rfl | rfl;. exact c0K _ _
   . exact zR _
 exact J.fpOk hle (J.hok.fresh hle)
end
end L2
namespace DL
open PySem PySem.Spec L2
section
theorem t9 (h:DA K j ρ M λxs M1=>∃as,xs=[.d (.tuple as)]/\QI (Q2 as) M1):DI K (t8 K j) ρ M QI:=λJ H R Y k=>
 h J H _ Y λU f xs M1 S O D I=>by
   obtain⟨as,e,q⟩:=I;subst e;obtain⟨v,r,rfl,h1,G⟩:=O;cases G;unfold SI DV at h1;obtain⟨a,b,rfl,m,hd⟩:=h1;have c:(Q2 as).length=as.length:=by unfold Q2;rw[zX,List.length_zipIdx]
   refine#[a,rfl,#[b,m.sq],k _ (Q2 as) f M1 S D #[λi H' n hi z t=>?_,λH' n z t=>?_,λi H' n x L z t hi y=>?_] q];. rw[c] at hi;exact#[b,(m.grow t.grow).sq,by rw[hd.length];lia]
   . refine#[b,(m.grow t.grow).sq,?_];rw[c,hd.length];lia
   . obtain⟨p,B,hp,rfl,rfl,hy⟩:=y;have u:=hy b (m.grow t.grow).sq;obtain⟨g,T,Q⟩:=hd.get u;have N:Grow K n.W n.W H' (upd H' p (.tup [.int (i:Nat),B])):=AZ _ hp;refine#[z.new hp,#[N],.tuple [.int (i:Nat),g],?_,?_];. unfold Q2;rw[zF,List.getElem?_zipIdx,T];simp
     . unfold DV;exact#[p,_,rfl,.inl #[λw=>w (z.none hp),.inl AF],DVs.cons (by unfold DV;rfl) (DVs.cons ((Q.grow t.grow).grow N) DVs.nil)]
end
end DL
namespace DL
open PySem PySem.Spec L2 XC
structure rowP (w:List Th) (Ds:List Deed):Prop where
 fine:EO w
 book:CJ w Ds
 few:w.length+Ds.length < 60
def JO (w:List Th) (Ds:List Deed):List DS:=[.d (wD w),.d (.tuple (Ds.map Deed.d))]
theorem L9 (e:JO w Ds=JO h t):w=h/\Ds=t:=by
 unfold JO at e;simp only[List.cons.injEq,DS.d.injEq,PyData.tuple.injEq,and_true] at e;refine#[OU e.1,?_];have:=e.2;clear e;induction Ds generalizing t with
 | nil=>cases t with | nil=>rfl | cons _ _=>cases this
 | cons a r Q=>cases t with
   | nil=>cases this
   | cons b s=> simp only[zI,List.cons.injEq] at this;rw[BW this.1,Q this.2]
end DL
namespace DL
open PySem PySem.Spec L2
theorem tD (h:rowP w Ds):EO (K0 w Ds)/\(K0 w Ds).length<=w.length+Ds.length:=by have:=L0 h.book h.fine h.few (zR _);rw[show wsF w Ds Ds.length=K0 w Ds by unfold wsF;rw[a1Q]] at this;exact#[this.1,this.2.1]
end DL
namespace L2
open PySem PySem.Spec PyProof.Rows
def A1W (i r iter:bp) (ifs:List bp) (dp:Nat) (em:Sem Fin->Sem Fin) (it acc:ap) (env:ic):Sem Fin:=do
 standAt iter.pos
 match <- pyNext it with
 | none=>pure (.done .next)
 | some v=>
   letOwnedTupleGo r it v
   iD r env v
   let mut ok:=au
   for c in ifs do
     if ok then ok <- isTrue c env (eval c env)
   if ok then em (again (.compLoop i dp it acc env)) else again (.compLoop i dp it acc env)
def tE (prog:bn) (w:bj) (A:bx) (i target:bp) (ifs:List bp) (dp:Nat) (tl:ic->Addr->(av->Prop)->av->Prop):Prop:=∀(L D:Addr) (env:ic) (R:Result->av->Prop) (I:Nat->av->Prop),(∀n s,I n s->wpAny (model prog w) A (pyNext (.ref L)) (λr y=>match r with
     | none=>R (.ok .next) y
     | some v=>wpAny (model prog w) A (letOwnedTupleGo target (.ref L) v) (λ_ b=>wpAny (model prog w) A (iD target env v) (λ_ G=>
         wpAny (model prog w) A (ME ifs env) (λok S=>if ok=au then tl env D (λs'=>∃m,m < n/\I m s') S else ∃m,m < n/\I m S) (λ_ _=>False) G) (λ_ _=>False) b) (λ_ _=>False) y) (λ_ _=>False) s) ->
   ∀n s,I n s->codeAny (model prog w) A (.compLoop i dp (.ref L) (.ref D) env) R s
theorem tF {em:Addr->ic->Sem Fin->Sem Fin} (he:∀it D env,compTurn (.ListComp elt gens scope pos) dp (.ref it) (.ref D) env=A1W (.ListComp elt gens scope pos) target iter ifs dp (em D env) (.ref it) (.ref D) env) (m:∀env D P s k Q E,tl env D P s->(∀s',P s'->wpAny (model prog w) A k Q E s')->wpAny (model prog w) A (em D env k) Q E s):tE prog w A (.ListComp elt gens scope pos) target ifs dp tl:=by
 intro it D env R I turn n s h;refine codeAny_loop rfl I (λn s hI=>?_) n h;show wpAny _ A ((compTurn (.ListComp elt gens scope pos) dp (.ref it) (.ref D) env).onRaise (λx=>do gg x env;theTreesLotGoes x)) _ _ s;refine wpAny_noted ?_;rw[he];unfold A1W;refine zZ (bv (zZ (bf (AN (turn n s hI)) (λr y c=>?_) λ_ _ b=>b)));cases r with
 | none=>exact zY c
 | some v=>
   refine zZ (bf (AN c) (λ_ t p=>?_) λ_ _ b=>b);refine zZ (bf (AN p) (λ_ G U=>zZ (bf (AN U) (λok S e=>?_) λ_ _ b=>b)) λ_ _ b=>b);cases ok with
   | false=>exact zY #[rfl,e]
   | true=>exact m _ _ _ _ _ _ _ e λi X=>zY #[rfl,X]
def tlC (prog:bn) (w:bj) (A:bx) (i B:bp):ic->Addr->(av->Prop)->av->Prop:=λenv D P s=>
 wpAny (model prog w) A (eval B env) (λx y=>wpAny (model prog w) A (pyIter x) (λL G=>codeAny (model prog w) A (.compStart i 1 L (.ref D) env) (λr s'=>match r with | .ok _=>P s' | .error _=>False) G) (λ_ _=>False) y) (λ_ _=>False) s
section
theorem A3Y (hs:∀env x,ca ai env x=pure x):WA prog w A (.ListComp elt [#[tg,iter,[],0],#[kf,ai,[],0]] scope pos) tg [] (tlC prog w A (.ListComp elt [#[tg,iter,[],0],#[kf,ai,[],0]] scope pos) ai):=by
 refine tF (iter:=iter) (dp:=0) (em:=λD env k=>do
           let x <- eval ai env
           standAt ai.pos
           let x <- ca ai env x;let _ <- runOwn (.compStart (.ListComp elt [#[tg,iter,[],0],#[kf,ai,[],0]] scope pos) 1 (<- holding [x] (pyIter x)) (.ref D) env) env
           k) (λL D env=>rfl) λenv D P s k Q E h hk=>?_;refine zZ (thn (AN h) λx y c=>zZ (bv (zZ (io (hs env x) (zZ (bt (thn (AN c) λL G U=>?_)))))));refine zZ (wpAny_runOwn (xN U λr s' hr=>?_));cases r with
 | ok f=>exact hk _ hr
 | error e=>exact hr.elim
theorem tG:tE prog w A (.ListComp elt [#[tg,iter,[],0],#[kf,ai,[],0]] scope pos) kf [] 1 (tlL prog w A elt):=by refine tF (iter:=ai) (em:=λD env k=>(do let _ <- call (.builtin "list.append") [.ref D,<-eval elt env]) >>= λ_=>k) (λL D env=>rfl) λenv D P s k Q E h hk=>?_;exact zZ (zZ (thn (AN h) λx t X=>zZ (thn (AN X) λ_ v e=>zY (hk _ e))))
theorem lO  (I:codeAny (model prog w) A (.compLoop (.ListComp elt [#[tg,iter,[],0],#[kf,ai,[],0]] scope pos) 1 it acc env) R s) (h:wpAny (model prog w) A (pyIter it) (λk s'=>codeAny (model prog w) A (.compLoop (.ListComp elt [#[tg,iter,[],0],#[kf,ai,[],0]] scope pos) 1 k acc env) R s') (notedBy (model prog w) A env λx s'=>R (.error x) s') s) :
   codeAny (model prog w) A (.compStart (.ListComp elt [#[tg,iter,[],0],#[kf,ai,[],0]] scope pos) 1 it acc env) R s:=by
 refine codeAny_of_tree ?_;show wpAny _ _ ((compStart (.ListComp elt [#[tg,iter,[],0],#[kf,ai,[],0]] scope pos) 1 it acc env).onRaise (λx=>do gg x env;standAt theWindowsPlace)) _ _ s;refine wpAny_notedAt ?_;unfold compStart;show wpAny _ _ (ask >>= _) _ _ s;refine zZ (wpAny_askSetting (wpAny_ite ?_));split
 . first
     | exact zZ (zY (zY (And.intro rfl I)))
     | exact zY (And.intro rfl I)
 . first
     | exact zZ (db (zZ (bv (zZ (bf h (λk s' b=>zY (And.intro rfl b)) λ_ _ x=>x)))))
     | (refine zZ (db ?_);show wpAny _ _ (standAt ai.pos >>= _) _ _ s;exact zZ (bv (zZ (bf h (λk s' b=>zY (And.intro rfl b)) λ_ _ x=>x))))
end
def A3Z (L:TI) (h:TG) (j:TE):Addr->Nat->(Nat->List V->Hp->Prop)->St->Hp->Prop:=λD n W p H=>L p H λJ c=>∃O:Nat->Nat->Hp->Prop,(∃m,O 0 m c) /\∀i m f,O i m f->(J.stop i f/\∃e k,e < n/\W e k f)\/(J.go i f/\∀x b,J.yld i f x b->h x p b λt g=>
   (∀(i:Nat) v,p[i]?=ak (ak v)->t[i]?=ak (ak v))/\j t g λy z=>∃r,z D=ak (.lst r)/\r.length < a0/\∃e,e < m/\O (i+1) e (upd z D (.lst (r++[y]))))
def tH (q:List (Option Nat)) (X:TI) (g:TG) (L:TI) (e:TG) (t:TE):TE:=A1J q X g vF [] .lst (A3Z L e t)
section
variable {X:Cx}{scope:eN}{NC:List Str}{fr:List (Option Nat)}{elt iter tg ai kf:bp}{pos:en}{wi rq:TI}{g g1:TG}{te:TE}
theorem lP (hx:Y.xe=λ_ _=>False) (hc:Y.calm=au) (hi:PI Y kf ai rq) (hg:PG Y kf g1) (he:PE Y elt te) {t:St} (I:Inv Y pn t H s) (q:A3Z rq g1 te D n W t H) (k:∀m y z h,m < n->W m y z->Inv Y pn t z h->P h):tlC Y.prog Y.w Y.A (.ListComp elt [#[tg,iter,[],0],#[kf,ai,[],0]] scope pos) ai Y.env D P s:=by
 have hi':=hi pn s t H _ I q;rw[hx] at hi';refine thn hi' λv s1 h1=>thn h1 λBv h h2=>?_;obtain⟨it,N,tn,J,z,e,I2,T,U,Q,L,⟨m0,w0⟩,turn⟩:=h2;subst e;have stat:∀{H':Hp},(∀b∈N,H' b=am)->∀b∈N,N4 Y pn H' b:=λhn b hb=>#[hn b hb,(Q b hb).2]
 have loop:codeAny (model Y.prog Y.w) Y.A (.compLoop (.ListComp elt [#[tg,iter,[],0],#[kf,ai,[],0]] scope pos) 1 (.ref it) (.ref D) Y.env) (λr s'=>match r with | .ok _=>P s' | .error _=>False) h:=by
   refine tG _ _ _ _ (λn s'=>∃i H',Inv Y pn t H' s'/\tn i s'.heap/\(∀b∈N,H' b=am)/\L i n H') ?_ m0 _ #[0,_,I2,U,λb hb=>(Q b hb).1,w0];rintro n s3 ⟨i,f,G,Z,zl,w3⟩;rcases turn i n f w3 with ⟨stop,p,ys,hm,wn⟩ | ⟨go,step⟩
   . refine thn (T.done Y rfl rfl rfl hc i pn s3 t f _ G (stat zl) Z stop) ?_;rintro r s4 ⟨hr,I4⟩;subst hr;exact k p ys f s4 hm wn I4
   . refine thn (T.item Y rfl rfl rfl hc i pn s3 t f _ G (stat zl) Z go) ?_;rintro r s4 ⟨u,hr,h4⟩;subst hr;refine thn h4 ?_;rintro _ s5 ⟨x,B,I5,r5,y5,O,yt⟩;have C_:=I5.pinned (stat yt) (T.obj _ _ O);have S:=hg _ s5 t B x u _ C_ r5 (step x B y5);rw[hx] at S;refine thn S ?_;rintro _ s6 ⟨c,H6,I6,Eo,q6⟩;refine wpAny_tests_nil (if_pos rfl▸?_);have M:=he _ s6 c H6 _ I6 q6;rw[hx] at M;refine thn M ?_;rintro y s7 ⟨yv,H7,I7,r7,b_,hD,hsz,p,vq,w'⟩;have ha:=OF _ s7 c H7 (.ref D) [yv] (.ref D) [y] (λ_ H'=>∃p,p < n/\L (i+1) p H') I7 rfl (.cons r7 .nil) #[_,b_,yv,rfl,rfl,hD,hsz,p,vq,w'];rw[hx] at ha;refine thn ha ?_;rintro _ s8 ⟨_,H8,j,_,Ab,xt,Dm⟩;refine#[Ab,xt,i+1,H8,j.unpinned.weak (by rw[j.len,I.len]) Eo,T.keep _ _ _ O λb hb o e=>(j.pin (b,o) (zB _ (zB _ (E8 hb e)))).1,λb hb=>?_,Dm];obtain⟨o,e,d⟩:=T.obj _ _ O b hb;exact(j.pin (b,o) (zB _ (zB _ (E8 hb e)))).2.1
 exact lO loop (T.self _ 0 _ _ _ U loop)
theorem tI (hc:X.calm=au) (S:CSc X scope NC fr) (hi:PI X tg iter wi) (hb:∀(C:Addr) (s:av) (H:Hp) (p:List Addr) (pn:List (Addr×cy)),PG (AT X scope NC C s H p pn) tg g/\PI (AT X scope NC C s H p pn) kf ai rq/\PG (AT X scope NC C s H p pn) kf g1/\PE (AT X scope NC C s H p pn) elt te) (hs:∀x,ca iter X.env x=pure x:=by intro _;rfl) (t:∀env x,ca ai env x=pure x:=by intro _ _;rfl):PE X (.ListComp elt [#[tg,iter,[],0],#[kf,ai,[],0]] scope pos) (tH fr wi g rq g1 te):=by
 intro pins s e H Q I h;rw[eval_ListComp];refine OJ (use:=am) (Q:=Q) (y0:=[]) (at_:=.lst) (Ty:= "list") (dt:=.seq #[]) (tl:=tlC X.prog X.w X.A (.ListComp elt [#[tg,iter,[],0],#[kf,ai,[],0]] scope pos) ai) (el:=A3Z rq g1 te) rfl rfl (by size_fits) (λH h _=>#[xT _,[],0,.nil,yZ _ rfl]) (A3Y t) codeAny_compStart_list hc S hi (λC s H p pn=>#[(hb C s H p pn).1,fY,λvi s' e H' D n W P I q k=>?_]) I h (λD C H' s' m c i hn q back _ b r=>?_) hs;. exact lP (Y:=AT X scope NC C s H p pn) rfl hc (hb C s H p pn).2.1 (hb C s H p pn).2.2.1 (hb C s H p pn).2.2.2 I q k
 . exact#[.ref D,H',back pins e H' s' b i r,rfl,q]
end
end L2
namespace DL
open PySem PySem.Spec L2
theorem lQ {D e:Type}(F:D->List e) {l:List D}{i:Nat}{d:D}(h:l[i]?=ak d):(l.take (i+1)).flatMap F=(l.take i).flatMap F++F d:=by rw[a2Q,h,b0K];simp
theorem tJ {D t:Type}(F:D->List t) (l:List D) (i:Nat):((l.take i).flatMap F).length<=(l.flatMap F).length:=by
 have e:(l.take i).flatMap F++(l.drop i).flatMap F=l.flatMap F:=by rw[<-b0K,b1K]
 rw[<-e,yY];exact c0K _ _
section
theorem iL {N:Own}:(N.del A).Sub N:=λb o q=>by
 unfold Own.del at q;by_cases hb:b=A;. rw[if_pos hb] at q;cases q
 . rw[if_neg hb] at q;exact q
theorem tK (ho:JU g T) (hT:∀i∈T,∀j,p[i]?≠ak (ak j)) (Cg:JU g1 T1) (hT1:∀i∈T1,i∉T/\∀j,p[i]?≠ak (ak j)) (h:DI K wi ρ M λds M1=>∃(r:PyData->List PyData) (f:PyData->PyData->PyData),(ds.flatMap λd=>(r d).map (f d)).length < a0/\(∀d∈ds,∀n,DG K g d (GC p ρ) n λX M2=>M2=n/\DI K rq X M2 λes M3=>M3=n/\es=r d/\∀e∈es,∀n,DG K g1 e X n λb M4=>M4=n/\DE K te b M4 λy M5=>y = .d (f d e)/\M5=n)/\Q (.d (.list (ds.flatMap λd=>(r d).map (f d)))) M1) :
   DE K (tH p wi g rq g1 te) ρ M Q:=λσ H QQ R k=>
 h σ H _ R λJ ds H1 M1 Y t1 wd dr=>by
   obtain⟨r,f,hsz,he,q⟩:=dr;intro A hA;obtain⟨oA,sA⟩:=QH Y hA (DVs.nil (K:=K) (H:=H1) (W:=M1.W));generalize hF:(λd=>(r d).map (f d))=F at hsz q;refine#[λi m ys t=>m=ds.length - i/\i<=ds.length/\t A=ak (.lst ys)/\OA K t (M1.put A (.l ((ds.take i).flatMap F)))/\Step K M1 (M1.put A (.l ((ds.take i).flatMap F))) H1 t,#[_,rfl,xT _,AF,oA,sA],?_];rintro i m ys t ⟨rfl,hi,vz,D,I⟩;refine#[vz,?_];by_cases cf:i < ds.length
   . refine .inr #[wd.go i t _ cf D I,λx H3 y=>?_];obtain⟨xw,fq,d,e1,e2⟩:=wd.yld i t _ x H3 D I cf y;have Rc:Rel K _ (GC p ρ) (L2.capt p σ) H3:=((R.step Y t1).step xw (I.trans fq)).capt;refine ho _ _ _ _ (he d (yN e1) _ (L2.capt p σ) H3 x _ Rc e2 λb M3 U H4 R3 ib #[eM,b3] hext=>#[λu v' v=>?_,?_]);. obtain⟨j,r,f2⟩:=F9 v;rw[hext u λhm=>hT u hm j r];exact v
     . subst eM;unfold vF;refine L2.jK ?_;refine b3 U H4 _ R3 ?_;rintro J1 es H5 M5 o5 t5 Z ⟨Ec,Mo,lr⟩;subst Ec;have Gs:F d=es.map (f d):=by rw[<-hF,Mo]
       have Gu:=lQ F e1;have Ml:((ds.take i).flatMap F).length+es.length < sizeLine:=by have:=tJ F ds (i+1);rw[Gu,yY,Gs,zX] at this;lia
       refine#[λj m c=>m=es.length - j/\j<=es.length/\OA K c (M1.put A (.l ((ds.take i).flatMap F++(es.take j).map (f d))))/\Step K (M1.put A (.l ((ds.take i).flatMap F))) (M1.put A (.l ((ds.take i).flatMap F++(es.take j).map (f d)))) H5 c,#[_,rfl,xT _,by simpa using o5,by simpa using Step.refl],?_];rintro j m c ⟨rfl,hj,S,G⟩;by_cases hjl:j < es.length
       . refine .inr #[Z.go j c _ hjl S G,λx1 H7 y1=>?_];obtain⟨Mp,wt,e,Gv,Ea⟩:=Z.yld j c _ x1 H7 S G hjl y1;have R7:Rel K _ b U H7:=R3.step Mp ((t5.trans G).trans wt);refine Cg _ _ _ _ (lr e (yN Gv) _ U H7 x1 _ R7 Ea λρ4 M8 σ4 H8 R8 st8 #[Mq,b8] hext1=>#[λu v' v=>?_,?_])
         . rw[hext1 u λhm=>?_];. exact v
           . obtain⟨hn,hc⟩:=hT1 u hm;rw[hext u hn] at v;obtain⟨j',Mr,_⟩:=F9 v;exact hc j' Mr
         . subst Mq;refine b8 σ4 H8 _ R8 ?_;rintro y H9 z M9 o9 s9 Ms ⟨ez,Mt⟩;subst ez Mt;obtain⟨L,B,O⟩:=o9 A _ zU;obtain⟨w1,w2⟩:=HA o9 zU (O.append (DVs.cons s9 DVs.nil));rw[yI] at w1 w2;have e3:(ds.take i).flatMap F++(es.take j).map (f d)++[f d e]=(ds.take i).flatMap F++(es.take (j+1)).map (f d):=by rw[a2Q,Gv,List.append_assoc];simp
           rw[e3] at w1 w2;refine#[L,B,?_,es.length - (j+1),by lia,rfl,hjl,w1,(((G.trans wt).trans st8).trans Ms).trans w2];rw[O.length,yY,zX,a0K];lia
       . have e:j=es.length:=by lia
         subst e;obtain⟨L,B,O⟩:=S A _ zU;rw[a1Q,<-Gs,<-Gu] at S G;exact .inl #[Z.stop c _ S G,ds.length - (i+1),L,by lia,rfl,cf,B,S,(((I.trans fq).trans ib).trans t5).trans G]
   . have e:i=ds.length:=by lia
     subst e;refine .inl #[wd.stop t _ D I,?_];obtain⟨L,B,O⟩:=D A _ zU;have e4:=yG (o:=.l ((ds.take ds.length).flatMap F)) (Y.none hA);have bw:Step K (M1.put A (.l ((ds.take ds.length).flatMap F))) M1 t t:=by
       have:=(#[BB (iL (N:=M1.put A (.l ((ds.take ds.length).flatMap F))) (A:=A))]:Step K _ _ t t)
       rwa [e4] at this
     have Mu:OA K t M1:=by have:=D.sub (iL (A:=A));rwa [e4] at this
     refine k _ t (.d (.list (ds.flatMap F))) M1 Mu ?_ ((t1.trans I).trans bw) q;unfold SI DV;rw[a1Q] at O bw;exact#[A,L,rfl,.inl #[λw=>w (Y.none hA),.inl B],O.grow bw.grow]
end
end DL
namespace DL
open PySem PySem.Spec L2 XC
section
theorem A0R (h:DE K ty ρ M λy M1=>DE K td ρ M1 λx e=>∃(ts:List (Str×PyData)) (k:Str),x = .d (.dict (AG ts))/\y = .d (.str k)/\Q (.d (.bool (B3 ts k).isSome)) e):DE K (v9 ty td) ρ M Q:=λr H QQ R z=>
 h r H _ R λv p x M1 S N i h1=>h1 r p _ (R.step S i) λu b y e T n O c=>by
   obtain⟨ts,k,rfl,rfl,q⟩:=c;unfold SI DV at n;obtain⟨a,t,rfl,nw,j,g⟩:=n;rw[BC N];refine#[a,G5 t (a1W k),rfl,.inl #[t,a1W k,j,rfl,rfl],z _ b _ e T ?_ (i.trans O) q];rcases DD (k:=k) g with ⟨D,B,m,f,I⟩ | ⟨m,f⟩
   . rw[m,f];exact AK
   . rw[m,f];exact AK
end
end DL
namespace DL
open PySem PySem.Spec L2 XC
theorem aX {D e:Type}{F:D->List e}{n:Nat}:∀{l:List D},(∀x∈l,(F x).length<=n)->(l.flatMap F).length<=l.length*n
 | [],_=>by simp
 | x::r,h=>by rw[b0X,yY,yR,Nat.succ_mul];have:=aX (l:=r) λy hy=>h y (yV _ hy);have:=h x (by simp);omega
end DL
namespace DL
open PySem PySem.Spec L2 XC
section
theorem aY:∀{A B:List Deed}{w:List Th},CJ w (A++B)↔CJ w A/\CJ (K0 w A) B
 | [],_,_=>by simp[CJ,K0]
 | D::A,B,w=>by show goD w D/\CJ (GI w D) (A++B)↔(goD w D/\CJ (GI w D) A)/\CJ (K0 (GI w D) A) B;rw[aY (A:=A),and_assoc]
end
end DL
namespace DL
open PySem PySem.Spec L2
section
theorem U4 (ho:JU g T) (hT:∀i∈T,∀j,u[i]?≠ak (ak j)) (h:DI K wi ρ M λds M1=>ds.length < a0/\∃(c:PyData->Bool) (f:PyData->PyData),(∀d∈ds,∀A acc e,M1 A=am->e=M1.put A (.l acc)->DG K g d (GC u ρ) e λr m=>m=e/\DT K L r m λb B=>B=e/\b=c d/\(c d=au->DE K D r B λy O=>y = .d (f d)/\O=e))/\∀A,M1 A=am->Q (.loc A) (M1.put A (.l ((ds.filter c).map f)))) :
   DE K (PR u wi g L D) ρ M Q:=by
 refine rP ho hT λx H R Rl k=>h x H R Rl λJ ds X M1 o1 t1 wd q=>k J ds X M1 o1 t1 wd ?_;obtain⟨hsz,c,f,he,q⟩:=q;refine#[hsz,λA hA=>#[λk acc e=>acc=((ds.take k).filter c).map f/\e=M1.put A (.l acc),#[by simp,rfl],λk acc e #[n,t]=>#[by rw[t];exact zU,?_],λk d acc e hd #[n,t]=>?_,λacc e #[n,t]=>?_]];. rw[n,zX];exact zN (yJ _ _) (by rw[a0K];lia)
 . have hm:d∈ds:=yN hd;intro x H v QQ R dv kk;refine he d hm A acc e hA t x H v QQ R dv λI m z H' R' st dr=>kk I m z H' R' st λN Y QQ2 R2 k2=>?_;obtain⟨eM,q2⟩:=dr;refine q2 N Y QQ2 R2 λb Z B o3 fq sk=>k2 b Z B o3 fq ?_;obtain⟨U,p,q3⟩:=sk;have G:(ds.take (k+1)).filter c=(ds.take k).filter c++(if c d then [d] else []):=hY c ds k d hd;cases hb:c d with
   | false=> rw[hb] at p;subst p;refine L2.nP #[?_,by rw[U,t]];rw[G,hb,n];simp
   | true=>
     rw[hb] at p;subst p;refine L2.jK ?_;refine WE (q3 hb) λy O #[ey,S]=>#[f d,ey,by rw[S,t];exact zU,?_,by rw[S,t,yI]]
     rw[G,hb,n];simp
 . rw[t,n,a1Q];exact q A hA
end
end DL
namespace XC
open PySem PySem.Spec L2
open PyProof.Rows (envOfC AllBare)
structure RoomA (k:Nat) (A:bx):Prop where
 dp:A.depth+3*k+5 < recursionLimit
 un:A.units+16*k+200 < eh
theorem RoomA.of (r:Room k A):RoomA k A:=#[r.dp,r.un]
theorem RoomA.make (r:RoomA (k+1) A) (C:Addr) (v:List ap) (y:List (Str×ap)):RoomA k (A.under (.builtin "type.__call__" #[.ref C::v,y])):=#[by rw[RA];have:=r.dp;lia,by rw[RB];have:=r.un;lia]
structure FnOkA (P:bn) (w:bj) (K:Frg) (mg:Str->Option ap) (base:cc) (k:Nat) (f:Addr) (fd:dl) (ps:List Str) (sp:Sp):Prop where
 len:∀vs H Q E,sp vs H Q E->vs.length=ps.length
 run:∀(A:bx) (outer:List ic) (s:av) (H:Hp) (args:Args) (us:List ap) (vs:List V) (Q:VK) (E:XK),RoomA k A->Env0 P w K mg base A outer s H->BindsTo s fd args (ps.zip us)->Vals vs us->sp vs H Q E ->
   codeAny (model P w) A (.call (.ref f) args) (CR CX0 outer P w H s Q E) s
def cxA (P:bn) (w:bj) (K:Frg) (mg:Str->Option ap) (base:cc) (N:List Str) (qual:Str) (scope:eN) (f:Addr) (cd:ap) (A:bx) (outer:List ic) (s:av) (H:Hp) (E:XK):Cx:={ IC CX0 P w K mg base N qual scope f cd A outer s H E with calm:=aB,xe:=λ_ _=>False }
theorem A3a {P:bn}{w:bj}{K:Frg}{mg:Str->Option ap}{base:cc}{k:Nat}{f:Addr}{name qual:Str}{params:Arguments}{body:List eg}{scope:eN}{g kV doc j cdv ct L:ap}{p X:Option Addr} {osl:Array (Option ap)}{N ps:List Str}{sp:Sp}(G:K.lookup f=ak #[L,X,.func (a5Q name qual params body scope g kV doc j p cdv ct),osl]) (U:b0Z K cdv qual=au) (S:FnScope N ps scope) (len:∀vs H Q E,sp vs H Q E->vs.length=ps.length) (T:∀(A:bx) (outer:List ic) (s:av) (H:Hp) (vs:List V) (Q:VK) (E:XK),sp vs H Q E->∃t,PSs (cxA P w K mg base N qual scope f cdv A outer s H E) body t/\t { nx:=λ_ H'=>Q .non H',rt:=Q } (E5 N vs) H) :
   FnOkA P w K mg base (k+1) f (a5Q name qual params body scope g kV doc j p cdv ct) ps sp:=by
 refine#[len,λA outer s H args Z vs Q E hr M hb r h=>?_];have D:=len _ _ _ _ h;have KX:K.In s.heap:=M.mod.kin.keeps λb o e=>(M.bs b o e).1;have lim:s.heap.NoLimit:=M.mod.nolimit.keeps λb o e=>(M.bs b o e).1;have Y:∀y∈ps.zip Z,scope.names.lookup y.1=ak .local\/(scope.names.lookup y.1=ak .cell/\((cellsFrom (s.heap.objs.size+1) scope.names []).lookup y.1).isSome=au):=by
   rintro⟨n,v⟩ hy;rcases S.par n (b3K hy).1 with q | q;. exact .inl q
   . exact .inr #[q,b9Z _ _ _ (.inl q)]
 refine codeAny_call_function (by have:=hr.dp;lia) (KX _ _ G) rfl S.co S.gen rfl (PySem.W.codeRec_of KX U) (hb _ _ _ _ ?_);refine wpAny_newFunctionEnv_cells S.kind Y λenv he m x=>?_;subst he;refine#[lim.keeps x.toInCall.keep,codeAny_func ?_];obtain⟨t,B,hq⟩:=T A outer s H vs Q E h;have J:Inv (IC CX0 P w K mg base N qual scope f cdv { A with handled:=am } outer s H E) [] (E5 N vs) H m:=UP S rfl #[M.frames,M.mod,M.bs,M.bsz,M.funs,M.frf,M.hok,M.bare] D r x;have I:Inv (cxA P w K mg base N qual scope f cdv A outer s H E) [] (E5 N vs) H m:=#[#[J.ok.mod,J.ok.kind,J.ok.glob,J.ok.blt,J.ok.above,J.ok.inj,J.ok.has,J.ok.cab,(λz=>nomatch z),Around.frames_deeper M.frames,J.ok.stk,J.ok.exf,J.ok.bs,J.ok.bsz,J.ok.noex,J.ok.exfs,J.ok.funs,J.ok.frf],J.os,J.bare,J.base,J.loc,J.cell,J.free,J.freeC,J.pin,J.hok,J.len]
 refine bf (B [] m (E5 N vs) H _ I hq) (λO s' hs=>?_) λe s' hs=>hs.elim;have fin:∀{c:St}{H':Hp}{v:V}{u:ap},Inv (cxA P w K mg base N qual scope f cdv A outer s H E) [] c H' s'->RelV v u->Q v H'->CE outer P w H s Q u s':=
   λ{c H' v u} J i q=>#[v,H',J.os,J.bare,J.base,J.hok,i,q]
 cases O with
 | ret u=> obtain⟨v,c,H',J,i,q⟩:=hs;exact fin J i q
 | next=> obtain⟨c,H',J,q⟩:=hs;exact fin (v:=V.non) (u:=a1Z) J rfl q
 | brk=> obtain⟨_,_,_,q⟩:=hs;exact a6W q
 | cont=> obtain⟨_,_,_,q⟩:=hs;exact a6W q
theorem tL (F:Fun K "__init__" qual st f T) (m:FnScope ["self", pn] ["self", pn] (AB st)) (hb:BH st=[.Assign [.Attribute (.Name "self" I) fn i] (.Name pn n) r]) (c:XCls K C S (.ref f)) (cs:XSet K C fn) (nd:(["self", pn]:List Str).Nodup) (hs:∀env:ic,ge (.Name pn n) (ak (.Attribute (.Name "self" I) fn i)) r.line env=pure aB) (b:∀X:Cx,X.N=(["self", pn]:List Str)->X.env.scope=AB st->PE X (.Name "self" I) (YC 0)) (h1:∀X:Cx,X.N=(["self", pn]:List Str)->X.env.scope=AB st->PE X (.Name pn n) (YC 1)):FnOkA P w K mg base 1 f T ["self", pn] (EY C fn):=by obtain⟨q,u,kV,doc,y,J,cdv,x,osl,rfl,g,U⟩:=F.ex;refine A3a (k:=0) g U m (by rintro j H Q E ⟨e,v,t,h,_⟩;rw[h];rfl) λA outer s H j Q E Z=>?_;obtain⟨e,v,t,p,he,hq⟩:=Z;subst p;rw[hb];refine#[_,N3 (gY (C:=C) (S:=S) (fn:=fn) c cs (b _ rfl rfl) (h1 _ rfl rfl) (hs _)),?_];exact#[v,rfl,.ref e,rfl,e,t,rfl,he,λd hd O=>hq d hd O]
theorem aZ (m:X.stack=X.env::X.outer) (c:X.env.frame=ak X.env.locals):PassesOwnAt (model X.prog X.w) (X.A.mark h) X.A X.env (Fly X R):=λe s' M=>by
 obtain⟨a,T,cls,y,v,p,H,Z,rfl,I,⟨x,D⟩,O,g,B,r⟩:=M;have N:(X.A.mark h).frames=ak (X.env::X.outer):=by rw[<-m];exact I.ok.frames
 have S:s'.heap.FunFrames X.base (X.env::X.outer):=by rw[<-m];exact I.stack
 refine K1 N S c x D λi n j L Q=>?_;have U:(X.env::X.outer).filterMap (·.frame)=frs X.stack:=by rw[m];rfl
 rw[U] at Q;have k:Inv X [] p H { s' with heap:=i }:=BY I Q λb hb=>by
   rcases yX.mp hb with q | q;. rw[q];exact O.ch
   . exact(g b (by cases T with | none=>simp at q | some t=>simp at q;rw[q])).ch
 have f:Loose X H n:=L.elim (λz=>g n z) λz=>Loose.of I z.2 (I.hok.fresh z.2);obtain⟨oe,vs,he,hc,su,hd,h0,h1,rn,_⟩:=id j;unfold cameBackBy;refine zZ (bd (s:={ s' with heap:=i }) he hd h1 ?_);rw[if_neg (by simp),c];refine S8 (s:={ s' with heap:=i }) j λG Y J=>?_;have u:Inv X [] p H { s' with heap:=G }:=BY (s:={ s' with heap:=i }) (ch:=[n]) k (J.mono (λb z=>absurd z (by simp)) λb z=>z) λb hb=>by
   have:b=n:=by simpa using hb
   rw[this];exact f.ch
 exact#[a,ak n,cls,y,v,p,H,_,rfl,u,#[Y,.inr #[by simp,rfl]],O,λt e=>(by cases e;exact f),B,r]
theorem U5:entryFor table "proto.unchain"=ak Builtin.«proto.unchain»:=entryFor_of_tree (by kernel_rfl)
section
variable {prog:bn}{w:bj}{A:bx}{E:ap->av->Prop}{nm q:Str}{C N:Addr}{bs bm:List ap}{hdct:Bool}{sn:List Str}{sub:List ap}{ab:Bool}{col:Option Bool}{dd:Option Addr}{k0 k1 k2 k3 k5:Option ap}{newId:String}
abbrev tM (C t a:Addr) (y:Option Addr):Obj:={ cls:=.ref C,dict:=y,data:=.fields (y9 [.ref t,.none,.ref a,.none,.bool au,.none]) }
theorem eU (hbase:bm.contains (.type "BaseException")=au) (hh:A.handled=ak (.ref a)) (hc:∀(s:av) (p:ap->av->Prop),p .none s->wpAny (model prog w) A c p E s) (hx:wpAny (model prog w) A x (λv y=>∃e t n z vs,v = .ref e/\e≠a/\y.heap.get? C=ak (excClassObj nm q C N bs bm hdct sn sub ab col dd k0 k1 k2 k3 k5 newId)/\C≠e /\
     y.heap.get? e=ak { cls:=.ref C,dict:=n,data:=.fields (y9 [.ref t,.none,.none,.none,.bool aB,.none]) }/\y.heap.get? a=ak z/\z.data = .fields vs/\vs[2]?=ak .none /\
     ∀h',h'.get? e=ak (tM C t a n)->Moved [] [e] y.heap h'->E (.ref e) { y with heap:=h' }) E s) :
   wpAny (model prog w) A (raiseStmt env (ak x) (ak c)) Q E s:=by
 have J:(a0X C::bm).contains (.type "BaseException")=true:=by rw[a1J,hbase,Bool.or_true]
 unfold raiseStmt;refine zZ (bf hx (λv y i=>?_) λ_ _ x=>x);obtain⟨e,t,n,z,vs,rfl,m,hC,I,he,k,Y,j,hE⟩:=i;obtain⟨hp,g,d,O,U⟩:=y;refine zZ (bt (hc _ _ (zZ (zY ?_))));repeat (first | with_reducible refine bb he ?_ | with_reducible refine bb hC ?_ | (with_reducible refine br hC ?_;rw[J]) | wp_step)
 have S:((y9 [a0X t,.none,.none,.none,.bool aB,.none]):Array ap).size=6:=rfl;have u:=EF (h:=hp) (a:=e) (·.setIfInBounds 3 a1Z) he rfl [];have b:(hp.update e (b2J λx=>x.setIfInBounds 3 a1Z)).get? e=ak { cls:=.ref C,dict:=n,data:=.fields (y9 [.ref t,.none,.none,.none,.bool aB,.none]) }:=a3Z _ he rfl;have T:=EF (a:=e) (·.setIfInBounds 4 (Value.bool au)) b rfl [];have G:((hp.update e (b2J λx=>x.setIfInBounds 3 a1Z)).update e (b2J λx=>x.setIfInBounds 4 (Value.bool au))).get? e=ak { cls:=.ref C,dict:=n,data:=.fields (y9 [.ref t,.none,.none,.none,.bool au,.none]) }:=a3Z _ b rfl;have r:=u.trans T;generalize ((hp.update e (b2J λx=>x.setIfInBounds 3 a1Z)).update e (b2J λx=>x.setIfInBounds 4 (Value.bool au)))=f at G r;have ha2:f.get? a=ak z:=r.keep a z k (by simp) (by simp[a4Q m]);unfold raiseNew;refine zZ (wpAny_handled ?_);rw[hh];dsimp only;rw[if_pos (show(a0X a != a0X e)=au by simp[a4Q m])];refine zZ (bt (wpAny_runValue (codeAny_builtin U5 ?_)));show wpAny _ _ (ik (.ref a) 2 >>= _) _ _ _;refine zZ (bd ha2 Y j ?_);rw[if_pos (show(a1Z==a1Z)=au by decide)];refine(show wpAny _ _ (pure _) _ _ _ from zY ?_);refine zZ (show wpAny _ _ (setField (.ref e) 2 (.ref a)) _ _ _ from di (s:=#[f,g,d,O,U]) G rfl (by show 2 < 6;decide) (wpAny_throw ?_));refine hE _ (a3Z _ G rfl) (r.trans (EF (a:=e) (·.setIfInBounds 2 (a0X a)) G rfl []))
end
def A0S (K:Frg) (D1 D2:Addr) (cls:ap):Prop:=cls = .ref D1\/cls = .ref D2
def A3b (dd:Option Addr) (H:Hp):Prop:=¬rB dd H
def tN (K:Frg) (D1 D2 C:Addr) (r:(St->XK)->TS) (t:TA) (R:St->XK):TS:=λn b H=>r (λc cls i H'=>A0S K D1 D2 cls/\A3b i H' /\∀p,H' p=am->t c (upd H' p (.tup [.ref D1,.ref D2])) λm e=>∃v,m=[v]/\∀d,e d=am->R c (.ref C) (ak d) (upd e d (.xd [(a0Q "number", v)]))) n b H
theorem A3c (x:XCls K D1 k i1) (Y:XCls K D2 z i2) (X:K.In s.heap) (he:s.heap.get? e=ak r) (hc:r.cls = .ref D1\/r.cls = .ref D2) (y:s.heap.IsTuple p (y9 [.ref D1,.ref D2])) (q:Q au s):wpAny (model prog w) A (excMatches (.ref e) (.ref p)) Q E s:=by
 obtain⟨nm,q',N,bs,sn,sub,J,col,U,k0,k1,k2,k3,k5,T⟩:=x.lk;obtain⟨D,B,M,za,G,I,O,S,jk,j0,j1,j2,j3,j5,Z⟩:=Y.lk;obtain⟨hp,g,d,t,os⟩:=s;have hC:=X _ _ T;have hS:=X _ _ Z;have m:(a0X D1::a0X k::bmV).contains (.type "BaseException")=true:=by rw[a1J,a1J];simp
 have hb2:(a0X D2::a0X z::bmV).contains (.type "BaseException")=true:=by rw[a1J,a1J];simp
 obtain⟨⟨c,dt,L,sl⟩,ho,j,n,u⟩:=y;simp only at j u;subst j u;have f:=AutoSeq1.sub_tuple_tuple;unfold excMatches;have i:hp.get? e=ak r:=he;have h:(a0X D1::a0X k::bmV).contains (.ref D1)=true:=by simp
 have v:(a0X D2::a0X z::bmV).contains (.ref D2)=true:=by simp
 rcases hc with hc | hc
 . repeat (first | with_reducible refine bb ho ?_ | (with_reducible refine bb i ?_;rw[hc]) | with_reducible refine bb hC ?_ | with_reducible refine bb hS ?_ | (with_reducible refine br hC ?_;first | rw[m] | rw[h]) | (with_reducible refine br hS ?_;rw[hb2]) | wp_step)
   exact q
 . by_cases hDD:D1=D2
   . subst hDD;repeat (first | with_reducible refine bb ho ?_ | (with_reducible refine bb i ?_;rw[hc]) | with_reducible refine bb hC ?_ | (with_reducible refine br hC ?_;first | rw[m] | rw[h]) | wp_step)
     exact q
   . by_cases hSD:z=D1
     . have b:(a0X D2::a0X z::bmV).contains (.ref D1)=true:=by simp[hSD]
       repeat (first | with_reducible refine bb ho ?_ | (with_reducible refine bb i ?_;rw[hc]) | with_reducible refine bb hC ?_ | with_reducible refine bb hS ?_ | (with_reducible refine br hC ?_;rw[m]) | (with_reducible refine br hS ?_;first | rw[hb2] | rw[b]) | wp_step)
       exact q
     . have b:(a0X D2::a0X z::bmV).contains (.ref D1)=false:=by simp[hDD,a4Q hSD]
       repeat (first | with_reducible refine bb ho ?_ | (with_reducible refine bb i ?_;rw[hc]) | with_reducible refine bb hC ?_ | with_reducible refine bb hS ?_ | (with_reducible refine br hC ?_;rw[m]) | (with_reducible refine br hS ?_;first | rw[hb2] | rw[b] | rw[v]) | wp_step)
       exact q
end XC
namespace XC
open PySem PySem.Spec L2
open PyProof.Rows (envOfC AllBare)
theorem SS {e:St}(I:Inv X pins e H s) (h1:s.heap.get? a=ak o) (n:H a=am) (G:a≠X.env.locals) (t:a∉X.fs) (Z:∀v,o.data≠.cell v):Inv X ((a,o)::pins) e H s:=#[I.ok,I.os,I.bare,I.base,I.loc,I.cell,I.free,I.freeC,λp hp=>by
   rcases yW.mp hp with q | q;. exact I.pin p (yW.mpr (.inl q))
   . rcases yX.mp q with rfl | q;. exact#[h1,n,G,t,Z]
     . exact I.pin p (yW.mpr (.inr q)),I.hok,I.len]
theorem A0T (h:SP X pins D f s'):SP (X.wish E) pins D f s':=by
 cases f with
 | next=>obtain⟨c,H',I,q⟩:=h;exact#[c,H',I.wish E,q]
 | brk=>obtain⟨c,H',I,q⟩:=h;exact#[c,H',I.wish E,q]
 | cont=>obtain⟨c,H',I,q⟩:=h;exact#[c,H',I.wish E,q]
 | ret u=>obtain⟨v,c,H',I,r,q⟩:=h;exact#[v,c,H',I.wish E,r,q]
section
variable {Y:Cx}{R:St->XK}{C S f a:Addr}{x:Str}{np ag pos:en}{arg:bp}{t:TA}{k:Nat}{fd:dl}{ps:List Str}
theorem lR {m:St}(c:XCls Y.K C S (.ref f)) (vk:b4W Y.K (.ref f)=au) (F:FnOkA Y.prog Y.w Y.K Y.mg Y.base k f fd ps (EY C (a0Q "number"))) (hb:Binds Y.K fd ps []) (hr:RoomA (k+1) Y.A) (hg:Gl Y x) (hm:Y.mg x=ak (.ref C)) (ha:PA (IN Y a) [arg] t) (I:Inv (IN Y a) ((a,j)::pins) m H s) (M_:Y.Ok) (hd:j.data = .fields vs) (h2:vs[2]?=ak .none) (h:t m H λD i=>∃v,D=[v]/\∀d,i d=am->R m (.ref C) (ak d) (upd i d (.xd [(a0Q "number", v)]))) (dy:(x==("__debug__":Str))=aB) (he:starEach [arg] Y.env=[(aB,eval arg Y.env)]) :
   wpAny (model Y.prog Y.w) (Y.A.mark (ak (.ref a))) (exec (.Raise (ak (.Call (.Name x np) [arg] [] ag)) (ak (.Constant .none ck cp)) pos) Y.env) Q (Fly Y R) s:=by
 have FB:=b6X;obtain⟨nm,q,N,bs,sn,sub,ab,col,dd,k0,k1,k2,k3,k5,lk⟩:=c.lk;rw[arm_exec_Raise];refine zZ (bv (eU (C:=C) (a:=a) (hbase:=NN (S:=S)) (hh:=rfl) (nm:=nm) (q:=q) (N:=N) (bs:=bs) (hdct:=au) (sn:=sn) (sub:=sub) (ab:=ab) (col:=col) (dd:=dd) (k0:=k0) (k1:=k1) (k2:=k2) (k3:=k3) (k5:=k5) (newId:= "ValueError.__new__") ?_ ?_));. intro s Q' hq;refine zZ (PyProof.Rows.Constant_none ?_);refine zZ (bv ?_);exact zY hq
 refine bf (E:=λ_ _=>False) ?_ (λ_ _ z=>z) λ_ _ z=>z.elim;refine zZ (thn (c4 (G7 I (X:=IN Y a) hg hm (b6J (h₀:=Y.base) I.ok.mod.kin c.kp (Q:=λv y=>∃e t U oa vs,v = .ref e/\e≠a/\y.heap.get? C=ak (excClassObj nm q C N bs (.ref S::bmV) au sn sub ab col dd k0 k1 k2 k3 k5 "ValueError.__new__")/\C≠e /\
     y.heap.get? e=ak { cls:=.ref C,dict:=U,data:=.fields (y9 [.ref t,.none,.none,.none,.bool aB,.none]) }/\y.heap.get? a=ak oa/\oa.data = .fields vs/\vs[2]?=ak .none /\
     ∀T,T.get? e=ak (tM C t a U)->Moved [] [e] y.heap T->Fly Y R (.ref e) { y with heap:=T }) (thn (ha ag _ s m H _ I h) λD s1 #[Po,i,J,r,v,ev,q1]=>#[J.kIn,?_]) he rfl) dy)) λv s3 h3=>zZ (bv (zY h3)));subst ev;obtain⟨u,rfl,ru⟩:∃u,D=[u]/\RelV v u:=by cases r with | cons a b=>cases b;exact#[_,rfl,a]
 have hC:=J.kIn _ _ lk;have Na:=(J.pin (a,j) (yW.mpr (.inr (a0J ..)))).1;obtain⟨hp,g,d,tk,os⟩:=s1;have kk:=DJ (h:=hp) (C:=C) (rest:=[u]);have yd:=QR (h:=hp) (C:=C) (rest:=[u]);have M:Inv (IN Y a) ((a,j)::pins) m (upd i (hp.objs.size+1) (xo (hp.objs.size+1) C hp.objs.size am)) #[NM hp C [u],g,d,tk,os]:=J.laid (a:=hp.objs.size+1) (t':=tk) kk (a5Z _) (rF yd);have Ej:i (hp.objs.size+1)=none:=J.hok.fresh (a5Z _);have r2:Vals [V.ref (hp.objs.size+1),v] [a0X (hp.objs.size+1),u]:=.cons rfl (.cons ru .nil);have Z:EY C (a0Q "number") [V.ref (hp.objs.size+1),v] (upd i (hp.objs.size+1) (xo (hp.objs.size+1) C hp.objs.size am)) (λw G=>w = .non/\∃n,i n=am/\n≠hp.objs.size+1/\G=upd (upd i n (.xd [(a0Q "number", v)])) (hp.objs.size+1) (xo (hp.objs.size+1) C hp.objs.size (ak n))) (λ_ _ _=>False):=by refine#[_,v,hp.objs.size,rfl,AF,λn kg L=>#[rfl,n,by rw[AH L] at kg;exact kg,L,?_]];funext b;unfold upd;by_cases z:b=hp.objs.size+1 <;> simp[z]
 have hl:([a0X (hp.objs.size+1),u]++[]).length=ps.length:=by have:=F.len _ _ _ _ Z;simpa using this
 have yi:RoomA (k+1) (IN Y a).A:=#[hr.dp,hr.un]
 refine dS FB QS WU WV hC (c0W J.kIn c.init) (λself=>PySem.W.bind_fn J.kIn self (beq_iff_eq.mp vk)) (xN (F.run _ Y.stack _ _ #[[a0X (hp.objs.size+1),u],[]] ([a0X (hp.objs.size+1),u]++[]) _ _ _ (yi.make C [u] []) (M.env0.make C [u] []) (hb _ [a0X (hp.objs.size+1),u] M.kIn hl) r2 Z) λr' s' B=>?_) (by show 1<=a0;decide);rcases r' with e | (w | _ | _ | _) <;> first | exact B.elim | skip
 obtain⟨w',G,O,jv,rfl,n,wa,hd2,rfl⟩:=M.after B;have hx:=(O.hok _ _ AF).1;have s_:(upd i n (.xd [(a0Q "number", v)])) (hp.objs.size+1)=none:=by rw[AH (a4Q hd2)];exact Ej
 have Cn:(IN Y a).s₀.heap.objs.size<=hp.objs.size+1:=zN J.sz (a5Z _);have I4:=WS (S9 O s_ Cn);have Eu:=(O.pin (a,j) (yW.mpr (.inr (a0J ..)))).1;have p:Loose (IN Y a) (upd i n (.xd [(a0Q "number", v)])) (hp.objs.size+1):=Loose.of J (a5Z _) s_;refine#[jv,hp.objs.size+1,hp.objs.size,ak n,j,vs,rfl,λe=>?_,O.kIn _ _ lk,λe=>?_,hx,Eu,hd,h2,λT Nb m3=>?_];. have:=zM Na;have e':a=hp.objs.size+1:=e.symm;rw[e'] at this;exact absurd this (by simp)
 . have:=zM hC;rw[e] at this;exact absurd this (by simp)
 . have I5:Inv (IN Y a) [] m (upd i n (.xd [(a0Q "number", v)])) { s' with heap:=T }:=BY (ch:=[hp.objs.size+1]) I4 (m3.mono (λb z=>absurd z (by simp)) λb z=>z) λb hb=>by
     have:b=hp.objs.size+1:=by simpa using hb
     rw[this];exact p.ch
   exact#[hp.objs.size+1,am,.ref C,ak n,.ref a,m,_,.none,rfl,FJ M_ I5,#[#[_,_,Nb,rfl,rfl,rfl,rfl,rfl],.inl rfl],#[p.above,p.loc,p.cel,p.fre,p.pn],λt e=>(by cases e),.inr #[n,v,rfl,AF],q1 n wa]
theorem A0U {D1 D2 S1 S2:Addr}{i1 i2:ap}{body:List eg}{te:bp}{yj ko:en}{ck:Nat}{cp:en}{tb:(St->XK)->TS}(u:Y.stack=Y.env::Y.outer) (L:Y.env.frame=ak Y.env.locals) (c1:XCls Y.K D1 S1 i1) (c2:XCls Y.K D2 S2 i2) (c:XCls Y.K C S (.ref f)) (vk:b4W Y.K (.ref f)=au) (F:FnOkA Y.prog Y.w Y.K Y.mg Y.base k f fd ps (EY C (a0Q "number"))) (Ew:Binds Y.K fd ps []) (hr:RoomA (k+1) Y.A) (hg:Gl Y x) (Z:Y.mg x=ak (.ref C)) (Nc:∀a,PE (IN Y a) te (A2D (YD (tC (.ref D1)) (YD (tC (.ref D2)) A2C)))) (ha:∀a,PA (IN Y a) [arg] t) (hb:∀(pn:List (Addr×cy)) (R':St->XK),PSs ((pinned Y pn).wish (Fly (pinned Y pn) R')) body (tb R')) (dy:(x==("__debug__":Str))=false:=by decide) (he:starEach [arg] Y.env=[(aB,eval arg Y.env)]:=by rfl) :
   PS (Y.wish (Fly Y R)) (.Try body [.ExceptHandler (ak te) am [.Raise (ak (.Call (.Name x np) [arg] [] ag)) (ak (.Constant .none ck cp)) yj] ko] [] [] pos) (tN Y.K D1 D2 C tb t R):=by
 intro pins s σ H D' I0 h;have I:=I0.unwish;have ok:=I.ok;refine wpAny_Try_except ?_;have bo:=hb (Y.pn++pins) _ [] s σ H D' ((gZ I).wish _) h;refine bf bo (λfl j q=>?_) λe j q=>?_
 . have O:=A0T (E:=Fly Y R) (ZT ok q.unwish);cases fl with
   | next=>exact et O
   | ret v=>exact O
   | brk=>exact O
   | cont=>exact O
 . obtain⟨a,T,cls,dd,ar,n,H',fl,rfl,J,⟨x1,lu⟩,la,lT,lx,xh,hE,r⟩:=q;have Nd:ar = .none:=lx.resolve_right hE;subst Nd;have I1:=FA ok J;have fr:Y.A.frames=ak (Y.env::Y.outer):=by rw[<-u];exact ok.frames
   have hl:j.heap.FunFrames Y.base (Y.env::Y.outer):=by rw[<-u];exact I1.stack
   refine K1 fr hl L x1 lu λU i x2 n2 m2=>?_;have yg:(Y.env::Y.outer).filterMap (·.frame)=frs Y.stack:=by rw[u];rfl
   rw[yg] at m2;have y:∀b,Loose (pinned Y (Y.pn++pins)) H' b->H' b=am/\Y.s₀.heap.objs.size<=b/\b≠Y.env.locals/\(∀x c,Y.env.cells.lookup x=ak c->c≠b)/\∀p∈Y.pn++pins,p.1≠b:=λb l=>#[l.fre,l.above,l.loc,l.cel,l.pn]
   have I2:Inv Y pins n H' { j with heap:=U }:=BY I1 m2 λb hb=>by
     rcases yX.mp hb with q | q;. rw[q];exact y _ la
     . exact y _ (lT b (by cases T with | none=>simp at q | some t=>simp at q;rw[q]))
   have X:=y _ (n2.elim (λz=>lT i z) λz=>Loose.of (b:=i) J z.2 (J.hok.fresh z.2));refine HG (s:={ j with heap:=U }) x2 λG x3 m3=>?_;have I3:Inv Y pins n H' { j with heap:=G }:=BY (s:={ j with heap:=U }) (ch:=[i]) I2 (m3.mono (λb z=>absurd z (by simp)) λb z=>z) λb hb=>by
     have:b=i:=by simpa using hb
     rw[this];exact X
   have I4:=SA I3 a;obtain⟨q1,q2,q3,q4,q5⟩:=y _ la;obtain⟨g,vs,Gx,Gy,Ex,D,Gz,Nf,rn,N,ts,ki,jl,Ng⟩:=id x3;have Nh:G.FunFrames Y.base (Y.env::Y.outer):=by rw[<-u];exact I3.stack
   have Cm:∀{b:Addr}{o:cy}{zs:Array ap},G.get? b=ak o->o.data = .fields zs->b∉Y.fs:=λ{b o zs} e1 e2 Z=>by obtain⟨_,o',ho,Ay⟩:=Nh.mem (show b∈(Y.env::Y.outer).filterMap (·.frame) by rw[a4V,L];exact yV _ Z);rw[e1] at ho;injection ho with ho;subst ho;exact Ay zs e2
   have I5:Inv (IN Y a) ((a,g)::(i,N)::pins) n H' { j with heap:=G }:=SS (SS I4 ki X.1 X.2.2.1 (Cm ki jl) (λv e=>by rw[jl] at e;cases e)) Gx q1 q3 (Cm Gx D) (λv e=>by rw[D] at e;cases e);refine wpAny_handleBy_cons (codeAny_handlers_test (bf (Nc a _ { j with heap:=G } n H' (λv H1=>∃p,v = .ref p/\H' p=am/\H1=upd H' p (.tup [.ref D1,.ref D2])) I5 #[by show 2<=a0;decide,λp hp=>#[p,rfl,hp,rfl]]) (λc5 M q=>?_) λ_ _ z=>z.elim)) (by intro q;cases q);obtain⟨v5,H5,m,Ni,p,rfl,oo,rfl⟩:=q;cases Ni;have B:=(m.pin (a,g) (yW.mpr (.inr (a0J ..)))).1;have hT5:=(m.pin (i,N) (yW.mpr (.inr (yV _ (a0J ..))))).1;obtain⟨aa,Nj,Nk,_⟩:=m.tuple (a:=p) (xs:=[.ref D1,.ref D2]) (.inl (.inl AF));obtain rfl:aa=[.ref D1,.ref D2]:=by
     cases Nj with
     | cons a1 r1=>cases r1 with
       | cons a2 r2=>cases r2;cases a1;cases a2;rfl
   have zu:g.cls = .ref D1\/g.cls = .ref D2:=by rw[Gy];exact xh
   refine A3c c1 c2 m.kIn B zu Nk (codeAny_handlers_suite ?_);have x5:NL M.heap a cls dd .none (ak i) .none:=#[g,vs,B,Gy,Ex,D,Gz,Nf,rn,N,ts,hT5,jl,Ng]
   refine HG (s:=M) x5 λh6 x6 m6=>?_;have G_:i≠a:=rn;have Pp:h6.get? a=ak g:=m6.keep a g B (by simp) (by simp[a4Q G_]);have I7:Inv (IN Y a) ((a,g)::pins) n (upd H' p (.tup [.ref D1,.ref D2])) { M with heap:=h6 }:=by
     refine BY (s:=M) (ch:=[i]) (m.pins_of λp' vg=>?_) (m6.mono (λb z=>absurd z (by simp)) λb z=>z) λb hb=>?_
     . rcases yX.mp vg with rfl | z;. exact m.pin _ (yW.mpr (.inr (a0J ..)))
       . exact m.pin _ (yW.mpr (.inr (yV _ (yV _ z))))
     . have:b=i:=by simpa using hb
       subst this;refine#[?_,X.2.1,X.2.2.1,X.2.2.2.1,λp' vg=>?_];. have:=(m.pin (b,N) (yW.mpr (.inr (yV _ (a0J ..))))).2.1;exact this
       . rcases yW.mp vg with z | z;. exact X.2.2.2.2 p' (yW.mpr (.inl z))
         . rcases yX.mp z with rfl | z;. exact a4Q G_
           . exact X.2.2.2.2 p' (yW.mpr (.inr z))
   refine bf (Q:=λ_ _=>False) (E:=Fly Y R) ?_ (λ_ _ z=>z.elim) (λe s' hf=>aZ u L e s' hf);refine wpAny_execs_cons (bf (lR (Y:=Y) (Q:=λ_ _=>False) c vk F Ew hr hg Z (ha a) I7 ok D Gz (r p oo) dy he) (λ_ _ z=>z.elim) λ_ _ z=>z)
end
end XC
namespace DL
open PySem PySem.Spec L2 XC
open PyProof.Rows (envOfC AllBare)
section
variable {P:bn}{w:bj}{K:Frg}{mg:Str->Option ap}{base:cc}
structure HasRA (P:bn) (w:bj) (K:Frg) (mg:Str->Option ap) (base:cc) (x fn:Str) (C S:Addr):Prop where
 ex:∃(f:Addr) (fd:dl) (ps:List Str),XCls K C S (.ref f)/\b4W K (.ref f)=au/\FnOkA P w K mg base 1 f fd ps (EY C fn)/\Binds K fd ps []/\mg x=ak (.ref C)
def iM (K:Frg) (mg:Str->Option ap) (x:Str) (C S:Addr):Prop:=(∃i,XCls K C S i)/\mg x=ak (.ref C)
theorem HasR.cls (h:HasR P w K mg base x fn C S):iM K mg x C S:=let #[_,_,_,c,_,_,_,q]:=h.ex;#[#[_,c],q]
theorem HasN.cls (h:HasN K mg x C S):iM K mg x C S:=#[#[_,h.c],h.at_]
theorem A5D (Y:Cx) (R:Rx) {D1 D2 C S k z:Addr}{body:List eg}{arg:bp}{x N e:Str}{D i yj T pos B J tp p:en}{m:Nat}{tc:Nat}{n:Rx->TS}{t:TA}(hK:Y.K=K) (j:Y.prog=P) (y:Y.w=w) (U:Y.mg=mg) (xy:Y.base=base) (b:Y.stack=Y.env::Y.outer) (I:Y.env.frame=ak Y.env.locals) (q:iM K mg N D1 k) (r:iM K mg e D2 z) (h:HasRA P w K mg base x (a0Q "number") C S) (hr:Room 2 Y.A) (g:Gl Y N) (G:Gl Y e) (hg:Gl Y x) (u:∀a,PA (IN Y a) [arg] t) (hb:∀(pn:List (Addr×cy)) (L:Rx),PSs ((pinned Y pn).wish (Fly (pinned Y pn) L)) body (n L)) (hd:(x==("__debug__":Str))=false:=by decide) (wa:(N==("__debug__":Str))=false:=by decide) (hd2:(e==("__debug__":Str))=false:=by decide) (he:starEach [arg] Y.env=[(aB,eval arg Y.env)]:=by rfl) :
   PS (Y.wish (Fly Y R)) (.Try body [.ExceptHandler (ak (.Tuple [.Name N B,.Name e J] tc tp)) am [.Raise (ak (.Call (.Name x D) [arg] [] i)) (ak (.Constant .none m p)) yj] T] [] [] pos) (tN K D1 D2 C n t R):=by subst hK j y U xy;obtain⟨⟨i1,X⟩,O⟩:=q;obtain⟨⟨i2,q2⟩,Q⟩:=r;obtain⟨f,fd,ps,c,M,F,Z,v⟩:=h.ex;exact A0U b I X q2 c M F Z (.of hr) hg v (λa=>nH (W1 (gI g O wa) (W1 (gI G Q hd2) nG))) u hb hd he
end
section
theorem A3d (h:DE K ta ρ M λx M1=>DTy K T x M1/\DAx K R tl ρ M1 (λxs n=>DM K r x xs n Q) DX):DEx K R (tBM K T r ta tl) ρ M Q DX:=λp H QQ Y k g=>
 h p H _ Y (by rintro v t x M1 S m e ⟨I,h1⟩;exact#[I t v S m,h1 p t _ (Y.step S e) (λG f xs n j y i c=>c f v G QQ j (m.step i) y λw b z B u N O q=>k w b z B u N ((e.trans i).trans O) q) (g.step e)])
theorem A0V {D1 D2 C:Addr}{k:Rx->TS}{t:TA}(h:∀L,DXt K L (k L) ρ M D λI cls fs i=>(cls = .ref D1\/cls = .ref D2)/\(∀z,fs≠[(a0Q "number", z)])/\DA K t I i λxs M1=>∃d,xs=[.d d]/\DX I (.ref C) [(a0Q "number", d)] M1):DXt K R (tN K D1 D2 C k t R) ρ M D DX:=λσ H E Y N T O B G=>by
 refine h _ σ H E Y N T O B λI cls fs i c dd H' L X U #[hc,y,q]=>#[hc,?_,λp hp=>?_]
 . rintro⟨d,v,rfl,hd⟩
   match fs,U with
   | [(n,z)],U=> obtain⟨v',_,e,_⟩:=U;rw[hd] at e;injection e with e;injection e with e;injection e with j e2;injection j with j e3;exact y z (by rw[j])
 . have f:Step K i i H' (upd H' p (.tup [.ref D1,.ref D2])):=#[AZ _ hp]
   have b:=L.step (L.own.new (o:=.tup [.ref D1,.ref D2]) hp) f;refine q c _ _ b ?_;rintro vs m xs M1 S J x ⟨d,u,z⟩;subst u;obtain⟨v,r,rfl,Z,rfl⟩:=J;refine#[v,rfl,λe he=>?_];have g:Step K M1 M1 m (upd m e (.xd [(a0Q "number", v)])):=#[AZ _ he]
   exact G I _ [(a0Q "number", d)] M1 c (ak e) _ ((b.step S x).step (S.new he) g) (X.trans (f.trans (x.trans g))) #[v,λz=>z (S.none he),AF,DV.grow g.grow Z] z
end
end DL
namespace DL
open PySem PySem.Spec L2 XC
section
theorem A3e (h:DEx K R ta ρ M (λx M1=>DE K tb ρ M1 λy e=>D2 K r x y e Q) DX):DEx K R (tOp r ta tb) ρ M Q DX:=λi H QQ Y k D=>
 h i H _ Y (λv m x M1 S j t h1=>h1 i m _ (Y.step S t) λu f y e c T n b=>b f v u QQ c (j.step n) T λw p z B g N O q=>k w p z B g N ((t.trans n).trans O) q) D
end
section
variable {M:Own}{Q:DS->Own->Prop}{DX:ap->List (Str×PyData)->Own->Prop}{ys:List Str}{w u v:List Th}{D:Deed}{Ds:List Deed}{p:Addr}{x:DS}{n:Str}
def nnX (z:Str):List (Str×PyData):=[("name", .str z)]
def DW (I:Addr):FSpX:=#[λt M=>∃(p:Addr) (e:List Th) (D:Deed),t=[.loc p,.d D.d]/\M p=ak (tsO e)/\D.real,
 λt M y i=>∀(p:Addr) (e:List Th) (D:Deed),t=[.loc p,.d D.d]->M p=ak (tsO e)->AE (e.map (·.1)) D=am/\y = .d .none/\i=M,
 λt M cls fs i=>∀(p:Addr) (e:List Th) (D:Deed),t=[.loc p,.d D.d]->M p=ak (tsO e)->∃z,AE (e.map (·.1)) D=ak z/\cls = .ref I/\fs=nnX z/\i=M]
theorem XE (m:M p=ak (tsO ts)) (hr:D.real) (q:AE (ts.map (·.1)) D=am->Q (.d .none) M) (e:∀z,AE (ts.map (·.1)) D=ak z->DX (.ref I) (nnX z) M) :
   [DS.loc p,.d D.d].length=2/\(DW I).pre [.loc p,.d D.d] M/\(∀x i,(DW I).post [.loc p,.d D.d] M x i->Q x i)/\∀cls fs i,(DW I).xpost [.loc p,.d D.d] M cls fs i->DX cls fs i:=
 #[rfl,#[p,ts,D,rfl,m,hr],λx i h=>(by obtain⟨a,rfl,rfl⟩:=h p ts D rfl m;exact q a),λcls fs i h=>by obtain⟨z,a,rfl,rfl,rfl⟩:=h p ts D rfl m;exact e z a]
theorem SU (e:[DS.loc p,.d D.d]=[.loc p',.d t.d]) (m:M p=ak (tsO ts)) (r:M p'=ak (tsO i)):p=p'/\ts=i/\D=t:=by simp only[List.cons.injEq,DS.loc.injEq,DS.d.injEq,and_true] at e;obtain⟨rfl,e⟩:=e;rw[m] at r;exact#[rfl,e6 (Option.some.inj r),BW e]
def amB (ns:List Str) (D:Deed) (n:Str):Bool:=decide (n∈ns)==decide (D.made=ak n)
theorem bA (h:∀x∈D.names.take k,amB ns D x=aB) (hn:D.names[k]?=ak n) (hb:amB ns D n=au):AE ns D=ak n:=by
 unfold AE;have e:D.names=D.names.take k++n::D.names.drop (k+1):=by
   obtain⟨hk,e⟩:=yT.mp hn
   conv=>lhs;rw[<-b1K k D.names,List.drop_eq_getElem_cons hk,e]
 rw[e,List.find?_append,List.find?_eq_none.mpr λx hx=>by rw[show(decide (x∈ns)==decide (D.made=ak x))=aB from h x hx];exact nft];rw[Option.none_or];exact List.find?_cons_of_pos hb
theorem tP (h:∀x∈D.names,amB ns D x=aB):AE ns D=none:=by unfold AE;exact List.find?_eq_none.mpr λx hx=>by rw[show(decide (x∈ns)==decide (D.made=ak x))=aB from h x hx];exact nft
def LA (I:Addr):FSpX:=#[λt M=>∃(w:List Th) (D:Deed),t=[.d (wD w),.d D.d]/\JD w/\D.real,
 λt M y i=>∀(w:List Th) (D:Deed),t=[.d (wD w),.d D.d]->AE (w.map (·.1)) D=am/\y = .d (B4 w D).d/\i=M,
 λt M cls fs i=>∀(w:List Th) (D:Deed),t=[.d (wD w),.d D.d]->∃z,AE (w.map (·.1)) D=ak z/\cls = .ref I/\fs=nnX z/\i=M]
theorem eV (hc:JD w) (hr:D.real) (q:AE (w.map (·.1)) D=am->Q (.d (B4 w D).d) M) (e:∀z,AE (w.map (·.1)) D=ak z->DX (.ref I) (nnX z) M) :
   [DS.d (wD w),.d D.d].length=2/\(LA I).pre [.d (wD w),.d D.d] M/\(∀x i,(LA I).post [.d (wD w),.d D.d] M x i->Q x i)/\∀cls fs i,(LA I).xpost [.d (wD w),.d D.d] M cls fs i->DX cls fs i:=
 #[rfl,#[w,D,rfl,hc,hr],λx i h=>(by obtain⟨a,rfl,rfl⟩:=h w D rfl;exact q a),λcls fs i h=>by obtain⟨z,a,rfl,rfl,rfl⟩:=h w D rfl;exact e z a]
theorem KB {w:bj}(h:HasX P w K mg base "refuse_undoable" k ps (DW I)):Has P w K mg base "refuse_undoable" k ps E3:=
 h.calm (by rintro b M ⟨p,t,D,e,m,hr,r⟩;exact⟨#[p,t,D,e,m,hr],λy i q=>(q p t D e m).2,λcls fs i q=>by obtain⟨z,j,_⟩:=q p t D e m;rw[r] at j;cases j⟩)
structure rowQ16 (w:List Th) (Ds:List Deed):Prop where
 fine:EO w
 few:w.length+Ds.length < 60
 real:∀D∈Ds,D.real
def P7 (w:List Th) (Ds:List Deed) (i:Nat):Prop:=CJ w (Ds.take i)/\∃D,Ds[i]?=ak D/\¬AE ((wsF w Ds i).map (·.1)) D=am
theorem iN:∀{Ds:List Deed}{w:List Th}{i j:Nat}{D:Deed},CJ w (Ds.take j)->i < j->Ds[i]?=ak D->goD (wsF w Ds i) D
 | [],w,i,j,D,_,_,h=>by simp at h
 | E::r,w,0,j+1,D,hb,_,h=>by
   obtain rfl:E=D:=by simpa using h
   exact hb.1
 | E::r,w,i+1,j+1,D,hb,e,h=>iN (Ds:=r) (w:=GI w E) hb.2 (Nat.lt_of_succ_lt_succ e) (by simpa using h)
 | E::r,w,_,0,D,_,e,_=>absurd e (Nat.not_lt_zero _)
theorem iO (h:P7 w Ds i):¬CJ w Ds:=λhb=>by
 obtain⟨_,D,hD,e⟩:=h;have hi:=(yT.mp hD).1;have hb2:CJ w (Ds.take Ds.length):=by rw[a1Q];exact hb
 exact e (iN hb2 hi hD).2.2
theorem Q4 (hb:CJ w (Ds.take k)) (hD:Ds[k]?=ak D) (hg:goD (wsF w Ds k) D):CJ w (Ds.take (k+1)):=by rw[a2Q,hD];exact aY.mpr #[hb,hg,trivial]
def nrX (i:Nat):List (Str×PyData):=[(a0Q "number", .int (i:Nat))]
def GX (r:Addr) (f:List Th->List Deed->PyData):FSpX:=#[λt M=>∃(w:List Th) (Ds:List Deed),t=JO w Ds/\rowQ16 w Ds,
 λt M y e=>∀(w:List Th) (Ds:List Deed),t=JO w Ds->CJ w Ds/\y = .d (f w Ds)/\e=M,
 λt M cls fs e=>∀(w:List Th) (Ds:List Deed),t=JO w Ds->∃i,P7 w Ds i/\cls = .ref r/\fs=nrX i/\e=M]
def iP (w:List Th) (Ds:List Deed):PyData:=.tuple [wD (K0 w Ds),.list (bkL w Ds Ds.length)]
def tQ (w:List Th) (Ds:List Deed):PyData:=wD (K0 w Ds)
theorem iQ (h:rowQ16 w Ds) (q:CJ w Ds->Q (.d (f w Ds)) M) (m:∀i,P7 w Ds i->DX (.ref t) (nrX i) M) : (JO w Ds).length=2/\(GX t f).pre (JO w Ds) M/\(∀x e,(GX t f).post (JO w Ds) M x e->Q x e)/\∀cls fs e,(GX t f).xpost (JO w Ds) M cls fs e->DX cls fs e:=#[rfl,#[w,Ds,rfl,h],λx e r=>(by obtain⟨a,rfl,rfl⟩:=r w Ds rfl;exact q a),λcls fs e r=>by obtain⟨i,a,rfl,rfl,rfl⟩:=r w Ds rfl;exact m i a]
structure Alk (v u:List Th):Prop where
 nd:(v.map (·.1)).Nodup
 lk:∀n,AA v n=AA u n
theorem Alk.amiss (h:Alk v u) (D:Deed):AE (v.map (·.1)) D=AE (u.map (·.1)) D:=by
 unfold AE;congr 1;funext n;have:(n∈v.map (·.1))↔(n∈u.map (·.1)):=by rw[AU,AU,h.lk]
 simp only[this]
theorem Alk.step (h:Alk v u) (N:goD v D) (hu:goD u D):Alk (doT v D) (GI u D):=by refine#[(OW N).1,λn=>?_];rw[show AA (GI u D) n=AA (doT u D) n from FI (OW hu).1 n,AY N.2.1 N.2.2,AY hu.2.1 hu.2.2];cases D <;> simp only[h.lk]
def VN (w:List Th) (Ds:List Deed) (k:Nat) (v:List Th):Prop:=CJ w (Ds.take k)/\Alk v (wsF w Ds k)
theorem lS (e:EO w):VN w Ds 0 w:=#[by rw[List.take_zero];trivial,e.1.nodup,λn=>rfl]
theorem A3f (t:rowQ16 w Ds) (h:VN w Ds k v) (hD:Ds[k]?=ak D) (r:AE (v.map (·.1)) D=am) (hc:JD v):VN w Ds (k+1) (doT v D):=by
 have hk:=(yT.mp hD).1;have hr:=t.real D (yN hD);have b:=t.few;obtain⟨i,m,_⟩:=L0 (k:=k) h.1 t.fine (by rw[a0K];lia) (by rw[a0K];lia);have e:wsF w (Ds.take k) k=wsF w Ds k:=by unfold wsF;rw[List.take_take,Nat.min_self]
 rw[e] at i m;have hg:goD (wsF w Ds k) D:=#[#[i.1.nodup,by lia],hr,by rw[<-h.2.amiss];exact r]
 refine#[Q4 h.1 hD hg,?_];rw[gW hD];exact h.2.step #[hc,hr,r] hg
theorem tR (h:VN w Ds k v) (hD:Ds[k]?=ak D) (e:¬AE (v.map (·.1)) D=am):P7 w Ds k:=#[h.1,D,hD,by rw[<-h.2.amiss];exact e]
theorem XF (t:rowQ16 w Ds) (h:VN w Ds Ds.length v):CJ w Ds/\BF v=K0 w Ds:=by
 have hb:CJ w Ds:=by have:=h.1;rwa [a1Q] at this
 have r:=t.few;obtain⟨i,_,_⟩:=L0 (k:=Ds.length) hb t.fine r (zR _);have e:wsF w Ds Ds.length=K0 w Ds:=by unfold wsF;rw[a1Q]
 refine#[hb,?_];rw[<-e];exact KY h.2.nd i.1 h.2.lk
end
end DL
namespace DL
open PySem PySem.Spec L2
section
variable {ys l:List Str}{A B E:Eff}{a b:Option Eff}{w u v:List Th}{D:Deed}{As Bs Ds:List Deed}{n z:Str}{m:Option Str}
def mkV (m:Option Str) (n:Str):Int×Int:=if ak n=m then (1,1) else (0,0)
def mkP (m:Option Str) (ts:List Th) (n:Str):List Th:=CL ts n (mkV m n).1 (mkV m n).2
def Q5 (m:Option Str) (l:List Str):List Th:=l.foldl (mkP m) []
def gM (m:Option Str) (l:List Str):Gt:=λn=>if n∈l then ak (mkV m n) else am
theorem VO (m:Option Str):∀(l:List Str) (ts:List Th) (n:Str),AA (l.foldl (mkP m) ts) n=if n∈l then ak (mkV m n) else AA ts n
 | [],ts,n=>by simp
 | x::l,ts,n=>by
   rw[b3W,VO m l];unfold mkP;rw[BX];by_cases h:n∈l;. rw[if_pos h,if_pos (yV _ h)]
   . rw[if_neg h];by_cases e:n=x;. subst e;rw[if_pos rfl,if_pos a0J]
     . rw[if_neg e,if_neg (by simp[e,h])]
theorem iR:AA (Q5 m l)=gM m l:=funext λn=>by unfold Q5 gM;rw[VO];rfl
theorem bB (m:Option Str):∀(l:List Str) {ts:List Th},(ts.map (·.1)).Nodup->((l.foldl (mkP m) ts).map (·.1)).Nodup
 | [],_,h=>h
 | _::l,_,h=>bB m l (GL h)
theorem LB:((Q5 m l).map (·.1)).Nodup:=bB m l (ts:=[]) List.nodup_nil
theorem XG (i:t∈Q5 m l):t.1∈l/\t.2=mkV m t.1:=by
 have h:=C9 LB i;rw[iR] at h;unfold gM at h;by_cases e:t.1∈l;. rw[if_pos e] at h;exact#[e,(Option.some.inj h).symm]
 . rw[if_neg e] at h;cases h
theorem bC:(Q5 m l).length<=l.length:=by rw[<-zX (f:=(·.1))];exact K3 LB λn hn=>by obtain⟨t,e,rfl⟩:=zL.mp hn;exact(XG e).1
def wM (m:Option Str) (l:List Str):List Th:=BF (Q5 m l)
theorem EK:AA (wM m l)=gM m l:=funext λn=>by unfold wM;rw[FI LB,iR]
theorem tS :t∈wM m l↔t∈Q5 m l:=(BV _).mem_iff
theorem A3g:(wM m l).length<=l.length:=by unfold wM;rw[(BV _).length_eq];exact bC
theorem iS (h:∀n∈l,D4 n):EO (wM m l):=#[EM LB,λt i=>by obtain⟨h1,e⟩:=XG (tS.mp i);rw[e];unfold mkV;refine#[h _ h1,?_];split <;> decide]
theorem SV (h:∀n∈l,n∈zs):There zs (wM m l):=#[(EM LB).nodup,λt e=>h _ (XG (tS.mp e)).1]
def bhO (w:List Th) (Ds:List Deed):Option (List Th):=(AS w Ds).map BF
theorem QV (r:rowQ16 w Ds):∀k,k<=Ds.length->(∃v,AS w (Ds.take k)=ak v/\VN w Ds k v)\/(AS w Ds=am/\∃i,P7 w Ds i)
 | 0,_=>.inl #[w,rfl,lS r.fine]
 | k+1,h=>by
   rcases QV r k (Nat.le_of_succ_le h) with ⟨v,h1,t⟩ | h1
   . have hD:Ds[k]?=ak Ds[k]:=zV h;have f:=r.few;by_cases p:AE (v.map (·.1)) Ds[k]=am
     . obtain⟨c,Q,_⟩:=L0 (k:=k) t.1 r.fine (by rw[a0K];lia) (by rw[a0K];lia);have e:wsF w (Ds.take k) k=wsF w Ds k:=by unfold wsF;rw[List.take_take,Nat.min_self]
       rw[e] at c Q;have hc:v.length < 63:=by
         have:(v.map (·.1)).length<=((wsF w Ds k).map (·.1)).length:=K3 t.2.nd λn hn=>by rw[AU,<-t.2.lk,<-AU];exact hn
         rw[zX,zX] at this;lia
       exact .inl #[doT v Ds[k],aR h1 hD p,A3f r t hD p #[t.2.nd,hc]]
     . exact .inr #[SN h1 hD p,k,tR t hD p]
   . exact .inr h1
theorem iT (e:rowQ16 w Ds) (hb:CJ w Ds):bhO w Ds=ak (K0 w Ds):=by
 rcases QV e Ds.length (zR _) with ⟨v,h1,t⟩ | ⟨_,i,h⟩
 . rw[a1Q] at h1;unfold bhO;rw[h1,<-(XF e t).2];rfl
 . exact absurd hb (iO h)
theorem A0W (e:rowQ16 w Ds) (hs:P7 w Ds i):bhO w Ds=none:=by
 rcases QV e Ds.length (zR _) with ⟨v,h1,t⟩ | ⟨h,_⟩
 . exact absurd (XF e t).1 (iO hs)
 . unfold bhO;rw[h];rfl
def okO (o:Option Eff) (g:Gt):Prop:=∃E,o=ak E/\okV E g
theorem bD (h:K8 w a r):r≠am↔okO a (AA w):=by
 unfold K8 at h;cases a with
 | none=>simp only at h;rw[h];exact#[λq=>absurd rfl q,by rintro⟨_,q,_⟩;exact nomatch q]
 | some E=>
   cases r with
   | none=>exact#[λq=>absurd rfl q,by rintro⟨F,q,ok⟩;cases q;exact absurd ok h]
   | some e=>exact#[λ_=>#[E,rfl,h.1],λ_ q=>nomatch q]
theorem A3h (t:K8 w a (AS w As)) (hb:K8 w b (AS w Bs)) (h:¬(okO a (AA w)↔okO b (AA w))):bhO w As≠bhO w Bs:=λe=>h (by
 rw[<-bD t,<-bD hb];unfold bhO at e;have:=congrArg Option.isSome e;rw[a3Q,a3Q] at this;rw[Option.ne_none_iff_isSome,Option.ne_none_iff_isSome,this])
theorem A3i (t:K8 w (ak A) (AS w As)) (hb:K8 w (ak B) (AS w Bs)) (r:∀v,AS w As=ak v->(v.map (·.1)).Nodup) (U:∀v,AS w Bs=ak v->(v.map (·.1)).Nodup) (p:okV A (AA w)) (c:okV B (AA w)) (h:D7 A (AA w) n≠D7 B (AA w) n):bhO w As≠bhO w Bs:=λe=>by
 unfold bhO at e;cases i:AS w As with
 | none=>rw[i] at t;exact t p
 | some x=>
   cases g:AS w Bs with
   | none=>rw[g] at hb;exact hb c
   | some y=> rw[i] at t e;rw[g] at hb e;have e:BF x=BF y:=Option.some.inj e;refine h ?_;rw[<-t.2 n,<-hb.2 n,<-FI (r x i),<-FI (U y g),e]
def FR (a b:Option Eff):List Eff:=[a,b].filterMap id
def GN (E:Eff) (ts:List Eff):List (List Th):=ts.map (λF=>wM am F.st)++ts.flatMap (λF=>F.fr.map λn=>wM am (E.st++[n]))++E.st.map λn=>wM (ak n) E.st
def LM (a b:Option Eff):List (List Th):=match FR a b with | []=>[] | E::r=>GN E (E::r)
theorem LC (h:OkE ys E):okV E (gM m E.st):=#[λn hn=>by unfold gM;rw[if_pos hn];rfl,λn hn=>by unfold gM;rw[if_neg λq=>h.apart n q hn]]
theorem bE:∀(l:List Int),(∀x∈l,x=0)->l.sum=0
 | [],_=>rfl
 | x::l,h=>by rw[b0J,h x a0J,bE l λy hy=>h y (yV _ hy)];rfl
theorem tT {f:Str->Int}:∀{l:List Str},l.Nodup->(∀x∈l,f x=if x=z then 1 else 0)->(l.map f).sum=if z∈l then 1 else 0
 | [],_,_=>by simp
 | x::l,nd,h=>by
   obtain⟨h1,t⟩:=xV.mp nd;rw[zI,b0J,tT t λy hy=>h y (yV _ hy),h x a0J];by_cases e:x=z;. subst e;rw[if_pos rfl,if_neg h1,if_pos a0J];rfl
   . rw[if_neg e];by_cases q:z∈l;. rw[if_pos q,if_pos (yV _ q)];rfl
     . rw[if_neg q,if_neg (by simp[a4Q e,q])];rfl
def Dif (a b:Option Eff) (g:Gt):Prop:=¬(okO a g↔okO b g)\/∃A B n,a=ak A/\b=ak B/\okV A g/\okV B g/\D7 A g n≠D7 B g n
theorem HW :okO (ak E) g↔okV E g:=#[(by rintro⟨_,e,h⟩;cases e;exact h),λh=>#[E,rfl,h]]
theorem bF :¬okO am g:=by rintro⟨_,e,_⟩;exact nomatch e
theorem Dif.one (h1:okV A g) (e:¬okV B g):Dif (ak A) (ak B) g:=.inl λh=>e (HW.mp (h.mp (HW.mpr h1)))
theorem Dif.two (h1:¬okV A g) (e:okV B g):Dif (ak A) (ak B) g:=.inl λh=>h1 (HW.mp (h.mpr (HW.mpr e)))
theorem bG (h:n∉l):gM m l n=none:=if_neg h
theorem MR (h:n∈l):gM m l n=ak (mkV m n):=if_pos h
theorem tU (h:OkE ys A):D7 A (gM m A.st) n=(AC A.lf n).map (enV (gM m A.st)):=by
 cases e:AC A.lf n with
 | some x=>exact K6 e
 | none=>
   by_cases hs:n∈A.st;. exact IV e hs
   . rw[FN e hs,bG hs];rfl
theorem bH (h:k∈l):plV (gM m l) (.inr k)=(mkV m k).1:=by unfold plV;simp only[MR h,Option.getD_some]
theorem iU (h:∀k∈q,k∈l):ctV (gM am l) q=0:=bE _ λx hx=>by obtain⟨k,hk,rfl⟩:=zL.mp hx;rw[MR (h k hk)];rfl
theorem iV (nd:q.Nodup) (h:∀k∈q,k∈l):ctV (gM (ak z) l) q=if z∈q then 1 else 0:=tT nd λk hk=>by
 rw[MR (h k hk)];unfold mkV;by_cases e:k=z;. subst e;rw[if_pos rfl,if_pos rfl];rfl
 . rw[if_neg (λq=>e (Option.some.inj q)),if_neg e];rfl
structure EntK (l:List Str) (e:Ent):Prop where
 pl:∀k,e.1 = .inr k->k∈l
 nd:e.2.1.Nodup
 sub:∀k∈e.2.1,k∈l
 srt:BU e.2.1=e.2.1
theorem tV (he:EntK l e) (M:EntK l f) (I:enV (gM am l) e=enV (gM am l) f) (h1:∀z∈l,enV (gM (ak z) l) e=enV (gM (ak z) l) f):e=f:=by
 obtain⟨p,q,c⟩:=e;obtain⟨O,h,G⟩:=f;have T:=congrArg Prod.snd I;unfold enV at T I h1;simp only[iU he.sub,iU M.sub] at T;have J:c=G:=by have:=T;simp only[Int.add_zero] at this;exact this
 subst J;have hq:q=h:=by
   refine he.srt.symm.trans (Eq.trans (X7 he.nd M.nd λk=>?_) M.srt);have key:∀k∈l,(k∈q↔k∈h):=λk hk=>by
     have S:=congrArg Prod.snd (h1 k hk);simp only[iV he.nd he.sub,iV M.nd M.sub] at S;have g:=Int.add_left_cancel S;by_cases u:k∈q
     . by_cases r:k∈h;. exact#[λ_=>r,λ_=>u]
       . simp only[if_pos u,if_neg r] at g;exact absurd g `kh
     . by_cases r:k∈h;. simp only[if_neg u,if_pos r] at g;exact absurd g `kh
       . exact#[λx=>absurd x u,λx=>absurd x r]
   exact#[λx=>(key k (he.sub k x)).mp x,λx=>(key k (M.sub k x)).mpr x]
 subst hq;have hp:p=O:=by
   have i:=congrArg Prod.fst I;have b1:=λz L=>congrArg Prod.fst (h1 z L);simp only at i b1;cases p with
   | inl x=>
     cases O with
     | inl y=>exact congrArg Sum.inl i
     | inr k=> have hk:=M.pl k rfl;rw[bH hk] at i;have t:=b1 k hk;rw[bH hk] at t;unfold mkV at i t;rw[if_neg (by simp)] at i;rw[if_pos rfl] at t;unfold plV at i t;simp only at i t;lia
   | inr j=>
     have N:=he.pl j rfl;rw[bH N] at i;have t:=b1 j N;rw[bH N] at t;unfold mkV at i t;rw[if_neg (by simp)] at i;rw[if_pos rfl] at t;cases O with
     | inl y=> unfold plV at i t;simp only at i t;lia
     | inr k=>
       have hk:=M.pl k rfl;rw[bH hk] at t;unfold mkV at t;by_cases e:k=j;. rw[e]
       . rw[if_neg (λq=>e (Option.some.inj q))] at t;exact absurd t `kh
 rw[hp]
theorem A1X (h:OkE ys A) (s:QD A) (he:AC A.lf n=ak e):EntK A.st e:=by have q:=(BK h.keys).mp he;exact#[λk hk=>h.place _ q k hk,(h.from_ _ q).1,(h.from_ _ q).2,s.2.2.2 _ q]
theorem tW (hA:OkE ys A) (hB:OkE ys B) (t:QD A) (S:QD B) (h:∀n,AC A.lf n=AC B.lf n):A.lf=B.lf:=by rw[<-t.2.2.1,<-S.2.2.1];exact aL hA.keys hB.keys λn e=>by rw[<-BK hA.keys,<-BK hB.keys,h]
theorem A0X (hA:OkE ys A) (hB:OkE ys B) (r:QD A) (S:QD B) (h:A≠B):∃w∈GN A [A,B],Dif (ak A) (ak B) (AA w):=by
 have p:wM am A.st∈GN A [A,B]:=by unfold GN;simp
 have U:wM am B.st∈GN A [A,B]:=by unfold GN;simp
 by_cases h1:∃n,n∈B.st/\n∉A.st;. obtain⟨n,hb,t⟩:=h1;refine#[_,p,?_];rw[EK];exact .one (LC hA) λq=>by have:=q.1 n hb;rw[bG t] at this;cases this
 by_cases j:∃n,n∈A.st/\n∉B.st;. obtain⟨n,t,hb⟩:=j;refine#[_,U,?_];rw[EK];exact .two (λq=>by have:=q.1 n t;rw[bG hb] at this;cases this) (LC hB)
 have M:A.st=B.st:=by rw[<-r.1,<-S.1];exact X7 hA.st.1 hB.st.1 λn=>#[λx=>a5K λy=>j #[n,x,y],λx=>a5K λy=>h1 #[n,x,y]]
 by_cases G:∃n,n∈A.fr/\n∉B.fr
 . obtain⟨n,t,hb⟩:=G;refine#[wM am (A.st++[n]),by unfold GN;simp only[yW,List.mem_flatMap];exact .inl (.inr #[A,by simp,zL.mpr #[n,t,rfl]]),?_];rw[EK];refine .two (λq=>by have:=q.2 n t;rw[MR (by simp)] at this;cases this) #[λk hk=>by rw[MR (by rw[M];exact yW.mpr (.inl hk))];rfl,λk hk=>bG λq=>?_];rcases yW.mp q with q | q;. rw[M] at q;exact hB.apart k q hk
   . rw[List.mem_singleton.mp q] at hk;exact hb hk
 by_cases T:∃n,n∈B.fr/\n∉A.fr
 . obtain⟨n,hb,t⟩:=T;refine#[wM am (A.st++[n]),by unfold GN;simp only[yW,List.mem_flatMap];exact .inl (.inr #[B,by simp,zL.mpr #[n,hb,rfl]]),?_];rw[EK];refine .one #[λk hk=>by rw[MR (yW.mpr (.inl hk))];rfl,λk hk=>bG λq=>?_] (λq=>by have:=q.2 n hb;rw[MR (by simp)] at this;cases this);rcases yW.mp q with q | q;. exact hA.apart k q hk
   . rw[List.mem_singleton.mp q] at hk;exact t hk
 have O:A.fr=B.fr:=by rw[<-r.2.1,<-S.2.1];exact X7 hA.fr.1 hB.fr.1 λn=>#[λx=>a5K λy=>G #[n,x,y],λx=>a5K λy=>T #[n,x,y]]
 by_cases Z:∀n,AC A.lf n=AC B.lf n
 . exact absurd (by
     have:=tW hA hB r S Z;obtain⟨x,y,k⟩:=A;obtain⟨x',y',Y⟩:=B;cases M;cases O;cases this;rfl) h
 obtain⟨n,hn⟩:=Classical.not_forall.mp Z;have Q:∀m,okV B (gM m A.st):=λm=>by rw[M];exact LC hB
 have J:∀m,D7 B (gM m A.st) n=(AC B.lf n).map (enV (gM m A.st)):=λm=>by rw[M];exact tU hB
 have X:∀m,(AC A.lf n).map (enV (gM m A.st))≠(AC B.lf n).map (enV (gM m A.st))->Dif (ak A) (ak B) (gM m A.st):=λm q=>.inr #[A,B,n,rfl,rfl,LC hA,Q m,by rw[tU hA,J m];exact q];cases i:AC A.lf n with
 | none=>
   cases g:AC B.lf n with
   | none=>rw[i,g] at hn;exact absurd rfl hn
   | some f=>exact#[_,p,by rw[EK];exact X am (by rw[i,g];exact λq=>nomatch q)]
 | some e=>
   cases g:AC B.lf n with
   | none=>exact#[_,p,by rw[EK];exact X am (by rw[i,g];exact λq=>nomatch q)]
   | some f=>
     by_cases I:enV (gM am A.st) e=enV (gM am A.st) f
     . by_cases N:∀z∈A.st,enV (gM (ak z) A.st) e=enV (gM (ak z) A.st) f;. rw[i,g,tV (A1X hA r i) (by rw[M];exact A1X hB S g) I N] at hn;exact absurd rfl hn
       . obtain⟨z,c⟩:=Classical.not_forall.mp N;obtain⟨L,c⟩:=Classical.not_imp.mp c;exact#[wM (ak z) A.st,by unfold GN;simp only[yW];exact .inr (zL.mpr #[z,L,rfl]),by rw[EK];exact X _ (by rw[i,g];exact λq=>c (Option.some.inj q))]
     . exact#[_,p,by rw[EK];exact X am (by rw[i,g];exact λq=>I (Option.some.inj q))]
theorem A0Y (t:∀E,a=ak E->OkE ys E) (i:∀E,b=ak E->OkE ys E) (r:∀E,a=ak E->QD E) (p:∀E,b=ak E->QD E) (h:a≠b):∃w∈LM a b,Dif a b (AA w):=by
 cases a with
 | none=>
   cases b with
   | none=>exact absurd rfl h
   | some B=>exact#[wM am B.st,by unfold LM FR GN;simp,.inl λq=>bF (q.mpr (by rw[EK];exact HW.mpr (LC (i B rfl))))]
 | some A=>
   cases b with
   | none=>exact#[wM am A.st,by unfold LM FR GN;simp,.inl λq=>bF (q.mp (by rw[EK];exact HW.mpr (LC (t A rfl))))]
   | some B=>exact A0X (t A rfl) (i B rfl) (r A rfl) (p B rfl) λe=>h (by rw[e])
theorem tX (h:There zs w) (hz:zs.length < 60) (hD:∀D∈Ds,D.real/\∀x∈D.names,x∈zs):∀v,AS w Ds=ak v->(v.map (·.1)).Nodup:=λv e=>(CH h hz hD v e).nd
theorem lU (hn:namesOK ys) (hA:∀D∈As,deed18 ys D) (hB:∀D∈Bs,deed18 ys D) (h:There zs w) (hs:∀y∈ys,y∈zs) (hz:zs.length < 60) (d:Dif (AX As) (AX Bs) (AA w)):bhO w As≠bhO w Bs:=by
 have j:=CY hn w _ As rfl hA;have e:=CY hn w _ Bs rfl hB;rcases d with d | ⟨A,B,n,t,g,i,r,d⟩
 . exact A3h j e d
 . rw[t] at j;rw[g] at e;exact A3i j e (tX h hz λD hD=>#[(hA D hD).1,λx hx=>hs x ((hA D hD).2 x hx)]) (tX h hz λD hD=>#[(hB D hD).1,λx hx=>hs x ((hB D hD).2 x hx)]) i r d
end
end DL
namespace DL
open PySem PySem.Spec L2 XC
section
theorem tY (n:rowQ16 w Ds) (hb:CJ w (Ds.take k)) (hk:k<=Ds.length):EO (wsF w Ds k)/\JD (wsF w Ds k):=by
 have r:=n.few;obtain⟨t,i,_⟩:=L0 (k:=k) hb n.fine (by rw[a0K];lia) (by rw[a0K];lia);have e:wsF w (Ds.take k) k=wsF w Ds k:=by unfold wsF;rw[List.take_take,Nat.min_self]
 rw[e] at t i;exact#[t,t.1.nodup,by lia]
end
end DL
namespace L2
open PySem PySem.Spec PyProof.Rows
theorem eY (l:Addr) (items:Array ap) (n:Nat) (b:Addr) (e:Array ap) (t:Nat) (dd:Option Addr) (sl:Array (Option ap)) (k:¬(!items.isEmpty&&b2Q (items.size+e.size))=au) (Q:items.size<=a0) (u:items.size+e.size<=a0+1) :
   Meets (Builtin.«list.__iadd__» #[[.ref l,.ref b],[]]) (λ_ R s=>s.heap.get? l=ak { cls:=.type "list", dict:=am,data:=.seq items n,slots:=#[] }/\s.heap.get? b=ak { cls:=.type "list", dict:=dd,data:=.seq e t,slots:=sl }/\R (.ok (.ret (a0X l))) { s with heap:=s.heap.update l (a7J λx=>x++e),toks:=s.toks }):=
 .of_wp λprog w A R s h=>by
   obtain⟨hp,g,d,f,U⟩:=s;obtain⟨r,hb,h⟩:=h;have i:=AutoSeq1.idx_int;have m:=AutoSeq1.sub_tuple_tuple;have j:=AutoSeq1.sub_list_list;have p:=AutoSeq1.sub_tuple_list;have c:=AutoSeq1.sub_list_tuple;have q:(items++e).size<=a0+1:=by rw[Array.size_append];exact u
   wp_walk using (wpAny_updateSeq r rfl (hz:=Q) (_hz':=q)),fw r,fw hb;exact#[_,rfl,h]
theorem VP:ew (.type "list") (dunderI "add")=pure (ak (.builtin "list.__iadd__")):=by rw[typeLookup_type,builtinLookup_eq_fast];kernel_rfl
theorem A0Z (h:s.TypeIs a "list") (hb:s.TypeIs b "list") (hc:wpAny M A (call (.builtin "list.__iadd__") [a,b]) Q E s):wpAny M A (inplaceOp .Add a b) Q E s:=by
 unfold inplaceOp;refine bt ?_;have u:fillsInplaceSlot (.type "list") "add" (Operator.Add==.Add)=pure false:=by unfold fillsInplaceSlot;show(ew (.type "list") (dunderI "add") >>= λe=>pure (e.isSome&&!isSeqSlot e))=pure aB;rw[VP];kernel_rfl
 have t:seqSlot? (.type "list") (dunderI "add")=pure (ak (.builtin "list.__iadd__")):=by unfold seqSlot?;rw[VP];kernel_rfl
 refine zZ (ga h (zZ (io u ?_)));show wpAny M A (if aB=au then _ else _) Q E s;rw[if_neg nft];refine zZ (wpAny_binaryOp1_none (nm:= "add") h hb noFill_list_add ?_);refine zZ (io t ?_);exact zZ (db hc)
section
def eZ (K:Frg):R2:=λx y H Q=>∃l b t k,x = .ref l/\y = .ref b/\H l=ak (.lst t)/\SqL K H b k/\t.length+k.length<=a0/\Q (.ref l) (upd H l (.lst (t++k)))
theorem tZ {K:Frg}(hK:X.K=K):PIp X .Add (eZ K):=by
 subst hK;intro pins s D H x y v u Q I f g h;obtain⟨l,b,O,S,rfl,rfl,hH,hB,T,q⟩:=h;cases f;cases g;obtain⟨z,t,n,r,k,e⟩:=I.lstM hH;obtain⟨M,i,p,_⟩:=I.list hB;have N:=i.length;obtain⟨⟨cls,j,data,sl⟩,c,ho,hc,L,hd⟩:=id p;dsimp only at hc L hd;subst hc L hd;have hsz:t.toArray.size+M.toArray.size<=sizeLine:=by rw[zJ,zJ];lia
 have m:¬(!t.toArray.isEmpty&&b2Q (t.toArray.size+M.toArray.size))=true:=by rw[nL hsz,Bool.and_false];exact nft
 refine A0Z #[_,e,rfl] #[_,ho,rfl] (call_meets F.slot_list_iadd #[_,e,rfl] F.entry_list_iadd (F.args_list_iadd_2 _ _) (eY l t.toArray n b M.toArray c am sl m (by rw[zJ];lia) (by lia)) #[e,ho,?_]);refine#[.ref l,_,I.lset (its':=t++M) hH e (by simp) (r.append i) ?_,rfl,q];rw[yY];lia
end
end L2
namespace DL
open PySem PySem.Spec L2
theorem A3j {X:Cx}{K:Frg}(hK:X.K=K):PIp X .Add (eZ K):=tZ hK
theorem u0 (m:M a=ak (.l ds)) (hz:ds.length+es.length<=a0) (q:Q (.loc a) (M.put a (.l (ds++es)))):D2 K (eZ K) (.loc a) (.d (.list es)) M Q:=λH v u QQ z e t k=>by unfold SI at e;subst e;obtain⟨n,I,hd⟩:=z a _ m;unfold SI DV at t;obtain⟨b,i,rfl,r,hd2⟩:=t;obtain⟨x,y⟩:=HA z m (hd.append hd2);exact#[a,b,n,i,rfl,rfl,I,r.sq,by rw[hd.length,hd2.length];exact hz,k _ _ (.loc a) _ x rfl y q]
end DL
namespace DL
open PySem PySem.Spec L2 XC
section
variable {M:Own}{Q:DS->Own->Prop}{ys l:List Str}{A B E:Eff}{a b:Option Eff}{w u v:List Th}{D:Deed}{As Bs Ds:List Deed}{n z:Str}{m:Option Str}{p:Addr}{ts:List Th}{es:List (Str×Ent)}
theorem Q6:∀{x y:List (Str×PyData)},AG x=AG y->x=y
 | [],[],_=>rfl
 | [],_::_,h=>nomatch h
 | _::_,[],h=>nomatch h
 | (a,b)::r,(c,d)::s,h=>by simp only[AG,zI,List.cons.injEq,Prod.mk.injEq,PyData.str.injEq] at h;obtain⟨⟨rfl,rfl⟩,h⟩:=h;rw[Q6 h]
theorem SW:∀{ts:List (Str×PyData)}{t:Str×PyData},(ts.map (·.1)).Nodup->t∈ts->B3 ts t.1=ak t.2
 | x::r,t,nd,h=>by
   obtain⟨h1,i⟩:=xV.mp nd;rcases yX.mp h with rfl | h;. unfold B3;exact if_pos rfl
   . unfold B3;rw[if_neg (λe=>h1 (zL.mpr #[t,h,e.symm]))];exact SW i h
def SX (ts:List (Str×PyData)):PyData->PyData | .str n=>(match B3 ts n with | some (.tuple ds)=>.tuple (.str n::ds) | _=>.none) | d=>d
def A5l (d:PyData):Prop:=∃ds,d = .tuple ds/\ds.length<=9
def BS:FSp:=#[λi M=>∃(p:Addr) (ts:List (Str×PyData)),i=[.loc p]/\M p=ak (.d (AG ts))/\(ts.map (·.1)).Nodup/\ts.length < 64/\∀t∈ts,A5l t.2,
 λi M y r=>∀(p:Addr) (ts:List (Str×PyData)),i=[.loc p]->M p=ak (.d (AG ts))->∃e:List Str,e.Perm (ts.map (·.1))/\xG e=au/\y = .d (.tuple ((e.map a0Z).map (SX ts)))/\r=M]
theorem bI {ts:List (Str×PyData)}{ss:List Str}(h:∀s∈ss,SX ts (.str s)=f (.str s)):(ss.map a0Z).map (SX ts)=(ss.map a0Z).map f:=
 yM λd hd=>by obtain⟨s,hs,rfl⟩:=zL.mp hd;exact h s hs
theorem GQ (m:M p=ak (tsO ts)) (nd:(ts.map (·.1)).Nodup) (c:ts.length < 64) (q:Q (.d (wD (BF ts))) M):[DS.loc p].length=1/\BS.pre [.loc p] M/\∀x r,BS.post [.loc p] M x r->Q x r:=by
 have e:(tsD ts).map (·.1)=ts.map (·.1):=by unfold tsD;rw[zD];rfl
 refine#[rfl,#[p,tsD ts,rfl,m,by rw[e];exact nd,by unfold tsD;rw[zX];exact c,λt i=>?_],λx r h=>?_];. unfold tsD at i;obtain⟨s,_,rfl⟩:=zL.mp i;exact#[_,rfl,yD rfl]
 . obtain⟨k,h1,j,rfl,rfl⟩:=h p (tsD ts) rfl m;rw[e] at h1;rw[bI (f:=gU ts) λs hs=>by
     obtain⟨t,i,g⟩:=zL.mp (h1.mem_iff.mp hs);have c:AA ts s=ak t.2:=by rw[<-g];exact C9 nd i
     simp only[SX,gU,AL,c];rfl,kF nd h1 j];exact q
theorem LV (m:M p=ak (U3 es)) (nd:(es.map (·.1)).Nodup) (c:es.length < 64) (q:Q (.d (.tuple ((DF es).map lfE))) M):[DS.loc p].length=1/\BS.pre [.loc p] M/\∀x i,BS.post [.loc p] M x i->Q x i:=by
 have e:(LL es).map (·.1)=es.map (·.1):=by rw[zD];rfl
 refine#[rfl,#[p,LL es,rfl,m,by rw[e];exact nd,by rw[zX];exact c,λt g=>?_],λx i h=>?_];. obtain⟨s,_,rfl⟩:=zL.mp g;exact#[_,rfl,yD rfl]
 . obtain⟨j,h1,r,rfl,rfl⟩:=h p (LL es) rfl m;rw[e] at h1;rw[bI (f:=sD es) λs hs=>by obtain⟨v,N⟩:=sC (h1.mem_iff.mp hs);simp only[SX,sD,HR,N,AI];rfl,l7,i7 h1 r];exact q
def mkD (m:Option Str):PyData:=match m with | some z=>.str z | none=>.none
def mkX (l:List Str) (m:Option Str):List DS:=[.d (AO l),.d (mkD m)]
theorem A0a (e:mkX l m=mkX r t):l=r/\m=t:=by
 simp only[mkX,List.cons.injEq,DS.d.injEq,and_true] at e;refine#[FL e.1,?_];have g:=e.2;cases m <;> cases t <;> simp only[mkD] at g;. rfl
 . cases g
 . cases g
 . cases g;rfl
structure MkQ (l:List Str) (m:Option Str):Prop where
 nm:∀n∈l,D4 n
 mark:∀z,m=ak z->D4 z
 few:l.length < 60
def LF:FSp:=#[λt M=>∃(l:List Str) (m:Option Str),t=mkX l m/\MkQ l m,λt M y i=>∀(l:List Str) (m:Option Str),t=mkX l m->y = .d (wD (wM m l))/\i=M]
theorem IX (h:MkQ l m) (q:Q (.d (wD (wM m l))) M):(mkX l m).length=2/\LF.pre (mkX l m) M/\∀y i,LF.post (mkX l m) M y i->Q y i:=#[rfl,#[l,m,rfl,h],λy i e=>by obtain⟨rfl,rfl⟩:=e l m rfl;exact q]
def mkF (m:Option Str):PyData->PyData | .str n=>pcD (mkV m n).1 (mkV m n).2 | d=>d
theorem lV (m:Option Str) (l:List Str):JX SJ (mkF m) (l.map .str)=tsD (Q5 m l):=by
 have X:∀(l:List Str) (ts:List Th),(l.map a0Z).foldl (λts d=>G6 ts (SJ d) (mkF m d)) (tsD ts)=tsD (l.foldl (mkP m) ts):=λl=>by
   induction l with
   | nil=>exact λts=>rfl
   | cons x r e=> intro ts;show(r.map a0Z).foldl _ (G6 (tsD ts) x (pcD (mkV m x).1 (mkV m x).2))=_;rw[C8];exact e _
 exact X l []
def wO (o:Option (List Th)):PyData:=match o with | some w=>wD w | none=>.none
theorem MS {e:Type}{f:e->PyData}(h:∀x,plD (f x)=au):∀l:List e,plAll (l.map f)=au
 | []=>rfl
 | x::l=>by rw[zI];unfold plAll;rw[h x,MS h l];rfl
theorem iW {ys:List PyData}(h1:plAll xs=au) (t:plAll ys=au) (e:a0W (.tuple xs) (.tuple ys)=au):c0Z xs = .tuple ys:=dZ _ _ (by unfold plD;exact h1) (by unfold plD;exact t) e
theorem A0b (e:rowQ16 w Ds) (h:bhO w Ds=ak v):EO v:=by
 rcases QV e Ds.length (zR _) with ⟨u,h1,t⟩ | ⟨h1,_⟩
 . have hb:=(XF e t).1;rw[iT e hb] at h;cases h;exact(tD #[e.fine,hb,e.few]).1
 . unfold bhO at h;rw[h1] at h;cases h
theorem P8 (t:rowQ16 w Ds):zH (wO (bhO w Ds))=true:=by
 cases e:bhO w Ds with
 | none=>rfl
 | some v=>exact VH (A0b t e)
theorem A3k (h1:rowQ16 w As) (r:rowQ16 w Bs):(!a0W (wO (bhO w As)) (wO (bhO w Bs)))=decide (bhO w As≠bhO w Bs):=by
 cases i:bhO w As with
 | none=>
   cases g:bhO w Bs with
   | none=>rfl
   | some v=>rfl
 | some u=>
   cases g:bhO w Bs with
   | none=>rfl
   | some v=>
     by_cases e:u=v;. subst e;rw[HI (by have:=P8 h1;rw[i] at this;exact this),decide_eq_false (by simp)];rfl
     . rw[decide_eq_true (p:=ak u≠ak v) (λq=>e (Option.some.inj q)),b2Z];refine Bool.eq_false_iff.mpr λq=>e (OU (iW (MS (λt=>rfl) u) (MS (λt=>rfl) v) q))
theorem A3l (t:Str×Ent):plD (lfE t)=true:=by obtain⟨n,p,q,c⟩:=t;have:plAll (q.map a0Z)=true:=MS (λ_=>rfl) q;cases p <;> simp[lfE,plE,AO,plD,plAll,this]
theorem u4 (E:Eff):plD E.d=true:=by have h1:plAll (E.st.map a0Z)=true:=MS (λ_=>rfl) _;have e:plAll (E.fr.map a0Z)=true:=MS (λ_=>rfl) _;have G:plAll (E.lf.map lfE)=true:=MS A3l _;simp[Eff.d,AO,plD,plAll,h1,e,G]
theorem A0c (hn:namesOK ys) (h1:∀E,a=ak E->OkE ys E):a0W (efO a) (efO a)=true:=HI (P4 hn h1)
theorem A0d (e:a≠b):a0W (efO a) (efO b)=false:=by
 cases a with
 | none=>
   cases b with
   | none=>exact absurd rfl e
   | some F=>rfl
 | some E=>
   cases b with
   | none=>rfl
   | some F=>exact Bool.eq_false_iff.mpr λq=>e (by rw[F5 (dZ _ _ (u4 E) (u4 F) q)])
def IY:FSp:=#[λt M=>∃(w:List Th) (Ds:List Deed),t=JO w Ds/\rowQ16 w Ds,λt M y i=>∀(w:List Th) (Ds:List Deed),t=JO w Ds->y = .d (wO (bhO w Ds))/\i=M]
theorem LX (h:rowQ16 w Ds) (q:Q (.d (wO (bhO w Ds))) M):(JO w Ds).length=2/\IY.pre (JO w Ds) M/\∀y i,IY.post (JO w Ds) M y i->Q y i:=#[rfl,#[w,Ds,rfl,h],λy i e=>by obtain⟨rfl,rfl⟩:=e w Ds rfl;exact q]
def JF (Ds:List Deed):PyData:=.tuple (Ds.map Deed.d)
theorem LG (e:JF As=JF Bs):As=Bs:=ES (by unfold JF at e;rw[e])
def prX (w:List Th) (As Bs:List Deed):List DS:=[.d (wD w),.d (JF As),.d (JF Bs)]
theorem A0e (e:prX w As Bs=prX h t i):w=h/\As=t/\Bs=i:=by simp only[prX,List.cons.injEq,DS.d.injEq,and_true] at e;exact#[OU e.1,LG e.2.1,LG e.2.2]
def LH:FSp:=#[λt M=>∃(w:List Th) (As Bs:List Deed),t=prX w As Bs/\rowQ16 w As/\rowQ16 w Bs,λt M y i=>∀(w:List Th) (As Bs:List Deed),t=prX w As Bs->y = .d (.bool (decide (bhO w As≠bhO w Bs)))/\i=M]
theorem XH (h1:rowQ16 w As) (e:rowQ16 w Bs) (q:Q (.d (.bool (decide (bhO w As≠bhO w Bs)))) M):(prX w As Bs).length=3/\LH.pre (prX w As Bs) M/\∀y i,LH.post (prX w As Bs) M y i->Q y i:=#[rfl,#[w,As,Bs,rfl,h1,e],λy i t=>by obtain⟨rfl,rfl⟩:=t w As Bs rfl;exact q]
def tyX (a b:Option Eff):List DS:=[.d (efO a),.d (efO b)]
structure TryQ (ys:List Str) (a b:Option Eff):Prop where
 nm:namesOK ys
 one:∀E,a=ak E->OkE ys E
 two:∀E,b=ak E->OkE ys E
 any:FR a b≠[]
theorem A0f (e:tyX a b=tyX h t):a=h/\b=t:=by simp only[tyX,List.cons.injEq,DS.d.injEq,and_true] at e;exact#[i9 e.1,i9 e.2]
def QW:FSp:=#[λt M=>∃(ys:List Str) (a b:Option Eff),t=tyX a b/\TryQ ys a b,λt M y i=>∀a b:Option Eff,t=tyX a b->y = .d (.list ((LM a b).map wD))/\i=M]
theorem f6 (h:TryQ ys a b) (q:Q (.d (.list ((LM a b).map wD))) M):(tyX a b).length=2/\QW.pre (tyX a b) M/\∀y i,QW.post (tyX a b) M y i->Q y i:=#[rfl,#[ys,a,b,rfl,h],λy i e=>by obtain⟨rfl,rfl⟩:=e a b rfl;exact q]
def alX (As Bs:List Deed):List DS:=[.d (JF As),.d (JF Bs)]
theorem A0g (e:alX As Bs=alX t i):As=t/\Bs=i:=by simp only[alX,List.cons.injEq,DS.d.injEq,and_true] at e;exact#[LG e.1,LG e.2]
structure AlQ (ys:List Str) (As Bs:List Deed):Prop where
 nm:namesOK ys
 one:∀D∈As,deed18 ys D
 two:∀D∈Bs,deed18 ys D
 few:ys.length+1+As.length < 60/\ys.length+1+Bs.length < 60
def O0 (w:List Th):PyData:=.tuple [.str (a0Q "parted"),wD w]
def SY:PyData:=.tuple [.str (a0Q "alike")]
def alR (As Bs:List Deed) (d:PyData):Prop:=(AX As=AX Bs/\d=SY)\/(AX As≠AX Bs/\∃w∈LM (AX As) (AX Bs),bhO w As≠bhO w Bs/\d=O0 w)
def HX:FSp:=#[λt M=>∃(ys:List Str) (As Bs:List Deed),t=alX As Bs/\AlQ ys As Bs,λt M y i=>∀As Bs:List Deed,t=alX As Bs->(∃d,y = .d d/\alR As Bs d)/\i=M]
theorem O1 (h:AlQ ys As Bs) (q:∀d,alR As Bs d->Q (.d d) M):(alX As Bs).length=2/\HX.pre (alX As Bs) M/\∀y i,HX.post (alX As Bs) M y i->Q y i:=#[rfl,#[ys,As,Bs,rfl,h],λy i e=>by obtain⟨⟨d,rfl,h1⟩,rfl⟩:=e As Bs rfl;exact q d h1]
theorem iX (h:TryQ ys a b) (hE:E∈FR a b):OkE ys E:=by
 unfold FR at hE;rw[List.mem_filterMap] at hE;obtain⟨o,ho,e⟩:=hE;have e:o=ak E:=e;subst e;rcases yX.mp ho with e | ho;. exact h.one E e.symm
 . exact h.two E (List.mem_singleton.mp ho).symm
theorem SZ (h:TryQ ys a b) (e:w∈LM a b):∃m l,w=wM m l/\(∀n∈l,n∈ys)/\l.length<=ys.length+1:=by
 have t:∀E∈FR a b,OkE ys E:=λE hE=>iX h hE;unfold LM at e;revert e t;cases FR a b with
 | nil=>exact λe _=>nomatch e
 | cons E r=>
   intro e t;have hE:=t E a0J;have few:∀{F:Eff},OkE ys F->F.st.length<=ys.length:=λ{F} hF=>K3 hF.st.1 hF.st.2;simp only[GN,yW,List.mem_flatMap,zL] at e;rcases e with (⟨F,hF,rfl⟩ | ⟨F,hF,k,hk,rfl⟩) | ⟨k,hk,rfl⟩
   . exact#[am,F.st,rfl,(t F hF).st.2,Nat.le_succ_of_le (few (t F hF))]
   . refine#[am,E.st++[k],rfl,λn hn=>?_,by rw[yY];exact Nat.succ_le_succ (few hE)];rcases yW.mp hn with q | q;. exact hE.st.2 n q
     . rw[List.mem_singleton.mp q];exact(t F hF).fr.2 k hk
   . exact#[ak k,E.st,rfl,hE.st.2,Nat.le_succ_of_le (few hE)]
theorem A3m (s:Str) (m:Option Str):a0W (.str s) (mkD m)=decide (ak s=m):=by
 cases m with
 | none=>rfl
 | some z=> show a0W (.str s) (.str z)=_;rw[BQ,a1K,decide_eq_true_iff,beq_iff_eq,Option.some.injEq]
theorem lW (h:∀z,m=ak z->D4 z):zH (mkD m)=true:=by
 cases m with
 | none=>rfl
 | some z=>exact C7 (h z rfl)
theorem A0h (h:ak s=m):mkF m (.str s) = .tuple [.int 1,.int 1]:=by simp only[mkF,mkV,if_pos h];rfl
theorem A3n (h:¬ak s=m):mkF m (.str s) = .tuple [.int 0,.int 0]:=by simp only[mkF,mkV,if_neg h];rfl
def A5E (d:PyData):Bool:=!CT d
theorem lX:(([efO a,efO b].filter A5E).map id)=(FR a b).map Eff.d:=by cases a <;> cases b <;> rfl
def stF:PyData->PyData | .tuple (.tuple l::_)=>wD (wM am (l.map SJ)) | d=>d
def frF:PyData->List PyData | .tuple [_,.tuple l,_]=>l | _=>[]
theorem A0i (l:List Str):(l.map a0Z).map SJ=l:=by rw[zD];exact a9W _
theorem iY (E:Eff):stF E.d=wD (wM am E.st):=by show wD (wM am ((E.st.map a0Z).map SJ))=_;rw[A0i]
theorem A0j (l:List Eff):(l.map Eff.d).map stF=(l.map λF=>wM am F.st).map wD:=by rw[zD,zD];exact yM λE _=>iY E
def A0k (st:List Str) (e:PyData):PyData:=wD (wM am (st++[SJ e]))
theorem A0l (st:List Str) (l:List Eff):((l.map Eff.d).flatMap λd=>(frF d).map (A0k st))=(l.flatMap λF=>F.fr.map λn=>wM am (st++[n])).map wD:=by rw[List.flatMap_map,List.map_flatMap];refine congrArg (λf=>l.flatMap f) (funext λF=>?_);show(F.fr.map a0Z).map (A0k st)=(F.fr.map λn=>wM am (st++[n])).map wD;rw[zD,zD];rfl
def A5F (st:List Str) (e:PyData):PyData:=wD (wM (ak (SJ e)) st)
theorem u5 (st:List Str):(st.map a0Z).map (A5F st)=(st.map λn=>wM (ak n) st).map wD:=by rw[zD,zD];rfl
theorem f7 (a b:Option Eff):(FR a b).length<=2:=by cases a <;> cases b <;> simp[FR]
theorem u6 (h:FR a b=E::r):LM a b=GN E (E::r):=by unfold LM;rw[h]
theorem f8 (hn:namesOK ys) (h:∀n∈l,n∈ys) (r:l.length<=27) (e:∀z,m=ak z->z∈ys):MkQ l m:=#[λn q=>hn.1 n (h n q),λz q=>hn.1 z (e z q),by lia]
theorem A0m (h:AlQ ys As Bs) (hq:TryQ ys (AX As) (AX Bs)) (i:w∈LM (AX As) (AX Bs)):rowQ16 w As/\rowQ16 w Bs:=by obtain⟨m,l,rfl,h1,t⟩:=SZ hq i;have e:=iS (m:=m) λn q=>h.nm.1 n (h1 n q);have r:=zN (A3g (m:=m) (l:=l)) t;have:=h.few;exact#[#[e,by lia,λD hD=>(h.one D hD).1],#[e,by lia,λD hD=>(h.two D hD).1]]
theorem LI (h:AlQ ys As Bs) (e:AX As≠AX Bs):TryQ ys (AX As) (AX Bs)/\∃(J:Nat) (w:List Th),(LM (AX As) (AX Bs))[J]?=ak w/\bhO w As≠bhO w Bs:=by
 have i:=P3 h.nm h.one;have r:=P3 h.nm h.two;obtain⟨c,t,f⟩:=A0Y i r (aP h.nm h.one) (aP h.nm h.two) e;have hq:TryQ ys (AX As) (AX Bs):=⟨h.nm,i,r,λq=>by unfold LM at t;rw[q] at t;cases t⟩
 obtain⟨J,hJ⟩:=List.mem_iff_getElem?.mp t;obtain⟨m,l,j,h1,_⟩:=SZ hq t;have:=h.few;exact#[hq,J,c,hJ,lU h.nm h.one h.two (zs:=ys) (by rw[j];exact SV h1) (λ_ q=>q) (by lia) f]
theorem u7 (hn:namesOK ys) {L:List Eff}(hL:L.length<=2) (h:∀F∈L,OkE ys F):((L.map Eff.d).flatMap λd=>(frF d).map (A0k st)).length<=60:=by refine zN (aX (n:=26) λd hd=>?_) (by rw[zX];lia);obtain⟨F,hF,rfl⟩:=zL.mp hd;rw[zX];show(F.fr.map a0Z).length<=26;rw[zX];exact E6 hn (h F hF).fr
end
end DL
namespace DL
open PySem PySem.Spec L2 XC
section
variable {X:Cx}{K:Frg}{M:Own}{ρ:List (Option DS)}{t u v:TS}{D E:EndsD}{x:DS}{a:eg}{r:List eg}{Φ:TS->Prop}
def Nm (X:Cx) (l:List eg) (Φ:TS->Prop):Prop:=∃t,PSs X l t/\Φ t
theorem A0n (h:Nm X r λS=>∀x,S=x->∃j,PS X a j/\Φ (mS j x)):Nm X (a::r) Φ:=by obtain⟨S,h1,n⟩:=h;obtain⟨j,G,e⟩:=n S rfl;exact#[_,QZ G h1,e]
theorem u8 (h:∃j,PS X a j/\Φ j):Nm X [a] Φ:=by obtain⟨j,G,e⟩:=h;exact#[_,N3 G,e]
theorem hD (N:List Str) {x:Str}(F:Fun K x qual st f T) (n:FnScope N ps (AB st)) (hb:∀(cdv:ap) (A:bx) (outer:List ic) (s:av) (H:Hp) (E:XK),Room k (A.deeper (xL qual (AB st) s.heap.objs.size f cdv))->(A.deeper (xL qual (AB st) s.heap.objs.size f cdv)).units+64 < eh->(A.deeper (xL qual (AB st) s.heap.objs.size f cdv)).units+1 < eh->N.Nodup ->
     Nm (IC CX0 P w K mg base N qual (AB st) f cdv A outer s H E).nox (BH st) λt=>∀xs M,xs.length=ps.length->S.pre xs M->DSt K t (MF N xs) M { nx:=λ_ M1=>∃e:Own,e.Sub M1/\S.post xs M (.d .none) e,rt:=λy M1=>∃e:Own,e.Sub M1/\S.post xs M y e }) :
   FnOk P w K mg base CX0 (k+1) f T ps (spD K ps.length S):=
 fnD F n λcdv A outer s H E hr=>hb cdv A outer s H E hr hr.units (zQ (Nat.add_le_add_left (show 1<=64 by decide) _) hr.units) n.nd
theorem hDX (N:List Str) {x:Str}(F:Fun K x qual st f T) (n:FnScope N ps (AB st)) (hb:∀(cdv:ap) (A:bx) (outer:List ic) (s:av) (H:Hp) (E:XK),Room k (A.deeper (xL qual (AB st) s.heap.objs.size f cdv))->(A.deeper (xL qual (AB st) s.heap.objs.size f cdv)).units+64 < eh->(A.deeper (xL qual (AB st) s.heap.objs.size f cdv)).units+1 < eh->N.Nodup ->
     Nm ((IC (CXE P w) P w K mg base N qual (AB st) f cdv A outer s H E).wish (Fly (IC (CXE P w) P w K mg base N qual (AB st) f cdv A outer s H E) λ_=>E)) (BH st) λt=>
       ∀xs M,xs.length=ps.length->S.pre xs M->DXt K (λ_=>E) t (MF N xs) M { nx:=λ_ M1=>∃e:Own,e.Sub M1/\S.post xs M (.d .none) e,rt:=λy M1=>∃e:Own,e.Sub M1/\S.post xs M y e } λ_ cls fs M1=>∃e:Own,e.Sub M1/\S.xpost xs M cls fs e) :
   FnOk P w K mg base (CXE P w) (k+1) f T ps (spX K ps.length S):=
 A5i F n λcdv A outer s H E hr=>hb cdv A outer s H E hr hr.units (zQ (Nat.add_le_add_left (show 1<=64 by decide) _) hr.units) n.nd
theorem A3o {a:PyData}(q:Q (.d a) M):D2 K (RJ K) (.d (.tuple (a::l))) (.d (.int 0)) M Q:=AM (AJ (j:=0) rfl) q
theorem A3p {a:PyData}(q:Q (.d b) M):D2 K (RJ K) (.d (.tuple (a::b::l))) (.d (.int 1)) M Q:=AM (AJ (j:=1) rfl) q
theorem A3q {a:PyData}(q:Q (.d c) M):D2 K (RJ K) (.d (.tuple (a::b::c::l))) (.d (.int 2)) M Q:=AM (AJ (j:=2) rfl) q
theorem A3r {a:PyData}(q:Q (.d d) M):D2 K (RJ K) (.d (.tuple (a::b::c::d::l))) (.d (.int 3)) M Q:=AM (AJ (j:=3) rfl) q
theorem A3s {a:PyData}(q:Q (.d e) M):D2 K (RJ K) (.d (.tuple (a::b::c::d::e::l))) (.d (.int 4)) M Q:=AM (AJ (j:=4) rfl) q
theorem A0o (h1:u=v) (h:DSt K u ρ M D):DSt K v ρ M D:=h1▸h
theorem A0p {G} {F} (h1:u=v) (h:DXt K G u ρ M D F):DXt K G v ρ M D F:=h1▸h
end
end DL
namespace L2
open PySem PySem.Spec PyProof.Rows
set_option genInjectivity false
structure Src (P:bn) (w:bj) (K:Frg) (j:Addr) (st:Nat->cc->Prop) (rm:Hp->Nat->Prop) (has:Hp->Nat->V->Prop) (out:Hp->Nat->Prop):Prop where
 obj:∀i h,st i h->∃o,h.get? j=ak o/\∀v,o.data≠.cell v
 keep:∀i h h',st i h->(∀o,h.get? j=ak o->h'.get? j=ak o)->st i h'
 item:∀{X:Cx}{pins:List (Addr×cy)}{σ:St}{H:Hp}{s:av}{i:Nat}{fp:List Addr},Inv X pins σ H s->X.K=K->(∀c∈fp,N4 X pins H c)->rm H i->st i s.heap->j∈fp ->∃(x:V) (F:List Addr) (S S':cc->Prop) (R:ap->Prop),has H i x/\(∀c∈F,c=j\/c∉fp)/\FF F S/\FF F S'/\(∀A,NxI P w A j S S' R)/\S s.heap/\(∀u,R u->RelV x u)/\∀h,S' h->st (i+1) h
 done:∀{X:Cx}{pins:List (Addr×cy)}{σ:St}{H:Hp}{s:av}{i:Nat}{fp:List Addr},Inv X pins σ H s->X.K=K->(∀c∈fp,N4 X pins H c)->out H i->st i s.heap->j∈fp ->∃(F:List Addr) (S:cc->Prop),(∀c∈F,c=j\/c∉fp)/\FF F S/\(∀A:bx,A.handled=am->NxE P w A j S)/\S s.heap
def Itg (q Y:Hp->Nat->Prop) (h1 n:Hp->Nat->V->Prop) (S e:Hp->Nat->Prop):It:=#[λi H=>q H i/\Y H i,λi H v H'=>∃p a b,H p=am/\v = .ref p/\H'=upd H p (.tup [a,b])/\h1 H i a/\n H i b,λi H=>S H i\/q H i/\e H i]
theorem lY {P:bn}{w:bj}{K:Frg}{l_:List bp}{kk:Nat}{jx:en}(z TI TO i1 i2:Addr) {s1 s2:Nat->cc->Prop}{c1 c2:Hp->Nat->Prop}{h1 h2:Hp->Nat->V->Prop}{o1 o2:Hp->Nat->Prop}(A1:Src P w K i1 s1 c1 h1 o1) (A2:Src P w K i2 s2 c2 h2 o2) (d1:TI≠z) (d2:TO≠z) (d3:i1≠z) (d4:i2≠z) (d5:TI≠TO) (d6:TI≠i1) (d7:TI≠i2) (d8:TO≠i1) (d9:TO≠i2) (ze:i1≠i2) :
   Turn P w K (.Tuple l_ kk jx) (Itg c1 c2 h1 h2 o1 o2) [z,TI,TO,i1,i2] z (λi h=>fN h z TI TO .none/\dj h TI (.ref i1) (.ref i2)/\(∃a b,dj h TO a b)/\s1 i h/\s2 i h) where
 mem:=by simp
 obj:=by
   rintro i h ⟨a1,a2,⟨x,y,a3⟩,a4,a5⟩ b hb;simp only[yX,xW,or_false] at hb;rcases hb with rfl | rfl | rfl | rfl | rfl;. exact⟨_,a1,λv q=>by cases q⟩
   . exact⟨_,a2,λv q=>by cases q⟩
   . exact⟨_,a3,λv q=>by cases q⟩
   . exact A1.obj i h a4
   . exact A2.obj i h a5
 keep:=by rintro i h h' ⟨a1,a2,⟨x,y,a3⟩,a4,a5⟩ k;exact#[k z (by simp) _ a1,k TI (by simp) _ a2,#[x,y,k TO (by simp) _ a3],A1.keep i h h' a4 λo e=>k i1 (by simp) o e,A2.keep i h h' a5 λo e=>k i2 (by simp) o e]
 item:=by
   intro X hP hw hK hc i pins s σ H E I hf #[a1,a2,#[x0,y0,a3],a4,a5] #[hx,hy];subst hP hw;obtain⟨x,F1,S1,rl,R1,pb,f1,t1,x_,n1,q1,r1,e1⟩:=A1.item I hK hf hx a4 (by simp);obtain⟨y,F2,S2,vj,R2,Nq,f2,t2,yy,n2,q2,r2,e2⟩:=A2.item I hK hf hy a5 (by simp);have D:ZAp z TI TO i1 i2 F1 F2:=#[d2,d3,d4,d8,d9,ze,λc hc=>by
       rcases f1 c hc with rfl | hn;. exact#[d3,d8.symm,ze]
       . simp only[yX,xW,or_false,not_or] at hn;exact#[hn.1,hn.2.2.1,hn.2.2.2.2],λc hc=>by
       rcases f2 c hc with rfl | hn;. exact#[d4,d9.symm,ze.symm]
       . simp only[yX,xW,or_false,not_or] at hn;exact#[hn.1,hn.2.2.1,hn.2.2.2.1]]
   refine jY D t1 x_ t2 yy n1 n2 a1 a2 a3 q1 q2 (λh q=>let #[o,e,_]:=A1.obj _ h (e1 h q);zM e) (λh q=>let #[o,e,_]:=A2.obj _ h (e2 h q);zM e) λh' tk u1 u2 Nr Nt b1 b2 b3 b4 b5 b6 hk=>?_;refine#[_,rfl,wpAny_letOwnedTupleGo_zip (s:={ s with heap:=h',toks:=tk }) b1 λh2 c1 sb=>?_];have lt:∀{c o},s.heap.get? c=ak o->s.heap.objs.size≠c:=λe=>a9J (zM e);have keep:∀b o,b∉[z,TO,i1,i2]->s.heap.get? b=ak o->h2.get? b=ak o:=λb o hb e=>by simp only[yX,xW,or_false,not_or] at hb;exact sb.extBut b o hb.1 (hk b o hb.1 hb.2.1 hb.2.2.1 hb.2.2.2 e)
   have sub:∀b∈[z,TO,i1,i2],b∈[z,TI,TO,i1,i2]:=λb hb=>by simp only[yX,xW,or_false] at hb ⊢;rcases hb with h | h | h | h <;> simp[h]
   have I1:Inv X pins σ (upd H s.heap.objs.size (.tup [x,y])) { s with heap:=h2,toks:=tk }:=I.turnedT (t':=tk) (ch:=[z,TO,i1,i2]) keep (λb hb=>(hf b (sub b hb)).1) (λb hb=>let q:=hf b (sub b hb);#[q.2.2.2.1,q.2.1,q.2.2.2.2.1,q.2.2.2.2.2]) (zR _) #[by show 2<=a0;decide,[u1,u2],.cons (r1 _ Nr) (.cons (r2 _ Nt) .nil),#[_,sb.extBut _ _ (lt a1) b5,rfl,_,rfl]];refine#[.ref s.heap.objs.size,_,I1,rfl,#[s.heap.objs.size,x,y,I.hok.fresh (zR _),rfl,rfl,pb,Nq],#[c1,keep _ _ (by simp[d1,d5,d6,d7]) a2,#[_,_,sb.extBut _ _ d2 b2],A1.keep _ _ _ (e1 _ b3) λo e=>sb.extBut _ _ d3 e,A2.keep _ _ _ (e2 _ b4) λo e=>sb.extBut _ _ d4 e],λb hb=>?_];rw[AH λe=>?_];. exact(hf b hb).1
   . obtain⟨o,q,_⟩:∃o,s.heap.get? b=ak o/\True:=by
       simp only[yX,xW,or_false] at hb;rcases hb with rfl | rfl | rfl | rfl | rfl;. exact#[_,a1,trivial]
       . exact#[_,a2,trivial]
       . exact#[_,a3,trivial]
       . obtain⟨o,e,_⟩:=A1.obj _ _ a4;exact#[o,e,trivial]
       . obtain⟨o,e,_⟩:=A2.obj _ _ a5;exact#[o,e,trivial]
     exact lt q e.symm
 done:=by
   intro X hP hw hK hc i pins s σ H E I hf #[a1,a2,#[x0,y0,a3],a4,a5] hg;subst hP hw;have sub:∀b∈[z,TO,i1,i2],b∈[z,TI,TO,i1,i2]:=λb hb=>by simp only[yX,xW,or_false] at hb ⊢;rcases hb with h | h | h | h <;> simp[h]
   have mk:∀{F1 F2:List Addr},(∀c∈F1,c=i1\/c∉[z,TI,TO,i1,i2])->(∀c∈F2,c=i2\/c∉[z,TI,TO,i1,i2])->ZAp z TI TO i1 i2 F1 F2:=λf1 f2=>#[d2,d3,d4,d8,d9,ze,λc hc=>by
       rcases f1 c hc with rfl | hn;. exact#[d3,d8.symm,ze]
       . simp only[yX,xW,or_false,not_or] at hn;exact#[hn.1,hn.2.2.1,hn.2.2.2.2],λc hc=>by
       rcases f2 c hc with rfl | hn;. exact#[d4,d9.symm,ze.symm]
       . simp only[yX,xW,or_false,not_or] at hn;exact#[hn.1,hn.2.2.1,hn.2.2.2.1]]
   refine jZ (TI:=TI) (TO:=TO) (i1:=i1) (i2:=i2) (I.ok.hd hc) a1 (λQ' E' G' A' Ha=>?_) λh' tk hk=>#[rfl,I.turnedL (t':=tk) (ch:=[z,TO,i1,i2]) (λb o hb e=>?_) (λb hb=>(hf b (sub b hb)).1) λb hb=>let q:=hf b (sub b hb);#[q.2.2.2.1,q.2.1,q.2.2.2.2.1,q.2.2.2.2.2]]
   . rcases hg with ho | ⟨hx,ho⟩
     . obtain⟨F1,S1,f1,t1,n1,q1⟩:=A1.done I hK hf ho a4 (by simp);exact jW (F2:=[]) (mk f1 (by simp)) t1 (n1 A' Ha) a1 a2 a3 q1 G'
     . obtain⟨x,F1,S1,rl,R1,_,f1,t1,x_,n1,q1,r1,e1⟩:=A1.item I hK hf hx a4 (by simp);obtain⟨F2,S2,f2,t2,n2,q2⟩:=A2.done I hK hf ho a5 (by simp);exact jX (mk f1 f2) t1 t2 (n1 A') (n2 A' Ha) a1 a2 a3 q1 q2 G'
   . simp only[yX,xW,or_false,not_or] at hb;exact hk b o hb.1 hb.2.1 hb.2.2.1 hb.2.2.2 e
 self:=λ_ _ _ _ _ st h=>wpAny_pyIter_zip st.1 h
theorem A0q {P:bn}{w:bj}{K:Frg}(j l:Addr):Src P w K j (λi h=>h.IsTupleIter j l i) (λH i=>∃xs,SqT K H l xs/\i < xs.length) (λH i x=>∀xs,SqT K H l xs->xs[i]?=ak x) (λH i=>∃xs,SqT K H l xs/\xs.length<=i) where
 obj:=by rintro i h ⟨o,e,c,d⟩;exact⟨o,e,λv q=>by rw[d] at q;cases q⟩
 keep:=λi h h' st k=>st.at k
 item:=by
   intro X pins σ H s i fp I hK hf #[xs,hx,lx] st hj;subst hK;obtain⟨aa,rx,px,_⟩:=I.tuple hx;obtain⟨u,hu,ru⟩:=rx.get (zV lx);have ne:∀c∈fp,l≠c:=λc hc=>RQ I (hf c hc) hx;have t:∀k,FF [j,l] (λh=>h.IsTupleIter j l k/\h.IsTuple l aa.toArray):=by rintro k h h' ⟨⟨o,e,r⟩,⟨o',e',r'⟩⟩ q;exact#[#[o,q j (by simp) o e,r],#[o',q l (by simp) o' e',r']]
   exact#[_,[j,l],_,_,λv=>v=u,λys hy=>by rw[I.tuple_inj hy hx];exact zV lx,λc hc=>by
     rcases yX.mp hc with rfl | hc;. exact .inl rfl
     . have:c=l:=by simpa using hc
       subst this;exact .inr λq=>ne _ q rfl,t i,t (i+1),λA=>pR (ne j hj) (by simpa using hu),#[st,px],λv e=>e▸ru,λh q=>q.1]
 done:=by
   intro X pins σ H s i fp I hK hf #[xs,hx,ex] st hj;subst hK;obtain⟨aa,rx,px,_⟩:=I.tuple hx;have ne:∀c∈fp,l≠c:=λc hc=>RQ I (hf c hc) hx;have hn:aa.toArray[i]?=none:=c0X (by have:=rx.length;simp;omega);exact#[[j,l],λh=>h.IsTupleIter j l i/\h.IsTuple l aa.toArray,λc hc=>by
     rcases yX.mp hc with rfl | hc;. exact .inl rfl
     . have:c=l:=by simpa using hc
       subst this;exact .inr λq=>ne _ q rfl,(by rintro h h' ⟨⟨o,e,r⟩,⟨o',e',r'⟩⟩ q;exact#[#[o,q j (by simp) o e,r],#[o',q l (by simp) o' e',r']]),λA hA=>kX hA hn,#[st,px]]
theorem A0r {P:bn}{w:bj}{K:Frg}(j:Addr) (x:Str) (t:Tok):Src P w K j (λi h=>h.IsStrIter j "str_ascii_iterator" x t i) (λH i=>i < x.cps.size) (λH i v=>∃c,x.cps[i]?=ak c/\v = .str #[(y9 [c])]) (λH i=>x.cps.size<=i) where
 obj:=by rintro i h ⟨o,e,c,d⟩;exact⟨o,e,λv q=>by rw[d] at q;cases q⟩
 keep:=by rintro i h h' ⟨o,e,r⟩ k;exact#[o,k o e,r]
 item:=λI hK hf e st hj=>#[_,[j],_,_,_,#[_,Array.getElem?_eq_getElem e,rfl],λc hc=>.inl (by simpa using hc),(by rintro h h' ⟨o,e,r⟩ q;exact#[o,q j (by simp) o e,r]),(by rintro h h' ⟨o,e,r⟩ q;exact#[o,q j (by simp) o e,r]),λA=>pQ (Array.getElem?_eq_getElem e),st,λu r=>r,λh q=>q]
 done:=λI hK hf ho st hj=>#[[j],_,λc hc=>.inl (by simpa using hc),(by rintro h h' ⟨o,e,r⟩ q;exact#[o,q j (by simp) o e,r]),λA hA=>k6 hA (c0X ho),st]
def A0s (K:Frg) (H:Hp) (u:V) (h:Hp->Nat->Prop) (has:Hp->Nat->V->Prop) (out:Hp->Nat->Prop):Prop:=(∃l,u = .ref l/\(∃t,SqT K H l t)/\(h=λH i=>∃t,SqT K H l t/\i < t.length)/\(has=λH i x=>∀t,SqT K H l t->t[i]?=ak x)/\out=λH i=>∃t,SqT K H l t/\t.length<=i) \/∃x:Str,u = .str x/\x.cps.all (· < 128)=au/\(h=λ_ i=>i < x.cps.size)/\(has=λ_ i v=>∃c,x.cps[i]?=ak c/\v = .str #[(y9 [c])])/\out=λ_ i=>x.cps.size<=i
theorem bJ {b:St}(I:Inv X pins b H s) (h:A0s X.K H u n has out) (r:RelV u v) : ∃(o:cy) (Pre:cc->Prop) (st:Addr->Nat->cc->Prop),RP v o Pre/\(∀h o,Pre h->Pre (h.push o))/\o.isFreed=aB/\Pre s.heap/\∀j,Src X.prog X.w X.K j (st j) n has out/\∀h:cc,h.get? j=ak o->st j 0 h:=by
 rcases h with ⟨l,rfl,⟨f,hx⟩,rfl,rfl,rfl⟩ | ⟨x,rfl,hx,rfl,rfl,rfl⟩
 . cases r;obtain⟨m,c,p,_⟩:=I.tuple hx;exact#[_,_,λj i h=>h.IsTupleIter j l i,wV (items:=m.toArray),λh o q=>q.push o,rfl,p,λj=>#[A0q j l,λh e=>#[_,e,rfl,rfl]]]
 . obtain⟨t,rfl⟩:=r;exact#[_,_,λj i h=>h.IsStrIter j "str_ascii_iterator" x t i,k7 hx,λh o q=>q,rfl,trivial,λj=>#[A0r j x t,λh e=>#[_,e,rfl,rfl]]]
section
variable {X:Cx}{K:Frg}
def A1Y (K:Frg) (j:TA):TI:=λr H R=>j r H λt e=>∃u v q Y h1 n S i,t=[u,v]/\A0s K e u q h1 S/\A0s K e v Y n i/\R (Itg q Y h1 n S i) e
theorem A5G {a b:bp}{j:TA}{p pos:en}{Y:List bp}{D:Nat}{Z:en}(h:X.K=K) (hg:Gl X "zip") (M:X.mg "zip"=am) (S:PA X [a,b] j) (hs:starEach [a,b] X.env=[(aB,eval a X.env),(aB,eval b X.env)]:=by rfl) (c:starEach [b] X.env=[(aB,eval b X.env)]:=by rfl) :
   PI X (.Tuple Y D Z) (.Call (.Name "zip" p) [a,b] [] pos) (A1Y K j):=by
 subst h;intro pins s σ H R I h;refine Call_ (OD I hg M boot_zip (xH (thn (S pos pins s σ H _ I h) λus t #[vs,g,J,r1,q1]=>?_) (by rw[hs,c]) (by rw[c];rfl)));have ne:∀(m n:Nat),m≠n->t.heap.objs.size+m≠t.heap.objs.size+n:=λm n h e=>h (Nat.add_left_cancel e);obtain⟨u,v,c1,c2,h1,h2,o1,o2,rfl,z1,z2,q⟩:=q1;cases r1 with
 | cons r f=>
   cases f with
   | cons r' f=>
     cases f;obtain⟨p1,P1,t1,n1,Cs,y,N,L⟩:=bJ J z1 r;obtain⟨p2,P2,t2,U,T,Q,G,i⟩:=bJ J z2 r';refine k8 n1 U T y Q N G λO b1 z B k x hk=>?_;refine wpAny_pyIter_zip (s:={ t with heap:=O }) b1 ?_;refine#[t.heap.objs.size+4,[t.heap.objs.size+4,t.heap.objs.size+2,t.heap.objs.size+3,t.heap.objs.size,t.heap.objs.size+1],_,_,g,rfl,J.kept (t':=t.toks) hk,
       lY (t.heap.objs.size+4) (t.heap.objs.size+2) (t.heap.objs.size+3) t.heap.objs.size (t.heap.objs.size+1) (L _).1 (i _).1 (ne 2 4 `kh) (ne 3 4 `kh) (ne 0 4 `kh) (ne 1 4 `kh) (ne 2 3 `kh) (ne 2 0 `kh) (ne 2 1 `kh) (ne 3 0 `kh) (ne 3 1 `kh) (ne 0 1 `kh),
       #[b1,z,#[_,_,B],(L _).2 _ k,(i _).2 _ x],λb hb=>?_,q];have hle:t.heap.objs.size<=b:=by simp only[yX,xW,or_false] at hb;rcases hb with rfl | rfl | rfl | rfl | rfl <;> first | exact zR _ | exact c0K _ _
     exact J.fpOk hle (J.hok.fresh hle)
end
end L2
namespace DL
open PySem PySem.Spec L2
section
def A3t (d:PyData) (as:List PyData):Prop:=d = .tuple as\/∃z:Str,d = .str z/\z.cps.all (· < 128)=au/\as=DB z
theorem bK (hz:A3t d as) (s:SI K H M (.d d) v):∃p has out,A0s K H v p has out/\∀H' n,Step K M n H H'->(∀i,i < as.length->p H' i)/\(∀i,as.length<=i->out H' i)/\∀i x,has H' i x->∃e,as[i]?=ak e/\DV K H' n.W e x:=by
 rcases hz with rfl | ⟨z,rfl,b,rfl⟩
 . unfold SI DV at s;obtain⟨a,m,rfl,r,hd⟩:=s;refine#[_,_,_,.inl #[a,rfl,#[m,r.sq],rfl,rfl,rfl],λH' n t=>#[λi hi=>#[m,(r.grow t.grow).sq,by rw[hd.length];exact hi],λi hi=>#[m,(r.grow t.grow).sq,by rw[hd.length];exact hi],λi x h=>?_]];obtain⟨e,j,g⟩:=hd.get (h m (r.grow t.grow).sq);exact#[e,j,g.grow t.grow]
 . have k:(DB z).length=z.cps.size:=by simp[DB]
   rw[show v = .str z by unfold SI DV at s;exact s];refine#[_,_,_,.inr #[z,rfl,b,rfl,rfl,rfl],λH' n t=>#[λi hi=>by rw[k] at hi;exact hi,λi hi=>by rw[k] at hi;exact hi,?_]];rintro i x ⟨c,j,rfl⟩;exact#[.str #[(y9 [c])],by unfold DB;rw[zF];simp[j],by unfold DV;rfl]
theorem A0t (h:DA K j ρ M λxs M1=>∃d e as bs,xs=[.d d,.d e]/\A3t d as/\A3t e bs/\QI (YT as bs) M1):DI K (A1Y K j) ρ M QI:=λσ H R Y k=>
 h σ H _ Y λvs g xs M1 o1 s1 t1 Z=>by
   obtain⟨d,e,as,bs,B,z1,z2,q⟩:=Z;subst B;obtain⟨v,r,rfl,h1,v2,r2,rfl,U,X⟩:=s1;cases X;obtain⟨S,G,u1,y1,m⟩:=bK z1 h1;obtain⟨D,L,u2,y2,Q⟩:=bK z2 U;have b:(YT as bs).length=min as.length bs.length:=by unfold YT;rw[zX,List.length_zip]
   refine#[v,v2,S,D,G,L,u1,u2,rfl,y1,y2,k _ (YT as bs) g M1 o1 t1 #[λi H' t hi z n=>?_,λH' t z n=>?_,λi H' t x H2 z n hi y=>?_] q];. rw[b] at hi;exact#[(m H' t n).1 i (by omega),(Q H' t n).1 i (by omega)]
   . rw[b];by_cases hle:as.length<=bs.length;. exact .inl ((m H' t n).2.1 _ (by omega))
     . exact .inr #[(m H' t n).1 _ (by omega),(Q H' t n).2.1 _ (by omega)]
   . obtain⟨p,f,J,hp,rfl,rfl,hx,hy⟩:=y;obtain⟨c,u,T⟩:=(m H' t n).2.2 i f hx;obtain⟨I,b1,O⟩:=(Q H' t n).2.2 i J hy;have N:Grow K t.W t.W H' (upd H' p (.tup [f,J])):=AZ _ hp;refine#[z.new hp,#[N],.tuple [c,I],?_,?_];. unfold YT;rw[zF,show(as.zip bs)[i]?=ak (c,I) by rw[a9V];exact#[u,b1]];rfl
     . unfold DV;exact#[p,_,rfl,.inl #[λw=>w (z.none hp),.inl AF],DVs.cons (T.grow N) (DVs.cons (O.grow N) DVs.nil)]
end
end DL
namespace L2
open PySem PySem.Spec PyProof.Rows
section
variable {X:Cx}{scope:eN}{NC:List Str}{fr:List (Option Nat)}
theorem u9 {U n iter r:bp}{ifs:List bp}{pos:en}{M:TI}{g:TG}{T:TT}{tk O:TE}{i:Nat}{x:Str}{j z:en}(hc:X.calm=au) (hu:X.A.units+1 < eh) (hN:X.N.Nodup) (yx:X.N[i]?=ak x) (hx:Loc X.env.scope x) (S:CSc X scope NC fr) (hi:PI X r iter M) (hb:∀(C:Addr) (s:av) (H:Hp) (p:List Addr) (pn:List (Addr×cy)),PG (AT X scope NC C s H p pn) r g/\PTs (AT X scope NC C s H p pn) ifs T/\PE (AT X scope NC C s H p pn) U tk/\PE (AT X scope NC C s H p pn) n O) (B:ge (.DictComp U n [#[r,iter,ifs,0]] scope pos) (ak (.Name x j)) z.line X.env=pure au) (hf:X.fn x=au\/X.env.scope.names.lookup x=ak .local:=by first | exact .inl rfl | exact .inr rfl | assumption)
   (hs:∀x,ca iter X.env x=pure x:=by intro _;rfl) :
   PS X (.Assign [.Name x j] (.DictComp U n [#[r,iter,ifs,0]] scope pos) z) (λD e H=>RT fr M g T tk O e H λv H'=>D.nx (e.set i (ak v)) H'):=by intro pins s e H D I h;rw[exec_Assign_Name_used _ _ _ _ B];refine zZ (bv (zZ ?_));show wpAny _ X.A (do let _ <- hX (.DictComp U n [#[r,iter,ifs,0]] scope pos) scope X.env _ newDict aB (eval iter X.env) (ak (iD (.Name x j) X.env))) _ _ s;refine zZ (thn (V6 (use:=ak (iD (.Name x j) X.env)) (Q:=λv H'=>D.nx (e.set i (ak v)) H') (QQ:=λ_ s'=>∃c H',Inv X pins c H' s'/\D.nx c H') hc S hi hb I hu h (λA C H' s' m b J hn q back yw=>?_) hs) λ_ s' hq=>zY (zY hq));have L:=VW (X:=X) (pos:=j) hN yx hx hf (pins++[(C,b)]) s' e H' (.ref A) (.ref A) (λc H'=>D.nx c H') J rfl q;refine thn L ?_;rintro _ y ⟨t,f,k,q2⟩;have G:y.heap.get? C=ak b:=(k.pin (C,b) (zB _ (zB _ (by simp)))).1;obtain⟨o',Z,Y,u,kg,vt⟩:=hn;rw[yw] at u;cases u;exact#[m,#[_,Z,Y,G,kg,vt],λh' sb=>#[t,f,back pins t f y h' k sb,q2]]
end
end L2
namespace L2
open PySem PySem.Spec PyProof.Rows PySem.SeqAt
def bL (as bs:List (Str×PyData)):Bool:=as.all λp=>match DL.B3 bs p.1 with | some d=>a0W p.2 d | none=>aB
def U6 (as bs:List (Str×PyData)):Bool:=as.length==bs.length&&bL as bs
end L2
namespace DL
open PySem PySem.Spec L2 XC
section
variable {M:Own}{Q:DS->Own->Prop}{L:List Int}{a k n:Nat}{ys:List Str}{w u v:List Th}{D:Deed}{As Bs Ds:List Deed}{z:Str}{p c:Int}
theorem A5H (x m:Int) (q:0 < m):∃k:Nat,x % m=(k:Int)/\(k:Int) < m:=#[(x % m).toNat,by have:=a7V x (Int.ne_of_gt q);lia,by have:=a7V x (Int.ne_of_gt q);have:=b1J x q;lia]
theorem U7 (h:EO w):zH (O0 w)=true:=by
 have e:wD w = .tuple (w.map thD):=rfl;refine CU (IH ?_) ?_;. simp only[List.forall_mem_cons];exact#[by decide +kernel,zG (VH h),by simp]
 . have:a2X (w.map thD)<=5:=JV λd hd=>by obtain⟨t,_,rfl⟩:=zL.mp hd;simp[thD,a2J,a2X]
   simp only[O0,e,a2J,a2X];lia
theorem lZ (w:List Th):a0W (O0 w) SY=false:=by simp[O0,SY,a0W,b8W]
theorem A3u (a b c d:Int):a0W (pcD a b) (pcD c d)=au↔(a,b)=(c,d):=by
 constructor;. intro h;have:=iW (xs:=[.int a,.int b]) (ys:=[.int c,.int d]) rfl rfl h;simpa using this
 . rintro⟨⟩;exact HI rfl
theorem XJ (i:(u.map (·.1)).Nodup) (U:(v.map (·.1)).Nodup):U6 (tsD u) (tsD v)=au↔∀n,AA u n=AA v n:=by
 have step:∀t:Th,(match B3 (tsD v) t.1 with | some d=>a0W (pcD t.2.1 t.2.2) d | none=>aB)=au↔AA v t.1=ak t.2:=λt=>by
   rw[AL];cases AA v t.1 with
   | none=>exact#[λh=>(nomatch h),λh=>(nomatch h)]
   | some x=> show a0W (pcD t.2.1 t.2.2) (pcD x.1 x.2)=au↔_;rw[A3u];exact#[λh=>congrArg ak h.symm,λh=>(Option.some.inj h).symm]
 have m:∀x:List Th,(tsD x).length=x.length:=λx=>by unfold tsD;rw[zX]
 unfold U6;rw[a0V,beq_iff_eq,m,m];have g:bL (tsD u) (tsD v)=au↔∀t∈u,AA v t.1=ak t.2:=by unfold bL;rw[show tsD u=u.map λt=>(t.1,pcD t.2.1 t.2.2) from rfl];rw[List.all_map,a9X];exact#[λh t e=>(step t).mp (h t e),λh t e=>(step t).mpr (h t e)]
 rw[g];constructor
 . rintro⟨h1,r⟩ n;by_cases hn:n∈u.map (·.1);. obtain⟨t,e,rfl⟩:=zL.mp hn;rw[r t e,C9 i e]
   . have:n∉v.map (·.1):=λN=>by
       have:=K3 (l:=n::u.map (·.1)) (ys:=v.map (·.1)) (xV.mpr #[hn,i]) λx hx=>by
         rcases yX.mp hx with rfl | hx;. exact N
         . obtain⟨t,e,rfl⟩:=zL.mp hx;rw[AU,r t e];rfl
       rw[yR,zX,zX] at this;lia
     rw[AU,yA,Option.isSome_eq_false_iff,Option.isNone_iff_eq_none] at hn this;rw[hn,this]
 . intro h;have hk:∀n,n∈u.map (·.1)↔n∈v.map (·.1):=λn=>by rw[AU,AU,h]
   refine#[?_,λt e=>by rw[<-h,C9 i e]];have:=(((a8Z i U).mpr hk).length_eq)
   rwa [zX,zX] at this
def A5m (x y:Option (List Th)):Bool:=match x,y with
 | some a,ak b=>!U6 (tsD a) (tsD b)
 | none,am=>aB
 | _,_=>au
theorem m5 (hn:namesOK ys) (hA:∀D∈As,deed18 ys D) (hB:∀D∈Bs,deed18 ys D) (e:AX As=AX Bs) (r:∀v,AS w As=ak v->(v.map (·.1)).Nodup) (U:∀v,AS w Bs=ak v->(v.map (·.1)).Nodup):A5m (AS w As) (AS w Bs)=false:=by
 have j:=CY hn w _ As rfl hA;have t:=CY hn w _ Bs rfl hB;rw[e] at j;cases g:AX Bs with
 | none=> rw[g] at j t;have j:AS w As=none:=j;have t:AS w Bs=none:=t;rw[j,t];rfl
 | some E=>
   rw[g] at j t;cases i:AS w As with
   | none=>
     cases g:AS w Bs with
     | none=>rfl
     | some b=>rw[i] at j;rw[g] at t;exact absurd t.1 j
   | some a=>
     cases g:AS w Bs with
     | none=>rw[i] at j;rw[g] at t;exact absurd j.1 t
     | some b=> rw[i] at j;rw[g] at t;show(!U6 (tsD a) (tsD b))=aB;rw[(XJ (r a i) (U b g)).mpr λn=>by rw[j.2 n,t.2 n]];rfl
end
end DL
namespace DL
open PySem PySem.Spec L2 XC
section
variable {K:Frg}{M:Own}{Q:DS->Own->Prop}{L:List Int}{a k n:Nat}{ys zs:List Str}{w u v:List Th}{D:Deed}{A B X Y As Bs Ds:List Deed}{z:Str}{p c:Int}{d:PyData}
theorem VQ:∀Ds:List Deed,Ds.foldl E7 am=am
 | []=>rfl
 | _::r=>VQ r
theorem QX:AS w (A++B)=(AS w A).bind λv=>AS v B:=by
 unfold AS;rw[a6Z];cases A.foldl E7 (ak w) with
 | none=>exact VQ B
 | some v=>rfl
theorem VR (j:K8 u o r) (e:K8 v o s) (h:AA u=AA v):(r=am/\s=am)\/∃x y,r=ak x/\s=ak y/\AA x=AA y:=by
 unfold K8 at j e;cases o with
 | none=>exact .inl #[j,e]
 | some E=>
   simp only at j e;cases r with
   | none=>
     cases s with
     | none=>exact .inl #[rfl,rfl]
     | some y=>rw[h] at j;exact absurd e.1 j
   | some x=>
     cases s with
     | none=>rw[h] at j;exact absurd j.1 e
     | some y=>exact .inr #[x,y,rfl,rfl,funext λn=>by rw[j.2,e.2,h]]
theorem m7 (hn:namesOK ys) (hs:There ys w) (t:ys.length < 60) (T:∀D∈X,deed18 ys D) (hA:∀D∈A,deed18 ys D) (hB:∀D∈B,deed18 ys D) (q:∀D∈Y,deed18 ys D) (e:AX A=AX B):bhO w (X++A++Y)=bhO w (X++B++Y):=by
 unfold bhO;rw[QX,QX,QX,QX];cases hx:AS w X with
 | none=>rfl
 | some v=>
   have N:There ys v:=CH hs t T v hx;show((AS v A).bind _).map _=((AS v B).bind _).map _;have b:=CY hn v _ A rfl hA;rw[e] at b;rcases VR b (CY hn v _ B rfl hB) rfl with ⟨j,g⟩ | ⟨x,y,j,g,h⟩
   . rw[j,g]
   . rw[j,g];show(AS x Y).map _=(AS y Y).map _;have O:There ys x:=CH N t hA x j;have I:There ys y:=CH N t hB y g;rcases VR (CY hn x _ Y rfl q) (CY hn y _ Y rfl q) h with ⟨i,r⟩ | ⟨G,J,i,r,f⟩
     . rw[i,r]
     . rw[i,r];have S:=(CH O t q G i).nd;have m:=(CH I t q J r).nd;exact congrArg ak (KY S (EM m) λn=>by rw[FI m,f])
theorem bM {P:Deed->Prop}(e:∀D∈X,P D) (hA:∀D∈A,P D) (q:∀D∈Y,P D):∀D∈X++A++Y,P D:=λD h=>by
 rcases yW.mp h with h | h;. exact(yW.mp h).elim (e D) (hA D)
 . exact q D h
theorem f9 (t:∀D∈X,deed18 ys D) (hA:∀D∈A,deed18 ys D) (hB:∀D∈B,deed18 ys D) (i:∀D∈Y,deed18 ys D) (h:AlQ ys (X++A++Y) (X++B++Y)) (e:AX A=AX B):AX (X++A++Y)=AX (X++B++Y):=
 a5K λq=>by obtain⟨hq,J,w,hJ,hd⟩:=LI h q;obtain⟨m,l,rfl,h1,_⟩:=SZ hq (yN hJ);have:=h.few;exact hd (m7 h.nm (SV h1) (by lia) t hA hB i e)
theorem uA {neg:Bool}(h:AlQ ys As Bs) (hd:alR As Bs d) (q:∀b:Bool,(b=au↔AX As=AX Bs)->Q (.d (.bool (if neg then !b else b))) M):D2 K (cS K neg) (.d d) (.d SY) M Q:=by
 rcases hd with ⟨e,rfl⟩ | ⟨e,w,t,_,rfl⟩
 . refine B2 (by decide +kernel) (by decide +kernel) ?_;rw[HI (d:=SY) (by decide +kernel)];exact q au #[λ_=>e,λ_=>rfl]
 . obtain⟨m,l,rfl,h1,_⟩:=SZ (LI h e).1 t;refine B2 (U7 (iS λn q=>h.nm.1 n (h1 n q))) (by decide +kernel) ?_;rw[lZ];exact q aB #[(λx=>nomatch x),λx=>absurd x e]
end
end DL
namespace DL
open PySem PySem.Spec L2 XC
section
variable {ys:List Str}{w A B a b:List Th}{D E:Deed}{n:Str}
def BM (w:List Th):Deed->List Th
 | .put x p k=>CL w x p k
 | .take x=>DQ w x
 | .move x p=>match AA w x with | some v=>CL (DQ w x) x p v.2 | none=>w
 | .count x k=>match AA w x with | some v=>CL (DQ w x) x v.1 (v.2+k) | none=>w
 | .name x y=>match AA w x with | some v=>CL (DQ w x) y v.1 v.2 | none=>w
 | .split x y p k=>match AA w x with | some v=>CL (CL (DQ w x) x v.1 (v.2 - k)) y p k | none=>w
 | .join x y=>match AA w x,AA w y with | some v,ak u=>CL (DQ (DQ w x) y) x v.1 (v.2+u.2) | _,_=>w
theorem CP (hg:goD w D) (n:Str):AA (BM w D) n=AA (doT w D) n:=by
 rw[AY hg.2.1 hg.2.2];have t:∀{n},n∈D.names->D.made≠ak n->∃v,AA w n=ak v:=λhn q=>B1 (JE hg.2.2 hn q);have r:=hg.2.1.2.1;cases D with
 | put x p k=>exact BX _ _ _ _ _
 | take x=>exact CW _ _ _
 | move x p=> obtain⟨v,N⟩:=t (n:=x) `jj (by simp[Deed.made]);simp only[BM,N,BX,CW,b5W];by_cases h:n=x <;> simp[h]
 | count x k=> obtain⟨v,N⟩:=t (n:=x) `jj (by simp[Deed.made]);simp only[BM,N,BX,CW,b5W];by_cases h:n=x <;> simp[h]
 | name x y=> obtain⟨v,N⟩:=t (n:=x) `jj (by simp[Deed.made];exact λe=>r e.symm);simp only[BM,N,BX,CW]
 | split x y p k=> obtain⟨v,N⟩:=t (n:=x) `jj (by simp[Deed.made];exact λe=>r e.symm);simp only[BM,N,BX,CW,b5W];by_cases h:n=y <;> by_cases i:n=x <;> simp[h,i,Int.sub_eq_add_neg]
 | join x y=>
   obtain⟨v,N⟩:=t (n:=x) `jj (by simp[Deed.made]);obtain⟨u,hu⟩:=t (n:=y) `jj (by simp[Deed.made]);have m:x≠y:=r;simp only[BM,N,hu,BX,CW,Option.bind_some,b5W];by_cases h:n=y;. subst h;simp[a4Q m]
   . by_cases i:n=x <;> simp[h,i,m]
theorem IZ (h:(w.map (·.1)).Nodup):((DQ w x).map (·.1)).Nodup:=(List.Sublist.map _ a4W).nodup h
theorem O2 (h:(w.map (·.1)).Nodup) (D:Deed):((BM w D).map (·.1)).Nodup:=by
 cases D with
 | put x p k=>exact GL h
 | take x=>exact IZ h
 | move x p=>simp only[BM];split <;> first | exact GL (IZ h) | exact h
 | count x k=>simp only[BM];split <;> first | exact GL (IZ h) | exact h
 | name x y=>simp only[BM];split <;> first | exact GL (IZ h) | exact h
 | split x y p k=>simp only[BM];split <;> first | exact GL (GL (IZ h)) | exact h
 | join x y=>simp only[BM];split <;> first | exact GL (IZ (IZ h)) | exact h
theorem O3 (h:There ys w) (hg:goD w D) (hD:∀x∈D.names,x∈ys):There ys (BM w D):=by refine#[O2 h.nd D,λt i=>?_];have h1:(AA (BM w D) t.1).isSome=true:=AU.mp (zL.mpr #[t,i,rfl]);rw[CP hg] at h1;obtain⟨s,hs,e⟩:=zL.mp (AU.mpr h1);rw[<-e];exact(HM h hg hD).sub s hs
def T0 (o:Option (List Th)) (D:Deed):Option (List Th):=o.bind λw=>if AE (w.map (·.1)) D=am then ak (BM w D) else am
def FS (w:List Th) (D E:Deed):Option (List Th):=T0 (T0 (ak w) D) E
theorem iZ (h:T0 (ak w) D=ak a):AE (w.map (·.1)) D=am/\a=BM w D:=by
 have h:(if AE (w.map (·.1)) D=am then ak (BM w D) else am)=ak a:=h;split at h;. rename_i q;exact#[q,(Option.some.inj h).symm]
 . cases h
theorem j4 (h:AE (w.map (·.1)) D=am):T0 (ak w) D=ak (BM w D):=by show(if AE (w.map (·.1)) D=am then ak (BM w D) else am)=_;rw[if_pos h]
theorem O4 (h:FS w D E=ak a):AE (w.map (·.1)) D=am/\AE ((BM w D).map (·.1)) E=am/\a=BM (BM w D) E:=by
 unfold FS at h;cases hs:T0 (ak w) D with
 | none=>rw[hs] at h;cases h
 | some A=> rw[hs] at h;obtain⟨h1,rfl⟩:=iZ hs;obtain⟨e,G⟩:=iZ h;exact#[h1,e,G]
structure Few (ys:List Str) (w:List Th) (D E:Deed):Prop where
 th:There ys w
 few:ys.length<=6
 rd:D.real
 re:E.real
 nd:∀x∈D.names,x∈ys
 ne:∀x∈E.names,x∈ys
theorem Few.swap (h:Few ys w D E):Few ys w E D:=#[h.th,h.few,h.re,h.rd,h.ne,h.nd]
theorem BR (h:There ys w) (r:ys.length<=6):JD w:=#[h.nd,by have:=h.few;lia]
theorem T2 (hF:Few ys w D E) (r:C6 D.d E.d=aB) (h:FS w D E=ak a) :
   goD w D/\goD w E/\goD (BM w D) E/\goD (BM w E) D/\FS w E D=ak (BM (BM w E) D)/\B4 w E=B4 (BM w D) E/\B4 (BM w E) D=B4 w D/\A1V (tsD a) (tsD (BM (BM w E) D)):=by
 obtain⟨h1,i,rfl⟩:=O4 h;have e:=aU r;have t:=BR hF.th hF.few;have hD:goD w D:=#[t,hF.rd,h1]
 have q:=O3 hF.th hD hF.nd;have x:goD (BM w D) E:=#[BR q hF.few,hF.re,i]
 have hA:=CP hD;have hE:goD w E:=iJ t x λn hn=>by rw[hA,iH hD λh=>(e n hn h).1]
 have tB:=O3 hF.th hE hF.ne;have hB:=CP hE;have y:goD (BM w E) D:=iJ (BR tB hF.few) hD λn hn=>by rw[hB,iH hE λh=>(e n h hn).2.1]
 refine#[hD,hE,x,y,?_,(VM hD hE e hA).symm,VM hE hD e.symm hB,?_];. unfold FS;rw[j4 hE.2.2,j4 y.2.2]
 . refine A0L (O2 q.nd E) (O2 tB.nd D) λn=>?_;rw[CP x,CP y];exact SR hD hE x y e hA hB n
theorem m8 (hF:Few ys w D E) (t:C6 D.d E.d=aB) (h:FS w D E=am):FS w E D=none:=by
 cases e:FS w E D with
 | none=>rfl
 | some b=> have:=(T2 hF.swap (by rw[ZG];exact t) e).2.2.2.2.1;rw[this] at h;cases h
theorem A5I (hg:goD w D) (hn:n∈D.names) (hu:BE D.d n=2):(AA (doT w D) n).isSome = !(AA w n).isSome:=by
 rw[AY hg.2.1 hg.2.2];have u:(AA w n).isSome=au↔¬D.made=ak n:=by rw[<-AU];exact BI hg.2.2 n hn
 have t:=hg.2.1.2.1;have i:∀{n},n∈D.names->D.made≠ak n->∃v,AA w n=ak v:=λhn q=>B1 (JE hg.2.2 hn q);cases D with
 | put x p k=>
   obtain rfl:n=x:=by simpa [Deed.names] using hn
   have:(AA w n).isSome=false:=by rw[<-yA,u];simp[Deed.made]
   rw[this];simp
 | take x=>
   obtain rfl:n=x:=by simpa [Deed.names] using hn
   rw[u.mpr (by simp[Deed.made])];simp
 | move x p=>rw[KA] at hu;cases hu
 | count x k=>
   obtain rfl:n=x:=by simpa [Deed.names] using hn
   rw[P5,if_pos rfl] at hu;cases hu
 | name x y=>
   have r:x≠y:=t;obtain⟨v,N⟩:=i (n:=x) `jj (by simp[Deed.made];exact λe=>t e.symm);by_cases h:n=y
   . subst h;have:(AA w n).isSome=false:=by rw[<-yA,u];simp[Deed.made]
     simp[this,N]
   . obtain rfl:n=x:=by simp[Deed.names,h] at hn;exact hn
     rw[u.mpr (by simp[Deed.made];exact λe=>h e.symm)];simp[h]
 | split x y p k=>
   by_cases h:n=y
   . subst h;have:(AA w n).isSome=false:=by rw[<-yA,u];simp[Deed.made]
     rw[this];simp
   . obtain rfl:n=x:=by simp[Deed.names,h] at hn;exact hn
     rw[L8,if_pos rfl] at hu;cases hu
 | join x y=>
   by_cases h:n=y;. subst h;rw[u.mpr (by simp[Deed.made])];simp
   . obtain rfl:n=x:=by simp[Deed.names,h] at hn;exact hn
     rw[FQ,if_pos rfl] at hu;cases hu
theorem T3 (h1:AE (a.map (·.1)) E=am) (i:AE (b.map (·.1)) E=am) (hn:n∈E.names):(AA a n).isSome=(AA b n).isSome:=by have e:=BI h1 n hn;have t:=BI i n hn;rw[AU] at e t;rw[a1K,e,t]
theorem XN (D:Deed) (n:Str):BE D.d n=0\/BE D.d n=1\/BE D.d n=2:=by
 cases D with
 | put x p k=>exact .inr (.inr rfl)
 | take x=>exact .inr (.inr rfl)
 | move x p=>exact .inl rfl
 | count x k=>rw[P5];split <;> simp
 | name x y=>exact .inr (.inr rfl)
 | split x y p k=>rw[L8];split <;> simp
 | join x y=>rw[FQ];split <;> simp
theorem bN (h:BE D.d n=0) (hn:n∈D.names):∃p,D = .move n p:=by
 cases D with
 | move x p=>
   obtain rfl:n=x:=by simpa [Deed.names] using hn
   exact#[p,rfl]
 | put x p k=>rw[A0P] at h;cases h
 | take x=>rw[sZ] at h;cases h
 | count x k=>rw[P5] at h;split at h <;> cases h
 | name x y=>rw[t0] at h;cases h
 | split x y p k=>rw[L8] at h;split at h <;> cases h
 | join x y=>rw[FQ] at h;split at h <;> cases h
theorem m9 (h:C6 D.d E.d=au):∃n,n∈D.names/\n∈E.names/\(BE D.d n=2\/BE E.d n=2\/(BE D.d n=0/\BE E.d n=0)):=by unfold C6 at h;obtain⟨n,h1,e⟩:=List.any_eq_true.mp h;rw[a0V,decide_eq_true_iff,b2Z] at e;rw[JZ] at h1 e;refine#[n,h1,e.1,?_];have G:=e.2;rcases XN D n with q | q | q <;> rcases XN E n with r | r | r <;> rw[q,r] at G ⊢ <;> simp[JY] at G ⊢
def neB (x y:Option (List Th)):Bool:=match x,y with
 | none,am=>aB
 | some a,ak b=>!U6 (tsD a) (tsD b)
 | _,_=>au
theorem A0u (O:n∈a.map (·.1)) (h:∀v u,AA a n=ak v->AA b n=ak u->v.1≠u.1) (hb:(AA b n).isSome=au) (i:(a.map (·.1)).Nodup):U6 (tsD a) (tsD b)=false:=by
 obtain⟨t,e,rfl⟩:=zL.mp O;obtain⟨u,hu⟩:=xX.mp hb;have N:AA a t.1=ak t.2:=(EN i).mp e;have hs:bL (tsD a) (tsD b)=false:=by unfold bL;rw[List.all_eq_false];refine#[(t.1,pcD t.2.1 t.2.2),zL.mpr #[t,e,rfl],?_];dsimp only;rw[AL,hu];show ¬(a0W (.tuple [.int t.2.1,.int t.2.2]) (.tuple [.int u.1,.int u.2])=au);have:=h _ _ N hu;simp[a0W,b8W,this]
 unfold U6;rw[hs,Bool.and_false]
theorem A0v (hF:Few ys w D E) (J:C6 D.d E.d=au) (S:D≠E) (h:FS w D E=ak a):neB (FS w D E) (FS w E D)=true:=by
 rw[h];cases G:FS w E D with
 | none=>rfl
 | some b=>
   obtain⟨g,u,rfl⟩:=O4 h;obtain⟨T,N,rfl⟩:=O4 G;have k:=BR hF.th hF.few;have hD:goD w D:=#[k,hF.rd,g]
   have hE:goD w E:=#[k,hF.re,T]
   obtain⟨n,i,r,hu⟩:=m9 J;have t:(AA w n).isSome=(AA (BM w D) n).isSome:=T3 T u r;have z:(AA w n).isSome=(AA (BM w E) n).isSome:=T3 g N i;rw[CP hD] at t;rw[CP hE] at z;rcases hu with hu | hu | ⟨hu,L⟩
   . rw[A5I hD i hu] at t;cases hx:(AA w n).isSome <;> rw[hx] at t <;> cases t
   . rw[A5I hE r hu] at z;cases hx:(AA w n).isSome <;> rw[hx] at z <;> cases z
   . obtain⟨p,rfl⟩:=bN hu i;obtain⟨q,rfl⟩:=bN L r;have I:=O3 hF.th hD hF.nd;have tB:=O3 hF.th hE hF.ne;have c:goD (BM w (.move n p)) (.move n q):=#[BR I hF.few,hF.re,u]
     have f:goD (BM w (.move n q)) (.move n p):=#[BR tB hF.few,hF.rd,N]
     have Q:=λm=>CP c m;have U:=λm=>CP f m;have X:q≠p:=λe=>S (by rw[e]);obtain⟨v,j⟩:=B1 (JE g (n:=n) `jj (by simp[Deed.made]));have O:AA (BM (BM w (.move n p)) (.move n q)) n=ak (q,v.2):=by rw[Q,AY c.2.1 c.2.2];simp only[if_pos];rw[CP hD,AY hD.2.1 hD.2.2];simp[j]
     have M:AA (BM (BM w (.move n q)) (.move n p)) n=ak (p,v.2):=by rw[U,AY f.2.1 f.2.2];simp only[if_pos];rw[CP hE,AY hE.2.1 hE.2.2];simp[j]
     show(!U6 _ _)=au;rw[A0u (n:=n) (AU.mpr (by rw[O];rfl)) (λx y hx hy=>by rw[O] at hx;rw[M] at hy;cases hx;cases hy;exact X) (by rw[M];rfl) (O2 I.nd _)];rfl
end
end DL
namespace DL
open PySem PySem.Spec L2 XC
section
variable {ys zs:List Str}{w u v a b:List Th}{D E:Deed}{A B X Y As Bs Ds:List Deed}{z n:Str}
theorem A3v (hF:Few ys w D E) (h:AE (w.map (·.1)) D=am):goD w D:=#[BR hF.th hF.few,hF.rd,h]
theorem O5 (hF:Few ys w D E):(FS w D E=am/\AS w [D,E]=am)\/∃a b,FS w D E=ak a/\AS w [D,E]=ak b/\(a.map (·.1)).Nodup/\AA a=AA b:=by
 unfold FS AS;show(T0 (T0 (ak w) D) E=am/\E7 (E7 (ak w) D) E=am)\/∃a b,T0 (T0 (ak w) D) E=ak a/\E7 (E7 (ak w) D) E=ak b/\_/\_;by_cases h1:AE (w.map (·.1)) D=am
 . have t:=A3v hF h1;have r:=O3 hF.th t hF.nd;have m:=HM hF.th t hF.nd;have x:AA (BM w D)=AA (doT w D):=funext (CP t);have j:AE ((BM w D).map (·.1)) E=AE ((doT w D).map (·.1)) E:=by
     unfold AE;congr 1;funext n;have:(n∈(BM w D).map (·.1))↔(n∈(doT w D).map (·.1)):=by rw[AU,AU,x]
     simp only[this]
   rw[j4 h1,show E7 (ak w) D=ak (doT w D) by unfold E7;simp[h1]];by_cases e:AE ((BM w D).map (·.1)) E=am
   . have G:goD (BM w D) E:=#[BR r hF.few,hF.re,e]
     have i:goD (doT w D) E:=#[BR m hF.few,hF.re,by rw[<-j];exact e]
     refine .inr #[_,doT (doT w D) E,j4 e,by unfold E7;simp[i.2.2],O2 r.nd E,funext λn=>?_];rw[CP G,AY G.2.1 G.2.2,AY i.2.1 i.2.2];cases E <;> simp only[x]
   . refine .inl #[?_,?_];. unfold T0;simp[e]
     . rw[j] at e;unfold E7;simp[e]
 . refine .inl #[?_,?_];. unfold T0;simp[h1]
   . unfold E7;simp[h1]
structure Two21 (ys:List Str) (D E:Deed):Prop where
 nm:namesOK ys
 few:ys.length<=6
 d:deed18 ys D
 e:deed18 ys E
theorem Two21.at (h:Two21 ys D E) (t:There ys w):Few ys w D E:=#[t,h.few,h.d.1,h.e.1,h.d.2,h.e.2]
theorem Two21.row (h:Two21 ys D E):∀F∈[D,E],deed18 ys F:=by
 intro F hF;rcases yX.mp hF with rfl | hF;. exact h.d
 . rw[List.mem_singleton.mp hF];exact h.e
theorem Two21.swap (h:Two21 ys D E):Two21 ys E D:=#[h.nm,h.few,h.e,h.d]
theorem Two21.al (h:Two21 ys D E):AlQ ys [D,E] [E,D]:=#[h.nm,h.row,h.swap.row,by have:=h.few;simp;lia]
theorem uB (h:Two21 ys D E) (i:C6 D.d E.d=aB):AX [D,E]=AX [E,D]:=
 a5K λq=>by
   obtain⟨hq,J,w,hJ,hd⟩:=LI h.al q;obtain⟨m,l,rfl,h1,_⟩:=SZ hq (yN hJ);have r:=SV (m:=m) h1;have hF:=h.at r;refine hd ?_;unfold bhO;rcases O5 hF with ⟨j,g⟩ | ⟨a,b,j,g,N,y⟩
   . rcases O5 hF.swap with ⟨_,t⟩ | ⟨_,_,e,_⟩
     . rw[g,t]
     . rw[m8 hF i j] at e;cases e
   . rcases O5 hF.swap with ⟨e,_⟩ | ⟨c,d,e,t,L,x⟩
     . rw[(T2 hF i j).2.2.2.2.1] at e;cases e
     . obtain⟨p,G,f,k,T,_,_,O⟩:=T2 hF i j;rw[T] at e;obtain rfl:=Option.some.inj e;rw[g,t];have S:AA a=AA (BM (BM (wM m l) E) D):=by obtain⟨_,_,rfl⟩:=O4 j;exact funext λn=>by rw[CP f,CP k];exact SR p G f k (aU i) (CP p) (CP G) n
       have U:=(CH r (by have:=h.few;lia) h.row b g).nd;have nd:=(CH r (by have:=h.few;lia) h.swap.row d t).nd;exact congrArg ak (KY U (EM nd) λn=>by rw[FI nd,<-y,S,x])
theorem mB (h:Two21 ys D E) (r:There ys w) (k:C6 D.d E.d=au) (O:D≠E) (hr:AS w [D,E]≠am):AX [D,E]≠AX [E,D]:=λe=>by
 have hF:=h.at r;have Q:∀v,AS w [D,E]=ak v->(v.map (·.1)).Nodup:=λv q=>(CH r (by have:=h.few;lia) h.row v q).nd;have U:∀v,AS w [E,D]=ak v->(v.map (·.1)).Nodup:=λv q=>(CH r (by have:=h.few;lia) h.swap.row v q).nd;have al:=m5 h.nm h.row h.swap.row e Q U;rcases O5 hF with ⟨_,g⟩ | ⟨a,b,j,g,x,f⟩
 . exact hr g
 . have t:=A0v hF k O j;rw[j] at t;rcases O5 hF.swap with ⟨m,i⟩ | ⟨c,d,m,i,L,p⟩
   . rw[g,i] at al;cases al
   . rw[m] at t;rw[g,i] at al;have t:(!U6 (tsD a) (tsD c))=true:=t;have al:(!U6 (tsD b) (tsD d))=false:=al;rw[b2Z,<-yA] at t;rw[Bool.not_eq_false'] at al;exact t ((XJ x L).mpr λn=>by rw[f,p];exact(XJ (Q b g) (U d i)).mp al n)
end
end DL
namespace DL
open PySem PySem.Spec L2 XC
section
variable {K:Frg}{M:Own}{Q:DS->Own->Prop}{L:List Int}{a k n:Nat}{xs ys zs:List Str}{w u v:List Th}{D E:Deed}{As Bs Ds:List Deed}{z o y:Str}{p:Addr}{d:PyData}
structure Some21 (ys:List Str):Prop where
 nm:∀n∈ys,D4 n
 two:∃a∈ys,∃b∈ys,a≠b
 few:ys.length<=6
theorem Some21.ne (h:Some21 ys):ys≠[]:=by rintro rfl;obtain⟨a,e,_⟩:=h.two;cases e
theorem deed18.up (h:deed18 xs D) (s:∀x∈xs,x∈ys):deed18 ys D:=#[h.1,λx hx=>s x (h.2 x hx)]
theorem A0w (h:Some21 ys) (e:0<=Y) (I:Y<=999) (hz:z∈ys):deed18 ys (.put z Y num)/\deed18 ys (.take z)/\deed18 ys (.move z Y)/\deed18 ys (.count z num):=by
 have s:∀x∈[z],x∈ys:=λx hx=>by rw[List.mem_singleton.mp hx];exact hz
 obtain⟨a,b,c,d⟩:=A0A (ys:=[z]) (num:=num) #[λx hx=>h.nm x (s x hx),by simp,by simp] e I (List.mem_singleton.mpr rfl);exact#[a.up s,b.up s,c.up s,d.up s]
theorem A0x (h:Some21 ys) (e:0<=Y) (I:Y<=999) (ho:o∈ys) (hy:y∈ys) (O:y≠o):deed18 ys (.name o y)/\deed18 ys (.split o y Y num)/\deed18 ys (.join o y):=by
 have s:∀x∈[o,y],x∈ys:=λx hx=>by
   rcases yX.mp hx with rfl | hx;. exact ho
   . rw[List.mem_singleton.mp hx];exact hy
 obtain⟨a,b,c⟩:=A0B (ys:=[o,y]) (num:=num) #[λx hx=>h.nm x (s x hx),by simp[a4Q O],by simp] e I (o:=o) (y:=y) (by simp) (by simp) O;exact#[a.up s,b.up s,c.up s]
theorem A0y (h:Some21 ys) (o:Str):(ys.filter λz=>!decide (z=o))≠[]:=by obtain⟨a,i,b,hb,J⟩:=h.two;intro e;rw[List.filter_eq_nil_iff] at e;have h1:=e a i;have t:=e b hb;simp at h1 t;exact J (h1.trans t.symm)
def KC:FSp:=#[λxs M=>∃(L:List Int) (a:Nat) (ys:List Str) (p:Addr) (w:List Th),xs=ddX L a ys p/\okX L/\a+4 < L.length/\L.length<=200/\Some21 ys/\M p=ak (tsO w),λxs M y i=>∀(L:List Int) (a:Nat) (ys:List Str) (p:Addr),xs=ddX L a ys p->i=M/\∃D:Deed,y = .d D.d/\deed18 ys D]
theorem bO (h:okX L) (e:a+4 < L.length) (r:L.length<=200) (hn:Some21 ys) (m:M p=ak (tsO w)) (q:∀D:Deed,deed18 ys D->Q (.d D.d) M):(ddX L a ys p).length=4/\KC.pre (ddX L a ys p) M/\∀x i,KC.post (ddX L a ys p) M x i->Q x i:=#[rfl,#[L,a,ys,p,w,rfl,h,e,r,hn,m],λx i t=>by obtain⟨rfl,D,rfl,h1⟩:=t L a ys p rfl;exact q D h1]
def QY:FSp:=#[λxs M=>∃(L:List Int) (a n:Nat) (ys:List Str) (p:Addr) (w:List Th),xs=rwX L a n ys p/\okX L/\a+5*n<=L.length/\L.length<=200/\n<=12/\Some21 ys/\M p=ak (tsO w)/\∃zs,There zs w/\zs.length<=6/\∀y∈ys,y∈zs,λxs M y i=>∀(L:List Int) (a n:Nat) (ys:List Str) (p:Addr),xs=rwX L a n ys p->i=M/\∃Ds:List Deed,y = .d (.tuple (Ds.map Deed.d))/\Ds.length=n/\∀D∈Ds,deed18 ys D]
theorem MT (h:okX L) (r:a+5*n<=L.length) (c:L.length<=200) (e:n<=12) (hn:Some21 ys) (m:M p=ak (tsO w)) (f:There zs w) (t:zs.length<=6) (hs:∀y∈ys,y∈zs) (q:∀Ds:List Deed,Ds.length=n->(∀D∈Ds,deed18 ys D)->Q (.d (.tuple (Ds.map Deed.d))) M):(rwX L a n ys p).length=5/\QY.pre (rwX L a n ys p) M/\∀x i,QY.post (rwX L a n ys p) M x i->Q x i:=#[rfl,#[L,a,n,ys,p,w,rfl,h,r,c,e,hn,m,zs,f,t,hs],λx i b=>by obtain⟨rfl,Ds,rfl,h1,G⟩:=b L a n ys p rfl;exact q Ds h1 G]
def C0 (D:Deed):List (Str×PyData):=D.names.map λn=>(n,.str (BL (BE D.d n)))
def HY:FSp:=#[λxs M=>∃D:Deed,xs=[.d D.d]/\D.real,λxs M y i=>∀D:Deed,xs=[.d D.d]->y = .d (.dict (AG (C0 D)))/\i=M]
theorem T4 (h:D.real) (q:Q (.d (.dict (AG (C0 D)))) M):[DS.d D.d].length=1/\HY.pre [.d D.d] M/\∀x i,HY.post [.d D.d] M x i->Q x i:=#[rfl,#[D,rfl,h],λx i e=>by obtain⟨rfl,rfl⟩:=e D rfl;exact q]
theorem fA (D:Deed):(C0 D).map (·.1)=D.names:=by unfold C0;rw[zD];exact a9W _
theorem MU (h:I∈D.names):B3 (C0 D) I=ak (.str (BL (BE D.d I))):=by
 have X:∀l:List Str,I∈l->B3 (l.map λn=>(n,a0Z (BL (BE D.d n)))) I=ak (.str (BL (BE D.d I))):=λl=>by
   induction l with
   | nil=>exact λh=>nomatch h
   | cons x r t=>
     intro h;rw[zI];unfold B3;by_cases e:x=I;. subst e;rw[if_pos rfl]
     . rw[if_neg e];exact t ((yX.mp h).resolve_left λq=>e q.symm)
 exact X _ h
theorem uC:(B3 (C0 D) z).isSome=decide (z∈D.names):=by
 by_cases h:z∈D.names;. rw[MU h,decide_eq_true h];rfl
 . rw[decide_eq_false h];cases e:B3 (C0 D) z with
   | none=>rfl
   | some x=>
     obtain⟨q,hq,g⟩:∃q∈C0 D,q.1=z:=by
       have X:∀l:List (Str×PyData),B3 l z=ak x->∃q∈l,q.1=z:=λl=>by
         induction l with
         | nil=>exact λh=>nomatch h
         | cons t r m=>
           intro h;unfold B3 at h;by_cases e:t.1=z;. exact#[t,a0J,e]
           . rw[if_neg e] at h;obtain⟨q,h1,i⟩:=m h;exact#[q,yV _ h1,i]
       exact X _ e
     exact absurd (by rw[<-fA,<-g];exact zL.mpr #[q,hq,rfl]) h
def U8 (D E:Deed):List DS:=[.d D.d,.d E.d]
def HZ:FSp:=#[λxs M=>∃D E:Deed,xs=U8 D E/\D.real/\E.real,λxs M y i=>∀D E:Deed,xs=U8 D E->y = .d (.bool (C6 D.d E.d))/\i=M]
theorem XO (h:D.real) (e:E.real) (q:Q (.d (.bool (C6 D.d E.d))) M):(U8 D E).length=2/\HZ.pre (U8 D E) M/\∀x i,HZ.post (U8 D E) M x i->Q x i:=#[rfl,#[D,E,rfl,h,e],λx i t=>by obtain⟨rfl,rfl⟩:=t D E rfl;exact q]
theorem uD (e:U8 D E=U8 t m):D=t/\E=m:=by simp only[U8,List.cons.injEq,DS.d.injEq,and_true] at e;exact#[BW e.1,BW e.2]
def XQ:List PyData:=[.list [.str (a0Q "adds"),.str (a0Q "adds")],.list [.str (a0Q "adds"),.str (a0Q "moves")]]
def A1Z (ss:List Str):Bool:=XQ.any λe=>a0W e (.list (ss.map .str))
theorem fB (hi:i=0\/i=1\/i=2) (t:j=0\/j=1\/j=2) (hp:ss.Perm [BL i,BL j]) (hs:xG ss=au):A1Z ss=JY i j/\zH (.list (ss.map .str))=true:=by
 have e:ss=[BL i,BL j]\/ss=[BL j,BL i]:=by
   have r:=hp.length_eq
   match ss,r with
   | [x,y],_=>
     have hx:x∈[BL i,BL j]:=hp.mem_iff.mp (by simp);rcases yX.mp hx with rfl | hx;. have:=b5V hp;rw[List.perm_singleton.mp this];exact .inl rfl
     . obtain rfl:=List.mem_singleton.mp hx;have:=b5V (hp.trans (List.Perm.swap _ _ _));rw[List.perm_singleton.mp this];exact .inr rfl
 rcases hi with rfl | rfl | rfl <;> rcases t with rfl | rfl | rfl <;> rcases e with rfl | rfl <;> first | decide +kernel | (exfalso;revert hs;decide +kernel)
theorem A0z (hi:i=0\/i=1\/i=2) (r:j=0\/j=1\/j=2) (hp:ss.Perm [BL i,BL j]) (hs:xG ss=au) (q:Q (.d (.bool (!JY i j))) M):D2 K (zE K au) (.d (.list (ss.map .str))) (.d (.list XQ)) M Q:=by obtain⟨h1,t⟩:=fB hi r hp hs;refine A3O t (by decide +kernel) ?_;rw[if_pos rfl,show(XQ.any λe=>a0W e (.list (ss.map .str)))=A1Z ss from rfl,h1];exact q
theorem T5 (h:D.ok):zH D.d=true:=by
 have t:b7J (.str D.word)=true:=zG D.word_ok;have e:∀x∈D.names,b7J (.str x)=true:=λx hx=>CO (h x hx);refine CU ?_ (by cases D <;> simp[Deed.d,a2J,a2X]);cases D <;> (refine IH ?_;simp only[List.forall_mem_cons])
 . exact#[t,e _ `jj,rfl,rfl,by simp]
 . exact#[t,e _ `jj,by simp]
 . exact#[t,e _ `jj,rfl,by simp]
 . exact#[t,e _ `jj,rfl,by simp]
 . exact#[t,e _ `jj,e _ `jj,by simp]
 . exact#[t,e _ `jj,e _ `jj,rfl,rfl,by simp]
 . exact#[t,e _ `jj,e _ `jj,by simp]
def T6 (ys:List Str) (m:Nat):List DS:=[.d (CA ys),.d (.int m)]
def O6:FSp:=#[λxs M=>∃(ys:List Str) (m:Nat),xs=T6 ys m/\ys.Nodup/\ys.length=5,λxs M y i=>∀(ys:List Str) (m:Nat),xs=T6 ys m->y = .d (wQ (FO ys m))/\i=M]
theorem bP (h:ys.Nodup) (Z:ys.length=5) (q:Q (.d (wQ (FO ys m))) M):(T6 ys m).length=2/\O6.pre (T6 ys m) M/\∀y i,O6.post (T6 ys m) M y i->Q y i:=#[rfl,#[ys,m,rfl,h,Z],λy i e=>by obtain⟨rfl,rfl⟩:=e ys m rfl;exact q]
def A5J (ys:List Str) (Ds:List Deed):PyData->PyData | .int k=>aS (AS (FO ys k.toNat) Ds) | d=>d
theorem A3w (ys:List Str) (Ds:List Deed):(GA 0 (Int.toNat 32)).map (A5J ys Ds)=(a1X 32).map λm=>aS (AS (FO ys m) Ds):=by rfl
theorem uE (h:((a1X 32).map λm=>(AS (FO ys m) Ds).isNone).all id=aB):∃m,AS (FO ys m) Ds≠none:=by obtain⟨b,hb,e⟩:=List.all_eq_false.mp h;obtain⟨m,_,rfl⟩:=zL.mp hb;exact#[m,λq=>e (by rw[q];rfl)]
theorem P9 (hn:namesOK ys) (t:2<=ys.length) (q:ys.length<=6):Some21 ys:=by
 match ys,hn,t,q with
 | a::b::r,hn,t,q=>exact#[hn.1,#[a,by simp,b,by simp,λe=>by have:=hn.2.1;rw[e] at this;simp at this],q]
theorem bQ (hn:namesOK ys) (Z:ys.length=5):Some21 (ys.take 4):=by
 have h:(ys.take 4).length=4:=by rw[a0K];lia
 exact P9 (hn.sub (List.take_sublist _ _)) (by lia) (by lia)
theorem fC (hn:namesOK ys) (Z:ys.length=5):Some21 (((ys.filter f).take 2++ys.take 2).take 4)/\(∀x∈((ys.filter f).take 2++ys.take 2).take 4,x∈ys):=by
 have t:((ys.filter f).take 2).length<=2:=by rw[a0K];lia
 have i:(ys.take 2).length=2:=by rw[a0K];lia
 rw[b1Q (by rw[yY];lia)];have s:∀x∈(ys.filter f).take 2++ys.take 2,x∈ys:=λx hx=>by
   rcases yW.mp hx with h | h;. exact(yL.mp (b2V h)).1
   . exact b2V h
 obtain⟨a,e,b,hb,J⟩:=(P9 (hn.sub (List.take_sublist 2 ys)) (by lia) (by lia)).two;exact#[#[λx hx=>hn.1 x (s x hx),#[a,yW.mpr (.inr e),b,yW.mpr (.inr hb),J],by rw[yY];lia],s]
theorem A3x (h:Ds.length=2):∃D E,Ds=[D,E]:=by
 match Ds,h with
 | [D,E],_=>exact#[D,E,rfl]
theorem PB (h:x≠y):G6 [(x,a0Z r)] y (.str (a0Q "more"))=[(x,.str r),(y,.str (a0Q "more"))]:=by simp[G6,h]
theorem bR (h:x≠y) (p c:Int):C0 (.split x y p c)=[(x,.str (BL (BE (Deed.split x y p c).d x))),(y,.str (a0Q "more"))]:=by show [(x,_),(y,a0Z (BL (if (au&&x==y)=au then 1 else 2)))]=_;rw[beq_false_of_ne h];rfl
theorem fD (h:x≠y):C0 (.join x y)=[(x,.str (BL (BE (Deed.join x y).d x))),(y,.str (a0Q "more"))]:=by show [(x,_),(y,a0Z (BL (if (au&&x==y)=au then 1 else 2)))]=_;rw[beq_false_of_ne h];rfl
def bS (D E:Deed) (n:Str):Bool:=decide (n∈E.names)&&!JY (BE D.d n) (BE E.d n)
theorem VS (D E:Deed):C6 D.d E.d=D.names.any (bS D E):=by unfold C6;rw[JZ,JZ];rfl
end
end DL
namespace DL
open PySem PySem.Spec L2
def FnIn (K:Frg) (n:Str) (st:eg):Prop:=∃(f:Addr) (c:ap) (r:Option Addr) (kV T t:ap) (J:Option Addr) (e x:ap) (sl:Array (Option ap)),a2K K bc n=ak (ak (.ref f)) /\
 K.lookup f=ak #[c,r,.func (a5Q n n (E1 st) (BH st) (AB st) .none kV T t J e x),sl]/\b0Z K e n=au/\a3K K (.ref f)=au
theorem A00 {K:Frg}{n:Str}{st:eg}{f:Addr}{e:ap}{r:Option Addr}{kV T t:ap}{J:Option Addr}{cd ct:ap}{sl:Array (Option ap)}(a:a2K K bc n=ak (ak (.ref f))) (l:K.lookup f=ak #[e,r,.func (a5Q n n (E1 st) (BH st) (AB st) .none kV T t J cd ct),sl]) (c:b0Z K cd n=au) (k:a3K K (.ref f)=au):FnIn K n st:=#[f,e,r,kV,T,t,J,cd,ct,sl,a,l,c,k]
structure FnAt (K:Frg) (mg:Str->Option ap) (n:Str) (st:eg) (f:Addr) (fd:dl):Prop where
 fn:Fun K n n st f fd
 mg_:mg n=ak (.ref f)
 kp:a3K K (.ref f)=au
theorem FnIn.at (b:FnIn K n st) (X:K.In h) (G:h.Ns bc mg):∃f T,FnAt K mg n st f T:=by obtain⟨f,_,_,_,_,_,_,_,_,_,a,l,c,k⟩:=b;exact#[f,_,cP l c k,a5V X G a,k]
theorem A5n {C:List ap->Prop}(h:C []) (v:List ap) (r:v.length=0):C v:=by obtain rfl:=List.eq_nil_of_length_eq_zero r;exact h
theorem A5K {C:List ap->Prop}(h:∀e,C [e]) (v:List ap) (r:v.length=1):C v:=by
 cases v with
 | nil=>cases r
 | cons a v=>exact A5n (C:=λv=>C (a::v)) (h a) v (Nat.succ.inj r)
theorem uF {C:List ap->Prop}(h:∀e m,C [e,m]) (v:List ap) (r:v.length=2):C v:=by
 cases v with
 | nil=>cases r
 | cons a v=>exact A5K (C:=λv=>C (a::v)) (h a) v (Nat.succ.inj r)
theorem A5L {C:List ap->Prop}(h:∀e m f,C [e,m,f]) (v:List ap) (r:v.length=3):C v:=by
 cases v with
 | nil=>cases r
 | cons a v=>exact uF (C:=λv=>C (a::v)) (h a) v (Nat.succ.inj r)
theorem A5M {C:List ap->Prop}(h:∀e m f t,C [e,m,f,t]) (v:List ap) (r:v.length=4):C v:=by
 cases v with
 | nil=>cases r
 | cons a v=>exact A5L (C:=λv=>C (a::v)) (h a) v (Nat.succ.inj r)
theorem A5o {C:List ap->Prop}(h:∀e m f t Q,C [e,m,f,t,Q]) (v:List ap) (r:v.length=5):C v:=by
 cases v with
 | nil=>cases r
 | cons a v=>exact A5M (C:=λv=>C (a::v)) (h a) v (Nat.succ.inj r)
section
variable {P:bn}{w:bj}{K:Frg}{mg:Str->Option ap}{base:cc}{n:Str}{st:eg}{f:Addr}{fd:dl}{k:Nat}{ps:List Str}
abbrev uG (n:Str) (st:eg) (ps:List Str):Prop:=∀(kV doc e:ap) (J:Option Addr) (cdv x:ap) (v:List ap),v.length=ps.length->bindArgs (a5Q n n (E1 st) (BH st) (AB st) .none kV doc e J cdv x) #[v,[]]=pure (ps.zip v)
theorem FnAt.has (a:FnAt K mg n st f fd) (h:FnOk P w K mg base CX0 k f fd ps (spD K ps.length S)) (b:uG n st ps):Has P w K mg base n k ps S:=#[f,fd,h,a.mg_,a.kp,a.fn.binds b]
theorem FnAt.hasX (a:FnAt K mg n st f fd) (h:FnOk P w K mg base (XC.CXE P w) k f fd ps (spX K ps.length S)) (b:uG n st ps):HasX P w K mg base n k ps S:=#[f,fd,h,a.mg_,a.kp,a.fn.binds b]
end
end DL
namespace DL
open PySem PySem.Spec L2 XC
abbrev KD:Stmt:=_root_.sT 47
abbrev FT:Stmt:=_root_.sT 48
abbrev F7:Stmt:=_root_.sT 49
abbrev J0:Stmt:=_root_.sT 51
abbrev GR:Stmt:=_root_.sT 50
abbrev KF:Stmt:=_root_.sT 53
abbrev J2:Stmt:=_root_.sT 52
abbrev J3:Stmt:=_root_.sT 59
abbrev GS:Stmt:=_root_.sT 55
abbrev KG:Stmt:=_root_.sT 56
abbrev J5:Stmt:=_root_.sT 57
abbrev KH:Stmt:=_root_.sT 58
abbrev EU:Stmt:=_root_.sT 54
abbrev MV:Stmt:=_root_.sT 61
abbrev MW:Stmt:=_root_.sT 60
abbrev D8:Stmt:=_root_.sT 62
abbrev J6:Stmt:=_root_.sT 63
abbrev J7:Stmt:=_root_.sT 64
abbrev KI:Stmt:=_root_.sT 65
abbrev MX:Stmt:=_root_.sT 4
abbrev KJ:Stmt:=_root_.sT 6
abbrev MY:Stmt:=_root_.sT 7
abbrev LJ:Stmt:=_root_.sT 5
abbrev PD:Stmt:=_root_.sT 26
abbrev fE:Stmt:=_root_.sT 28
abbrev MZ:Stmt:=_root_.sT 29
abbrev LK:Stmt:=_root_.sT 27
abbrev PF:Stmt:=_root_.sT 30
abbrev J8:Stmt:=_root_.sT 9
abbrev CK:Stmt:=_root_.sT 10
abbrev KK:Stmt:=_root_.sT 36
abbrev CI:Stmt:=h9 0 (_root_.sT 22)
abbrev E4:Stmt:=_root_.sT 34
abbrev T7:Stmt:=_root_.sT 35
abbrev fF:Stmt:=_root_.sT 32
abbrev KL:Stmt:=_root_.sT 33
abbrev CC:Stmt:=h9 0 (_root_.sT 23)
abbrev T8:Stmt:=_root_.sT 39
abbrev fG:Stmt:=_root_.sT 38
abbrev T9:Stmt:=_root_.sT 43
abbrev XR:Stmt:=_root_.sT 42
abbrev TB:Stmt:=_root_.sT 18
abbrev DH:Stmt:=_root_.sT 17
abbrev O7:Stmt:=_root_.sT 15
abbrev EZ:Stmt:=_root_.sT 16
abbrev GU:Stmt:=_root_.sT 14
abbrev CG:Stmt:=_root_.sT 13
abbrev TC:Stmt:=_root_.sT 12
abbrev J9:Stmt:=_root_.sT 45
abbrev BN:Stmt:=_root_.sT 44
abbrev XS:Stmt:=_root_.sT 41
abbrev CZ:Stmt:=_root_.sT 66
abbrev uH:Stmt:=_root_.sT 67
abbrev vS (x:String) (t:Tok):Value:=.str (a0Q x) t
abbrev eS (P:e5) (x:String) (t:Tok) (v:ap):DictEntry:=#[b0W P (a0Q x),.str (a0Q x) t,v]
abbrev hs (i:Nat):Stmt:=ad.main.body.getD i (.Pass #[0,0,0,0])
abbrev fO (n q:String) (st:eg) (doc e:ap) (c:Nat):Obj:=#[.type "function", am,.func (a5Q (a0Q n) (a0Q q) (E1 st) (BH st) (AB st) .none .none doc e am (.ref c) .none),#[]]
abbrev gO (n q:String) (st:eg):Obj:=#[.none,am,.func (.mk (a0Q n) (a0Q q) (E1 st) (.stmts (BH st)) (AB st) 0 [] .none .none .none .none am .none .none 0),#[]]
abbrev tO (vs:Array ap):Obj:=#[.type "tuple", am,.seq vs 0,#[]]
abbrev kO (n q:String) (a b c:Tok) (l k f:Nat) (N:ap) (t:Nat) (e Y i Z:ap) (u M:Nat) (d:Tok):Obj:=#[.type "code", am,.fields (y9 [vS n a,vS q b,vS "/claim/cut.py" c,.int l 0,.int k 0,.int 0 0,.int 0 0,.int f 0,N,.bool au,.int t 0,e,.none,Y,i,Z,.int u 0,.int M 0,vS "/claim/cut.py" d]),#[]]
abbrev fP (n:String) (st:eg) (doc e:ap) (c:Nat):Obj:=fO n n st doc e c
abbrev gP (n:String) (st:eg):Obj:=gO n n st
abbrev kPz (n:String) (a b c:Tok) (l k f:Nat) (N:ap) (t:Nat) (e Y i Z:ap) (u M:Nat) (d:Tok):Obj:=kO n n a b c l k f N t e Y i Z u M d
abbrev nF (vs:Array ap):Obj:=#[.none,am,.fields vs,#[]]
abbrev lF (l:List (Nat×Nat×Nat)):Obj:=nF (l.flatMap λt=>[.int t.1 0,.int t.2.1 0,.ref t.2.2]).toArray
def hV:Program:={ ad with main:={ ad.main with body:=([1,2,3,4,5,6,7,9,10,12,13,14,15,16,17,18,20,21,22,23,25,26,27,28,29,30,32,33,34,35,36,38,39,41,42,43,44,45,47,48,49,50,51,52,53,54,55,56,57,58,59,60,61,62,63,64,65,66,67]:List Nat).map hs } }
abbrev hB:List Stmt:=PySem.W.behindTheImports ad
def hN:Env:={ scope:=ad.main.scope,locals:=mainNs,globals:=mainNs,cells:=[],code:=a0X 13,frame:=ak 14 }
abbrev hC:Code:=.body hB hN
abbrev hF:List Frame:=[PySem.W.topFrame { line:=0,col:=0,endLine:=0,endCol:=0 }]
abbrev hI (t:PySem.W.BT) (l:List (Nat×cy)):PySem.W.BT:=l.foldl (λt x=>t.ins x.1 x.2) t
noncomputable def hT0:e5->PySem.W.BT:=λP=>hI .nil [(0,PySem.W.boot_o_0 P),(1,PySem.W.boot_o_1 P),(2,PySem.W.boot_o_2 P),(3,PySem.W.boot_o_3 P),(4,PySem.W.boot_o_4 P),(5,PySem.W.boot_o_5 P),(6,PySem.W.boot_o_6 P),(7,PySem.W.boot_o_7 P),(8,PySem.W.boot_o_8 P),(9,PySem.W.boot_o_9 P),(10,PySem.W.boot_o_10 P)]
def qA (a t:Nat) (n:String) (k u e M:Nat) (ns:List String) (m:String) (s:Tok):List (Nat×cy):=[(a,tO #[]),(a+1,nF #[]),(a+2,tO (ns.zipIdx.map λp=>vS p.1 (t+3+p.2)).toArray),(a+3,tO #[]),(a+4,gP n (hs k)),(a+5,kPz n t (t+1) (t+2) u e M (.ref a) 181 (.ref (a+1)) (.ref (a+2)) (.ref (a+3)) (.ref (a+4)) (t+3+ns.length) u (t+4+ns.length)),(a+6,fP n (hs k) .none (vS m s) (a+5))]
def qB (a t:Nat) (n:String) (k u e M:Nat) (m:String) (s:Tok):List (Nat×cy):=[(a,tO #[]),(a+1,nF #[]),(a+2,gP n (hs k)),(a+3,kPz n t (t+1) (t+2) u e M (.ref a) 181 (.ref (a+1)) .none .none (.ref (a+2)) (t+3) u (t+4)),(a+4,fP n (hs k) .none (vS m s) (a+3))]
def qC (P:e5) (a t:Nat) (n u f:String) (l k q:Nat) (m:String) (s:Tok):List (Nat×cy):=[(a,tO (y9 [(.ref q)])),(a+1,(#[(.type "builtin_function_or_method"),am,(.fields (y9 [(.builtin "type.__prepare__"),(.type "type")])),#[]]:cy)),(a+2,(#[(.type "dict"),am,(.dict (y9 [eS P "__module__" (t+7) (vS m s),eS P "__qualname__" (t+9) (vS n (t+8)),eS P "__firstlineno__" (t+11) (.int l (t+10)),eS P "__init__" (t+19) (.ref (a+13)),eS P "__static_attributes__" (t+21) (.ref (a+14))]) 5),#[]]:cy)),(a+3,tO #[]),(a+4,lF [((l+2),4,(a+12))]),(a+5,(#[(.type "code"),am,(.fields (y9 [(vS n (t+2)),(vS n (t+3)),(vS "/claim/cut.py" (t+4)),(.int l 0),(.int 0 0),(.int 0 0),(.int 0 0),(.int 0 0),(.ref (a+3)),(.bool aB),(.int 181 0),(.ref (a+4)),.none,.none,.none,.none,(.int (t+5) 0),(.int l 0),(vS "/claim/cut.py" (t+6))])),#[]]:cy)),(a+6,(#[(.type "frame"),am,.plain,(y9 [(ak (.ref (a+5))),(ak (.ref 3)),(ak (.ref (a+2))),am,(ak (vS m s)),am,(ak (.ref 0))])]:cy)),(a+7,tO #[]),(a+8,nF #[]),(a+9,tO (y9 [(vS "self" (t+15)),(vS f (t+16))])),(a+10,tO #[]),(a+11,gO "__init__" u (h9 0 (hs k))),(a+12,kO "__init__" u (t+12) (t+13) (t+14) (l+2) 2 3 (.ref (a+7)) 181 (.ref (a+8)) (.ref (a+9)) (.ref (a+10)) (.ref (a+11)) (t+17) (l+2) (t+18)),(a+13,fO "__init__" u (h9 0 (hs k)) .none (vS m s) (a+12)),(a+14,tO (y9 [(vS f (t+20))])),(a+15,(#[(.type "dict"),am,(.dict (y9 [eS P "__module__" (t+7) (vS m s),eS P "__firstlineno__" (t+11) (.int l (t+10)),eS P "__init__" (t+19) (.ref (a+13)),eS P "__static_attributes__" (t+21) (.ref (a+14)),eS P "__doc__" (t+22) .none]) 2),#[]]:cy)),(a+16,(#[(.type "type"),am,(.cls (.mk n [(.ref q)] [(.ref (a+16)),(.ref q),(.type "ValueError"),(.type "Exception"),(.type "BaseException"),(.type "object")] (a+15) n au [] [] aB am aB)),(y9 [(ak (.ref a)),am,(ak (vS n t)),(ak (vS n (t+8))),(ak (.builtin "ValueError.__new__")),(ak (.bool au))])]:cy)),(a+17,(#[(.type "super"),am,(.fields (y9 [(.ref (a+16)),(.ref (a+16)),(.ref (a+16))])),#[]]:cy)),(a+18,(#[(.type "builtin_function_or_method"),am,(.fields (y9 [(.builtin "object.__init_subclass__"),(.ref (a+16))])),#[]]:cy))]
noncomputable def hT1:e5->PySem.W.BT:=λP=>hI (hT0 P) ((11,tO #[]) :: (12,nF #[]) :: (13,(#[(.type "code"),am,(.fields (y9 [(vS "<module>" 182),(vS "<module>" 183),(vS "/claim/cut.py" 184),(.int 1 0),(.int 0 0),(.int 0 0),(.int 0 0),(.int 0 0),(.ref 11),(.bool aB),(.int 181 0),(.ref 12),.none,.none,.none,.none,(.int 185 0),(.int 1 0),(vS "/claim/cut.py" 186)])),#[]]:cy)) :: (14,(#[(.type "frame"),am,.plain,(y9 [(ak (.ref 13)),(ak (.ref 3)),(ak (.ref 3)),am,(ak (vS "__main__" 164)),am,(ak (.ref 0))])]:cy)) ::
 [])
noncomputable abbrev hX1 (w:bj) (U:ee):PySem.W.SharedT:=#[hT1 w.params,15,{ },#[[]],{ },187,U]
noncomputable abbrev hX2 (w:bj) (U:ee):PySem.W.SharedT:=#[hT1 w.params,15,{ },#[[]],{ },187,U]
def hD3:e5->List DictEntry:=λP=>[eS P "__name__" 165 (vS "struckdeeds.errors" 298),eS P "__doc__" 166 .none,eS P "__package__" 167 .none,eS P "__loader__" 168 (.builtin "__main__.__loader__#opaque"),eS P "__spec__" 169 .none,eS P "__annotations__" 170 (.ref 6),eS P "__builtins__" 171 (.ref 4),eS P "__file__" 173 (vS "/claim/cut.py" 172),eS P "__cached__" 174 .none,eS P "LETTERS" 190 (vS "abcdefghijklmnopqrstuvwxyz" 189),eS P "LONGEST_NAME" 192 (.int 8 191),eS P "LAST_PLACE" 194 (.int 999 193),eS P "is_whole" 201 (.ref 21),eS P "is_name" 207 (.ref 26),eS P "is_within" 216 (.ref 33),eS P "is_place" 223 (.ref 40),eS P "by_names" 231 (.ref 45),eS P "rising_by_names" 237 (.ref 50),eS P "effect" 248 (.ref 57),eS P "effect_behind" 254 (.ref 62),eS P "deed_effect" 266 (.ref 69),eS P "clash" 272 (.ref 74),eS P "told_at_first" 284 (.ref 81),eS P "by_left_names" 290 (.ref 86),eS P "rising" 297 (.ref 93),eS P "StrikeError" 317 (.ref 103)]
noncomputable def hT3:e5->PySem.W.BT:=λP=>hI (hT1 P) ((3,(#[.type "dict", am,.dict (hD3 P).toArray 26,#[]]:cy)) :: (12,lF [(5,0,20),(7,0,25),(11,0,32),(13,0,39),(16,0,44),(18,0,49),(21,0,56),(28,0,61),(42,0,68),(60,0,73),(64,0,80),(72,0,85),(74,0,92),(77,0,99)]) ::
 qA 15 195 "is_whole" 4 5 1 3 ["thing"] "struckdeeds.words" 187 ++
 (qB 22 202 "is_name" 5 7 1 3 "struckdeeds.words" 187 ++
 (qA 27 208 "is_within" 6 11 3 3 ["thing","low","high"] "struckdeeds.words" 187 ++
 (qA 34 217 "is_place" 7 13 1 3 ["thing"] "struckdeeds.words" 187 ++
 (qB 41 226 "by_names" 9 16 1 3 "struckdeeds.worlds" 224 ++
 (qB 46 232 "rising_by_names" 10 18 1 3 "struckdeeds.worlds" 224 ++
 (qA 51 240 "effect" 12 21 1 3 ["row","whole","deed"] "struckdeeds.effects" 238 ++
 (qB 58 249 "effect_behind" 13 28 2 3 "struckdeeds.effects" 238 ++
 (qA 63 255 "deed_effect" 14 42 1 3 ["deed","word","name","other","parts","both"] "struckdeeds.effects" 238 ++
 (qB 70 267 "clash" 15 60 3 3 "struckdeeds.effects" 238 ++
 (qA 75 273 "told_at_first" 16 64 4 3 ["between","place","froms","plus","firsts","name"] "struckdeeds.effects" 238 ++
 (qB 82 285 "by_left_names" 17 72 1 3 "struckdeeds.effects" 238 ++
 (qA 87 291 "rising" 18 74 1 3 ["names"] "struckdeeds.effects" 238 ++
 ((94,tO (y9 [(.type "ValueError")])) ::
 (95,(#[(.type "builtin_function_or_method"),am,(.fields (y9 [(.builtin "type.__prepare__"),(.type "type")])),#[]]:cy)) ::
 (96,(#[(.type "dict"),am,(.dict (y9 [eS P "__module__" 307 (vS "struckdeeds.errors" 298),eS P "__qualname__" 309 (vS "StrikeError" 308),eS P "__firstlineno__" 311 (.int 77 310),eS P "__static_attributes__" 312 (.ref 101)]) 4),#[]]:cy)) ::
 (97,tO #[]) ::
 (98,nF #[]) ::
 (99,(#[(.type "code"),am,(.fields (y9 [(vS "StrikeError" 302),(vS "StrikeError" 303),(vS "/claim/cut.py" 304),(.int 77 0),(.int 0 0),(.int 0 0),(.int 0 0),(.int 0 0),(.ref 97),(.bool aB),(.int 181 0),(.ref 98),.none,.none,.none,.none,(.int 305 0),(.int 77 0),(vS "/claim/cut.py" 306)])),#[]]:cy)) ::
 (100,(#[(.type "frame"),am,.plain,(y9 [(ak (.ref 99)),(ak (.ref 3)),(ak (.ref 96)),am,(ak (vS "struckdeeds.errors" 298)),am,(ak (.ref 0))])]:cy)) ::
 (101,tO #[]) ::
 (102,(#[(.type "dict"),am,(.dict (y9 [eS P "__module__" 307 (vS "struckdeeds.errors" 298),eS P "__firstlineno__" 311 (.int 77 310),eS P "__static_attributes__" 312 (.ref 101),eS P "__weakref__" 314 (.ref 104),eS P "__doc__" 315 .none]) 3),#[]]:cy)) ::
 (103,(#[(.type "type"),am,(.cls (.mk "StrikeError" [(.type "ValueError")] [(.ref 103),(.type "ValueError"),(.type "Exception"),(.type "BaseException"),(.type "object")] 102 "StrikeError" au [] [] aB am aB)),(y9 [(ak (.ref 94)),am,(ak (vS "StrikeError" 300)),(ak (vS "StrikeError" 308)),(ak (.builtin "ValueError.__new__")),(ak (.bool au))])]:cy)) ::
 (104,(#[(.type "getset_descriptor"),am,(.fields (y9 [(vS "__weakref__" 313),(.ref 103),(.builtin "ExceptionGroup.__weakref__"),.none])),#[]]:cy)) ::
 (105,(#[(.type "super"),am,(.fields (y9 [(.ref 103),(.ref 103),(.ref 103)])),#[]]:cy)) ::
 (106,(#[(.type "builtin_function_or_method"),am,(.fields (y9 [(.builtin "object.__init_subclass__"),(.ref 103)])),#[]]:cy)) ::
 []))))))))))))))
noncomputable abbrev hX3 (w:bj) (U:ee):PySem.W.SharedT:=#[hT3 w.params,107,{ },#[[]],{ },318,U]
def hD4:e5->List DictEntry:=λP=>(hD3 P).set 0 (eS P "__name__" 165 (vS "struckdeeds.deeds" 384))++[eS P "NoDeed" 333 (.ref 116),eS P "NotNow" 358 (.ref 135),eS P "NoRow" 383 (.ref 154)]
noncomputable def hT4:e5->PySem.W.BT:=λP=>hI (hT3 P) ((3,(#[.type "dict", am,.dict (hD4 P).toArray 29,#[]]:cy)) :: (12,lF [(5,0,20),(7,0,25),(11,0,32),(13,0,39),(16,0,44),(18,0,49),(21,0,56),(28,0,61),(42,0,68),(60,0,73),(64,0,80),(72,0,85),(74,0,92),(77,0,99),(79,0,112),(81,0,124),(85,0,143)]) :: (103,(#[(.type "type"),am,(.cls (.mk "StrikeError" [(.type "ValueError")] [(.ref 103),(.type "ValueError"),(.type "Exception"),(.type "BaseException"),(.type "object")] 102 "StrikeError" au [] [(.ref 116),(.ref 135),(.ref 154)] aB am aB)),(y9 [(ak (.ref 94)),am,(ak (vS "StrikeError" 300)),(ak (vS "StrikeError" 308)),(ak (.builtin "ValueError.__new__")),(ak (.bool au))])]:cy)) :: (107,tO (y9 [(.ref 103)])) :: (108,(#[(.type "builtin_function_or_method"),am,(.fields (y9 [(.builtin "type.__prepare__"),(.type "type")])),#[]]:cy)) :: (109,(#[(.type "dict"),am,(.dict (y9 [eS P "__module__" 325 (vS "struckdeeds.errors" 298),eS P "__qualname__" 327 (vS "NoDeed" 326),eS P "__firstlineno__" 329 (.int 79 328),eS P "__static_attributes__" 330 (.ref 114)]) 4),#[]]:cy)) :: (110,tO #[]) :: (111,nF #[]) :: (112,(#[(.type "code"),am,(.fields (y9 [(vS "NoDeed" 320),(vS "NoDeed" 321),(vS "/claim/cut.py" 322),(.int 79 0),(.int 0 0),(.int 0 0),(.int 0 0),(.int 0 0),(.ref 110),(.bool aB),(.int 181 0),(.ref 111),.none,.none,.none,.none,(.int 323 0),(.int 79 0),(vS "/claim/cut.py" 324)])),#[]]:cy)) :: (113,(#[(.type "frame"),am,.plain,(y9 [(ak (.ref 112)),(ak (.ref 3)),(ak (.ref 109)),am,(ak (vS "struckdeeds.errors" 298)),am,(ak (.ref 0))])]:cy)) :: (114,tO #[]) :: (115,(#[(.type "dict"),am,(.dict (y9 [eS P "__module__" 325 (vS "struckdeeds.errors" 298),eS P "__firstlineno__" 329 (.int 79 328),eS P "__static_attributes__" 330 (.ref 114),eS P "__doc__" 331 .none]) 2),#[]]:cy)) :: (116,(#[(.type "type"),am,(.cls (.mk "NoDeed" [(.ref 103)] [(.ref 116),(.ref 103),(.type "ValueError"),(.type "Exception"),(.type "BaseException"),(.type "object")] 115 "NoDeed" au [] [] aB am aB)),(y9 [(ak (.ref 107)),am,(ak (vS "NoDeed" 318)),(ak (vS "NoDeed" 326)),(ak (.builtin "ValueError.__new__")),(ak (.bool au))])]:cy)) :: (117,(#[(.type "super"),am,(.fields (y9 [(.ref 116),(.ref 116),(.ref 116)])),#[]]:cy)) :: (118,(#[(.type "builtin_function_or_method"),am,(.fields (y9 [(.builtin "object.__init_subclass__"),(.ref 116)])),#[]]:cy)) ::
 qC P 119 334 "NotNow" "NotNow.__init__" "name" 81 22 103 "struckdeeds.errors" 298 ++
 (qC P 138 359 "NoRow" "NoRow.__init__" "number" 85 23 103 "struckdeeds.errors" 298 ++
 ([])))
noncomputable abbrev hX4 (w:bj) (U:ee):PySem.W.SharedT:=#[hT4 w.params,157,{ },#[[]],{ },386,U]
def hD5:e5->List DictEntry:=λP=>(hD4 P).set 0 (eS P "__name__" 165 (vS "law_struckdeeds_k21_whole_neighbours_changed" 561))++[eS P "FORMS" 407 (.ref 157),eS P "form_of" 414 (.ref 164),eS P "is_deed" 420 (.ref 169),eS P "fits" 428 (.ref 176),eS P "names_in" 435 (.ref 183),eS P "made_by" 442 (.ref 190),eS P "done" 453 (.ref 197),eS P "back_deed" 464 (.ref 204),eS P "refuse_undoable" 474 (.ref 211),eS P "change" 484 (.ref 218),eS P "add_count" 495 (.ref 225),eS P "gone" 505 (.ref 232),eS P "walked" 517 (.ref 239),eS P "alike" 531 (.ref 246),eS P "parts" 540 (.ref 253),eS P "behind" 548 (.ref 260),eS P "worlds_to_try" 554 (.ref 265),eS P "world_of" 560 (.ref 270),eS P "_law_cell" 570 (.ref 277),eS P "_law_stirred" 583 (.ref 284)]
noncomputable def hT5:e5->PySem.W.BT:=λP=>hI (hT4 P) ((3,(#[.type "dict", am,.dict (hD5 P).toArray 49,#[]]:cy)) :: (12,lF [(5,0,20),(7,0,25),(11,0,32),(13,0,39),(16,0,44),(18,0,49),(21,0,56),(28,0,61),(42,0,68),(60,0,73),(64,0,80),(72,0,85),(74,0,92),(77,0,99),(79,0,112),(81,0,124),(85,0,143),(91,0,163),(93,0,168),(103,0,175),(109,0,182),(111,0,189),(118,0,196),(123,0,203),(140,0,210),(147,0,217),(165,0,224),(169,0,231),(171,0,238),(182,0,245),(191,0,252),(193,0,259),(198,0,264),(204,0,269),(207,0,276),(211,0,283)]) :: (157,(#[(.type "dict"),am,(.dict (y9 [eS P "put" 386 (vS "npk" 387),eS P "take" 388 (vS "n" 389),eS P "move" 390 (vS "np" 391),eS P "count" 392 (vS "nk" 393),eS P "name" 394 (vS "nn" 395),eS P "split" 396 (vS "nnpk" 397),eS P "join" 398 (vS "nn" 399)]) 7),#[]]:cy)) ::
 qA 158 408 "form_of" 26 91 1 3 ["word"] "struckdeeds.deeds" 384 ++
 (qB 165 415 "is_deed" 27 93 1 3 "struckdeeds.deeds" 384 ++
 (qA 170 421 "fits" 28 103 2 3 ["sign","part"] "struckdeeds.deeds" 384 ++
 (qA 177 429 "names_in" 29 109 1 3 ["deed"] "struckdeeds.deeds" 384 ++
 (qA 184 436 "made_by" 30 111 1 3 ["deed"] "struckdeeds.deeds" 384 ++
 (qA 191 445 "done" 32 118 2 3 ["world","deed","things"] "struckdeeds.doings" 443 ++
 (qA 198 454 "back_deed" 33 123 2 3 ["world","deed","things","word","name"] "struckdeeds.doings" 443 ++
 (qA 205 465 "refuse_undoable" 34 140 2 3 ["things","deed","made","name"] "struckdeeds.doings" 443 ++
 (qA 212 475 "change" 35 147 2 3 ["things","deed","word","name"] "struckdeeds.doings" 443 ++
 (qA 219 485 "add_count" 36 165 3 3 ["things","name","more","place","count"] "struckdeeds.doings" 443 ++
 (qA 226 498 "gone" 38 169 2 3 ["world","row"] "struckdeeds.rows" 496 ++
 (qA 233 506 "walked" 39 171 2 3 ["world","row","here","back","number","deed"] "struckdeeds.rows" 496 ++
 (qA 240 520 "alike" 41 182 2 3 ["row","other","one","two","worlds","at"] "struckdeeds.partings" 518 ++
 (qA 247 532 "parts" 42 191 3 3 ["world","row","other"] "struckdeeds.partings" 518 ++
 (qA 254 541 "behind" 43 193 2 3 ["world","row"] "struckdeeds.partings" 518 ++
 (qB 261 549 "worlds_to_try" 44 198 2 3 "struckdeeds.partings" 518 ++
 (qB 266 555 "world_of" 45 204 2 3 "struckdeeds.partings" 518 ++
 (qA 271 563 "_law_cell" 47 207 2 3 ["_law_script","_law_k"] "law_struckdeeds_k21_whole_neighbours_changed" 561 ++
 (qA 278 571 "_law_stirred" 48 211 2 3 ["_law_cell_here","_law_size","_law_one","_law_other","_law_found","_law_k","_law_number_here"] "law_struckdeeds_k21_whole_neighbours_changed" 561 ++
 ([]))))))))))))))))))))
noncomputable abbrev hX5 (w:bj) (U:ee):PySem.W.SharedT:=#[hT5 w.params,285,{ },#[[]],{ },584,U]
def hD6:e5->List DictEntry:=λP=>hD5 P++[eS P "_law_names" 589 (.ref 289),eS P "_law_number" 596 (.ref 296),eS P "_law_place" 603 (.ref 303),eS P "_law_world" 614 (.ref 310),eS P "_law_pick" 622 (.ref 317),eS P "_law_deed" 628 (.ref 322),eS P "_law_wanted" 635 (.ref 329),eS P "_law_made" 642 (.ref 336),eS P "_law_can" 648 (.ref 341),eS P "_law_step" 659 (.ref 348),eS P "_law_there" 670 (.ref 355),eS P "_law_run" 679 (.ref 362),eS P "_law_row" 693 (.ref 369),eS P "_law_row_comes_to" 703 (.ref 376),eS P "_law_deals" 712 (.ref 383),eS P "_law_touch" 724 (.ref 390),eS P "_law_wide" 734 (.ref 397),eS P "_law_right" 740 (.ref 402),eS P "law" 748 (.ref 409)]
noncomputable def hT6:e5->PySem.W.BT:=λP=>hI (hT5 P) ((3,(#[.type "dict", am,.dict (hD6 P).toArray 68,#[]]:cy)) :: (12,lF [(5,0,20),(7,0,25),(11,0,32),(13,0,39),(16,0,44),(18,0,49),(21,0,56),(28,0,61),(42,0,68),(60,0,73),(64,0,80),(72,0,85),(74,0,92),(77,0,99),(79,0,112),(81,0,124),(85,0,143),(91,0,163),(93,0,168),(103,0,175),(109,0,182),(111,0,189),(118,0,196),(123,0,203),(140,0,210),(147,0,217),(165,0,224),(169,0,231),(171,0,238),(182,0,245),(191,0,252),(193,0,259),(198,0,264),(204,0,269),(207,0,276),(211,0,283),(224,0,288),(236,0,295),(238,0,302),(240,0,309),(246,0,316),(248,0,321),(276,0,328),(282,0,335),(288,0,340),(292,0,347),(313,0,354),(318,0,361),(324,0,368),(332,0,375),(337,0,382),(349,0,389),(358,0,396),(364,0,401),(384,0,408)]) ::
 qB 285 584 "_law_names" 49 224 3 3 "law_struckdeeds_k21_whole_neighbours_changed" 561 ++
 (qA 290 590 "_law_number" 50 236 1 3 ["_law_x"] "law_struckdeeds_k21_whole_neighbours_changed" 561 ++
 (qA 297 597 "_law_place" 51 238 1 3 ["_law_x"] "law_struckdeeds_k21_whole_neighbours_changed" 561 ++
 (qA 304 604 "_law_world" 52 240 3 3 ["_law_xs","_law_at","_law_names_here","_law_found","_law_k"] "law_struckdeeds_k21_whole_neighbours_changed" 561 ++
 (qA 311 615 "_law_pick" 53 246 2 3 ["_law_some","_law_x"] "law_struckdeeds_k21_whole_neighbours_changed" 561 ++
 (qB 318 623 "_law_deed" 54 248 4 3 "law_struckdeeds_k21_whole_neighbours_changed" 561 ++
 (qA 323 629 "_law_wanted" 55 276 1 3 ["_law_deed_here"] "law_struckdeeds_k21_whole_neighbours_changed" 561 ++
 (qA 330 636 "_law_made" 56 282 1 3 ["_law_deed_here"] "law_struckdeeds_k21_whole_neighbours_changed" 561 ++
 (qB 337 643 "_law_can" 57 288 2 3 "law_struckdeeds_k21_whole_neighbours_changed" 561 ++
 (qA 342 649 "_law_step" 58 292 2 3 ["_law_there_here","_law_deed_here","_law_found","_law_word","_law_name"] "law_struckdeeds_k21_whole_neighbours_changed" 561 ++
 (qA 349 660 "_law_there" 59 313 1 3 ["_law_world_here","_law_found","_law_name","_law_place_here","_law_count"] "law_struckdeeds_k21_whole_neighbours_changed" 561 ++
 (qA 356 671 "_law_run" 60 318 2 3 ["_law_there_here","_law_row_here","_law_k"] "law_struckdeeds_k21_whole_neighbours_changed" 561 ++
 (qA 363 680 "_law_row" 61 324 5 3 ["_law_xs","_law_at","_law_size","_law_names_here","_law_there_here","_law_row_here","_law_k","_law_deed_here"] "law_struckdeeds_k21_whole_neighbours_changed" 561 ++
 (qA 370 694 "_law_row_comes_to" 62 332 2 3 ["_law_there_here","_law_row_here","_law_number_here","_law_behind"] "law_struckdeeds_k21_whole_neighbours_changed" 561 ++
 (qA 377 704 "_law_deals" 63 337 1 3 ["_law_deed_here","_law_word","_law_found"] "law_struckdeeds_k21_whole_neighbours_changed" 561 ++
 (qA 384 713 "_law_touch" 64 349 2 3 ["_law_one","_law_other","_law_first","_law_second","_law_name","_law_both"] "law_struckdeeds_k21_whole_neighbours_changed" 561 ++
 (qA 391 725 "_law_wide" 65 358 2 3 ["_law_names_here","_law_mask","_law_found","_law_k"] "law_struckdeeds_k21_whole_neighbours_changed" 561 ++
 (qB 398 735 "_law_right" 66 364 1 3 "law_struckdeeds_k21_whole_neighbours_changed" 561 ++
 (qA 403 741 "law" 67 384 1 3 ["_law_script","_law_cell_here"] "law_struckdeeds_k21_whole_neighbours_changed" 561 ++
 ([]))))))))))))))))))))
noncomputable abbrev hX6 (w:bj) (U:ee):PySem.W.SharedT:=#[hT6 w.params,410,{ },#[[]],{ },749,U]
noncomputable abbrev hX7 (w:bj) (U:ee):PySem.W.SharedT:=#[hT6 w.params,410,{ },#[[]],{ },749,U]
noncomputable def hg (P:e5) (a:Nat):Obj:=((hT6 P).get a).getD default
noncomputable def hK:Params->PySem.W.Frag:=λP=>
 (nat_lit 2,hg P 2) ::
 (nat_lit 3,hg P 3) ::
 (nat_lit 20,hg P 20) ::
 (nat_lit 21,fP "is_whole" MX .none (vS "struckdeeds.words" 187) 20) ::
 (nat_lit 25,hg P 25) ::
 (nat_lit 26,fP "is_name" LJ .none (vS "struckdeeds.words" 187) 25) ::
 (nat_lit 32,hg P 32) ::
 (nat_lit 33,fP "is_within" KJ .none (vS "struckdeeds.words" 187) 32) ::
 (nat_lit 39,hg P 39) ::
 (nat_lit 40,fP "is_place" MY .none (vS "struckdeeds.words" 187) 39) ::
 (nat_lit 44,hg P 44) ::
 (nat_lit 45,fP "by_names" J8 .none (vS "struckdeeds.worlds" 224) 44) ::
 (nat_lit 49,hg P 49) ::
 (nat_lit 50,fP "rising_by_names" CK .none (vS "struckdeeds.worlds" 224) 49) ::
 (nat_lit 56,hg P 56) ::
 (nat_lit 57,fP "effect" TC .none (vS "struckdeeds.effects" 238) 56) ::
 (nat_lit 61,hg P 61) ::
 (nat_lit 62,fP "effect_behind" CG .none (vS "struckdeeds.effects" 238) 61) ::
 (nat_lit 68,hg P 68) ::
 (nat_lit 69,fP "deed_effect" GU .none (vS "struckdeeds.effects" 238) 68) ::
 (nat_lit 73,hg P 73) ::
 (nat_lit 74,fP "clash" O7 .none (vS "struckdeeds.effects" 238) 73) ::
 (nat_lit 80,hg P 80) ::
 (nat_lit 81,fP "told_at_first" EZ .none (vS "struckdeeds.effects" 238) 80) ::
 (nat_lit 85,hg P 85) ::
 (nat_lit 86,fP "by_left_names" DH .none (vS "struckdeeds.effects" 238) 85) ::
 (nat_lit 92,hg P 92) ::
 (nat_lit 93,fP "rising" TB .none (vS "struckdeeds.effects" 238) 92) ::
 (nat_lit 102,hg P 102) ::
 (nat_lit 103,(#[(.type "type"),am,(.cls (.mk "StrikeError" [(.type "ValueError")] [(.ref 103),(.type "ValueError"),(.type "Exception"),(.type "BaseException"),(.type "object")] 102 "StrikeError" au [] [(.ref 116),(.ref 135),(.ref 154)] aB am aB)),(y9 [(ak (.ref 94)),am,(ak (vS "StrikeError" 300)),(ak (vS "StrikeError" 308)),(ak (.builtin "ValueError.__new__")),(ak (.bool au))])]:cy)) ::
 (nat_lit 104,hg P 104) ::
 (nat_lit 115,hg P 115) ::
 (nat_lit 116,(#[(.type "type"),am,(.cls (.mk "NoDeed" [(.ref 103)] [(.ref 116),(.ref 103),(.type "ValueError"),(.type "Exception"),(.type "BaseException"),(.type "object")] 115 "NoDeed" au [] [] aB am aB)),(y9 [(ak (.ref 107)),am,(ak (vS "NoDeed" 318)),(ak (vS "NoDeed" 326)),(ak (.builtin "ValueError.__new__")),(ak (.bool au))])]:cy)) ::
 (nat_lit 131,hg P 131) ::
 (nat_lit 132,fO "__init__" "NotNow.__init__" CI .none (vS "struckdeeds.errors" 298) 131) ::
 (nat_lit 134,hg P 134) ::
 (nat_lit 135,(#[(.type "type"),am,(.cls (.mk "NotNow" [(.ref 103)] [(.ref 135),(.ref 103),(.type "ValueError"),(.type "Exception"),(.type "BaseException"),(.type "object")] 134 "NotNow" au [] [] aB am aB)),(y9 [(ak (.ref 119)),am,(ak (vS "NotNow" 334)),(ak (vS "NotNow" 342)),(ak (.builtin "ValueError.__new__")),(ak (.bool au))])]:cy)) ::
 (nat_lit 150,hg P 150) ::
 (nat_lit 151,fO "__init__" "NoRow.__init__" CC .none (vS "struckdeeds.errors" 298) 150) ::
 (nat_lit 153,hg P 153) ::
 (nat_lit 154,(#[(.type "type"),am,(.cls (.mk "NoRow" [(.ref 103)] [(.ref 154),(.ref 103),(.type "ValueError"),(.type "Exception"),(.type "BaseException"),(.type "object")] 153 "NoRow" au [] [] aB am aB)),(y9 [(ak (.ref 138)),am,(ak (vS "NoRow" 359)),(ak (vS "NoRow" 367)),(ak (.builtin "ValueError.__new__")),(ak (.bool au))])]:cy)) ::
 (nat_lit 157,(#[(.type "dict"),am,(.dict (y9 [eS P "put" 386 (vS "npk" 387),eS P "take" 388 (vS "n" 389),eS P "move" 390 (vS "np" 391),eS P "count" 392 (vS "nk" 393),eS P "name" 394 (vS "nn" 395),eS P "split" 396 (vS "nnpk" 397),eS P "join" 398 (vS "nn" 399)]) 7),#[]]:cy)) ::
 (nat_lit 163,hg P 163) ::
 (nat_lit 164,fP "form_of" PD .none (vS "struckdeeds.deeds" 384) 163) ::
 (nat_lit 168,hg P 168) ::
 (nat_lit 169,fP "is_deed" LK .none (vS "struckdeeds.deeds" 384) 168) ::
 (nat_lit 175,hg P 175) ::
 (nat_lit 176,fP "fits" fE .none (vS "struckdeeds.deeds" 384) 175) ::
 (nat_lit 182,hg P 182) ::
 (nat_lit 183,fP "names_in" MZ .none (vS "struckdeeds.deeds" 384) 182) ::
 (nat_lit 189,hg P 189) ::
 (nat_lit 190,fP "made_by" PF .none (vS "struckdeeds.deeds" 384) 189) ::
 (nat_lit 196,hg P 196) ::
 (nat_lit 197,fP "done" fF .none (vS "struckdeeds.doings" 443) 196) ::
 (nat_lit 203,hg P 203) ::
 (nat_lit 204,fP "back_deed" KL .none (vS "struckdeeds.doings" 443) 203) ::
 (nat_lit 210,hg P 210) ::
 (nat_lit 211,fP "refuse_undoable" E4 .none (vS "struckdeeds.doings" 443) 210) ::
 (nat_lit 217,hg P 217) ::
 (nat_lit 218,fP "change" T7 .none (vS "struckdeeds.doings" 443) 217) ::
 (nat_lit 224,hg P 224) ::
 (nat_lit 225,fP "add_count" KK .none (vS "struckdeeds.doings" 443) 224) ::
 (nat_lit 231,hg P 231) ::
 (nat_lit 232,fP "gone" fG .none (vS "struckdeeds.rows" 496) 231) ::
 (nat_lit 238,hg P 238) ::
 (nat_lit 239,fP "walked" T8 .none (vS "struckdeeds.rows" 496) 238) ::
 (nat_lit 245,hg P 245) ::
 (nat_lit 246,fP "alike" XS .none (vS "struckdeeds.partings" 518) 245) ::
 (nat_lit 252,hg P 252) ::
 (nat_lit 253,fP "parts" XR .none (vS "struckdeeds.partings" 518) 252) ::
 (nat_lit 259,hg P 259) ::
 (nat_lit 260,fP "behind" T9 .none (vS "struckdeeds.partings" 518) 259) ::
 (nat_lit 264,hg P 264) ::
 (nat_lit 265,fP "worlds_to_try" BN .none (vS "struckdeeds.partings" 518) 264) ::
 (nat_lit 269,hg P 269) ::
 (nat_lit 270,fP "world_of" J9 .none (vS "struckdeeds.partings" 518) 269) ::
 (nat_lit 276,hg P 276) ::
 (nat_lit 277,fP "_law_cell" KD .none (vS "law_struckdeeds_k21_whole_neighbours_changed" 561) 276) ::
 (nat_lit 283,hg P 283) ::
 (nat_lit 284,fP "_law_stirred" FT .none (vS "law_struckdeeds_k21_whole_neighbours_changed" 561) 283) ::
 (nat_lit 288,hg P 288) ::
 (nat_lit 289,fP "_law_names" F7 .none (vS "law_struckdeeds_k21_whole_neighbours_changed" 561) 288) ::
 (nat_lit 295,hg P 295) ::
 (nat_lit 296,fP "_law_number" GR .none (vS "law_struckdeeds_k21_whole_neighbours_changed" 561) 295) ::
 (nat_lit 302,hg P 302) ::
 (nat_lit 303,fP "_law_place" J0 .none (vS "law_struckdeeds_k21_whole_neighbours_changed" 561) 302) ::
 (nat_lit 309,hg P 309) ::
 (nat_lit 310,fP "_law_world" J2 .none (vS "law_struckdeeds_k21_whole_neighbours_changed" 561) 309) ::
 (nat_lit 316,hg P 316) ::
 (nat_lit 317,fP "_law_pick" KF .none (vS "law_struckdeeds_k21_whole_neighbours_changed" 561) 316) ::
 (nat_lit 321,hg P 321) ::
 (nat_lit 322,fP "_law_deed" EU .none (vS "law_struckdeeds_k21_whole_neighbours_changed" 561) 321) ::
 (nat_lit 328,hg P 328) ::
 (nat_lit 329,fP "_law_wanted" GS .none (vS "law_struckdeeds_k21_whole_neighbours_changed" 561) 328) ::
 (nat_lit 335,hg P 335) ::
 (nat_lit 336,fP "_law_made" KG .none (vS "law_struckdeeds_k21_whole_neighbours_changed" 561) 335) ::
 (nat_lit 340,hg P 340) ::
 (nat_lit 341,fP "_law_can" J5 .none (vS "law_struckdeeds_k21_whole_neighbours_changed" 561) 340) ::
 (nat_lit 347,hg P 347) ::
 (nat_lit 348,fP "_law_step" KH .none (vS "law_struckdeeds_k21_whole_neighbours_changed" 561) 347) ::
 (nat_lit 354,hg P 354) ::
 (nat_lit 355,fP "_law_there" J3 .none (vS "law_struckdeeds_k21_whole_neighbours_changed" 561) 354) ::
 (nat_lit 361,hg P 361) ::
 (nat_lit 362,fP "_law_run" MW .none (vS "law_struckdeeds_k21_whole_neighbours_changed" 561) 361) ::
 (nat_lit 368,hg P 368) ::
 (nat_lit 369,fP "_law_row" MV .none (vS "law_struckdeeds_k21_whole_neighbours_changed" 561) 368) ::
 (nat_lit 375,hg P 375) ::
 (nat_lit 376,fP "_law_row_comes_to" D8 .none (vS "law_struckdeeds_k21_whole_neighbours_changed" 561) 375) ::
 (nat_lit 382,hg P 382) ::
 (nat_lit 383,fP "_law_deals" J6 .none (vS "law_struckdeeds_k21_whole_neighbours_changed" 561) 382) ::
 (nat_lit 389,hg P 389) ::
 (nat_lit 390,fP "_law_touch" J7 .none (vS "law_struckdeeds_k21_whole_neighbours_changed" 561) 389) ::
 (nat_lit 396,hg P 396) ::
 (nat_lit 397,fP "_law_wide" KI .none (vS "law_struckdeeds_k21_whole_neighbours_changed" 561) 396) ::
 (nat_lit 401,hg P 401) ::
 (nat_lit 402,fP "_law_right" CZ .none (vS "law_struckdeeds_k21_whole_neighbours_changed" 561) 401) ::
 (nat_lit 408,hg P 408) ::
 (nat_lit 409,fP "law" uH .none (vS "law_struckdeeds_k21_whole_neighbours_changed" 561) 408)::[]
def hA:List Addr:=[2,3,20,21,25,26,32,33,39,40,44,45,49,50,56,57,61,62,68,69,73,74,80,81,85,86,92,93,102,103,104,115,116,131,132,134,135,150,151,153,154,157,163,164,168,169,175,176,182,183,189,190,196,197,203,204,210,211,217,218,224,225,231,232,238,239,245,246,252,253,259,260,264,265,269,270,276,277,283,284,288,289,295,296,302,303,309,310,316,317,321,322,328,329,335,336,340,341,347,348,354,355,361,362,368,369,375,376,382,383,389,390,396,397,401,402,408,409]
theorem hE:∀P,hA=(hK P).map (·.1):=λ_=>by kernel_rfl
theorem hp1 (w:bj):(λU=>PySem.W.topGo cE ad w 11 (a4J (a0X 6)) 12 #[a5J w.params,#[[]],b6K,b7W,U] (PySem.W.topStub ad))=λU=>ak ((hX1 w U).abs,#[denote cE hC,hC,{ line:=0,col:=0,endLine:=0,endCol:=0 },hF]):=by kernel_rfl
theorem hp2 (w:bj):(λU=>b1X cE ad w 11 (a4J (a0X 6)) 1 1 (hX1 w U) (PySem.W.blockOf hB hN hC { line:=0,col:=0,endLine:=0,endCol:=0 } hF))=λU=>ak (.next,hX2 w U,hC,{ line:=0,col:=0,endLine:=0,endCol:=0 }):=by kernel_rfl
def hQ3:List Stmt:=(hB.drop 0).take 21
theorem hp3 (w:bj):(λU=>b1X cE ad w 11 (a4J (a0X 6)) 1 623 (hX2 w U) (b2K hQ3 hN hC { line:=0,col:=0,endLine:=0,endCol:=0 } hF))=λU=>ak (.next,hX3 w U,hC,{ line:=77,col:=0,endLine:=78,endCol:=8 }):=by kernel_rfl
def hQ4:List Stmt:=(hB.drop 21).take 4
theorem hp4 (w:bj):(λU=>b1X cE ad w 11 (a4J (a0X 6)) 1 713 (hX3 w U) (b2K hQ4 hN hC { line:=77,col:=0,endLine:=78,endCol:=8 } hF))=λU=>ak (.next,hX4 w U,hC,{ line:=89,col:=0,endLine:=89,endCol:=8 }):=by kernel_rfl
def hQ5:List Stmt:=(hB.drop 25).take 24
abbrev A5p (w:bj):Prop:=(λU=>b1X cE ad w 11 (a4J (a0X 6)) 1 732 (hX4 w U) (b2K hQ5 hN hC { line:=89,col:=0,endLine:=89,endCol:=8 } hF))=λU=>ak (.next,hX5 w U,hC,{ line:=211,col:=0,endLine:=223,endCol:=21 })
theorem mD (w:bj):(λU=>b1X cE ad (w.withFollow "special-get-raises" aB) 11 (a4J (a0X 6)) 1 732 (hX4 (w.withFollow "special-get-raises" aB) U) (b2K hQ5 hN hC { line:=89,col:=0,endLine:=89,endCol:=8 } hF))=λU=>ak (.next,hX5 (w.withFollow "special-get-raises" aB) U,hC,{ line:=211,col:=0,endLine:=223,endCol:=21 }):=by kernel_rfl
theorem uI (w:bj):(λU=>b1X cE ad (w.withFollow "special-get-raises" au) 11 (a4J (a0X 6)) 1 732 (hX4 (w.withFollow "special-get-raises" au) U) (b2K hQ5 hN hC { line:=89,col:=0,endLine:=89,endCol:=8 } hF))=λU=>ak (.next,hX5 (w.withFollow "special-get-raises" au) U,hC,{ line:=211,col:=0,endLine:=223,endCol:=21 }):=by kernel_rfl
theorem hp5:∀w:bj,A5p w:=PySem.W.byRow2 "special-get-raises" mD uI
def hQ6:List Stmt:=(hB.drop 49).take 19
theorem hp6 (w:bj):(λU=>b1X cE ad w 11 (a4J (a0X 6)) 1 576 (hX5 w U) (b2K hQ6 hN hC { line:=211,col:=0,endLine:=223,endCol:=21 } hF))=λU=>ak (.next,hX6 w U,hC,{ line:=384,col:=0,endLine:=388,endCol:=15 }):=by kernel_rfl
theorem hp7 (w:bj):(λU=>a8K cE ad w 11 (a4J (a0X 6)) 2 (hX6 w U).abs (b4K [] hN hC { line:=384,col:=0,endLine:=388,endCol:=15 } hF))=λU=>ak (hX7 w U).abs:=by kernel_rfl
theorem hR1:hB=(hQ3++(hQ4++(hQ5++(hQ6++[])))):=by kernel_rfl
theorem hr7 (w:bj) (U:ee):a8K cE ad w 11 (a4J (a0X 6)) 2 (hX6 w U).abs (b4K [] hN hC { line:=384,col:=0,endLine:=388,endCol:=15 } hF)=ak (hX7 w U).abs:=congrFun (hp7 w) U
theorem hr6 (w:bj) (U:ee):a8K cE ad w 11 (a4J (a0X 6)) (576+2) (hX5 w U).abs (b4K (hQ6++[]) hN hC { line:=211,col:=0,endLine:=223,endCol:=21 } hF)=ak (hX7 w U).abs:=b7K (n:=576) (N:=2) (s:=(hX5 w U).abs) (s':=(hX6 w U).abs) (r:=(hX7 w U).abs) (l:=hQ6) (rest:=[]) (c:=hC) (pos:={ line:=211,col:=0,endLine:=223,endCol:=21 }) (p':={ line:=384,col:=0,endLine:=388,endCol:=15 }) (env:=hN) (q:={ line:=0,col:=0,endLine:=0,endCol:=0 }) (b4X (congrFun (hp6 w) U)) (hr7 w U)
theorem hr5 (w:bj) (U:ee):a8K cE ad w 11 (a4J (a0X 6)) (732+(576+2)) (hX4 w U).abs (b4K (hQ5++(hQ6++[])) hN hC { line:=89,col:=0,endLine:=89,endCol:=8 } hF)=ak (hX7 w U).abs:=b7K (n:=732) (N:=(576+2)) (s:=(hX4 w U).abs) (s':=(hX5 w U).abs) (r:=(hX7 w U).abs) (l:=hQ5) (rest:=(hQ6++[])) (c:=hC) (pos:={ line:=89,col:=0,endLine:=89,endCol:=8 }) (p':={ line:=211,col:=0,endLine:=223,endCol:=21 }) (env:=hN) (q:={ line:=0,col:=0,endLine:=0,endCol:=0 }) (b4X (congrFun (hp5 w) U)) (hr6 w U)
theorem hr4 (w:bj) (U:ee):a8K cE ad w 11 (a4J (a0X 6)) (713+(732+(576+2))) (hX3 w U).abs (b4K (hQ4++(hQ5++(hQ6++[]))) hN hC { line:=77,col:=0,endLine:=78,endCol:=8 } hF)=ak (hX7 w U).abs:=b7K (n:=713) (N:=(732+(576+2))) (s:=(hX3 w U).abs) (s':=(hX4 w U).abs) (r:=(hX7 w U).abs) (l:=hQ4) (rest:=(hQ5++(hQ6++[]))) (c:=hC) (pos:={ line:=77,col:=0,endLine:=78,endCol:=8 }) (p':={ line:=89,col:=0,endLine:=89,endCol:=8 }) (env:=hN) (q:={ line:=0,col:=0,endLine:=0,endCol:=0 }) (b4X (congrFun (hp4 w) U)) (hr5 w U)
theorem hr3 (w:bj) (U:ee):a8K cE ad w 11 (a4J (a0X 6)) (623+(713+(732+(576+2)))) (hX2 w U).abs (b4K (hQ3++(hQ4++(hQ5++(hQ6++[])))) hN hC { line:=0,col:=0,endLine:=0,endCol:=0 } hF)=ak (hX7 w U).abs:=b7K (n:=623) (N:=(713+(732+(576+2)))) (s:=(hX2 w U).abs) (s':=(hX3 w U).abs) (r:=(hX7 w U).abs) (l:=hQ3) (rest:=(hQ4++(hQ5++(hQ6++[])))) (c:=hC) (pos:={ line:=0,col:=0,endLine:=0,endCol:=0 }) (p':={ line:=77,col:=0,endLine:=78,endCol:=8 }) (env:=hN) (q:={ line:=0,col:=0,endLine:=0,endCol:=0 }) (b4X (congrFun (hp3 w) U)) (hr4 w U)
theorem hr2 (w:bj) (U:ee):a8K cE ad w 11 (a4J (a0X 6)) (1+(623+(713+(732+(576+2))))) (hX1 w U).abs #[denote cE hC,hC,{ line:=0,col:=0,endLine:=0,endCol:=0 },hF]=ak (hX7 w U).abs:=PySem.W.piece_block (n:=1) (N:=(623+(713+(732+(576+2))))) (s:=(hX1 w U).abs) (s':=(hX2 w U).abs) (r:=(hX7 w U).abs) (b:=hB) (env:=hN) (c:=hC) (pos:={ line:=0,col:=0,endLine:=0,endCol:=0 }) (p':={ line:=0,col:=0,endLine:=0,endCol:=0 }) (q:={ line:=0,col:=0,endLine:=0,endCol:=0 }) (b4X (congrFun (hp2 w) U)) (by rw[hR1];exact hr3 w U)
noncomputable def hH:e5->Heap:=λP=>PySem.W.absHeap (hT6 P) 410 { }
theorem hr1 (w:bj) (U:ee):a8K cE ad w 11 (a4J (a0X 6)) (12+(1+(623+(713+(732+(576+2)))))) #[a5J w.params,#[[]],b6K,b7W,U] (PySem.W.topStub ad)=ak (hX7 w U).abs:=PySem.W.go_top (n:=12) (N:=(1+(623+(713+(732+(576+2)))))) (s':=(hX1 w U).abs) (t':=#[denote cE hC,hC,{ line:=0,col:=0,endLine:=0,endCol:=0 },hF]) (congrFun (hp1 w) U) (hr2 w U)
theorem hR (w:bj) (U:ee):a8K cE ad w 11 (a4J (a0X 6)) (12+(1+(623+(713+(732+(576+2)))))) #[a5J w.params,#[[]],b6K,b7W,U] (PySem.W.topStub ad)=ak #[hH w.params,#[[]],{ },749,U]:=(hr1 w U).trans (by kernel_rfl)
theorem hZ (w:bj):(λU=>((PySem.W.staticsOk (PySem.importedModules ad.main.body) (a5J w.params) (hH w.params)&&PySem.W.namesBound ad (hH w.params)&&PySem.W.gensDone #[hH w.params,#[[]],{ },749,U]&&PySem.W.laidKept (a5J w.params) (hH w.params)),PySem.W.openSeen hV [a0Q "FORMS"] (PySem.importedModules ad.main.body) (λs=>PySem.W.xlAt hV [] s&&PySem.W.recOk (b4Z (b2W (b4J PySem.Challenge.rw_struckdeeds_k21_whole_neighbours_changed))) s) au #[hH w.params,#[[]],{ },749,U],b7Q (a7Q hK hA hE) #[hH w.params,#[[]],{ },749,U]))=λ_=>(au,PySem.W.openGood hV [a0Q "FORMS"],b6V (a7Q hK hA hE) w):=by kernel_rfl
theorem hO:PySem.W.opening ad=PySem.W.plainProg ad.main.scope.names:=by kernel_rfl
theorem hG (w:bj):((a5J w.params).isNs bc&&(#[[]]:Array GenState).size==0,(a5J w.params).objs.size,(a5J w.params).nsMap bc (a0Q "__annotations__"))=(au,11,a4J (a0X 6)):=by kernel_rfl
theorem hJ (s:av):PySem.fenceModules? ad s=ak s:=by kernel_rfl
theorem hL:PySem.W.LeftO ad hV [a0Q "FORMS"] (λs=>PySem.W.xlAt hV [] s&&PySem.W.recOk (b4Z (b2W (b4J PySem.Challenge.rw_struckdeeds_k21_whole_neighbours_changed))) s) (b7Q (a7Q hK hA hE)) (b6V (a7Q hK hA hE)) 5406:=
 @PySem.W.LeftO.of_pieces ad hV [a0Q "FORMS"] (λs=>PySem.W.xlAt hV [] s&&PySem.W.recOk (b4Z (b2W (b4J PySem.Challenge.rw_struckdeeds_k21_whole_neighbours_changed))) s) _ (b7Q (a7Q hK hA hE)) (b6V (a7Q hK hA hE)) 5406 au a5J hH #[[]] #[[]] b6K { } b7W 749 11 (a4J (a0X 6)) (12+(1+(623+(713+(732+(576+2)))))) (PySem.W.boot_open hO `kh hJ) hG hR `kh hZ
theorem hS:PySem.W.OpenLaw.wellSaid PySem.Challenge.rw_struckdeeds_k21_whole_neighbours_changed=true:=by kernel_rfl
set_option hygiene false
local macro_rules | `(tactic| exists $x) => `(tactic| refine $x ?_)
local macro_rules | `(tactic| exists $p,$x) => `(tactic| ((with_reducible show $p);exact $x))
local macro_rules | `(tactic| exists $n,$k,$b) => `(tactic| ((with_reducible show PE _ (.Call (.Name (a0Q $n) _) ..) _);exact @GY _ _ _ _ _ _ _ _ _ $k (by rfl) (by assumption) $b (by walk_at "a") (by decide) (by decide) (by rfl) (by rfl)))
local macro_rules | `(tactic| exists $j,$c:ident,$o,$k) => `(tactic| ((with_reducible show $j _ (.Compare _ [$o] ..) _);exact @$c:ident _ _ _ _ _ _ _ _ $k (by walk_at "e") (by walk_at "e") (@DZ _ _ (by decide) (by decide))))
local macro_rules | `(tactic| exists $o,$k,0,0,0) => `(tactic| ((with_reducible show PE _ (.BinOp _ $o ..) _);exact @JQ _ _ _ _ _ _ _ _ $k (by walk_at "e") (by walk_at "e")))
local macro_rules | `(tactic| exists $o,$k,0,0,0,0) => `(tactic| exact @IB _ _ (.ty $o) _ _ (by rfl) (by assumption) $k rfl (by decide) (by decide))
local macro_rules | `(tactic| walk_at "lc")=>`(tactic| first | exact Or.inl rfl | exact Or.inr rfl | exact Or.inr (Or.inl rfl) | exact Or.inr (Or.inr rfl))
local macro_rules | `(tactic| walk_at "or")=>`(tactic| first | exact .inl rfl | exact .inr rfl | assumption)
local macro_rules | `(tactic| walk_at "q")=>`(tactic| first | exists PSs _ [] _,@uP _ | exists PSs _ [_] _,@N3 _ _ _ (by walk_at "s") | exists PSs _ (_::_) _,@QZ _ _ _ _ _ (by walk_at "s") (by walk_at "q"))
local macro_rules | `(tactic| walk_at "x")=>`(tactic| first | exists PE _ (.BinOp _ .Mult ..) _,@JQ _ _ _ _ _ _ _ _ (@pM _ K rfl) `jz `jz | exists PE _ (.Call (.Attribute _ (a0Q "join") _) ..) _,@kBm _ K _ _ _ _ _ _ _ _ _ _ _ rfl PySem.F.plainAttrs_str PySem.F.slot_str_join PySem.F.type_str_join (@A4l _ K rfl) `jz (by walk_at "a") (by rfl) (by rfl) (by rfl) (by rfl) (by rfl) | exists PE _ (.Dict ..) _,@RF _ _ | exists PE _ (.Dict ..) _,@vC _ _ _ _ _ (@YJ _ _ _ _ _ _ _ _ _ `jz `jz (@YJ _ _ _ _ _ _ _ _ _ `jz `jz (@vB _ _))) rfl rfl (by simp) `kh | exists PS _ (.Assign [.Subscript ..] ..) _,@ID _ _ _ _ _ _ _ _ _ dz `jz `jz `jz (by rfl) | exists PE _ (.Call (.Attribute _ (a0Q "pop") _) ..) _,@YK _ _ _ _ _ _ _ `jz `jz (@L2.M1.mk _ _ _ _ _ _ rfl rfl rfl rfl) | exists PS _ (.Assign [.Tuple ..] ..) _,@cF _ _ _ _ _ _ `jz (by walk_at "g") (by rfl) (by rfl) (by rfl) | exists PE _ (.Compare _ [_,_] ..) _,@n6 _ _ _ _ _ _ _ _ _ _ _ _ (@fS _) (@fS _) `jz `jz `jz (by with_unfolding_all rfl) | exists PT _ (.Compare _ [_,_] ..) _,@n8 _ _ _ _ _ _ _ _ _ _ _ _ (@fS _) (@fS _) `jz `jz `jz (by with_unfolding_all rfl) | exists PE _ (.Call (.Attribute _ (a0Q "get") _) ..) _,@wR _ _ _ _ _ _ _ _ rfl jy `jz (@L2.M1.mk _ _ _ _ _ _ rfl rfl rfl rfl) `kh | exists PE _ (.Call (.Attribute _ (a0Q "startswith") _) ..) _,@kBm _ K _ _ _ _ _ _ _ _ _ _ _ rfl PySem.F.plainAttrs_str PySem.F.slot_str_startswith PySem.F.type_str_startswith (@Z2 _ K rfl) `jz (by walk_at "a") (by rfl) (by rfl) (by rfl) (by rfl) (by rfl) | exists PI _ _ (.Call (.Name (a0Q "zip") _) ..) _,@A5G _ K _ _ _ _ _ _ _ _ rfl rfl ua (by walk_at "a") (by rfl) (by rfl) | exists PS _ (.Assign [.Tuple ..] (.Tuple ..) _) _,@VX _ _ (2) (3) _ _ _ _ _ _ _ _ _ _ _ rfl nd rfl rfl `kh rfl rfl (by walk_at "a") rfl (by rfl) | exists PS _ (.Assign [.Tuple ..] (.Tuple ..) _) _,@VX _ _ (3) (4) _ _ _ _ _ _ _ _ _ _ _ rfl nd rfl rfl `kh rfl rfl (by walk_at "a") rfl (by rfl) | exists PS _ (.Assign [.Tuple ..] (.Tuple ..) _) _,@VX _ _ (1) (2) _ _ _ _ _ _ _ _ _ _ _ rfl nd rfl rfl `kh rfl rfl (by walk_at "a") rfl (by rfl) | exists PS _ (.Delete ..) _,@vA _ _ _ _ _ _ _ `jz `jz | exists PE _ (.Call (.Name (a0Q "refuse_undoable") _) ..) _,@A1O _ K P w mg base _ _ _ _ _ _ _ _ _ rfl rfl rfl rfl rfl (KB ah) (hr.mono `kh) rfl (by walk_at "a") `kh (by rfl) (by rfl) | exists PI _ _ (.Call (.Name (a0Q "enumerate") _) ..) _,@A3X _ K _ _ _ _ _ _ _ rfl rfl df (by walk_at "a") (by rfl) | exists PS _ (.Try ..) _,@A5D _ _ _ _ _ _ _ _ _ _ _ _ _ _ _ _ _ _ _ _ _ _ _ _ _ _ _ _ _ _ _ rfl rfl rfl rfl rfl rfl rfl c_.cls de.cls ir (hr.mono (by decide)) rfl rfl rfl (λa=>(by walk_at "a")) (λpn R=>(by walk_at "q")) `kh `kh `kh (by rfl) | exists PS _ (.Try ..) _,@A5j _ _ _ _ _ _ _ _ _ _ _ _ rfl rfl rfl rfl er.at (λpn R=>(by walk_at "q")) (λa=>(by walk_at "q")) `kh | exists PS _ (.While ..) _,@mY _ _ _ _ _ _ PassesOwn.never (by walk_at "t") (by walk_at "q") | exists PE _ (.Subscript ..) _,@A5b _ K _ _ _ _ _ _ rfl `jz `jz)
local macro_rules | `(tactic| walk_at "cs")=>`(tactic| first | exact @HF _ _ JG JH (AB F7) LY (by decide +kernel) (by decide +kernel) rfl rfl | exact @HF _ _ LZ GV (AB J5) Q7 (by decide +kernel) (by decide +kernel) rfl rfl | exact @HF _ _ KM FU (AB EU) JA (by decide +kernel) (by decide +kernel) rfl rfl | exact @HF _ _ KN KO (AB EU) JA (by decide +kernel) (by decide +kernel) rfl rfl | exact @HF _ _ O8 O9 (AB LJ) TK (by decide +kernel) (by decide +kernel) rfl rfl | exact @HF _ _ OB OC (AB LK) TL (by decide +kernel) (by decide +kernel) rfl rfl | exact @HF _ _ M0 MA (AB J8) Q8 (by decide +kernel) (by decide +kernel) rfl rfl | exact @HF _ _ EV EW (AB CK) FV (by decide +kernel) (by decide +kernel) rfl rfl | exact @HF _ _ FW FX (AB DH) IA (by decide +kernel) (by decide +kernel) rfl rfl | exact @HF _ _ TN TQ (AB O7) TM (by decide +kernel) (by decide +kernel) rfl rfl | exact @HF _ _ TR TU (AB O7) TM (by decide +kernel) (by decide +kernel) rfl rfl | exact @HF _ _ FY DK (AB CG) EH (by decide +kernel) (by decide +kernel) rfl rfl | exact @HF _ _ FZ G0 (AB CG) EH (by decide +kernel) (by decide +kernel) rfl rfl | exact @HF _ _ MB MC (AB J9) Q9 (by decide +kernel) (by decide +kernel) rfl rfl | exact @HF _ _ G1 DN (AB BN) D0 (by decide +kernel) (by decide +kernel) rfl rfl | exact @HF _ _ G2 DO (AB BN) D0 (by decide +kernel) (by decide +kernel) rfl rfl | exact @HF _ _ G3 G4 (AB BN) D0 (by decide +kernel) (by decide +kernel) rfl rfl | exact @HF _ _ JI JJ (AB CZ) EL (by decide +kernel) (by decide +kernel) rfl rfl | exact @HF _ _ JK JL (AB CZ) EL (by decide +kernel) (by decide +kernel) rfl rfl | exact @HF _ _ JM JN (AB CZ) EL (by decide +kernel) (by decide +kernel) rfl rfl)
local macro_rules | `(tactic| walk_at "s")=>`(tactic| first | exists PS _ (.Assign [.Name ..] (.DictComp ..) _) _,@u9 _ _ _ _ _ _ _ _ _ _ _ _ _ _ _ _ _ _ _ rfl dz (by assumption) (S7 (by rfl)) (by walk_at "lc") (by walk_at "cs") (by walk_at "n") (λC s' H' zj vi=>#[(by walk_at "g"),(by walk_at "u"),`jz,`jz]) rfl (by walk_at "or") (by intro _;rfl) | exists PS _ (.Assign [.Name ..] (.ListComp ..) _) _,@vI _ _ _ _ _ _ _ _ _ _ _ _ _ _ _ _ _ rfl (by assumption) (S7 (by rfl)) (by walk_at "lc") (by walk_at "cs") (by walk_at "n") (λC s' H' zj vi=>#[(by walk_at "g"),(by walk_at "u"),`jz]) rfl (by walk_at "or") (by intro _;rfl) | exists PS _ (.Assign [.Name ..] ..) _,@A1q _ _ _ _ _ _ _ (by assumption) (S7 (by rfl)) (by walk_at "lc") `jz (by rfl) (by walk_at "or") | ((with_reducible show PS _ (.If ..) _);first | walk_at "z" | exact @A4I _ _ _ _ _ _ _ _ (by walk_at "t") (by walk_at "q") (by walk_at "q")) | exists PS _ (.Return (ak _) _) _,@A1n _ _ _ _ `jz | ((with_reducible show PS _ (.For ..) _);first | exact @n4 _ _ _ _ _ _ _ _ PassesOwn.never rfl (by walk_at "n") (by walk_at "g") (by walk_at "q") (by intro _;rfl) | exact @n4 _ _ _ _ _ _ _ _ (@dU _ _ rfl rfl) rfl (by walk_at "n") (by walk_at "g") (by walk_at "q") (by intro _;rfl)) | exists PS _ (.Expr ..) _,@uQ _ _ _ _ `jz (by rfl) | ((with_reducible show PS _ (.Raise ..) _);first | exists PS _ (.Raise (ak (.Call _ [_] ..)) ..) _,@z7 P w K mg base _ _ _ _ _ _ _ _ _ _ _ rfl rfl rfl rfl rfl (by with_reducible assumption) (hr.mono `kh) rfl (by walk_at "a") `kh (by rfl) | exists PS _ (.Raise (ak (.Call _ [] ..)) ..) _,@z8 K mg _ _ _ _ _ _ _ _ rfl rfl (by with_reducible assumption) hr.hd rfl `kh) | walk_at "x")
local macro_rules | `(tactic| walk_at "e")=>`(tactic| first | ((with_reducible show PE _ (.Name ..) _);first | exact @pvx _ _ _ _ (by rfl) (by walk_at "lc") (by decide) (by decide) | exact @wC _ _ _ _ (by rfl) (by assumption) (by decide) | exact @wB _ _ _ _ (by rfl) (by assumption) (by decide) | exists "int",PyProof.Rows.boot_int,0,0,0,0 | exists "str",PyProof.Rows.boot_str,0,0,0,0 | exists "bool",PyProof.Rows.boot_bool,0,0,0,0 | exists "list",PyProof.Rows.boot_list,0,0,0,0 | exists "tuple",PyProof.Rows.boot_tuple,0,0,0,0 | exists "dict",PyProof.Rows.boot_dict,0,0,0,0 | exists "ValueError",PyProof.Rows.boot_ValueError,0,0,0,0) | ((with_reducible show PE _ (.ListComp ..) _);first | exists PE _ (.ListComp _ [_,_] ..) _,@tI _ _ _ _ _ _ _ _ _ _ _ _ _ _ _ rfl (by walk_at "cs") (by walk_at "n") (λC s' H' zj vi=>#[(by walk_at "g"),(by walk_at "n"),(by walk_at "g"),`jz]) (by intro _;rfl) (by intro _ _;rfl) | exact @vH _ _ _ _ _ _ _ _ _ _ _ _ _ rfl (by walk_at "cs") (by walk_at "n") (λC s' H' zj vi=>#[(by walk_at "g"),(by walk_at "u"),`jz]) (by intro _;rfl)) | exists PE _ (.DictComp ..) _,@pZ _ _ _ _ _ _ _ _ _ _ _ _ _ _ _ rfl dz (by walk_at "cs") (by walk_at "n") (λC s' H' zj vi=>#[(by walk_at "g"),(by walk_at "u"),`jz,`jz]) (by intro _;rfl) | ((with_reducible show PE _ (.Constant ..) _);first | exists PE _ (.Constant (.int _) ..) _,@A1e _ _ _ _ | exists PE _ (.Constant (.str _) ..) _,@A1g _ _ _ _ | exists PE _ (.Constant (.bool _) ..) _,@A4D _ _ _ _ | exists PE _ (.Constant .none ..) _,@A1f _ _ _) | ((with_reducible show PE _ (.Call ..) _);first | walk_at "y" | exists "len",(@A5W _ K rfl),PySem.boot_len | exists "isinstance",(@A5Z _ K rfl),PyProof.Rows.boot_isinstance | exists "all",(@A5X _ K rfl rfl),PyProof.Rows.boot_all | exists "any",(@A5Y _ K rfl rfl),PyProof.Rows.boot_any | exists "sorted",(@A3E _ K rfl rfl),PyProof.Rows.boot_sorted | exists PE _ (.Call (.Name (a0Q "tuple") _) ..) _,@UQ _ _ _ _ _ _ _ _ _ (@A2x _ K rfl) (by rfl) (by assumption) PyProof.Rows.boot_tuple (by walk_at "a") (by decide) (by decide) (by rfl) (by rfl) | exists PE _ (.Call (.Name ..) ..) _,@A1O _ K P w mg base _ _ _ _ _ _ _ _ _ rfl rfl rfl rfl rfl (by with_reducible assumption) (hr.mono (by decide)) rfl (by walk_at "a") (by decide) (by rfl) (by rfl) | exists PE _ (.Call (.Name ..) ..) _,@A3M P w K mg base _ _ _ _ _ _ _ _ _ _ _ rfl rfl rfl rfl rfl (by with_reducible assumption) (hr.mono (by decide)) rfl (by walk_at "a") (by decide) (by rfl) (by rfl) | exists PE _ (.Call (.Attribute _ (a0Q "append") _) ..) _,@kBm _ K _ _ _ _ _ _ _ _ _ _ _ rfl PySem.F.plainAttrs_list PySem.F.slot_list_append PySem.F.type_list_append (@pI _) (by walk_at "e") (by walk_at "a") (by rfl) (by rfl) (by rfl) (by rfl) (by rfl) | walk_at "x") | ((with_reducible show PE _ (.BinOp ..) _);first | exists .Add,(@A4n _ K rfl),0,0,0 | exists .Sub,(@A1w _),0,0,0 | exists .Mod,(@A1x _),0,0,0 | exists .FloorDiv,(@nT _),0,0,0 | exists .Pow,(@A1y _),0,0,0 | exists .LShift,(@A1z _),0,0,0) | ((with_reducible show PE _ (.Compare ..) _);first | walk_at "y" | exists PE,G8,.Eq,(@kEq _ K rfl hu) | exists PE,G8,.NotEq,(@kNe _ K rfl hu) | exists PE,G8,.Lt,(@oG _) | exists PE,G8,.Is,(@pT _) | exists PE,G8,.IsNot,(@gK _) | exists PE,G8,.Gt,(@A1B _) | exists PE,G8,.GtE,(@A1C _)) | ((with_reducible show PE _ (.Subscript ..) _);first | exists PE _ (.Subscript _ (.Slice _ _ am _) _) _,@nJ _ _ _ _ _ _ _ _ _ _ (@A5a _ K rfl) (by walk_at "e") (by walk_at "o") (by walk_at "o") | walk_at "y" | exact @A4P _ _ _ _ _ _ _ (@kIx _ K rfl) (by walk_at "e") (by walk_at "e") (λ_ _=>rfl)) | exists PE _ (.Tuple ..) _,@nH _ _ _ _ _ (by walk_at "a") | exists PE _ (.List ..) _,@A2F _ _ _ _ (by walk_at "a") | exists PE _ (.IfExp ..) _,@mR _ _ _ _ _ _ _ _ (by walk_at "t") `jz `jz | ((with_reducible show PE _ (.BoolOp ..) _);first | exists PE _ (.BoolOp _ [_] _) _,@A1j _ _ _ _ _ `jz | exists PE _ (.BoolOp .Or ..) _,@A4H _ _ _ _ _ _ _ `jz `jz | exact @A1k _ _ _ _ _ _ _ `jz `jz) | ((with_reducible show PE _ (.UnaryOp ..) _);first | exists PE _ (.UnaryOp .Not ..) _,@A1l _ _ _ _ `jz | exact @A4L _ _ _ _ _ _ (@A2A _) `jz) | walk_at "x")
local macro_rules | `(tactic| walk_at "t")=>`(tactic| first | ((with_reducible show PT _ (.Compare ..) _);first | walk_at "y" | exists PT _ (.Compare _ [.Eq] ..) _,@CQ _ _ _ _ _ _ _ _ (@kEq _ K rfl hu) `jz `jz (@DZ _ _ `kh `kh) | exists PT _ (.Compare _ [.NotEq] ..) _,@CQ _ _ _ _ _ _ _ _ (@kNe _ K rfl hu) `jz `jz (@DZ _ _ `kh `kh) | exists PT _ (.Compare _ [.Lt] ..) _,@CQ _ _ _ _ _ _ _ _ (@oG _) `jz `jz (@DZ _ _ `kh `kh) | exists PT _ (.Compare _ [.Is] ..) _,@CQ _ _ _ _ _ _ _ _ (@pT _) `jz `jz (@DZ _ _ `kh `kh) | exists PT _ (.Compare _ [.IsNot] ..) _,@CQ _ _ _ _ _ _ _ _ (@gK _) `jz `jz (@DZ _ _ `kh `kh) | exists PT _ (.Compare _ [.Gt] ..) _,@CQ _ _ _ _ _ _ _ _ (@A1B _) `jz `jz (@DZ _ _ `kh `kh) | exists PT _ (.Compare _ [.GtE] ..) _,@CQ _ _ _ _ _ _ _ _ (@A1C _) `jz `jz (@DZ _ _ `kh `kh) | walk_at "x") | exists PT _ (.BoolOp ..) _,@L2.PW.pt _ _ _ (by walk_at "w") | exists PT _ (.UnaryOp .Not ..) _,@A1i _ _ _ _ (by walk_at "t") | exact @A1h _ _ _ `jz (by intro _;rfl))
local macro_rules | `(tactic| walk_at "w")=>`(tactic| first | ((with_reducible show PW _ (.BoolOp .Or ..) _);first | exists PW _ (.BoolOp _ [_] _) _,@pw_or1 _ _ _ _ (by walk_at "t") | exact @pw_or _ _ _ _ _ _ _ (by walk_at "t") (by walk_at "w")) | exists PW _ (.BoolOp _ [_] _) _,@pw_and1 _ _ _ _ (by walk_at "t") | exact @pw_and _ _ _ _ _ _ _ (by walk_at "t") (by walk_at "w"))
local macro_rules | `(tactic| walk_at "a")=>`(tactic| first | exists PA _ [] _,@nG _ | exact @W1 _ _ _ _ _ `jz (by walk_at "a") (by rfl))
local macro_rules | `(tactic| walk_at "o")=>`(tactic| first | exists PO _ am _,@uY _ | exact @uZ _ _ _ `jz)
local macro_rules | `(tactic| walk_at "u")=>`(tactic| first | exists PTs _ [] _,@fY _ | exact @vG _ _ _ (by walk_at "t"))
local macro_rules | `(tactic| walk_at "n")=>`(tactic| first | ((with_reducible show PI _ _ (.Call ..) _);first | exists PI _ _ (.Call (.Name (a0Q "range") _) [_] ..) _,@jB _ _ _ _ _ _ rfl (by assumption) (by walk_at "a") (by rfl) | walk_at "x") | walk_at "y" | exact @A4m _ K _ _ _ rfl `jz)
local macro_rules | `(tactic| walk_at "g")=>`(tactic| first | exists PG _ (.Name ..) _,@VW _ _ _ _ (by assumption) (S7 (by rfl)) (by walk_at "lc") (by walk_at "or") | walk_at "x")
local macro_rules | `(tactic| walk_at "j")=>`(tactic| first | exists PGs _ [] _,@uR _ | exact @mV _ _ _ _ _ (by walk_at "g") (by walk_at "j") (by rfl))
local macro_rules | `(tactic| walk_at "b1")=>`(tactic| exact @N3 _ _ _ (by walk_at "s"))
local macro_rules | `(tactic| walk_at "b2")=>`(tactic| exact @QZ _ _ _ _ _ (by walk_at "s") (by walk_at "q"))
local macro_rules | `(tactic| walk_at "dl")=>`(tactic| first
 | (with_reducible first | exists nY | exists rJ | exists nX | exists gB | exists nW | exists A4g | exists gA | exists g9 | exists ds_setitem | exists qK | exists A4x | exists kQ | exists dx_raise0 | refine h8 (HH ?_) | refine dx_set (HH ?_) | refine dW (HH ?_) | refine F4 (nX ?_) | refine F4 (gB ?_) | refine F4 (nW ?_) | refine F4 (gA ?_) | refine F4 (g9 ?_) | refine F4 (ds_setitem ?_) | refine F4 (qK ?_))
 | ((with_reducible apply A2Z);exact rfl)
 | (with_reducible first | exists A2a | exists A4X | exists A2b | exists A2c | exists A4Y | exists A4Z | exists A4a | exists nU | exists vL | exists A5U | exists A2d | exists A4b | exists A2e | exists A2f | exists A2g | exists A4c | exists A2h | exists A4d | exists nV | exists vM | exists A4e | exists A2i | exists A4f | exists vO | exists vP | exists vY | exists oV | exists wH)
 | ((with_reducible refine A2z ?_ ?_);exact rfl)
 | ((with_reducible refine wY ?_ ?_);exact rfl)
 | (with_reducible first | exists A4i | exists A4j | exists A5V | exists oX | exists w8)
 | ((with_reducible refine RI ?_ ?_);(first
     | ((with_reducible show CMul _ _);first | exact p7 `kh `kh | exact WK `kh `kh | exact WK (by lia) (by lia))
     | ((with_reducible show A1L _ _);first | exact#[by decide,by decide] | exact#[by assumption,by assumption])
     | ((with_reducible show A1u _ _);exact#[by decide,by decide,by decide])
     | (show(0:Int) < _;first | decide | assumption | lia)))
 | ((with_reducible apply d2A_ixo);(first | assumption | exact zU);exact rfl)
 | ((with_reducible apply setq);(first | assumption | exact zU);exact rfl)
 | ((with_reducible refine pN ?_ ?_);(first | exact CMul.ok (p7 `kh `kh) | exact CMul.ok (WK `kh `kh)))
 | (with_reducible first | exists d2_isB | exists d2_notB | exists rd_max | exists rd_min | exists rd_intb | exists dgs_item | exists rd_abs)
 | ((with_reducible refine oS (b:=au) ?_ ?_);exact rfl)
 | ((with_reducible refine oS (b:=aB) ?_ ?_);exact rfl)
 | with_reducible exists vN
 | ((with_reducible show D2 _ (RJ _) (.d (.tuple (_::_))) (.d (.int _)) _ _);first | exists A3o | exists A3p | exists A3q | exists A3r | exists A3s)
 | ((with_reducible show D2 _ _ (.d (.str (a0Q _))) (.d (.str (a0Q _))) _ _);first | refine r9 (t:=au) (by decide +kernel) ?_ | refine r9 (t:=aB) (by decide +kernel) ?_)
 | ((with_reducible apply A5c);exact rfl;exact yD rfl)
 | (with_reducible refine Exists.intro _ (And.intro rfl ?_))
 | (with_reducible refine L2.jK ?_)
 | (with_reducible refine L2.nP ?_)
 | (refine L2.jK ?_)
 | (refine L2.nP ?_)
 | walk_at "unf")
local macro_rules | `(tactic| walk_at "unf")=>`(tactic| first | ((with_reducible show DSt _ _ _ _ _);(with_reducible refine A0o (by assumption) ?_)) | ((with_reducible show DXt _ _ _ _ _ _ _);(with_reducible refine A0p (by assumption) ?_)))
local macro_rules | `(tactic| walk_at "hi")=>`(tactic| (intro cdv A outer s H E hr hu dz nd))
local macro_rules | `(tactic| walk_at "hd")=>`(tactic| (walk_at "hi";walk_at "nm";clear nd))
local macro_rules | `(tactic| walk_at "nm")=>`(tactic| first | ((with_reducible show Nm _ [_] _);refine u8 ?_;refine#[_,by walk_at "s", ?_];repeat (intro xx hx;refine#[_,by walk_at "s", ?_])) | (refine A0n ?_;walk_at "nm") | (refine u8 ?_;refine#[_,by walk_at "s", ?_]))
local macro_rules | `(tactic| left)=>`(tactic| repeat walk_at "dl")
local macro_rules | `(tactic| walk_at "wkd")=>`(tactic| repeat (first | walk_at "dl" | exists IE | exists de_dnew))
local macro_rules | `(tactic| walk_at "wks")=>`(tactic| ((repeat ((fail_if_success (with_reducible show DSt _ _ _ _ _));(first | walk_at "dl" | exists IE | exists de_dnew)));(try walk_at "unf")))
section
variable {P:bn}{w:bj}{K:Frg}{mg:Str->Option ap}{base:cc}
def XT:List Str:=["_law_script","_law_k"]
theorem XU (F:Fun K "_law_cell" "_law_cell" KD f T) (c:mg "len"=am):FnOk P w K mg base CX0 1 f T ["_law_script","_law_k"] (spD K 2 NP):=by
 refine hD XT F #[rfl,rfl,rfl,by decide +kernel,rfl,by decide +kernel,by decide +kernel] ?_;walk_at "hd";rintro n M r ⟨e,k,rfl⟩;left;refine KS ?_;left;rw[zX];cases hk:decide ((k:Int) < (e.length:Int)) with
 | true=>
   have t:k < e.length:=by have:=of_decide_eq_true hk;lia
   left;refine AW (d:=.int e[k]) (AJ (by rw[zF,zV t];rfl)) ?_;exact#[M,zT M,rfl,_,rfl]
 | false=> left;exact#[M,zT M,rfl,_,rfl]
def QE:List Str:=["_law_cell_here","_law_size","_law_one","_law_other","_law_found","_law_k","_law_number_here"]
section
theorem QF (F:Fun K "_law_stirred" "_law_stirred" FT f T) (Q:mg "range"=am):FnOk P w K mg base CX0 1 f T ["_law_cell_here","_law_size"] (spD K 2 GK):=by
 refine hD QE F #[rfl,rfl,rfl,by decide +kernel,rfl,by decide +kernel,by decide +kernel] ?_;walk_at "hd";rintro J M S ⟨c,n,rfl,hn⟩;left;refine N9 ?_;left;intro A hA;left;try walk_at "unf"
 refine E2 ?_;refine GB ?_;left;refine#[by lia,by lia,?_];refine#[λk B M1=>∃(r a b:Int) (acc:List Int) (Z O:Option DS),acc.length=k/\okX acc/\0<=a/\a < 2147483629/\0<=b/\b < 2147483549/\M1=M.put A (.l (acc.map .int))/\B=[ak (.d (.int r)),ak (.d (.int n)),ak (.d (.int a)),ak (.d (.int b)),ak (.loc A),Z,O],#[c,_,_,[],_,_,rfl,(λx hx=>nomatch hx),(by lia:0<=c % 2147483579+13),by lia,(by lia:0<=c/1013 % 1999999871+31),by lia,rfl,rfl],?_,?_]
 . rintro k d B M1 hd ⟨r,a,b,acc,Z,O,hk,hok,q,u,y,b1,rfl,rfl⟩;obtain⟨G,rfl⟩:=IQ hd;left;refine pN (CMul.ok (WK (by lia) (by lia))) ?_;left;generalize I:(a*48271+b+43*(k:Int)) % 2147483629=t;have g:0<=t:=by lia
   have X:t < 2147483629:=by lia
   generalize j:(b*39373+7*t+(k:Int)*(k:Int)) % 2147483549=z;have m:0<=z:=by rw[<-j];exact a7V _ `kh
   have p:z < 2147483549:=by rw[<-j];exact b1J _ `kh
   cases hc:decide ((10:Int) ^ Int.toNat 18<=r) with
   | true=>
     left;refine PU ?_;walk_at "dl";refine#[IF (ds:=acc.map .int) zU,?_];left;refine EB (ds:=acc.map .int) zU (by rw[zX];exact zP (show _ < 201 by lia) `kh) ?_;rw[yI,show(10:Int) ^ Int.toNat 9=1000000000 by decide];refine#[_,t,z,acc++[r % 1000000000],_,_,by rw[yY,hk];rfl,λv N=>?_,g,X,m,p,by rw[xI];rfl,rfl];rcases yW.mp N with h | h;. exact hok v h
     . rw[List.mem_singleton.mp h];lia
   | false=>
     left;refine PU ?_;walk_at "dl";refine#[IF (ds:=acc.map .int) zU,?_];left;refine EB (ds:=acc.map .int) zU (by rw[zX];exact zP (show _ < 201 by lia) `kh) ?_;rw[yI];refine#[_,t,z,acc++[(t+13*z) % 999999883],_,_,by rw[yY,hk];rfl,λv N=>?_,g,X,m,p,by rw[xI];rfl,rfl];rcases yW.mp N with h | h;. exact hok v h
     . rw[List.mem_singleton.mp h];lia
 . rintro B M1 ⟨r,a,b,acc,Z,O,hk,hok,q,u,y,b1,rfl,rfl⟩;rw[HJ] at hk;try walk_at "unf"
   refine F8 (i:=4) (a:=A) rfl zU ?_;rw[yG hA];left;refine#[M,zT M,λY D e=>#[rfl,acc,rfl,?_,hok]];simp only[List.cons.injEq,DS.d.injEq,PyData.int.injEq,and_true] at e;lia
end
def LY:List Str:=["_law_xs","_law_at","_law_size","_law_letters","_law_word","_law_x","_law_found","_law_k","_law_name","_law_first"]
def JG:List Str:=["_law_k","_law_letters","_law_xs","_law_at"]
def JH:List (Option Nat):=[am,ak 3,ak 0,ak 1]
section
theorem U9 (F:Fun K "_law_names" "_law_names" F7 f T) (Q:mg "range"=am):FnOk P w K mg base CX0 1 f T ["_law_xs","_law_at","_law_size"] (spD K 3 L1):=by
 refine hD LY F #[rfl,rfl,rfl,by decide +kernel,rfl,by decide +kernel,by decide +kernel] ?_;walk_at "hi";have G:JG.Nodup:=by decide +kernel
 walk_at "nm";clear G nd;rintro J M N ⟨L,a,n,rfl,hL,z,hn,S⟩;unfold nxX;have O:(L.map b8J)[a]?=ak (.int L[a]):=by rw[zF,zV (by lia)];rfl
 have r:(L.map b8J)[a+1]?=ak (.int L[a+1]):=by rw[zF,zV (by lia)];rfl
 have p:=hL _ (a1V (l:=L) (n:=a) (by lia));have b:=hL _ (a1V (l:=L) (n:=a+1) (by lia));generalize L[a]=u at O p;generalize L[a+1]=x at r b;left;refine PU ?_;walk_at "dl";refine#[gC,?_];walk_at "dl";refine BO (B0 0) (by simp[JH]) ?_;refine GB ?_;left;refine#[by decide,by decide,?_];refine#[by decide,λ_=>au,A4y u,?_,?_];. intro d hd v;obtain⟨k,hk,rfl⟩:=ZU (n:=8) hd;walk_at "dl";refine#[rfl,?_];walk_at "dl";refine#[rfl,rfl,λ_=>?_];left;refine AW (AJ O) ?_;left;refine RI #[by lia,by lia] ?_;left;refine gF (by rw[PV];decide) (rR _) ?_;exact#[rfl,rfl]
 have g:((GA 0 (Int.toNat 8)).filter λ_=>au).map (A4y u)=((IR u).map λc=>(#[(y9 [c])]:Str)).map .str:=rfl;rw[g];left;refine vW (by rw[UY,MN];show 8+_*0<=_;lia) ?_;rw[dA,show(#[(IR u).toArray]:Str)=z18 u from rfl];left;refine AW (AJ (j:=a+1) r) ?_;left;refine N9 ?_;left;intro A hA;left;try walk_at "unf"
 refine E2 ?_;refine GB ?_;left;refine#[by lia,by lia,?_];refine#[λk B M1=>M1=M.put A (.l (((a1X k).map (HK u x)).map .str))/\∃x7 x8 x9:Option DS,B=[ak (.d (.list (L.map .int))),ak (.d (.int a)),ak (.d (.int n)),ak (.d (.str (a0Q "abcdefghijklmnopqrstuvwxyz"))),ak (.d (.str (z18 u))),ak (.d (.int x)),ak (.loc A),x7,x8,x9],#[rfl,_,_,_,rfl],?_,?_]
 . rintro k d B M1 hd ⟨rfl,x7,x8,x9,rfl⟩;obtain⟨D,rfl⟩:=IQ hd;left;refine YV (by rw[SD];decide) ?_;left;refine B2 rfl rfl ?_;rw[if_neg nft,NO];have h:∀m:Int,(b1V (z18 u) am (ak m)).length<=8:=λm=>jR _ _ _ (by rw[SD];exact zR _);have fin:∀{x7 x8 x9:Option DS},(M.put A (.l ((((a1X k).map (HK u x)).map .str)++[.str (HK u x k)])))=M.put A (.l (((a1X (k+1)).map (HK u x)).map .str)):=λ{_ _ _}=>by rw[b3J,xI,xI];rfl
   cases hc:decide (x/8 % 2=0) with
   | true=> have t:=of_decide_eq_true hc;left;refine gF (by rw[PV];decide) (rR _) ?_;left;refine YV (by rw[SD];decide) ?_;left;refine oY (by have:=h (x/16 % 8);exact zN (show _<=9 by show 1+_<=9;lia) `kh) ?_;rw[show(#[(y9 [LS (x/16+(k:Int))])]:Str)++b1V (z18 u) am (ak (x/16 % 8))=HK u x k by unfold HK;rw[if_pos t]];left;refine PU ?_;walk_at "dl";refine#[IF (ds:=((a1X k).map (HK u x)).map .str) zU,?_];left;refine EB (ds:=((a1X k).map (HK u x)).map .str) zU (by simp only[zX,xY];exact zP (show k < 7 by lia) `kh) ?_;rw[yI];exact#[fin (x7:=am) (x8:=am) (x9:=am),_,_,_,rfl]
   | false=> have t:=of_decide_eq_false hc;rw[show b1V (z18 u) am (ak (1+(x+(k:Int)) % 8))=HK u x k by unfold HK;rw[if_neg t]];left;refine PU ?_;walk_at "dl";refine#[IF (ds:=((a1X k).map (HK u x)).map .str) zU,?_];left;refine EB (ds:=((a1X k).map (HK u x)).map .str) zU (by simp only[zX,xY];exact zP (show k < 7 by lia) `kh) ?_;rw[yI];exact#[fin (x7:=am) (x8:=am) (x9:=am),_,_,_,rfl]
 . rintro B M1 ⟨rfl,x7,x8,x9,rfl⟩;rw[HJ];try walk_at "unf"
   refine F8 (i:=6) (a:=A) rfl zU ?_;rw[yG hA];left;refine#[M,zT M,λq y I e=>#[rfl,_,rfl,zS u x hn,?_]];simp only[nxX,List.cons.injEq,DS.d.injEq,PyData.int.injEq,and_true] at e;rw[zX,xY];lia
end
def UA:List Str:=["_law_x"]
theorem UB (F:Fun K "_law_place" "_law_place" J0 f T):FnOk P w K mg base CX0 1 f T ["_law_x"] (spD K 1 HL):=by
 refine hD UA F #[rfl,rfl,rfl,by decide +kernel,rfl,by decide +kernel,by decide +kernel] ?_;walk_at "hd";rintro t M r ⟨x,rfl,I,h1⟩;walk_at "wkd";obtain h | h | h:x % 3=0\/x % 3=1\/x % 3=2:=by lia
 all_goals
   rw[h];refine AW rfl ?_;exact#[M,zT M,rfl,_,rfl,by lia,by lia]
def TD:List Str:=["_law_x"]
section
theorem TF (F:Fun K "_law_number" "_law_number" GR f T):FnOk P w K mg base CX0 1 f T ["_law_x"] (spD K 1 FK):=by
 refine hD TD F #[rfl,rfl,rfl,by decide +kernel,rfl,by decide +kernel,by decide +kernel] ?_;walk_at "hd";rintro t M r ⟨x,rfl,I,h1⟩;walk_at "wkd";rw[show(10:Int) ^ Int.toNat 6=1000000 by decide,show(10:Int) ^ Int.toNat 8=100000000 by decide];obtain h | h | h | h:x % 4=0\/x % 4=1\/x % 4=2\/x % 4=3:=by lia
 all_goals
   rw[h];refine AW rfl ?_;exact#[M,zT M,rfl,_,rfl,by lia,by lia]
end
def XV:List Str:=["_law_some","_law_x"]
theorem XW (F:Fun K "_law_pick" "_law_pick" KF f T) (c:mg "len"=am):FnOk P w K mg base CX0 1 f T ["_law_some","_law_x"] (spD K 2 NR):=by
 refine hD XV F #[rfl,rfl,rfl,by decide +kernel,rfl,by decide +kernel,by decide +kernel] ?_;walk_at "hd";rintro t M r ⟨ys,x,rfl,h,m⟩;rw[show CA ys = .list (ys.map .str) from rfl];have i:0 < ys.length:=List.length_pos_iff.mpr h;left;refine KS ?_;rw[zX];have hp2:(0:Int) < (ys.length:Int):=by lia
 left;obtain⟨z,j,g⟩:=gR (ys:=ys) (v:=x % (ys.length:Int)) (a7V _ (by lia)) (b1J _ hp2);refine AW j ?_;refine#[M,zT M,λO n e=>#[rfl,z,rfl,?_]];simp only[CA,List.cons.injEq,DS.d.injEq,PyData.list.injEq,and_true] at e;rw[<-JW e.1];exact g
def UC:List Str:=["_law_xs","_law_at","_law_names_here","_law_found","_law_k"]
theorem UD (F:Fun K "_law_world" "_law_world" J2 f T) (be:mg "len"=am) (aj:mg "range"=am) (ax:mg "sorted"=am) (aq:mg "tuple"=am) (ba:Has P w K mg base "_law_number" 1 ["_law_x"] FK) (bi:Has P w K mg base "_law_place" 1 ["_law_x"] HL):FnOk P w K mg base CX0 2 f T ["_law_xs","_law_at","_law_names_here"] (spD K 3 L4):=by
 refine hD UC F #[rfl,rfl,rfl,by decide +kernel,rfl,by decide +kernel,by decide +kernel] ?_;walk_at "hd";rintro xs M hl ⟨L,a,p,rfl,hL,ha,oi,hn,h6⟩;unfold SG;have m:∀i,i < L.length->(L.map b8J)[i]?=ak (.int (L.getD i 0)):=λi hi=>by rw[zF,yU,zV hi];rfl
 have hx:∀i,i < L.length->0<=L.getD i 0/\L.getD i 0 < 1000000000:=λi hi=>by rw[yU,zV hi];exact hL _ (a1V hi)
 left;refine N9 ?_;left;intro A hA;left;try walk_at "unf"
 refine E2 ?_;refine GB ?_;left;refine KS ?_;rw[zX];left;refine#[by lia,by lia,?_];refine#[λk B M1=>k<=p.length/\∃(w:List Th) (r:Option DS),(w.map (·.1)).Sublist (p.take k)/\(∀t∈w,0<=t.2.1/\t.2.1<=999/\-1000000000000<=t.2.2/\t.2.2<=1000000000000)/\M1=M.put A (.l (w.map thD))/\B=[ak (.d (.list (L.map .int))),ak (.d (.int a)),ak (.d (CA p)),ak (.loc A),r],#[xT _,[],_,List.nil_sublist _,(λt n=>nomatch n),rfl,rfl],?_,?_]
 . rintro k d B M1 hd ⟨hk,w,r,Y,hb,rfl,rfl⟩;obtain⟨g,rfl⟩:=IQ hd;have c:w.length<=6:=by have:=Y.length_le;rw[zX,a0K] at this;lia
   have u:(p.map a0Z)[k]?=ak (.str p[k]):=by rw[zF,zV g];rfl
   have htk:p.take (k+1)=p.take k++[p[k]]:=by rw[a2Q,zV g];rfl
   left;refine AW (AJ (m a (by lia))) ?_;left;refine RI #[by lia,by lia] ?_;obtain⟨b,D,Z,N⟩:∃b:Int,0 < b/\b < 2 ^ 64/\(1:Int)*2 ^ ((k:Int).toNat)=b:=by
     rw[a7W];have x:k < 6:=by lia
     match k,x with
     | 0,_=>exact#[_,by decide,by decide,rfl]
     | 1,_=>exact#[_,by decide,by decide,rfl]
     | 2,_=>exact#[_,by decide,by decide,rfl]
     | 3,_=>exact#[_,by decide,by decide,rfl]
     | 4,_=>exact#[_,by decide,by decide,rfl]
     | 5,_=>exact#[_,by decide,by decide,rfl]
   rw[N];refine RI #[D,Z] ?_;left;refine B2 rfl rfl ?_;rw[if_neg nft,NO];cases decide (L.getD a 0/b % 2=1) with
   | false=> left;exact#[by lia,w,_,Y.trans (by rw[htk];exact List.sublist_append_left _ _),hb,rfl,rfl]
   | true=>
     left;refine PU ?_;walk_at "dl";refine#[IF (ds:=w.map thD) zU,?_];left;refine AW (AJ u) ?_;left;refine AW (AJ (j:=a+1+k) (m _ (by lia))) ?_;left;refine NQ (hx _ (by lia)) λU O I=>?_;left;refine AW (AJ (j:=a+1+k) (m _ (by lia))) ?_;left;refine LU (by have:=hx (a+1+k) (by lia);lia) λX S G=>?_;left;refine EB (ds:=w.map thD) zU (by rw[zX];exact zQ c `kh) ?_;rw[yI];refine#[by lia,w++[(p[k],U,X)],_,by rw[xI,htk];exact List.Sublist.append Y (List.Sublist.refl _),λt n=>?_,by rw[xI];rfl,rfl];rcases yW.mp n with h | h;. exact hb t h
     . rw[List.mem_singleton.mp h];exact#[O,I,S,G]
 . rintro B M1 ⟨hk,w,r,Y,hb,rfl,rfl⟩;rw[HJ,a1Q] at Y;have v:(w.map (·.1)).Nodup:=hn.2.1.sublist Y;have c:w.length<=6:=by have:=Y.length_le;rw[zX] at this;lia
   try walk_at "unf"
   refine F8 (i:=3) (a:=A) rfl zU ?_;rw[yG hA];left;rw[<-qY];refine qG (by rw[zD];exact v) (by rw[zX];lia) λz hp y=>?_;obtain⟨q,J,Q⟩:=qZ hp;rw[J];left;refine KU ?_;refine#[M,zT _,λL' a' b_ e=>#[rfl,z.map unB,rfl,#[by rw[Q];exact dR y,λt n=>?_],λt n=>?_]];. have n:=q.mem_iff.mp n;exact#[hn.1 _ (Y.subset (zL.mpr #[t,n,rfl])),hb t n]
   . have n:=q.mem_iff.mp n;simp only[SG,List.cons.injEq,DS.d.injEq,and_true] at e;rw[<-NK e.2.2];exact Y.subset (zL.mpr #[t,n,rfl])
def UE:List Str:=["_law_world_here","_law_found","_law_name","_law_place_here","_law_count"]
section
local macro_rules | `(tactic| walk_at "x")=>`(tactic| first | exists PG _ (.Tuple ..) _,@jO _ K _ _ _ _ (3) rfl rfl (by walk_at "j") (by rfl) (by rfl))
theorem UF (F:Fun K "_law_there" "_law_there" J3 f T):FnOk P w K mg base CX0 1 f T ["_law_world_here"] (spD K 1 L5):=by
 refine hD UE F #[rfl,rfl,rfl,by decide +kernel,rfl,by decide +kernel,by decide +kernel] ?_;walk_at "hd";rintro g M c ⟨w,rfl,m,b⟩;left;refine SB λp hp=>?_;left;try walk_at "unf"
 refine E2 ?_;refine BP ?_;left;refine#[λk B M1=>k<=w.length/\M1=M.put p (tsO (w.take k))/\∃n Y i:Option DS,B=[ak (.d (wD w)),ak (.loc p),n,Y,i],#[xT _,rfl,_,_,_,rfl],?_,?_]
 . rintro k d B M1 hd ⟨hk,rfl,n,Y,i,rfl⟩;have r:k < w.length:=by have:=(yT.mp hd).1;rw[zX] at this;exact this
   obtain rfl:thD w[k]=d:=by rw[zF,zV r] at hd;simpa using hd
   generalize hwk:w[k]=t;rw[thD];left;refine BG ?_;left;refine#[p,tsD (w.take k),t.1,pcD t.2.1 t.2.2,rfl,rfl,rfl,zU,CV (by rw[a0K];lia),?_];rw[yI,C8];refine#[by lia,?_,_,_,_,rfl];rw[rV m (by rw[zV r,hwk])]
 . rintro B M1 ⟨hk,rfl,n,Y,i,rfl⟩;rw[zX,a1Q];left;refine#[_,zT _,λh e=>?_];simp only[List.cons.injEq,DS.d.injEq,and_true] at e;rw[<-OU e];exact#[p,hp,rfl,rfl]
end
def TH:List Str:=["_law_deed_here"]
theorem TJ (F:Fun K "_law_wanted" "_law_wanted" GS f T):FnOk P w K mg base CX0 1 f T ["_law_deed_here"] (spD K 1 EQ):=by
 refine hD TH F #[rfl,rfl,rfl,by decide +kernel,rfl,by decide +kernel,by decide +kernel] ?_;walk_at "hd";rintro m M r ⟨D,rfl,hr⟩;have t:=hr.2.1;have fin:∀{y:DS}{ms:List Str},D.must=ms->y = .d (CA ms)->∃k:Own,k.Sub M/\EQ.post [.d D.d] M y k:=λj g=>#[M,zT M,λi e=>by simp only[List.cons.injEq,DS.d.injEq,and_true] at e;obtain rfl:=BW e;rw[j];exact#[g,rfl]]
 rw[D.d_eq] at *;left;refine B2 D.word_ok (by decide +kernel) ?_;rw[if_neg nft,BQ];cases h1:(D.word==a0Q "put") with
 | true=>
   left;refine IE ?_;left;cases D <;> first | (exfalso;simp only[Deed.word] at h1;revert h1;decide +kernel) | skip
   exact fin (ms:=[]) (by simp[Deed.must,Deed.names,Deed.made,Deed.fst,Deed.rest]) rfl
 | false=>
   left;refine B2 D.word_ok (by decide +kernel) ?_;rw[if_neg nft,BQ];cases n:(D.word==a0Q "join") with
   | true=>
     left;refine IE ?_;left;cases D <;> first | (exfalso;simp only[Deed.word] at n;revert n;decide +kernel) | skip
     refine AM (d:=_) rfl ?_;left;exact fin (ms:=[_,_]) (by simp[Deed.must,Deed.names,Deed.made,Deed.fst,Deed.rest]) rfl
   | false=>
     left;refine IE ?_;left;cases D <;> first | (exfalso;simp only[Deed.word] at h1;revert h1;decide +kernel) | (exfalso;simp only[Deed.word] at n;revert n;decide +kernel) | skip
     all_goals
       left;exact fin (ms:=[_]) (by first | (simp[Deed.must,Deed.names,Deed.made,Deed.fst,Deed.rest];done) | (simp[Deed.must,Deed.names,Deed.made,Deed.fst,Deed.rest,a4Q t];done)) rfl
def XX:List Str:=["_law_deed_here"]
section
local macro_rules | `(tactic| walk_at "x")=>`(tactic| first | exists PT _ (.Compare _ [.In] ..) _,@CQ _ _ _ _ _ _ _ _ (@kIn _ K rfl) `jz `jz (by with_unfolding_all rfl))
theorem XY (F:Fun K "_law_made" "_law_made" KG f T):FnOk P w K mg base CX0 1 f T ["_law_deed_here"] (spD K 1 K2):=by
 refine hD XX F #[rfl,rfl,rfl,by decide +kernel,rfl,by decide +kernel,by decide +kernel] ?_;walk_at "hd";rintro i M r ⟨D,rfl,hr⟩;have fin:∀{l:List Str},D.made.toList=l->∃k:Own,k.Sub M/\K2.post [.d D.d] M (.d (CA l)) k:=λg=>#[M,zT M,λt e=>by simp only[List.cons.injEq,DS.d.injEq,and_true] at e;obtain rfl:=BW e;rw[g];exact#[rfl,rfl]]
 rw[D.d_eq] at *;left;refine B2 D.word_ok (by decide +kernel) ?_;rw[if_neg nft,BQ];cases h1:(D.word==a0Q "put") with
 | true=>
   left;refine IE ?_;left;cases D <;> first | (exfalso;simp only[Deed.word] at h1;revert h1;decide +kernel) | skip
   exact fin (l:=[_]) rfl
 | false=>
   left;walk_at "wkd";refine WG (ys:=[a0Q "name", a0Q "split"]) ?_;rw[show decide (D.word∈[a0Q "name", a0Q "split"])=(D.word==a0Q "name" || D.word==a0Q "split") by rw[a1K];simp];cases n:(D.word==a0Q "name" || D.word==a0Q "split") with
   | true=>
     left;refine IE ?_;left;cases D <;> first | (exfalso;simp only[Deed.word] at n;revert n;decide +kernel) | skip
     all_goals
       left;exact fin (l:=[_]) rfl
   | false=> walk_at "wkd";cases D <;> first | (exfalso;simp only[Deed.word] at h1;revert h1;decide +kernel) | (exfalso;simp only[Deed.word] at n;revert n;decide +kernel) | exact fin (l:=[]) rfl
end
def Q7:List Str:=["_law_there_here","_law_deed_here"]
def LZ:List Str:=["_law_name","_law_there_here"]
def GV:List (Option Nat):=[am,ak 0]
section
local macro_rules | `(tactic| walk_at "x")=>`(tactic| first | exists PE _ (.Compare _ [.In] ..) _,@mQ _ _ _ _ _ _ (@OH _ _ _ _ _ dz `jz `jz) (by with_unfolding_all rfl))
theorem bT (F:Fun K "_law_can" "_law_can" J5 f T) (v:mg "all"=am) (Y:mg "any"=am) (Z:Has P w K mg base "_law_made" 1 ["_law_deed_here"] K2) (q:Has P w K mg base "_law_wanted" 1 ["_law_deed_here"] EQ):FnOk P w K mg base CX0 2 f T ["_law_there_here","_law_deed_here"] (spD K 2 IW):=by
 refine hD Q7 F #[rfl,rfl,rfl,by decide +kernel,rfl,by decide +kernel,by decide +kernel] ?_;walk_at "hi";have c:LZ.Nodup:=by decide +kernel
 walk_at "nm";clear c nd;rintro S M N ⟨y,w,D,rfl,m,hr⟩;unfold tdW;have t:∀l:List Str,l.length<=2->(l.map a0Z).length < sizeLine:=λl h=>by rw[zX];exact zQ h `kh
 have i:D.must.length<=2:=zN (yJ _ _) (by cases D <;> simp[Deed.names]);have G:D.made.toList.length<=2:=by cases D.made <;> simp
 have x:∀(z:Str),(B3 (tsD w) z).isSome=decide (z∈w.map (·.1)):=λz=>by rw[AL,a3Q,a1K,decide_eq_true_iff,AU]
 left;refine B7 (B0 0) (by simp[GV]) ?_;refine CN ?_;left;refine kW hr ?_;refine#[_,rfl,?_];refine#[t _ i,λ_=>au,inT (w.map (·.1)),?_,?_];. rintro d hd A acc r hA rfl;obtain⟨z,u,rfl⟩:=zL.mp hd;walk_at "dl";refine#[rfl,?_];walk_at "dl";refine#[rfl,rfl,λ_=>?_];refine iG ?_;left;refine#[tsD w,z,m.put hA,rfl,?_];rw[x];exact#[rfl,rfl]
 rw[QC,ZX];left;refine WH ?_;left;have fin:∀{b:Bool},b=decide (AE (w.map (·.1)) D=am)->∃k:Own,k.Sub M/\IW.post (tdW y D) M (.d (.bool b)) k:=λ{b} e=>#[M,zT M,λO I j e' p _=>by simp only[tdW,List.cons.injEq,DS.d.injEq,and_true] at e';obtain⟨rfl,g⟩:=e';obtain rfl:=BW g;obtain rfl:=m.inj p;rw[e];exact#[rfl,rfl]]
 rw[A4z] at fin;cases n:(D.must.map λz=>decide (z∈w.map (·.1))).all id with
 | false=> left;exact fin (by rw[n];rfl)
 | true=>
   left;refine B7 (B0 0) (by simp[GV]) ?_;refine CN ?_;left;refine a9 hr ?_;refine#[_,rfl,?_];refine#[t _ G,λ_=>au,inT (w.map (·.1)),?_,?_];. rintro d hd A acc r hA rfl;obtain⟨z,u,rfl⟩:=zL.mp hd;walk_at "dl";refine#[rfl,?_];walk_at "dl";refine#[rfl,rfl,λ_=>?_];refine iG ?_;left;refine#[tsD w,z,m.put hA,rfl,?_];rw[x];exact#[rfl,rfl]
   rw[QC,ZX];left;refine A2w ?_;left;exact fin (by rw[n];rfl)
end
def XZ:List Str:=["_law_there_here","_law_deed_here","_law_found","_law_word","_law_name"]
section
local macro_rules | `(tactic| walk_at "y")=>`(tactic| first | exists PE _ (.Call (.Name (a0Q "dict") _) ..) _,@UQ _ _ _ _ _ _ _ _ _ (@A3R _ K rfl) (by rfl) ma PyProof.Rows.boot_dict (by walk_at "a") (by decide) (by decide) (by rfl) (by rfl) | exists PE _ (.Subscript ..) _,@CS _ _ _ _ _ _ dz (@pv _ 0 _ _ (by rfl) (by walk_at "lc") (by decide) (by decide)) (@pv _ 4 _ _ (by rfl) (by walk_at "lc") (by decide) (by decide)) (λ_ _=>rfl) | exists PE _ (.Subscript ..) _,@CS _ _ _ _ _ _ dz (@pv _ 0 _ _ (by rfl) (by walk_at "lc") (by decide) (by decide)) (by walk_at "e") (λ_ _=>rfl))
theorem Y0 (F:Fun K "_law_step" "_law_step" KH f T) (ma:mg "dict"=am):FnOk P w K mg base CX0 1 f T ["_law_there_here","_law_deed_here"] (spD K 2 FP):=by
 refine hD XZ F #[rfl,rfl,rfl,by decide +kernel,rfl,by decide +kernel,by decide +kernel] ?_;walk_at "hd";rintro S M z ⟨r,w,D,rfl,m,hg,j⟩;unfold tdW;have fin:∀{w2:List Th}{q:Addr}{hq:M q=am},doT w D=w2->∃i:Own,i.Sub (M.put q (tsO w2))/\FP.post (tdW r D) M (.loc q) i:=λ{w2 q hq} e=>#[_,zT _,λO I h e' b=>by simp only[tdW,List.cons.injEq,DS.d.injEq,and_true] at e';obtain⟨rfl,g⟩:=e';obtain rfl:=BW g;obtain rfl:=m.inj b;rw[<-e];exact#[q,hq,rfl,rfl]]
 left;refine sU m λq hq=>?_;have fin:=λ(w2:List Th)=>fin (w2:=w2) (q:=q) (hq:=hq);have t:∀o:MO,isTD (M.put q o) r (tsD w):=λo=>m.put hq;cases D with
 | put x Y k=> rw[Deed.d];left;refine BG ?_;left;refine#[q,tsD (w),x,pcD (Y) (k),rfl,rfl,rfl,zU,CV (by lia),?_];rw[yI,C8];left;exact fin _ rfl
 | take x=> rw[Deed.d];obtain⟨v,N⟩:=here hg (n:=x) `jj (by simp[Deed.made]);left;refine QO ?_;left;refine#[q,tsD (w),rfl,zU,?_];left;refine#[tsD (w),x,pcD v.1 v.2,rfl,zU,by rw[AL,N];rfl,?_];rw[yI,HE];left;exact fin _ rfl
 | move x Y=> rw[Deed.d];obtain⟨v,N⟩:=here hg (n:=x) `jj (by simp[Deed.made]);left;refine BG ?_;left;refine ET ?_;left;refine#[tsD w,x,pcD v.1 v.2,t _,rfl,by rw[AL,N];rfl,?_];rw[pcD];left;refine#[q,tsD (w),x,pcD (Y) (v.2),rfl,rfl,rfl,zU,CV (by lia),?_];rw[yI,C8];left;exact fin _ (by simp only[doT,N])
 | count x k=> rw[Deed.d];obtain⟨v,N⟩:=here hg (n:=x) `jj (by simp[Deed.made]);left;refine BG ?_;left;refine ET ?_;left;refine#[tsD w,x,pcD v.1 v.2,t _,rfl,by rw[AL,N];rfl,?_];rw[pcD];left;refine ET ?_;left;refine#[tsD w,x,pcD v.1 v.2,t _,rfl,by rw[AL,N];rfl,?_];rw[pcD];left;refine#[q,tsD (w),x,pcD (v.1) (v.2+k),rfl,rfl,rfl,zU,CV (by lia),?_];rw[yI,C8];left;exact fin _ (by simp only[doT,IK,N])
 | name x y=> rw[Deed.d];obtain⟨v,N⟩:=here hg (n:=x) `jj (by simp only[Deed.made,ne_eq,Option.some.injEq];exact a4Q hg.2.1.2.1);left;refine BG ?_;refine QO ?_;left;refine#[q,tsD (w),rfl,zU,?_];left;refine#[tsD (w),x,pcD v.1 v.2,rfl,zU,by rw[AL,N];rfl,?_];rw[yI,HE];left;refine#[q,tsD (DQ w x),y,pcD (v.1) (v.2),rfl,rfl,rfl,zU,CV (zQ (yJ _ _) (by lia)),?_];rw[yI,C8];left;exact fin _ (by simp only[doT,N])
 | split x y Y k=> rw[Deed.d];obtain⟨v,N⟩:=here hg (n:=x) `jj (by simp only[Deed.made,ne_eq,Option.some.injEq];exact a4Q hg.2.1.2.1);left;refine BG ?_;left;refine ET ?_;left;refine#[tsD w,x,pcD v.1 v.2,t _,rfl,by rw[AL,N];rfl,?_];rw[pcD];left;refine ET ?_;left;refine#[tsD w,x,pcD v.1 v.2,t _,rfl,by rw[AL,N];rfl,?_];rw[pcD];left;refine#[q,tsD (w),x,pcD (v.1) (v.2 - k),rfl,rfl,rfl,zU,CV (by lia),?_];rw[yI,C8];left;refine BG ?_;left;refine#[q,tsD (CL w x v.1 (v.2 - k)),y,pcD (Y) (k),rfl,rfl,rfl,zU,CV (by have:=kZ (ts:=w) (x:=x) (p:=v.1) (c:=v.2 - k);lia),?_];rw[yI,C8];left;exact fin _ (by simp only[doT,IK,N,Int.sub_eq_add_neg])
 | join x y=> rw[Deed.d];obtain⟨v,N⟩:=here hg (n:=x) `jj (by simp[Deed.made]);obtain⟨u,hu⟩:=here hg (n:=y) `jj (by simp[Deed.made]);left;refine BG ?_;left;refine ET ?_;left;refine#[tsD w,x,pcD v.1 v.2,t _,rfl,by rw[AL,N];rfl,?_];rw[pcD];left;refine ET ?_;left;refine#[tsD w,x,pcD v.1 v.2,t _,rfl,by rw[AL,N];rfl,?_];rw[pcD];left;refine ET ?_;left;refine#[tsD w,y,pcD u.1 u.2,t _,rfl,by rw[AL,hu];rfl,?_];rw[pcD];left;refine#[q,tsD (w),x,pcD (v.1) (v.2+u.2),rfl,rfl,rfl,zU,CV (by lia),?_];rw[yI,C8];left;refine QO ?_;left;refine#[q,tsD (CL w x v.1 (v.2+u.2)),rfl,zU,?_];left;refine#[tsD (CL w x v.1 (v.2+u.2)),y,pcD u.1 u.2,rfl,zU,by rw[AL,ZY (a4Q hg.2.1.2.1),hu];rfl,?_];rw[yI,HE];left;exact fin _ (by simp only[doT,IK,N,hu])
end
def JA:List Str:=["_law_xs","_law_at","_law_names_here","_law_there_here","_law_standing","_law_others","_law_word","_law_one","_law_place_here","_law_number_here","_law_second"]
def KM:List Str:=["_law_name","_law_there_here"]
def FU:List (Option Nat):=[am,ak 3]
def KN:List Str:=["_law_name","_law_one"]
def KO:List (Option Nat):=[am,ak 7]
section
local macro_rules | `(tactic| walk_at "x")=>`(tactic| first | exists PT _ (.Compare _ [.In] ..) _,@OE _ _ _ _ _ _ (@OH _ _ _ _ _ dz `jz `jz) (by with_unfolding_all rfl) | exists PT _ (.Compare _ [.NotIn] ..) _,@OE _ _ _ _ _ _ (@UT _ _ _ _ _ dz `jz `jz) (by with_unfolding_all rfl))
theorem Y1 (F:Fun K "_law_deed" "_law_deed" EU f fd) (ba:Has P w K mg base "_law_number" 1 ["_law_x"] FK) (gw:Has P w K mg base "_law_pick" 1 ["_law_some","_law_x"] NR) (bi:Has P w K mg base "_law_place" 1 ["_law_x"] HL):FnOk P w K mg base CX0 2 f fd ["_law_xs","_law_at","_law_names_here","_law_there_here"] (spD K 4 KC):=by
 refine hD JA F #[rfl,rfl,rfl,by decide +kernel,rfl,by decide +kernel,by decide +kernel] ?_;walk_at "hi";have n0:KM.Nodup:=by decide +kernel
 have n1:KN.Nodup:=by decide +kernel
 walk_at "nm";clear n0 n1 nd;rintro xs M hl ⟨L,a,ys,p,w,rfl,hL,ha,oi,hn,m⟩;have h6:=hn.few;have b:∀i,i < L.length->(L.map b8J)[i]?=ak (.int (L.getD i 0)):=λi hi=>by rw[zF,yU,zV hi];rfl
 have hx:∀i,i < L.length->0<=L.getD i 0/\L.getD i 0 < 1000000000:=λi hi=>by rw[yU,zV hi];exact hL _ (a1V hi)
 have fin:∀{D:Deed},deed18 ys D->∃k:Own,k.Sub M/\KC.post (ddX L a ys p) M (.d D.d) k:=λ{D} h=>#[M,zT M,λL' a' b_ p' e=>#[rfl,D,rfl,by
   simp only[ddX,List.cons.injEq,DS.d.injEq,and_true] at e;rw[<-NK e.2.2.1];exact h]]
 have v:∀z∈ys,zH (.str z)=true:=λz u=>C7 (hn.1 z u);rw[show ddX L a ys p=[.d (.list (L.map .int)),.d (.int a),.d (CA ys),.loc p] from rfl];have N:(ys.map a0Z).length < sizeLine:=by rw[zX];exact zQ h6 `kh
 left;refine B7 (B0 0) (by simp[FU]) ?_;refine CN ?_;left;refine#[N,stT (w.map (·.1)),id,?_,?_]
 . rintro d hd A acc M' hA rfl;obtain⟨z,u,rfl⟩:=zL.mp hd;have U:p≠A:=by rintro rfl;rw[m] at hA;cases hA
   walk_at "dl";refine#[rfl,?_];left;refine QN ?_;left;refine#[p,tsD w,z,rfl,rfl,by rw[yH U];exact m,?_];refine#[_,rfl,rfl,?_,λ_=>?_];. rw[AL,a3Q,a1K];unfold stT;rw[decide_eq_true_iff,AU]
   left;exact#[rfl,rfl]
 rw[ZZ];left;refine B7 (B0 0) (by simp[FU]) ?_;refine CN ?_;left;refine#[N,frT (w.map (·.1)),id,?_,?_]
 . rintro d hd A acc M' hA rfl;obtain⟨z,u,rfl⟩:=zL.mp hd;have U:p≠A:=by rintro rfl;rw[m] at hA;cases hA
   walk_at "dl";refine#[rfl,?_];left;refine aC ?_;left;refine#[p,tsD w,z,rfl,rfl,by rw[yH U];exact m,?_];refine#[_,rfl,rfl,?_,λ_=>?_];. unfold frT stT;congr 1;rw[AL,a3Q,a1K,decide_eq_true_iff,AU]
   left;exact#[rfl,rfl]
 rw[SE];try walk_at "unf"
 refine IG (λB M1=>M1=M/\∃(n r:List Str) (x6 x7 x8 x9 zf:Option DS),(n≠[]/\n.length<=60/\∀z∈n,z∈ys)/\(r≠[]/\r.length<=60/\∀z∈r,z∈ys)/\B=[ak (.d (.list (L.map .int))),ak (.d (.int a)),ak (.d (CA ys)),ak (.loc p),ak (.d (CA n)),ak (.d (CA r)),x6,x7,x8,x9,zf]) ?_ ?_
 . have T:∀z∈ys.filter (λz=>decide (z∈w.map (·.1))),z∈ys:=λz u=>(yL.mp u).1;have S:∀z∈ys.filter (λz=>!decide (z∈w.map (·.1))),z∈ys:=λz u=>(yL.mp u).1;have l1:(ys.filter (λz=>decide (z∈w.map (·.1)))).length<=60:=zN (yJ _ _) (by lia);have l2:(ys.filter (λz=>!decide (z∈w.map (·.1)))).length<=60:=zN (yJ _ _) (by lia);generalize ys.filter (λz=>decide (z∈w.map (·.1)))=n at T l1;generalize ys.filter (λz=>!decide (z∈w.map (·.1)))=r at S l2;have vz:ys≠[]:=hn.ne;have whole:(ys≠[]/\ys.length<=60/\∀z∈ys,z∈ys):=#[vz,by lia,λz u=>u]
   left;refine AW (AJ (j:=a) (b _ (by lia))) ?_;left;refine B2 rfl rfl ?_;rw[if_neg nft,NO];cases decide (L.getD a 0 % 8=7) with
   | true=> left;exact#[rfl,ys,ys,_,_,_,_,_,whole,whole,rfl]
   | false=>
     walk_at "wkd";refine B2 (PZ λz u=>CO (hn.1 z (T z u))) rfl ?_;rw[if_neg nft,a6];cases h1:n.isEmpty with
     | true=> left;exact#[rfl,ys,ys,_,_,_,_,_,whole,whole,rfl]
     | false=>
       walk_at "wkd";refine B2 (PZ λz u=>CO (hn.1 z (S z u))) rfl ?_;rw[if_neg nft,a6];cases h2:r.isEmpty with
       | true=> left;exact#[rfl,ys,ys,_,_,_,_,_,whole,whole,rfl]
       | false=> left;exact#[rfl,n,r,_,_,_,_,_,#[a7 h1,l1,T],#[a7 h2,l2,S],rfl]
 . rintro B M1 ⟨rfl,n,r,x6,x7,x8,x9,zf,⟨J,Q,X⟩,⟨Y,Z,Hj⟩,rfl⟩;walk_at "wkd";refine AW (AJ (j:=a) (b _ (by lia))) ?_;walk_at "wkd";obtain⟨t,Oc,Hk⟩:∃t:Str,atI [a0Z (a0Q "put"),.str (a0Q "take"),.str (a0Q "move"),.str (a0Q "count"),.str (a0Q "name"),.str (a0Q "split"),.str (a0Q "join")] (L.getD a 0/8 % 7)=ak (.str t)/\t∈[a0Q "put", "take", "move", "count", "name", "split", "join"]:=gR (ys:=[a0Q "put","take","move","count","name","split","join"]) (by lia) (by show _ < (7:Int);lia);refine AW Oc ?_;left;refine AW (AJ (j:=a+1) (b _ (by lia))) ?_;left;refine ER J Q λone c=>?_;have c:=X one c;left;refine AW (AJ (j:=a+3) (b _ (by lia))) ?_;left;refine NQ (hx _ (by lia)) λpl p0 p1=>?_;left;refine AW (AJ (j:=a+4) (b _ (by lia))) ?_;left;refine LU (hx _ (by lia)) λnum q0 q1=>?_;left;have I:=λ(z:Str) (u:z∈ys)=>A0w (num:=num) hn p0 p1 u;have G:=λ(y:Str) (hy:y∈ys) (O:y≠one)=>A0x (num:=num) hn p0 p1 c hy O;have g:zH (.str t)=true:=by simp only[yX,xW,or_false] at Hk;rcases Hk with rfl | rfl | rfl | rfl | rfl | rfl | rfl <;> decide +kernel
   refine B2 g (by decide +kernel) ?_;rw[if_neg nft,BQ];cases (t==a0Q "put") with
   | true=> left;refine AW (AJ (j:=a+1) (b _ (by lia))) ?_;left;refine ER Y Z λz u=>?_;left;exact fin (I z (Hj z u)).1
   | false=>
     left;refine B2 g (by decide +kernel) ?_;rw[if_neg nft,BQ];cases (t==a0Q "take") with
     | true=> left;exact fin (I one c).2.1
     | false=>
       left;refine B2 g (by decide +kernel) ?_;rw[if_neg nft,BQ];cases (t==a0Q "move") with
       | true=> left;exact fin (I one c).2.2.1
       | false=>
         left;refine B2 g (by decide +kernel) ?_;rw[if_neg nft,BQ];cases (t==a0Q "count") with
         | true=> left;exact fin (I one c).2.2.2
         | false=>
           left;refine AW (AJ (j:=a+2) (b _ (by lia))) ?_;left;refine ER Y Z λy0 Aj=>?_;walk_at "wks";try walk_at "unf"
           refine IG (λB k=>k=M1/\∃y:Str,y∈ys/\B=[ak (.d (.list (L.map .int))),ak (.d (.int a)),ak (.d (CA ys)),ak (.loc p),ak (.d (CA n)),ak (.d (CA r)),ak (.d (.str t)),ak (.d (.str one)),ak (.d (.int pl)),ak (.d (.int num)),ak (.d (.str y))]) ?_ ?_
           . left;refine B2 g (by decide +kernel) ?_;rw[if_neg nft,BQ];cases (t==a0Q "join") with
             | true=> left;refine AW (AJ (j:=a+2) (b _ (by lia))) ?_;left;refine ER J Q λx q=>?_;left;exact#[rfl,x,X x q,rfl]
             | false=> left;exact#[rfl,y0,Hj y0 Aj,rfl]
           rintro B k ⟨rfl,y,hy,rfl⟩;try walk_at "unf"
           refine IG (λB M3=>M3=k/\∃y:Str,y∈ys/\y≠one/\B=[ak (.d (.list (L.map .int))),ak (.d (.int a)),ak (.d (CA ys)),ak (.loc p),ak (.d (CA n)),ak (.d (CA r)),ak (.d (.str t)),ak (.d (.str one)),ak (.d (.int pl)),ak (.d (.int num)),ak (.d (.str y))]) ?_ ?_
           . left;refine B2 (v y hy) (v one c) ?_;rw[if_neg nft,BQ];cases he:(y==one) with
             | false=> left;exact#[rfl,y,hy,λe=>by rw[e] at he;simp at he,rfl]
             | true=>
               left;refine BO (B0 0) (by simp[KO]) ?_;refine CN ?_;left;refine#[N,neT one,id,?_,?_]
               . intro d hd M';obtain⟨z,u,rfl⟩:=zL.mp hd;walk_at "dl";refine#[rfl,?_];left;refine B2 (v z u) (v one c) ?_;rw[if_pos rfl,BQ];refine#[_,rfl,rfl,?_,λ_=>?_];. rw[a1K];unfold neT;simp
                 left;exact#[rfl,rfl]
               rw[rW];left;refine AW (AJ (j:=a+2) (b _ (by lia))) ?_;left;refine ER (A0y hn one) (zN (yJ _ _) (by lia)) λx q=>?_;obtain⟨q,O⟩:=yL.mp q;left;exact#[rfl,x,q,by simpa using O,rfl]
           rintro B M3 ⟨rfl,y,hy,O,rfl⟩;left;refine B2 g (by decide +kernel) ?_;rw[if_neg nft,BQ];cases (t==a0Q "name") with
           | true=> left;exact fin (G y hy O).1
           | false=>
             left;refine B2 g (by decide +kernel) ?_;rw[if_neg nft,BQ];cases (t==a0Q "join") with
             | true=> left;exact fin (G y hy O).2.2
             | false=> left;exact fin (G y hy O).2.1
end
def bU:List Str:=["_law_xs","_law_at","_law_size","_law_names_here","_law_there_here","_law_row_here","_law_k","_law_deed_here"]
section
theorem bV (F:Fun K "_law_row" "_law_row" MV f N) (aj:mg "range"=am) (aq:mg "tuple"=am) (ay:Has P w K mg base "_law_can" 2 ["_law_there_here","_law_deed_here"] IW) (gx:Has P w K mg base "_law_deed" 2 ["_law_xs","_law_at","_law_names_here","_law_there_here"] KC) (aw:Has P w K mg base "_law_step" 1 ["_law_there_here","_law_deed_here"] FP):FnOk P w K mg base CX0 3 f N ["_law_xs","_law_at","_law_size","_law_names_here","_law_there_here"] (spD K 5 QY):=by
 refine hD bU F #[rfl,rfl,rfl,by decide +kernel,rfl,by decide +kernel,by decide +kernel] ?_;walk_at "hd";rintro xs M hl ⟨L,a,n,y,p,w,rfl,hL,ha,X,Bk,hn,m,Z,Q,G,J⟩;unfold rwX;left;refine N9 ?_;left;intro A hA;have U:p≠A:=by rintro rfl;rw[m] at hA;cases hA
 left;try walk_at "unf"
 refine E2 ?_;refine GB ?_;left;refine#[by lia,by lia,?_];refine#[λk B M1=>∃(t:List Deed) (q:Addr) (w:List Th) (O T:Option DS),t.length=k/\(∀D∈t,deed18 y D)/\q≠A/\There Z w/\M1 q=ak (tsO w)/\M.Sub (M1.del A)/\M1 A=ak (.l (t.map Deed.d))/\B=[ak (.d (.list (L.map .int))),ak (.d (.int a)),ak (.d (.int n)),ak (.d (CA y)),ak (.loc q),ak (.loc A),O,T],#[[],p,w,_,_,rfl,(λD hD=>nomatch hD),U,Q,by rw[yH U];exact m,by rw[yG hA];exact zT M,zU,rfl],?_,?_]
 . rintro k d B M1 hd ⟨t,q,w,O,T,hk,v,j,b,c,Y,u,rfl⟩;obtain⟨tm,rfl⟩:=IQ hd;have Fb:w.length<=6:=zN b.few G;left;refine bO (a:=a+5*k) hL (by lia) X hn c λD hD=>?_;left;refine PU ?_;walk_at "dl";refine#[IF u,?_];left;refine EB u (by rw[zX];exact zQ (show _<=12 by lia) `kh) ?_;have S:t.map Deed.d++[D.d]=(t++[D]).map Deed.d:=by rw[xI];rfl
   have z:∀E∈t++[D],deed18 y E:=λE hE=>by
     rcases yW.mp hE with h | h;. exact v E h
     . rw[List.mem_singleton.mp h];exact hD
   rw[S];left;refine MQ (isTD.o (by rw[yH j];exact c)) hD.1 ?_;cases hc:decide (AE (w.map (·.1)) D=am) with
   | false=> left;exact#[t++[D],q,w,_,_,by rw[yY,hk];rfl,z,j,b,by rw[yH j];exact c,by rw[NS];exact Y,zU,rfl]
   | true=>
     have I:goD w D:=#[#[b.nd,by lia],hD.1,of_decide_eq_true hc]
     left;refine K9 (isTD.o (by rw[yH j];exact c)) I (by lia) λr hr=>?_;have g:r≠A:=by rintro rfl;rw[zU] at hr;cases hr
     left;exact#[t++[D],r,doT w D,_,_,by rw[yY,hk];rfl,z,g,HM b I (λx hx=>J x (hD.2 x hx)),zU,(by rw[Own.del_put_ne g,NS];exact Y.put (aA Y (by rw[A3Q g];rw[yH g] at hr;exact hr))),by rw[yH g.symm];exact zU,rfl]
 . rintro B M1 ⟨t,q,w,O,T,hk,v,j,b,c,Y,u,rfl⟩;rw[HJ] at hk;try walk_at "unf"
   refine F8 (i:=5) (a:=A) rfl u ?_;left;refine KU ?_;refine#[M,Y,λL' a' n' b_ p' e=>#[rfl,t,rfl,?_,λD hD=>?_]];. simp only[rwX,List.cons.injEq,DS.d.injEq,PyData.int.injEq,and_true] at e;lia
   . simp only[rwX,List.cons.injEq,DS.d.injEq,and_true] at e;rw[<-NK e.2.2.2.1];exact v D hD
end
def bW:List Str:=["_law_there_here","_law_row_here","_law_k"]
theorem bX (F:Fun K "_law_run" "_law_run" MW f T) (X:mg "len"=am) (Q:mg "range"=am) (U:Has P w K mg base "_law_can" 2 ["_law_there_here","_law_deed_here"] IW) (L:Has P w K mg base "_law_step" 1 ["_law_there_here","_law_deed_here"] FP):FnOk P w K mg base CX0 3 f T ["_law_there_here","_law_row_here"] (spD K 2 NZ):=by
 refine hD bW F #[rfl,rfl,rfl,by decide +kernel,rfl,by decide +kernel,by decide +kernel] ?_;walk_at "hd";rintro xs M Y ⟨w,t,rfl,⟨S,I,Z,O⟩,G⟩;unfold rnX;have fin:∀{d:PyData},A3W w t d->∃c:Own,c.Sub M/\NZ.post (rnX w t) M (.d d) c:=λ{d} h=>#[M,zT M,λw' y e=>by simp only[rnX,List.cons.injEq,DS.d.injEq,and_true] at e;obtain⟨u,v⟩:=e;obtain rfl:=eL u;obtain rfl:=ES (a:=t) (b:=y) (by rw[v]);exact#[#[d,rfl,h],rfl]]
 left;try walk_at "unf"
 refine E2 ?_;refine GB ?_;left;refine NB ?_;rw[zX];left;refine#[by lia,by lia,?_];refine#[λk B M1=>∃(z:List Th) (x:DS) (p:Option DS),AS w (t.take k)=ak z/\There S z/\A5B M M1 x z/\B=[ak x,ak (.d (.tuple (t.map Deed.d))),p],#[w,_,_,rfl,I,.inl #[rfl,rfl],rfl],?_,?_]
 . rintro k d B M1 hd ⟨z,x,p,hr,n,m,rfl⟩;obtain⟨j,rfl⟩:=IQ hd;have hk:t[k]?=ak t[k]:=zV j;have g:(t.map Deed.d)[k]?=ak (t[k]).d:=by rw[zF,hk];rfl
   have hD:=O _ (a1V j);generalize t[k]=D at hk g hD;have J:=n.few;walk_at "dl";try walk_at "unf"
   refine VL (i:=0) m rfl ?_;left;refine AM (AJ g) ?_;left;refine MQ (w:=z) isTD.d hD.1 ?_;cases hc:decide (AE (z.map (·.1)) D=am) with
   | false=> left;exact fin #[_,z,rfl,.inr #[SN hr hk (of_decide_eq_false hc),_,rfl]]
   | true=>
     have hc:=of_decide_eq_true hc;have q:goD z D:=#[#[n.nd,by lia],hD.1,hc]
     left;refine AM (AJ g) ?_;left;refine K9 (w:=z) isTD.d q (by lia) λr N=>?_;left;exact#[doT z D,.loc r,_,aR hr hk hc,HM n q hD.2,.inr #[r,N,rfl,rfl],rfl]
 . rintro B M1 ⟨z,x,p,hr,n,m,rfl⟩;rw[HJ,a1Q] at hr;try walk_at "unf"
   refine VL (i:=0) m rfl ?_;left;exact fin #[_,z,rfl,.inl #[hr,rfl]]
def KP:List Str:=["_law_there_here","_law_row_here","_law_number_here","_law_behind"]
section
local macro_rules | `(tactic| walk_at "x")=>`(tactic| first | exists PG _ (.Tuple ..) _,@pW _ K _ _ _ _ (2) rfl rfl (by walk_at "j") (by rfl) (by rfl))
theorem KQ (F:Fun K "_law_row_comes_to" "_law_row_comes_to" D8 f T) (m:Has P w K mg base "_law_run" 3 ["_law_there_here","_law_row_here"] NZ):FnOk P w K mg base CX0 4 f T ["_law_there_here","_law_row_here"] (spD K 2 HV):=by
 refine hD KP F #[rfl,rfl,rfl,by decide +kernel,rfl,by decide +kernel,by decide +kernel] ?_;walk_at "hd";rintro c M r ⟨w,D,rfl,hg⟩;unfold rnX;have fin:∀{o:Option (List Th)},AS w D=o->∃t:Own,t.Sub M/\HV.post (rnX w D) M (.d (aS o)) t:=λ{d} h=>#[M,zT M,λp n e=>by simp only[rnX,List.cons.injEq,DS.d.injEq,and_true] at e;obtain⟨j,g⟩:=e;obtain rfl:=eL j;obtain rfl:=ES (a:=D) (b:=n) (by rw[g]);rw[h];exact#[rfl,rfl]]
 left;try walk_at "unf"
 refine dE ?_;left;refine eO hg λd hd=>?_;obtain⟨k,z,rfl,h⟩:=hd;left;refine Z3 ?_;rcases h with ⟨hr,rfl⟩ | ⟨hr,i,rfl⟩
 . left;exact fin (o:=ak z) hr
 . left;exact fin (o:=am) hr
end
def UG:List Str:=["_law_deed_here","_law_word","_law_found"]
section
local macro_rules | `(tactic| walk_at "x")=>`(tactic| first | exists PT _ (.Compare _ [.In] ..) _,@CQ _ _ _ _ _ _ _ _ (@kIn _ K rfl) `jz `jz (by with_unfolding_all rfl))
theorem UH (F:Fun K "_law_deals" "_law_deals" J6 f T):FnOk P w K mg base CX0 1 f T ["_law_deed_here"] (spD K 1 HY):=by
 refine hD UG F #[rfl,rfl,rfl,by decide +kernel,rfl,by decide +kernel,by decide +kernel] ?_;walk_at "hd";rintro c M b ⟨D,rfl,hr⟩;have t:=hr.2.1;have fin:∀{m:List (Str×PyData)},C0 D=m->∃k:Own,k.Sub M/\HY.post [.d D.d] M (.d (.dict (AG m))) k:=λg=>#[M,zT M,λp e=>by simp only[List.cons.injEq,DS.d.injEq,and_true] at e;obtain rfl:=BW e;exact#[by rw[g],rfl]]
 rw[D.d_eq] at *;left;refine SB λq hq=>?_;walk_at "wks";try walk_at "unf"
 refine IG (λB M1=>M1=M.put q (.d (AG [(D.fst,.str (BL (BE D.d D.fst)))]))/\B=[ak (.d (.tuple (.str D.word::.str D.fst::D.rest))),ak (.d (.str D.word)),ak (.loc q)]) ?_ ?_
 . have X:∀{r:Str},r=BL (BE D.d D.fst)->(M.put q (.d [])).put q (.d (AG (G6 [] D.fst (.str r))))=M.put q (.d (AG [(D.fst,.str (BL (BE D.d D.fst)))])):=λe=>by rw[yI,e];rfl
   walk_at "wkd";refine WG (ys:=[a0Q "count", a0Q "split", a0Q "join"]) ?_;rw[show decide (D.word∈[a0Q "count", a0Q "split", a0Q "join"])=(D.word==a0Q "count" || D.word==a0Q "split" || D.word==a0Q "join") by rw[a1K];simp[or_assoc]];cases h1:(D.word==a0Q "count" || D.word==a0Q "split" || D.word==a0Q "join") with
   | true=>
     left;refine BG ?_;left;refine#[q,[],D.fst,.str (a0Q "adds"),rfl,rfl,rfl,zU,by decide,?_];cases D <;> first | (exfalso;simp only[Deed.word] at h1;revert h1;decide +kernel) | skip
     . exact#[X (by show a0Q "adds"=BL (if (au&&_==_)=au then 1 else 2);simp[Deed.fst,BL]),rfl]
     . exact#[X (by show a0Q "adds"=BL (if (au&&_==_)=au then 1 else 2);simp[Deed.fst,BL]),rfl]
     . exact#[X (by show a0Q "adds"=BL (if (au&&_==_)=au then 1 else 2);simp[Deed.fst,BL]),rfl]
   | false=>
     left;refine B2 D.word_ok (by decide +kernel) ?_;rw[if_neg nft,BQ];cases n:(D.word==a0Q "move") with
     | true=>
       left;refine BG ?_;left;refine#[q,[],D.fst,.str (a0Q "moves"),rfl,rfl,rfl,zU,by decide,?_];cases D <;> first | (exfalso;simp only[Deed.word] at n;revert n;decide +kernel) | skip
       exact#[X rfl,rfl]
     | false=>
       left;refine BG ?_;left;refine#[q,[],D.fst,.str (a0Q "more"),rfl,rfl,rfl,zU,by decide,?_];cases D <;> first | (exfalso;simp only[Deed.word] at h1;revert h1;decide +kernel) | (exfalso;simp only[Deed.word] at n;revert n;decide +kernel) | skip
       all_goals exact#[X rfl,rfl]
 rintro B M1 ⟨rfl,rfl⟩;try walk_at "unf"
 refine IG (λB M1=>M1=M.put q (.d (AG (C0 D)))/\B=[ak (.d (.tuple (.str D.word::.str D.fst::D.rest))),ak (.d (.str D.word)),ak (.loc q)]) ?_ ?_
 . walk_at "wkd";refine WG (ys:=[a0Q "name", a0Q "split", a0Q "join"]) ?_;rw[show decide (D.word∈[a0Q "name", a0Q "split", a0Q "join"])=(D.word==a0Q "name" || D.word==a0Q "split" || D.word==a0Q "join") by rw[a1K];simp[or_assoc]];cases h1:(D.word==a0Q "name" || D.word==a0Q "split" || D.word==a0Q "join") with
   | true=>
     left;refine BG ?_;left;cases D <;> first | (exfalso;simp only[Deed.word] at h1;revert h1;decide +kernel) | skip
     all_goals
       rename_i x y;refine AM (d:=.str _) rfl ?_;left;refine#[q,_,_,.str (a0Q "more"),rfl,rfl,rfl,zU,(show 1 < a0 by decide),?_];refine#[?_,rfl];rw[yI];refine congrArg (λl=>M.put q (MO.d (AG l))) ?_;first | exact(PB t).trans rfl | exact(PB t).trans (bR t _ _).symm | exact(PB t).trans (fD t).symm
   | false=>
     left;cases D <;> first | (exfalso;simp only[Deed.word] at h1;revert h1;decide +kernel) | skip
     all_goals exact#[rfl,rfl]
 rintro B M1 ⟨rfl,rfl⟩;try walk_at "unf"
 refine IP (i:=2) (a:=q) rfl zU ?_;rw[yG hq];left;exact fin rfl
end
def UI:List Str:=["_law_one","_law_other","_law_first","_law_second","_law_name","_law_both"]
section
local macro_rules | `(tactic| walk_at "x")=>`(tactic| first | exists PT _ (.Compare _ [.In] ..) _,@OE _ _ _ _ _ _ (@OH _ _ _ _ _ dz `jz `jz) (by with_unfolding_all rfl) | exists PT _ (.Compare _ [.NotIn] ..) _,@CQ _ _ _ _ _ _ _ _ (@zK _ K rfl hu) `jz `jz (by with_unfolding_all rfl))
local macro_rules | `(tactic| walk_at "y")=>`(tactic| first | exists PI _ _ (.Name ..) _,@hW _ _ _ _ (@pv _ 2 _ _ (by rfl) (by walk_at "lc") (by decide) (by decide)) | exists PE _ (.Subscript ..) _,@CS _ _ _ _ _ _ dz (@pv _ 2 _ _ (by rfl) (by walk_at "lc") (by decide) (by decide)) (@pv _ 4 _ _ (by rfl) (by walk_at "lc") (by decide) (by decide)) (λ_ _=>rfl) | exists PE _ (.Subscript ..) _,@CS _ _ _ _ _ _ dz (@pv _ 3 _ _ (by rfl) (by walk_at "lc") (by decide) (by decide)) (@pv _ 4 _ _ (by rfl) (by walk_at "lc") (by decide) (by decide)) (λ_ _=>rfl))
theorem UJ (F:Fun K "_law_touch" "_law_touch" J7 f T) (ax:mg "sorted"=am) (g:Has P w K mg base "_law_deals" 1 ["_law_deed_here"] HY):FnOk P w K mg base CX0 2 f T ["_law_one","_law_other"] (spD K 2 HZ):=by
 refine hD UI F #[rfl,rfl,rfl,by decide +kernel,rfl,by decide +kernel,by decide +kernel] ?_;walk_at "hd";rintro u M j ⟨D,E,rfl,hD,hE⟩;unfold U8;have fin:∀{b:Bool},C6 D.d E.d=b->∃t:Own,t.Sub M/\HZ.post (U8 D E) M (.d (.bool b)) t:=λ{b} h=>#[M,zT M,λp c e=>by obtain⟨rfl,rfl⟩:=uD e;rw[h];exact#[rfl,rfl]]
 left;refine T4 hD ?_;left;refine T4 hE ?_;walk_at "wks";try walk_at "unf"
 refine IG (λB M1=>M1=M/\(∀n∈D.names,bS D E n=aB)) ?_ ?_
 . try walk_at "unf"
   refine E2 ?_;refine i0 ?_;left;try refine#[C0 D,rfl,?_]
   rw[show LR (C0 D)=D.names.map .str by unfold LR C0;rw[zD];rfl];refine#[λk I i=>i=M/\(∀n∈D.names.take k,bS D E n=aB)/\∃x y,I=[ak (.d D.d),ak (.d E.d),ak (.d (.dict (AG (C0 D)))),ak (.d (.dict (AG (C0 E)))),x,y],#[rfl,by simp,_,_,rfl],?_,?_]
   . rintro k d I i hd ⟨rfl,hk,x,y,rfl⟩;rw[zF] at hd;cases hdk:D.names[k]? with
     | none=>rw[hdk] at hd;cases hd
     | some n=>
       rw[hdk] at hd;cases hd;have hn:n∈D.names:=yN hdk;have next:bS D E n=aB->∀m∈D.names.take (k+1),bS D E m=false:=λh m q=>by
         rw[a2Q,hdk] at q;rcases yW.mp q with h1 | h1;. exact hk m h1
         . have:m=n:=by simpa using h1
           subst this;exact h
       left;refine A0R ?_;left;refine#[C0 E,n,rfl,rfl,?_];rw[uC];by_cases q:n∈E.names
       . rw[decide_eq_true q];left;refine IE ?_;left;refine HC ?_;left;refine#[C0 D,n,.str (BL (BE D.d n)),rfl,rfl,MU hn,?_];left;refine HC ?_;left;refine#[C0 E,n,.str (BL (BE E.d n)),rfl,rfl,MU q,?_];left;refine qH (wF (ss:=[BL (BE D.d n),BL (BE E.d n)]) (by show 2 < 64;decide) λss hp hs=>?_);walk_at "wkd";refine A0z (XN D n) (XN E n) hp hs ?_;cases r:JY (BE D.d n) (BE E.d n) with
         | true=> left;exact#[rfl,next (by unfold bS;rw[r,Bool.not_true,Bool.and_false]),_,_,rfl]
         | false=> left;refine fin ?_;rw[VS,List.any_eq_true.mpr #[n,hn,by unfold bS;rw[decide_eq_true q,r];rfl]]
       . rw[decide_eq_false q];left;exact#[rfl,next (by unfold bS;rw[decide_eq_false q];rfl),_,_,rfl]
   . rintro I i ⟨rfl,hk,x,y,rfl⟩;rw[zX,a1Q] at hk;exact#[rfl,hk]
 . rintro I i ⟨rfl,hk⟩;left;refine fin ?_;rw[VS,List.any_eq_false.mpr λn hn=>by rw[hk n hn];simp]
end
def Y2:List Str:=["_law_names_here","_law_mask","_law_found","_law_k"]
section
theorem Y3 (F:Fun K "_law_wide" "_law_wide" KI f T) (j:mg "len"=am) (Q:mg "range"=am):FnOk P w K mg base CX0 1 f T ["_law_names_here","_law_mask"] (spD K 2 O6):=by
 refine hD Y2 F #[rfl,rfl,rfl,by decide +kernel,rfl,by decide +kernel,by decide +kernel] ?_;walk_at "hd";rintro u M q ⟨ys,m,rfl,g,Z⟩;unfold T6;left;refine SB λp hp=>?_;left;try walk_at "unf"
 refine E2 ?_;refine GB ?_;left;refine KS ?_;rw[zX];left;refine#[by lia,by lia,?_];refine#[λk B M1=>k<=ys.length/\M1=M.put p (tsO (GM ys m k))/\∃t:Option DS,B=[ak (.d (CA ys)),ak (.d (.int m)),ak (.loc p),t],#[xT _,rfl,_,rfl],?_,?_]
 . rintro k d B M1 hd ⟨hk,rfl,t,rfl⟩;obtain⟨n,rfl⟩:=IQ hd;have b:(ys.map a0Z)[k]?=ak (.str (ys.getD k #[#[]])):=by rw[zF,yU,zV n];rfl
   have hb:(1:Int)*2 ^ ((k:Int).toNat)=2 ^ k:=by rw[a7W,Int.one_mul]
   have h:(0:Int) < 2 ^ k/\(2:Int) ^ k < 2 ^ 64:=by
     have r:k < 5:=by lia
     match k,r with
     | 0,_=>exact#[by decide,by decide]
     | 1,_=>exact#[by decide,by decide]
     | 2,_=>exact#[by decide,by decide]
     | 3,_=>exact#[by decide,by decide]
     | 4,_=>exact#[by decide,by decide]
   left;refine RI #[by lia,by lia] ?_;rw[hb];refine RI h ?_;left;refine B2 rfl rfl ?_;rw[if_neg nft,NO,A0M];cases hbit:eJ m k with
   | false=> left;exact#[by lia,by rw[A0N hbit],_,rfl]
   | true=> left;refine BG ?_;left;refine RI #[by lia,by lia] ?_;rw[hb];left;refine AW (AJ b) ?_;left;refine#[p,tsD (GM ys m k),ys.getD k #[#[]],pcD (1000+7*(k:Int)) (100000000000000*2 ^ k),rfl,rfl,rfl,zU,CV (by have:=sY (ys:=ys) m k;lia),?_];rw[yI,C8,sW g n hbit];exact#[by lia,rfl,_,rfl]
 . rintro B M1 ⟨hk,rfl,t,rfl⟩;rw[HJ];try walk_at "unf"
   refine IP (i:=2) (a:=p) rfl zU ?_;rw[yG hp];left;refine#[M,zT M,λO c e=>?_];simp only[T6,List.cons.injEq,DS.d.injEq,PyData.int.injEq,and_true] at e;obtain rfl:=NK e.1;obtain rfl:m=c:=by lia
   exact#[rfl,rfl]
end
def bY:List Str:=["thing"]
theorem bZ (F:Fun K "is_whole" "is_whole" MX f T) (t:mg "bool"=am) (g:mg "int"=am) (q:mg "isinstance"=am):FnOk P w K mg base CX0 1 f T ["thing"] (spD K 1 MH):=by
 refine hD bY F #[rfl,rfl,rfl,by decide +kernel,rfl,by decide +kernel,by decide +kernel] ?_;walk_at "hd";rintro n M r ⟨d,rfl,-⟩;walk_at "dl";walk_at "dl";walk_at "dl";cases d <;>
 . left;exact#[M,zT M,λx e=>by cases e;exact#[rfl,rfl]]
def Y4:List Str:=["thing","low","high"]
section
theorem Y5 (F:Fun K "is_within" "is_within" KJ f T) (S:Has P w K mg base "is_whole" 1 ["thing"] MH):FnOk P w K mg base CX0 2 f T ["thing","low","high"] (spD K 3 GF):=by
 refine hD Y4 F #[rfl,rfl,rfl,by decide +kernel,rfl,by decide +kernel,by decide +kernel] ?_;walk_at "hd";rintro m M r ⟨d,n,hi,rfl⟩;left;refine DC trivial ?_;cases d
 case int i=>
   left;refine A2T (λh=>?_) (λh=>?_);. left;exact#[M,zT M,λx t hi' e=>by cases e;refine#[?_,rfl];simp only[ND];rw[h];rfl]
   . exact#[M,zT M,λx t hi' e=>by cases e;refine#[?_,rfl];simp only[ND];simp at h;simp;lia]
 all_goals
   left;exact#[M,zT M,λx t hi' e=>by cases e;exact#[rfl,rfl]]
end
def c6:List Str:=["thing"]
theorem c7 (F:Fun K "is_place" "is_place" MY f T) (j:∃t,mg "LAST_PLACE"=ak (.int (999) t)) (k:Has P w K mg base "is_within" 2 ["thing","low","high"] GF):FnOk P w K mg base CX0 3 f T ["thing"] (spD K 1 RM):=by refine hD c6 F #[rfl,rfl,rfl,by decide +kernel,rfl,by decide +kernel,by decide +kernel] ?_;walk_at "hd";rintro n M r ⟨d,rfl,-⟩;left;refine YW ?_;exact#[M,zT M,λx e=>by cases e;exact#[by rw[WJ],rfl]]
def TK:List Str:=["thing"]
def O8:List Str:=["sign"]
def O9:List (Option Nat):=[am]
section
local macro_rules | `(tactic| walk_at "x")=>`(tactic| first | exists PE _ (.Compare _ [.In] ..) _,@G8 _ _ _ _ _ _ _ _ (@kIn _ K rfl) `jz `jz (by with_unfolding_all rfl))
theorem fH (F:Fun K "is_name" "is_name" LJ f T) (p:mg "all"=am) (q:mg "isinstance"=am) (r:mg "len"=am) (L:mg "str"=am) (g:∃t,mg "LETTERS"=ak (.str ("abcdefghijklmnopqrstuvwxyz") t)) (m:∃t,mg "LONGEST_NAME"=ak (.int (8) t)):FnOk P w K mg base CX0 1 f T ["thing"] (spD K 1 UX):=by
 refine hD TK F #[rfl,rfl,rfl,by decide +kernel,rfl,by decide +kernel,by decide +kernel] ?_;walk_at "hi";have G:O8.Nodup:=by decide +kernel
 walk_at "nm";clear G nd;rintro h M b ⟨d,rfl,hd⟩;cases d
 case str z=>
   have u:z.length<=sizeLine:=zN hd.1 `kh;have k:(z.length:Int)=(z.cps.size:Int):=rfl;left;refine gG u ?_;left;refine A2T (λh1=>?_) (λh1=>?_)
   . left;refine A2T (λn=>?_) (λn=>?_);. left;exact#[M,zT M,λx e=>by cases e;refine#[?_,rfl];simp only[D3];simp at h1 n;rw[k] at h1 n;simp;lia]
     . left;refine BO (B0 0) (by simp[O9]) ?_;refine wA ?_;left;refine#[by simp only[DB,zX,a6Q];exact zQ hd.1 `kh,λ_=>au,λd=>.bool (wL d),?_,?_];. intro d D i;obtain⟨c,hc,rfl⟩:=zL.mp D;walk_at "dl";refine#[rfl,?_];walk_at "dl";refine#[rfl,rfl,λ_=>?_];left;refine w9 ?_;rw[cZ c (hd.2 c hc)];exact#[by simp[wL],rfl]
       . left;rw[jP];refine WH ?_;rw[d0];exact#[M,zT M,λx e=>by cases e;refine#[?_,rfl];simp only[D3];simp at h1 n;rw[k] at h1 n;simp;lia]
   . left;exact#[M,zT M,λx e=>by cases e;refine#[?_,rfl];simp only[D3];simp at h1;rw[k] at h1;simp;lia]
 all_goals
   left;exact#[M,zT M,λx e=>by cases e;exact#[rfl,rfl]]
end
def fI:List Str:=["word"]
section
theorem fJ (F:Fun K "form_of" "form_of" PD f T) (q:mg "isinstance"=am) (L:mg "str"=am) (jy:∃a,mg "FORMS"=ak (.ref a)/\GDict w K a HD):FnOk P w K mg base CX0 1 f T ["word"] (spD K 1 OR):=by
 refine hD fI F #[rfl,rfl,rfl,by decide +kernel,rfl,by decide +kernel,by decide +kernel] ?_;walk_at "hd";rintro t M r ⟨d,rfl,-⟩;cases d
 case str z=> left;refine wS ?_;left;exact#[M,zT M,λx e=>by cases e;exact#[rfl,rfl]]
 all_goals
   left;exact#[M,zT M,λx e=>by cases e;exact#[rfl,rfl]]
end
def A01:List Str:=["sign","part"]
theorem A02 (F:Fun K "fits" "fits" fE f T) (u:Has P w K mg base "is_name" 1 ["thing"] UX) (v:Has P w K mg base "is_place" 3 ["thing"] RM) (S:Has P w K mg base "is_whole" 1 ["thing"] MH):FnOk P w K mg base CX0 4 f T ["sign","part"] (spD K 2 qQ):=by
 refine hD A01 F #[rfl,rfl,rfl,by decide +kernel,rfl,by decide +kernel,by decide +kernel] ?_;walk_at "hd";rintro t M r ⟨a,b,rfl,c,rfl,hc,hb⟩;have x:zH (.str #[(y9 [c])])=true:=CU (by show c0J _=au;simp[c0J];lia) (by simp[a2J]);left;refine B2 x (by decide +kernel) ?_;rw[if_neg nft,BQ];cases h1:((⟨(y9 [c])⟩:Str)==a0Q "n") with
 | true=> left;refine DC hb ?_;exact#[M,zT M,λa b e=>by cases e;exact#[by simp only[NG,h1];rfl,rfl]]
 | false=>
   left;refine B2 x (by decide +kernel) ?_;rw[if_neg nft,BQ];cases n:((⟨(y9 [c])⟩:Str)==a0Q "p") with
   | true=> left;refine DC trivial ?_;exact#[M,zT M,λa b e=>by cases e;exact#[by simp only[NG,h1,n];rfl,rfl]]
   | false=> left;refine DC trivial ?_;exact#[M,zT M,λa b e=>by cases e;exact#[by simp only[NG,h1,n];rfl,rfl]]
def c8:List Str:=["deed"]
section
theorem c9 (F:Fun K "names_in" "names_in" MZ f T) (n:Has P w K mg base "form_of" 1 ["word"] OR):FnOk P w K mg base CX0 2 f T ["deed"] (spD K 1 MJ):=by
 refine hD c8 F #[rfl,rfl,rfl,by decide +kernel,rfl,by decide +kernel,by decide +kernel] ?_;walk_at "hd";rintro p M m ⟨d,rfl,w,f,r,rfl,t⟩;obtain⟨i,fs,v,_,_⟩:=RZ t;have h:RY (.str w) = .str f:=by show jS (HD.lookup w)=_;rw[t];rfl
 left;refine PU ?_;left;refine DC trivial ?_;rw[h];refine#[gC,?_];left;refine jU ?_;rw[v];cases htw:ZE w with
 | true=> left;refine RL ?_;rw[show F0 (a0Z w::r) (ak 1) (ak 3)=r.take 2 from WL _ 1 3];exact#[M,zT M,λx e=>by cases e;refine#[?_,rfl];simp only[OQ,htw];rfl]
 | false=> left;refine RL ?_;rw[show F0 (a0Z w::r) (ak 1) (ak 2)=r.take 1 from WL _ 1 2];exact#[M,zT M,λx e=>by cases e;refine#[?_,rfl];simp only[OQ,htw];rfl]
end
def TL:List Str:=["thing","form","names"]
def OB:List Str:=["sign","part"]
def OC:List (Option Nat):=[am,am]
section
local macro_rules | `(tactic| walk_at "x")=>`(tactic| first | exists PG _ (.Tuple ..) _,@jO _ K _ _ _ _ (2) rfl rfl (by walk_at "j") (by rfl) (by rfl))
theorem fK (F:Fun K "is_deed" "is_deed" LK f T) (gu:mg "all"=am) (af:mg "isinstance"=am) (be:mg "len"=am) (aq:mg "tuple"=am) (ua:mg "zip"=am) (ub:Has P w K mg base "fits" 4 ["sign","part"] qQ) (dm:Has P w K mg base "form_of" 1 ["word"] OR) (ci:Has P w K mg base "names_in" 2 ["deed"] MJ):FnOk P w K mg base CX0 5 f T ["thing"] (spD K 1 OS):=by
 refine hD TL F #[rfl,rfl,rfl,by decide +kernel,rfl,by decide +kernel,by decide +kernel] ?_;walk_at "hi";have G:OB.Nodup:=by decide +kernel
 walk_at "nm";clear G nd;rintro xs M hl ⟨d,rfl,hd⟩;cases d
 case tuple ds=>
   have fin:∀b:Bool,B8 ds=b->∃m:Own,m.Sub M/\OS.post [.d (.tuple ds)] M (.d (.bool b)) m:=λb hb=>#[M,zT M,λv e=>by cases e;exact#[by show DS.d (.bool b) = .d (.bool (B8 ds));rw[hb],rfl]]
   left;refine NB ?_;left;refine B2 rfl rfl ?_;rw[if_neg nft]
   match ds,hd,fin with
   | [],_,fin=> left;exact fin aB rfl
   | a::r,hd,fin=>
     rw[show a0W (.int ((a::r).length:Nat)) (.int 0)=aB by simp[a0W];lia];left;refine DC trivial ?_;have X:CT (RY a)=au->B8 (a::r)=false:=λh=>by
       cases a with
       | str w=>
         cases t:HD.lookup w with
         | none=>simp only[B8,t]
         | some f=>simp only[RY,t,jS,CT] at h;cases h
       | _=>rfl
     cases hn:CT (RY a) with
     | true=> left;refine QJ ?_;rw[hn];left;exact fin aB (X hn)
     | false=>
       have O:∃w f,a = .str w/\HD.lookup w=ak f:=by
         cases a with
         | str w=>
           cases t:HD.lookup w with
           | none=>simp only[RY,t,jS,CT] at hn;cases hn
           | some f=>exact#[w,f,rfl,t]
         | _=>cases hn
       obtain⟨w,f,rfl,t⟩:=O;obtain⟨g,fs,fn,L,f1⟩:=RZ t;have t_:RY (.str w) = .str f:=by show jS (HD.lookup w)=_;rw[t];rfl
       have i:B8 (.str w::r)=((r.length==f.cps.size)&&II f r&&(!ZE w||!a0W (r.getD 0 .none) (r.getD 1 .none))):=by simp only[B8,t]
       rw[t_];left;refine QJ ?_;left;refine NB ?_;left;refine gG (zN fs `kh) ?_;left;refine B2 rfl rfl ?_;rw[if_pos rfl];have Q:a0W (.int ((a0Z w::r).length:Nat)) (.int ((f.length:Int)+1))=(r.length==f.cps.size):=by show(((r.length+1:Nat):Int)==((f.cps.size:Int)+1))=_;rw[a1K,beq_iff_eq,beq_iff_eq];lia
       rw[Q];cases k:(r.length==f.cps.size) with
       | false=> left;exact fin aB (by rw[i,k];rfl)
       | true=>
         have n:r.length=f.cps.size:=eq_of_beq k;have B:r.length<=4:=by lia
         left;refine BO (cV (F3 (F3 cU))) (by simp[OC]) ?_;refine A0t ?_;left;refine RL ?_;rw[show F0 (a0Z w::r) (ak 1) am=r from pC _ 1];left;refine#[_,_,_,_,rfl,.inr #[_,rfl,g,rfl],.inl rfl,?_,λ_=>au,A4t,?_,?_];. unfold YT;rw[zX,List.length_zip];exact zQ (show _<=4 by lia) `kh
         . intro d D M';obtain⟨⟨s1,I⟩,q,rfl⟩:=zL.mp D;have hs:s1∈DB f:=(b3K q).1;have hp:I∈r:=(b3K q).2;obtain⟨c,hc,rfl⟩:=zL.mp hs;have U:c < 128:=by have:=Array.all_eq_true'.mp g c (by simpa using hc);simpa using this
           left;refine#[rfl,?_];walk_at "dl";refine#[rfl,rfl,λ_=>?_];left;refine pG #[c,rfl,U,hd.2 I (yV _ hp)] ?_;exact#[rfl,rfl]
         . rw[qR];left;refine WH ?_;rw[show(((DB f).zip r).map λp=>NG p.1 p.2).all id=II f r by unfold II;rw[List.all_map];rfl];cases hfit:II f r with
           | false=> left;exact fin aB (by rw[i,k,hfit];rfl)
           | true=>
             left;refine DC #[w,f,r,rfl,t] ?_;rw[show OQ (.tuple (.str w::r)) = .tuple (r.take (if ZE w then 2 else 1)) from rfl];cases htw:ZE w with
             | false=>
               match r,n,B,i,hfit,fin with
               | [],n,_,_,_,_=>exact absurd n (by show ¬(0=f.cps.size);lia)
               | x::Z,n,B,i,hfit,fin=> left;refine NB ?_;left;refine B2 rfl rfl ?_;left;exact fin au (by rw[i,k,hfit,htw];rfl)
             | true=>
               obtain⟨f2,z,N⟩:=L htw
               match r,n,B,i,hfit,fin with
               | [],n,_,_,_,_=>exact absurd n (by show ¬(0=f.cps.size);lia)
               | [_],n,_,_,_,_=>exact absurd n (by show ¬(1=f.cps.size);lia)
               | x::y::Z,n,B,i,hfit,fin=> obtain⟨S,J⟩:=qS z N hfit;obtain⟨zx,rfl,u⟩:=V4 S;obtain⟨zy,rfl,Y⟩:=V4 J;left;refine NB ?_;left;refine B2 rfl rfl ?_;left;refine AM (d:=.str zx) (AJ (j:=0) rfl) ?_;left;refine AM (d:=.str zy) (AJ (j:=1) rfl) ?_;refine B2 (C7 u) (C7 Y) ?_;rw[if_pos rfl];exact fin _ (by rw[i,k,hfit,htw];rfl)
 all_goals
   left;exact#[M,zT M,λv e=>by cases e;exact#[rfl,rfl]]
end
def fL:List Str:=["deed"]
section
local macro_rules | `(tactic| walk_at "x")=>`(tactic| first | exists PT _ (.Compare _ [.In] ..) _,@CQ _ _ _ _ _ _ _ _ (@kIn _ K rfl) `jz `jz (by with_unfolding_all rfl))
theorem fM (F:Fun K "made_by" "made_by" PF f T):FnOk P w K mg base CX0 1 f T ["deed"] (spD K 1 VC):=by
 refine hD fL F #[rfl,rfl,rfl,by decide +kernel,rfl,by decide +kernel,by decide +kernel] ?_;walk_at "hd";rintro m M r ⟨d,rfl,D,rfl,hD⟩;rw[D.d_eq];left;refine B2 D.word_ok (by decide +kernel) ?_;rw[if_neg nft,BQ,qT];cases hp:D.isPut with
 | true=> left;refine#[M,zT M,λx e=>?_];cases e;refine#[?_,rfl];cases D <;> first | rfl | cases hp
 | false=>
   left;refine gJ (ys:=[a0Q "name", a0Q "split"]) ?_;rw[A5f,xA];cases hn:D.isNS with
   | true=>
     have n:∃y t,D.rest = .str y::t:=by cases D <;> first | exact#[_,_,rfl] | cases hn
     obtain⟨y,t,n⟩:=n;left;refine AM (d:=.str y) (AJ (j:=2) (by rw[n];rfl)) ?_;refine#[M,zT M,λx e=>?_];cases e;refine#[?_,rfl];cases D <;> first | (cases hn;done) | (simp only[Deed.rest] at n;injection n with G i;injection G with G;subst G;rfl)
   | false=> left;refine#[M,zT M,λx e=>?_];cases e;refine#[?_,rfl];cases D <;> first | rfl | (cases hn;done) | (cases hp;done)
end
def Q8:List Str:=["world"]
def M0:List Str:=["name","place","count"]
def MA:List (Option Nat):=[am,am,am]
section
local macro_rules | `(tactic| walk_at "x")=>`(tactic| first | exists PG _ (.Tuple ..) _,@jO _ K _ _ _ _ (3) rfl rfl (by walk_at "j") (by rfl) (by rfl))
theorem cA (F:Fun K "by_names" "by_names" J8 f T):FnOk P w K mg base CX0 1 f T ["world"] (spD K 1 ED):=by
 refine hD Q8 F #[rfl,rfl,rfl,by decide +kernel,rfl,by decide +kernel,by decide +kernel] ?_;walk_at "hi";have G:M0.Nodup:=by decide +kernel
 walk_at "nm";clear G nd;rintro b M r ⟨w,rfl,nd,k⟩;have u:w.length < sizeLine:=zP k `kh;left;refine RX (cV (F3 (F3 (F3 cU)))) (by simp[MA]) ?_;refine BP ?_;left;have n:(w.map thD).map nm0=w.map (·.1):=wP w;refine#[by rw[zX];exact u,λ_=>au,nm0,A5g,by rw[QC,n];exact nd,?_,?_];. intro d hd i;obtain⟨t,m,rfl⟩:=zL.mp hd;rw[thD];left;refine#[rfl,?_];walk_at "dl";refine#[rfl,rfl,λ_=>?_];left;refine#[rfl,rfl,?_];left;exact#[rfl,rfl]
 . intro p hp;rw[QC,zD];refine#[_,zT _,λh e=>#[p,hp,rfl,?_]];have e:=OU (show wD w=wD h by simpa using e);subst e;rfl
end
def FV:List Str:=["things"]
def EV:List Str:=["name","things"]
def EW:List (Option Nat):=[am,ak 0]
section
local macro_rules | `(tactic| walk_at "y")=>`(tactic| first | exists PE _ (.Subscript ..) _,@CS _ _ _ _ _ _ dz (@pv _ 1 _ _ (by rfl) (by walk_at "lc") (by decide) (by decide)) (@pv _ 0 _ _ (by rfl) (by walk_at "lc") (by decide) (by decide)) (λ_ _=>rfl))
theorem N0 (F:Fun K "rising_by_names" "rising_by_names" CK f T) (ax:mg "sorted"=am) (h:mg "tuple"=am):FnOk P w K mg base CX0 1 f T ["things"] (spD K 1 BS):=by
 refine hD FV F #[rfl,rfl,rfl,by decide +kernel,rfl,by decide +kernel,by decide +kernel] ?_;walk_at "hi";have G:EV.Nodup:=by decide +kernel
 walk_at "nm";clear G nd;rintro z M v ⟨p,ts,rfl,m,nd,n,hb⟩;left;refine B7 (B0 0) (by simp[EW]) ?_;refine CN ?_;left;refine qF (ts:=ts) m n λr hp hs=>?_;have k:r.length=ts.length:=by have:=hp.length_eq;simpa using this
 refine#[_,rfl,by rw[zX,k];exact zP n `kh,λ_=>au,SX ts,?_,?_]
 . rintro d hd A acc g hA rfl;obtain⟨s,Z,rfl⟩:=zL.mp hd;obtain⟨t,i,b⟩:=zL.mp (hp.mem_iff.mp Z);obtain⟨ds,j,u⟩:=hb t i;have x:B3 ts s=ak (.tuple ds):=by rw[<-b,<-j];exact SW nd i
   have U:p≠A:=λe=>by rw[e] at m;rw[hA] at m;cases m
   left;refine#[rfl,?_];walk_at "dl";refine#[rfl,rfl,λ_=>?_];left;refine FG ?_;left;refine#[p,ts,s,.tuple ds,rfl,rfl,by rw[yH U];exact m,x,?_];refine CD (zN (show _<=10 by simp;lia) `kh) ?_;refine#[?_,rfl];simp only[SX,x];rfl
 . rw[QC];left;refine KU ?_;refine#[M,zT M,λy q e c=>?_];cases e;obtain rfl:=Q6 (MO.d.inj (Option.some.inj (m.symm.trans c)));exact#[r,hp,hs,rfl,rfl]
end
def Y6:List Str:=["things","name","more","place","count"]
section
local macro_rules | `(tactic| walk_at "x")=>`(tactic| first | exists PG _ (.Tuple ..) _,@pW _ K _ _ _ _ (2) rfl rfl (by walk_at "j") (by rfl) (by rfl))
local macro_rules | `(tactic| walk_at "y")=>`(tactic| first | exists PE _ (.Subscript ..) _,@CS _ _ _ _ _ _ dz (@pv _ 0 _ _ (by rfl) (by walk_at "lc") (by decide) (by decide)) (@pv _ 1 _ _ (by rfl) (by walk_at "lc") (by decide) (by decide)) (λ_ _=>rfl))
theorem Y7 (F:Fun K "add_count" "add_count" KK f T):FnOk P w K mg base CX0 1 f T ["things","name","more"] (spD K 3 GG):=by
 refine hD Y6 F #[rfl,rfl,rfl,by decide +kernel,rfl,by decide +kernel,by decide +kernel] ?_;walk_at "hd";rintro j M b ⟨p,t,x,k,v,rfl,m,z,n⟩;walk_at "dl";try walk_at "unf"
 refine dE ?_;refine FG ?_;left;refine#[p,tsD t,x,pcD v.1 v.2,rfl,rfl,m,by rw[AL,z];rfl,?_];rw[pcD];left;refine BG ?_;left;refine#[p,tsD t,x,pcD v.1 (v.2+k),rfl,rfl,rfl,m,by unfold tsD;rw[zX];exact zP n `kh,?_];refine#[_,zT _,λg r h c e i=>?_];cases e;have e:=gT (Option.some.inj (m.symm.trans i));subst e;refine#[rfl,?_];rw[C8];unfold IK;rw[z]
end
theorem cB (F:Fun K "__init__" "NotNow.__init__" CI f T) (c:XCls K C S (.ref f)) (cs:XSet K C "name"):FnOk P w K mg base CX0 1 f T ["self","name"] (EY C "name"):=
 hU F #[rfl,rfl,rfl,by decide +kernel,rfl,by decide +kernel,by decide +kernel] rfl c cs `kh (λ_=>rfl) (λX hN hS=>pv 0 (by rw[hN];rfl) (by rw[hS];exact Or.inl rfl)) (λX hN hS=>pv 1 (by rw[hN];rfl) (by rw[hS];exact Or.inl rfl))
def N1:List Str:=["things","deed","made","name"]
section
local macro_rules | `(tactic| walk_at "x")=>`(tactic| first | exists PE _ (.Compare _ [.In] ..) _,@mQ _ _ _ _ _ _ (@OH _ _ _ _ _ dz `jz `jz) (by with_unfolding_all rfl))
theorem N2 (F:Fun K "refuse_undoable" "refuse_undoable" E4 f T) (c_:HasN K mg "NoDeed" z b) (de:HasR P w K mg base "NotNow" "name" u b) (B:Has P w K mg base "is_deed" 5 ["thing"] OS) (G:Has P w K mg base "made_by" 1 ["deed"] VC) (O:Has P w K mg base "names_in" 2 ["deed"] MJ):FnOk P w K mg base (CXE P w) 6 f T ["things","deed"] (spX K 2 (DW u)):=by
 refine hDX N1 F #[rfl,rfl,rfl,by decide +kernel,rfl,by decide +kernel,by decide +kernel] ?_;walk_at "hd";rintro J M S ⟨p,t,D,rfl,m,hr⟩;have v:dP D.d:=ZK hr;left;refine DC (xS hr.1) ?_;rw[xP hr];left;refine DC v ?_;left;try walk_at "unf"
 refine rK ?_;refine BP ?_;left;refine DC (qN D) ?_;rw[ZF];left;refine#[λk I i=>i=M/\(∀x∈D.names.take k,amB (t.map (·.1)) D x=aB)/\∃x:Option DS,I=[ak (.loc p),ak (.d D.d),ak (.d (ZH D.d)),x],#[rfl,by simp,_,rfl],?_,?_]
 . rintro k d I i hd ⟨rfl,hk,x,rfl⟩;rw[zF] at hd;cases hsk:D.names[k]? with
   | none=>rw[hsk] at hd;cases hd
   | some n=>
     rw[hsk] at hd;cases hd;have hn:n∈D.names:=yN hsk;have q:D4 n:=hr.1 n hn;left;refine QN ?_;left;refine#[p,tsD t,n,rfl,rfl,m,?_];left;refine B2 (C7 q) (xB hr.1) ?_;rw[if_neg nft,yE];refine B2 rfl rfl ?_;rw[if_neg nft,kG,AL,a3Q,IJ];have j:(decide (n∈t.map (·.1))==decide (D.made=ak n))=amB (t.map (·.1)) D n:=rfl;rw[j];cases hb:amB (t.map (·.1)) D n with
     | true=> left;refine#[_,zT _,λN g c e r=>?_];obtain⟨rfl,rfl,rfl⟩:=SU e m r;exact#[n,bA hk hsk hb,rfl,rfl,rfl]
     | false=>
       left;refine#[rfl,λy hy=>?_,_,rfl];rw[a2Q,hsk] at hy;rcases yW.mp hy with h | h;. exact hk y h
       . have:y=n:=by simpa using h
         rw[this];exact hb
 . rintro I i ⟨rfl,hk,x,rfl⟩;rw[zX,a1Q] at hk;refine#[_,zT _,λN g c e r=>?_];obtain⟨rfl,rfl,rfl⟩:=SU e m r;exact#[tP hk,rfl,rfl]
end
def mE:List Str:=["things","deed","word","name"]
section
local macro_rules | `(tactic| walk_at "y")=>`(tactic| first | exists PE _ (.Subscript ..) _,@CS _ _ _ _ _ _ dz (@pv _ 0 _ _ (by rfl) (by walk_at "lc") (by decide) (by decide)) (@pv _ 3 _ _ (by rfl) (by walk_at "lc") (by decide) (by decide)) (λ_ _=>rfl) | exists PE _ (.Subscript ..) _,@CS _ _ _ _ _ _ dz (@pv _ 0 _ _ (by rfl) (by walk_at "lc") (by decide) (by decide)) (by walk_at "e") (λ_ _=>rfl))
theorem mF (F:Fun K "change" "change" T7 f T) (O:Has P w K mg base "add_count" 1 ["things","name","more"] GG):FnOk P w K mg base CX0 2 f T ["things","deed"] (spD K 2 NH):=by
 refine hD mE F #[rfl,rfl,rfl,by decide +kernel,rfl,by decide +kernel,by decide +kernel] ?_;walk_at "hd";rintro S M I ⟨p,n,D,rfl,m,⟨nd,h⟩,hr,z⟩;have r:n.length < 64:=b9K h;have i:=BI z;cases D with
 | put x Y k=> have hx:x∉n.map (·.1):=λq=>(i x `jj).mp q rfl;rw[Deed.d];left;refine#[_,_,rfl,?_];left;refine BG ?_;left;refine#[p,tsD n,x,pcD Y k,rfl,rfl,rfl,m,CV r,?_];refine#[_,zT _,λg c b e t=>?_];obtain⟨rfl,rfl,rfl⟩:=IL (D:=Deed.put x Y k) m e t;refine#[rfl,?_];rw[C8];rfl
 | take x=> obtain⟨v,N⟩:=B1 ((i x `jj).mpr (by simp[Deed.made]));rw[Deed.d];left;refine#[_,_,rfl,?_];left;refine gQ ?_;left;refine#[p,tsD n,x,rfl,rfl,m,by rw[AL,N];rfl,?_];refine#[_,zT _,λg c b e t=>?_];obtain⟨rfl,rfl,rfl⟩:=IL (D:=Deed.take x) m e t;refine#[rfl,?_];rw[HE];rfl
 | move x Y=> obtain⟨v,N⟩:=B1 ((i x `jj).mpr (by simp[Deed.made]));rw[Deed.d];left;refine#[_,_,rfl,?_];left;refine BG ?_;left;refine FG ?_;left;refine#[p,tsD n,x,pcD v.1 v.2,rfl,rfl,m,by rw[AL,N];rfl,?_];left;refine AM (ds:=[.int v.1,.int v.2]) (d:=.int v.2) (AJ (j:=1) rfl) ?_;left;refine#[p,tsD n,x,pcD Y v.2,rfl,rfl,rfl,m,CV r,?_];refine#[_,zT _,λg c b e t=>?_];obtain⟨rfl,rfl,rfl⟩:=IL (D:=Deed.move x Y) m e t;refine#[rfl,?_];rw[C8];simp only[doT,N]
 | count x k=> obtain⟨v,N⟩:=B1 ((i x `jj).mpr (by simp[Deed.made]));rw[Deed.d];left;refine#[_,_,rfl,?_];left;refine S3 m N r ?_;left;refine#[_,zT _,λg c b e t=>?_];obtain⟨rfl,rfl,rfl⟩:=IL (D:=Deed.count x k) m e t;refine#[rfl,?_];rfl
 | name x y=> obtain⟨v,N⟩:=B1 ((i x `jj).mpr (by simp[Deed.made,hr.2.1.symm]));rw[Deed.d];left;refine#[_,_,rfl,?_];left;refine BG ?_;refine QO ?_;left;refine#[p,tsD n,rfl,m,?_];left;refine#[tsD n,x,pcD v.1 v.2,rfl,m,by rw[AL,N];rfl,?_];rw[HE];left;refine#[p,tsD (DQ n x),y,pcD v.1 v.2,rfl,rfl,rfl,zU,CV (zQ (yJ _ _) r),?_];rw[yI];refine#[_,zT _,λg c b e t=>?_];obtain⟨rfl,rfl,rfl⟩:=IL (D:=Deed.name x y) m e t;refine#[rfl,?_];rw[C8];simp only[doT,N]
 | split x y Y k=> obtain⟨v,N⟩:=B1 ((i x `jj).mpr (by simp[Deed.made,hr.2.1.symm]));rw[Deed.d];left;refine#[_,_,rfl,?_];left;refine S3 m N r ?_;left;refine BG ?_;left;refine#[p,tsD (IK n x (-k)),y,pcD Y k,rfl,rfl,rfl,zU,CV (by rw[qW];exact r),?_];rw[yI];refine#[_,zT _,λg c b e t=>?_];obtain⟨rfl,rfl,rfl⟩:=IL (D:=Deed.split x y Y k) m e t;refine#[rfl,?_];rw[C8];rfl
 | join x y=> obtain⟨v,N⟩:=B1 ((i x `jj).mpr (by simp[Deed.made]));obtain⟨u,Q⟩:=B1 ((i y `jj).mpr (by simp[Deed.made]));rw[Deed.d];left;refine#[_,_,rfl,?_];left;refine FG ?_;left;refine#[p,tsD n,y,pcD u.1 u.2,rfl,rfl,m,by rw[AL,Q];rfl,?_];left;refine AM (ds:=[.int u.1,.int u.2]) (d:=.int u.2) (AJ (j:=1) rfl) ?_;left;refine S3 m N r ?_;left;refine gQ ?_;left;refine#[p,tsD (IK n x u.2),y,rfl,rfl,zU,by rw[AL,a3Q,IJ,EE,<-IJ,Q];rfl,?_];rw[yI];refine#[_,zT _,λg c b e t=>?_];obtain⟨rfl,rfl,rfl⟩:=IL (D:=Deed.join x y) m e t;refine#[rfl,?_];rw[HE];simp only[doT,Q]
end
def A03:List Str:=["world","deed","things"]
section
theorem A04 (F:Fun K "done" "done" fF f T) (ah:HasX P w K mg base "refuse_undoable" 6 ["things","deed"] (DW u)) (U:Has P w K mg base "by_names" 1 ["world"] ED) (i:Has P w K mg base "change" 2 ["things","deed"] NH) (v:Has P w K mg base "rising_by_names" 1 ["things"] BS):FnOk P w K mg base CX0 7 f T ["world","deed"] (spD K 2 WP):=by refine hD A03 F #[rfl,rfl,rfl,by decide +kernel,rfl,by decide +kernel,by decide +kernel] ?_;walk_at "hd";rintro b M r ⟨w,D,rfl,hg⟩;obtain⟨n1,t⟩:=OW hg;obtain⟨hc,hr,h⟩:=hg;left;refine GP hc λp hp=>?_;left;refine ZL zU hr h ?_;left;refine ZM zU hc hr h ?_;rw[yI];left;refine GQ zU n1 t ?_;refine#[M,(zT M).put hp,λm n e=>?_];obtain⟨rfl,rfl⟩:=IM e;exact#[rfl,rfl]
end
def Y8:List Str:=["world","deed","things","word","name"]
section
local macro_rules | `(tactic| walk_at "y")=>`(tactic| first | exists PE _ (.Subscript ..) _,@CS _ _ _ _ _ _ dz (@pv _ 2 _ _ (by rfl) (by walk_at "lc") (by decide) (by decide)) (@pv _ 4 _ _ (by rfl) (by walk_at "lc") (by decide) (by decide)) (λ_ _=>rfl) | exists PE _ (.Subscript ..) _,@CS _ _ _ _ _ _ dz (@pv _ 2 _ _ (by rfl) (by walk_at "lc") (by decide) (by decide)) (by walk_at "e") (λ_ _=>rfl))
theorem Y9 (F:Fun K "back_deed" "back_deed" KL f T) (ah:HasX P w K mg base "refuse_undoable" 6 ["things","deed"] (DW i)) (U:Has P w K mg base "by_names" 1 ["world"] ED):FnOk P w K mg base (CXE P w) 7 f T ["world","deed"] (spX K 2 (LA i)):=by
 refine hDX Y8 F #[rfl,rfl,rfl,by decide +kernel,rfl,by decide +kernel,by decide +kernel] ?_;walk_at "hd";rintro b M m ⟨w,D,rfl,hc,hr⟩;left;refine GP hc λp hp=>?_;left;refine XE zU hr (λhn=>?_) λz r=>?_
 rotate_left
 . refine#[M,(zT M).put hp,λh t e=>?_];obtain⟨rfl,rfl⟩:=IM e;exact#[z,r,rfl,rfl,rfl]
 have n:=BI hn;cases D with
 | put x Y k=> rw[Deed.d];left;refine#[_,_,rfl,?_];left;refine#[M,(zT M).put hp,λh t e=>?_];obtain⟨rfl,rfl⟩:=IM (D:=Deed.put x Y k) e;refine#[hn,?_];exact#[rfl,rfl]
 | take x=> obtain⟨v,N⟩:=B1 ((n x `jj).mpr (by simp[Deed.made]));rw[Deed.d];left;refine#[_,_,rfl,?_];left;refine FG ?_;left;refine#[p,tsD w,x,pcD v.1 v.2,rfl,rfl,zU,by rw[AL,N];rfl,?_];refine CD (yD rfl) ?_;refine#[M,(zT M).put hp,λh t e=>?_];obtain⟨rfl,rfl⟩:=IM (D:=Deed.take x) e;refine#[hn,?_];exact#[by simp only[B4,N];rfl,rfl]
 | move x Y=> obtain⟨v,N⟩:=B1 ((n x `jj).mpr (by simp[Deed.made]));rw[Deed.d];left;refine#[_,_,rfl,?_];left;refine FG ?_;left;refine#[p,tsD w,x,pcD v.1 v.2,rfl,rfl,zU,by rw[AL,N];rfl,?_];left;refine AM (ds:=[.int v.1,.int v.2]) (d:=.int v.1) (AJ (j:=0) rfl) ?_;left;refine#[M,(zT M).put hp,λh t e=>?_];obtain⟨rfl,rfl⟩:=IM (D:=Deed.move x Y) e;refine#[hn,?_];exact#[by simp only[B4,N];rfl,rfl]
 | count x k=> rw[Deed.d];left;refine#[_,_,rfl,?_];left;refine#[M,(zT M).put hp,λh t e=>?_];obtain⟨rfl,rfl⟩:=IM (D:=Deed.count x k) e;refine#[hn,?_];exact#[rfl,rfl]
 | name x y=> rw[Deed.d];left;refine#[_,_,rfl,?_];left;refine#[M,(zT M).put hp,λh t e=>?_];obtain⟨rfl,rfl⟩:=IM (D:=Deed.name x y) e;refine#[hn,?_];exact#[rfl,rfl]
 | split x y Y k=> rw[Deed.d];left;refine#[_,_,rfl,?_];left;refine#[M,(zT M).put hp,λh t e=>?_];obtain⟨rfl,rfl⟩:=IM (D:=Deed.split x y Y k) e;refine#[hn,?_];exact#[rfl,rfl]
 | join x y=> obtain⟨u,Q⟩:=B1 ((n y `jj).mpr (by simp[Deed.made]));rw[Deed.d];left;refine#[_,_,rfl,?_];left;refine FG ?_;left;refine#[p,tsD w,y,pcD u.1 u.2,rfl,rfl,zU,by rw[AL,Q];rfl,?_];refine CD (yD rfl) ?_;refine#[M,(zT M).put hp,λh t e=>?_];obtain⟨rfl,rfl⟩:=IM (D:=Deed.join x y) e;refine#[hn,?_];exact#[by simp only[B4,Q];rfl,rfl]
end
theorem fQ (F:Fun K "__init__" "NoRow.__init__" CC f T) (c:XCls K C S (.ref f)) (cs:XSet K C "number"):FnOk P w K mg base CX0 1 f T ["self","number"] (EY C "number"):=
 hU F #[rfl,rfl,rfl,by decide +kernel,rfl,by decide +kernel,by decide +kernel] rfl c cs `kh (λ_=>rfl) (λX hN hS=>pv 0 (by rw[hN];rfl) (by rw[hS];exact Or.inl rfl)) (λX hN hS=>pv 1 (by rw[hN];rfl) (by rw[hS];exact Or.inl rfl))
def mG:List Str:=["world","row","here","back","number","deed"]
section
local macro_rules | `(tactic| walk_at "x")=>`(tactic| first | exists PG _ (.Tuple ..) _,@jO _ K _ _ _ _ (2) rfl rfl (by walk_at "j") (by rfl) (by rfl))
theorem mH (F:Fun K "walked" "walked" T8 f c) (df:mg "enumerate"=am) (ir:HasRA P w K mg base "NoRow" "number" T r) (c_:HasN K mg "NoDeed" x r) (er:HasR P w K mg base "NoRow" "number" T r) (de:HasR P w K mg base "NotNow" "name" u r) (X:HasX P w K mg base "back_deed" 7 ["world","deed"] (LA u)) (I:Has P w K mg base "by_names" 1 ["world"] ED) (Z:Has P w K mg base "done" 7 ["world","deed"] WP) (G:Has P w K mg base "rising_by_names" 1 ["things"] BS):FnOk P w K mg base (CXE P w) 8 f c ["world","row"] (spX K 2 (GX T iP)):=by
 refine hDX mG F #[rfl,rfl,rfl,by decide +kernel,rfl,by decide +kernel,by decide +kernel] ?_;walk_at "hd";rintro xs M Y ⟨w,t,rfl,n⟩;have m:=n.fine;have S:=n.few;unfold JO;left;refine GP #[m.1.nodup,by lia] λp hp=>?_;left;refine GQ zU m.1.nodup (by lia) ?_;rw[kB m.1];left;refine N9 ?_;left;intro A hA;have U:p≠A:=by rintro rfl;rw[zU] at hA;cases hA
 have j:M A=none:=by rw[yH U.symm] at hA;exact hA
 walk_at "wks";try walk_at "unf"
 refine rK ?_;refine t9 ?_;left;have hle:(Q2 (t.map Deed.d)).length=t.length:=by unfold Q2;rw[zX,List.length_zipIdx,zX]
 refine#[λk B M1=>k<=t.length/\CJ w (t.take k)/\M1=(M.put p (tsO w)).put A (.l (bkL w t k))/\∃(N b:Option DS),B=[ak (.d (wD w)),ak (.d (.tuple (t.map Deed.d))),ak (.d (wD (wsF w t k))),ak (.loc A),N,b],#[xT _,trivial,rfl,_,_,rfl],?_,?_]
 . rintro k d B M1 hd ⟨hk,hb,rfl,N,b,rfl⟩;have g:k < t.length:=by rw[<-hle];exact(yT.mp hd).1
   have hD:t[k]?=ak t[k]:=zV g;obtain rfl:d = .tuple [.int (k:Nat),(t[k]).d]:=by unfold Q2 at hd;rw[zF,List.getElem?_zipIdx,zF,hD] at hd;simpa using hd.symm
   obtain⟨J,Q⟩:=tY n hb hk;have hr:=n.real _ (a1V g);generalize t[k]=D at hD hr;left;try walk_at "unf"
   refine A0V λL=>?_;try walk_at "unf"
   refine rJ (h8 (A3d ?_));walk_at "dl";refine#[IF zU,?_];refine rM (HH ?_);left;refine eV Q hr (λq=>?_) λz v=>?_
   . have hg:goD (wsF w t k) D:=#[Q,hr,q]
     refine rL (nV ?_);refine EB zU (by rw[yK];exact zP (show k < 60 by lia) `kh) ?_;refine F4 ?_;left;refine kC hg ?_;refine#[by lia,Q4 hb hD hg,?_,ak (.d (.int (k:Nat))),ak (.d D.d),?_];. rw[yI,r6];congr 3;simp only[bkF,hD]
     . rw[gW hD];rfl
   . refine#[.inr rfl,(λz' e=>by unfold nnX at e;injection e with e;injection e with e;exact absurd e (by decide +kernel)),?_];left;refine#[M,((zT M).put hp).put j,λO y e=>?_];obtain⟨rfl,rfl⟩:=L9 e;exact#[k,#[hb,D,hD,by rw[v];exact Option.some_ne_none z],rfl,rfl,rfl]
 . rintro B M1 ⟨hk,hb,h⟩;rw[hle] at h hb;rw[a1Q] at hb;obtain⟨rfl,N,b,rfl⟩:=h;refine F4 ?_;try walk_at "unf"
   refine F8 (i:=3) (a:=A) rfl zU ?_;rw[yG hA];left;refine#[M,(zT M).put hp,λO y e=>?_];obtain⟨rfl,rfl⟩:=L9 e;refine#[hb,?_,rfl];rw[show wsF w t t.length=K0 w t by unfold wsF;rw[a1Q]];rfl
end
def A05:List Str:=["world","row"]
theorem A06 (F:Fun K "gone" "gone" fG f t) (O:HasX P w K mg base "walked" 8 ["world","row"] (GX T iP)):FnOk P w K mg base (CXE P w) 9 f t ["world","row"] (spX K 2 (GX T tQ)):=by
 refine hDX A05 F #[rfl,rfl,rfl,by decide +kernel,rfl,by decide +kernel,by decide +kernel] ?_;walk_at "hd";rintro p M m ⟨w,D,rfl,n⟩;unfold JO;try walk_at "unf"
 refine dW (A3e (HH ?_));left;refine iQ n (λhb=>?_) λi hi=>?_;. left;unfold iP;refine AM (d:=wD (K0 w D)) rfl ?_;refine#[M,zT M,λh r e=>?_];obtain⟨rfl,rfl⟩:=L9 e;exact#[hb,rfl,rfl]
 . refine#[M,zT M,λh r e=>?_];obtain⟨rfl,rfl⟩:=L9 e;exact#[i,hi,rfl,rfl,rfl]
def mI:List Str:=["world","row"]
section
theorem mJ (F:Fun K "behind" "behind" T9 f n) (k:XM K T T) (er:HasR P w K mg base "NoRow" "number" T m) (I:HasX P w K mg base "gone" 9 ["world","row"] (GX T tQ)):FnOk P w K mg base CX0 10 f n ["world","row"] (spD K 2 IY):=by
 refine hD mI F #[rfl,rfl,rfl,by decide +kernel,rfl,by decide +kernel,by decide +kernel] ?_;walk_at "hd";rintro b M p ⟨w,D,rfl,t⟩;unfold JO;try walk_at "unf"
 refine A3L λR=>?_;try walk_at "unf"
 refine dW (HH ?_);left;refine iQ t (λhb=>?_) λi hi=>#[#[T,rfl,k],?_]
 . refine#[M,zT M,λh r e=>?_];obtain⟨rfl,rfl⟩:=L9 e;rw[iT t hb];exact#[rfl,rfl]
 . left;refine#[M,zT M,λh r e=>?_];obtain⟨rfl,rfl⟩:=L9 e;rw[A0W t hi];exact#[rfl,rfl]
end
def uJ:List Str:=["world","row","other"]
theorem uK (F:Fun K "parts" "parts" XR f T) (t:Has P w K mg base "behind" 10 ["world","row"] IY):FnOk P w K mg base CX0 11 f T ["world","row","other"] (spD K 3 LH):=by refine hD uJ F #[rfl,rfl,rfl,by decide +kernel,rfl,by decide +kernel,by decide +kernel] ?_;walk_at "hd";rintro i M r ⟨w,X,Y,rfl,h1,n⟩;unfold prX JF;left;refine LX h1 ?_;left;refine LX n ?_;refine B2 (P8 h1) (P8 n) ?_;rw[if_pos rfl];refine#[M,zT M,λh m p e=>?_];obtain⟨rfl,rfl,rfl⟩:=A0e e;rw[A3k h1 n];exact#[rfl,rfl]
def mK:List Str:=["names"]
section
local macro_rules | `(tactic| walk_at "y")=>`(tactic| first | exists PE _ (.Call (.Name (a0Q "sorted") _) ..) _,@GY _ _ _ _ _ _ _ _ _ (@A0C _ K rfl) (by rfl) ax PyProof.Rows.boot_sorted (by walk_at "a") `kh `kh (by rfl) (by rfl))
theorem mL (F:Fun K "rising" "rising" TB f T) (ax:mg "sorted"=am) (n:mg "tuple"=am):FnOk P w K mg base CX0 1 f T ["names"] (spD K 1 EG):=by refine hD mK F #[rfl,rfl,rfl,by decide +kernel,rfl,by decide +kernel,by decide +kernel] ?_;walk_at "hd";rintro p M r ⟨l,rfl,t⟩;rw[show AO l = .tuple (l.map .str) from rfl];left;refine l6 t λm hp hs=>?_;left;refine KU ?_;refine#[M,zT M,λi e=>?_];simp only[List.cons.injEq,DS.d.injEq,and_true] at e;rw[<-FL e,i7 hp hs];exact#[rfl,rfl]
end
def IA:List Str:=["told"]
def FW:List Str:=["name","place","froms","plus"]
def FX:List (Option Nat):=[am,am,am,am]
section
local macro_rules | `(tactic| walk_at "x")=>`(tactic| first | exists PG _ (.Tuple ..) _,@jO _ K _ _ _ _ (4) rfl rfl (by walk_at "j") (by rfl) (by rfl))
theorem PH (F:Fun K "by_left_names" "by_left_names" DH f T):FnOk P w K mg base CX0 1 f T ["told"] (spD K 1 IS):=by
 refine hD IA F #[rfl,rfl,rfl,by decide +kernel,rfl,by decide +kernel,by decide +kernel] ?_;walk_at "hi";have G:FW.Nodup:=by decide +kernel
 walk_at "nm";clear G nd;rintro c M r ⟨E,rfl,B,n⟩;left;refine RX (cV (F3 (F3 (F3 (F3 cU))))) (by simp[FX]) ?_;refine BP ?_;left;refine AM (ds:=[AO E.st,AO E.fr,.tuple (E.lf.map lfE)]) (d:=.tuple (E.lf.map lfE)) rfl ?_;refine#[_,rfl,?_];refine#[by rw[zX];exact zQ n `kh,λ_=>au,nmE,vlE,?_,?_,λp hp=>?_];. rw[QC,zD];exact B
 . intro d hd i;obtain⟨t,b,rfl⟩:=zL.mp hd;unfold lfE;left;refine#[rfl,?_];walk_at "dl";refine#[rfl,rfl,λ_=>?_];left;refine#[rfl,rfl,?_];left;exact#[rfl,rfl]
 rw[QC,zD];refine#[_,zT _,λm e=>?_];simp only[List.cons.injEq,DS.d.injEq,and_true] at e;rw[<-F5 e];exact#[p,hp,rfl,rfl]
end
def TM:List Str:=["one","between","other","missing","in_the_way"]
def TN:List Str:=["name","between","one"]
def TQ:List (Option Nat):=[am,ak 1,ak 0]
def TR:List Str:=["name","between"]
def TU:List (Option Nat):=[am,ak 1]
section
local macro_rules | `(tactic| walk_at "x")=>`(tactic| first | exists PT _ (.Compare _ [.In] ..) _,@CQ _ _ _ _ _ _ _ _ (@kIn _ K rfl) `jz `jz (by with_unfolding_all rfl))
local macro_rules | `(tactic| walk_at "y")=>`(tactic| first | exists PT _ (.Compare _ [.NotIn] ..) _,@OE _ _ _ _ _ _ (@UT _ _ _ _ _ dz (@pv _ 0 _ _ (by rfl) (by walk_at "lc") `kh `kh) (@pv _ 1 _ _ (by rfl) (by walk_at "lc") `kh `kh)) (by with_unfolding_all rfl) | exists PT _ (.Compare _ [.In] ..) _,@OE _ _ _ _ _ _ (@OH _ _ _ _ _ dz (@pv _ 0 _ _ (by rfl) (by walk_at "lc") `kh `kh) (@pv _ 1 _ _ (by rfl) (by walk_at "lc") `kh `kh)) (by with_unfolding_all rfl))
theorem uL (F:Fun K "clash" "clash" O7 f T) (v:mg "len"=am):FnOk P w K mg base CX0 1 f T ["one","between","other"] (spD K 3 HN):=by
 refine hD TM F #[rfl,rfl,rfl,by decide +kernel,rfl,by decide +kernel,by decide +kernel] ?_;walk_at "hi";have G:TN.Nodup:=by decide +kernel
 have n1:TR.Nodup:=by decide +kernel
 walk_at "nm";clear G n1 nd;rintro B M y ⟨J,one,other,p,rfl,m,h1,i,hn⟩;have c:=E6 hn i.st;have j:=E6 hn i.fr;have N:=E6 hn h1.st;have O:=E6 hn h1.fr;have sz:∀{l:List Str},l.length<=26->(l.map a0Z).length < sizeLine:=λ{l} h=>by rw[zX];exact zQ h `kh
 have x:∀z,(B3 (one.lf.map λt=>(t.1,DY t.2)) z).isSome=D6 one.lf z:=λz=>by rw[HR,a3Q];rfl
 rw[show clX one other p=[.d one.d,.loc p,.d other.d] from rfl];left;refine B7 (B0 0) (by simp[TQ]) ?_;refine BP ?_;left;refine AM (ds:=[AO other.st,AO other.fr,.tuple (other.lf.map lfE)]) (d:=AO other.st) rfl ?_;refine#[_,rfl,?_];refine#[sz c,msT (one.st++one.fr) one.lf,id,?_,?_]
 . rintro d hd A acc r hA rfl;obtain⟨z,u,rfl⟩:=zL.mp hd;have U:p≠A:=by rintro rfl;rw[m] at hA;cases hA
   walk_at "dl";refine#[rfl,?_];left;refine AM (ds:=[AO one.st,AO one.fr,.tuple (one.lf.map lfE)]) (d:=AO one.st) rfl ?_;left;refine AM (ds:=[AO one.st,AO one.fr,.tuple (one.lf.map lfE)]) (d:=AO one.fr) rfl ?_;refine CD (by rw[zX,zX];exact zN (show _<=52 by lia) `kh) ?_;rw[<-xI];refine gJ ?_;cases hk:decide (z∈one.st++one.fr) with
   | false=>
     refine#[_,rfl,?_];left;refine#[rfl,?_,λq=>?_];. show aB=(decide (z∈one.st++one.fr)&&!D6 one.lf z);rw[hk];rfl
     . have g:(decide (z∈one.st++one.fr)&&!D6 one.lf z)=true:=q;rw[hk] at g;cases g
   | true=>
     refine#[_,rfl,?_];left;refine aC ?_;left;refine#[p,_,z,rfl,rfl,by rw[yH U];exact m,?_];rw[x];refine#[_,rfl,rfl,?_,λ_=>?_];. show _=(decide (z∈one.st++one.fr)&&!D6 one.lf z);rw[hk];rfl
     left;exact#[rfl,rfl]
 left;refine B7 (B0 0) (by simp[TU]) ?_;refine BP ?_;left;refine AM (ds:=[AO other.st,AO other.fr,.tuple (other.lf.map lfE)]) (d:=AO other.fr) rfl ?_;refine#[_,rfl,?_];refine#[sz j,wyT one.lf,id,?_,?_]
 . rintro d hd A acc r hA rfl;obtain⟨z,u,rfl⟩:=zL.mp hd;have U:p≠A:=by rintro rfl;rw[m] at hA;cases hA
   walk_at "dl";refine#[rfl,?_];left;refine QN ?_;left;refine#[p,_,z,rfl,rfl,by rw[yH U];exact m,?_];rw[x];refine#[_,rfl,rfl,rfl,λ_=>?_];left;exact#[rfl,rfl]
 left;refine KS ?_;rw[A3S];left;have fin:∀{b:Bool},b=B6 one other->∃k:Own,k.Sub M/\HN.post [.d one.d,.loc p,.d other.d] M (.d (.bool b)) k:=λ{b} e=>#[M,zT M,λS D I e'=>by simp only[clX,List.cons.injEq,DS.d.injEq,DS.loc.injEq,and_true] at e';rw[<-F5 e'.1,<-F5 e'.2.2,e];exact#[rfl,rfl]]
 rw[i8];cases h1:other.st.any (λn=>decide (n∈one.st++one.fr)&&!D6 one.lf n) with
 | true=> rw[if_pos rfl];exact fin (by unfold B6;rw[h1];rfl)
 | false=> rw[if_neg nft];left;refine KS ?_;rw[A3T];left;rw[i8];exact fin (by unfold B6;rw[h1];rfl)
end
def PJ:List Str:=["between","place","froms","plus","firsts","name"]
section
local macro_rules | `(tactic| walk_at "x")=>`(tactic| first | exists PS _ (.AugAssign ..) _,@VY _ _ (4) _ _ _ _ _ _ nd rfl (by walk_at "lc") `jz (@dY _ K rfl) (by walk_at "or") | exists PS _ (.AugAssign ..) _,@VY _ _ (3) _ _ _ _ _ _ nd rfl (by walk_at "lc") `jz (@dY _ K rfl) (by walk_at "or"))
local macro_rules | `(tactic| walk_at "y")=>`(tactic| first | exists PE _ (.Subscript ..) _,@CS _ _ _ _ _ _ dz (@pv _ 0 _ _ (by rfl) (by walk_at "lc") (by decide) (by decide)) (@pv _ 1 _ _ (by rfl) (by walk_at "lc") (by decide) (by decide)) (λ_ _=>rfl) | exists PE _ (.Subscript ..) _,@CS _ _ _ _ _ _ dz (@pv _ 0 _ _ (by rfl) (by walk_at "lc") (by decide) (by decide)) (@pv _ 5 _ _ (by rfl) (by walk_at "lc") (by decide) (by decide)) (λ_ _=>rfl))
theorem PK (F:Fun K "told_at_first" "told_at_first" EZ f T) (L:mg "isinstance"=am) (jm:mg "str"=am) (X:Has P w K mg base "rising" 1 ["names"] EG):FnOk P w K mg base CX0 2 f T ["between","place","froms","plus"] (spD K 4 K4):=by
 refine hD PJ F #[rfl,rfl,rfl,by decide +kernel,rfl,by decide +kernel,by decide +kernel] ?_;walk_at "hd";rintro xs M hl ⟨i,e,rfl,S,hp,j⟩;rw[show taX i e=[.d (aE i),.d (plE e.1),.d (AO e.2.1),.d (.int e.2.2)] from rfl];have N:∀n,D6 i n=au->B3 (i.map λt:Str×Ent=>(t.1,DY t.2)) n=ak (DY (AI i n)):=λn h=>by rw[HR];unfold D6 at h;obtain⟨v,N⟩:=xX.mp h;unfold AI;rw[N];rfl
 have fin:∀{y:DS},y = .d (DY (BD i e))->∃r:Own,r.Sub M/\K4.post [.d (aE i),.d (plE e.1),.d (AO e.2.1),.d (.int e.2.2)] M y r:=λ{y} I=>#[M,zT M,λY e' D=>by
   simp only[taX,List.cons.injEq,DS.d.injEq,DS.loc.injEq,PyData.int.injEq,and_true] at D;obtain⟨p,u,x,z⟩:=D;have p:=sO p;subst p;have:e=e':=by obtain⟨a,b,c⟩:=e;obtain⟨J,Q,U⟩:=e';simp only at u x z;rw[X4 u,FL x,z]
   subst this;exact#[I,rfl]]
 have G:∀n,e.1 = .inr n->D6 i n=true:=hp;try walk_at "unf"
 refine IG (λB M1=>M1=M/\∃O Z:Option DS,B=[ak (.d (aE i)),ak (.d (plE (BD i e).1)),ak (.d (AO e.2.1)),ak (.d (.int e.2.2)),O,Z]) ?_ ?_
 . cases he:e.1 with
   | inl q=> rw[show plE (.inl q) = .int q from rfl];left;refine#[rfl,am,am,?_];rw[show(BD i e).1 = .inl q by unfold BD;rw[he]];rfl
   | inr n=> have hn:=N n (G n he);rw[show plE (.inr n) = .str n from rfl];left;refine HC ?_;left;refine#[_,n,_,rfl,rfl,hn,?_];left;refine AM (ds:=[plE (AI i n).1,AO (AI i n).2.1,.int (AI i n).2.2]) (d:=plE (AI i n).1) rfl ?_;refine#[rfl,am,am,?_];rw[show(BD i e).1=(AI i n).1 by unfold BD;rw[he]];rfl
 . rintro B M1 ⟨rfl,O,Z,rfl⟩;rw[show AO e.2.1 = .tuple (e.2.1.map .str) from rfl];left;try walk_at "unf"
   refine E2 ?_;refine BP ?_;left;refine#[λk B r=>r=M1/\∃Z:Option DS,B=[ak (.d (aE i)),ak (.d (plE (BD i e).1)),ak (.d (.tuple (e.2.1.map .str))),ak (.d (.int (e.2.2+((e.2.1.take k).map λn=>(AI i n).2.2).sum))),ak (.d (.tuple (((e.2.1.take k).flatMap λn=>(AI i n).2.1).map .str))),Z],#[rfl,_,by rw[List.take_zero,show((([]:List Str).map λn=>(AI i n).2.2).sum)=0 from rfl,Int.add_zero];rfl],?_,?_]
   . rintro k d B r hd ⟨rfl,Z,rfl⟩;have g:k < e.2.1.length:=by have:=(yT.mp hd).1;rw[zX] at this;exact this
     obtain rfl:a0Z (e.2.1[k])=d:=by rw[zF,zV g] at hd;simpa using hd
     have hk:=N _ (S _ (a1V g));have htk:e.2.1.take (k+1)=e.2.1.take k++[e.2.1[k]]:=by rw[a2Q,zV g];rfl
     have m:(((e.2.1.take (k+1)).flatMap λn=>(AI i n).2.1)).length < 64:=zQ (by
       have:=(b1K (k+1) e.2.1).symm
       conv=>rhs;rw[this,b0K,yY]
       exact c0K _ _) j;rw[htk,b0K,yY] at m;left;try walk_at "unf"
     refine WX #[_,rfl,?_];left;refine HC ?_;left;refine#[_,_,_,rfl,rfl,hk,?_];left;generalize e.2.1[k]=n at hk htk m;refine AM (ds:=[plE (AI i n).1,AO (AI i n).2.1,.int (AI i n).2.2]) (d:=AO (AI i n).2.1) rfl ?_;refine zO (by rw[zX,zX];simp only[b0X,List.flatMap_nil,a4K] at m;exact zN (xR m) `kh) ?_;left;try walk_at "unf"
     refine WX #[_,rfl,?_];left;refine HC ?_;left;refine#[_,n,_,rfl,rfl,hk,?_];left;refine AM (ds:=[plE (AI i n).1,AO (AI i n).2.1,.int (AI i n).2.2]) (d:=.int (AI i n).2.2) rfl ?_;refine i4 ?_;refine#[rfl,ak (.d (.str n)),?_];rw[htk,b0K,xI,xI,List.sum_append,<-Int.add_assoc];simp only[b0X,List.flatMap_nil,a4K,zI,b8X,b0J,List.sum_nil,Int.add_zero];rfl
   . rintro B r ⟨rfl,Z,rfl⟩;rw[zX,a1Q];left;rw[show c0Z ((e.2.1.flatMap λn=>(AI i n).2.1).map .str)=AO (e.2.1.flatMap λn=>(AI i n).2.1) from rfl];refine EJ j ?_;left;exact fin rfl
end
def TV:List Str:=["deed","word","name","other","parts","both"]
section
theorem TX (F:Fun K "deed_effect" "deed_effect" GU f T) (r:Has P w K mg base "rising" 1 ["names"] EG) (v:Has P w K mg base "rising_by_names" 1 ["things"] BS):FnOk P w K mg base CX0 2 f T ["deed"] (spD K 1 HP):=by
 refine hD TV F #[rfl,rfl,rfl,by decide +kernel,rfl,by decide +kernel,by decide +kernel] ?_;walk_at "hd";rintro p M m ⟨D,rfl,hr⟩;have fin:∀{E:Eff},AD D=E->∃t:Own,t.Sub M/\HP.post [.d D.d] M (.d E.d) t:=λ{E} e=>#[M,zT M,λi e'=>by simp only[List.cons.injEq,DS.d.injEq,and_true] at e';rw[<-BW e',e];exact#[rfl,rfl]]
 cases D with
 | put x Y k=> rw[Deed.d];left;refine#[_,_,rfl,?_];left;exact fin rfl
 | take x=> rw[Deed.d];left;refine#[_,_,rfl,?_];left;exact fin rfl
 | move x Y=> rw[Deed.d];left;refine#[_,_,rfl,?_];left;exact fin rfl
 | count x k=> rw[Deed.d];left;refine#[_,_,rfl,?_];left;exact fin rfl
 | name x y=> rw[Deed.d];left;refine#[_,_,rfl,?_];left;exact fin rfl
 | split x y Y k=> rw[Deed.d];left;refine#[_,_,rfl,?_];left;refine l0 λq hq=>?_;refine Z4 ?_;left;refine Z4 ?_;left;refine wW ?_;refine#[zU,by show 2<=15;decide,by simpa using (show x≠y from hr.2.1),?_];rw[yI];left;refine LV (es:=[(x,.inr x,[x],-k),(y,.inl Y,[],k)]) zU (by simpa using (show x≠y from hr.2.1)) (by show 2 < 64;decide) ?_;left;obtain⟨t,h1,n⟩:=fin (E:=AD (.split x y Y k)) rfl;exact#[t,λb o e=>((zT M).put hq) b o (h1 b o e),n]
 | join x y=> rw[Deed.d];left;refine#[_,_,rfl,?_];left;rw[show c0Z [.str x,.str y]=AO [x,y] from rfl];refine EJ (by show 2 < 64;decide) ?_;left;exact fin rfl
end
def EH:List Str:=["one","other","between","known","stand","free","name","behind","place","froms","plus"]
def FY:List Str:=["name","known"]
def DK:List (Option Nat):=[am,ak 3]
def FZ:List Str:=["name","between","other"]
def G0:List (Option Nat):=[am,ak 2,ak 1]
section
local macro_rules | `(tactic| walk_at "x")=>`(tactic| first | exists PT _ (.Compare _ [.NotIn] ..) _,@CQ _ _ _ _ _ _ _ _ (@A2v _ K rfl) `jz `jz (by with_unfolding_all rfl) | exists PG _ (.Tuple ..) _,@jO _ K _ _ _ _ (4) rfl rfl (by walk_at "j") (by rfl) (by rfl))
local macro_rules | `(tactic| walk_at "y")=>`(tactic| first | exists PI _ _ (.Name ..) _,@hW _ _ _ _ (@pv _ 2 _ _ (by rfl) (by walk_at "lc") (by decide) (by decide)) | exists PE _ (.Subscript ..) _,@CS _ _ _ _ _ _ dz (@pv _ 1 _ _ (by rfl) (by walk_at "lc") (by decide) (by decide)) (@pv _ 0 _ _ (by rfl) (by walk_at "lc") (by decide) (by decide)) (λ_ _=>rfl))
theorem PL (F:Fun K "effect_behind" "effect_behind" CG f S) (aq:mg "tuple"=am) (cn:Has P w K mg base "by_left_names" 1 ["told"] IS) (ox:Has P w K mg base "clash" 1 ["one","between","other"] HN) (cb:Has P w K mg base "rising" 1 ["names"] EG) (ae:Has P w K mg base "rising_by_names" 1 ["things"] BS) (cq:Has P w K mg base "told_at_first" 2 ["between","place","froms","plus"] K4):FnOk P w K mg base CX0 3 f S ["one","other"] (spD K 2 IT):=by
 refine hD EH F #[rfl,rfl,rfl,by decide +kernel,rfl,by decide +kernel,by decide +kernel] ?_;walk_at "hi";have n0:FY.Nodup:=by decide +kernel
 have n1:FZ.Nodup:=by decide +kernel
 walk_at "nm";clear n0 n1 nd;rintro xs M hl ⟨ys,one,other,rfl,h1,r,hn⟩;have J:=E6 hn h1.st;have L:=E6 hn h1.fr;have Q:=E6 hn r.st;have U:=E6 hn r.fr;have l5:=rZ hn h1;left;refine aF h1.keys (by lia) λp hp=>?_;left;refine eI zU h1 r hn ?_;cases hc:B6 one other with
 | true=> left;refine#[M,(zT M).put hp,λX ue e=>?_];simp only[List.cons.injEq,DS.d.injEq,and_true] at e;rw[<-F5 e.1,<-F5 e.2,show B9 one other=am by unfold B9;rw[hc];rfl];exact#[rfl,rfl]
 | false=>
   have sz:∀{l:List Str},l.length<=26->(l.map a0Z).length < sizeLine:=λ{l} h=>by rw[zX];exact zQ h `kh
   have add:∀{a b:List Str},a.length<=26->b.length<=26->(a.map a0Z).length+(b.map a0Z).length<=sizeLine:=λ{a b} h h'=>by rw[zX,zX];exact zN (show _<=52 by lia) `kh
   have Z:(other.st.filter λn=>!decide (n∈one.st++one.fr)).length<=26:=zN (yJ _ _) Q;have Om:(other.fr.filter λn=>!decide (n∈one.st++one.fr)).length<=26:=zN (yJ _ _) U;left;refine AM (ds:=[AO one.st,AO one.fr,.tuple (one.lf.map lfE)]) (d:=AO one.st) rfl ?_;left;refine AM (ds:=[AO one.st,AO one.fr,.tuple (one.lf.map lfE)]) (d:=AO one.fr) rfl ?_;refine CD (add J L) ?_;rw[<-xI];left;refine AM (ds:=[AO one.st,AO one.fr,.tuple (one.lf.map lfE)]) (d:=AO one.st) rfl ?_;left;refine BO (B0 0) (by simp[DK]) ?_;refine BP ?_;left;refine AM (ds:=[AO other.st,AO other.fr,.tuple (other.lf.map lfE)]) (d:=AO other.st) rfl ?_;refine#[_,rfl,?_];refine#[sz Q,frT (one.st++one.fr),id,?_,?_];. intro d hd I;obtain⟨z,hz,rfl⟩:=zL.mp hd;walk_at "dl";refine#[rfl,?_];left;refine NF ?_;refine#[_,rfl,rfl,rfl,λ_=>?_];left;exact#[rfl,rfl]
   rw[SE];left;refine KU ?_;refine CD (add J Z) ?_;rw[<-xI,show(one.st++other.st.filter λz=>!decide (z∈one.st++one.fr))=AQ one other from rfl];left;refine AM (ds:=[AO one.st,AO one.fr,.tuple (one.lf.map lfE)]) (d:=AO one.fr) rfl ?_;left;refine BO (B0 0) (by simp[DK]) ?_;refine BP ?_;left;refine AM (ds:=[AO other.st,AO other.fr,.tuple (other.lf.map lfE)]) (d:=AO other.fr) rfl ?_;refine#[_,rfl,?_];refine#[sz U,frT (one.st++one.fr),id,?_,?_];. intro d hd I;obtain⟨z,hz,rfl⟩:=zL.mp hd;walk_at "dl";refine#[rfl,?_];left;refine NF ?_;refine#[_,rfl,rfl,rfl,λ_=>?_];left;exact#[rfl,rfl]
   rw[SE];left;refine KU ?_;refine CD (add L Om) ?_;rw[<-xI,show(one.fr++other.fr.filter λz=>!decide (z∈one.st++one.fr))=D5 one other from rfl];left;try walk_at "unf"
   refine E2 ?_;refine BP ?_;left;refine#[λk B M1=>M1=M.put p (U3 (one.lf++(P0 one ((AQ one other).take k)).map NT))/\∃O T g j G:Option DS,B=[ak (.d one.d),ak (.d other.d),ak (.loc p),ak (.d (.tuple ((one.st++one.fr).map .str))),ak (.d (.tuple ((AQ one other).map .str))),ak (.d (.tuple ((D5 one other).map .str))),O,T,g,j,G],#[by rw[List.take_zero];show _=M.put p (U3 (one.lf++[]));rw[a4K],_,_,_,_,_,rfl],?_,?_]
   . rintro k d B M1 hd ⟨rfl,O,T,g,j,G,rfl⟩;have m:k < (AQ one other).length:=by have:=(yT.mp hd).1;rw[zX] at this;exact this
     have hk:(AQ one other)[k]?=ak (AQ one other)[k]:=zV m;obtain rfl:a0Z ((AQ one other)[k])=d:=by rw[zF,hk] at hd;simpa using hd
     generalize (AQ one other)[k]=n at hk;left;refine NF ?_;cases x:decide (n∈one.st++one.fr) with
     | true=> left;refine#[?_,_,_,_,_,_,rfl];rw[aJ hk,x,if_pos rfl,a4K]
     | false=>
       have se:=of_decide_eq_false x;left;refine BG ?_;left;refine#[p,LL (one.lf++(P0 one ((AQ one other).take k)).map NT),n,DY (.inr n,[n],0),rfl,rfl,rfl,zU,?_,?_];. rw[zX,yY,zX];have Eb:(P0 one ((AQ one other).take k)).length<=(AQ one other).length:=zN (yJ _ _) (List.length_take_le' _ _);have y_:=E6 hn (NW h1 r);exact zQ (show _<=78 by lia) `kh
       rw[yI,iA,lA (sH h1 r hk se)];refine#[?_,_,_,_,_,_,rfl];rw[aJ hk,x,if_neg nft,xI,<-List.append_assoc];rfl
   . rintro B M1 ⟨rfl,O,T,g,j,G,rfl⟩;rw[zX,a1Q,lB,show one.lf++(other.st.filter λn=>!decide (n∈one.st++one.fr)).map NT=BJ one other from rfl];have bk:=NV h1 r;have bl:(BJ one other).length<=78:=by unfold BJ;rw[yY,zX];lia
     have ll:=rZ hn r;try walk_at "unf"
     refine IP (i:=2) (a:=p) rfl zU ?_;rw[yG hp];left;refine RX (B0 0) (by simp[G0]) ?_;refine i0 ?_;left;refine#[by rw[zX,zX];exact zQ bl `kh,frT other.st,SJ,A5A (BJ one other),lC bk _,?_,λq hq=>?_];. intro d hd I;obtain⟨s0,xv,rfl⟩:=zL.mp hd;obtain⟨t,Y,rfl⟩:=zL.mp xv;have N:=QT bk Y;walk_at "dl";refine#[rfl,?_];left;refine AM (ds:=[AO other.st,AO other.fr,.tuple (other.lf.map lfE)]) (d:=AO other.st) rfl ?_;refine NF ?_;refine#[_,rfl,rfl,rfl,λ_=>?_];left;refine#[rfl,rfl,?_];refine HC ?_;left;refine#[LL (BJ one other),t.1,DY t.2,rfl,rfl,by rw[HR,N];rfl,?_];refine#[?_,rfl];show _=DS.d (DY (AI (BJ one other) t.1));unfold AI;rw[N];rfl
     rw[sI bk];left;try walk_at "unf"
     refine E2 ?_;refine BP ?_;left;refine AM (ds:=[AO other.st,AO other.fr,.tuple (other.lf.map lfE)]) (d:=.tuple (other.lf.map lfE)) rfl ?_;refine#[_,rfl,?_];refine#[λk B M1=>M1=M.put q (U3 (NX one other k))/\∃D u y v:Option DS,B=[ak (.d one.d),ak (.d other.d),ak (.d (aE (BJ one other))),ak (.d (.tuple ((one.st++one.fr).map .str))),ak (.d (.tuple ((AQ one other).map .str))),ak (.d (.tuple ((D5 one other).map .str))),D,ak (.loc q),u,y,v],#[rfl,_,_,_,_,rfl],?_,?_]
     . rintro k d B M1 hd ⟨rfl,D,u,y,v,rfl⟩;have m:k < other.lf.length:=by have:=(yT.mp hd).1;rw[zX] at this;exact this
       have hk:other.lf[k]?=ak other.lf[k]:=zV m;obtain rfl:lfE (other.lf[k])=d:=by rw[zF,hk] at hd;simpa using hd
       have c:=a1V m;generalize other.lf[k]=t at hk c;rw[show lfE t = .tuple [.str t.1,plE t.2.1,AO t.2.2.1,.int t.2.2.2] from rfl];left;refine BG ?_;left;refine aQ (e:=t.2) (λn cx=>K5 h1 r hc ((r.from_ t c).2 n cx)) (λn vg=>K5 h1 r hc (r.place t c n vg)) (sF hn h1 r hc c) ?_;left;refine#[q,LL (NX one other k),t.1,_,rfl,rfl,rfl,zU,?_,?_];. rw[zX];have:=lD one other k;exact zQ (show _<=130 by lia) `kh
       rw[yI,iA,<-eD hk];exact#[rfl,_,_,_,_,rfl]
     . rintro B M1 ⟨rfl,D,u,y,v,rfl⟩;rw[zX,lE];have s1:=E6 hn (NW h1 r);have s2:=E6 hn (iC h1 r);left;refine EJ (l:=AQ one other) (by lia) ?_;left;refine EJ (l:=D5 one other) (by lia) ?_;left;refine LV zU (HU h1 r) (sJ hn h1 r hc) ?_;left;refine#[M,(zT M).put hq,λX ue e=>?_];simp only[List.cons.injEq,DS.d.injEq,and_true] at e;rw[<-F5 e.1,<-F5 e.2,show B9 one other=ak #[BU (AQ one other),BU (D5 one other),DF (DU one other)] by unfold B9;rw[hc];rfl];exact#[rfl,rfl]
end
def mM:List Str:=["row","whole","deed"]
theorem mN (F:Fun K "effect" "effect" TC f T) (g:Has P w K mg base "deed_effect" 2 ["deed"] HP) (G:Has P w K mg base "effect_behind" 3 ["one","other"] IT):FnOk P w K mg base CX0 4 f T ["row"] (spD K 1 IU):=by
 refine hD mM F #[rfl,rfl,rfl,by decide +kernel,rfl,by decide +kernel,by decide +kernel] ?_;walk_at "hd";rintro q M j ⟨b,t,rfl,hn,hD,u⟩;left;try walk_at "unf"
 refine E2 ?_;refine BP ?_;left;refine#[λk B M1=>M1=M/\∃(E:Eff) (m:Option DS),AX (t.take k)=ak E/\OkE b E/\B=[ak (.d (.tuple (t.map Deed.d))),ak (.d E.d),m],#[rfl,#[[],[],[]],_,rfl,OkE.nil b,rfl],?_,?_]
 . rintro k d B M1 hd ⟨rfl,E,m,hE,hok,rfl⟩;have i:k < t.length:=by have:=(yT.mp hd).1;rw[zX] at this;exact this
   obtain rfl:(t[k]).d=d:=by rw[zF,zV i] at hd;simpa using hd
   have n:=hD _ (a1V i);have r:AX (t.take (k+1))=B9 E (AD t[k]):=by rw[a2Q,zV i];exact NU hE
   have p:B9 E (AD t[k])=am->AX t=none:=λh=>aG (k:=k+1) (by rw[r];exact h);generalize t[k]=D at n r p;left;refine eB n.1 ?_;left;refine aH hok (OkE.deed hn n) hn ?_;left;refine QJ ?_;cases hb:B9 E (AD D) with
   | none=> left;refine#[M1,zT _,λc e=>?_];rw[<-ES e,p hb];exact#[rfl,rfl]
   | some F=> left;exact#[rfl,F,_,by rw[r,hb],OkE.behind hn hok (OkE.deed hn n) hb,rfl]
 . rintro B M1 ⟨rfl,E,m,hE,hok,rfl⟩;rw[zX,a1Q] at hE;left;refine#[M1,zT _,λc e=>?_];rw[<-ES e,hE];exact#[rfl,rfl]
def Q9:List Str:=["names","marked"]
def MB:List Str:=["name","marked"]
def MC:List (Option Nat):=[am,ak 1]
section
theorem cC (F:Fun K "world_of" "world_of" J9 f T) (v:Has P w K mg base "rising_by_names" 1 ["things"] BS):FnOk P w K mg base CX0 2 f T ["names","marked"] (spD K 2 LF):=by
 refine hD Q9 F #[rfl,rfl,rfl,by decide +kernel,rfl,by decide +kernel,by decide +kernel] ?_;walk_at "hi";have G:MB.Nodup:=by decide +kernel
 walk_at "nm";clear G nd;rintro c M r ⟨l,m,rfl,q⟩;have b:=q.few;unfold mkX;left;refine VA (B0 0) (by simp[MC]) ?_;refine BP ?_;left;refine#[by rw[zX];exact xQ b `kh,λ_=>au,SJ,mkF m,?_,λp hp=>?_]
 . intro d hd i;obtain⟨s,hs,rfl⟩:=zL.mp hd;left;refine#[rfl,?_];walk_at "dl";refine#[rfl,rfl,λ_=>?_];left;refine#[rfl,rfl,?_];left;refine B2 (C7 (q.nm s hs)) (lW q.mark) ?_;rw[if_neg nft,A3m];by_cases h:ak s=m;. rw[decide_eq_true h,A0h h];left;exact#[rfl,rfl]
   . rw[decide_eq_false h,A3n h];left;exact#[rfl,rfl]
 rw[QC,lV];left;refine GQ zU LB (zQ bC (xQ b `kh)) ?_;refine#[M,(zT M).put hp,λt n e=>?_];obtain⟨rfl,rfl⟩:=A0a e;exact#[rfl,rfl]
end
def D0:List Str:=["one","two","told","stand","worlds"]
def G1:List Str:=["part"]
def DN:List (Option Nat):=[am]
def G2:List Str:=["part","name","stand"]
def DO:List (Option Nat):=[am,am,ak 3]
def G3:List Str:=["name","stand"]
def G4:List (Option Nat):=[am,ak 3]
section
local macro_rules | `(tactic| walk_at "x")=>`(tactic| first | exists PS _ (.AugAssign ..) _,@VY _ _ (4) _ _ _ _ _ _ nd rfl (by walk_at "lc") `jz (@A3j _ K rfl) (by walk_at "or"))
theorem PM (F:Fun K "worlds_to_try" "worlds_to_try" BN f T) (B:Has P w K mg base "world_of" 2 ["names","marked"] LF):FnOk P w K mg base CX0 3 f T ["one","two"] (spD K 2 QW):=by
 refine hD D0 F #[rfl,rfl,rfl,by decide +kernel,rfl,by decide +kernel,by decide +kernel] ?_;walk_at "hi";have y:G1.Nodup:=by decide +kernel
 have n1:G2.Nodup:=by decide +kernel
 have N:G3.Nodup:=by decide +kernel
 walk_at "nm";clear y n1 N nd;rintro J M D ⟨Q,a,b,rfl,h⟩;have hn:=h.nm;have hok:=λ(E:Eff) (q:E∈FR a b)=>iX h q;have g:=f7 a b;obtain⟨E,r,hr⟩:∃E r,FR a b=E::r:=by
   cases e:FR a b with
   | nil=>exact absurd e h.any
   | cons E r=>exact#[E,r,rfl]
 have hE:=hok E (by rw[hr];exact a0J);have x:=E6 hn hE.st;unfold tyX;left;refine B7 (B0 0) (by simp[DN]) ?_;refine BP ?_;left;refine#[by show 2 < a0;decide,A5E,id,?_,?_];. rintro d hd A acc c hA rfl;left;refine#[rfl,?_];left;refine Z3 ?_;refine#[_,rfl,rfl,rfl,λ_=>?_];left;exact#[rfl,rfl]
 rw[lX,hr];left;refine AW (d:=E.d) (AJ (j:=0) rfl) ?_;left;refine AM (ds:=[AO E.st,AO E.fr,.tuple (E.lf.map lfE)]) (d:=AO E.st) rfl ?_;left;refine U4 (B0 0) (by simp[DN]) ?_;refine CN ?_;left;refine#[by rw[zX,<-hr];exact zQ g `kh,λ_=>au,stF,?_,λp hp=>?_];. rintro d hd A acc c hA rfl;obtain⟨F,hF,rfl⟩:=zL.mp hd;have G:=hok F (by rw[hr];exact hF);left;refine#[rfl,?_];walk_at "dl";refine#[rfl,rfl,λ_=>?_];left;refine AM (ds:=[AO F.st,AO F.fr,.tuple (F.lf.map lfE)]) (d:=AO F.st) rfl ?_;left;refine IX (m:=am) (f8 hn G.st.2 (by have:=E6 hn G.st;lia) (λ_ q=>nomatch q)) ?_;rw[<-iY];exact#[rfl,rfl]
 rw[QC,A0j];left;try walk_at "unf"
 refine WX #[_,rfl,?_];refine tK (B0 0) (by simp[DO]) (B0 1) (by simp[DO]) ?_;refine CN ?_;left;have t:=u7 (st:=E.st) (L:=E::r) hn (by rw[<-hr];exact g) (λF hF=>hok F (by rw[hr];exact hF));refine#[frF,λ_=>A0k E.st,zQ t `kh,?_,?_]
 . intro d hd c;obtain⟨F,hF,rfl⟩:=zL.mp hd;have G:=hok F (by rw[hr];exact hF);walk_at "dl";refine#[rfl,?_];refine BP ?_;left;refine AM (ds:=[AO F.st,AO F.fr,.tuple (F.lf.map lfE)]) (d:=AO F.fr) rfl ?_;refine#[_,rfl,rfl,rfl,λe he O=>?_];obtain⟨z,u,rfl⟩:=zL.mp he;walk_at "dl";refine#[rfl,?_];left;refine CD (by rw[zX];exact zN (show _<=27 by simp;lia) `kh) ?_;rw[show E.st.map a0Z++[.str z]=(E.st++[z]).map .str by rw[xI];rfl];left;refine IX (l:=E.st++[z]) (m:=am) (f8 hn (λn q=>?_) (by rw[yY];simp;lia) (λ_ q=>nomatch q)) ?_
   . rcases yW.mp q with q | q;. exact hE.st.2 n q
     . rw[List.mem_singleton.mp q];exact G.fr.2 z u
   exact#[rfl,rfl]
 rw[A0l] at t ⊢;have k:(((E::r).map λF=>wM am F.st).map wD).length<=2:=by rw[zX,zX,<-hr];exact g
 refine u0 zU (zN (Nat.add_le_add k t) `kh) ?_;rw[yI];walk_at "wks";try walk_at "unf"
 refine F8 (i:=4) rfl zU ?_;rw[yG hp];left;refine B7 (B0 0) (by simp[G4]) ?_;refine BP ?_;left;refine#[by rw[zX];exact zQ x `kh,λ_=>au,A5F E.st,?_,?_];. rintro d hd A acc c hA rfl;obtain⟨z,u,rfl⟩:=zL.mp hd;left;refine#[rfl,?_];walk_at "dl";refine#[rfl,rfl,λ_=>?_];left;refine IX (l:=E.st) (m:=ak z) (f8 hn hE.st.2 (by lia) (λ_ q=>by cases q;exact hE.st.2 z u)) ?_;exact#[rfl,rfl]
 rw[QC,u5];refine RK ?_ ?_
 . have v:((E.st.map λn=>wM (ak n) E.st).map wD).length<=26:=by rw[zX,zX];exact x
   rw[yY];exact zN (Nat.add_le_add (Nat.add_le_add k t) v) `kh
 refine#[M,zT M,λI S e=>?_];obtain⟨rfl,rfl⟩:=A0f e;rw[u6 hr];unfold GN;rw[xI,xI];exact#[rfl,rfl]
end
def uM:List Str:=["row","other","one","two","worlds","at"]
section
local macro_rules | `(tactic| walk_at "x")=>`(tactic| first | exists PS _ (.AugAssign ..) _,@VY _ _ (5) _ _ _ _ _ _ nd rfl (by walk_at "lc") `jz (@dY _ K rfl) (by walk_at "or"))
theorem uN (F:Fun K "alike" "alike" XS f T) (x:Has P w K mg base "effect" 4 ["row"] IU) (y:Has P w K mg base "parts" 11 ["world","row","other"] LH) (L:Has P w K mg base "worlds_to_try" 3 ["one","two"] QW):FnOk P w K mg base CX0 12 f T ["row","other"] (spD K 2 HX):=by
 refine hD uM F #[rfl,rfl,rfl,by decide +kernel,rfl,by decide +kernel,by decide +kernel] ?_;walk_at "hd";rintro N M u ⟨S,X,Y,rfl,h⟩;have hn:=h.nm;have j:=h.few;have i:=P3 hn h.one;have b:=P3 hn h.two;have fin:∀{d:PyData},alR X Y d->∃n:Own,n.Sub M/\HX.post (alX X Y) M (.d d) n:=λ{d} q=>#[M,zT M,λO I e=>by obtain⟨rfl,rfl⟩:=A0g e;exact#[#[d,rfl,q],rfl]]
 unfold alX JF;left;refine Q3 hn h.one (by lia) ?_;left;refine Q3 hn h.two (by lia) ?_;left;refine#[_,_,rfl,?_];left;refine B2 (P4 hn i) (P4 hn b) ?_;rw[if_neg nft];by_cases e:AX X=AX Y;. rw[<-e,A0c hn i];left;exact fin (.inl #[e,rfl])
 . rw[A0d e];obtain⟨hq,J,z,hJ,hp⟩:=LI h e;left;refine f6 hq ?_;left;try walk_at "unf"
   refine rQ (λm B M1=>∃k:Nat,M1=M/\k<=J/\m=J - k/\B=[ak (.d (.tuple (X.map Deed.d))),ak (.d (.tuple (Y.map Deed.d))),ak (.d (efO (AX X))),ak (.d (efO (AX Y))),ak (.d (.list ((LM (AX X) (AX Y)).map wD))),ak (.d (.int (k:Nat)))]) #[_,0,rfl,xT _,rfl,rfl] ?_;rintro m B M1 ⟨k,rfl,hk,rfl,rfl⟩;have p:=zQ hk (yT.mp hJ).1;obtain⟨w,t⟩:∃w,(LM (AX X) (AX Y))[k]?=ak w:=#[_,zV p]
   have Q:=yN t;obtain⟨v,c⟩:=A0m h hq Q;have r:((LM (AX X) (AX Y)).map wD)[k]?=ak (wD w):=by rw[zF,t];rfl
   left;refine AW (AJ r) ?_;left;refine XH v c ?_;cases hc:decide (bhO w X≠bhO w Y) with
   | true=> left;refine AW (AJ r) ?_;left;exact fin (.inr #[e,w,Q,of_decide_eq_true hc,rfl])
   | false=>
     have g:k≠J:=λq=>of_decide_eq_false hc (by rw[q,hJ] at t;cases t;exact hp);left;try walk_at "unf"
     refine WX #[_,rfl,?_];left;refine i4 ?_;exact#[J - (k+1),by lia,k+1,rfl,by lia,rfl,rfl]
end
def EL:List Str:=["_law_cell_here","_law_xs","_law_names_here","_law_there_here","_law_first","_law_deed_here","_law_few","_law_one","_law_other","_law_last","_law_two","_law_can_here"]
def JI:List Str:=["_law_name","_law_there_here"]
def JJ:List (Option Nat):=[am,ak 3]
def JK:List Str:=["_law_mask","_law_two","_law_names_here"]
def JL:List (Option Nat):=[am,ak 10,ak 2]
def JM:List Str:=["_law_there_here"]
def JN:List (Option Nat):=[am]
section
local macro_rules | `(tactic| walk_at "x")=>`(tactic| first | exists PT _ (.Compare _ [.In] ..) _,@OE _ _ _ _ _ _ (@OH _ _ _ _ _ dz `jz `jz) (by with_unfolding_all rfl) | exists PG _ (.Tuple ..) _,@pW _ K _ _ _ _ (2) rfl rfl (by walk_at "j") (by rfl) (by rfl))
theorem UK (F:Fun K "_law_right" "_law_right" CZ f fd) (gu:mg "all"=am) (aj:mg "range"=am) (ay:Has P w K mg base "_law_can" 2 ["_law_there_here","_law_deed_here"] IW) (eu:Has P w K mg base "_law_names" 1 ["_law_xs","_law_at","_law_size"] L1) (iw:Has P w K mg base "_law_row" 3 ["_law_xs","_law_at","_law_size","_law_names_here","_law_there_here"] QY) (bg:Has P w K mg base "_law_row_comes_to" 4 ["_law_there_here","_law_row_here"] HV) (aw:Has P w K mg base "_law_step" 1 ["_law_there_here","_law_deed_here"] FP) (dg:Has P w K mg base "_law_stirred" 1 ["_law_cell_here","_law_size"] GK) (e_:Has P w K mg base "_law_there" 1 ["_law_world_here"] L5) (fb:Has P w K mg base "_law_touch" 2 ["_law_one","_law_other"] HZ) (h_:Has P w K mg base "_law_wide" 1 ["_law_names_here","_law_mask"] O6) (fe:Has P w K mg base "_law_world" 2 ["_law_xs","_law_at","_law_names_here"] L4) (oz:Has P w K mg base "alike" 12 ["row","other"] HX):FnOk P w K mg base CX0 13 f fd ["_law_cell_here"] (spD K 1 HQ):=by
 refine hD EL F #[rfl,rfl,rfl,by decide +kernel,rfl,by decide +kernel,by decide +kernel] ?_;walk_at "hi";have n0:JI.Nodup:=by decide +kernel
 have n1:JK.Nodup:=by decide +kernel
 have n2:JM.Nodup:=by decide +kernel
 walk_at "nm";clear n0 n1 n2 nd;rintro xs M hl ⟨c,rfl⟩;left;refine WY (n:=74) `kh λL hL hok=>?_;have X:∀i,i < L.length->(L.map b8J)[i]?=ak (.int (L.getD i 0)):=λi hi=>by rw[zF,yU,zV hi];rfl
 left;refine WZ (a:=0) (n:=5) hok (by lia) `kh (by lia) λt hn Q=>?_;left;refine X0 (a:=2) hok (by lia) (by lia) hn (by lia) λw hw=>?_;have I:There t w:=#[hw.1.1.nodup,hw.2]
 have Bw:=I.few;have hS:=P9 hn (by lia) (by lia);obtain⟨n1,e1,Pt⟩:=A5H (L.getD 70 0) 7 `kh;obtain⟨n2,e2,Fz⟩:=A5H (L.getD 72 0) 4 `kh;left;refine X1 I.nd (by lia) λp hp=>?_;left;refine AW (AJ (j:=70) (X _ (by lia))) ?_;left;rw[e1];refine MT (a:=10) hok (by lia) (by lia) (by lia) hS zU I (by lia) (λy h=>h) λF Pu hF=>?_;walk_at "wks";try walk_at "unf"
 refine IG (λB M1=>M.Sub M1/\∃(q:Addr) (v:List Th) (Z:Option DS),There t v/\M1 q=ak (tsO v)/\B=[ak (.d (.int c)),ak (.d (.list (L.map .int))),ak (.d (CA t)),ak (.loc q),ak (.d (JF F)),Z,am,am,am,am,am,am]) ?_ ?_
 . try walk_at "unf"
   refine E2 ?_;refine BP ?_;left;refine#[λk B M1=>M.Sub M1/\∃(q:Addr) (v:List Th) (Z:Option DS),There t v/\M1 q=ak (tsO v)/\B=[ak (.d (.int c)),ak (.d (.list (L.map .int))),ak (.d (CA t)),ak (.loc q),ak (.d (JF F)),Z,am,am,am,am,am,am],#[(zT M).put hp,p,w,_,I,zU,rfl],?_,?_]
   . rintro k d B M1 hd ⟨Y,q,v,Z,g,u,rfl⟩;obtain⟨D,Oo,rfl⟩:=zL.mp (yN hd);have hD:=hF D Oo;have Oq:=g.few;left;refine MQ (isTD.o u) hD.1 ?_;cases hc:decide (AE (v.map (·.1)) D=am) with
     | false=> left;exact#[Y,q,v,_,g,u,rfl]
     | true=>
       have vh:goD v D:=#[#[g.nd,by lia],hD.1,of_decide_eq_true hc]
       left;refine K9 (isTD.o u) vh (by lia) λr hr=>?_;left;exact#[Y.put (aA Y hr),r,doT v D,_,HM g vh hD.2,zU,rfl]
   . rintro B M1 h;exact h
 rintro B M1 ⟨Y,q,v,Z,g,u,rfl⟩;have Oq:=g.few;have fin:∀{N:Own},N=M1->∃T:Own,T.Sub N/\HQ.post [.d (.int c)] M (.d (.bool au)) T:=by rintro N rfl;exact#[M,Y,rfl,rfl]
 left;refine B7 (B0 0) (by simp[JJ]) ?_;refine CN ?_;left;refine#[by rw[zX];exact zQ (show _<=6 by lia) `kh,stT (v.map (·.1)),id,?_,?_]
 . rintro d hd A acc M' hA rfl;obtain⟨z,hz,rfl⟩:=zL.mp hd;have yp:q≠A:=by rintro rfl;rw[u] at hA;cases hA
   walk_at "dl";refine#[rfl,?_];left;refine QN ?_;left;refine#[q,tsD v,z,rfl,rfl,by rw[yH yp];exact u,?_];refine#[_,rfl,rfl,?_,λ_=>?_];. rw[AL,a3Q,a1K];unfold stT;rw[decide_eq_true_iff,AU]
   left;exact#[rfl,rfl]
 rw[ZZ];left;refine KW ?_;rw[show F0 ((t.filter λz=>decide (z∈v.map (·.1))).map a0Z) am (ak 2)=((t.filter λz=>decide (z∈v.map (·.1))).take 2).map a0Z from(dD _ 2).trans (by rw[List.map_take])];left;refine KW ?_;rw[show F0 (t.map a0Z) am (ak 2)=(t.take 2).map a0Z from(dD _ 2).trans (by rw[List.map_take])];refine RK (by rw[zX,zX,a0K,a0K];exact zN (show _<=4 by lia) `kh) ?_;rw[<-xI];have ij:=fC (f:=λz=>decide (z∈v.map (·.1))) hn Q;have lu:((t.filter λz=>decide (z∈v.map (·.1))).take 2++t.take 2).length<=60:=by rw[yY,a0K,a0K];lia
 generalize (t.filter λz=>decide (z∈v.map (·.1))).take 2++t.take 2=S at ij lu;walk_at "wks";try walk_at "unf"
 refine IG (λB T=>T=M1/\∃S:List Str,(Some21 (S.take 4)/\∀x∈S.take 4,x∈t)/\B=[ak (.d (.int c)),ak (.d (.list (L.map .int))),ak (.d (CA t)),ak (.loc q),ak (.d (JF F)),Z,ak (.d (CA S)),am,am,am,am,am]) ?_ ?_
 . left;refine AW (AJ (j:=71) (X _ (by lia))) ?_;left;refine B2 rfl rfl ?_;rw[if_neg nft,NO];cases decide (L.getD 71 0 % 3=0) with
   | false=> left;exact#[rfl,S,ij,rfl]
   | true=> left;exact#[rfl,t,#[bQ hn Q,λx hx=>b2V hx],rfl]
 rintro ρ2 T ⟨rfl,S,⟨Ot,J⟩,rfl⟩;left;try walk_at "unf"
 refine dE ?_;left;refine KW ?_;rw[show F0 (S.map a0Z) am (ak 4)=(S.take 4).map a0Z from(dD _ 4).trans (by rw[List.map_take])];left;refine MT (a:=42) (n:=2) hok (by lia) (by lia) (by lia) Ot u g (by lia) J λDs oi xc=>?_;obtain⟨D,E,rfl⟩:=A3x oi;have hD:deed18 t D:=(xc D (by simp)).up J;have hE:deed18 t E:=(xc E (by simp)).up J;rw[show [D,E].map Deed.d=[D.d,E.d] from rfl];left;refine AW (AJ (j:=72) (X _ (by lia))) ?_;left;rw[e2];refine MT (a:=52) hok (by lia) (by lia) (by lia) hS u g (by lia) (λy h=>h) λG Pw hG=>?_;have O:Two21 t D E:=#[hn,by lia,hD,hE]
 have U:=O.row;have kE:=O.swap.row;have room:∀{n:Nat},n<=40->n<=sizeLine:=λh=>zN h `kh;left;refine XO hD.1 hE.1 ?_;cases ht:C6 D.d E.d with
 | false=>
   have q1:AlQ t (F++[D,E]++G) (F++[E,D]++G):=#[hn,bM hF U hG,bM hF kE hG,by rw[yY,yY];simp;lia,by rw[yY,yY];simp;lia]
   have e:AX (F++[D,E]++G)=AX (F++[E,D]++G):=f9 hF U kE hG q1 (uB O ht);left;refine CD (as:=F.map Deed.d) (bs:=[D,E].map Deed.d) (by rw[zX,zX];exact room (by simp;lia)) ?_;rw[<-xI];left;refine CD (by rw[zX,zX,yY];exact room (by simp;lia)) ?_;rw[<-xI];left;refine p6 ?_;left;refine#[rfl,?_];refine CD (as:=F.map Deed.d) (bs:=[E,D].map Deed.d) (by rw[zX,zX];exact room (by simp;lia)) ?_;rw[<-xI];left;refine CD (by rw[zX,zX,yY];exact room (by simp;lia)) ?_;rw[<-xI];left;refine O1 q1 λd1 wa=>?_;left;refine uA q1 wa λb hb=>?_;rw[if_neg nft];obtain rfl:b=true:=hb.mpr e;exact fin rfl
 | true=>
   have Ou:∀m,Go17 (FO t m) [D,E]:=λm=>A5k (SO hn.2.1 m) (by lia) U (λy h=>h) (by simp);left;refine BO (B0 0) (by simp[JL]) ?_;refine GB ?_;left;refine#[by decide,by decide,?_];refine#[by decide,λ_=>au,A5J t [D,E],?_,?_];. intro d hd M';obtain⟨k,hk,rfl⟩:=ZU (n:=32) hd;walk_at "dl";refine#[rfl,?_];walk_at "dl";refine#[rfl,rfl,λ_=>?_];left;refine bP (m:=k) hn.2.1 Q ?_;left;refine eQ (Ou k) ?_;exact#[rfl,rfl]
   rw[QC,A3w];have Fj:((a1X 32).map λm=>aS (AS (FO t m) [D,E])).length < sizeLine:=by rw[zX,xY];decide
   left;refine B2 (T5 hD.1.1) (T5 hE.1.1) ?_;rw[if_neg nft];cases heq:a0W D.d E.d with
   | true=> left;exact fin rfl
   | false=>
     have ao:D≠E:=by rintro rfl;rw[HI (T5 hD.1.1)] at heq;cases heq
     left;refine BO (B0 0) (by simp[JN]) ?_;refine CN ?_;left;refine#[Fj,λ_=>au,noT,?_,?_];. intro d hd M';walk_at "dl";refine#[rfl,?_];walk_at "dl";refine#[rfl,rfl,λ_=>?_];left;refine QJ ?_;exact#[rfl,rfl]
     rw[QC,A0O];left;refine WH ?_;cases sg:((a1X 32).map λm=>(AS (FO t m) [D,E]).isNone).all id with
     | true=> left;exact fin rfl
     | false=>
       obtain⟨m,hm⟩:=uE sg;have hu:=mB O (SO hn.2.1 m) ht ao hm;left;refine p6 ?_;left;refine#[rfl,?_];left;refine O1 (As:=[D,E]) (Bs:=[E,D]) O.al λd1 wa=>?_;rcases wa with ⟨e,_⟩ | ⟨_,w2,_,_,rfl⟩
       . exact absurd e hu
       left;refine AM (d:=.str (a0Q "parted")) (AJ (j:=0) rfl) ?_;left;exact fin rfl
end
def A3y:List Str:=["_law_script","_law_cell_here"]
theorem A3z (F:Fun K "law" "law" uH f T) (m:Has P w K mg base "_law_cell" 1 ["_law_script","_law_k"] NP) (i:Has P w K mg base "_law_right" 13 ["_law_cell_here"] HQ):FnOk P w K mg base CX0 14 f T ["_law_script"] (spD K 1 VB):=by
 refine hD A3y F #[rfl,rfl,rfl,by decide +kernel,rfl,by decide +kernel,by decide +kernel] ?_;walk_at "hd";rintro p M r ⟨e,rfl,g,G⟩;have fin:∀{M1:Own},M.Sub M1->∃t:Own,t.Sub M1/\VB.post [.d (.list (e.map .int))] M (.d (.bool au)) t:=λh=>#[M,h,rfl]
 left;try walk_at "unf"
 refine E2 ?_;refine CN ?_;left;refine IE ?_;left;refine a8 (k:=0) λn=>?_;left;refine KW ?_;rw[show F0 (e.map b8J) (ak 1) (ak 12)=((e.take 12).drop 1).map .int from(WL _ 1 12).trans (by rw[List.map_drop,List.map_take])];refine RK (by rw[zX];exact zN (show _<=200 by rw[b5J,a0K];simp;lia) `kh) ?_;refine#[_,rfl,λk B M1=>M1=M/\∃N:Option DS,B=[ak (.d (.list (e.map .int))),N],#[rfl,_,rfl],?_,?_]
 . rintro k d B M1 hd ⟨rfl,N,rfl⟩;obtain⟨c,rfl⟩:∃c:Int,d = .int c:=by
     rcases yW.mp (yN hd) with h | h;. exact#[n,List.mem_singleton.mp h]
     . obtain⟨c,_,rfl⟩:=zL.mp h;exact#[c,rfl]
   left;refine X6 ?_;left;exact#[rfl,_,rfl]
 . rintro B M1 ⟨rfl,N,rfl⟩;left;exact fin (zT _)
end
end DL
namespace DL
open PySem PySem.Spec L2 XC
theorem cD (F:Fun K "__init__" "NoRow.__init__" CC f T) (c:XCls K C S (.ref f)) (cs:XSet K C "number"):FnOkA P w K mg base 1 f T ["self","number"] (EY C "number"):=
 tL F #[rfl,rfl,rfl,by decide +kernel,rfl,by decide +kernel,by decide +kernel] rfl c cs `kh (λ_=>rfl) (λX hN hS=>pv 0 (by rw[hN];rfl) (by rw[hS];exact Or.inl rfl)) (λX hN hS=>pv 1 (by rw[hN];rfl) (by rw[hS];exact Or.inl rfl))
local macro_rules | `(tactic| walk_at "b1")=>`(tactic| exact λ_ _ _ _ _ _=>A5K λ_=>rfl)
local macro_rules | `(tactic| walk_at "b2")=>`(tactic| exact λ_ _ _ _ _ _=>uF λ_ _=>rfl)
local macro_rules | `(tactic| walk_at "b3")=>`(tactic| exact λ_ _ _ _ _ _=>A5L λ_ _ _=>rfl)
local macro_rules | `(tactic| walk_at "b4")=>`(tactic| exact λ_ _ _ _ _ _=>A5M λ_ _ _ _=>rfl)
local macro_rules | `(tactic| walk_at "b5")=>`(tactic| exact λ_ _ _ _ _ _=>A5o λ_ _ _ _ _=>rfl)
set_option hygiene false in
local macro_rules | `(`hhh)=>`(Has l.prog w K mg base _ _ _ _)
theorem A4A {l:PySem.W.OpenLaw} (X:K.In h) (G:h.Ns bc mg) (Ov:mg "law"=ak (.ref fa)) (b0:FnIn K "_law_cell" KD) (b1:FnIn K "_law_stirred" FT) (b2:FnIn K "_law_names" F7) (b3:FnIn K "_law_place" J0) (b4:FnIn K "_law_number" GR) (b5:FnIn K "_law_pick" KF) (b6:FnIn K "_law_world" J2) (b7:FnIn K "_law_there" J3) (b8:FnIn K "_law_wanted" GS) (b9:FnIn K "_law_made" KG) (Hn:FnIn K "_law_can" J5) (Ho:FnIn K "_law_step" KH) (Hq:FnIn K "_law_deed" EU) (Hr:FnIn K "_law_row" MV) (Hs:FnIn K "_law_run" MW) (Ht:FnIn K "_law_row_comes_to" D8) (Hu:FnIn K "_law_deals" J6) (Hv:FnIn K "_law_touch" J7) (Hw:FnIn K "_law_wide" KI) (Hx:FnIn K "is_whole" MX) (Bl:FnIn K "is_within" KJ) (Bm:FnIn K "is_place" MY) (Hy:FnIn K "is_name" LJ) (Hz:FnIn K "form_of" PD) (H_:FnIn K "fits" fE) (Ia:FnIn K "names_in" MZ) (Ib:FnIn K "is_deed" LK) (Ic:FnIn K "made_by" PF) (Ie:FnIn K "by_names" J8) (Ig:FnIn K "rising_by_names" CK) (Ih:FnIn K "add_count" KK) (Ii:FnIn K "refuse_undoable" E4) (Ij:FnIn K "change" T7) (Ik:FnIn K "done" fF) (Il:FnIn K "back_deed" KL) (Im:FnIn K "walked" T8) (Io:FnIn K "gone" fG) (Ip:FnIn K "behind" T9) (Iq:FnIn K "parts" XR) (Ir:FnIn K "rising" TB) (Iu:FnIn K "by_left_names" DH) (Iv:FnIn K "clash" O7) (Iw:FnIn K "told_at_first" EZ) (Iy:FnIn K "deed_effect" GU) (Iz:FnIn K "effect_behind" CG) (I_:FnIn K "effect" TC) (Ja:FnIn K "world_of" J9) (Jb:FnIn K "worlds_to_try" BN) (Jc:FnIn K "alike" XS) (Jd:FnIn K "_law_right" CZ) (Je:FnIn K "law" uH) (uz:a2K K bc "all"=ak am) (u_:a2K K bc "any"=ak am) (nv:a2K K bc "bool"=ak am) (nz:a2K K bc "dict"=ak am) (dh:a2K K bc "enumerate"=ak am) (vb:a2K K bc "int"=ak am) (cj:a2K K bc "isinstance"=ak am) (vc:a2K K bc "len"=ak am) (ka:a2K K bc "range"=ak am) (iz:a2K K bc "sorted"=ak am) (vd:a2K K bc "str"=ak am) (kb:a2K K bc "tuple"=ak am) (ve:a2K K bc "zip"=ak am) (kc:a2K K bc "FORMS"=ak (ak (.ref z))) (kd:K.lookup z=ak { cls:=.type "dict", data:=.dict (y9 [{ hash:=b0W w.params (a0Q "put"),key:=.str (a0Q "put") md,val:=.str (a0Q "npk") me },{ hash:=b0W w.params (a0Q "take"),key:=.str (a0Q "take") mf,val:=.str (a0Q "n") mh },{ hash:=b0W w.params (a0Q "move"),key:=.str (a0Q "move") mi,val:=.str (a0Q "np") mj },{ hash:=b0W w.params (a0Q "count"),key:=.str (a0Q "count") ml,val:=.str (a0Q "nk") mm },{ hash:=b0W w.params (a0Q "name"),key:=.str (a0Q "name") mn,val:=.str (a0Q "nn") mo },{ hash:=b0W w.params (a0Q "split"),key:=.str (a0Q "split") mr,val:=.str (a0Q "nnpk") mw },{ hash:=b0W w.params (a0Q "join"),key:=.str (a0Q "join") mx,val:=.str (a0Q "nn") my }]) ug }) (ke:(z==c0)=aB) (cm:a2K K bc "LAST_PLACE"=ak (ak (.int 999 j_))) (fz:a2K K bc "LETTERS"=ak (ak (.str "abcdefghijklmnopqrstuvwxyz" pw))) (bu:a2K K bc "LONGEST_NAME"=ak (ak (.int 8 ix))) (dn:a2K K bc "NoDeed"=ak (ak (.ref m))) (f_:K.lookup m=ak (excClassObj pz lg m uh p_ (.ref L::XC.bmV) au qb qa qc qd qe qf qg qh qi qj "ValueError.__new__")) (gb:a3K K (.ref m)=au) (gd:a8W K (.ref m) "__init__"=ak (ak (.builtin "ValueError.__init__"))) (T:a2K K bc "NoRow"=ak (ak (.ref N))) (i_:K.lookup N=ak (excClassObj ui o_ N wm uj (.ref L::XC.bmV) au ul uk um uo uq ur uu uv uw ux "ValueError.__new__")) (ja:a3K K (.ref N)=au) (jb:a8W K (.ref N) "__init__"=ak (ak (.ref r))) (jc:K.lookup r=ak #[qo,qk,.func (a5Q "__init__" "NoRow.__init__" (E1 CC) (BH CC) (AB CC) .none qp qr qt ql jr qu),qm]) (jd:b0Z K jr "NoRow.__init__"=au) (fg:b4W K (.ref r)=au) (je:a3K K (.ref r)=au) (fh:a8W K (.ref N) "__setattr__"=ak (ak (.builtin "object.__setattr__"))) (fj:PySem.W.takerIn K N "number"=ak am) (dq:a2K K bc "NotNow"=ak (ak (.ref Z))) (gf:K.lookup Z=ak (excClassObj qv lh Z uy qw (.ref L::XC.bmV) au qy qx qz q_ ra rb rc rf rg rh "ValueError.__new__")) (gh:a3K K (.ref Z)=au) (gi:a8W K (.ref Z) "__init__"=ak (ak (.ref i))) (gj:K.lookup i=ak #[ni,mz,.func (a5Q "__init__" "NotNow.__init__" (E1 CI) (BH CI) (AB CI) .none nj nq nr ng iy nu),nh]) (gk:b0Z K iy "NotNow.__init__"=au) (gm:b4W K (.ref i)=au) (gn:a3K K (.ref i)=au) (gp:a8W K (.ref Z) "__setattr__"=ak (ak (.builtin "object.__setattr__"))) (gq:PySem.W.takerIn K Z "name"=ak am) : ∃fd:dl,(∀(s:av) (v:ap),BindsTo s fd #[[v],[]] [("_law_script", v)])/\∀base:cc,K.In base->base.Ns bc mg->FnOk l.prog w K mg base CX0 14 fa fd ["_law_script"] (spD K 1 VB):=by
 obtain⟨_,_,Y⟩:=b0.at X G;obtain⟨_,_,y⟩:=b1.at X G;obtain⟨_,_,O⟩:=b2.at X G;obtain⟨_,_,I⟩:=b3.at X G;obtain⟨_,_,S⟩:=b4.at X G;obtain⟨_,_,M⟩:=b5.at X G;obtain⟨_,_,D⟩:=b6.at X G;obtain⟨_,_,B⟩:=b7.at X G;obtain⟨_,_,A8⟩:=b8.at X G;obtain⟨_,_,A9⟩:=b9.at X G;obtain⟨_,_,Jf⟩:=Hn.at X G;obtain⟨_,_,Jg⟩:=Ho.at X G;obtain⟨_,_,Jh⟩:=Hq.at X G;obtain⟨_,_,Ji⟩:=Hr.at X G;obtain⟨_,_,Jj⟩:=Hs.at X G;obtain⟨_,_,Jk⟩:=Ht.at X G;obtain⟨_,_,Jl⟩:=Hu.at X G;obtain⟨_,_,Jm⟩:=Hv.at X G;obtain⟨_,_,Jn⟩:=Hw.at X G;obtain⟨_,_,Jo⟩:=Hx.at X G;obtain⟨_,_,Jp⟩:=Bl.at X G;obtain⟨_,_,Jq⟩:=Bm.at X G;obtain⟨_,_,Jr⟩:=Hy.at X G;obtain⟨_,_,Js⟩:=Hz.at X G;obtain⟨_,_,Jt⟩:=H_.at X G;obtain⟨_,_,Ju⟩:=Ia.at X G;obtain⟨_,_,Jv⟩:=Ib.at X G;obtain⟨_,_,Jw⟩:=Ic.at X G;obtain⟨_,_,Jx⟩:=Ie.at X G;obtain⟨_,_,Jy⟩:=Ig.at X G;obtain⟨_,_,Jz⟩:=Ih.at X G;obtain⟨_,_,J_⟩:=Ii.at X G;obtain⟨_,_,J'⟩:=Ij.at X G;obtain⟨_,_,Ka⟩:=Ik.at X G;obtain⟨_,_,Kb⟩:=Il.at X G;obtain⟨_,_,Kc⟩:=Im.at X G;obtain⟨_,_,Kd⟩:=Io.at X G;obtain⟨_,_,Ke⟩:=Ip.at X G;obtain⟨_,_,Kf⟩:=Iq.at X G;obtain⟨_,_,Kg⟩:=Ir.at X G;obtain⟨_,_,Kh⟩:=Iu.at X G;obtain⟨_,_,Ki⟩:=Iv.at X G;obtain⟨_,_,Kj⟩:=Iw.at X G;obtain⟨_,_,Kk⟩:=Iy.at X G;obtain⟨_,_,Kl⟩:=Iz.at X G;obtain⟨_,_,Km⟩:=I_.at X G;obtain⟨_,_,Kn⟩:=Ja.at X G;obtain⟨_,_,Ko⟩:=Jb.at X G;obtain⟨_,_,Kp⟩:=Jc.at X G;obtain⟨_,_,Kq⟩:=Jd.at X G;obtain⟨Px,Ow,j⟩:=Je.at X G;have e:=Ov.symm.trans j.mg_;cases e;have g:=a2W X G uz;have w_:=a2W X G u_;have tu:=a2W X G nv;have ma:=a2W X G nz;have df:=a2W X G dh;have xf:=a2W X G vb;have q:=a2W X G cj;have c:=a2W X G vc;have Q:=a2W X G ka;have ax:=a2W X G iz;have x:=a2W X G vd;have n:=a2W X G kb;have ua:=a2W X G ve;have jy:∃a,mg "FORMS"=ak (.ref a)/\GDict w K a HD:=#[_,a5V X G kc,ke,by decide +kernel,_,_,kd,rfl,#[_,rfl],#[_,rfl],rfl,#[_,rfl],#[_,rfl],rfl,#[_,rfl],#[_,rfl],rfl,#[_,rfl],#[_,rfl],rfl,#[_,rfl],#[_,rfl],rfl,#[_,rfl],#[_,rfl],rfl,#[_,rfl],#[_,rfl],trivial]
 have eo:∃t,mg "LAST_PLACE"=ak (.int 999 t):=#[_,a5V X G cm]
 have jn:∃t,mg "LETTERS"=ak (.str "abcdefghijklmnopqrstuvwxyz" t):=#[_,a5V X G fz]
 have cz:∃t,mg "LONGEST_NAME"=ak (.int 8 t):=#[_,a5V X G bu]
 have c_:HasN K mg "NoDeed" m L:=#[#[#[_,_,_,_,_,_,_,_,_,_,_,_,_,_,f_],gd,gb],a5V X G dn]
 have b:XC.XCls K N L (.ref r):=#[#[_,_,_,_,_,_,_,_,_,_,_,_,_,_,i_],jb,ja]
 have f:=cP (st:=CC) jc jd je;have jt:XC.XCls K Z L (.ref i):=#[#[_,_,_,_,_,_,_,_,_,_,_,_,_,_,gf],gi,gh]
 have ju:=cP (st:=CI) gj gk gn;have lg:=a5V X G dn;have o_:=a5V X G T;have lh:=a5V X G dq;refine#[Ow,λs v=>?_,λbase _ _=>?_];. obtain⟨oc,od,kV,doc,pm,an,cdv,ct,osl,e,_,_⟩:=j.fn.ex;subst e;exact .of_eq rfl
 have er:HasR l.prog w K mg base "NoRow" "number" N L:=#[r,_,["self","number"],b,fg,fQ f b #[fh,fj],f.binds (ps:=["self","number"]) λ_ _ _ _ _ _=>uF λ_ _=>rfl,a5V X G T]
 have de:HasR l.prog w K mg base "NotNow" "name" Z L:=#[i,_,["self","name"],jt,gm,cB ju jt #[gp,gq],ju.binds (ps:=["self","name"]) λ_ _ _ _ _ _=>uF λ_ _=>rfl,a5V X G dq]
 have ir:HasRA l.prog w K mg base "NoRow" "number" N L:=#[r,_,["self","number"],b,fg,cD f b #[fh,fj],f.binds (ps:=["self","number"]) λ_ _ _ _ _ _=>uF λ_ _=>rfl,a5V X G T]
 have Fg:=XC.z0 b;have ia:`hhh:=Y.has (XU Y.fn c) (by walk_at "b2");have dg:`hhh:=y.has (QF y.fn Q) (by walk_at "b2");have eu:`hhh:=O.has (U9 O.fn Q) (by walk_at "b3");have bi:`hhh:=I.has (UB I.fn ) (by walk_at "b1");have ba:`hhh:=S.has (TF S.fn ) (by walk_at "b1");have gw:`hhh:=M.has (XW M.fn c) (by walk_at "b2");have fe:`hhh:=D.has (UD D.fn c Q ax n ba bi) (by walk_at "b3");have e_:`hhh:=B.has (UF B.fn ) (by walk_at "b1");have du:`hhh:=A8.has (TJ A8.fn ) (by walk_at "b1");have gv:`hhh:=A9.has (XY A9.fn ) (by walk_at "b1");have k:`hhh:=Jf.has (bT Jf.fn g w_ gv du) (by walk_at "b2");have J:`hhh:=Jg.has (Y0 Jg.fn ma) (by walk_at "b2");have gx:`hhh:=Jh.has (Y1 Jh.fn ba gw bi) (by walk_at "b4");have iw:`hhh:=Ji.has (bV Ji.fn Q n k gx J) (by walk_at "b5");have il:`hhh:=Jj.has (bX Jj.fn c Q k J) (by walk_at "b2");have bg:`hhh:=Jk.has (KQ Jk.fn il) (by walk_at "b2");have ej:`hhh:=Jl.has (UH Jl.fn ) (by walk_at "b1");have fb:`hhh:=Jm.has (UJ Jm.fn ax ej) (by walk_at "b2");have h_:`hhh:=Jn.has (Y3 Jn.fn c Q) (by walk_at "b2");have cg:`hhh:=Jo.has (bZ Jo.fn tu xf q) (by walk_at "b1");have gy:`hhh:=Jp.has (Y5 Jp.fn cg) (by walk_at "b3");have ip:`hhh:=Jq.has (c7 Jq.fn eo gy) (by walk_at "b1");have jo:`hhh:=Jr.has (fH Jr.fn g q c x jn cz) (by walk_at "b1");have dm:`hhh:=Js.has (fJ Js.fn q x jy) (by walk_at "b1");have ub:`hhh:=Jt.has (A02 Jt.fn jo ip cg) (by walk_at "b2");have ci:`hhh:=Ju.has (c9 Ju.fn dm) (by walk_at "b1");have jp:`hhh:=Jv.has (fK Jv.fn g q c n ua ub dm ci) (by walk_at "b1");have jq:`hhh:=Jw.has (fM Jw.fn ) (by walk_at "b1");have U:`hhh:=Jx.has (cA Jx.fn ) (by walk_at "b1");have p:`hhh:=Jy.has (N0 Jy.fn ax n) (by walk_at "b1");have gz:`hhh:=Jz.has (Y7 Jz.fn ) (by walk_at "b3");have ah:HasX l.prog w K mg base "refuse_undoable" 6 ["things","deed"] (DW Z):=J_.hasX (N2 J_.fn c_ de jp jq ci) (by walk_at "b2");have ku:`hhh:=J'.has (mF J'.fn gz) (by walk_at "b2");have uc:`hhh:=Ka.has (A04 Ka.fn ah U ku p) (by walk_at "b2");have g_:HasX l.prog w K mg base "back_deed" 7 ["world","deed"] (LA Z):=Kb.hasX (Y9 Kb.fn ah U) (by walk_at "b2");have ky:HasX l.prog w K mg base "walked" 8 ["world","row"] (GX N iP):=Kc.hasX (mH Kc.fn df ir c_ er de g_ U uc p) (by walk_at "b2");have ud:HasX l.prog w K mg base "gone" 9 ["world","row"] (GX N tQ):=Kd.hasX (A06 Kd.fn ky) (by walk_at "b2");have kz:`hhh:=Ke.has (mJ Ke.fn Fg er ud) (by walk_at "b2");have oy:`hhh:=Kf.has (uK Kf.fn kz) (by walk_at "b3");have u:`hhh:=Kg.has (mL Kg.fn ax n) (by walk_at "b1");have cn:`hhh:=Kh.has (PH Kh.fn ) (by walk_at "b1");have ox:`hhh:=Ki.has (uL Ki.fn c) (by walk_at "b3");have cq:`hhh:=Kj.has (PK Kj.fn q x u) (by walk_at "b4");have dw:`hhh:=Kk.has (TX Kk.fn u p) (by walk_at "b1");have cu:`hhh:=Kl.has (PL Kl.fn n cn ox u p cq) (by walk_at "b2");have k_:`hhh:=Km.has (mN Km.fn dw cu) (by walk_at "b1");have iu:`hhh:=Kn.has (cC Kn.fn p) (by walk_at "b2");have cv:`hhh:=Ko.has (PM Ko.fn iu) (by walk_at "b2");have oz:`hhh:=Kp.has (uN Kp.fn k_ oy cv) (by walk_at "b2");have ff:`hhh:=Kq.has (UK Kq.fn g Q k eu iw bg J dg e_ fb h_ fe oz) (by walk_at "b1");exact A3z j.fn ia ff
theorem A4B {ns:List Int}(r:ns.length<=63) (hb:∀i∈ns,xJ i<=2 ^ 20) (hS:SqL K H a (ns.map V.int)):spD K 1 VB [.ref a] H (λv _=>v = .bl au) λ_ _ _=>False:=by
 refine#[[.d (.list (ns.map .int))],λ_=>am,rfl,(λa o e=>nomatch e),#[.ref a,[],rfl,?_,rfl],#[ns,rfl,r,hb],λx t v H' post m z n=>?_]
 . unfold SI DV;refine#[a,ns.map V.int,rfl,?_,Q1];rcases hS with h | h;. exact .inl #[λw=>w rfl,h]
   . exact .inr h
 . have e:x = .d (.bool au):=post;subst e;exact A4h n
theorem A5q {l:PySem.W.OpenLaw}{q:bn}{loose:List Str}{XP:(Str->Option ap)->cc->Prop}{YP:bj->cc->Prop}{d:DefRec}{K:e5->Frg}(hn:l.most=ak 63) (O:d.params.defaults=[]) (e:∀(w:bj) (h:cc),YP w h->(K w.params).In h) (F:∀(w:bj) (mg:Str->Option ap) (r:Addr) (h:cc),(K w.params).In h->h.Ns bc mg->mg d.name=ak (.ref r) ->∃T:dl,(∀(s:av) (u:ap),BindsTo s T #[[u],[]] [("_law_script", u)])/\∀base:cc,(K w.params).In base->base.Ns bc mg->FnOk l.prog w (K w.params) mg base CX0 14 r T ["_law_script"] (spD (K w.params) 1 VB)) :
   PySem.W.WalkO q loose XP YP l.row.toRowW d [] (λf vs=>PySem.call f vs):=
 L2.pO (n:=63) (k:=14) (x:= "_law_script") (CX:=λ_=>CX0) (sp:=λw=>spD (K w.params) 1 VB) hn `kh O #[rfl,by decide,by decide] e F (λ_ _ a i t hb _ hS=>A4B t hb hS) λ_ _ _ _ _ z=>z
end DL
open PySem PySem.W PyProof.Rows
set_option maxRecDepth 100000 in
set_option maxHeartbeats 0 in
theorem PySem.Challenge.cw_struckdeeds_k21_whole_neighbours_changed_holds : PySem.Challenge.rw_struckdeeds_k21_whole_neighbours_changed.Holds := by
 w_on
 refine PySem.W.holds_law DL.hS λS=>?_;refine PySem.W.holds_open (q:=DL.hV) (loose:=[a0Q "FORMS"]) (Xt:=(λs=>PySem.W.xlAt DL.hV [] s&&PySem.W.recOk (b4Z (b2W (b4J PySem.Challenge.rw_struckdeeds_k21_whole_neighbours_changed))) s)) (XP:=PySem.W.XL DL.hV []) (Yf:=b7Q (a7Q DL.hK DL.hA DL.hE)) (Ya:=b6V (a7Q DL.hK DL.hA DL.hE)) (YP:=PySem.W.Hook.says (a7Q DL.hK DL.hA DL.hE)) (N:=5406) DL.hL (PySem.W.Hook.of (a7Q DL.hK DL.hA DL.hE)) (PySem.W.Hook.keeps (a7Q DL.hK DL.hA DL.hE)) (λs e=>PySem.W.xl_of s (Bool.and_eq_true_iff.mp e).1) PySem.W.XL.keeps (by rfl) (by rfl) (by rfl) (λs e=>PySem.W.recFacts_of (Bool.and_eq_true_iff.mp e).2) rfl S (by decide +kernel) #[rfl,rfl,rfl,rfl,rfl,by decide +kernel] ?X ?hc
 (case X=>w_witness2)
 k_fill
 refine DL.A5q (l:=PySem.Challenge.rw_struckdeeds_k21_whole_neighbours_changed) rfl rfl (λw h Y=>PySem.W.kIn_of Y) ?F
 case F=>
   intro w mg r h KX G pf;refine' DL.A4A KX G pf ?b0 ?b1 ?b2 ?b3 ?b4 ?b5 ?b6 ?b7 ?b8 ?b9 ?Hn ?Ho ?Hq ?Hr ?Hs ?Ht ?Hu ?Hv ?Hw ?Hx ?Bl ?Bm ?Hy ?Hz ?H_ ?Ia ?Ib ?Ic ?Ie ?Ig ?Ih ?Ii ?Ij ?Ik ?Il ?Im ?Io ?Ip ?Iq ?Ir ?Iu ?Iv ?Iw ?Iy ?Iz ?I_ ?Ja ?Jb ?Jc ?Jd ?Je ?uz ?u_ ?nv ?nz ?O ?vb ?t ?vc ?ka ?iz ?vd ?kb ?ve ?kc ?kd ?ke ?J ?c ?L ?n ?Q ?f ?g ?T ?Z ?ja ?jb ?jc ?jd ?i ?je ?m ?p ?U ?j ?k ?u ?v ?x ?y ?z ?I ?B;all_goals (first | (refine' DL.A00 ?r ?b ?M ?D;(case r=>k_is);(case b=>k_is);(case M=>k_is);(case D=>k_is)) | skip)
   (case uz=>k_is)
   (case u_=>k_is)
   (case nv=>k_is)
   (case nz=>k_is)
   (case O=>k_is)
   (case vb=>k_is)
   (case t=>k_is)
   (case vc=>k_is)
   (case ka=>k_is)
   (case iz=>k_is)
   (case vd=>k_is)
   (case kb=>k_is)
   (case ve=>k_is)
   (case kc=>k_is)
   (case kd=>k_is)
   (case ke=>decide)
   (case J=>k_is)
   (case c=>k_is)
   (case L=>k_is)
   (case n=>k_is)
   (case Q=>k_is)
   (case f=>k_is)
   (case g=>k_is)
   (case T=>k_is)
   (case Z=>k_is)
   (case ja=>k_is)
   (case jb=>k_is)
   (case jc=>k_is)
   (case jd=>k_is)
   (case i=>k_is)
   (case je=>k_is)
   (case m=>k_is)
   (case p=>k_is)
   (case U=>k_is)
   (case j=>k_is)
   (case k=>k_is)
   (case u=>k_is)
   (case v=>k_is)
   (case x=>k_is)
   (case y=>k_is)
   (case z=>k_is)
   (case I=>k_is)
   (case B=>k_is)
#print axioms PySem.Challenge.cw_struckdeeds_k21_whole_neighbours_changed_holds
