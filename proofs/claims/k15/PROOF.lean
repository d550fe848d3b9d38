import PyProof.Rows.All
import Wide.All
import OpenK.AllK
import Wide.FinOn
import Lean
import PyProof.EqAt
import PyProof.EqKinds
import PyProof.TupleCall
import PyProof.ListRange
import PyProof.TupleOfSeq
import PyProof.WalksS
import PyProof.CollectWalk
import KE.KRevIter
import PyProof.P3In
import PyProof.SumAnyB
import PyProof.NeKinds
import KE.KEqDict
import PyProof.RulesAssignMore
import PyProof.SetRoads
import PyProof.Rows.SetFrom
import KE.KDictOf
import PyProof.Draws
import KE.KIsAll
import KE.KDictList
import PySem.Challenge.RW_struckdeeds_k15_rows_gone
set_option Elab.async false
set_option linter.all false
set_option maxRecDepth 100000
set_option compiler.extract_closed false
set_option maxHeartbeats 4000000
open PySem.Str renaming ofString->a0Q
open PySem.Value renaming ref->a0X,none->a0W,type->b6Q,str->b6X,bool->b6Z,builtin->b6W
open PySem.W renaming nsIn->a0Z,mg_none_of->a1Q,mg_of->a1X,kia_one->a2J,keepIn->a2K,topRun->a3K,kitOne->a3W,fnOf->a3V,boot_heap->a4K,findIn->a5Q,segRunT->a5K,piecesOf->a6Q,kHook->a6J,segRun_of->a6W,restOf->a7Z,kitAny->a7J,piece_app->a8X,codeIn->a8K,isFn->b3Q,callWith_K->b4Z,boot_drawn->b4J,boot_toks->b5Z,cellsFrom_some->b6K,looks_findIn->b8X
open List renaming mem_cons_self->a0J,contains_cons->a0K,range->a1V,length_take->a2Q,lookup_cons->a3Q,getElem?_eq_none->a3Z,take_length->a3J,getElem_mem->a4X,all_eq_true->a4Z,filterMap_cons->a5J,getElem?_zip_eq_some->a8Q,filter_cons->a9Q,pairwise_cons->a9J,length_set->b0Q,find?_cons->b0X,append_nil->b0Z,take_add_one->b0K,getElem?_set->b0W,ext_getElem?->b0V,getElem?_set_ne->b1Z,replicate->b1K,zip_cons_cons->b2Q,of_mem_zip->b2X,mem_singleton->b2Z,any_cons->b2J,drop_eq_nil_of_le->b3X,pairwise_map->b3J,length_drop->b3W,map->b7Z,length->b7J,take_of_length_le->b8Q
open Bool renaming and_eq_true->a0V,eq_iff_iff->a3X,false_eq_true->b2K
open PySem.PyData renaming eqv->a1Z,str->a2W,depthAll->a5W,keyHash->a8V,depth->a9K,canLay0->b5X,int->b5W,canLayAll0->b5V,strOk->b7V
open PySem.Builtin.SmallTypes renaming nextOf->a1J,ownedTupleIsFree->a2Z,ownedTupleHandOut->b5Q
open Sum renaming inr->a1K
open Option renaming some->a1W,isSome_map->a6V,none->b3V
open PySem.Heap renaming get?_update_self->a2X,size_push->a7V
open Nat renaming add_le_add_left->a2V,ne_of_gt->a4J,le_succ->a6K,lt_trichotomy->b7Q,lt_succ_of_lt->b7X
open Int renaming emod_nonneg->a4Q,emod_lt_of_pos->a7W,toNat_natCast->a8J
open PySem.Builtin.Tuple renaming tupleExact->a4W
open PySem renaming mem_of_lookup->a4V
open Array renaming length_toList->a5X,getElem?_toList->a9V,getElem?_eq_getElem->b1J,getD_eq_getD_getElem?->b4X,getElem?_eq_none->b7W
open PySem.F renaming slot_tuple_iterator_next->a5Z,excBase_ValueError->b4Q,args_tuple_iterator_next_1->b4V,entry_tuple_iterator_next->b5J,args_tuple_add_2->b5K,entry_tuple_add->b6J,slot_tuple_add->b6V
open Ne renaming symm->a5V
open PySem.Builtin.Str renaming occurrences->a6X
open False renaming elim->a6Z
open PySem.NameKind renaming free->a7Q
open PyProof.Rows renaming slot_tuple_getitem->a7X,boot_isinstance->a8Z
open PySem.Obj renaming mapSeq->a7K,data_mapFields->a9W,mapFields->b1Q
open PySem.Builtin.List renaming listExtendWith->a8W
open True renaming intro->a9X
open PySem.Builtin.Slice renaming slicePlaces->a9Z,sliceAdjust->b3K
open PySem.Txt renaming slice->b0J
open PySem.W.OpenRow renaming toRowW->b1X
open ForInStep renaming yield->b1W
open PySem.Spec renaming ltCps->b1V
open PySem.W.RowW renaming records->b2W
open PySem.W.OpenLaw renaming row->b2V
open PySem.Heap.SameBut renaming update->b3Z
open PySem.W.Hook renaming val->b4K,obs->b4W
open PySem.Calls renaming callWith_builtin->b7K
open PySem renaming wpAny_bind->zZ,wpAny_pure->zY,codeAny_mono->xP,wpAny_newObj_type->xN
open List renaming length_map->zX,getElem?_eq_getElem->zV,mem_map->zL,size_toArray->zJ,map_cons->zI,getElem?_map->zF,map_map->zD,mem_append_right->zB,length_append->yY,mem_cons->yX,mem_append->yW,mem_cons_of_mem->yV,getD_eq_getElem?_getD->yU,getElem?_eq_some_iff->yT,length_cons->yR,getElem?_append_left->yQ,mem_of_getElem?->yN,map_congr_left->yM,mem_filter->yL,length_filter_le->yJ,getElem?_range->yA,length_range->xZ,not_mem_nil->xX,nodup_cons->xW,filter_map->xV,map_append->xJ
open PySem.Heap renaming get?_push_of_some->zW,lt_size->zM,get?_push_size->yZ,get?_update_other->yC,get?_update_ne->yB
open Nat renaming le_refl->zR,lt_of_le_of_lt->zQ,lt_of_lt_of_le->zP,le_trans->zN,ne_of_lt->zC,lt_irrefl->yF,le_of_ble_eq_true->yD,zero_le->xU,le_of_lt->xT
open PySem.SeqAt renaming shaped->zH,canLay_of_shaped->zG
open PySem.Calls renaming spliced_cons->xQ
open PySem.Builtin.Int renaming intBits->xL
open PyProof.Rows renaming callWith_type1->xI,sortedS->xH
abbrev sT (n:Nat):PySem.Stmt:=PySem.Challenge.pw_struckdeeds_k15_rows_gone.main.body.getD n (.Pass ⟨0,0,0,0⟩)
abbrev Frg:=PySem.W.Frag
theorem nft:¬(false=true):=Bool.false_ne_true
namespace L2
open PySem PySem.Spec PyProof.Rows
abbrev Key:=Sum Int Str
def M9:Key->Value->Bool
 | .inl k,v=>Value.isInt k v
 | .inr x,v=>Value.isStrOf x v
def tV (w:World):Key->Int
 | .inl k=>hashInt k
 | .inr x=>hashStr w x
theorem AY:∀{k:Key}{v:Value},M9 k v=true->(∃i t,k=Sum.inl i/\v=Value.int i t)\/(∃x t,k=a1K x/\v=b6X x t)
 | .inl i,v,h=>by obtain⟨t,e⟩:=Value.isInt_shape (k:=i) (v:=v) h;exact .inl ⟨i,t,rfl,e⟩
 | .inr x,v,h=>by obtain⟨t,e⟩:=Value.isStrOf_shape (x:=x) (v:=v) h;exact .inr ⟨x,t,rfl,e⟩
theorem YX (i:Int) (t:Tok):M9 (.inl i) (.int i t)=true:=by simp[M9,Value.isInt]
theorem YY (x:Str) (t:Tok):M9 (.inr x) (.str x t)=true:=by simp[M9,Value.isStrOf]
theorem n9 (a b:Int):decide ((Sum.inl a:Key)=Sum.inl b)=(a==b):=by
 by_cases e:a=b;. subst e;simp
 . have h:¬(Sum.inl a:Key)=Sum.inl b:=λq=>e (Sum.inl.inj q);rw[decide_eq_false h];exact(beq_eq_false_iff_ne.mpr e).symm
theorem nA (a b:Str):decide ((a1K a:Key)=a1K b)=decide (a=b):=by
 by_cases e:a=b;. subst e;simp
 . have h:¬(a1K a:Key)=a1K b:=λq=>e (Sum.inr.inj q);rw[decide_eq_false h,decide_eq_false e]
theorem nB (a:Int) (b:Str):decide ((Sum.inl a:Key)=a1K b)=false:=decide_eq_false (λq=>nomatch q)
theorem nC (a:Str) (b:Int):decide ((a1K a:Key)=Sum.inl b)=false:=decide_eq_false (λq=>nomatch q)
def AQ (prog:Program) (w:World):PySem.KeyKind prog w Key where
 is:=M9
 hash:=tV w
 inj:=λv a b ha hb=>by
   rcases AY ha with ⟨i,t,rfl,rfl⟩ | ⟨x,t,rfl,rfl⟩
   . rcases AY hb with ⟨j,u,rfl,e⟩ | ⟨y,u,rfl,e⟩
     . injection e with e1 _;rw[e1]
     . exact nomatch e
   . rcases AY hb with ⟨j,u,rfl,e⟩ | ⟨y,u,rfl,e⟩
     . exact nomatch e
     . injection e with e1 _;rw[e1]
 byValue:=λk v h=>by rcases AY h with ⟨i,t,rfl,rfl⟩ | ⟨x,t,rfl,rfl⟩ <;> rfl
 pyHash:=λhv h=>by
   rcases AY hv with ⟨i,t,rfl,rfl⟩ | ⟨x,t,rfl,rfl⟩
   . exact wpAny_pyHash_int h
   . exact wpAny_pyHash_str h
 eqBool:=λhu hv h=>by
   rcases AY hu with ⟨i,t,rfl,rfl⟩ | ⟨x,t,rfl,rfl⟩
   . rcases AY hv with ⟨j,u,rfl,rfl⟩ | ⟨y,u,rfl,rfl⟩
     . rw[n9] at h;exact wpAny_eqBool_int h
     . rw[nB] at h;exact SeqAt.EqAt.int_str i t y u _ _ _ _ h
   . rcases AY hv with ⟨j,u,rfl,rfl⟩ | ⟨y,u,rfl,rfl⟩
     . rw[nC] at h;exact SeqAt.EqAt.str_int x t j u _ _ _ _ h
     . rw[nA] at h;exact wpAny_eqBool_str h
 «strs»:=λk x t v h=>by
   rcases AY h with ⟨i,u,rfl,e⟩ | ⟨y,u,rfl,e⟩
   . exact nomatch e
   . injection e with e1 _;subst e1;cases v <;> rfl
theorem SN (prog:Program) (w:World) (i:Int) (t:Tok):(AQ prog w).is (.inl i) (.int i t)=true:=YX i t
theorem KI (prog:Program) (w:World) (x:Str) (t:Tok):(AQ prog w).is (.inr x) (.str x t)=true:=YY x t
inductive V where
 | non | bl (b:Bool) | int (i:Int) | str (x:Str) | byt (b:Array UInt8) | flt (b:UInt64) | ref (a:Addr) | ty (n:String)
 deriving DecidableEq
def RelV:V->Value->Prop
 | .non,u=>u=a0W
 | .bl b,u=>u=b6Z b
 | .int i,u=>∃t,u=Value.int i t
 | .str x,u=>∃t,u=b6X x t
 | .byt b,u=>∃t,u=Value.bytes b t
 | .flt b,u=>∃t,u=Value.float b t
 | .ref a,u=>u=a0X a
 | .ty n,u=>u=b6Q n
abbrev Vals:List V->List Value->Prop:=Paired RelV
theorem Vals.length {xs:List V}{us:List Value}(r:Vals xs us):xs.length=us.length:=Paired.length r
theorem Vals.get:∀{xs:List V}{us:List Value}{i:Nat}{x:V},Vals xs us->xs[i]?=some x->∃u,us[i]?=some u/\RelV x u
 | _,_,_,_,.nil,e=>by simp at e
 | _,_,0,_,.cons r _,e=>by simp at e;subst e;exact⟨_,rfl,r⟩
 | _,_,i+1,x,.cons _ t,e=>by obtain⟨u,h1,h2⟩:=Vals.get (i:=i) (x:=x) t (by simpa using e);exact⟨u,by simpa using h1,h2⟩
theorem Vals.set {x:V}{u:Value}(r:RelV x u):∀{xs:List V}{us:List Value}(i:Nat),Vals xs us->Vals (xs.set i x) (us.set i u)
 | _,_,_,.nil=>.nil
 | _,_,0,.cons _ t=>.cons r t
 | _,_,i+1,.cons q t=>.cons q (Vals.set r i t)
theorem Vals.append:∀{xs ys:List V}{us ws:List Value},Vals xs us->Vals ys ws->Vals (xs++ys) (us++ws)
 | _,_,_,_,.nil,s=>s
 | _,_,_,_,.cons r t,s=>.cons r (Vals.append t s)
theorem Vals.take:∀{xs:List V}{us:List Value}(n:Nat),Vals xs us->Vals (xs.take n) (us.take n)
 | _,_,0,_=>.nil
 | _,_,_+1,.nil=>.nil
 | _,_,n+1,.cons r t=>.cons r (Vals.take n t)
theorem Vals.drop:∀{xs:List V}{us:List Value}(n:Nat),Vals xs us->Vals (xs.drop n) (us.drop n)
 | _,_,0,r=>r
 | _,_,_+1,.nil=>.nil
 | _,_,n+1,.cons _ t=>Vals.drop n t
def RelO:Option V->Option Value->Prop
 | some v,some u=>RelV v u
 | none,none=>True
 | _,_=>False
def KV {κ:Type}:List (κ×V)->List (κ×Value)->Prop:=Paired λ(p:κ×V) (q:κ×Value)=>p.1=q.1/\RelV p.2 q.2
def kV:Key->V
 | .inl i=>.int i
 | .inr x=>.str x
inductive HO where
 | lst (xs:List V)
 | tup (xs:List V)
 | dK (kvs:List (Key×V)) | dT (kvs:List (List Key×V))
 | set (S:Int->Bool) (n:Nat)
 | ins (C dx:Addr) (fs:List (Str×V))
 | own (x:Addr)
 | xd (fs:List (Str×V))
 | met (f x:Addr)
 | rng (lo hi:Int)
 | frz (o:Obj) (u:HO)
 | tbl (ps:Array Value)
 | ext (φ:Heap->Prop)
abbrev Hp:=Addr->Option HO
def upd (H:Hp) (a:Addr) (o:HO):Hp:=λb=>if b=a then some o else H b
theorem AF {H:Hp}{a:Addr}{o:HO}:upd H a o a=some o:=by unfold upd;rw[if_pos rfl]
theorem AG {H:Hp}{a b:Addr}{o:HO}(h:b≠a):upd H a o b=H b:=by unfold upd;rw[if_neg h]
theorem rD {H:Hp}{a b:Addr}{o u:HO}(h:H a=some o) (h':H b=some u) (d:o≠u):a≠b:=by intro e;subst e;rw[h] at h';exact d (Option.some.inj h')
theorem AN {H:Hp}{a b:Addr}{o:HO}(h:H a=some o) (h':H b=none):a≠b:=by intro e;subst e;rw[h] at h';cases h'
section
variable (P:Program) (w:World)
def ObjOk (H:Hp) (h:Heap) (a:Addr):HO->Prop
 | .lst xs=>xs.length<=sizeLine/\∃(aa:List Value) (n:Nat),Vals xs aa/\h.get? a=some { cls:=.type "list", data:=.seq aa.toArray n }
 | .tup xs=>xs.length<=sizeLine/\∃aa:List Value,Vals xs aa/\IsTup h a aa.toArray
 | .dK kvs=>kvs.length<=sizeLine/\(a==sysModules)=false/\∃vs,KV kvs vs/\h.DictOf (AQ P w) a vs
 | .dT kvs=>kvs.length<=sizeLine/\(a==sysModules)=false/\∃xs:List (List Key×Addr×Value),
     Paired (λ(p:List Key×V) (q:List Key×Addr×Value)=>p.1=q.1/\H q.2.1=some (.tup (p.1.map kV))/\RelV p.2 q.2.2) kvs xs /\
     ∃o es ep,h.get? a=some o/\o.ExactDict/\o.data = .dict es ep/\es.toList=xs.map (entryOfKey (tupleKind (AQ P w)))/\(xs.map (·.1)).Nodup
 | .set S n=>h.SetOf (intKind P w) a S n
 | .ins C dx fs=>H dx=some (.own a)/\fs.length<=1000/\dx≠a/\h.get? a=some (PySem.W.instObj C dx) /\∃mA,h.Ns1 dx mA/\(∀f,RelO (fs.lookup f) (mA f))/\PySem.Within mA (fs.map (·.1))
 | .own _=>∃o,h.get? a=some o
 | .xd fs=>∃mA,h.Ns1 a mA/\∀f,RelO (fs.lookup f) (mA f)
 | .rng lo hi=>∃t u v,h.get? a=some { cls:=.type "range", data:=.fields #[.int lo t,.int hi u,.int 1 v] }
 | .frz o u=>h.get? a=some o/\ObjOk H h a u
 | .tbl ps=>h.get? a=some { cls:=.none,data:=.fields ps }
 | .met f x=>h.get? a=some (PySem.W.methodObj (.ref f) (.ref x))
 | .ext φ=>φ h/\(∃o,h.get? a=some o)/\∀h1 h2:Heap,φ h1->(∀o,h1.get? a=some o->h2.get? a=some o)->φ h2
def HOk (H:Hp) (h:Heap):Prop:=∀a o,H a=some o->ObjOk P w H h a o
end
section
variable {P:Program}{w:World}{H H':Hp}{h h':Heap}{a:Addr}{o:HO}
theorem ObjOk.lt (x:ObjOk P w H h a o):a < h.objs.size:=by
 cases o with
 | lst xs=>obtain⟨_,_,_,_,e⟩:=x;exact zM e
 | tup xs=>obtain⟨_,_,_,p⟩:=x;exact p.lt
 | dK kvs=>obtain⟨_,_,_,_,o,_,_,e,_⟩:=x;exact zM e
 | dT kvs=>obtain⟨_,_,_,_,o,_,_,e,_⟩:=x;exact zM e
 | set S n=>obtain⟨o,_,_,_,e,_⟩:=x;exact zM e
 | ins C dx fs=>obtain⟨_,_,_,e,_⟩:=x;exact zM e
 | own y=>obtain⟨_,e⟩:=x;exact zM e
 | xd fs=>obtain⟨_,⟨_,_,_,e,_⟩,_⟩:=x;exact zM e
 | rng lo hi=>obtain⟨_,_,_,e⟩:=x;exact zM e
 | frz ob u=>obtain⟨e,_⟩:=x;exact zM e
 | tbl ps=>exact zM (show h.get? a=some _ from x)
 | met f y=>exact zM (show h.get? a=some _ from x)
 | ext φ=>obtain⟨_,⟨_,e⟩,_⟩:=x;exact zM e
theorem Paired.mapP {α β:Type}{F G:α->β->Prop}:∀{l₁:List α}{l₂:List β},Paired F l₁ l₂->(∀a b,F a b->G a b)->Paired G l₁ l₂
 | _,_,.nil,_=>.nil
 | _,_,.cons r t,f=>.cons (f _ _ r) (Paired.mapP t f)
theorem ObjOk.stay (x:ObjOk P w H h a o) (k:∀b u,(b=a\/H b=some (.own a))->h.get? b=some u->h'.get? b=some u) (ho:∀b,H b=some (.own a)->H' b=some (.own a)) (ht:∀b xs,H b=some (.tup xs)->H' b=some (.tup xs)):ObjOk P w H' h' a o:=by
 induction o with
 | lst xs=>obtain⟨z,aa,n,r,e⟩:=x;exact⟨z,aa,n,r,k _ _ (.inl rfl) e⟩
 | tup xs=>obtain⟨z,aa,r,ob,e,c⟩:=x;exact⟨z,aa,r,ob,k _ _ (.inl rfl) e,c⟩
 | dK kvs=>obtain⟨z,y,vs,r,ob,es,ep,e,c⟩:=x;exact⟨z,y,vs,r,ob,es,ep,k _ _ (.inl rfl) e,c⟩
 | dT kvs=> obtain⟨z,y,xs,r,ob,es,ep,e,c⟩:=x;exact⟨z,y,xs,Paired.mapP r λp q z=>⟨z.1,ht _ _ z.2.1,z.2.2⟩,ob,es,ep,k _ _ (.inl rfl) e,c⟩
 | set S n=>obtain⟨ob,es,ep,t,e,c⟩:=x;exact⟨ob,es,ep,t,k _ _ (.inl rfl) e,c⟩
 | ins C dx fs=> obtain⟨d,z,ne,e,mA,⟨od,es,ep,e2,c⟩,r⟩:=x;exact⟨ho _ d,z,ne,k _ _ (.inl rfl) e,mA,⟨od,es,ep,k _ _ (.inr d) e2,c⟩,r⟩
 | own y=>obtain⟨ob,e⟩:=x;exact⟨ob,k _ _ (.inl rfl) e⟩
 | xd fs=>obtain⟨mA,⟨od,es,ep,e,c⟩,r⟩:=x;exact⟨mA,⟨od,es,ep,k _ _ (.inl rfl) e,c⟩,r⟩
 | rng lo hi=>obtain⟨t,u,v,e⟩:=x;exact⟨t,u,v,k _ _ (.inl rfl) e⟩
 | frz ob u ih=>obtain⟨e,q⟩:=x;exact⟨k _ _ (.inl rfl) e,ih q⟩
 | tbl ps=> have e:h.get? a=some { cls:=.none,data:=.fields ps }:=x;show h'.get? a=some { cls:=.none,data:=.fields ps };exact k a _ (.inl rfl) e
 | met f y=> have e:h.get? a=some (PySem.W.methodObj (.ref f) (.ref y)):=x;show h'.get? a=some (PySem.W.methodObj (.ref f) (.ref y));exact k a _ (.inl rfl) e
 | ext φ=>obtain⟨p,⟨o,e⟩,st⟩:=x;exact⟨st _ _ p λo q=>k _ _ (.inl rfl) q,⟨o,k _ _ (.inl rfl) e⟩,st⟩
theorem HOk.lt (x:HOk P w H h) (e:H a=some o):a < h.objs.size:=(x a o e).lt
theorem HOk.fresh (x:HOk P w H h) (e:h.objs.size<=a):H a=none:=by
 cases q:H a with
 | none=>rfl
 | some u=>exact absurd (zP (x.lt q) e) (yF _)
theorem HOk.kept (x:HOk P w H h) (k:∀b u,h.get? b=some u->h'.get? b=some u):HOk P w H h':=λa o e=>
 (x a o e).stay (λb u _ q=>k b u q) (λ_ q=>q) λ_ _ q=>q
theorem HOk.laid (x:HOk P w H h) (k:∀b u,h.get? b=some u->h'.get? b=some u) (hp:h.objs.size<=a) (new:ObjOk P w (upd H a o) h' a o):HOk P w (upd H a o) h':=λb u e=>by
 have hn:=x.fresh hp;by_cases hb:b=a;. subst hb;rw[AF] at e;cases e;exact new
 . rw[AG hb] at e;exact(x b u e).stay (λc v _ q=>k c v q) (λc q=>by rw[AG (AN q hn)];exact q) λc xs q=>by rw[AG (AN q hn)];exact q
end
def Rd (H:Hp) (a:Addr) (u:HO):Prop:=H a=some u\/∃o,H a=some (.frz o u)
theorem Rd.ok {P:Program}{w:World}{H:Hp}{h:Heap}{a:Addr}{u:HO}(r:Rd H a u) (x:HOk P w H h):ObjOk P w H h a u:=by
 rcases r with r | ⟨o,r⟩
 . exact x a u r
 . obtain⟨_,q⟩:=x a _ r;exact q
def Mut:Option HO->Prop
 | some (.lst _)=>True
 | some (.dK _)=>True
 | some (.dT _)=>True
 | some (.set _ _)=>True
 | some (.ins _ _ _)=>True
 | some (.ext _)=>True
 | _=>False
section
variable {P:Program}{w:World}{H:Hp}{h h':Heap}{x e:Addr}{o':HO}
theorem HOk.write (ok:HOk P w H h) (mu:Mut (H x)) (he:e=x\/H e=some (.own x)) (k:∀b u,b≠e->h.get? b=some u->h'.get? b=some u) (wz:∃u,h'.get? e=some u) (new:ObjOk P w (upd H x o') h' x o'):HOk P w (upd H x o') h':=λb u q=>by
 have wJ:∀c y,H c=some (.own y)->c≠x:=λc y r z=>by subst z;rw[r] at mu;exact mu
 have zf:∀c xs,H c=some (.tup xs)->c≠x:=λc xs r z=>by subst z;rw[r] at mu;exact mu
 by_cases hb:b=x;. subst hb;rw[AF] at q;cases q;exact new
 . rw[AG hb] at q;by_cases hbe:b=e
   . have q':H b=some (.own x):=by
       rcases he with z | z;. exact absurd (hbe.trans z) hb
       . rw[hbe];exact z
     rw[q] at q';cases q';obtain⟨v,hv⟩:=wz;exact⟨v,by rw[hbe];exact hv⟩
   . refine(ok b u q).stay (λc v hc r=>k c v ?_ r) (λc r=>by rw[AG (wJ c b r)];exact r) λc xs r=>by rw[AG (zf c xs r)];exact r
     rcases hc with rfl | hc;. exact hbe
     . rintro rfl;rcases he with z | z;. exact wJ c b hc z
       . rw[hc] at z;cases z;exact hb rfl
end
structure Un (fs ex:List Addr) (H H':Hp) (h h':Heap):Prop where
 keep:∀b o,h.get? b=some o->H b=none->b∉fs->b∉ex->h'.get? b=some o
 slot:∀b o,h.get? b=some o->H b=none->b∈fs->b∉ex->∃sl,h'.get? b=some { o with slots:=sl }
 free:∀b o,h.get? b=some o->H b=none->b∉ex->H' b=none
 there:∀b o,h.get? b=some o->b∉ex->∃o',h'.get? b=some o'
 tups:∀b xs,H b=some (.tup xs)->H' b=some (.tup xs)
 frzs:∀b o u,H b=some (.frz o u)->H' b=some (.frz o u)
 tbls:∀b ps,H b=some (.tbl ps)->∃more,H' b=some (.tbl (ps++more))
section
variable {fs yl ex zg:List Addr}{H H1 H2:Hp}{h h1 h2 h':Heap}{a x e:Addr}{o:HO}
theorem Un.any (u:Un fs ex H H1 h h1) {b:Addr}{ob:Obj}(q:h.get? b=some ob) (n:H b=none) (hx:b∉ex):∃sl,h1.get? b=some { ob with slots:=sl }:=by
 by_cases hb:b∈fs;. exact u.slot b ob q n hb hx
 . exact⟨ob.slots,u.keep b ob q n hb hx⟩
theorem Un.kept (k:∀b u,h.get? b=some u->h'.get? b=some u):Un fs ex H H h h':=⟨λb ob q _ _ _=>k b ob q,λb ob q _ _ _=>⟨ob.slots,k b ob q⟩,λ_ _ _ n _=>n,λb ob q _=>⟨ob,k b ob q⟩,λ_ _ q=>q,λ_ _ _ q=>q,λ_ ps q=>⟨#[],by rw[q];simp⟩⟩
theorem Un.refl:Un fs ex H H h h:=Un.kept λ_ _ q=>q
theorem Un.laid (k:∀b u,h.get? b=some u->h'.get? b=some u) (hp:h.objs.size<=a) (hn:H a=none):Un fs ex H (upd H a o) h h' where
 keep:=λb u q _ _ _=>k b u q
 slot:=λb u q _ _ _=>⟨u.slots,k b u q⟩
 free:=λb u q n _=>by rw[AG (zC (zP (zM q) hp))];exact n
 there:=λb u q _=>⟨u,k b u q⟩
 tups:=λb xs q=>by rw[AG (AN q hn)];exact q
 frzs:=λb u xs q=>by rw[AG (AN q hn)];exact q
 tbls:=λb ps q=>⟨#[],by rw[AG (AN q hn),q];simp⟩
theorem Un.write (mu:Mut (H x)) (he:e=x\/H e=some (.own x)) (k:∀b u,b≠e->h.get? b=some u->h'.get? b=some u) (wz:∃u,h'.get? e=some u):Un fs ex H (upd H x o) h h':=by
 have hx:∀b,H b=none->b≠x:=λb n z=>by subst z;rw[n] at mu;exact mu
 have hb:∀b,H b=none->b≠e:=λb n z=>by
   subst z;rcases he with r | r;. exact hx b n r
   . rw[n] at r;cases r
 have hm:∀b u,H b=some u->¬Mut (some u)->b≠x:=λb u q nm z=>by subst z;rw[q] at mu;exact nm mu
 refine⟨λb u q n _ _=>k b u (hb b n) q,λb u q n _ _=>⟨u.slots,k b u (hb b n) q⟩,λb u q n _=>by rw[AG (hx b n)];exact n,λb u q _=>?_,
   λb xs q=>by rw[AG (hm b _ q λz=>z)];exact q,λb u xs q=>by rw[AG (hm b _ q λz=>z)];exact q,λb ps q=>⟨#[],by rw[AG (hm b _ q λz=>z),q];simp⟩⟩;by_cases hbe:b=e
 . subst hbe;exact wz
 . exact⟨u,k b u hbe q⟩
end
def trk (h:Heap) (H:Hp):List Addr:=(a1V h.objs.size).filter λa=>(H a).isSome
def QH (h:Heap) (H:Hp):Heap:=PySem.W.hideAll h (trk h H)
theorem YZ (h:Heap) (H:Hp):(QH h H).objs.size=h.objs.size:=PySem.W.hideAll_size _ _
theorem bH {h:Heap}{H:Hp}{b:Addr}{o:Obj}(e:h.get? b=some o) (n:H b=none):(QH h H).get? b=some o:=
 PySem.W.hideAll_get _ e λhm=>by have q:(H b).isSome=true:=(yL.mp hm).2;rw[n] at q;simp at q
theorem iH {h:Heap}{H:Hp}{b:Addr}{o:Obj}(e:(QH h H).get? b=some o):h.get? b=some o/\H b=none:=by
 have e':h.get? b=some o:=PySem.W.of_hideAll (trk h H) e;refine⟨e',?_⟩;cases q:H b with
 | none=>rfl
 | some x=> have hm:b∈trk h H:=yL.mpr ⟨List.mem_range.mpr (zM e'),by simp[q]⟩;have z:(QH h H).get? b=none:=PySem.W.hideAll_none (trk h H) hm;rw[z] at e;cases e
structure Mod (K:Frg) (mg:Str->Option Value) (base:Heap):Prop where
 kin:K.In base
 glob:base.Ns mainGlobals mg
 blt:∃mb,base.Ns builtinsNs mb/\∀x:Str,x ≠ "__name__" -> mb x=bootBuiltins x
 nolimit:base.NoLimit
structure Cx where
 prog:Program
 w:World
 K:Frg
 mg:Str->Option Value
 base:Heap
 A:Around
 N:List Str
 s₀:Shared
 H₀:Hp
 env:Env
 outer:List Env
 stack:List Env
 ex:List Addr
 fn:Str->Bool
 calm:Bool
 pn:List (Addr×Obj)
 xe:Value->Shared->Prop
def frs (l:List Env):List Addr:=l.filterMap (·.frame)
abbrev Cx.fs (X:Cx):List Addr:=frs X.outer
def Vis (sc:Scope) (x:Str):Prop:=sc.names.lookup x=some .local\/sc.names.lookup x=some .cell\/sc.names.lookup x=some .free
def Loc (sc:Scope) (x:Str):Prop:=sc.names.lookup x=some .local\/sc.names.lookup x=some .cell
def tW (env:Env) (h:Heap) (m:Str->Option Value) (x:Str) (u:Value):Prop:=(env.kindOf x=some .local/\m x=some u)\/((env.kindOf x=some .cell\/env.kindOf x=some .free)/\∃c,env.cells.lookup x=some c/\h.IsCell c (some u))
structure Cx.Ok (X:Cx):Prop where
 mod:Mod X.K X.mg X.base
 kind:X.env.scope.kind = .function
 glob:X.env.globals=mainGlobals
 blt:X.env.builtins=builtinsNs
 above:X.s₀.heap.objs.size<=X.env.locals
 inj:∀x y c,X.env.cells.lookup x=some c->X.env.cells.lookup y=some c->x=y
 has:∀x,(X.env.kindOf x=some .cell\/X.env.kindOf x=some .free)->∃c,X.env.cells.lookup x=some c
 cab:∀x c,X.fn x=true->X.env.cells.lookup x=some c->X.s₀.heap.objs.size<=c
 hd:X.calm=true->X.A.handled=none
 frames:X.A.frames=some X.stack
 stk:X.stack=X.outer\/(X.stack=X.env::X.outer/\X.env.frame=some X.env.locals)
 exf:∀b∈X.ex,b≠X.env.locals/\∀x c,X.env.cells.lookup x=some c->c≠b
 bs:∀b o,X.base.get? b=some o->X.s₀.heap.get? b=some o/\X.H₀ b=none
 bsz:X.base.objs.size<=X.s₀.heap.objs.size
 noex:∀b o,X.base.get? b=some o->b∉X.ex
 exfs:∀b∈X.ex,b∉X.fs
 funs:X.s₀.heap.FunFrames X.base X.outer
 frf:∀b∈X.fs,X.H₀ b=none
structure Inv (X:Cx) (pins:List (Addr×Obj)) (σ:List (Option V)) (H:Hp) (s:Shared):Prop where
 ok:X.Ok
 os:s.os=X.s₀.os
 bare:AllBare s.gens
 base:Un X.fs X.ex X.H₀ H X.s₀.heap s.heap
 loc:∃m,s.heap.Ns X.env.locals m/\∀(i:Nat) (x:Str) (v:V),X.N[i]?=some x->σ[i]?=some (some v)->Vis X.env.scope x->∃u,RelV v u/\tW X.env s.heap m x u
 cell:∀x c,X.env.cells.lookup x=some c->∃v,s.heap.IsCell c v
 free:H X.env.locals=none
 freeC:∀x c,X.env.cells.lookup x=some c->H c=none
 pin:∀p∈X.pn++pins,s.heap.get? p.1=some p.2/\H p.1=none/\p.1≠X.env.locals/\p.1∉X.fs/\∀v,p.2.data≠.cell v
 hok:HOk X.prog X.w H s.heap
 len:σ.length=X.N.length
section
variable {X:Cx}{pins:List (Addr×Obj)}{σ:List (Option V)}{H H':Hp}{s:Shared}{h':Heap}
theorem Cx.Ok.nofr (ok:X.Ok) {b:Addr}{o:Obj}(e:X.base.get? b=some o):b∉X.fs:=λhb=>by have:=(ok.funs.mem hb).1;rw[e] at this;cases this
theorem Inv.bs (I:Inv X pins σ H s):∀b o,X.base.get? b=some o->s.heap.get? b=some o/\H b=none:=λb o e=>
 ⟨I.base.keep b o (I.ok.bs b o e).1 (I.ok.bs b o e).2 (I.ok.nofr e) (I.ok.noex b o e),I.base.free b o (I.ok.bs b o e).1 (I.ok.bs b o e).2 (I.ok.noex b o e)⟩
theorem Inv.bk (I:Inv X pins σ H s):∀b o,X.base.get? b=some o->s.heap.get? b=some o:=λb o e=>(I.bs b o e).1
theorem Inv.mod (I:Inv X pins σ H s):Mod X.K X.mg X.base:=I.ok.mod
theorem Inv.kIn (I:Inv X pins σ H s):X.K.In s.heap:=I.ok.mod.kin.keeps I.bk
theorem Inv.lt (I:Inv X pins σ H s):X.env.locals < s.heap.objs.size:=let ⟨_,hn,_⟩:=I.loc;hn.lt
theorem Inv.sz (I:Inv X pins σ H s):X.s₀.heap.objs.size<=s.heap.objs.size:=zN I.ok.above (xT I.lt)
theorem Inv.nofs (I:Inv X pins σ H s) {a:Addr}(h:s.heap.objs.size<=a):a∉X.fs:=λhb=>by obtain⟨_,o,ho,_⟩:=I.ok.funs.mem hb;exact absurd (zP (zM ho) (zN I.sz h)) (yF _)
theorem Inv.cne (I:Inv X pins σ H s):∀x c,X.env.cells.lookup x=some c->c≠X.env.locals:=λx c e z=>by obtain⟨v,o,ho,hd⟩:=I.cell x c e;obtain⟨m,⟨o',es,ep,kq,mm,_⟩,_⟩:=I.loc;rw[z,kq] at ho;cases ho;rw[mm] at hd;cases hd
theorem Inv.funs (I:Inv X pins σ H s):s.heap.FunFrames X.base X.outer:=by
 have all:∀(l:List Env),(∀b∈frs l,b∈X.fs)->X.s₀.heap.FunFrames X.base l->s.heap.FunFrames X.base l:=by
   intro l;induction l with
   | nil=>intro _ _;trivial
   | cons env r ih=> intro hs hl;obtain⟨hk,⟨L,o,hf,hn,ho,hd⟩,hr⟩:=hl;have hL:L∈X.fs:=hs L (by unfold frs;rw[a5J,hf];exact a0J);obtain⟨sl,e⟩:=I.base.slot L o ho (I.ok.frf L hL) hL λz=>I.ok.exfs L z hL;exact⟨hk,⟨L,_,hf,hn,e,hd⟩,ih (λb hb=>hs b (by unfold frs;rw[a5J,hf];exact yV _ hb)) hr⟩
 exact all X.outer (λ_ hb=>hb) I.ok.funs
theorem Inv.stack (I:Inv X pins σ H s):s.heap.FunFrames X.base X.stack:=by
 rcases I.ok.stk with e | ⟨e,hf⟩
 . rw[e];exact I.funs
 . rw[e];obtain⟨m,hn,_⟩:=I.loc;refine .cons (by rw[I.ok.kind];decide) hf hn ?_ I.funs;exact Heap.get?_none_of_le (zN I.ok.bsz I.ok.above)
theorem Inv.stkSub (I:Inv X pins σ H s):∀b∈frs X.stack,b∈X.env.locals::X.fs:=λb hb=>by
 rcases I.ok.stk with e | ⟨e,hf⟩
 . rw[e] at hb;exact yV _ hb
 . rw[e] at hb;unfold frs at hb;rw[a5J,hf] at hb;exact hb
theorem Inv.stkFree (I:Inv X pins σ H s):∀b∈frs X.stack,H b=none:=λb hb=>by
 rcases yX.mp (I.stkSub b hb) with e | hb;. rw[e];exact I.free
 . obtain⟨_,o,ho,_⟩:=I.ok.funs.mem hb;exact I.base.free b o ho (I.ok.frf b hb) λz=>I.ok.exfs b z hb
theorem Inv.step {g':Array GenState}{t':Nat}{d':Drawn}{ch:List Addr}(I:Inv X pins σ H s) (ix:∀b∈ch,(b∈X.ex\/X.s₀.heap.objs.size<=b)/\b≠X.env.locals/\(∀x c,X.env.cells.lookup x=some c->c≠b)/\∀p∈X.pn++pins,p.1≠b) (keep:∀b o,b≠X.env.locals->b∉X.fs->b∉ch->s.heap.get? b=some o->H b=none->h'.get? b=some o) (slot:∀b o,b≠X.env.locals->b∈X.fs->b∉ch->s.heap.get? b=some o->H b=none->∃sl,h'.get? b=some { o with slots:=sl }) (free:∀b o,b∉ch->s.heap.get? b=some o->H b=none->H' b=none) (there:∀b o,b∉ch->s.heap.get? b=some o->∃o',h'.get? b=some o') (tups:∀b xs,H b=some (.tup xs)->H' b=some (.tup xs)) (frzs:∀b o u,H b=some (.frz o u)->H' b=some (.frz o u)) (tbls:∀b ps,H b=some (.tbl ps)->∃more,H' b=some (.tbl (ps++more))) (ns:∀m,s.heap.Ns X.env.locals m->h'.Ns X.env.locals m) (hok:HOk X.prog X.w H' h') (hg:AllBare g') :
   Inv X pins σ H' { s with heap:=h',gens:=g',drawn:=d',toks:=t' }:=by
 have Bw:∀b o,X.s₀.heap.get? b=some o->b≠X.env.locals:=λb o e=>zC (zP (zM e) I.ok.above);have ym:∀b o,X.s₀.heap.get? b=some o->b∉X.ex->b∉ch:=λb o e hx hb=>by
   rcases (ix b hb).1 with z | z;. exact hx z
   . exact absurd (zP (zM e) z) (yF _)
 have cellK:∀x c,X.env.cells.lookup x=some c->∀v,s.heap.IsCell c v->h'.IsCell c v:=λx c e v ⟨o,ho,hd⟩=>by
   have ph:c∉ch:=λz=>(ix c z).2.2.1 x c e rfl;by_cases hc:c∈X.fs;. obtain⟨sl,q⟩:=slot c o (I.cne x c e) hc ph ho (I.freeC x c e);exact⟨_,q,hd⟩
   . exact⟨o,keep c o (I.cne x c e) hc ph ho (I.freeC x c e),hd⟩
 refine⟨I.ok,I.os,hg,⟨λb o e n hb hx=>?_,λb o e n hb hx=>?_,λb o e n hx=>?_,λb o e hx=>?_,λb xs e=>tups b xs (I.base.tups b xs e),λb o xs e=>frzs b o xs (I.base.frzs b o xs e),λb ps e=>?_⟩,?_,λx c e=>?_,?_,λx c e=>?_,λp hp=>?_,hok,I.len⟩;. exact keep b o (Bw b o e) hb (ym b o e hx) (I.base.keep b o e n hb hx) (I.base.free b o e n hx)
 . obtain⟨sl,e1⟩:=I.base.slot b o e n hb hx;obtain⟨vQ,e2⟩:=slot b _ (Bw b o e) hb (ym b o e hx) e1 (I.base.free b o e n hx);exact⟨vQ,e2⟩
 . obtain⟨o',e1⟩:=I.base.there b o e hx;exact free b o' (ym b o e hx) e1 (I.base.free b o e n hx)
 . obtain⟨o',e1⟩:=I.base.there b o e hx;exact there b o' (ym b o e hx) e1
 . obtain⟨m1,e1⟩:=I.base.tbls b ps e;obtain⟨m2,e2⟩:=tbls b _ e1;exact⟨m1++m2,by rw[e2,Array.append_assoc]⟩
 . obtain⟨m,hn,hl⟩:=I.loc;refine⟨m,ns m hn,λi x v e1 e2 e3=>?_⟩;obtain⟨u,r,l⟩:=hl i x v e1 e2 e3;refine⟨u,r,?_⟩;rcases l with l | ⟨k,c,e,z⟩
   . exact .inl l
   . exact .inr ⟨k,c,e,cellK x c e _ z⟩
 . obtain⟨v,z⟩:=I.cell x c e;exact⟨v,cellK x c e v z⟩
 . obtain⟨m,⟨o,_,_,ho,_⟩,_⟩:=I.loc;exact free _ o (λz=>(ix _ z).2.1 rfl) ho I.free
 . obtain⟨v,o,ho,hd⟩:=I.cell x c e;exact free c o (λz=>(ix c z).2.2.1 x c e rfl) ho (I.freeC x c e)
 . obtain⟨e,n,ne,nf,d⟩:=I.pin p hp;have ph:p.1∉ch:=λz=>(ix p.1 z).2.2.2 p hp rfl;exact⟨keep p.1 p.2 ne nf ph e n,free p.1 p.2 ph e n,ne,nf,d⟩
theorem Inv.un {t':Nat}(I:Inv X pins σ H s) (u:Un X.fs [] H H' s.heap h') (hok:HOk X.prog X.w H' h'):Inv X pins σ H' { s with heap:=h',toks:=t' }:=by obtain⟨m,⟨o,es,ep,ho,r⟩,_⟩:=id I.loc;obtain⟨sl,hL⟩:=u.any ho I.free (by simp);exact I.step (g':=s.gens) (d':=s.drawn) (ch:=[]) (λ_ z=>nomatch z) (λb o _ hb _ e n=>u.keep b o e n hb (by simp)) (λb o _ hb _ e n=>u.slot b o e n hb (by simp)) (λb o _ e n=>u.free b o e n (by simp)) (λb o _ e=>u.there b o e (by simp)) u.tups u.frzs u.tbls (λm' hm=>by obtain⟨o',ir,zh,kq,r'⟩:=hm;rw[ho] at kq;cases kq;exact⟨_,ir,zh,hL,r'⟩) hok I.bare
theorem Inv.call {g':Array GenState}{t':Nat}{d':Drawn}{ch:List Addr}(I:Inv X pins σ H s) (u:Un (frs X.stack) ch H H' s.heap h') (hok:HOk X.prog X.w H' h') (hg:AllBare g') (ix:∀b∈ch,(b∈X.ex\/X.s₀.heap.objs.size<=b)/\b≠X.env.locals/\(∀x c,X.env.cells.lookup x=some c->c≠b)/\∀p∈X.pn++pins,p.1≠b) :
   Inv X pins σ H' { s with heap:=h',gens:=g',drawn:=d',toks:=t' }:=by obtain⟨m,⟨o,es,ep,ho,r⟩,_⟩:=id I.loc;obtain⟨sl,hL⟩:=u.any ho I.free λz=>(ix _ z).2.1 rfl;exact I.step (ch:=ch) ix (λb o hL hb hc e n=>u.keep b o e n (λz=>(yX.mp (I.stkSub b z)).elim hL hb) hc) (λb o _ _ hc e n=>u.any e n hc) (λb o hc e n=>u.free b o e n hc) (λb o hc e=>u.there b o e hc) u.tups u.frzs u.tbls (λm' hm=>by obtain⟨o',ir,zh,kq,r'⟩:=hm;rw[ho] at kq;cases kq;exact⟨_,ir,zh,hL,r'⟩) hok hg
theorem Inv.turned {t':Nat}{it:Addr}(I:Inv X pins σ H s) (k:∀b o,b≠it->s.heap.get? b=some o->h'.get? b=some o) (hn:H it=none) (hL:it≠X.env.locals) (h1:it∈X.ex\/X.s₀.heap.objs.size<=it) (h2:∀x c,X.env.cells.lookup x=some c->c≠it) (h3:∀p∈X.pn++pins,p.1≠it):Inv X pins σ H { s with heap:=h',toks:=t' }:=by
 have Bx:∀b u,H b=some u->b≠it:=λb u e z=>by rw[z,hn] at e;cases e
 refine I.step (g':=s.gens) (d':=s.drawn) (ch:=[it]) (λb hb=>?_) (λb o _ _ hc e _=>k b o (λz=>hc (by simp[z])) e) (λb o _ _ hc e _=>⟨o.slots,k b o (λz=>hc (by simp[z])) e⟩) (λ_ _ _ _ n=>n)
   (λb o hc e=>⟨o,k b o (λz=>hc (by simp[z])) e⟩) (λ_ _ e=>e) (λ_ _ _ e=>e) (λb ps e=>⟨#[],by rw[e];simp⟩) (λm hm=>?_) (λb u e=>?_) I.bare
 . have e:b=it:=by simpa using hb
   subst e;exact⟨h1,hL,h2,h3⟩
 . obtain⟨o,es,ep,ho,r⟩:=hm;exact⟨o,es,ep,k _ o (a5V hL) ho,r⟩
 . refine(I.hok b u e).stay (λc v hc q=>k c v ?_ q) (λ_ q=>q) λ_ _ q=>q;rcases hc with z | z;. rw[z];exact Bx b u e
   . exact Bx c _ z
theorem Inv.tok (I:Inv X pins σ H s) (t:Nat):Inv X pins σ H { s with toks:=t }:=I.un (h':=s.heap) (t':=t) Un.refl I.hok
theorem Inv.kept {t':Nat}(I:Inv X pins σ H s) (k:∀b u,s.heap.get? b=some u->h'.get? b=some u):Inv X pins σ H { s with heap:=h',toks:=t' }:=I.un (Un.kept k) (I.hok.kept k)
theorem Inv.laid {a:Addr}{o:HO}{t':Nat}(I:Inv X pins σ H s) (k:∀b u,s.heap.get? b=some u->h'.get? b=some u) (hp:s.heap.objs.size<=a) (new:ObjOk X.prog X.w (upd H a o) h' a o) :
   Inv X pins σ (upd H a o) { s with heap:=h',toks:=t' }:=I.un (Un.laid k hp (I.hok.fresh hp)) (I.hok.laid k hp new)
theorem Inv.write {x e:Addr}{o:HO}{t':Nat}(I:Inv X pins σ H s) (mu:Mut (H x)) (he:e=x\/H e=some (.own x)) (k:∀b u,b≠e->s.heap.get? b=some u->h'.get? b=some u) (wz:∃u,h'.get? e=some u) (new:ObjOk X.prog X.w (upd H x o) h' x o):Inv X pins σ (upd H x o) { s with heap:=h',toks:=t' }:=I.un (Un.write mu he k wz) (I.hok.write mu he k wz new)
theorem Inv.weak {σ':List (Option V)}(I:Inv X pins σ H s) (hl:σ'.length=σ.length) (w:∀(i:Nat) v,σ'[i]?=some (some v)->σ[i]?=some (some v)):Inv X pins σ' H s:=⟨I.ok,I.os,I.bare,I.base,let ⟨m,hn,kr⟩:=I.loc;⟨m,hn,λi x v e1 e2 e3=>kr i x v e1 (w i v e2) e3⟩,I.cell,I.free,I.freeC,I.pin,I.hok,hl.trans I.len⟩
theorem Inv.pins_of {uf:List (Addr×Obj)}(I:Inv X pins σ H s) (h:∀p∈uf,s.heap.get? p.1=some p.2/\H p.1=none/\p.1≠X.env.locals/\p.1∉X.fs/\∀v,p.2.data≠.cell v):Inv X uf σ H s:=⟨I.ok,I.os,I.bare,I.base,I.loc,I.cell,I.free,I.freeC,λp hp=>(yW.mp hp).elim (λz=>I.pin p (List.mem_append_left _ z)) (h p),I.hok,I.len⟩
theorem MA {N:List Str}(hN:N.Nodup) {i j:Nat}{x:Str}(a:N[i]?=some x) (b:N[j]?=some x):i=j:=by obtain⟨h1,e1⟩:=yT.mp a;obtain⟨h2,e2⟩:=yT.mp b;exact(List.getElem_inj hN).mp (e1.trans e2.symm)
theorem Z0 {M:Model}{A:Around}{E:Value->Shared->Prop}{i:Nat}{x:Str}{v:V}{u:Value}{Q:Unit->Shared->Prop}(I:Inv X pins σ H s) (hN:X.N.Nodup) (hi:X.N[i]?=some x) (hx:Loc X.env.scope x) (r:RelV v u) (h:∀s',Inv X pins (σ.set i (some v)) H s'->(∃a,Heap.SameBut a s.heap s'.heap/\(a=X.env.locals\/X.env.cells.lookup x=some a))->Q () s') (hf:X.fn x=true\/X.env.scope.names.lookup x=some .local:=by first | exact .inl rfl | exact .inr rfl | assumption):wpAny M A (storeName X.env x u) Q E s:=by
 obtain⟨m,hn,hl⟩:=id I.loc;have ug:(X.env.scope.kind==.class||(X.env.scope.kind==.module&&X.env.locals != X.env.globals))=false:=by rw[I.ok.kind];rfl
 have By:i < σ.length:=by rw[I.len];exact(yT.mp hi).1
 have cne:=I.cne;have tracked:∀{a:Addr}{h':Heap},(∃o,s.heap.get? a=some o/\H a=none)->Heap.SameBut a s.heap h'->HOk X.prog X.w H h':=λ{a h'} ha hs b ob e=>by
   obtain⟨_,_,vG⟩:=ha;refine(I.hok b ob e).stay (λc w' hc q=>(hs.2 c ?_).trans q) (λ_ q=>q) λ_ _ q=>q;rintro rfl;rcases hc with rfl | hc;. rw[vG] at e;cases e
   . rw[vG] at hc;cases hc
 rcases hx with hk | hk
 . refine wpAny_storeName_local hk hn (λh' vo hs=>?_) ug;obtain⟨oL,_,_,v_,_⟩:=id hn;refine h _ ⟨I.ok,I.os,I.bare,⟨λb o e n hb hx=>?_,λb o e n hb hx=>?_,I.base.free,λb o e hx=>?_,I.base.tups,I.base.frzs,I.base.tbls⟩,⟨_,vo,λj y v' e1 e2 e3=>?_⟩,λy c e=>?_,I.free,I.freeC,λp hp=>?_,tracked ⟨oL,v_,I.free⟩ hs,by simpa using I.len⟩ ⟨_,hs,.inl rfl⟩;. exact(hs.2 b (zC (zP (zM e) I.ok.above))).trans (I.base.keep b o e n hb hx)
   . obtain⟨sl,e1⟩:=I.base.slot b o e n hb hx;exact⟨sl,(hs.2 b (zC (zP (zM e) I.ok.above))).trans e1⟩
   . obtain⟨o',e1⟩:=I.base.there b o e hx;exact⟨o',(hs.2 b (zC (zP (zM e) I.ok.above))).trans e1⟩
   . by_cases hj:j=i;. subst hj;rw[hi] at e1;cases e1;rw[List.getElem?_set_self By] at e2;cases e2;exact⟨u,r,.inl ⟨hk,by simp⟩⟩
     . rw[b1Z (a5V hj)] at e2;obtain⟨u',r',q⟩:=hl j y v' e1 e2 e3;refine⟨u',r',?_⟩;rcases q with ⟨k,e⟩ | ⟨k,c,e,z⟩
       . refine .inl ⟨k,?_⟩;have:y≠x:=λe=>hj (MA hN e1 (e▸hi));simp[this,e]
       . exact .inr ⟨k,c,e,z.sameBut hs (cne y c e)⟩
   . obtain⟨w',z⟩:=I.cell y c e;exact⟨w',z.sameBut hs (cne y c e)⟩
   . obtain⟨e,n,ne,nf,d⟩:=I.pin p hp;exact⟨(hs.2 p.1 ne).trans e,n,ne,nf,d⟩
 . have v0:X.fn x=true:=by
     rcases hf with z | z;. exact z
     . rw[z] at hk;cases hk
   obtain⟨c,hc⟩:=I.ok.has x (.inl hk);obtain⟨w',z⟩:=I.cell x c hc;refine wpAny_storeName_cell I.ok.kind hk hc z (λh' tq hs=>?_);obtain⟨oc,Bz,zi⟩:=id z;refine h { s with heap:=h' } ⟨I.ok,I.os,I.bare,⟨λb o e n hb hx=>?_,λb o e n hb hx=>?_,I.base.free,λb o e hx=>?_,I.base.tups,I.base.frzs,I.base.tbls⟩,⟨m,hn.sameBut hs (a5V (cne x c hc)),λj y v' e1 e2 e3=>?_⟩,λy c' e=>?_,I.free,I.freeC,λp hp=>?_,tracked ⟨oc,Bz,I.freeC x c hc⟩ hs,by simpa using I.len⟩ ⟨c,hs,.inr hc⟩;. exact(hs.2 b (zC (zP (zM e) (I.ok.cab x c v0 hc)))).trans (I.base.keep b o e n hb hx)
   . obtain⟨sl,e1⟩:=I.base.slot b o e n hb hx;exact⟨sl,(hs.2 b (zC (zP (zM e) (I.ok.cab x c v0 hc)))).trans e1⟩
   . obtain⟨o',e1⟩:=I.base.there b o e hx;exact⟨o',(hs.2 b (zC (zP (zM e) (I.ok.cab x c v0 hc)))).trans e1⟩
   . by_cases hj:j=i;. subst hj;rw[hi] at e1;cases e1;rw[List.getElem?_set_self By] at e2;cases e2;exact⟨u,r,.inr ⟨.inl hk,c,hc,tq⟩⟩
     . rw[b1Z (a5V hj)] at e2;obtain⟨u',r',q⟩:=hl j y v' e1 e2 e3;refine⟨u',r',?_⟩;rcases q with q | ⟨k,c',e,z'⟩
       . exact .inl q
       . refine .inr ⟨k,c',e,z'.sameBut hs ?_⟩;rintro rfl;exact hj (MA hN e1 (I.ok.inj _ _ _ e hc▸hi))
   . by_cases hcc:c'=c;. subst hcc;exact⟨_,tq⟩
     . obtain⟨w2,z2⟩:=I.cell y c' e;exact⟨w2,z2.sameBut hs hcc⟩
   . obtain⟨e,n,ne,nf,d⟩:=I.pin p hp;refine⟨(hs.2 p.1 ?_).trans e,n,ne,nf,d⟩;intro q;rw[q,Bz] at e;have q':oc=p.2:=Option.some.inj e;exact d w' (by rw[<-q'];exact zi)
theorem GF {M:Model}{A:Around}{E:Value->Shared->Prop}{i:Nat}{x:Str}{v:V}{u:Value}{Q:Unit->Shared->Prop}(I:Inv X pins σ H s) (hN:X.N.Nodup) (hi:X.N[i]?=some x) (hx:Loc X.env.scope x) (r:RelV v u) (h:∀s',Inv X pins (σ.set i (some v)) H s'->Q () s') (hf:X.fn x=true\/X.env.scope.names.lookup x=some .local:=by first | exact .inl rfl | exact .inr rfl | assumption):wpAny M A (storeName X.env x u) Q E s:=
 Z0 I hN hi hx r (λs' I' _=>h s' I') hf
theorem Inv.call' {s':Shared}{ch:List Addr}(I:Inv X pins σ H s) (ho:s'.os=s.os) (u:Un (frs X.stack) ch H H' s.heap s'.heap) (hok:HOk X.prog X.w H' s'.heap) (hg:AllBare s'.gens) (ix:∀b∈ch,(b∈X.ex\/X.s₀.heap.objs.size<=b)/\b≠X.env.locals/\(∀x c,X.env.cells.lookup x=some c->c≠b)/\∀p∈X.pn++pins,p.1≠b):Inv X pins σ H' s':=by obtain⟨h',g',d',t',o'⟩:=s';have e:o'=s.os:=ho;subst e;exact I.call (g':=g') (t':=t') (d':=d') u hok hg ix
end
abbrev XK:=Value->Option Addr->Hp->Prop
abbrev St:=List (Option V)
abbrev VK:=V->Hp->Prop
abbrev TE:=St->Hp->VK->Prop
abbrev TT:=St->Hp->(Bool->Hp->Prop)->Prop
abbrev TA:=St->Hp->(List V->Hp->Prop)->Prop
structure Ends where
 nx:St->Hp->Prop
 rt:VK
 bk:St->Hp->Prop:=λ_ _=>False
 ct:St->Hp->Prop:=λ_ _=>False
abbrev TS:=Ends->St->Hp->Prop
def EP (X:Cx) (pins:List (Addr×Obj)) (σ:St) (Q:VK) (u:Value) (s':Shared):Prop:=∃v H',Inv X pins σ H' s'/\RelV v u/\Q v H'
def TP (X:Cx) (pins:List (Addr×Obj)) (σ:St) (Q:Bool->Hp->Prop) (b:Bool) (s':Shared):Prop:=∃H',Inv X pins σ H' s'/\Q b H'
def AP (X:Cx) (pins:List (Addr×Obj)) (σ:St) (Q:List V->Hp->Prop) (us:List Value) (s':Shared):Prop:=∃vs H',Inv X pins σ H' s'/\Vals vs us/\Q vs H'
def SP (X:Cx) (pins:List (Addr×Obj)) (D:Ends) (f:Flow) (s':Shared):Prop:=
 match f with
 | .next=>∃σ' H',Inv X pins σ' H' s'/\D.nx σ' H'
 | .brk=>∃σ' H',Inv X pins σ' H' s'/\D.bk σ' H'
 | .cont=>∃σ' H',Inv X pins σ' H' s'/\D.ct σ' H'
 | .ret u=>∃v σ' H',Inv X pins σ' H' s'/\RelV v u/\D.rt v H'
def PE (X:Cx) (e:Expr) (t:TE):Prop:=∀(pins:List (Addr×Obj)) (s:Shared) (σ:St) (H:Hp) (Q:VK),Inv X pins σ H s->t σ H Q->wpAny (model X.prog X.w) X.A (eval e X.env) (EP X pins σ Q) X.xe s
def PT (X:Cx) (e:Expr) (t:TT):Prop:=∀(pins:List (Addr×Obj)) (s:Shared) (σ:St) (H:Hp) (Q:Bool->Hp->Prop),Inv X pins σ H s->t σ H Q->wpAny (model X.prog X.w) X.A (isTrue e X.env (eval e X.env)) (TP X pins σ Q) X.xe s
def PW (X:Cx) (e:Expr) (t:TT):Prop:=∀(whole:Sem Value) (pins:List (Addr×Obj)) (s:Shared) (σ:St) (H:Hp) (Q:Bool->Hp->Prop),Inv X pins σ H s->t σ H Q->wpAny (model X.prog X.w) X.A (isTrue e X.env whole) (TP X pins σ Q) X.xe s
theorem PW.pt {X:Cx}{e:Expr}{t:TT}(h:PW X e t):PT X e t:=h _
def PA (X:Cx) (es:List Expr) (t:TA):Prop:=∀(pos:Pos) (pins:List (Addr×Obj)) (s:Shared) (σ:St) (H:Hp) (Q:List V->Hp->Prop),Inv X pins σ H s->t σ H Q->wpAny (model X.prog X.w) X.A (spliced (backTo pos (starEach es X.env))) (AP X pins σ Q) X.xe s
def PS (X:Cx) (st:Stmt) (t:TS):Prop:=∀(pins:List (Addr×Obj)) (s:Shared) (σ:St) (H:Hp) (D:Ends),Inv X pins σ H s->t D σ H->wpAny (model X.prog X.w) X.A (exec st X.env) (SP X pins D) X.xe s
def PSs (X:Cx) (st:List Stmt) (t:TS):Prop:=∀(pins:List (Addr×Obj)) (s:Shared) (σ:St) (H:Hp) (D:Ends),Inv X pins σ H s->t D σ H->wpAny (model X.prog X.w) X.A (execs st X.env) (SP X pins D) X.xe s
theorem thn {α:Type}{t:Sem α}{Q Q':α->Shared->Prop}{M:Model}{A:Around}{E:Value->Shared->Prop}{s:Shared}(h:wpAny M A t Q E s) (hQ:∀a s,Q a s->Q' a s):wpAny M A t Q' E s:=wpAny_mono h hQ λ_ _ x=>x
section
variable {X:Cx}
def SO (i:Nat):TE:=λσ H Q=>∃v,σ[i]?=some (some v)/\Q v H
def tC (v:V):TE:=λ_ H Q=>Q v H
theorem bI {i:Nat}{x:Str}{pos:Pos}(hN:X.N[i]?=some x) (hv:Vis X.env.scope x) (hd:(x==("__debug__":Str))=false:=by decide) (iy:(x==("__classdict__":Str))=false:=by decide):PE X (.Name x pos) (SO i):=by
 intro pins s σ H Q I h;obtain⟨v,e,h⟩:=h;obtain⟨m,hn,hl⟩:=I.loc;obtain⟨u,r,l⟩:=hl i x v hN e hv;have fin:EP X pins σ Q u s:=⟨v,H,I,r,h⟩
 rcases l with ⟨hk,hm⟩ | ⟨hk,c,hc,pj⟩
 . exact wpAny_Name (wpAny_loadName_local I.ok.kind hk hn hm fin) hd
 . rcases hk with hk | hk;. exact wpAny_Name (wpAny_loadName_cell I.ok.kind hk hc pj fin) hd
   . exact wpAny_Name (wpAny_loadName_free I.ok.kind hk hc pj fin iy) hd
theorem nD {i j pos}:PE X (.Constant (.int i) j pos) (tC (.int i)):=λ_ _ _ H _ I h=>wpAny_Constant_int ⟨.int i,H,I.tok _,⟨_,rfl⟩,h⟩
theorem rE {b j pos}:PE X (.Constant (.bool b) j pos) (tC (.bl b)):=λ_ _ _ H _ I h=>Constant_bool ⟨.bl b,H,I,rfl,h⟩
theorem nE {j pos}:PE X (.Constant .none j pos) (tC .non):=λ_ _ _ H _ I h=>Constant_none ⟨.non,H,I,rfl,h⟩
theorem nG {x j pos}:PE X (.Constant (.str x) j pos) (tC (.str x)):=λ_ _ _ H _ I h=>Calls.Constant_str ⟨.str x,H,I.tok _,⟨_,rfl⟩,h⟩
def Gl (X:Cx) (x:Str):Prop:=X.env.kindOf x=some .globalImplicit
theorem DB {E:Value->Shared->Prop}{pins:List (Addr×Obj)}{s:Shared}{σ:St}{H:Hp}{x:Str}{u:Value}{pos:Pos}{Q:Value->Shared->Prop}(I:Inv X pins σ H s) (hg:Gl X x) (hm:X.mg x=some u) (h:Q u s) (hd:(x==("__debug__":Str))=false:=by decide):wpAny (model X.prog X.w) X.A (eval (.Name x pos) X.env) Q E s:=
 Calls.Name_function_global I.ok.kind hg (Calls.loadGlobal_global (by rw[I.ok.glob];exact I.mod.glob.keeps I.bk) hm h) hd
theorem GG {E:Value->Shared->Prop}{pins:List (Addr×Obj)}{s:Shared}{σ:St}{H:Hp}{x:Str}{u:Value}{pos:Pos}{Q:Value->Shared->Prop}(I:Inv X pins σ H s) (hg:Gl X x) (hm:X.mg x=none) (hv:bootBuiltins x=some u) (h:Q u s) (hn:x ≠ "__name__" := by decide) (hd:(x==("__debug__":Str))=false:=by decide):wpAny (model X.prog X.w) X.A (eval (.Name x pos) X.env) Q E s:=by obtain⟨mb,h1,h2⟩:=I.mod.blt;exact Calls.Name_function_global I.ok.kind hg (Calls.loadGlobal_builtin (by rw[I.ok.glob];exact I.mod.glob.keeps I.bk) hm (by rw[I.ok.blt];exact h1.keeps I.bk) ((h2 x hn).trans hv) h) hd
theorem QJ {x:Str}{v:V}{u:Value}{pos:Pos}(hg:Gl X x) (hm:X.mg x=some u) (r:RelV v u) (hd:(x==("__debug__":Str))=false:=by decide):PE X (.Name x pos) (tC v):=
 λ_ _ _ H _ I h=>DB I hg hm ⟨v,H,I,r,h⟩ hd
theorem FM {x:Str}{v:V}{u:Value}{pos:Pos}(hg:Gl X x) (hm:X.mg x=none) (hv:bootBuiltins x=some u) (r:RelV v u) (hn:x ≠ "__name__" := by decide) (hd:(x==("__debug__":Str))=false:=by decide):PE X (.Name x pos) (tC v):=
 λ_ _ _ H _ I h=>GG I hg hm hv ⟨v,H,I,r,h⟩ hn hd
variable {a b:Expr}{ta tb:TE}{pos:Pos}
def PC (X:Cx) (op:CmpOp) (a b:Expr) (t:TE):Prop:=∀(pins:List (Addr×Obj)) (s:Shared) (σ:St) (H:Hp) (Q:VK),Inv X pins σ H s->t σ H Q ->
   wpAny (model X.prog X.w) X.A (eval a X.env) (λv s₁=>wpAny (model X.prog X.w) X.A (eval b X.env) (λu s₂=>wpAny (model X.prog X.w) X.A (compareOp op v u) (EP X pins σ Q) X.xe s₂) X.xe s₁) X.xe s
def tB (t:TE):TT:=λσ H Q=>t σ H λx H1=>∃c,x = .bl c/\Q c H1
theorem bJ {op:CmpOp}{t:TE}(h:PC X op a b t) (h1:behindInMarks op b=false:=by first | exact nobehind _ (by decide) (by decide) | rfl):PE X (.Compare a [op] [b] pos) t:=λpins s σ H Q I hw=>wpAny_Compare1 (h pins s σ H Q I hw) h1
theorem bK {op:CmpOp}{t:TE}(h:PC X op a b t) (h1:behindInMarks op b=false:=by first | exact nobehind _ (by decide) (by decide) | rfl):PT X (.Compare a [op] [b] pos) (tB t):=by intro pins s σ H Q I hw;refine wpAny_isTrue_Compare1 (thn (h pins s σ H _ I hw) λv s1 h1=>thn h1 λu s2 h2=>thn h2 λc s3 ⟨x,H1,I1,r1,q1⟩=>?_) h1;obtain⟨d,rfl,q⟩:=q1;cases r1;exact wpAny_truthy_bool ⟨H1,I1,q⟩
theorem nH {e:Expr}{t:TE}(h:PE X e t) (he:∀whole,isTrue e X.env whole=(do let v <- whole;standAt e.pos;holding [v] (truthy v)):=by intro _;rfl):PT X e (tB t):=by intro pins s σ H Q I hw;refine isTrue_plain (thn (h pins s σ H _ I hw) λv s1 ⟨x,H1,I1,r1,q1⟩=>?_) (he _);obtain⟨d,rfl,q⟩:=q1;cases r1;exact wpAny_truthy_bool ⟨H1,I1,q⟩
variable {tA v3:TT}{rest:List Expr}
def rF (t u:TT):TT:=λσ H Q=>t σ H λc H1=>if c=true then u σ H1 Q else Q false H1
def tOr (t u:TT):TT:=λσ H Q=>t σ H λc H1=>if c=true then Q true H1 else u σ H1 Q
def rG (t:TT):TT:=λσ H Q=>t σ H λc H1=>Q (!c) H1
theorem pw_and1 (ha:PT X a tA):PW X (.BoolOp .And [a] pos) tA:=by
 intro wh pins s σ H Q I h;refine isTrue_and (thn (ha pins s σ H Q I h) λc s1 e=>?_);cases c with
 | true=>exact isTrue_and_nil e
 | false=>exact e
theorem pw_or1 (ha:PT X a tA):PW X (.BoolOp .Or [a] pos) tA:=by
 intro wh pins s σ H Q I h;refine isTrue_or (thn (ha pins s σ H Q I h) λc s1 e=>?_);cases c with
 | false=>exact isTrue_or_nil e
 | true=>exact e
theorem pw_and (ha:PT X a tA) (hb:PW X (.BoolOp .And (b::rest) pos) v3):PW X (.BoolOp .And (a::b::rest) pos) (rF tA v3):=by
 intro wh pins s σ H Q I h;refine isTrue_and (thn (ha pins s σ H _ I h) λc s1 ⟨H1,I1,q1⟩=>?_);cases c with
 | true=>exact hb wh pins s1 σ H1 Q I1 q1
 | false=>exact⟨H1,I1,q1⟩
theorem pw_or (ha:PT X a tA) (hb:PW X (.BoolOp .Or (b::rest) pos) v3):PW X (.BoolOp .Or (a::b::rest) pos) (tOr tA v3):=by
 intro wh pins s σ H Q I h;refine isTrue_or (thn (ha pins s σ H _ I h) λc s1 ⟨H1,I1,q1⟩=>?_);cases c with
 | true=>exact⟨H1,I1,q1⟩
 | false=>exact hb wh pins s1 σ H1 Q I1 q1
theorem nI (ha:PT X a tA):PT X (.UnaryOp .Not a pos) (rG tA):=by intro pins s σ H Q I h;exact isTrue_not (ha pins s σ H (λc H1=>Q (!c) H1) I h)
def mG (ta tb:TE):TE:=λσ H Q=>ta σ H λx H1=>∃c,x = .bl c/\if c=true then tb σ H1 Q else Q (.bl false) H1
def rH (ta tb:TE):TE:=λσ H Q=>ta σ H λx H1=>∃c,x = .bl c/\if c=true then Q (.bl true) H1 else tb σ H1 Q
def mH (ta:TE):TE:=λσ H Q=>ta σ H λx H1=>∃c,x = .bl c/\Q (.bl (!c)) H1
theorem nJ {op} {t:TE}(h:PE X a t):PE X (.BoolOp op [a] pos) t:=λpins s σ H Q I hw=>BoolOp_one (h pins s σ H Q I hw)
theorem nK (ha:PE X a ta) (hb:PE X (.BoolOp .And (b::rest) pos) tb):PE X (.BoolOp .And (a::b::rest) pos) (mG ta tb):=by
 intro pins s σ H Q I h;refine BoolOp_and (thn (ha pins s σ H _ I h) λv s1 ⟨x,H1,I1,r1,q1⟩=>?_);obtain⟨c,rfl,q1⟩:=q1;cases r1;refine wpAny_truthy_bool ?_;cases c with
 | true=>exact hb pins s1 σ H1 Q I1 q1
 | false=>exact⟨.bl false,H1,I1,rfl,q1⟩
theorem rJ (ha:PE X a ta) (hb:PE X (.BoolOp .Or (b::rest) pos) tb):PE X (.BoolOp .Or (a::b::rest) pos) (rH ta tb):=by
 intro pins s σ H Q I h;refine BoolOp_or (thn (ha pins s σ H _ I h) λv s1 ⟨x,H1,I1,r1,q1⟩=>?_);obtain⟨c,rfl,q1⟩:=q1;cases r1;refine wpAny_truthy_bool ?_;cases c with
 | false=>exact hb pins s1 σ H1 Q I1 q1
 | true=>exact⟨.bl true,H1,I1,rfl,q1⟩
theorem nL (ha:PE X a ta):PE X (.UnaryOp .Not a pos) (mH ta):=by intro pins s σ H Q I h;refine UnaryOp_ (thn (ha pins s σ H _ I h) λv s1 ⟨x,H1,I1,r1,q1⟩=>?_);obtain⟨c,rfl,q1⟩:=q1;cases r1;exact not_of (wpAny_truthy_bool ⟨.bl (!c),H1,I1,rfl,q1⟩)
def tIf (t:TT) (ta tb:TE):TE:=λσ H Q=>t σ H λc H1=>if c=true then ta σ H1 Q else tb σ H1 Q
theorem bL {c:Expr}(hc:PT X c tA) (ha:PE X a ta) (hb:PE X b tb):PE X (.IfExp c a b pos) (tIf tA ta tb):=by
 intro pins s σ H Q I h;refine wpAny_IfExp (thn (hc pins s σ H _ I h) λd s1 ⟨H1,I1,q1⟩=>?_);cases d with
 | true=>exact ha pins s1 σ H1 Q I1 q1
 | false=>exact hb pins s1 σ H1 Q I1 q1
end
def SqL (K:Frg) (H:Hp) (a:Addr) (xs:List V):Prop:=
 Rd H a (.lst xs) \/∃(o:Obj) (aa:Array Value) (n:Nat),K.lookup a=some o/\o.cls = .type "list" /\ o.dict=none/\o.data = .seq aa n/\aa.size<=sizeLine/\Vals xs aa.toList
def SqT (K:Frg) (H:Hp) (a:Addr) (xs:List V):Prop:=
 Rd H a (.tup xs) \/∃(o:Obj) (aa:Array Value) (n:Nat),K.lookup a=some o/\o.cls = .type "tuple" /\ o.data = .seq aa n/\aa.size<=sizeLine/\Vals xs aa.toList
def tX:Value->Option V
 | .none=>some .non
 | .bool b=>some (.bl b)
 | .int i _=>some (.int i)
 | .str x _=>some (.str x)
 | .bytes b _=>some (.byt b)
 | .float b _=>some (.flt b)
 | .ref a=>some (.ref a)
 | .type n=>some (.ty n)
 | _=>none
theorem RelV.abs {x:V}{u:Value}(r:RelV x u):tX u=some x:=by
 cases x with
 | non=>cases r;rfl
 | bl _=>cases r;rfl
 | int _=>obtain⟨t,rfl⟩:=r;rfl
 | str _=>obtain⟨t,rfl⟩:=r;rfl
 | byt _=>obtain⟨t,rfl⟩:=r;rfl
 | flt _=>obtain⟨t,rfl⟩:=r;rfl
 | ref _=>cases r;rfl
 | ty _=>cases r;rfl
theorem RelV.inj {x y:V}{u:Value}(r:RelV x u) (q:RelV y u):x=y:=Option.some.inj (r.abs.symm.trans q.abs)
theorem Vals.inj:∀{xs ys:List V}{us:List Value},Vals xs us->Vals ys us->xs=ys
 | _,_,_,.nil,.nil=>rfl
 | _,_,_,.cons r t,.cons r' t'=>by rw[r.inj r',Vals.inj t t']
section
variable {X:Cx}{pins:List (Addr×Obj)}{σ:St}{H:Hp}{s:Shared}{a:Addr}{xs ys:List V}
theorem SqL.of {K:Frg}(h:H a=some (.lst xs)):SqL K H a xs:=.inl (.inl h)
theorem Inv.list (I:Inv X pins σ H s) (h:SqL X.K H a xs):∃aa:List Value,Vals xs aa/\PlainL s.heap a aa.toArray/\xs.length<=sizeLine:=by
 rcases h with h | ⟨o,aa,n,hk,hc,hd,hs,hz,r⟩
 . obtain⟨z,aa,n,r,e⟩:=h.ok I.hok;exact⟨aa,r,⟨_,n,e,rfl,rfl,rfl⟩,z⟩
 . refine⟨aa.toList,r,⟨o,n,I.kIn a o hk,hc,hd,by simpa using hs⟩,?_⟩;have e:=r.length;simp only[a5X] at e;lia
theorem Inv.tuple (I:Inv X pins σ H s) (h:SqT X.K H a xs):∃aa:List Value,Vals xs aa/\IsTup s.heap a aa.toArray/\xs.length<=sizeLine:=by
 rcases h with h | ⟨o,aa,n,hk,hc,hs,hz,r⟩
 . obtain⟨z,aa,r,p⟩:=h.ok I.hok;exact⟨aa,r,p,z⟩
 . refine⟨aa.toList,r,⟨o,I.kIn a o hk,hc,n,by simpa using hs⟩,?_⟩;have e:=r.length;simp only[a5X] at e;lia
theorem Inv.list_inj (I:Inv X pins σ H s) (h:SqL X.K H a xs) (h':SqL X.K H a ys):xs=ys:=by
 obtain⟨aa,r,⟨o,n,e,_,_,d⟩,_⟩:=I.list h;obtain⟨its',r',⟨o',n',e',_,_,d'⟩,_⟩:=I.list h';rw[e] at e';cases e';rw[d] at d';injection d' with d1 _;have:aa=its':=by simpa using congrArg Array.toList d1
 subst this;exact r.inj r'
theorem Inv.tuple_inj (I:Inv X pins σ H s) (h:SqT X.K H a xs) (h':SqT X.K H a ys):xs=ys:=by
 obtain⟨aa,r,⟨o,e,_,n,d⟩,_⟩:=I.tuple h;obtain⟨its',r',⟨o',e',_,n',d'⟩,_⟩:=I.tuple h';rw[e] at e';cases e';rw[d] at d';injection d' with d1 _;have:aa=its':=by simpa using congrArg Array.toList d1
 subst this;exact r.inj r'
end
abbrev Cx.wish (X:Cx) (E:Value->Shared->Prop):Cx:={ X with xe:=E }
abbrev Cx.nox (X:Cx):Cx:=X.wish λ_ _=>False
theorem Cx.Ok.wish {X:Cx}(ok:X.Ok) (E:Value->Shared->Prop):(X.wish E).Ok:=⟨ok.mod,ok.kind,ok.glob,ok.blt,ok.above,ok.inj,ok.has,ok.cab,ok.hd,ok.frames,ok.stk,ok.exf,ok.bs,ok.bsz,ok.noex,ok.exfs,ok.funs,ok.frf⟩
theorem Cx.Ok.unwish {X:Cx}{E:Value->Shared->Prop}(ok:(X.wish E).Ok):X.Ok:=⟨ok.mod,ok.kind,ok.glob,ok.blt,ok.above,ok.inj,ok.has,ok.cab,ok.hd,ok.frames,ok.stk,ok.exf,ok.bs,ok.bsz,ok.noex,ok.exfs,ok.funs,ok.frf⟩
section
variable {X:Cx}{pins:List (Addr×Obj)}{σ:St}{H:Hp}{s:Shared}{E:Value->Shared->Prop}
theorem Inv.wish (I:Inv X pins σ H s) (E:Value->Shared->Prop):Inv (X.wish E) pins σ H s:=⟨I.ok.wish E,I.os,I.bare,I.base,I.loc,I.cell,I.free,I.freeC,I.pin,I.hok,I.len⟩
theorem Inv.unwish (I:Inv (X.wish E) pins σ H s):Inv X pins σ H s:=⟨I.ok.unwish,I.os,I.bare,I.base,I.loc,I.cell,I.free,I.freeC,I.pin,I.hok,I.len⟩
theorem SP.unwish {D:Ends}{f:Flow}{s':Shared}(h:SP (X.wish E) pins D f s'):SP X pins D f s':=by
 cases f with
 | next=>obtain⟨σ',H',I,q⟩:=h;exact⟨σ',H',I.unwish,q⟩
 | brk=>obtain⟨σ',H',I,q⟩:=h;exact⟨σ',H',I.unwish,q⟩
 | cont=>obtain⟨σ',H',I,q⟩:=h;exact⟨σ',H',I.unwish,q⟩
 | ret u=>obtain⟨v,σ',H',I,r,q⟩:=h;exact⟨v,σ',H',I.unwish,r,q⟩
theorem PSs.nox {st:List Stmt}{t:TS}(h:PSs X.nox st t):PSs X st t:=λpins s σ H D I hw=>
 wpAny_mono (h pins s σ H D (I.wish _) hw) (λ_ _ q=>q.unwish) λ_ _ z=>a6Z z
end
section
variable {X:Cx}{st:Stmt}{rest:List Stmt}{t u:TS}{e:Expr}{te:TE}{pos:Pos}
def mI:TS:=λD σ H=>D.nx σ H
def iI (t u:TS):TS:=λD σ H=>t { D with nx:=u D } σ H
theorem iJ:PSs X [] mI:=λ_ _ σ H _ I h=>wpAny_execs_nil ⟨σ,H,I,h⟩
theorem SQ (h1:PS X st t) (h2:PSs X rest u):PSs X (st::rest) (iI t u):=by
 intro pins s σ H D I h;refine wpAny_execs_cons (thn (h1 pins s σ H { D with nx:=u D } I h) λf s1 q=>?_);cases f with
 | next=> obtain⟨σ',H',I',q⟩:=q;exact h2 pins s1 σ' H' D I' q
 | ret v=>exact q
 | brk=>exact q
 | cont=>exact q
theorem LL (h1:PS X st t):PSs X [st] t:=by
 intro pins s σ H D I h;refine wpAny_execs_cons (thn (h1 pins s σ H D I h) λf s1 q=>?_);cases f with
 | next=>exact wpAny_execs_nil q
 | ret v=>exact q
 | brk=>exact q
 | cont=>exact q
theorem Inv.quiet {pins:List (Addr×Obj)}{σ:St}{H:Hp}{s:Shared}(I:Inv X pins σ H s):interactive X.env=false:=by simp[interactive,I.ok.kind]
def bM (te:TE):TS:=λD σ H=>te σ H λ_ H1=>D.nx σ H1
theorem iK (he:PE X e te) (hs:swapsWith e none pos.line X.env=pure false:=by rfl):PS X (.Expr e pos) (bM te):=by intro pins s σ H D I h;exact wpAny_Expr_any (thn (he pins s σ H _ I h) λv s1 ⟨x,H1,I1,r1,q1⟩=>⟨σ,H1,I1,q1⟩) I.quiet hs
def nM (te:TE):TS:=λD σ H=>te σ H D.rt
theorem nN (he:PE X e te):PS X (.Return (some e) pos) (nM te):=by intro pins s σ H D I h;exact wpAny_Return_some (thn (he pins s σ H _ I h) λv s1 ⟨x,H1,I1,r1,q1⟩=>⟨x,σ,H1,I1,r1,q1⟩)
def nO (c:TT) (t u:TS):TS:=λD σ H=>c σ H λb H1=>if b=true then t D σ H1 else u D σ H1
theorem rK {c:Expr}{a b:List Stmt}{tc:TT}(hc:PT X c tc) (ha:PSs X a t) (hb:PSs X b u):PS X (.If c a b pos) (nO tc t u):=by
 intro pins s σ H D I h;refine wpAny_If (thn (hc pins s σ H _ I h) λd s1 ⟨H1,I1,q1⟩=>?_);cases d with
 | true=>exact ha pins s1 σ H1 D I1 q1
 | false=>exact hb pins s1 σ H1 D I1 q1
end
abbrev TG:=V->St->Hp->(St->Hp->Prop)->Prop
abbrev TGs:=List V->St->Hp->(St->Hp->Prop)->Prop
def PG (X:Cx) (target:Expr) (t:TG):Prop:=∀(pins:List (Addr×Obj)) (s:Shared) (σ:St) (H:Hp) (v:V) (u:Value) (Q:St->Hp->Prop),Inv X pins σ H s->RelV v u->t v σ H Q ->
   wpAny (model X.prog X.w) X.A (assign target X.env u) (λ_ s'=>∃σ' H',Inv X pins σ' H' s'/\Q σ' H') X.xe s
def PGs (X:Cx) (ts:List Expr) (t:TGs):Prop:=∀(pins:List (Addr×Obj)) (s:Shared) (σ:St) (H:Hp) (vs:List V) (us:List Value) (Q:St->Hp->Prop),Inv X pins σ H s->Vals vs us->t vs σ H Q ->
   wpAny (model X.prog X.w) X.A (assignInOrder ((assignEach ts X.env).map (·.2)) us) (λ_ s'=>∃σ' H',Inv X pins σ' H' s'/\Q σ' H') X.xe s
abbrev nP:=V->V->V->Hp->(Hp->Prop)->Prop
def rL (X:Cx) (t:nP):Prop:=∀(pins:List (Addr×Obj)) (s:Shared) (σ:St) (H:Hp) (o i v:V) (ov iv u:Value) (Q:Hp->Prop),Inv X pins σ H s->RelV o ov->RelV i iv->RelV v u->t o i v H Q ->
   wpAny (model X.prog X.w) X.A (setItem ov iv u) (λ_ s'=>∃H',Inv X pins σ H' s'/\Q H') X.xe s
section
variable {X:Cx}{pos:Pos}
def HK (i:Nat):TG:=λv σ H Q=>Q (σ.set i (some v)) H
theorem X8 {i:Nat}{x:Str}(hN:X.N.Nodup) (hi:X.N[i]?=some x) (hx:Loc X.env.scope x) (hf:X.fn x=true\/X.env.scope.names.lookup x=some .local:=by first | exact .inl rfl | exact .inr rfl | assumption):PG X (.Name x pos) (HK i):=by intro pins s σ H v u Q I r h;exact wpAny_assign_Name (GF I hN hi hx r (λs' I'=>⟨_,H,I',h⟩) hf)
def iL:TGs:=λvs σ H Q=>vs=[]/\Q σ H
def SR (t:TG) (u:TGs):TGs:=λvs σ H Q=>∃v r,vs=v::r/\t v σ H λσ' H'=>u r σ' H' Q
theorem iM:PGs X [] iL:=by intro pins s σ H vs us Q I r h;obtain⟨e,h⟩:=h;subst e;cases r;exact assignInOrder_nil ⟨σ,H,I,h⟩
theorem bN {e:Expr}{es:List Expr}{t:TG}{u:TGs}(h1:PG X e t) (h2:PGs X es u) (hs:(assignEach (e::es) X.env).map (·.2)=assign e X.env::(assignEach es X.env).map (·.2):=by rfl):PGs X (e::es) (SR t u):=by
 intro pins s σ H vs us Q I r h;obtain⟨v,vr,e1,h⟩:=h;subst e1;cases r with
 | cons r rr=> rw[hs];refine assignInOrder_cons (thn (h1 pins s σ H _ _ _ I r h) λ_ s1 ⟨σ1,H1,I1,q1⟩=>?_);exact h2 pins s1 σ1 H1 _ _ Q I1 rr q1
def iN (K:Frg) (n:Nat) (t:TGs):TG:=λv σ H Q=>∃a xs,v = .ref a/\SqT K H a xs/\xs.length=n/\t xs σ H Q
theorem bO {es:List Expr}{k:Nat}{t:TGs}{n:Nat}(hc:X.calm=true) (h:PGs X es t) (hn:(assignEach es X.env).length=n:=by rfl) (c_:(assignEach es X.env).findIdx? (·.1)=none:=by rfl):PG X (.Tuple es k pos) (iN X.K n t):=by intro pins s σ H v u Q I r hw;obtain⟨a,xs,e1,hq,hl,hw⟩:=hw;subst e1;cases r;obtain⟨aa,rv,ht,hz⟩:=I.tuple hq;refine assign_Tuple_tuple (I.ok.hd hc) ht (by simp[hn,<-hl,rv.length]) c_ λh' hx=>?_;have I1:Inv X pins σ H { s with heap:=h' }:=I.kept (t':=s.toks) λb o e=>hx b o (zC (zM e)) e;exact h pins _ σ H xs _ Q I1 (by simpa using rv) hw
def rM (to ti:TE) (t:nP):TG:=λv σ H Q=>to σ H λo H1=>ti σ H1 λi H2=>t o i v H2 λH3=>Q σ H3
theorem nQ {o i:Expr}{to ti:TE}{t:nP}(ho:PE X o to) (hi:PE X i ti) (hs:rL X t) (ha:∀v,assign (.Subscript o i pos) X.env v=(do
     let ov <- holding [v] (eval o X.env);let iv <- holding [v,ov] (eval i X.env)
     standAt pos
     holding [v,ov,iv] (setItem ov iv v)
     release [v,ov,iv] []):=by intro _;rfl):PG X (.Subscript o i pos) (rM to ti t):=by intro pins s σ H v u Q I r h;rw[ha];refine zZ (wpAny_holding (thn (ho pins s σ H _ I h) λov s1 ⟨x,H1,I1,r1,q1⟩=>?_));refine zZ (wpAny_holding (thn (hi pins s1 σ H1 _ I1 q1) λiv s2 ⟨y,H2,I2,r2,q2⟩=>?_));refine zZ (wpAny_standAt (zZ (wpAny_holding (thn (hs pins s2 σ H2 x y v ov iv u _ I2 r1 r2 r q2) λ_ s3 ⟨H3,I3,q3⟩=>?_))));exact wpAny_release ⟨σ,H3,I3,q3⟩
def VH (te:TE) (g:TG):TS:=λD σ H=>te σ H λx H1=>g x σ H1 D.nx
theorem VI {tg e:Expr}{te:TE}{g:TG}(he:PE X e te) (hg:PG X tg g) (hs:swapsWithSole [tg] e pos.line X.env=pure false:=by rfl) (hw:swappedStores [tg] e X.env=pure none:=by rfl)
   (h1:(assignEach [tg] X.env).map (·.2)=[assign tg X.env]:=by rfl):PS X (.Assign [tg] e pos) (VH te g):=by intro pins s σ H D I h;refine wpAny_Assign_stores (thn (he pins s σ H _ I h) λv s1 ⟨x,H1,I1,r1,q1⟩=>?_) hs hw;rw[h1];exact thn (hg pins s1 σ H1 x v _ I1 r1 q1) λ_ s2 q=>q
theorem nR {i:Nat}{x:Str}{e:Expr}{te:TE}{pos':Pos}(hN:X.N.Nodup) (hi:X.N[i]?=some x) (hx:Loc X.env.scope x) (he:PE X e te) (hs:swapsWith e (some (.Name x pos')) pos.line X.env=pure false:=by rfl) (hf:X.fn x=true\/X.env.scope.names.lookup x=some .local:=by first | exact .inl rfl | exact .inr rfl | assumption) :
   PS X (.Assign [.Name x pos'] e pos) (VH te (HK i)):=by intro pins s σ H D I h;refine wpAny_Assign_Name (thn (he pins s σ H _ I h) λv s1 ⟨y,H1,I1,r1,q1⟩=>?_) hs;exact GF I1 hN hi hx r1 (λs2 I2=>⟨_,H1,I2,q1⟩) hf
def rN (i j:Nat) (ta:TA):TS:=λD σ H=>ta σ H λvs H1=>∃v w,vs=[v,w]/\D.nx ((σ.set i (some v)).set j (some w)) H1
theorem bP {i j:Nat}{x y:Str}{a b:Expr}{ta:TA}{px py pt:Pos}{kt k2 pt2} (hc:X.calm=true) (hN:X.N.Nodup) (hi:X.N[i]?=some x) (hj:X.N[j]?=some y) (bc:i≠j) (hx:X.env.scope.names.lookup x=some .local) (hy:X.env.scope.names.lookup y=some .local) (ha:PA X [a,b] ta) (hw:swappedStores [.Tuple [.Name x px,.Name y py] kt pt] (.Tuple [a,b] k2 pt2) X.env=pure (some [x,y])) (hs:swapsWithSole [.Tuple [.Name x px,.Name y py] kt pt] (.Tuple [a,b] k2 pt2) pos.line X.env=pure false:=by rfl) :
   PS X (.Assign [.Tuple [.Name x px,.Name y py] kt pt] (.Tuple [a,b] k2 pt2) pos) (rN i j ta):=by
 intro pins s σ H D I h;rw[exec_Assign_arm];refine zZ (wpAny_standAt ?_);rw[hs];refine zZ (zY ?_);rw[if_neg (by decide)];refine zZ (Tuple_ (thn (ha _ pins s σ H _ I h) λus s1 ⟨vs,H1,I1,r1,q1⟩=>?_));obtain⟨v,w,e1,q1⟩:=q1;subst e1;obtain⟨u1,u2,rfl,rv,j_⟩:∃u1 u2,us=[u1,u2]/\RelV v u1/\RelV w u2:=by
   cases r1 with
   | cons p q=>
     cases q with
     | cons p' q'=> cases q';exact⟨_,_,rfl,p,p'⟩
 refine xN ?_ (by show 2<=sizeLine;decide);have I2:Inv X pins σ H1 { s1 with heap:=s1.heap.push { cls:=.type "tuple", data:=.seq [u1,u2].toArray } }:=I1.kept (t':=s1.toks) λb o e=>zW _ e;rw[hw];refine zZ (zY ?_);show wpAny (model X.prog X.w) X.A (do rule "assign.swapped-stores";let items <- unpackItems (.ref s1.heap.objs.size) 2 none;assignInOrder [λv=>bindName X.env y v,λv=>bindName X.env x v] items.reverse;pure Flow.next) _ _ _;refine zZ (wpAny_rule (zZ (unpackItems_tuple (items:=#[u1,u2]) (I.ok.hd hc) (IsTup.new s1.heap _) λh' qf=>?_)));have I3:=I2.kept (h':=h') (t':=s1.toks) λb o e=>qf b o (zC (zM e)) e;show wpAny _ _ (assignInOrder [λv=>bindName X.env y v,λv=>bindName X.env x v] [u2,u1] >>= λ_=>pure Flow.next) _ _ _;refine zZ (assignInOrder_cons (wpAny_bindName (GF I3 hN hj (.inl hy) j_ (λs2 I4=>?_) (.inr hy))));refine assignInOrder_cons (wpAny_bindName (GF I4 hN hi (.inl hx) rv (λs3 I5=>assignInOrder_nil (zY ?_)) (.inr hx)));rw[List.set_comm _ _ (a5V bc)] at I5;exact⟨_,H1,I5,q1⟩
end
structure It where
 go:Nat->Hp->Prop
 yld:Nat->Hp->V->Hp->Prop
 stop:Nat->Hp->Prop
def JW (X:Cx) (pins:List (Addr×Obj)) (H:Hp) (b:Addr):Prop:=
 H b=none/\b≠X.env.locals/\b∉X.fs/\(b∈X.ex\/X.s₀.heap.objs.size<=b)/\(∀x c,X.env.cells.lookup x=some c->c≠b)/\∀p∈X.pn++pins,p.1≠b
theorem Inv.fpOk {X:Cx}{pins:List (Addr×Obj)}{σ:St}{H H':Hp}{s:Shared}{b:Addr}(I:Inv X pins σ H s) (hb:s.heap.objs.size<=b) (hn:H' b=none):JW X pins H' b:=by
 refine⟨hn,a4J (zP I.lt hb),I.nofs hb,.inr (zN I.sz hb),λx c e z=>?_,λp hp z=>?_⟩;. obtain⟨v,q⟩:=I.cell x c e;exact absurd (zP q.lt (by rw[z];exact hb)) (yF _)
 . exact absurd (zP (zM (I.pin p hp).1) (by rw[z];exact hb)) (yF _)
structure Turn (P:Program) (w:World) (K:Frg) (tg:Expr) (J:It) (fp:List Addr) (it:Addr) (tn:Nat->Heap->Prop):Prop where
 mem:it∈fp
 obj:∀i h,tn i h->∀b∈fp,∃o,h.get? b=some o/\∀v,o.data≠.cell v
 keep:∀i h h',tn i h->(∀b∈fp,∀o,h.get? b=some o->h'.get? b=some o)->tn i h'
 item:∀(X:Cx),X.prog=P->X.w=w->X.K=K->X.calm=true->∀(i:Nat) (pins:List (Addr×Obj)) (s:Shared) (σ:St) (H:Hp) (E:Value->Shared->Prop),Inv X pins σ H s->(∀b∈fp,JW X pins H b)->tn i s.heap->J.go i H ->
   wpAny (model P w) X.A (pyNext (.ref it)) (λr s1=>∃u,r=some u /\
     wpAny (model P w) X.A (letOwnedTupleGo tg (.ref it) u) (λ_ s2=>∃x H',Inv X pins σ H' s2/\RelV x u/\J.yld i H x H'/\tn (i+1) s2.heap/\∀b∈fp,H' b=none) E s1) E s
 done:∀(X:Cx),X.prog=P->X.w=w->X.K=K->X.calm=true->∀(i:Nat) (pins:List (Addr×Obj)) (s:Shared) (σ:St) (H:Hp) (E:Value->Shared->Prop),Inv X pins σ H s->(∀b∈fp,JW X pins H b)->tn i s.heap->J.stop i H ->
   wpAny (model P w) X.A (pyNext (.ref it)) (λr s1=>r=none/\Inv X pins σ H s1) E s
 self:∀(A:Around) (i:Nat) (s:Shared) (Q:Value->Shared->Prop) (E:Value->Shared->Prop),tn i s.heap->Q (.ref it) s->wpAny (model P w) A (pyIter (.ref it)) Q E s
abbrev TI:=St->Hp->(It->Hp->Prop)->Prop
def PIE (X:Cx) (pins:List (Addr×Obj)) (σ:St) (tg:Expr) (R:It->Hp->Prop) (zj:Value) (s2:Shared):Prop:=∃(it:Addr) (fp:List Addr) (tn:Nat->Heap->Prop) (J:It) (H':Hp),zj = .ref it/\Inv X pins σ H' s2/\Turn X.prog X.w X.K tg J fp it tn/\tn 0 s2.heap/\(∀b∈fp,JW X pins H' b)/\R J H'
def PI (X:Cx) (tg iter:Expr) (wi:TI):Prop:=∀(pins:List (Addr×Obj)) (s:Shared) (σ:St) (H:Hp) (R:It->Hp->Prop),Inv X pins σ H s->wi σ H R ->
   wpAny (model X.prog X.w) X.A (eval iter X.env) (λv s1=>wpAny (model X.prog X.w) X.A (pyIter v) (PIE X pins σ tg R) X.xe s1) X.xe s
theorem X9 {M:Model}{A:Around}{E:Value->Shared->Prop}{s:Shared}{tg:Expr}{it:Addr}{u:Value}{o:Obj}{n:String}{vs:Array Value}{Q:Unit->Shared->Prop}(ho:s.heap.get? it=some o) (hc:o.cls = .type n) (hd:o.data = .fields vs) (hn:["enumerate", "zip", "dict_itemiterator", "dict_reverseitemiterator", "odict_iterator", "itertools.zip_longest", "itertools.pairwise"].contains n=false) (hQ:Q () s):wpAny M A (letOwnedTupleGo tg (.ref it) u) Q E s:=by
 unfold letOwnedTupleGo;cases tg <;> first
   | exact zY hQ
   | (cases u <;> first
       | exact zY hQ
       | (refine zZ (wpAny_load ho ?_)
          rw[hc,hd];show wpAny M A (if (["enumerate", "zip", "dict_itemiterator", "dict_reverseitemiterator", "odict_iterator", "itertools.zip_longest", "itertools.pairwise"].contains n&&vs[0]?==some (rawInt _))=true then _ else _) Q E s;rw[if_neg (by intro h;rw[hn,Bool.false_and] at h;cases h)];exact zY hQ))
def Itl (K:Frg) (a:Addr):It:=⟨λi H=>∃xs x,SqL K H a xs/\xs[i]?=some x,λi H x H'=>H'=H/\∀xs,SqL K H a xs->xs[i]?=some x,λi H=>∃xs,SqL K H a xs/\xs.length<=i⟩
def Itt (K:Frg) (a:Addr):It:=⟨λi H=>∃xs x,SqT K H a xs/\xs[i]?=some x,λi H x H'=>H'=H/\∀xs,SqT K H a xs->xs[i]?=some x,λi H=>∃xs,SqT K H a xs/\xs.length<=i⟩
def Itr (lo:Int) (n:Nat):It:=⟨λi _=>i < n,λi H x H'=>H'=H/\x = .int (lo+i),λi _=>n<=i⟩
theorem Z1 {P:Program}{w:World}{K:Frg}{tg:Expr}(a it:Addr):Turn P w K tg (Itl K a) [it] it (λi h=>h.IsListIter it a i) where
 mem:=by simp
 obj:=λi h st b hb=>by
   have e:b=it:=by simpa using hb
   subst e;obtain⟨o,e,c,d⟩:=st;exact⟨o,e,λv z=>by rw[d] at z;cases z⟩
 keep:=λi h h' st k=>st.at λo e=>k it (by simp) o e
 item:=by intro X hP hw hK hc i pins s σ H E I hf st hg;subst hP hw hK;obtain⟨xs,x,hq,hx⟩:=hg;obtain⟨aa,rv,p,hz⟩:=I.list hq;obtain⟨u,hu,ru⟩:=rv.get hx;obtain⟨f0,f1,f2,f3,f4,f5⟩:=hf it (by simp);refine wpAny_pyNext_list_item st p.isList (x:=u) (by simpa using hu) λh' ka sb=>?_;have I1:Inv X pins σ H { s with heap:=h' }:=I.turned (t':=s.toks) (λb o hb e=>(sb.2 b hb).trans e) f0 f1 f3 f4 f5;obtain⟨o,e,c,d⟩:=id ka;exact⟨u,rfl,X9 (s:={ s with heap:=h' }) e c d (by decide) ⟨x,H,I1,ru,⟨rfl,λys hy=>by rw[I.list_inj hy hq];exact hx⟩,ka,λb hb=>(hf b hb).1⟩⟩
 done:=by intro X hP hw hK hc i pins s σ H E I hf st hg;subst hP hw hK;obtain⟨xs,hq,hx⟩:=hg;obtain⟨aa,rv,p,hz⟩:=I.list hq;obtain⟨f0,f1,f2,f3,f4,f5⟩:=hf it (by simp);have hl:=rv.length;exact wpAny_pyNext_list_end (I.ok.hd hc) st p.isList (by simp;lia) λh' eb=>⟨rfl,I.turned (t':=s.toks) (λb o hb e=>eb b o hb e) f0 f1 f3 f4 f5⟩
 self:=λ_ _ _ _ _ st h=>wpAny_pyIter_listiter st h
theorem VJ {P:Program}{w:World}{K:Frg}{tg:Expr}(a it:Addr):Turn P w K tg (Itt K a) [it] it (λi h=>h.IsTupleIter it a i) where
 mem:=by simp
 obj:=λi h st b hb=>by
   have e:b=it:=by simpa using hb
   subst e;obtain⟨o,e,c,d⟩:=st;exact⟨o,e,λv z=>by rw[d] at z;cases z⟩
 keep:=λi h h' st k=>st.at λo e=>k it (by simp) o e
 item:=by intro X hP hw hK hc i pins s σ H E I hf st hg;subst hP hw hK;obtain⟨xs,x,hq,hx⟩:=hg;obtain⟨aa,rv,p,hz⟩:=I.tuple hq;obtain⟨u,hu,ru⟩:=rv.get hx;obtain⟨f0,f1,f2,f3,f4,f5⟩:=hf it (by simp);refine wpAny_pyNext_tuple_item st (show s.heap.IsTuple a aa.toArray from p) (x:=u) (by simpa using hu) λh' ka sb=>?_;have I1:Inv X pins σ H { s with heap:=h' }:=I.turned (t':=s.toks) (λb o hb e=>(sb.2 b hb).trans e) f0 f1 f3 f4 f5;obtain⟨o,e,c,d⟩:=id ka;exact⟨u,rfl,X9 (s:={ s with heap:=h' }) e c d (by decide) ⟨x,H,I1,ru,⟨rfl,λys hy=>by rw[I.tuple_inj hy hq];exact hx⟩,ka,λb hb=>(hf b hb).1⟩⟩
 done:=by intro X hP hw hK hc i pins s σ H E I hf st hg;subst hP hw hK;obtain⟨xs,hq,hx⟩:=hg;obtain⟨aa,rv,p,hz⟩:=I.tuple hq;obtain⟨f0,f1,f2,f3,f4,f5⟩:=hf it (by simp);have hl:=rv.length;exact wpAny_pyNext_tuple_end (I.ok.hd hc) st (show s.heap.IsTuple a aa.toArray from p) (by simp;lia) λh' eb=>⟨rfl,I.turned (t':=s.toks) (λb o hb e=>eb b o hb e) f0 f1 f3 f4 f5⟩
 self:=λ_ _ _ _ _ st h=>wpAny_pyIter_tupleiter st h
theorem VL {P:Program}{w:World}{K:Frg}{tg:Expr}(it:Addr) (lo:Int) (n:Nat):Turn P w K tg (Itr lo n) [it] it (λi h=>IsRangeIter h it (lo+(i:Nat)*1) ((n:Int) - (i:Nat)) 1) where
 mem:=by simp
 obj:=λi h st b hb=>by
   have e:b=it:=by simpa using hb
   subst e;exact⟨_,st,λv z=>by have z':Data.fields _=Data.cell v:=z;cases z'⟩
 keep:=λi h h' st k=>k it (by simp) _ st
 item:=by intro X hP hw hK hc i pins s σ H E I hf st hg;subst hP hw hK;obtain⟨f0,f1,f2,f3,f4,f5⟩:=hf it (by simp);have W:=Walks.range (prog:=X.prog) (w:=X.w) (I.ok.hd hc) it lo 1 n;refine W.item i s _ _ hg st λv h' tk hv ka kk=>?_;obtain⟨t,rfl⟩:=hv;have I1:Inv X pins σ H { s with heap:=h',toks:=tk }:=I.turned (λb o hb e=>kk b o (by simpa using hb) e) f0 f1 f3 f4 f5;refine⟨_,rfl,X9 (s:={ s with heap:=h',toks:=tk }) (n:= "range_iterator") ka rfl rfl (by decide) ⟨.int (lo+i),H,I1,⟨t,?_⟩,⟨rfl,rfl⟩,ka,λb hb=>(hf b hb).1⟩⟩;rw[Int.mul_one]
 done:=by intro X hP hw hK hc i pins s σ H E I hf st hg;subst hP hw hK;obtain⟨f0,f1,f2,f3,f4,f5⟩:=hf it (by simp);exact wpAny_pyNext_range_end (I.ok.hd hc) st (by have:n<=i:=hg;lia) λh' eb=>⟨rfl,I.turned (t':=s.toks) (λb o hb e=>eb b o hb e) f0 f1 f3 f4 f5⟩
 self:=λ_ _ _ _ _ st h=>wpAny_pyIter_rangeiter st h
section
variable {X:Cx}{tg:Expr}
theorem bQ {pins:List (Addr×Obj)}{σ:St}{H:Hp}{s:Shared}{R:It->Hp->Prop}{E:Value->Shared->Prop}{lo hi:Int}{t u v:Tok}{tk:Nat}(I:Inv X pins σ H s) (h1 : -(2 ^ 62)<=lo) (h2:lo < 2 ^ 62) (h3 : -(2 ^ 62)<=hi) (h4:hi < 2 ^ 62) (q:R (Itr lo (hi - lo).toNat) H):wpAny (model X.prog X.w) X.A (pyIter (.ref s.heap.objs.size)) (PIE X pins σ tg R) E { s with heap:=s.heap.push { cls:=.type "range", data:=.fields #[.int lo t,.int hi u,.int 1 v] },toks:=tk }:=by
 refine wpAny_pyIter_range (IsRange.new ..) (small_one h1 h2 h3 h4) ?_;have I1:Inv X pins σ H { s with heap:=s.heap.push { cls:=.type "range", data:=.fields #[.int lo t,.int hi u,.int 1 v] },toks:=tk }:=I.kept λb o e=>zW _ e;refine⟨(s.heap.push { cls:=.type "range", data:=.fields #[.int lo t,.int hi u,.int 1 v] }).objs.size,[(s.heap.push { cls:=.type "range", data:=.fields #[.int lo t,.int hi u,.int 1 v] }).objs.size],_,_,H,rfl,
   I1.kept (t':=tk) λb o e=>zW _ e,VL _ lo (hi - lo).toNat,?_,λb hb=>?_,q⟩
 . have e1:lo+((0:Nat):Int)*1=lo:=by simp
   have e2:(((hi - lo).toNat:Nat):Int) - ((0:Nat):Int)=Builtin.Range.rangeSize lo hi 1:=by rw[rangeSize_one];split <;> lia
   show IsRangeIter _ _ (lo+((0:Nat):Int)*1) ((((hi - lo).toNat:Nat):Int) - ((0:Nat):Int)) 1;rw[e1,e2];exact yZ _ rfl
 . have e:b=(s.heap.push { cls:=.type "range", data:=.fields #[.int lo t,.int hi u,.int 1 v] }).objs.size:=by simpa using hb
   subst e;exact I1.fpOk (zR _) (I1.hok.fresh (zR _))
def mJ (ta:TA):TI:=λσ H R=>ta σ H λvs H1=>∃j:Int,vs=[.int j]/\-(2 ^ 62)<=j/\j < 2 ^ 62/\R (Itr 0 j.toNat) H1
theorem Z2 {a:Expr}{ta:TA}{p pos:Pos}(hg:Gl X "range") (hm:X.mg "range"=none) (ha:PA X [a] ta) (hs:starEach [a] X.env=[(false,eval a X.env)]:=by rfl):PI X tg (.Call (.Name "range" p) [a] [] pos) (mJ ta):=by
 intro pins s σ H R I h;refine Call_ (GG I hg hm boot_range (xI (thn (ha pos pins s σ H _ I h) λus s1 ⟨vs,H1,I1,r1,q1⟩=>?_) hs rfl));obtain⟨j,e,q1,q2,q⟩:=q1;subst e;cases r1 with
 | cons r rr=> cases rr;obtain⟨t,rfl⟩:=r;exact call_range_1 (bQ I1 (by lia) (by lia) q1 q2 (by simpa using q))
def nS (wi:TI) (g:TG) (tb:TS):TS:=λD σ H=>wi σ H λJ H1=>∃W:Nat->Nat->St->Hp->Prop,(∃m,W 0 m σ H1)/\∀i m σ H,W i m σ H ->(J.stop i H/\D.nx σ H)\/(J.go i H/\∃N:St->Hp->Prop,(∀σ' H',N σ' H'->∃m',m' < m/\W (i+1) m' σ' H')/\∀x H',J.yld i H x H'->g x σ H' λσ2 H2=>tb { D with nx:=N,ct:=N,bk:=D.nx } σ2 H2)
def MB (fp:List Addr) (h:Heap):List (Addr×Obj):=fp.filterMap λb=>(h.get? b).map λo=>(b,o)
theorem FN {fp:List Addr}{h:Heap}{b:Addr}{o:Obj}(hb:b∈fp) (e:h.get? b=some o):(b,o)∈MB fp h:=List.mem_filterMap.mpr ⟨b,hb,by rw[e];rfl⟩
theorem Z3 {fp:List Addr}{h:Heap}{p:Addr×Obj}(hp:p∈MB fp h):p.1∈fp/\h.get? p.1=some p.2:=by
 obtain⟨b,hb,e⟩:=List.mem_filterMap.mp hp;cases q:h.get? b with
 | none=>rw[q] at e;cases e
 | some o=> rw[q] at e;have e':(b,o)=p:=Option.some.inj e;subst e';exact⟨hb,q⟩
theorem Inv.pinned {pins:List (Addr×Obj)}{σ:St}{H:Hp}{s:Shared}{fp:List Addr}(I:Inv X pins σ H s) (hf:∀b∈fp,JW X pins H b) (ho:∀b∈fp,∃o,s.heap.get? b=some o/\∀v,o.data≠.cell v):Inv X (pins++MB fp s.heap) σ H s:=
 I.pins_of λp hp=>(yW.mp hp).elim (λz=>I.pin p (zB _ z)) λz=>by obtain⟨hb,e⟩:=Z3 z;obtain⟨f0,f1,f2,_⟩:=hf p.1 hb;obtain⟨o,e',d⟩:=ho p.1 hb;rw[e] at e';cases e';exact⟨e,f0,f1,f2,d⟩
theorem Inv.unpinned {pins pl:List (Addr×Obj)}{σ:St}{H:Hp}{s:Shared}(I:Inv X (pins++pl) σ H s):Inv X pins σ H s:=I.pins_of λp hp=>I.pin p (zB _ (List.mem_append_left _ hp))
theorem bR {iter:Expr}{body:List Stmt}{wi:TI}{g:TG}{tb:TS}{pos:Pos}(hp:PassesOwn (model X.prog X.w) X.A X.env X.xe) (hc:X.calm=true) (hi:PI X tg iter wi) (hg:PG X tg g) (hb:PSs X body tb) (hs:∀x,foldedSetIterable iter X.env x=pure x:=by intro _;rfl):PS X (.For tg iter body [] pos) (nS wi g tb):=by
 intro pins s σ H D I h;refine wpAny_For (thn (hi pins s σ H _ I h) λv s1 h1=>thn h1 λzj s2 h2=>?_) hs;obtain⟨it,fp,tn,J,H2,e,I2,T,ik,f2,W,⟨m0,w0⟩,turn⟩:=h2;subst e;have stat:∀{H':Hp},(∀b∈fp,H' b=none)->∀b∈fp,JW X pins H' b:=λhn b hb=>⟨hn b hb,(f2 b hb).2⟩
 refine codeAny_forLoop_any (λn s'=>∃i σ' H',Inv X pins σ' H' s'/\tn i s'.heap/\(∀b∈fp,H' b=none)/\W i n σ' H') ?_ m0 ⟨0,σ,H2,I2,ik,λb hb=>(f2 b hb).1,w0⟩;rintro n s3 ⟨i,σ3,H3,I3,ml,B_,w3⟩;rcases turn i n σ3 H3 w3 with ⟨stop,qn⟩ | ⟨go,N,hN,step⟩
 . refine wpAny_passesOwn hp (thn (T.done X rfl rfl rfl hc i pins s3 σ3 H3 X.xe I3 (stat B_) ml stop) λr s4 ⟨hr,I4⟩=>?_);subst hr;exact wpAny_execs_nil ⟨σ3,H3,I4,qn⟩
 . refine wpAny_passesOwn hp (thn (T.item X rfl rfl rfl hc i pins s3 σ3 H3 X.xe I3 (stat B_) ml go) λr s4 ⟨u,hr,h4⟩=>?_);subst hr;refine wpAny_passesOwn hp (thn h4 λ_ s5 ⟨x,H5,I5,r5,y5,qg,yn⟩=>?_);have Gi:=I5.pinned (stat yn) (T.obj _ _ qg);refine wpAny_passesOwn hp (thn (hg _ s5 σ3 H5 x u _ Gi r5 (step x H5 y5)) λ_ s6 ⟨σ6,H6,I6,q6⟩=>?_);refine wpAny_passesOwn hp (thn (hb _ s6 σ6 H6 _ I6 q6) λf s7 q7=>?_);have again:∀{σ7:St}{H7:Hp},Inv X (pins++MB fp s5.heap) σ7 H7 s7->N σ7 H7->∃m,m < n/\∃i σ' H',Inv X pins σ' H' s7/\tn i s7.heap/\(∀b∈fp,H' b=none)/\W i m σ' H':=λ{σ7 H7} I7 n7=>by obtain⟨m',hm,w7⟩:=hN σ7 H7 n7;refine⟨m',hm,i+1,σ7,H7,I7.unpinned,T.keep _ _ _ qg λb hb o e=>(I7.pin (b,o) (zB _ (zB _ (FN hb e)))).1,λb hb=>?_,w7⟩;obtain⟨o,e,d⟩:=T.obj _ _ qg b hb;exact(I7.pin (b,o) (zB _ (zB _ (FN hb e)))).2.1
   cases f with
   | next=>obtain⟨σ7,H7,I7,n7⟩:=q7;exact again I7 n7
   | cont=>obtain⟨σ7,H7,I7,n7⟩:=q7;exact again I7 n7
   | brk=>obtain⟨σ7,H7,I7,q7⟩:=q7;exact⟨σ7,H7,I7.unpinned,q7⟩
   | ret v=>obtain⟨x7,σ7,H7,I7,r7,q7⟩:=q7;exact⟨x7,σ7,H7,I7.unpinned,r7,q7⟩
end
abbrev R2:=V->V->Hp->VK->Prop
def OpR (X:Cx) (f:Value->Value->Sem Value) (r:R2):Prop:=∀(pins:List (Addr×Obj)) (s:Shared) (σ:St) (H:Hp) (x y:V) (v u:Value) (Q:VK),Inv X pins σ H s->RelV x v->RelV y u->r x y H Q ->
   wpAny (model X.prog X.w) X.A (f v u) (EP X pins σ Q) X.xe s
def UnR (X:Cx) (f:Value->Sem Value) (r:V->Hp->VK->Prop):Prop:=∀(pins:List (Addr×Obj)) (s:Shared) (σ:St) (H:Hp) (x:V) (v:Value) (Q:VK),Inv X pins σ H s->RelV x v->r x H Q ->
   wpAny (model X.prog X.w) X.A (f v) (EP X pins σ Q) X.xe s
def B9 (X:Cx) (f:Value) (r:List V->Hp->VK->Prop):Prop:=∀(pins:List (Addr×Obj)) (s:Shared) (σ:St) (H:Hp) (xs:List V) (us:List Value) (Q:VK),Inv X pins σ H s->Vals xs us->r xs H Q ->
   wpAny (model X.prog X.w) X.A (call f us) (EP X pins σ Q) X.xe s
def tOp (r:R2) (ta tb:TE):TE:=λσ H Q=>ta σ H λx H1=>tb σ H1 λy H2=>r x y H2 Q
def tUn (r:V->Hp->VK->Prop) (ta:TE):TE:=λσ H Q=>ta σ H λx H1=>r x H1 Q
def rI (C:Int->Int->Prop) (g:Int->Int->V):R2:=λx y H Q=>∃i j,x = .int i/\y = .int j/\C i j/\Q (g i j) H
def rI0 (g:Int->Int->V):R2:=λx y H Q=>∃i j,x = .int i/\y = .int j/\Q (g i j) H
def rU (g:Int->V):V->Hp->VK->Prop:=λx H Q=>∃i,x = .int i/\Q (g i) H
section
variable {X:Cx}{a b c:Expr}{ta tb tc:TE}{pos:Pos}
theorem nT (ha:PE X a ta) (hb:PE X b tb) {pins:List (Addr×Obj)}{s:Shared}{σ:St}{H:Hp}{R:V->V->Hp->Prop}(I:Inv X pins σ H s) (h:ta σ H λx H1=>tb σ H1 λy H2=>R x y H2) {Q:Value->Shared->Prop}{f:Value->Value->Sem Value} (hf:∀v u s2 x y H2,Inv X pins σ H2 s2->RelV x v->RelV y u->R x y H2->wpAny (model X.prog X.w) X.A (f v u) Q X.xe s2) :
   wpAny (model X.prog X.w) X.A (eval a X.env) (λv s₁=>wpAny (model X.prog X.w) X.A (eval b X.env) (λu s₂=>wpAny (model X.prog X.w) X.A (f v u) Q X.xe s₂) X.xe s₁) X.xe s:=by refine thn (ha pins s σ H _ I h) λv s1 ⟨x,H1,I1,r1,q1⟩=>?_;refine thn (hb pins s1 σ H1 _ I1 q1) λu s2 ⟨y,H2,I2,r2,q2⟩=>?_;exact hf v u s2 x y H2 I2 r1 r2 q2
theorem HL {op:Operator}{r:R2}(ho:OpR X (binaryOp op) r) (ha:PE X a ta) (hb:PE X b tb):PE X (.BinOp a op b pos) (tOp r ta tb):=by intro pins s σ H Q I h;exact wpAny_BinOp (nT ha hb I h λv u s2 x y H2 I2 rx ry q=>ho pins s2 σ H2 x y v u Q I2 rx ry q)
theorem rO {op:UnaryOp}{r:V->Hp->VK->Prop}(ho:UnR X (unaryOp op) r) (ha:PE X a ta):PE X (.UnaryOp op a pos) (tUn r ta):=by intro pins s σ H Q I h;exact UnaryOp_ (thn (ha pins s σ H _ I h) λv s1 ⟨x,H1,I1,r1,q1⟩=>ho pins s1 σ H1 x v Q I1 r1 q1)
theorem opI {f:Value->Value->Sem Value}{C:Int->Int->Prop}{g:Int->Int->Int} (rule:∀(i j:Int) (t u:Tok) (s:Shared) (Q:Value->Shared->Prop) (E:Value->Shared->Prop),C i j->Q (.int (g i j) s.toks) { s with toks:=s.toks+1 }->wpAny (model X.prog X.w) X.A (f (.int i t) (.int j u)) Q E s) :
   OpR X f (rI C λi j=>.int (g i j)):=by intro pins s σ H x y v u Q I rx ry h;obtain⟨i,j,rfl,rfl,hc,q⟩:=h;obtain⟨t,rfl⟩:=rx;obtain⟨t',rfl⟩:=ry;exact rule i j t t' s _ _ hc ⟨.int (g i j),H,I.tok _,⟨_,rfl⟩,q⟩
theorem rP {f:Value->Value->Sem Value}{g:Int->Int->Int} (rule:∀(i j:Int) (t u:Tok) (s:Shared) (Q:Value->Shared->Prop) (E:Value->Shared->Prop),Q (.int (g i j) s.toks) { s with toks:=s.toks+1 }->wpAny (model X.prog X.w) X.A (f (.int i t) (.int j u)) Q E s) :
   OpR X f (rI0 λi j=>.int (g i j)):=by intro pins s σ H x y v u Q I rx ry h;obtain⟨i,j,rfl,rfl,q⟩:=h;obtain⟨t,rfl⟩:=rx;obtain⟨t',rfl⟩:=ry;exact rule i j t t' s _ _ ⟨.int (g i j),H,I.tok _,⟨_,rfl⟩,q⟩
theorem nU {f:Value->Value->Sem Value}{g:Int->Int->Bool} (rule:∀(i j:Int) (t u:Tok) (s:Shared) (Q:Value->Shared->Prop) (E:Value->Shared->Prop),Q (.bool (g i j)) s->wpAny (model X.prog X.w) X.A (f (.int i t) (.int j u)) Q E s) :
   OpR X f (rI0 λi j=>.bl (g i j)):=by intro pins s σ H x y v u Q I rx ry h;obtain⟨i,j,rfl,rfl,q⟩:=h;obtain⟨t,rfl⟩:=rx;obtain⟨t',rfl⟩:=ry;exact rule i j t t' s _ _ ⟨.bl (g i j),H,I,rfl,q⟩
def nV (i j:Int):Prop:=0<=j/\j<=1000000/\i.natAbs < 2 ^ 64
def CMul (i j:Int):Prop:=(-(2 ^ 64) < i/\i < 2 ^ 64)\/(-(2 ^ 64) < j/\j < 2 ^ 64)
theorem CMul.ok {i j:Int}(h:CMul i j):IntMulOk i j:=by
 rcases h with ⟨h1,h2⟩ | ⟨h1,h2⟩
 . exact .of_left (intBits_le_64 h1 h2)
 . exact .of_right (intBits_le_64 h1 h2)
theorem nW:OpR X (binaryOp .Add) (rI0 λi j=>.int (i+j)):=rP λ_ _ _ _ _ _ _ q=>add_int q
theorem nX:OpR X (binaryOp .Sub) (rI0 λi j=>.int (i - j)):=rP λ_ _ _ _ _ _ _ q=>sub_int q
theorem nY:OpR X (binaryOp .Mod) (rI (λ_ j=>0 < j) λi j=>.int (i % j)):=opI λi j _ _ _ _ _ hc q=>by have h1:(0:Int) < j:=hc;exact mod_int' (by lia) (by rw[Int.fmod_eq_emod_of_nonneg i (by lia)];exact q)
theorem nZ:OpR X (binaryOp .Pow) (rI nV λi j=>.int (i ^ j.toNat)):=opI λ_ _ _ _ _ _ _ hc q=>pow_int_small hc.1 hc.2.1 hc.2.2 q
theorem o0:OpR X (binaryOp .LShift) (rI nV λi j=>.int (i*2 ^ j.toNat)):=opI λ_ _ _ _ _ _ _ hc q=>lshift_int_small hc.1 hc.2.1 hc.2.2 q
theorem unI {f:Value->Sem Value}{g:Int->Int} (rule:∀(i:Int) (t:Tok) (s:Shared) (Q:Value->Shared->Prop) (E:Value->Shared->Prop),Q (.int (g i) s.toks) { s with toks:=s.toks+1 }->wpAny (model X.prog X.w) X.A (f (.int i t)) Q E s) :
   UnR X f (rU λi=>.int (g i)):=by intro pins s σ H x v Q I rx h;obtain⟨i,rfl,q⟩:=h;obtain⟨t,rfl⟩:=rx;exact rule i t s _ _ ⟨.int (g i),H,I.tok _,⟨_,rfl⟩,q⟩
theorem o8:UnR X (unaryOp .USub) (rU λi=>.int (-i)):=unI λ_ _ _ _ _ q=>neg_int q
theorem QK {pins:List (Addr×Obj)}{σ:St}{H:Hp}{s:Shared}{Q:VK}{k k':Bool}(I:Inv X pins σ H s) (q:Q (.bl k) H) (e:k=k'):EP X pins σ Q (.bool k') s:=by subst e;exact⟨.bl k,H,I,rfl,q⟩
theorem rQ:OpR X (compareOp .Lt) (rI0 λi j=>.bl (decide (i < j))):=nU λ_ _ _ _ _ _ _ q=>lt_int q
theorem XA:OpR X (compareOp .LtE) (rI0 λi j=>.bl (decide (i<=j))):=nU λ_ _ _ _ _ _ _ q=>le_int q
theorem mK:OpR X (compareOp .GtE) (rI0 λi j=>.bl (decide (j<=i))):=nU λ_ _ _ _ _ _ _ q=>ge_int q
theorem Z4:OpR X (compareOp .Lt) (λx y H Q=>∃i j,x = .str i/\y = .str j/\Q (.bl (decide (i.cps.toList < j.cps.toList))) H):=by intro pins s σ H x y v u Q I rx ry h;obtain⟨i,j,rfl,rfl,q⟩:=h;obtain⟨t,rfl⟩:=rx;obtain⟨t',rfl⟩:=ry;exact lt_str (QK I q rfl)
theorem Z5:OpR X (compareOp .In) (λx y H Q=>∃i j,x = .str i/\y = .str j/\Q (.bl (!(a6X j i 0 j.length 1).isEmpty)) H):=by intro pins s σ H x y v u Q I rx ry h;obtain⟨i,j,rfl,rfl,q⟩:=h;obtain⟨t,rfl⟩:=rx;obtain⟨t',rfl⟩:=ry;exact in_str (QK I q rfl)
theorem o9:OpR X (compareOp .Is) (λx y H Q=>y = .non/\Q (.bl (decide (x = .non))) H):=by
 intro pins s σ H x y v u Q I rx ry h;obtain⟨rfl,q⟩:=h;cases ry;refine is_none_gen (QK I q ?_);cases x <;> first
   | (cases rx;rfl)
   | (obtain⟨t,rfl⟩:=rx;rfl)
theorem iO:OpR X (compareOp .IsNot) (λx y H Q=>y = .non/\Q (.bl (!decide (x = .non))) H):=by
 intro pins s σ H x y v u Q I rx ry h;obtain⟨rfl,q⟩:=h;cases ry;refine isnot_none_gen (QK I q ?_);cases x <;> first
   | (cases rx;rfl)
   | (obtain⟨t,rfl⟩:=rx;rfl)
theorem OpR.or {f:Value->Value->Sem Value}{r r':R2}(h:OpR X f r) (h':OpR X f r'):OpR X f (λx y H Q=>r x y H Q\/r' x y H Q):=by
 intro pins s σ H x y v u Q I rx ry q;rcases q with q | q;. exact h pins s σ H x y v u Q I rx ry q
 . exact h' pins s σ H x y v u Q I rx ry q
theorem D6 (b:Expr) {op:CmpOp}(h:op≠.In:=by decide) (h2:op≠.NotIn:=by decide):behindInMarks op b=false:=by
 have e1:(op==CmpOp.In)=false:=by cases op <;> first | rfl | exact absurd rfl h
 have e2:(op==CmpOp.NotIn)=false:=by cases op <;> first | rfl | exact absurd rfl h2
 cases b <;> simp[behindInMarks,e1,e2]
theorem FO {op:CmpOp}{r:R2}(ho:OpR X (compareOp op) r) (ha:PE X a ta) (hb:PE X b tb) (hm:behindInMarks op b=false):PE X (.Compare a [op] [b] pos) (tOp r ta tb):=by intro pins s σ H Q I h;exact wpAny_Compare1 (nT ha hb I h λv u s2 x y H2 I2 rx ry q=>ho pins s2 σ H2 x y v u Q I2 rx ry q) hm
def bS (t:TE):TT:=λσ H Q=>t σ H λx H'=>∃k,x = .bl k/\Q k H'
theorem EE {op:CmpOp}{r:R2}(ho:OpR X (compareOp op) r) (ha:PE X a ta) (hb:PE X b tb) (hm:behindInMarks op b=false):PT X (.Compare a [op] [b] pos) (bS (tOp r ta tb)):=by
 intro pins s σ H Q I h;refine wpAny_isTrue_Compare1 (thn (ha pins s σ H _ I h) λv s1 ⟨x,H1,I1,r1,q1⟩=>thn (hb pins s1 σ H1 _ I1 q1) λu s2 ⟨y,H2,I2,r2,q2⟩=>
   thn (ho pins s2 σ H2 x y v u _ I2 r1 r2 q2) λc s3 ⟨z,H3,I3,r3,k,e,q3⟩=>?_) hm;subst e;cases r3;exact wpAny_truthy_bool ⟨H3,I3,q3⟩
def VM (r r':R2) (ta tb tc:TE):TE:=λσ H Q=>ta σ H λx H1=>tb σ H1 λy H2=>r x y H2 λz H3=>∃k,z = .bl k /\(if k=true then tc σ H3 λw' H4=>r' y w' H4 Q else Q (.bl false) H3)
theorem bT {op vR:CmpOp}{r r':R2}(ho:OpR X (compareOp op) r) (kq:OpR X (compareOp vR) r') (ha:PE X a ta) (hb:PE X b tb) (hc:PE X c tc) (hm:lastMarks [op,vR] [b,c]=false:=by with_unfolding_all rfl):PE X (.Compare a [op,vR] [b,c] pos) (VM r r' ta tb tc):=by
 intro pins s σ H Q I h;refine Compare_chain (thn (ha pins s σ H _ I h) λv s1 ⟨x,H1,I1,r1,q1⟩=>chain_link (thn (hb pins s1 σ H1 _ I1 q1) λu s2 ⟨y,H2,I2,r2,q2⟩=>
   thn (ho pins s2 σ H2 x y v u _ I2 r1 r2 q2) λd s3 ⟨z,H3,I3,r3,k,e,q3⟩=>?_)) hm;subst e;cases r3;refine wpAny_truthy_bool ?_;cases k with
 | false=>exact ite_ff ⟨.bl false,H3,I3,rfl,q3⟩
 | true=>exact ite_tt (chain_last (thn (hc pins s3 σ H3 _ I3 q3) λw' s4 ⟨z',H4,I4,r4,q4⟩=>kq pins s4 σ H4 y z' u w' Q I4 r2 r4 q4))
theorem bU {op vR:CmpOp}{r r':R2}(ho:OpR X (compareOp op) r) (kq:OpR X (compareOp vR) r') (ha:PE X a ta) (hb:PE X b tb) (hc:PE X c tc) (hm:lastMarks [op,vR] [b,c]=false:=by with_unfolding_all rfl):PT X (.Compare a [op,vR] [b,c] pos) (bS (VM r r' ta tb tc)):=by
 intro pins s σ H Q I h;refine isTrue_chain (thn (ha pins s σ H _ I h) λv s1 ⟨x,H1,I1,r1,q1⟩=>test_link (thn (hb pins s1 σ H1 _ I1 q1) λu s2 ⟨y,H2,I2,r2,q2⟩=>
   thn (ho pins s2 σ H2 x y v u _ I2 r1 r2 q2) λd s3 ⟨z,H3,I3,r3,k,e,q3⟩=>?_)) hm;subst e;cases r3;refine wpAny_truthy_bool ?_;cases k with
 | false=> obtain⟨k',e',q'⟩:=q3;cases e';exact ite_ff ⟨H3,I3,q'⟩
 | true=> refine ite_tt (test_last (thn (hc pins s3 σ H3 _ I3 q3) λw' s4 ⟨z',H4,I4,r4,q4⟩=>thn (kq pins s4 σ H4 y z' u w' _ I4 r2 r4 q4) λd' s5 ⟨z2,H5,I5,r5,k2,e2,q5⟩=>?_));subst e2;cases r5;exact wpAny_truthy_bool ⟨H5,I5,q5⟩
theorem MC:(sizeLine:Nat) < 2 ^ 63:=by rw[sizeLine_eq];decide
theorem VN:OpR X (binaryOp .Add) (λx y H Q=>∃i j,x = .str i/\y = .str j/\i.length+j.length<=sizeLine/\Q (.str (i++j)) H):=by intro pins s σ H x y v u Q I rx ry h;obtain⟨i,j,rfl,rfl,hz,q⟩:=h;obtain⟨t,rfl⟩:=rx;obtain⟨t',rfl⟩:=ry;exact add_str (λt' tk=>⟨.str (i++j),H,I.tok _,⟨_,rfl⟩,q⟩) hz
theorem F3 {x:V}{us:List Value}(r:Vals [x] us):∃u,us=[u]/\RelV x u:=by
 cases r with
 | cons r1 r2=>cases r2;exact⟨_,rfl,r1⟩
theorem rR {x y:V}{us:List Value}(r:Vals [x,y] us):∃u w',us=[u,w']/\RelV x u/\RelV y w':=by
 cases r with
 | cons r1 r2=>
   cases r2 with
   | cons r3 r4=>cases r4;exact⟨_,_,rfl,r1,r3⟩
def bV (K:Frg) (x:V) (H:Hp) (n:Nat):Prop:=
 match x with
 | .str y=>y.length<=sizeLine/\n=y.length
 | .byt y=>y.size<=sizeLine/\n=y.size
 | .ref p=>(∃xs,SqL K H p xs/\n=xs.length)\/∃xs,SqT K H p xs/\n=xs.length
 | _=>False
theorem bW:B9 X (.builtin "len") (λxs H Q=>∃x n,xs=[x]/\bV X.K x H n/\Q (.int n) H):=by
 intro pins s σ H xs us Q I r h;obtain⟨x,n,rfl,e,q⟩:=h;obtain⟨u,rfl,rx⟩:=F3 r;have hl:=MC;have hs:sizeLine=16777216:=sizeLine_eq;cases x with
 | str y=> obtain⟨t,rfl⟩:=rx;obtain⟨hy,e'⟩:y.length<=sizeLine/\n=y.length:=e;subst e';exact len_str (by lia) ⟨.int _,H,I.tok _,⟨_,rfl⟩,q⟩
 | byt y=> obtain⟨t,rfl⟩:=rx;obtain⟨hy,e'⟩:y.size<=sizeLine/\n=y.size:=e;subst e';exact PySem.W.len_bytes (by lia) ⟨.int _,H,I.tok _,⟨_,rfl⟩,q⟩
 | ref p=>
   cases rx;have e':(∃xs,SqL X.K H p xs/\n=xs.length)\/∃xs,SqT X.K H p xs/\n=xs.length:=e;rcases e' with ⟨xs,hx,e'⟩ | ⟨xs,hx,e'⟩
   . subst e';obtain⟨aa,r',pl,hz⟩:=I.list hx;have af:=r'.length;exact Calls.call_len_list pl.isList (by simp only[zJ];lia) ⟨.int xs.length,H,I.tok _,⟨_,by simp only[zJ];rw[af]⟩,q⟩
   . subst e';obtain⟨aa,r',pl,hz⟩:=I.tuple hx;have af:=r'.length;exact len_tuple pl (by simp only[zJ];lia) ⟨.int xs.length,H,I.tok _,⟨_,by simp only[zJ];rw[af]⟩,q⟩
 | _=>exact(show False from e).elim
end
structure ObjM (h:Heap) (x dx C:Addr) (mA:Str->Option Value):Prop where
 obj:h.get? x=some (PySem.W.instObj C dx)
 ns:h.Ns1 dx mA
 ne:dx≠x
theorem OZ {h:Heap}{dx:Addr}{mA:Str->Option Value}(n:h.Ns1 dx mA):∃od,h.get? dx=some od/\∀name,PySem.W.lookIn name od=some (mA name):=by
 obtain⟨o,es,ep,ho,hd,hk,_,hm⟩:=n;refine⟨o,ho,λname=>?_⟩;have e:=hm name;unfold nsFind findBy at e;rw[<-Array.find?_toList] at e;unfold PySem.W.lookIn;rw[hd];dsimp only;split;. rename_i y q;rw[q] at e;exact congrArg some e
 . rename_i q;rw[q] at e;have a:es.toList.any (·.refKey)=false:=by rw[List.any_eq_false];intro y hy;obtain⟨z,t,zk⟩:=hk y (Array.mem_toList_iff.mp hy);simp[DictEntry.refKey,zk]
   have a':¬es.toList.any (·.refKey)=true:=by rw[a];exact nft
   rw[if_neg a'];exact congrArg some e
theorem ObjM.look {h:Heap}{x dx C:Addr}{mA:Str->Option Value}(I:ObjM h x dx C mA):∃od,PySem.W.InstAt h x (PySem.W.instObj C dx) C (some od)/\∀name,PySem.W.lookIn name od=some (mA name):=
 let ⟨od,ho,hl⟩:=OZ I.ns
 ⟨od,⟨I.obj,rfl,rfl,ho⟩,hl⟩
theorem RelO.some_of {v:V}{o:Option Value}(r:RelO (some v) o):∃u,o=some u/\RelV v u:=by
 cases o with
 | none=>exact(show False from r).elim
 | some u=>exact⟨u,rfl,r⟩
theorem Z6 {v:V}{u:Value}(r:RelV v u):PySem.W.handedIn u=true:=by
 cases v with
 | non=>cases (show u=a0W from r);rfl
 | bl b=>cases (show u=b6Z b from r);rfl
 | int i=>obtain⟨t,e⟩:=(show ∃t,u=Value.int i t from r);cases e;rfl
 | str x=>obtain⟨t,e⟩:=(show ∃t,u=b6X x t from r);cases e;rfl
 | byt b=>obtain⟨t,e⟩:=(show ∃t,u=Value.bytes b t from r);cases e;rfl
 | flt b=>obtain⟨t,e⟩:=(show ∃t,u=Value.float b t from r);cases e;rfl
 | ref a=>cases (show u=a0X a from r);rfl
 | ty n=>cases (show u=b6Q n from r);rfl
section
variable {P:Program}{w:World}{H H':Hp}{h h':Heap}{a C dx:Addr}{fs yl:List (Str×V)}
theorem iP (hok:HOk P w H h) (e:H a=some (.ins C dx fs)):∃mA,ObjM h a dx C mA/\(∀f,RelO (fs.lookup f) (mA f))/\PySem.Within mA (fs.map (·.1))/\fs.length<=1000/\H dx=some (.own a):=by
 obtain⟨d,z,ne,ob,mA,n,r,q⟩:=(show ObjOk P w H h a (.ins C dx fs) from hok a _ e)
 exact⟨mA,⟨ob,n,ne⟩,r,q,z,d⟩
end
structure Cls (K:Frg) (C:Addr):Prop where
 pg:PySem.W.plainGet K C Str.empty=true
 hd:PySem.W.hasDictIn K C=true
 po:PySem.W.plainOver K C=true
 sa:a5Q K (.ref C) "__setattr__"=some (some (.builtin "object.__setattr__"))
theorem Cls.get {K:Frg}{C:Addr}(c:Cls K C) (f:Str):PySem.W.plainGet K C f=true:=c.pg
def JX (K:Frg) (C:Addr) (f:Str):Prop:=a5Q K (.ref C) f=some none
section
variable {X:Cx}{pins:List (Addr×Obj)}{σ:St}{H:Hp}{s:Shared}{a C dx:Addr}{fs:List (Str×V)}{f:Str}{v:V}{A:Around}{E:Value->Shared->Prop}
theorem iQ {prog:Program}{w:World}{env:Env}{e:Expr}{f:Str}{pos:Pos}{s:Shared}{Q:Value->Shared->Prop}(hb:attributeBase e f env (eval e env)=eval e env) (h:wpAny (model prog w) A (eval e env) (λo s₁=>wpAny (model prog w) A (getAttr o f true) Q E s₁) E s):wpAny (model prog w) A (eval (.Attribute e f pos) env) Q E s:=
 Attribute_any_ h (by rw[arm_eval_Attribute,hb])
end
section
variable {X:Cx}{pins:List (Addr×Obj)}{σ:St}{H:Hp}{s:Shared}{A:Around}{E:Value->Shared->Prop}{Q:Value->Shared->Prop}{c:Value}{b:Bool}
inductive TyOf (K:Frg) (H:Hp):V->Value->Prop where
 | non:TyOf K H .non (.type "NoneType")
 | bl (x:Bool):TyOf K H (.bl x) (.type "bool")
 | int (i:Int):TyOf K H (.int i) (.type "int")
 | str (x:Str):TyOf K H (.str x) (.type "str")
 | flt (x:UInt64):TyOf K H (.flt x) (.type "float")
 | lst {a:Addr}{xs:List V}(e:H a=some (.lst xs)):TyOf K H (.ref a) (.type "list")
 | frz {a:Addr}{o:Obj}{xs:List V}(e:H a=some (.frz o (.lst xs))):TyOf K H (.ref a) (.type "list")
 | tup {a:Addr}{xs:List V}(e:H a=some (.tup xs)):TyOf K H (.ref a) (.type "tuple")
 | dK {a:Addr}{kvs:List (Key×V)}(e:H a=some (.dK kvs)):TyOf K H (.ref a) (.type "dict")
 | dT {a:Addr}{kvs:List (List Key×V)}(e:H a=some (.dT kvs)):TyOf K H (.ref a) (.type "dict")
 | ins {a C dx:Addr}{fs:List (Str×V)}(e:H a=some (.ins C dx fs)) (cl:Cls K C) (ha:a5Q K (.ref C) "__class__"=some (some (.builtin "object.__class__"))) (hn:PySem.W.specialIn K (.builtin "object.__class__") "__get__"=some (some (.builtin "getset_descriptor.__get__"))) (htk:PySem.W.takesIn K (.builtin "object.__class__")=some true) (hm:PySem.W.mroIn K C (.type "object")=some true):TyOf K H (.ref a) (.ref C)
theorem F4 {x:V}{u t:Value}(I:Inv X pins σ H s) (rx:RelV x u) (ty:TyOf X.K H x t) (e:a3W X.K t c=some b) (h:∀tk,Q (.bool b) { s with toks:=tk }) :
   wpAny (model X.prog X.w) A (call (.builtin "isinstance") [u,c]) Q E s:=by
 cases ty with
 | non=>cases (show u=a0W from rx);exact a2J PySem.W.kitx_none I.kIn a9X e (λz=>nomatch z) h
 | bl y=>cases (show u=b6Z y from rx);exact a2J PySem.W.kitx_bool I.kIn a9X e (λz=>nomatch z) h
 | int i=>obtain⟨t,q⟩:=(show ∃t,u=Value.int i t from rx);cases q;exact a2J PySem.W.kitx_int I.kIn a9X e (λz=>nomatch z) h
 | str y=>obtain⟨t,q⟩:=(show ∃t,u=b6X y t from rx);cases q;exact a2J PySem.W.kitx_str I.kIn a9X e (λz=>nomatch z) h
 | flt y=>obtain⟨t,q⟩:=(show ∃t,u=Value.float y t from rx);cases q;exact a2J PySem.W.kitx_float I.kIn a9X e (λz=>nomatch z) h
 | @lst a xs ea=>
   cases (show u=a0X a from rx);obtain⟨_,_,n,_,h1⟩:=(show ObjOk X.prog X.w H s.heap a (.lst xs) from I.hok a _ ea)
   exact a2J PySem.W.kitx_list I.kIn ⟨_,h1,rfl⟩ e (λz=>nomatch z) h
 | @frz a ob xs ea=>
   cases (show u=a0X a from rx);obtain⟨_,_,_,n,_,h1⟩:=(show ObjOk X.prog X.w H s.heap a (.frz ob (.lst xs)) from I.hok a _ ea)
   exact a2J PySem.W.kitx_list I.kIn ⟨_,h1,rfl⟩ e (λz=>nomatch z) h
 | @tup a xs ea=>
   cases (show u=a0X a from rx);obtain⟨_,_,_,p⟩:=(show ObjOk X.prog X.w H s.heap a (.tup xs) from I.hok a _ ea)
   obtain⟨o,h1,h2,_⟩:=p;exact a2J PySem.W.kitx_tuple I.kIn ⟨o,h1,h2⟩ e (λz=>nomatch z) h
 | @dK a kvs ea=>
   cases (show u=a0X a from rx);obtain⟨_,_,vs,_,p⟩:=(show ObjOk X.prog X.w H s.heap a (.dK kvs) from I.hok a _ ea)
   obtain⟨o,es,ep,h1,h2,_⟩:=p;exact a2J PySem.W.kitx_dict I.kIn ⟨o,h1,h2.1⟩ e (λz=>nomatch z) h
 | @dT a kvs ea=>
   cases (show u=a0X a from rx);obtain⟨_,_,xs,_,o,es,ep,h1,h2,_⟩:=(show ObjOk X.prog X.w H s.heap a (.dT kvs) from I.hok a _ ea)
   exact a2J PySem.W.kitx_dict I.kIn ⟨o,h1,h2.1⟩ e (λz=>nomatch z) h
 | @ins a C dx fs ea cl ha hn htk hm=> cases (show u=a0X a from rx);obtain⟨mA,O,_⟩:=iP I.hok ea;obtain⟨od,J,_⟩:=O.look;exact a2J (PySem.W.kitx_own (cl.get _) cl.hd ha hn htk hm) I.kIn J e (λz=>nomatch z) h
end
structure Room (k:Nat) (A:Around):Prop where
 hd:A.handled=none
 dp:A.depth+3*k+5 < recursionLimit
 un:A.units+16*k+200 < cLine
theorem Room.mono {j k:Nat}{A:Around}(r:Room k A) (h:j<=k):Room j A:=⟨r.hd,by have:=r.dp;lia,by have:=r.un;lia⟩
theorem Room.deeper {k:Nat}{A:Around}(r:Room (k+1) A) (env:Env):Room k (A.deeper env):=⟨r.hd,by have:=r.dp;show A.depth+1+3*k+5 < _;lia,by have:=r.un;show A.units+3+16*k+200 < _;lia⟩
theorem MD {A:Around}{C:Addr}{us:List Value}{kw:List (Str×Value)}:(A.under (.builtin "type.__call__" ⟨.ref C::us,kw⟩)).depth=A.depth+1:=by first | rfl | simp[Around.under,Code.weight,Code.isCreation,Code.isGuard,Code.isCaller,Code.frames,Code.isFrame,guardIds]
theorem ME {A:Around}{C:Addr}{us:List Value}{kw:List (Str×Value)}:(A.under (.builtin "type.__call__" ⟨.ref C::us,kw⟩)).units=A.units+1:=by first | rfl | simp[Around.under,Code.cUnits,Code.frames,Code.isFrame]
theorem Room.make {k:Nat}{A:Around}(r:Room (k+1) A) (C:Addr) (us:List Value) (kw:List (Str×Value)):Room k (A.under (.builtin "type.__call__" ⟨.ref C::us,kw⟩)):=⟨r.hd,by have:=r.dp;rw[MD];lia,by have:=r.un;rw[ME];lia⟩
theorem Room.depth {k:Nat}{A:Around}(r:Room k A):A.depth < recursionLimit:=by have:=r.dp;lia
theorem Room.units {k:Nat}{A:Around}(r:Room k A):A.units+64 < cLine:=by have:=r.un;lia
def O9:TA:=λ_ H Q=>Q [] H
def CT (ta:TE) (tr:TA):TA:=λσ H Q=>ta σ H λx H1=>tr σ H1 λxs H2=>Q (x::xs) H2
section
variable {X:Cx}{e:Expr}{es:List Expr}{te:TE}{t:TA}{pos:Pos}
theorem GH:PA X [] O9:=λ_ _ _ _ H Q I h=>Calls.spliced_nil ⟨[],H,I,.nil,h⟩
theorem AR (ha:PE X e te) (hr:PA X es t) (hs:starEach (e::es) X.env=(false,eval e X.env)::starEach es X.env:=by rfl):PA X (e::es) (CT te t):=by intro pos pins s σ H Q I h;rw[hs];show wpAny _ _ (spliced ((false,eval e X.env)::backTo pos (starEach es X.env))) _ _ s;refine xQ (thn (ha pins s σ H _ I h) λu s1 ⟨x,H1,I1,r1,q1⟩=>?_);exact thn (hr pos pins s1 σ H1 _ I1 q1) λus s2 ⟨xs,H2,I2,r2,q2⟩=>⟨x::xs,H2,I2,.cons r1 r2,q2⟩
def Z7 (t:TA):TE:=λσ H Q=>t σ H λxs H1=>xs.length<=sizeLine/\∀p,H1 p=none->Q (.ref p) (upd H1 p (.tup xs))
def oB (t:TA):TE:=λσ H Q=>t σ H λxs H1=>xs.length<=sizeLine/\∀p,H1 p=none->Q (.ref p) (upd H1 p (.lst xs))
theorem QM {x1} (h:PA X es t):PE X (.Tuple es x1 pos) (Z7 t):=by intro pins s σ H Q I hq;refine wpAny_Tuple_spliced (thn (h pos pins s σ H _ I hq) λus s1 ⟨xs,H1,I1,r,z,q⟩=>⟨by rw[<-r.length];exact z,?_⟩);have hf:H1 s1.heap.objs.size=none:=I1.hok.fresh (zR _);refine⟨.ref s1.heap.objs.size,upd H1 s1.heap.objs.size (.tup xs),I1.laid (t':=s1.toks) (λb u e=>zW _ e) (zR _) ?_,rfl,q _ hf⟩;exact⟨z,us,r,⟨_,yZ _ rfl,rfl,_,rfl⟩⟩
theorem oE (h:PA X es t):PE X (.List es pos) (oB t):=by intro pins s σ H Q I hq;refine wpAny_List_spliced (thn (h pos pins s σ H _ I hq) λus s1 ⟨xs,H1,I1,r,z,q⟩=>⟨by rw[<-r.length];exact z,?_⟩);have hf:H1 s1.heap.objs.size=none:=I1.hok.fresh (zR _);refine⟨.ref s1.heap.objs.size,upd H1 s1.heap.objs.size (.lst xs),I1.laid (t':=s1.toks) (λb u e=>zW _ e) (zR _) ?_,rfl,q _ hf⟩;exact⟨z,us,0,r,yZ _ rfl⟩
end
abbrev Sp:=List V->Hp->VK->XK->Prop
abbrev CXT:=List Env->Hp->Shared->XK->Value->Shared->Prop
structure Env0 (P:Program) (w:World) (K:Frg) (mg:Str->Option Value) (base:Heap) (A:Around) (outer:List Env) (s:Shared) (H:Hp):Prop where
 frames:A.frames=some outer
 mod:Mod K mg base
 bs:∀b o,base.get? b=some o->s.heap.get? b=some o/\H b=none
 bsz:base.objs.size<=s.heap.objs.size
 funs:s.heap.FunFrames base outer
 frf:∀b∈frs outer,H b=none
 hok:HOk P w H s.heap
 bare:AllBare s.gens
def CE (outer:List Env) (P:Program) (w:World) (H:Hp) (s:Shared) (Q:VK) (u:Value) (s':Shared):Prop:=∃v H',s'.os=s.os/\AllBare s'.gens/\Un (frs outer) [] H H' s.heap s'.heap/\HOk P w H' s'.heap/\RelV v u/\Q v H'
def CR (CX:CXT) (outer:List Env) (P:Program) (w:World) (H:Hp) (s:Shared) (Q:VK) (E:XK) (r:Result) (s':Shared):Prop:=
 match r with
 | .ok (.ret u)=>CE outer P w H s Q u s'
 | .ok _=>False
 | .error e=>CX outer H s E e s'
structure FnOk (P:Program) (w:World) (K:Frg) (mg:Str->Option Value) (base:Heap) (CX:CXT) (k:Nat) (f:Addr) (fd:FuncData) (ps:List Str) (sp:Sp):Prop where
 len:∀vs H Q E,sp vs H Q E->vs.length=ps.length
 run:∀(A:Around) (outer:List Env) (s:Shared) (H:Hp) (args:Args) (us:List Value) (vs:List V) (Q:VK) (E:XK),Room k A->Env0 P w K mg base A outer s H->BindsTo s fd args (ps.zip us)->Vals vs us->sp vs H Q E ->
   codeAny (model P w) A (.call (.ref f) args) (CR CX outer P w H s Q E) s
theorem Env0.make {P:Program}{w:World}{K:Frg}{mg:Str->Option Value}{base:Heap}{A:Around}{outer:List Env}{s:Shared}{H:Hp}(e:Env0 P w K mg base A outer s H) (C:Addr) (us:List Value) (kw:List (Str×Value)) :
   Env0 P w K mg base (A.under (.builtin "type.__call__" ⟨.ref C::us,kw⟩)) outer s H:=⟨by first | exact e.frames | (simpa [Around.under,Code.envs,Code.isFrame,pushEnvs] using e.frames),e.mod,e.bs,e.bsz,e.funs,e.frf,e.hok,e.bare⟩
section
variable {X:Cx}{pins:List (Addr×Obj)}{σ:St}{H:Hp}{s s':Shared}
theorem Inv.env0 (I:Inv X pins σ H s):Env0 X.prog X.w X.K X.mg X.base X.A X.stack s H:=⟨I.ok.frames,I.ok.mod,I.bs,zN I.ok.bsz I.sz,I.stack,I.stkFree,I.hok,I.bare⟩
theorem Inv.after {Q:VK}{u:Value}(I:Inv X pins σ H s) (h:CE X.stack X.prog X.w H s Q u s'):EP X pins σ Q u s':=by obtain⟨v,H',os,bare,un,hok,r,q⟩:=h;obtain⟨hh,g,d,t,yo⟩:=s';obtain rfl:yo=s.os:=os;exact⟨v,H',I.call (h':=hh) (g':=g) (d':=d) (t':=t) (ch:=[]) un hok bare (λb z=>absurd z (by simp)),r,q⟩
end
def P0 (sp:Sp) (vp:List V) (E:XK) (t:TA):TE:=λσ H Q=>t σ H λvs H1=>sp (vs++vp) H1 Q E
def Binds (K:Frg) (fd:FuncData) (ps:List Str) (ds:List Value):Prop:=∀(s:Shared) (us:List Value),K.In s.heap->(us++ds).length=ps.length->BindsTo s fd ⟨us,[]⟩ (ps.zip (us++ds))
theorem Binds.all {K:Frg}{fd:FuncData}{ps:List Str}(h:∀us:List Value,us.length=ps.length->bindArgs fd ⟨us,[]⟩=pure (ps.zip us)):Binds K fd ps []:=λs us _ hl=>by rw[b0Z] at hl ⊢;exact .of_eq (h us hl)
def QN (CX:CXT) (X:Cx) (E:XK):Prop:=∀(pins:List (Addr×Obj)) (σ:St) (H:Hp) (s:Shared) (e:Value) (s':Shared),Inv X pins σ H s->CX X.stack H s E e s'->X.xe e s'
section
variable {X:Cx}{CX:CXT}{k:Nat}{f C:Addr}{fd:FuncData}{ps:List Str}{sp:Sp}{vp:List V}{ds:List Value}{E:XK}{x m:Str}{p pos apos:Pos}{e o:Expr}{es:List Expr}{ta:TE}{t:TA}
theorem bX {pins:List (Addr×Obj)}{σ:St}{H:Hp}{s:Shared}{Q:VK}{us:List Value}{vs:List V}(F:FnOk X.prog X.w X.K X.mg X.base CX k f fd ps sp) (hr:Room k X.A) (hb:Binds X.K fd ps ds) (hd:Vals vp ds) (hx:QN CX X E) (I:Inv X pins σ H s) (r:Vals vs us) (h:sp (vs++vp) H Q E):wpAny (model X.prog X.w) X.A (call (.ref f) us) (EP X pins σ Q) X.xe s:=by
 have r2:Vals (vs++vp) (us++ds):=r.append hd;have hl:(us++ds).length=ps.length:=by rw[<-r2.length];exact F.len _ _ _ _ h
 refine wpAny_call (xP (F.run X.A X.stack s H ⟨us,[]⟩ (us++ds) (vs++vp) Q E hr I.env0 (hb s us I.kIn hl) r2 h) λr s' hq=>?_);cases r with
 | error e=>exact hx pins σ H s e s' I hq
 | ok fl=>
   cases fl with
   | ret u=>exact I.after hq
   | next=>exact a6Z hq
   | brk=>exact a6Z hq
   | cont=>exact a6Z hq
theorem iR (F:FnOk X.prog X.w X.K X.mg X.base CX k f fd ps sp) (hr:Room k X.A) (hg:Gl X x) (hm:X.mg x=some (.ref f)) (hk:a2K X.K (.ref f)=true) (hb:Binds X.K fd ps ds) (hd:Vals vp ds) (hx:QN CX X E) (ha:PA X (e::es) t) (cg:(x==("__debug__":Str))=false:=by decide) (he:starEach (e::es) X.env=(false,eval e X.env)::starEach es X.env:=by rfl) (kn:(backTo pos (starEach es X.env)).any (·.1)=false:=by rfl) :
   PE X (.Call (.Name x p) (e::es) [] pos) (P0 sp vp E t):=by intro pins s σ H Q I h;refine wpAny_Call_Name_kw (DB I hg hm ?_ cg);refine b4Z (h₀:=X.base) I.ok.mod.kin hk (thn (ha pos pins s σ H _ I h) λus s1 ⟨vs,H1,I1,r,q⟩=>⟨I1.kIn,?_⟩) he kn;exact bX F hr hb hd hx I1 r q
theorem bY (F:FnOk X.prog X.w X.K X.mg X.base CX k f fd ps sp) (hr:Room k X.A) (hg:Gl X x) (hm:X.mg x=some (.ref f)) (hk:a2K X.K (.ref f)=true) (hb:Binds X.K fd ps ds) (hd:Vals vp ds) (hx:QN CX X E) (cg:(x==("__debug__":Str))=false:=by decide):PE X (.Call (.Name x p) [] [] pos) (P0 sp vp E O9):=by intro pins s σ H Q I h;refine wpAny_Call_Name_kw (DB I hg hm ?_ cg);exact PySem.W.callWith_K0 I.kIn hk (bX (us:=[]) F hr hb hd hx I .nil h)
end
structure FnScope (N P:List Str) (sc:Scope):Prop where
 kind:sc.kind = .function
 co:sc.isCoroutine=false
 gen:sc.isGenerator=false
 nd:N.Nodup
 pre:N.take P.length=P
 par:∀x∈P,sc.names.lookup x=some .local\/sc.names.lookup x=some .cell
 nofree:∀y∈sc.names,y.2≠.free
theorem P3 {kindOf:Str->Option NameKind}{x:Str}:∀{binds:List (Str×Value)}{m:Str->Option Value},(∀v,(x,v)∉binds)->bindL kindOf binds m x=m x
 | [],_,_=>rfl
 | (n,v)::r,m,h=>by
   unfold bindL;rw[P3 λw hw=>h w (yV _ hw)];split
   . have:x≠n:=by rintro rfl;exact h v a0J
     simp[this]
   . rfl
theorem P4 {kindOf:Str->Option NameKind}{x:Str}:∀{binds:List (Str×Value)}{m:Str->Option Value},(∀v,(x,v)∉binds)->bindC kindOf binds m x=m x
 | [],_,_=>rfl
 | (n,v)::r,m,h=>by
   unfold bindC;rw[P4 λw hw=>h w (yV _ hw)];split;. rfl
   . have:x≠n:=by rintro rfl;exact h v a0J
     simp[this]
theorem P5 {kindOf:Str->Option NameKind}{x:Str}{v:Value}:∀{P:List Str}{vs:List Value}{i:Nat}{m:Str->Option Value},P.Nodup->P[i]?=some x->vs[i]?=some v->kindOf x=some .local ->
   bindL kindOf (P.zip vs) m x=some v
 | [],_,_,_,_,h,_,_=>by simp at h
 | _::_,[],_,_,_,_,h,_=>by simp at h
 | p::P,w::vs,0,m,nd,h1,h2,hk=>by simp at h1 h2;subst h1;subst h2;show bindL kindOf ((p,w)::P.zip vs) m p=_;unfold bindL;rw[P3 λv hv=>(xW.mp nd).1 (b2X hv).1,if_pos hk];simp
 | p::P,w::vs,i+1,m,nd,h1,h2,hk=>by show bindL kindOf ((p,w)::P.zip vs) m x=_;unfold bindL;exact P5 (i:=i) (xW.mp nd).2 (by simpa using h1) (by simpa using h2) hk
theorem P6 {kindOf:Str->Option NameKind}{x:Str}{v:Value}:∀{P:List Str}{vs:List Value}{i:Nat}{m:Str->Option Value},P.Nodup->P[i]?=some x->vs[i]?=some v->kindOf x≠some .local ->
   bindC kindOf (P.zip vs) m x=some v
 | [],_,_,_,_,h,_,_=>by simp at h
 | _::_,[],_,_,_,_,h,_=>by simp at h
 | p::P,w::vs,0,m,nd,h1,h2,hk=>by simp at h1 h2;subst h1;subst h2;show bindC kindOf ((p,w)::P.zip vs) m p=_;unfold bindC;rw[P4 λv hv=>(xW.mp nd).1 (b2X hv).1,if_neg hk];simp
 | p::P,w::vs,i+1,m,nd,h1,h2,hk=>by show bindC kindOf ((p,w)::P.zip vs) m x=_;unfold bindC;exact P6 (i:=i) (xW.mp nd).2 (by simpa using h1) (by simpa using h2) hk
def CI (N:List Str) (vs:List V):St:=vs.map some++b1K (N.length - vs.length) none
def HJ (CX:CXT) (P:Program) (w:World) (K:Frg) (mg:Str->Option Value) (base:Heap) (N:List Str) (qual:Str) (scope:Scope) (f:Addr) (cd:Value) (A:Around) (outer:List Env) (s:Shared) (H:Hp) (E:XK):Cx where
 prog:=P
 w:=w
 K:=K
 mg:=mg
 base:=base
 A:=A.deeper (envOfC qual scope s.heap.objs.size f cd)
 N:=N
 s₀:=s
 H₀:=H
 env:=envOfC qual scope s.heap.objs.size f cd
 outer:=outer
 stack:=envOfC qual scope s.heap.objs.size f cd::outer
 ex:=[]
 calm:=true
 fn:=λ_=>true
 pn:=[]
 xe:=λe s'=>wpAny (model P w) (A.deeper (envOfC qual scope s.heap.objs.size f cd)) (leaving (envOfC qual scope s.heap.objs.size f cd) e) (λ_ vT=>CX outer H s E e vT) (λe' vT=>CX outer H s E e' vT) s'
theorem SS {sc:Scope}{n:Nat}{x:Str}(h:sc.names.lookup x=some .cell):∃c,(cellsFrom n sc.names []).lookup x=some c:=by have q:=b6K sc.names n [] (.inl h);exact Option.isSome_iff_exists.mp q
theorem P7 {CX:CXT}{P:Program}{w:World}{K:Frg}{mg:Str->Option Value}{base:Heap}{N ps:List Str}{qual:Str}{scope:Scope}{f:Addr}{cd:Value}{A:Around}{outer:List Env}{s s1:Shared}{H:Hp}{E:XK}{us:List Value}{vs:List V} (S:FnScope N ps scope) (hd:A.handled=none) (e0:Env0 P w K mg base A outer s H) (hl:vs.length=ps.length) (r:Vals vs us) (x:InCallC s s.heap.objs.size (bindL (envOfC qual scope s.heap.objs.size f cd).kindOf (ps.zip us) λ_=>none) (cellsFrom (s.heap.objs.size+1) scope.names []) (bindC (envOfC qual scope s.heap.objs.size f cd).kindOf (ps.zip us) λ_=>none) s1) :
   Inv (HJ CX P w K mg base N qual scope f cd A outer s H E) [] (CI N vs) H s1:=by
 have kn:ps.length<=N.length:=by have:=congrArg b7J S.pre;rw[a2Q] at this;lia
 obtain⟨h1,tk,rfl,hk⟩:=x.done;have wK:∀b:Addr,b∉(HJ CX P w K mg base N qual scope f cd A outer s H E).ex:=λb z=>absurd (show b∈([]:List Addr) from z) (by simp);refine⟨⟨e0.mod,S.kind,rfl,rfl,zR _,λy z c h1 h2=>?_,λy hy=>?_,λy c _ h=>?_,λ_=>hd,Around.frames_deeper e0.frames,.inr ⟨rfl,rfl⟩,λb z=>absurd z (wK b),e0.bs,e0.bsz,λb _ _=>wK b,λb z=>absurd z (wK b),e0.funs,e0.frf⟩,
   rfl,e0.bare,Un.kept hk,⟨_,x.toInCall.ns,λi y v h1 h2 h3=>?_⟩,λy c h=>⟨_,x.cell y c h⟩,e0.hok.fresh (zR _),λy c h=>?_,λp hp=>absurd (show p∈([]:List (Addr×Obj)) from hp) (by simp),e0.hok.kept hk,?_⟩
 . exact name_of_addr x.apart (a4V h1) (a4V h2)
 . have hy:scope.names.lookup y=some .cell\/scope.names.lookup y=some .free:=hy;rcases hy with hy | hy;. exact SS hy
   . exact absurd rfl (S.nofree _ (a4V hy))
 . exact xT (x.above y c (a4V h))
 . have hi:i < vs.length:=by
     unfold CI at h2;by_cases hi:i < vs.length;. exact hi
     . rw[List.getElem?_append_right (by simpa using hi)] at h2;rw[List.getElem?_replicate] at h2;split at h2 <;> cases h2
   have ha:vs[i]?=some v:=by
     unfold CI at h2;rw[yQ (by simpa using hi),zF] at h2;cases e:vs[i]? with
     | none=>rw[e] at h2;cases h2
     | some a=>rw[e] at h2;cases h2;rfl
   obtain⟨u,hu,rv⟩:=r.get ha;have hp:ps[i]?=some y:=by rw[<-S.pre,List.getElem?_take_of_lt (by lia)];exact h1
   have B':ps.Nodup:=by rw[<-S.pre];exact S.nd.sublist (List.take_sublist _ _)
   refine⟨u,rv,?_⟩;rcases S.par y (yN hp) with k | k;. exact .inl ⟨k,P5 B' hp hu k⟩
   . obtain⟨c,e⟩:=SS (n:=s.heap.objs.size+1) k;refine .inr ⟨.inl k,c,e,?_⟩;have q:=x.cell y c e;rw[P6 B' hp hu (by show scope.names.lookup y≠_;rw[k];decide)] at q;exact q
 . exact e0.hok.fresh (xT (x.above y c (a4V h)))
 . unfold CI;show _=N.length;rw[yY,zX,List.length_replicate];lia
theorem mL {CX:CXT}{P:Program}{w:World}{K:Frg}{mg:Str->Option Value}{base:Heap}{k:Nat}{f:Addr}{name qual:Str}{params:Arguments}{body:List Stmt}{scope:Scope}{dV kV doc pm cdv ct oc:Value}{an od:Option Addr} {osl:Array (Option Value)}{N ps:List Str}{sp:Sp}(lk:K.lookup f=some ⟨oc,od,.func (a3V name qual params body scope dV kV doc pm an cdv ct),osl⟩) (iy:a8K K cdv qual=true) (S:FnScope N ps scope) (len:∀vs H Q E,sp vs H Q E->vs.length=ps.length) (bf:∀(A:Around) (outer:List Env) (s:Shared) (H:Hp) (vs:List V) (Q:VK) (E:XK),Room k (A.deeper (envOfC qual scope s.heap.objs.size f cdv))->sp vs H Q E ->∃t,PSs (HJ CX P w K mg base N qual scope f cdv A outer s H E) body t/\t { nx:=λ_ H'=>Q .non H',rt:=Q } (CI N vs) H) :
   FnOk P w K mg base CX (k+1) f (a3V name qual params body scope dV kV doc pm an cdv ct) ps sp:=by
 refine⟨len,λA outer s H args us vs Q E hr e0 hb r kb=>?_⟩;have hl:=len _ _ _ _ kb;have KX:K.In s.heap:=e0.mod.kin.keeps λb o e=>(e0.bs b o e).1;have lim:s.heap.NoLimit:=e0.mod.nolimit.keeps λb o e=>(e0.bs b o e).1;have uh:∀y∈ps.zip us,scope.names.lookup y.1=some .local\/(scope.names.lookup y.1=some .cell/\((cellsFrom (s.heap.objs.size+1) scope.names []).lookup y.1).isSome=true):=λ⟨n,v⟩ hy=>by
   rcases S.par n (b2X hy).1 with q | q;. exact .inl q
   . exact .inr ⟨q,b6K _ _ _ (.inl q)⟩
 refine codeAny_call_function hr.depth (KX _ _ lk) rfl S.co S.gen rfl (PySem.W.codeRec_of KX iy) (hb _ _ _ _ ?_);refine wpAny_newFunctionEnv_cells S.kind uh λenv he s1 x=>?_;subst he;refine⟨lim.keeps x.toInCall.keep,codeAny_func ?_⟩;obtain⟨t,ht,hq⟩:=bf A outer s H vs Q E (hr.deeper _) kb;have I:Inv (HJ CX P w K mg base N qual scope f cdv A outer s H E) [] (CI N vs) H s1:=P7 S hr.hd e0 hl r x;refine wpAny_mono (ht [] s1 (CI N vs) H _ I hq) (λfl s' hs=>?_) λe s' hs=>hs;have fin:∀{σ':St}{H':Hp}{v:V}{u:Value},Inv (HJ CX P w K mg base N qual scope f cdv A outer s H E) [] σ' H' s'->RelV v u->Q v H'->CE outer P w H s Q u s':=
   λ{σ' H' v u} J rv q=>⟨v,H',J.os,J.bare,J.base,J.hok,rv,q⟩
 cases fl with
 | ret u=> obtain⟨v,σ',H',J,rv,q⟩:=hs;exact fin J rv q
 | next=> obtain⟨σ',H',J,q⟩:=hs;exact fin (v:=V.non) (u:=a0W) J rfl q
 | brk=> obtain⟨_,_,_,q⟩:=hs;exact a6Z q
 | cont=> obtain⟨_,_,_,q⟩:=hs;exact a6Z q
section
variable {X:Cx}{x:Str}{p pos:Pos}{e:Expr}{es:List Expr}{t:TA}{id T:String}{r:List V->Hp->VK->Prop}
def tCB (r:List V->Hp->VK->Prop) (t:TA):TE:=λσ H Q=>t σ H λvs H1=>r vs H1 Q
theorem CU (hc:B9 X (.builtin id) r) (hg:Gl X x) (hm:X.mg x=none) (hv:bootBuiltins x=some (.builtin id)) (ha:PA X (e::es) t) (hn:x ≠ "__name__" := by decide) (cg:(x==("__debug__":Str))=false:=by decide)
   (he:starEach (e::es) X.env=(false,eval e X.env)::starEach es X.env:=by rfl) (kn:(backTo pos (starEach es X.env)).any (·.1)=false:=by rfl):PE X (.Call (.Name x p) (e::es) [] pos) (tCB r t):=by intro pins s σ H Q I h;refine wpAny_Call_Name_kw (GG I hg hm hv ?_ hn cg);exact PyProof.Rows.callWith_builtin1 (thn (ha pos pins s σ H _ I h) λus s1 ⟨vs,H1,I1,r1,q1⟩=>hc pins s1 σ H1 vs us Q I1 r1 q1) he kn
theorem JY (hc:B9 X (.type T) r) (hg:Gl X x) (hm:X.mg x=none) (hv:bootBuiltins x=some (.type T)) (ha:PA X (e::es) t) (hn:x ≠ "__name__" := by decide) (cg:(x==("__debug__":Str))=false:=by decide)
   (he:starEach (e::es) X.env=(false,eval e X.env)::starEach es X.env:=by rfl) (kn:(backTo pos (starEach es X.env)).any (·.1)=false:=by rfl):PE X (.Call (.Name x p) (e::es) [] pos) (tCB r t):=by intro pins s σ H Q I h;refine wpAny_Call_Name_kw (GG I hg hm hv ?_ hn cg);exact xI (thn (ha pos pins s σ H _ I h) λus s1 ⟨vs,H1,I1,r1,q1⟩=>hc pins s1 σ H1 vs us Q I1 r1 q1) he kn
end
end L2
namespace HT
open PySem PyProof.Rows
section
variable {prog:Program}{w:World}{A:Around}{E:Value->Shared->Prop}{s:Shared}
def sIx (n d:Nat):Option Int->Nat
 | none=>d
 | some v=>if v < 0 then (v+(n:Int)).toNat else min v.toNat n
theorem sIx_nat (n d k:Nat):sIx n d (some (k:Int))=min k n:=by show(if (k:Int) < 0 then ((k:Int)+(n:Int)).toNat else min (k:Int).toNat n)=min k n;rw[if_neg (by lia),a8J]
theorem oF (n d:Nat) (hd:d<=n) (o:Option Int):sIx n d o<=n:=by
 cases o with
 | none=>exact hd
 | some v=>
   show(if v < 0 then (v+(n:Int)).toNat else min v.toNat n)<=n;by_cases hv:v < 0;. rw[if_pos hv];lia
   . rw[if_neg hv];exact Nat.min_le_right _ _
theorem XB (v:Int) (n d:Nat):(if v < 0 then max (v+(n:Int)) 0 else min v (n:Int))=((sIx n d (some v):Nat):Int):=by
 show(if v < 0 then max (v+(n:Int)) 0 else min v (n:Int))=(((if v < 0 then (v+(n:Int)).toNat else min v.toNat n):Nat):Int);by_cases hv:v < 0;. simp only[if_pos hv];lia
 . simp only[if_neg hv];lia
theorem VO (lo hi:Option Int) (n:Nat):b3K lo hi 1 (n:Int)=(((sIx n 0 lo:Nat):Int),((sIx n n hi:Nat):Int)):=by
 have h1:¬((1:Int) < 0):=by lia
 unfold b3K;simp only[h1,if_false];refine Prod.ext ?_ ?_
 . cases lo with
   | none=>rfl
   | some v=>exact XB v n 0
 . cases hi with
   | none=>rfl
   | some v=>exact XB v n n
theorem VP (i j:Nat):a9Z (i:Int) (j:Int) 1=j - i:=by
 unfold a9Z;have h1:(1:Int) > 0:=by lia
 simp only[h1,if_true,Int.ediv_one];split <;> lia
theorem MF {v:Value}{o:Option Int}{Q:Option Int->Shared->Prop}(p:IsPart v o) (h:Q o s):wpAny (model prog w) A (Builtin.Slice.slicePartIndex v) Q E s:=by
 cases p with
 | none=>exact slicePart_none h
 | int i t=>exact slicePart_int h
theorem F5 {sl:Addr}{vl vu:Value}{lo hi:Option Int}{n:Nat}{Q:Int×Int×Nat->Shared->Prop}(hs:s.heap.IsSliceOf sl vl vu .none) (pl:IsPart vl lo) (pu:IsPart vu hi) (h:Q (((sIx n 0 lo:Nat):Int),1,sIx n n hi - sIx n 0 lo) s):wpAny (model prog w) A (Builtin.Slice.sliceApplied (.ref sl) (pure (n:Int))) Q E s:=by obtain⟨os,vU,yp,wL⟩:=id hs;unfold Builtin.Slice.sliceApplied Builtin.Slice.sliceFields;refine zZ (zZ (wpAny_field vU wL (x:=vl) rfl (zZ (wpAny_field vU wL (x:=vu) rfl (zZ (wpAny_field vU wL (x:=.none) rfl (zY ?_)))))));refine zZ (slicePart_none ?_);show wpAny _ _ (if ((1:Int)==0)=true then _ else _) _ _ s;rw[if_neg (by decide)];refine zZ (MF pl (zZ (MF pu (zZ (zY ?_)))));show wpAny _ _ (match b3K lo hi 1 (n:Int) with | (lo,hi)=>pure (lo,(1:Int),a9Z lo hi 1)) _ _ s;rw[VO lo hi n];show wpAny _ _ (pure (((sIx n 0 lo:Nat):Int),(1:Int),a9Z ((sIx n 0 lo:Nat):Int) ((sIx n n hi:Nat):Int) 1)) _ _ s;rw[VP];exact zY h
theorem bZ (xs:Array Value) (i k:Nat):((a1V k).filterMap λ(m:Nat)=>xs[((i:Int)+(m:Int)*1).toNat]?).toArray=((xs.toList.drop i).take k).toArray:=by
 have e:(λ(m:Nat)=>xs[((i:Int)+(m:Int)*1).toNat]?)=λm=>xs[i+m]?:=by
   funext m;have:((i:Int)+(m:Int)*1).toNat=i+m:=by lia
   rw[this]
 rw[e];have:=pick_run xs i k;rw[List.filterMap_map] at this;have e2:((λx=>xs[x]?)∘λx=>i+x)=λm=>xs[i+m]?:=rfl;rw[e2] at this;rw[this]
theorem getItem_tuple_cut {t sl:Addr}{items:Array Value}{vl vu:Value}{lo hi:Option Int}{Q:Value->Shared->Prop}(ht:IsTup s.heap t items) (hs:s.heap.IsSliceOf sl vl vu .none) (pl:IsPart vl lo) (pu:IsPart vu hi) (hw:¬(sIx items.size 0 lo=0/\sIx items.size items.size hi=items.size)) (h:Q (.ref s.heap.objs.size) { s with heap:=s.heap.push { cls:=.type "tuple", data:=.seq ((items.toList.drop (sIx items.size 0 lo)).take (sIx items.size items.size hi - sIx items.size 0 lo)).toArray } }) (hsz:items.size<=sizeLine):wpAny (model prog w) A (getItem (.ref t) (.ref sl)) Q E s:=by
 have pk:sizeOk (.seq ((items.toList.drop (sIx items.size 0 lo)).take (sIx items.size items.size hi - sIx items.size 0 lo)).toArray):=by show((items.toList.drop (sIx items.size 0 lo)).take (sIx items.size items.size hi - sIx items.size 0 lo)).toArray.size<=sizeLine;rw[zJ,a2Q,b3W,a5X];lia
 have hj:sIx items.size items.size hi<=items.size:=oF _ _ (zR _) hi;obtain⟨os,vU,yp,wL⟩:=id hs;have zl:s.TypeIs (.ref sl) "slice" := ⟨os,vU,yp⟩
 unfold getItem;try with_reducible refine wpAny_holding ?_
 first | refine zZ (zY ?_) | skip
 refine zZ (wpAny_sequenceKey ht.typeIs (by decide) ?_);refine zZ (wpAny_callSpecial?_slot (name:=a0Q "__getitem__") ht.typeIs a7X (wpAny_call_entry a7X ht.typeIs entry_tuple_getitem ?_ (args_tuple_getitem _ _)));show wpAny _ _ (Builtin.Tuple.tupleItemsOf (.ref t) >>= _) _ _ s;refine zZ (tupleItemsOf_ ht ?_);refine zZ (wpAny_typeOf zl ?_);rw[if_pos (by decide)];refine zZ (F5 hs pl pu ?_);have zm:¬((((sIx items.size 0 lo:Nat):Int)==0&&(1:Int)==1&&(sIx items.size items.size hi - sIx items.size 0 lo)==items.size)=true):=by intro q;rw[a0V,a0V] at q;have q1:((sIx items.size 0 lo:Nat):Int)=0:=eq_of_beq q.1.1;have q2:sIx items.size items.size hi - sIx items.size 0 lo=items.size:=eq_of_beq q.2;exact hw ⟨by lia,by lia⟩
 show wpAny _ _ (if (((sIx items.size 0 lo:Nat):Int)==0&&(1:Int)==1&&(sIx items.size items.size hi - sIx items.size 0 lo)==items.size)=true then _ else _) _ _ s;rw[if_neg zm,bZ];first
   | exact zZ (m:=a4W _) (xN (zY ⟨_,rfl,zY h⟩) pk)
   | exact zZ (m:=a4W _) (xN (zZ (zY (zY ⟨_,rfl,zY h⟩))) pk)
   | exact zZ (zZ (m:=a4W _) (xN (zY (zY ⟨_,rfl,zY h⟩)) pk))
   | exact zZ (zZ (m:=a4W _) (xN (zY ⟨_,rfl,zY h⟩) pk))
end
end HT
namespace L2
open PySem PySem.Spec PyProof.Rows
abbrev TO:=St->Hp->(Option Int->Hp->Prop)->Prop
def PO (X:Cx) (e:Option Expr) (t:TO):Prop:=∀(pins:List (Addr×Obj)) (s:Shared) (σ:St) (H:Hp) (Q:Option Int->Hp->Prop),Inv X pins σ H s->t σ H Q ->
   wpAny (model X.prog X.w) X.A (evalPart e X.env) (λu s'=>∃o H',Inv X pins σ H' s'/\IsPart u o/\Q o H') X.xe s
def XD:TO:=λ_ H Q=>Q none H
def mM (t:TE):TO:=λσ H Q=>t σ H λx H1=>∃i,x = .int i/\Q (some i) H1
section
variable {X:Cx}{e:Expr}{te:TE}{lo hi:Option Expr}{tl th:TO}{pos p2:Pos}
theorem iS:PO X none XD:=by intro pins s σ H Q I h;rw[evalPart_none];exact zY ⟨none,H,I,.none,h⟩
theorem iT (h:PE X e te):PO X (some e) (mM te):=by intro pins s σ H Q I hw;rw[evalPart_some];refine thn (h pins s σ H _ I hw) λu s1 ⟨x,H1,I1,r1,q1⟩=>?_;obtain⟨i,rfl,q⟩:=q1;obtain⟨t,rfl⟩:=r1;exact⟨some i,H1,I1,.int i t,q⟩
def SlR (X:Cx) (r:V->Option Int->Option Int->Hp->VK->Prop):Prop:=∀(pins:List (Addr×Obj)) (s:Shared) (σ:St) (H:Hp) (x:V) (v vl vu:Value) (lo hi:Option Int) (sl:Addr) (Q:VK),Inv X pins σ H s->RelV x v->s.heap.IsSliceOf sl vl vu .none->IsPart vl lo->IsPart vu hi->r x lo hi H Q ->∃T id,typeLookup (.type T) "__getitem__"=pure (some (.builtin id))/\s.TypeIs v T/\wpAny (model X.prog X.w) X.A (getItem v (.ref sl)) (EP X pins σ Q) X.xe s
theorem SlR.or {r r':V->Option Int->Option Int->Hp->VK->Prop}(h:SlR X r) (h':SlR X r'):SlR X (λx lo hi H Q=>r x lo hi H Q\/r' x lo hi H Q):=by
 intro pins s σ H x v vl vu lo hi sl Q I rx hs pl pu q;rcases q with q | q;. exact h pins s σ H x v vl vu lo hi sl Q I rx hs pl pu q
 . exact h' pins s σ H x v vl vu lo hi sl Q I rx hs pl pu q
def tSl (r:V->Option Int->Option Int->Hp->VK->Prop) (te:TE) (tl th:TO):TE:=λσ H Q=>te σ H λx H1=>tl σ H1 λl H2=>th σ H2 λu H3=>r x l u H3 Q
theorem c7 {r:V->Option Int->Option Int->Hp->VK->Prop}(hr:SlR X r) (he:PE X e te) (hl:PO X lo tl) (hu:PO X hi th):PE X (.Subscript e (.Slice lo hi none p2) pos) (tSl r te tl th):=by intro pins s σ H Q I h;refine Subscript_ (thn (he pins s σ H _ I h) λv s1 ⟨x,H1,I1,r1,q1⟩=>?_);refine wpAny_Slice (thn (hl pins s1 σ H1 _ I1 q1) λvl s2 ⟨l,H2,I2,pl,q2⟩=>thn (hu pins s2 σ H2 _ I2 q2) λvu s3 ⟨u,H3,I3,pu,q3⟩=>?_);rw[evalPart_none];refine zY ?_;have I4:Inv X pins σ H3 { s3 with heap:=s3.heap.push { cls:=.type "slice", data:=.fields #[vl,vu,.none] } }:=I3.kept (t':=s3.toks) λb ob q=>zW _ q;obtain⟨T,id,hT,ht,hg⟩:=hr pins { s3 with heap:=s3.heap.push { cls:=.type "slice", data:=.fields #[vl,vu,.none] } } σ H3 x v vl vu l u s3.heap.objs.size Q I4 r1 (Heap.IsSliceOf.new ..) pl pu q3;show wpAny (model X.prog X.w) X.A (subscriptTail e (.Slice lo hi none p2) v (.ref s3.heap.objs.size)) (EP X pins σ Q) X.xe { s3 with heap:=s3.heap.push { cls:=.type "slice", data:=.fields #[vl,vu,.none] } };exact tail_any (ops:=[.ref s3.heap.objs.size,v]) ht hT hg (by with_unfolding_all rfl)
def IB (xs:List V) (lo hi:Option Int):List V:=(xs.drop (HT.sIx xs.length 0 lo)).take (HT.sIx xs.length xs.length hi - HT.sIx xs.length 0 lo)
theorem KJ (xs:List V) (lo hi:Option Int):(IB xs lo hi).length<=xs.length:=by unfold IB;rw[a2Q,b3W];lia
def tY (K:Frg):V->Option Int->Option Int->Hp->VK->Prop:=λx lo hi H Q=>∃a xs,x = .ref a/\SqT K H a xs /\
 ¬(HT.sIx xs.length 0 lo=0/\HT.sIx xs.length xs.length hi=xs.length)/\∀p,H p=none->Q (.ref p) (upd H p (.tup (IB xs lo hi)))
theorem oG:SlR X (tY X.K):=by
 intro pins s σ H x v vl vu lo hi sl Q I rx hs pl pu h;obtain⟨a,xs,rfl,hx,hw,q⟩:=h;cases rx;obtain⟨aa,r,ht,hz⟩:=I.tuple hx;have af:aa.toArray.size=xs.length:=by rw[zJ];exact r.length.symm
 refine⟨"tuple", _,PyProof.Rows.slot_tuple_getitem.lookup,ht.typeIs,?_⟩;refine HT.getItem_tuple_cut ht hs pl pu (by rw[af];exact hw) ?_ (by rw[af];exact hz);rw[af];refine⟨.ref s.heap.objs.size,_,I.laid (t':=s.toks) (o:=.tup (IB xs lo hi)) (λb ob q=>zW _ q) (zR _) ?_,rfl,q _ (I.hok.fresh (zR _))⟩;exact⟨zN (KJ xs lo hi) hz,_,(r.drop (HT.sIx xs.length 0 lo)).take (HT.sIx xs.length xs.length hi - HT.sIx xs.length 0 lo),IsTup.new _ _⟩
end
def ixN (n:Nat) (i:Int):Option Nat:=if 0<=i then (if i < n then some i.toNat else none) else if -(n:Int)<=i then some (i+n).toNat else none
def atI {α:Type}(xs:List α) (i:Int):Option α:=(ixN xs.length i).bind λj=>xs[j]?
theorem XE {n:Nat}{i:Int}{j:Nat}(h:ixN n i=some j):seqIndex? i n=some j/\j < n/\-(n:Int)<=i/\i < n:=by
 unfold ixN at h;by_cases h0:0<=i
 . rw[if_pos h0] at h;by_cases h1:i < n;. rw[if_pos h1] at h;have e:i.toNat=j:=Option.some.inj h;exact⟨by rw[seqIndex_of h0 h1,e],by lia,by lia,h1⟩
   . rw[if_neg h1] at h;cases h
 . rw[if_neg h0] at h;by_cases h1 : -(n:Int)<=i;. rw[if_pos h1] at h;have e:(i+n).toNat=j:=Option.some.inj h;exact⟨by rw[seqIndex_neg (by lia) h1,e],by lia,h1,by lia⟩
   . rw[if_neg h1] at h;cases h
theorem QO {α:Type}{xs:List α}{i:Int}{v:α}(h:atI xs i=some v):∃j,seqIndex? i xs.length=some j/\xs[j]?=some v/\j < xs.length/\-(xs.length:Int)<=i/\i < xs.length:=by
 unfold atI at h;cases e:ixN xs.length i with
 | none=>rw[e] at h;cases h
 | some j=> rw[e] at h;obtain⟨h1,h2,h3,h4⟩:=XE e;exact⟨j,h1,h,h2,h3,h4⟩
theorem AA {α:Type}{xs:List α}{j:Nat}{v:α}(h:xs[j]?=some v):atI xs (j:Int)=some v:=by
 have hj:j < xs.length:=(yT.mp h).1;have e:ixN xs.length (j:Int)=some j:=by unfold ixN;rw[if_pos (by lia),if_pos (by lia)];simp
 unfold atI;rw[e];exact h
def iU (b:Expr):Prop:=∀o i,subscripted b false o i=operate [o,i] (getItem o i)
def IxR (X:Cx) (r:R2):Prop:=∀(value slice:Expr) (pins:List (Addr×Obj)) (s:Shared) (σ:St) (H:Hp) (x y:V) (v u:Value) (Q:VK),Inv X pins σ H s->RelV x v->RelV y u->r x y H Q ->
   subscripted slice false v u=operate [v,u] (getItem v u)->wpAny (model X.prog X.w) X.A (subscriptTail value slice v u) (EP X pins σ Q) X.xe s
def MtR (X:Cx) (id:String) (r:V->List V->Hp->VK->Prop):Prop:=∀(pins:List (Addr×Obj)) (s:Shared) (σ:St) (H:Hp) (x:V) (xs:List V) (v:Value) (us:List Value) (Q:VK),Inv X pins σ H s->RelV x v->Vals xs us->r x xs H Q ->
   wpAny (model X.prog X.w) X.A (call (.builtin id) (v::us)) (EP X pins σ Q) X.xe s
section
variable {X:Cx}{a b:Expr}{ta tb:TE}{pos:Pos}
theorem IxR.or {r r':R2}(h:IxR X r) (h':IxR X r'):IxR X (λx y H Q=>r x y H Q\/r' x y H Q):=by
 intro value slice pins s σ H x y v u Q I rx ry q hs;rcases q with q | q;. exact h value slice pins s σ H x y v u Q I rx ry q hs
 . exact h' value slice pins s σ H x y v u Q I rx ry q hs
theorem rS {r:R2}(hr:IxR X r) (ha:PE X a ta) (hb:PE X b tb) (hs:iU b):PE X (.Subscript a b pos) (tOp r ta tb):=by intro pins s σ H Q I h;exact Subscript_ (nT ha hb I h λv u s2 x y H2 I2 rx ry q=>hr a b pins s2 σ H2 x y v u Q I2 rx ry q (hs _ _))
def oH (K:Frg):R2:=λx y H Q=>∃p xs i v,x = .ref p/\y = .int i/\SqL K H p xs/\atI xs i=some v/\Q v H
def oI (K:Frg):R2:=λx y H Q=>∃p xs i v,x = .ref p/\y = .int i/\SqT K H p xs/\atI xs i=some v/\Q v H
def oJ:R2:=λx y H Q=>∃z i c,x = .str z/\y = .int i/\z.length<=sizeLine/\atI z.cps.toList i=some c/\Q (.str ⟨#[c]⟩) H
theorem iV:IxR X (oH X.K):=by
 intro value slice pins s σ H x y v u Q I rx ry h hs;obtain⟨p,xs,i,z,rfl,rfl,hq,he,q⟩:=h;cases rx;obtain⟨t,rfl⟩:=ry;obtain⟨aa,r,pl,hz⟩:=I.list hq;obtain⟨j,h1,h2,h3,h4,h5⟩:=QO he;obtain⟨w,ew,j_⟩:=r.get h2;have hl:=r.length;have hn:=MC;have fin:EP X pins σ Q w s:=⟨z,H,I,j_,q⟩
 by_cases h0:0<=i
 . have hj:i.toNat=j:=by rw[seqIndex_of h0 h5] at h1;exact Option.some.inj h1
   exact item_listR pl.isList h0 (by lia) (by rw[hj];simpa using ew) fin hs
 . have hj:(i+(aa.toArray.size:Int)).toNat=j:=by rw[seqIndex_neg (by lia) h4] at h1;rw[zJ,<-hl];exact Option.some.inj h1
   exact subscriptTail_builtinR (x:=w) pl.isList.typeIs slot_list_getitem.lookup (wpAny_getItem_list_neg (Q:=λr s'=>r=w/\EP X pins σ Q r s') pl.isList (by lia) (by rw[zJ] <;> lia) (by lia) (by rw[hj];simpa using ew) ⟨rfl,fin⟩) hs
theorem oK:IxR X (oI X.K):=by
 intro value slice pins s σ H x y v u Q I rx ry h hs;obtain⟨p,xs,i,z,rfl,rfl,hq,he,q⟩:=h;cases rx;obtain⟨t,rfl⟩:=ry;obtain⟨aa,r,pl,hz⟩:=I.tuple hq;obtain⟨j,h1,h2,h3,h4,h5⟩:=QO he;obtain⟨w,ew,j_⟩:=r.get h2;have hl:=r.length;have hn:=MC;have fin:EP X pins σ Q w s:=⟨z,H,I,j_,q⟩
 exact subscriptTail_builtinR (x:=w) pl.typeIs slot_tuple_getitem.lookup (getItem_tuple (j:=j) (Q:=λr s'=>r=w/\EP X pins σ Q r s') pl (by lia) (by lia) (by rw[zJ,<-hl];exact h1) (by simpa using ew) ⟨rfl,fin⟩) hs
theorem oM:IxR X oJ:=by
 intro value slice pins s σ H x y v u Q I rx ry h hs;obtain⟨z,i,c,rfl,rfl,hz,he,q⟩:=h;obtain⟨t,rfl⟩:=rx;obtain⟨t',rfl⟩:=ry;obtain⟨j,h1,h2,h3,h4,h5⟩:=QO he;have hl:z.cps.toList.length=z.length:=by simp[Str.length]
 rw[hl] at h1 h4 h5;have hn:=MC;exact tail_any (typeIs_str s z t) slot_str_getitem.lookup (getItem_str (c:=c) (by
   have e1:decide (i < -(2 ^ 63:Int))=false:=decide_eq_false (by lia);have e2:decide (i≥2 ^ 63)=false:=decide_eq_false (by lia);rw[e1,e2,Bool.or_false]) (by rw[h1];simpa using h2) ⟨.str ⟨#[c]⟩,H,I.tok _,⟨_,rfl⟩,q⟩) hs
theorem VQ (aa:List Value) (n j:Nat) (u:Value):a7K (·.setIfInBounds j u) { cls:=.type "list", data:=.seq aa.toArray n }={ cls:=.type "list", data:=.seq (aa.set j u).toArray n }:=by simp[a7K]
theorem Inv.lst {pins:List (Addr×Obj)}{σ:St}{H:Hp}{s:Shared}{p:Addr}{xs:List V}(I:Inv X pins σ H s) (h:H p=some (.lst xs)) : ∃(aa:List Value) (n:Nat),Vals xs aa/\s.heap.get? p=some { cls:=.type "list", data:=.seq aa.toArray n }/\xs.length<=sizeLine:=by obtain⟨z,aa,n,r,e⟩:=I.hok p _ h;exact⟨aa,n,r,e,z⟩
theorem Inv.lstUpd {pins:List (Addr×Obj)}{σ:St}{H:Hp}{s:Shared}{p:Addr}{xs ys:List V}{aa its':List Value}{n n':Nat}{f:Obj->Obj}(I:Inv X pins σ H s) (h:H p=some (.lst xs)) (ho:s.heap.get? p=some { cls:=.type "list", data:=.seq aa.toArray n }) (hf:f { cls:=.type "list", data:=.seq aa.toArray n }={ cls:=.type "list", data:=.seq its'.toArray n' }) (r:Vals ys its') (hz:ys.length<=sizeLine) (t:Nat) :
   Inv X pins σ (upd H p (.lst ys)) { s with heap:=s.heap.update p f,toks:=t }:=by
 have e:(s.heap.update p f).get? p=some { cls:=.type "list", data:=.seq its'.toArray n' }:=by rw[a2X f ho (by rw[hf] <;> rfl),hf]
 refine I.write (x:=p) (e:=p) (by rw[h];trivial) (.inl rfl) (λb u hb q=>(yC _ _ (a5V hb)).trans q) ⟨_,e⟩ ?_;exact⟨hz,its',n',r,e⟩
def mN:V->V->V->Hp->(Hp->Prop)->Prop:=λo i v H Q=>∃p xs k j,o = .ref p/\i = .int k/\H p=some (.lst xs)/\ixN xs.length k=some j/\Q (upd H p (.lst (xs.set j v)))
theorem c8:rL X mN:=by
 intro pins s σ H o i v ov iv u Q I ro ri rv h;obtain⟨p,xs,k,j,rfl,rfl,hp,hj,q⟩:=h;cases ro;obtain⟨t,rfl⟩:=ri;obtain⟨aa,n,r,ho,hz⟩:=I.lst hp;obtain⟨h1,h2,h3,h4⟩:=XE hj;have hl:=r.length;have hn:=MC;have I':Inv X pins σ (upd H p (.lst (xs.set j v))) { s with heap:=s.heap.update p (a7K (·.setIfInBounds j u)) }:=
   I.lstUpd hp ho (VQ aa n j u) (r.set rv j) (by rw[b0Q];exact hz) s.toks;by_cases h0:0<=k
 . have hk:k.toNat=j:=by rw[seqIndex_of h0 h4] at h1;exact Option.some.inj h1
   exact PySem.W.ki_setAt ho h0 (by lia) (by rw[zJ,<-hl];exact h4) (by rw[hk];exact⟨_,I',q⟩)
 . have hk:(k+(aa.toArray.size:Int)).toNat=j:=by rw[seqIndex_neg (by lia) h3] at h1;rw[zJ,<-hl];exact Option.some.inj h1
   exact PySem.W.ki_setBack ho (by lia) (by rw[zJ,<-hl];exact h3) (by lia) (by rw[hk];exact⟨_,I',q⟩)
theorem QR (lo hi:Option Int) (n:Nat):(sliceBounds lo hi none n).1=((HT.sIx n 0 lo:Nat):Int)/\(sliceBounds lo hi none n).2.1=((HT.sIx n n hi:Nat):Int)/\(sliceBounds lo hi none n).2.2=1:=by
 refine⟨?_,?_,rfl⟩
 . cases lo with
   | none=>simp[sliceBounds,HT.sIx]
   | some i=>
     simp only[sliceBounds,HT.sIx,Option.getD_none,show(1:Int) > 0 by decide,if_true];by_cases h:i < 0;. simp only[h,if_true] <;> lia
     . simp only[h,if_false] <;> lia
 . cases hi with
   | none=>simp[sliceBounds,HT.sIx]
   | some i=>
     simp only[sliceBounds,HT.sIx,Option.getD_none,show(1:Int) > 0 by decide,if_true];by_cases h:i < 0;. simp only[h,if_true] <;> lia
     . simp only[h,if_false] <;> lia
theorem OB (aa:List Value) (lo hi:Option Int):slicePick aa.toArray lo hi none=((aa.drop (HT.sIx aa.length 0 lo)).take (HT.sIx aa.length aa.length hi - HT.sIx aa.length 0 lo)).toArray:=by obtain⟨h1,h2,h3⟩:=QR lo hi aa.toArray.size;unfold slicePick;rw[h1,h2,h3];simp only[sliceRange_one,pick_run,zJ] <;> rfl
def oN (K:Frg):V->Option Int->Option Int->Hp->VK->Prop:=λx lo hi H Q=>∃a xs,x = .ref a/\SqL K H a xs/\∀p,H p=none->Q (.ref p) (upd H p (.lst (IB xs lo hi)))
theorem iW:SlR X (oN X.K):=by intro pins s σ H x v vl vu lo hi sl Q I rx hs pl pu h;obtain⟨a,xs,rfl,hx,q⟩:=h;cases rx;obtain⟨aa,r,ht,hz⟩:=I.list hx;have af:=r.length;refine⟨"list", _,slot_list_getitem.lookup,ht.isList.typeIs,?_⟩;refine wpAny_getItem_list_slice ht.isList hs pl pu .none (by simp) ?_ (by rw[zJ] <;> lia);rw[OB,<-af];refine⟨.ref s.heap.objs.size,_,I.laid (t':=s.toks) (o:=.lst (IB xs lo hi)) (λb ob q=>zW _ q) (zR _) ?_,rfl,q _ (I.hok.fresh (zR _))⟩;exact⟨zN (KJ xs lo hi) hz,_,0,(r.drop (HT.sIx xs.length 0 lo)).take (HT.sIx xs.length xs.length hi - HT.sIx xs.length 0 lo),yZ _ rfl⟩
def HM:V->Bool
 | .non=>true
 | .bl _=>true
 | .int _=>true
 | .str _=>true
 | _=>false
def eqV:V->V->Bool
 | .non,.non=>true
 | .bl a,.bl b=>a==b
 | .bl a,.int b=>(if a then 1 else 0)==b
 | .int a,.bl b=>a==(if b then 1 else 0)
 | .int a,.int b=>a==b
 | .str a,.str b=>a==b
 | _,_=>false
theorem oO {A:Around}{s:Shared}{y x:V}{u v:Value}(ry:RelV y u) (rx:RelV x v) (fy:HM y=true) (fx:HM x=true):SeqAt.EqAt A s u v (eqV y x):=by
 cases y with
 | non=>
   cases ry;cases x with
   | non=>cases rx;exact SeqAt.EqAt.same _
   | bl b=>cases rx;exact SeqAt.EqAt.none_bool b
   | int b=>obtain⟨t,rfl⟩:=rx;exact SeqAt.EqAt.none_int b t
   | str b=>obtain⟨t,rfl⟩:=rx;exact SeqAt.EqAt.none_str b t
   | _=>exact absurd (show false=true from fx) nft
 | bl a=>
   cases ry;cases x with
   | non=>cases rx;exact SeqAt.EqAt.bool_none a
   | bl b=>cases rx;exact SeqAt.EqAt.bool_bool a b
   | int b=>obtain⟨t,rfl⟩:=rx;exact SeqAt.EqAt.bool_int a b t
   | str b=>obtain⟨t,rfl⟩:=rx;exact SeqAt.EqAt.bool_str a b t
   | _=>exact absurd (show false=true from fx) nft
 | int a=>
   obtain⟨t',rfl⟩:=ry;cases x with
   | non=>cases rx;exact SeqAt.EqAt.int_none a t'
   | bl b=>cases rx;exact SeqAt.EqAt.int_bool a t' b
   | int b=>obtain⟨t,rfl⟩:=rx;exact SeqAt.EqAt.int_int a t' b t
   | str b=>obtain⟨t,rfl⟩:=rx;exact SeqAt.EqAt.int_str a t' b t
   | _=>exact absurd (show false=true from fx) nft
 | str a=>
   obtain⟨t',rfl⟩:=ry;cases x with
   | non=>cases rx;exact SeqAt.EqAt.str_none a t'
   | bl b=>cases rx;exact SeqAt.EqAt.str_bool a t' b
   | int b=>obtain⟨t,rfl⟩:=rx;exact SeqAt.EqAt.str_int a t' b t
   | str b=>obtain⟨t,rfl⟩:=rx;exact SeqAt.EqAt.str_str a t' b t
   | _=>exact absurd (show false=true from fx) nft
 | _=>exact absurd (show false=true from fy) nft
def eqU (x:V) (u:Value):Bool:=match u with
 | .none=>eqV .non x
 | .bool b=>eqV (.bl b) x
 | .int i _=>eqV (.int i) x
 | .str z _=>eqV (.str z) x
 | _=>false
theorem c9 {x y:V}{u:Value}(r:RelV y u) (f:HM y=true):eqU x u=eqV y x:=by
 cases y with
 | non=>cases r;rfl
 | bl b=>cases r;rfl
 | int i=>obtain⟨t,rfl⟩:=r;rfl
 | str z=>obtain⟨t,rfl⟩:=r;rfl
 | _=>exact absurd (show false=true from f) nft
theorem QS {x:V}:∀{xs:List V}{us:List Value},Vals xs us->xs.all HM=true->us.any (eqU x)=xs.any λy=>eqV y x
 | _,_,.nil,_=>rfl
 | y::xs,u::us,.cons r t,f=>by rw[List.all_cons,a0V] at f;rw[b2J,b2J,c9 r f.1,QS t f.2]
theorem MG {A:Around}{s:Shared}{x:V}{v:Value}(rx:RelV x v) (fx:HM x=true):∀{xs:List V}{us:List Value},Vals xs us->xs.all HM=true->∀u∈us,SeqAt.EqAt A s u v (eqU x u)
 | _,_,.nil,_=>λu hu=>by cases hu
 | y::xs,u::us,.cons r t,f=>λu' hu=>by
   rw[List.all_cons,a0V] at f;rcases yX.mp hu with rfl | hu;. rw[c9 r f.1];exact oO r rx f.1 fx
   . exact MG rx fx t f.2 u' hu
def inV (x:V) (xs:List V):Bool:=xs.any λy=>eqV y x
def rIn (K:Frg) (neg:Bool):R2:=λx y H Q=>∃p xs,y = .ref p/\(SqL K H p xs\/SqT K H p xs)/\HM x=true/\xs.all HM=true/\Q (.bl (if neg then !inV x xs else inV x xs)) H
theorem Z8:OpR X (compareOp .In) (rIn X.K false):=by
 intro pins s σ H x y v u Q I rx ry h;obtain⟨p,xs,rfl,hq,fx,fs,q⟩:=h;cases ry;rcases hq with hq | hq;. obtain⟨aa,r,pl,hz⟩:=I.list hq;refine SeqAt.in_listAt (eqU x) pl.isList (λw hw=>MG rx fx r fs w (by simpa using hw)) ⟨.bl _,H,I,rfl,?_⟩;rw[show aa.toArray.any (eqU x)=aa.any (eqU x) by simp,QS r fs];exact q
 . obtain⟨aa,r,pl,hz⟩:=I.tuple hq;refine SeqAt.in_tupleAt (eqU x) pl (λw hw=>MG rx fx r fs w (by simpa using hw)) ⟨.bl _,H,I,rfl,?_⟩;rw[show aa.toArray.any (eqU x)=aa.any (eqU x) by simp,QS r fs];exact q
theorem QT:B9 X (.type "list") (λxs H Q=>∃p ys,xs=[.ref p]/\(SqL X.K H p ys\/SqT X.K H p ys)/\∀l,H l=none->Q (.ref l) (upd H l (.lst ys))):=by
 intro pins s σ H xs us Q I r h;obtain⟨p,ys,rfl,hq,q⟩:=h;obtain⟨u,rfl,rx⟩:=F3 r;cases rx;have fin:∀(aa:List Value),Vals ys aa->ys.length<=sizeLine->∀(h':Heap) (c':Nat),(∀b o',s.heap.get? b=some o'->h'.get? b=some o') ->
     h'.get? s.heap.objs.size=some { cls:=.type "list", dict:=none,data:=.seq aa.toArray c',slots:=#[] }->EP X pins σ Q (.ref s.heap.objs.size) { s with heap:=h' }:=λaa r' hz h' c' kp e=>
   ⟨.ref s.heap.objs.size,_,I.laid (t':=s.toks) kp (zR _) (show ObjOk X.prog X.w _ h' _ (.lst ys) from ⟨hz,aa,c',r',e⟩),rfl,q _ (I.hok.fresh (zR _))⟩
 rcases hq with hq | hq;. obtain⟨aa,r',pl,hz⟩:=I.list hq;have af:=r'.length;obtain⟨o,ho,hc,n,hd⟩:=pl.isList;exact call_list_seq p (.inl rfl) ho hc hd (λh' c' kp e=>fin aa r' hz h' c' kp e) (by simp only[zJ] <;> lia)
 . obtain⟨aa,r',pl,hz⟩:=I.tuple hq;have af:=r'.length;obtain⟨o,ho,hc,n,hd⟩:=pl;exact call_list_seq p (.inr rfl) ho hc hd (λh' c' kp e=>fin aa r' hz h' c' kp e) (by simp only[zJ] <;> lia)
theorem OC:B9 X (.type "tuple") (λxs H Q=>∃p ys,xs=[.ref p]/\((SqL X.K H p ys/\∀l,H l=none->Q (.ref l) (upd H l (.tup ys)))\/(SqT X.K H p ys/\Q (.ref p) H))):=by
 intro pins s σ H xs us Q I r h;obtain⟨p,ys,rfl,h⟩:=h;obtain⟨u,rfl,rx⟩:=F3 r;cases rx;rcases h with ⟨hq,q⟩ | ⟨hq,q⟩
 . obtain⟨aa,r',pl,hz⟩:=I.list hq;have af:=r'.length;refine call_tuple_list pl.isList (λh' kp=>?_) (by simp only[zJ] <;> lia);have I1:Inv X pins σ H { s with heap:=h' }:=I.kept (t':=s.toks) kp;have I2:Inv X pins σ (upd H h'.objs.size (.tup ys)) { s with heap:=h'.push { cls:=.type "tuple", data:=.seq aa.toArray } }:=
     I1.laid (t':=s.toks) (λb o e=>zW _ e) (zR _) (show ObjOk X.prog X.w _ _ _ (.tup ys) from ⟨hz,aa,r',IsTup.new _ _⟩);exact⟨.ref h'.objs.size,_,I2,rfl,q _ (I1.hok.fresh (zR _))⟩
 . obtain⟨aa,r',pl,hz⟩:=I.tuple hq;exact call_tuple_same pl ⟨.ref p,H,I,rfl,q⟩
def tyV (K:Frg) (T:String) (x:V) (H:Hp):Prop:=match x with
 | .str _=>T = "str"
 | .int _=>T = "int"
 | .ref p=>(T = "list" /\ ∃xs,SqL K H p xs)\/(T = "tuple" /\ ∃o,K.lookup p=some o/\o.cls = .type "tuple" /\ o.dict=none) \/(T = "dict" /\ ((∃kvs,H p=some (.dK kvs))\/∃kvs,H p=some (.dT kvs)))\/(T = "set" /\ ∃S n,H p=some (.set S n))
 | _=>False
theorem oP {pins:List (Addr×Obj)}{σ:St}{H:Hp}{s:Shared}{T:String}{x:V}{v:Value}(I:Inv X pins σ H s) (r:RelV x v) (ty:tyV X.K T x H) :
   s.TypeIs v T/\∀a,v = .ref a->∃ob,s.heap.get? a=some ob/\ob.dict=none:=by
 cases x with
 | str z=> obtain⟨t,rfl⟩:=r;cases (show T = "str" from ty);exact⟨typeIs_str s z t,λ_ e=>nomatch e⟩
 | int i=> obtain⟨t,rfl⟩:=r;cases (show T = "int" from ty);exact⟨typeIs_int s i t,λ_ e=>nomatch e⟩
 | ref p=>
   cases r;rcases ty with ⟨rfl,xs,hq⟩ | ⟨rfl,o,hk,hc,hd⟩ | ⟨rfl,hk⟩ | ⟨rfl,S,n,hk⟩
   . obtain⟨aa,_,pl,_⟩:=I.list hq;refine⟨pl.isList.typeIs,λa e=>?_⟩;cases e;obtain⟨o,n,e,c,hd,_⟩:=pl;exact⟨o,e,hd⟩
   . refine⟨⟨o,I.kIn p o hk,hc⟩,λa e=>?_⟩;cases e;exact⟨o,I.kIn _ o hk,hd⟩
   . have z:∃o,s.heap.get? p=some o/\o.ExactDict:=by
       rcases hk with ⟨kvs,hk⟩ | ⟨kvs,hk⟩
       . obtain⟨_,_,_,_,o,_,_,e,ex,_⟩:=I.hok p _ hk;exact⟨o,e,ex⟩
       . obtain⟨_,_,_,_,o,_,_,e,ex,_⟩:=I.hok p _ hk;exact⟨o,e,ex⟩
     obtain⟨o,e,ex⟩:=z;refine⟨⟨o,e,ex.1⟩,λa e2=>?_⟩;cases e2;exact⟨o,e,ex.2.1⟩
   . obtain⟨o,_,_,_,e,ex,_⟩:=I.hok p _ hk;refine⟨⟨o,e,ex.1⟩,λa e2=>?_⟩;cases e2;exact⟨o,e,ex.2.1⟩
 | _=>exact a6Z ty
def tBM (K:Frg) (T:String) (r:V->List V->Hp->VK->Prop) (to:TE) (t:TA):TE:=λσ H Q=>to σ H λx H1=>tyV K T x H1/\t σ H1 λxs H2=>r x xs H2 Q
variable {o e:Expr}{es:List Expr}{to:TE}{t:TA}{name:Str}{apos ah:Pos}{T id:String}{r:V->List V->Hp->VK->Prop}
theorem rT (pa:PlainAttrs T) (slot:Slot T name id) (wM:typeOf (.builtin id)=pure (.type "method_descriptor")) (hm:MtR X id r) (ho:PE X o to) (ha:PA X (e::es) t) (hbase:attributeBase o name X.env (eval o X.env)=eval o X.env:=by rfl)
   (qh:((backTo ah (starEach (e::es) X.env)).all (λx=>!x.1)&&(backToKw ah (keywordEach [] X.env)).all (λx=>x.1.isSome)
     && decide ((e::es).length+([]:List Keyword).length+(if ([]:List Keyword).isEmpty then 0 else 1) < 30))=true:=by rfl)
   (ui:(apos.endLine==ah.line)=true:=by rfl) (hs:starEach (e::es) X.env=(false,eval e X.env)::starEach es X.env:=by rfl) (mn:(backTo ah (starEach es X.env)).any (·.1)=false:=by rfl) :
   PE X (.Call (.Attribute o name apos) (e::es) [] ah) (tBM X.K T r to t):=by intro pins s σ H Q I h;refine wpAny_Call_method_late hbase qh ui rfl (thn (ho pins s σ H _ I h) λv s1 ⟨x,H1,I1,r1,ty,q1⟩=>?_);obtain⟨h1,h2⟩:=oP I1 r1 ty;refine⟨T,id,pa,slot,wM,h1,h2,?_⟩;have hA:=ha ah pins s1 σ H1 _ I1 q1;rw[hs] at hA ⊢;refine b7K (by show(false||(backTo ah (starEach es X.env)).any (·.1))=false;rw[mn] <;> rfl) (Calls.evalArgs_plain ?_);exact thn hA λus s2 ⟨vs,H2,I2,r2,q2⟩=>hm pins s2 σ H2 x vs v us Q I2 r1 r2 q2
end
def MtM (X:Cx) (id:String) (r:V->List V->Hp->VK->Prop):Prop:=∀(pins:List (Addr×Obj)) (s:Shared) (σ:St) (H:Hp) (x:V) (xs:List V) (v:Value) (us:List Value) (Q:VK),Inv X pins σ H s->RelV x v->Vals xs us->r x xs H Q ->
   wpAny (model X.prog X.w) X.A (call (.builtin id) (v::us)) (EP X pins σ Q) X.xe s
theorem Vals.one:∀{x:V}{us:List Value},Vals [x] us->∃u,us=[u]/\RelV x u
 | _,_,.cons r .nil=>⟨_,rfl,r⟩
section
variable {X:Cx}{pins:List (Addr×Obj)}{σ:St}{H:Hp}{s:Shared}{l b:Addr}{xs ys zs:List V}
theorem Inv.lset {aa its':List Value}{n:Nat}{f:Array Value->Array Value}{t':Nat}(I:Inv X pins σ H s) (hH:H l=some (.lst xs)) (e:s.heap.get? l=some { cls:=.type "list", data:=.seq aa.toArray n }) (hf:f aa.toArray=its'.toArray) (hv:Vals ys its') (hz:ys.length<=sizeLine) :
   Inv X pins σ (upd H l (.lst ys)) { s with heap:=s.heap.update l (a7K f),toks:=t' }:=by have q:=PySem.IsL.update e f;rw[hf] at q;refine I.write (x:=l) (e:=l) (by rw[hH];exact trivial) (.inl rfl) (λb' u hb hu=>(yC s.heap (a7K f) (a5V hb)).trans hu) ⟨_,q⟩ ?_;exact⟨hz,its',_,hv,q⟩
theorem Inv.lnew {aa:List Value}{t':Nat}(I:Inv X pins σ H s) (hv:Vals ys aa) (hz:ys.length<=sizeLine) :
   Inv X pins σ (upd H s.heap.objs.size (.lst ys)) { s with heap:=s.heap.push { cls:=.type "list", data:=.seq aa.toArray },toks:=t' }:=
 I.laid (λ_ _ q=>zW _ q) (zR _) ⟨hz,aa,0,hv,yZ _ rfl⟩
theorem Inv.fresh (I:Inv X pins σ H s):H s.heap.objs.size=none:=I.hok.fresh (zR _)
theorem Inv.lstM (I:Inv X pins σ H s) (hH:H l=some (.lst xs)):xs.length<=sizeLine/\∃(aa:List Value) (n:Nat),Vals xs aa/\xs.length=aa.length/\s.heap.get? l=some { cls:=.type "list", data:=.seq aa.toArray n }:=by obtain⟨z,aa,n,r,e⟩:=I.hok l _ hH;exact⟨z,aa,n,r,r.length,e⟩
end
section
variable {X:Cx}
def QU:V->List V->Hp->VK->Prop:=λx vs H Q=>∃l xs y,x = .ref l/\vs=[y]/\H l=some (.lst xs)/\xs.length < sizeLine/\Q .non (upd H l (.lst (xs++[y])))
theorem P8:MtM X "list.append" QU:=by intro pins s σ H x vs v us Q I rx rv h;obtain⟨l,xs,y,rfl,rfl,hH,hz,q⟩:=h;cases rx;obtain⟨u,rfl,ru⟩:=rv.one;obtain⟨z,aa,n,r,hl,e⟩:=I.lstM hH;refine call_meets F.slot_list_append ⟨_,e,rfl⟩ F.entry_list_append (F.args_list_append_2 _ _) (PySem.list_append l aa.toArray n u (by rw[zJ];lia)) ⟨e,?_⟩;refine⟨.non,_,I.lset (its':=aa++[u]) hH e (by simp) (r.append (.cons ru .nil)) ?_,rfl,q⟩;rw[yY,List.length_singleton];lia
end
section
variable {κ:Type}[DecidableEq κ]
def EV (kvs:List (κ×V)) (k:κ):Option V:=(kvs.find? λkv=>decide (kv.1=k)).map (·.2)
def GD (kvs:List (κ×V)) (k:κ) (v:V):List (κ×V):=
 if (kvs.any λkv=>decide (kv.1=k))=true then kvs.map (λkv=>if kv.1=k then (kv.1,v) else kv) else kvs++[(k,v)]
def IR (kvs:List (κ×V)) (k:κ):List (κ×V):=kvs.filter λkv=>decide (kv.1≠k)
theorem IS {p:κ×V}{r:List (κ×V)}{k:κ}(e:p.1=k):EV (p::r) k=some p.2:=by simp[EV,b0X,e]
theorem GI {p:κ×V}{r:List (κ×V)}{k:κ}(e:¬p.1=k):EV (p::r) k=EV r k:=by simp[EV,b0X,e]
theorem SU (k:κ):∀kvs:List (κ×V),(kvs.any λkv=>decide (kv.1=k))=(EV kvs k).isSome
 | []=>rfl
 | p::r=>by
   rw[b2J];by_cases e:p.1=k;. simp only[IS e,decide_eq_true e,Bool.true_or,Option.isSome_some]
   . rw[GI e,decide_eq_false e,Bool.false_or];exact SU k r
theorem GJ (kvs:List (κ×V)) (k:κ) (v:V):(GD kvs k v).length<=kvs.length+1:=by
 unfold GD;split;. rw[zX];lia
 . rw[yY,yR,List.length_nil];lia
theorem RelO.isSome_eq {o:Option V}{u:Option Value}(r:RelO o u):o.isSome=u.isSome:=by
 cases o with
 | none=>cases u with
   | none=>rfl
   | some _=>exact(show False from r).elim
 | some _=>cases u with
   | none=>exact(show False from r).elim
   | some _=>rfl
theorem RelO.getD {o:Option V}{u:Option Value}{d:V}{d':Value}(r:RelO o u) (rd:RelV d d'):RelV (o.getD d) (u.getD d'):=by
 cases o with
 | none=>cases u with
   | none=>exact rd
   | some _=>exact(show False from r).elim
 | some _=>cases u with
   | none=>exact(show False from r).elim
   | some _=>exact r
theorem KV.val {kvs:List (κ×V)}{vs:List (κ×Value)}(r:KV kvs vs) (k:κ):RelO (EV kvs k) (valueAt vs k):=by
 unfold KV at r;induction r with
 | nil=>exact a9X
 | @cons p q ps qs h t ih=>
   obtain⟨h1,h2⟩:=h;by_cases e:p.1=k
   . have e':q.1=k:=h1.symm.trans e;have b:valueAt (q::qs) k=some q.2:=by simp[valueAt,b0X,e']
     rw[IS e,b];exact h2
   . have e':¬q.1=k:=λz=>e (h1.trans z);have b:valueAt (q::qs) k=valueAt qs k:=by simp[valueAt,b0X,e']
     rw[GI e,b];exact ih
theorem KV.any {kvs:List (κ×V)}{vs:List (κ×Value)}(r:KV kvs vs) (k:κ):(kvs.any λkv=>decide (kv.1=k))=vs.any λkv=>decide (kv.1=k):=by
 unfold KV at r;induction r with
 | nil=>rfl
 | cons h t ih=>rw[b2J,b2J,ih,h.1]
theorem KV.repl {kvs:List (κ×V)}{vs:List (κ×Value)}(r:KV kvs vs) (k:κ) {y:V}{u:Value}(ry:RelV y u) :
   KV (kvs.map λkv=>if kv.1=k then (kv.1,y) else kv) (vs.map λkv=>if kv.1=k then (kv.1,u) else kv):=by
 unfold KV at r ⊢;induction r with
 | nil=>exact .nil
 | @cons p q ps qs h t ih=>
   rw[zI,zI];refine .cons ?_ ih;obtain⟨h1,h2⟩:=h;by_cases e:p.1=k;. rw[if_pos e,if_pos (h1.symm.trans e)];exact⟨h1,ry⟩
   . rw[if_neg e,if_neg (λz=>e (h1.trans z))];exact⟨h1,h2⟩
theorem KV.put {kvs:List (κ×V)}{vs:List (κ×Value)}(r:KV kvs vs) (k:κ) {y:V}{u:Value}(ry:RelV y u):KV (GD kvs k y) (stored vs k u):=by
 unfold GD stored;rw[r.any k];by_cases e:(vs.any λkv=>decide (kv.1=k))=true;. rw[if_pos e,if_pos e];exact r.repl k ry
 . rw[if_neg e,if_neg e];exact Paired.snoc r ⟨rfl,ry⟩
theorem KV.drop {kvs:List (κ×V)}{vs:List (κ×Value)}(r:KV kvs vs) (k:κ):KV (IR kvs k) (without vs k):=by
 unfold KV at r ⊢;unfold IR without;induction r with
 | nil=>exact .nil
 | @cons p q ps qs h t ih=>
   obtain⟨h1,h2⟩:=h;rw[a9Q,a9Q];by_cases e:p.1=k
   . have a:¬decide (p.1≠k)=true:=by simp[e]
     have b:¬decide (q.1≠k)=true:=by simp[h1.symm.trans e]
     rw[if_neg a,if_neg b];exact ih
   . have e':¬q.1=k:=λz=>e (h1.trans z);have a:decide (p.1≠k)=true:=by simp[e]
     have b:decide (q.1≠k)=true:=by simp[e']
     rw[if_pos a,if_pos b];exact .cons ⟨h1,h2⟩ ih
theorem KV.length {kvs:List (κ×V)}{vs:List (κ×Value)}(r:KV kvs vs):kvs.length=vs.length:=Paired.length r
theorem SV (kvs:List (κ×V)) (k:κ):(IR kvs k).length<=kvs.length:=yJ _ _
end
theorem IT {P:Program}{w:World}{k:Key}{u:Value}(r:RelV (kV k) u):(AQ P w).is k u=true:=by
 cases k with
 | inl i=>obtain⟨t,e⟩:=(show ∃t,u=Value.int i t from r);subst e;exact SN P w i t
 | inr x=>obtain⟨t,e⟩:=(show ∃t,u=b6X x t from r);subst e;exact KI P w x t
theorem P9 {P:Program}{w:World}:∀{ks:List Key}{us:List Value},Vals (ks.map kV) us->ItemsAre (AQ P w) ks us
 | [],_,r=>by rw[List.map_nil] at r;cases r;exact .nil
 | k::ks,_,r=>by
   rw[zI] at r;cases r with
   | cons h t=>exact .cons (IT h) (P9 t)
abbrev KT (H:Hp):List (List Key×V)->List (List Key×Addr×Value)->Prop:=Paired λp q=>p.1=q.1/\H q.2.1=some (.tup (p.1.map kV))/\RelV p.2 q.2.2
theorem KT.val {H:Hp}{kvs:List (List Key×V)}{xs:List (List Key×Addr×Value)}(r:KT H kvs xs) (k:List Key):RelO (EV kvs k) ((atKey xs k).map (·.2)):=by
 induction r with
 | nil=>exact a9X
 | @cons p q ps qs h t ih=>
   obtain⟨h1,_,h2⟩:=h;by_cases e:p.1=k
   . have e':q.1=k:=h1.symm.trans e;have b:atKey (q::qs) k=some q.2:=by simp[atKey,b0X,e']
     rw[IS e,b];exact h2
   . have e':¬q.1=k:=λz=>e (h1.trans z);have b:atKey (q::qs) k=atKey qs k:=by simp[atKey,b0X,e']
     rw[GI e,b];exact ih
theorem KT.repl {H:Hp}{kvs:List (List Key×V)}{xs:List (List Key×Addr×Value)}(r:KT H kvs xs) (k:List Key) {y:V}{u:Value}(ry:RelV y u) :
   KT H (kvs.map λkv=>if kv.1=k then (kv.1,y) else kv) (xs.map (putAt k u)):=by
 induction r with
 | nil=>exact .nil
 | @cons p q ps qs h t ih=>
   rw[zI,zI];refine .cons ?_ ih;obtain⟨h1,h2,h3⟩:=h;unfold putAt;by_cases e:p.1=k;. rw[if_pos e,if_pos (h1.symm.trans e)];exact⟨h1,h2,ry⟩
   . rw[if_neg e,if_neg (λz=>e (h1.trans z))];exact⟨h1,h2,h3⟩
theorem KT.put {H:Hp}{kvs:List (List Key×V)}{xs:List (List Key×Addr×Value)}(r:KT H kvs xs) (k:List Key) {b:Addr}{y:V}{u:Value}(hb:H b=some (.tup (k.map kV))) (ry:RelV y u) :
   KT H (GD kvs k y) (storedH xs k b u):=by
 have e:(kvs.any λkv=>decide (kv.1=k))=(atKey xs k).isSome:=by rw[SU,(r.val k).isSome_eq,a6V]
 unfold GD storedH;rw[e];by_cases q:(atKey xs k).isSome=true;. rw[if_pos q,if_pos q];exact r.repl k ry
 . rw[if_neg q,if_neg q];exact Paired.snoc r ⟨rfl,hb,ry⟩
theorem KT.keeps {H H':Hp}{kvs:List (List Key×V)}{xs:List (List Key×Addr×Value)}(r:KT H kvs xs) (ht:∀b ys,H b=some (.tup ys)->H' b=some (.tup ys)):KT H' kvs xs:=
 Paired.mapP r λ_ _ z=>⟨z.1,ht _ _ z.2.1,z.2.2⟩
section
variable {P:Program}{w:World}{H:Hp}{h:Heap}{a:Addr}
theorem mO {u:HO}(ok:HOk P w H h) (e:Rd H a u):ObjOk P w H h a u:=e.ok ok
theorem IU {kvs:List (Key×V)}(ok:HOk P w H h) (e:Rd H a (.dK kvs)):kvs.length<=sizeLine/\(a==sysModules)=false/\∃vs,KV kvs vs/\h.DictOf (AQ P w) a vs:=
 show ObjOk P w H h a (.dK kvs) from mO ok e
theorem XF {kvs:List (Key×V)}(ok:HOk P w H h) (e:H a=some (.dK kvs)):kvs.length<=sizeLine/\(a==sysModules)=false/\∃vs,KV kvs vs/\h.DictOf (AQ P w) a vs:=IU ok (.inl e)
theorem MH {ks:List Key}(ok:HOk P w H h) (e:H a=some (.tup (ks.map kV))):(tupleKind (AQ P w)).is h ks a:=by
 obtain⟨_,aa,r,o,h1,h2,n,h3⟩:=(show ObjOk P w H h a (.tup (ks.map kV)) from ok a _ e)
 exact⟨o,aa.toArray,n,h1,h2,h3,by simpa using P9 r⟩
theorem PB {kvs:List (List Key×V)}(ok:HOk P w H h) (e:Rd H a (.dT kvs)):kvs.length<=sizeLine/\(a==sysModules)=false /\∃xs,KT H kvs xs/\h.DictOfH (tupleKind (AQ P w)) a xs:=by
 obtain⟨z,y,xs,r,o,es,ep,h1,h2,h3,h4,h5⟩:=(show ObjOk P w H h a (.dT kvs) from mO ok e)
 refine⟨z,y,xs,r,o,es,ep,h1,h2,h3,h4,λx hx=>?_,h5⟩;have all:∀{l:List (List Key×V)}{m:List (List Key×Addr×Value)},KT H l m->∀x∈m,(tupleKind (AQ P w)).is h x.1 x.2.1:=by
   intro l m q;induction q with
   | nil=>intro x hx;exact nomatch hx
   | @cons p q ps qs hq t ih=>
     intro x hx;rcases yX.mp hx with e | hx;. subst e;exact MH ok (by rw[<-hq.1];exact hq.2.1)
     . exact ih x hx
 exact all r x hx
theorem rV {kvs:List (List Key×V)}(ok:HOk P w H h) (e:H a=some (.dT kvs)):kvs.length<=sizeLine/\(a==sysModules)=false /\∃xs,KT H kvs xs/\h.DictOfH (tupleKind (AQ P w)) a xs:=PB ok (.inl e)
end
def VR (H:Hp) (a:Addr) (y:V) (r:Option V):Prop:=(∃kvs k,Rd H a (.dK kvs)/\y=kV k/\r=EV kvs k)\/∃kvs k b,Rd H a (.dT kvs)/\y = .ref b/\H b=some (.tup (k.map kV))/\r=EV kvs k
def rW (H:Hp) (a:Addr) (y v:V) (H':Hp):Prop:=(∃kvs k,H a=some (.dK kvs)/\y=kV k/\kvs.length < sizeLine/\H'=upd H a (.dK (GD kvs k v))) \/∃kvs k b,H a=some (.dT kvs)/\y = .ref b/\H b=some (.tup (k.map kV))/\kvs.length < sizeLine/\H'=upd H a (.dT (GD kvs k v))
section
variable {X:Cx}{pins:List (Addr×Obj)}{σ:St}{H:Hp}{s:Shared}{a:Addr}{y v:V}{u r:Value}{o:Option V}{A:Around}{E:Value->Shared->Prop}
theorem Inv.big (I:Inv X pins σ H s):sysModules < s.heap.objs.size:=by have h:mainGlobals < s.heap.objs.size:=(I.mod.glob.keeps I.bk).lt;exact Nat.lt_trans (by decide) h
theorem Z9 {Q:Value->Shared->Prop}(hu:A.units+1 < cLine) (I:Inv X pins σ H s) (g:VR H a y (some v)) (ry:RelV y u) (h:∀w' s',Inv X pins σ H s'->RelV v w'->Q w' s') :
   wpAny (model X.prog X.w) A (getItem (.ref a) u) Q E s:=by
 rcases g with ⟨kvs,k,e,ey,l⟩ | ⟨kvs,k,b,e,ey,eb,l⟩
 . subst ey;obtain⟨z,hd,vs,rel,dd⟩:=IU I.hok e;obtain⟨w',hw,j_⟩:=RelO.some_of (v:=v) (o:=valueAt vs k) (by rw[l];exact rel.val k);exact wpAny_getItem_of (IT ry) dd.mapOf hw (h w' _ (I.tok _) j_)
 . subst ey;cases (show u=a0X b from ry);obtain⟨z,hd,xs,rel,dd⟩:=PB I.hok e;obtain⟨w',hw,j_⟩:=RelO.some_of (v:=v) (o:=(atKey xs k).map (·.2)) (by rw[l];exact rel.val k);obtain⟨p,hp,hp2⟩:=Option.map_eq_some_iff.mp hw;refine wpAny_getItem_heap (tupleKind_room_in1 hu) (MH I.hok eb) dd hp ?_;rw[hp2];exact h w' _ (I.tok _) j_
theorem tZ {Q:Value->Shared->Prop}(hu:A.units+1 < cLine) (I:Inv X pins σ H s) (g:VR H a y o) (ry:RelV y u) (h:∀s',Inv X pins σ H s'->Q (.bool o.isSome) s') :
   wpAny (model X.prog X.w) A (compareOp .In u (.ref a)) Q E s:=by
 rcases g with ⟨kvs,k,e,ey,l⟩ | ⟨kvs,k,b,e,ey,eb,l⟩
 . subst ey;obtain⟨z,hd,vs,rel,dd⟩:=IU I.hok e;refine wpAny_in_of (IT ry) hd dd.mapOf ?_;rw[<-(rel.val k).isSome_eq,<-l];exact h _ (I.tok _)
 . subst ey;cases (show u=a0X b from ry);obtain⟨z,hd,xs,rel,dd⟩:=PB I.hok e;refine wpAny_in_heap (tupleKind_room_in1 hu) (MH I.hok eb) hd dd ?_;have q:=(rel.val k).isSome_eq;rw[a6V] at q;rw[<-q,<-l];exact h _ (I.tok _)
theorem iX {Q:Value->Shared->Prop}(hu:A.units+1 < cLine) (I:Inv X pins σ H s) (g:VR H a y o) (ry:RelV y u) (h:∀s',Inv X pins σ H s'->Q (.bool (!o.isSome)) s') :
   wpAny (model X.prog X.w) A (compareOp .NotIn u (.ref a)) Q E s:=by
 rcases g with ⟨kvs,k,e,ey,l⟩ | ⟨kvs,k,b,e,ey,eb,l⟩
 . subst ey;obtain⟨z,hd,vs,rel,dd⟩:=IU I.hok e;refine wpAny_notIn_of (IT ry) hd dd.mapOf ?_;rw[<-(rel.val k).isSome_eq,<-l];exact h _ (I.tok _)
 . subst ey;cases (show u=a0X b from ry);obtain⟨z,hd,xs,rel,dd⟩:=PB I.hok e;refine wpAny_notIn_heap (tupleKind_room_in1 hu) (MH I.hok eb) hd dd ?_;have q:=(rel.val k).isSome_eq;rw[a6V] at q;rw[<-q,<-l];exact h _ (I.tok _)
theorem IV {h':Heap}{t':Nat}{ob:HO}(I:Inv X pins σ H s) (mu:Mut (H a)) (hs:Heap.SameBut a s.heap h') (he:∃q,h'.get? a=some q) (new:ObjOk X.prog X.w (upd H a ob) h' a ob) :
   Inv X pins σ (upd H a ob) { s with heap:=h',toks:=t' }:=
 I.write (x:=a) (e:=a) mu (.inl rfl) (λb q hb z=>(hs.2 b hb).trans z) he new
theorem MI {P:Program}{w:World}{H':Hp}{h':Heap}{kvs:List (Key×V)}{vs:List (Key×Value)}(z:kvs.length<=sizeLine) (hd:(a==sysModules)=false) (rel:KV kvs vs) (dd:h'.DictOf (AQ P w) a vs) :
   ObjOk P w H' h' a (.dK kvs):=⟨z,hd,vs,rel,dd⟩
theorem ZA {H':Hp}{Q:Unit->Shared->Prop}(hu:A.units+1 < cLine) (I:Inv X pins σ H s) (g:rW H a y v H') (ry:RelV y u) (rv:RelV v r) (h:∀s',Inv X pins σ H' s'->Q () s') :
   wpAny (model X.prog X.w) A (setItem (.ref a) u r) Q E s:=by
 rcases g with ⟨kvs,k,e,ey,l,eH⟩ | ⟨kvs,k,b,e,ey,eb,l,eH⟩
 . subst ey eH;obtain⟨z,hd,vs,rel,dd⟩:=XF I.hok e;have hz:vs.length<=sizeLine:=by rw[<-rel.length];exact z
   have hl:(GD kvs k v).length<=sizeLine:=by have:=GJ kvs k v;lia
   refine wpAny_setItem_pairs (hsz:=hz) (IT ry) dd λh' ko hs=>h _ ?_;have he:∃q,h'.get? a=some q:=let ⟨q,_,_,hq,_⟩:=ko;⟨q,hq⟩;exact IV I (by rw[e];exact a9X) hs he (MI hl hd (rel.put k rv) ko)
 . subst ey eH;cases (show u=a0X b from ry);obtain⟨z,hd,xs,rel,dd⟩:=rV I.hok e;have hz:xs.length<=sizeLine:=by rw[<-Paired.length rel];exact z
   have hl:(GD kvs k v).length<=sizeLine:=by have:=GJ kvs k v;lia
   refine wpAny_setItem_heap (hsz:=hz) (tupleKind_room_in1 hu) (MH I.hok eb) dd λh' ko hs=>h _ ?_;obtain⟨q,es,ep,hq,h2,h3,h4,_,h5⟩:=ko;refine IV I (by rw[e];exact a9X) hs ⟨q,hq⟩ ⟨hl,hd,_,(rel.put k eb rv).keeps λc ys ec=>?_,q,es,ep,hq,h2,h3,h4,h5⟩;rw[AG (rD ec e (λz=>nomatch z))];exact ec
end
section
variable {X:Cx}{pins:List (Addr×Obj)}{σ:St}{H:Hp}{s:Shared}{a:Addr}{kvs:List (Key×V)}{k:Key}{u:Value}{A:Around}{E:Value->Shared->Prop}
theorem ZB {Q:Unit->Shared->Prop}(I:Inv X pins σ H s) (e:H a=some (.dK kvs)) (ry:RelV (kV k) u) (l:(EV kvs k).isSome=true) (h:∀s',Inv X pins σ (upd H a (.dK (IR kvs k))) s'->Q () s') :
   wpAny (model X.prog X.w) A (delItem (.ref a) u) Q E s:=by
 obtain⟨z,hd,vs,rel,dd⟩:=XF I.hok e;refine wpAny_delItem_slot dd.typeIs (by decide) PySem.F.slot_dict_delitem
   (call_meetsIn PySem.F.slot_dict_delitem dd.typeIs PySem.F.entry_dict_delitem (PySem.F.args_dict_delitem_2 _ _) (meets_dict_delitem_pairs (AQ X.prog X.w) a (IT ry)) ⟨vs,dd,by rw[<-rel.length];exact z,by rw[<-(rel.val k).isSome_eq];exact l,λh' ko hs=>h _ ?_⟩);have he:∃q,h'.get? a=some q:=let ⟨q,_,_,hq,_⟩:=ko;⟨q,hq⟩;exact IV I (by rw[e];exact a9X) hs he (MI (zN (SV kvs k) z) hd (rel.drop k) ko)
theorem rX {v:V}{more:List Value}{Q:Value->Shared->Prop}(I:Inv X pins σ H s) (e:H a=some (.dK kvs)) (ry:RelV (kV k) u) (l:EV kvs k=some v) (hm:more=[]\/∃x,more=[x]) (h:∀w' s',Inv X pins σ (upd H a (.dK (IR kvs k))) s'->RelV v w'->Q w' s'):wpAny (model X.prog X.w) A (call (.builtin "dict.pop") (.ref a::u::more)) Q E s:=by
 obtain⟨z,hd,vs,rel,dd⟩:=XF I.hok e;obtain⟨w',hw,j_⟩:=RelO.some_of (v:=v) (o:=valueAt vs k) (by rw[<-l];exact rel.val k);have hp:(keyPart u).isSome=true:=by
   cases k with
   | inl i=>obtain⟨t,q⟩:=(show ∃t,u=Value.int i t from ry);subst q;rfl
   | inr x=>obtain⟨t,q⟩:=(show ∃t,u=b6X x t from ry);subst q;rfl
 have ha:argsOk "dict.pop" ⟨.ref a::u::more,[]⟩:=by
   rcases hm with q | ⟨x,q⟩
   . subst q;exact PySem.F.args_dict_pop_2 _ _
   . subst q;exact PySem.F.args_dict_pop_3 _ _ _
 refine call_meetsIn PySem.F.slot_dict_pop dd.typeIs PySem.F.entry_dict_pop ha (meets_dict_pop_there (AQ X.prog X.w) a (IT ry) more hm hp) ⟨vs,w',dd,by rw[<-rel.length];exact z,hw,λh' ko hs=>h w' _ ?_ j_⟩;have he:∃q,h'.get? a=some q:=let ⟨q,_,_,hq,_⟩:=ko;⟨q,hq⟩;exact IV I (by rw[e];exact a9X) hs he (MI (zN (SV kvs k) z) hd (rel.drop k) ko)
end
def rY (i:Expr):Prop:=∀ov iv,subscripted i false ov iv=operate [ov,iv] (getItem ov iv)
theorem iY {prog:Program}{w:World}{A:Around}{E:Value->Shared->Prop}{s:Shared}{env:Env}{value slice:Expr}{pos:Pos}{T id:String}{Q:Value->Shared->Prop} (hl:typeLookup (.type T) "__getitem__"=pure (some (.builtin id))) (hs:rY slice) (h:wpAny (model prog w) A (eval value env) (λo s₁=>wpAny (model prog w) A (eval slice env) (λi s₂=>s₂.TypeIs o T/\wpAny (model prog w) A (getItem o i) Q E s₂) E s₁) E s) :
   wpAny (model prog w) A (eval (.Subscript value slice pos) env) Q E s:=by
 refine Subscript_ (wpAny_mono h (λo s₁ h₁=>wpAny_mono h₁ (λi s₂ h₂=>?_) λ_ _ x=>x) λ_ _ x=>x);obtain⟨hT,h₂⟩:=h₂;unfold subscriptTail;refine zZ ?_;rw[getitemInPython_of_ne hT.not_modules];refine zZ (wpAny_specialOf hT hl ?_);have fin:wpAny (model prog w) A (subscripted slice false o i) (λr s₃=>wpAny (model prog w) A (letTemporaryGo value o r >>= λ_=>pure r) Q E s₃) E s₂:=by rw[hs o i];exact wpAny_operating (wpAny_mono h₂ (λr s₃ h₃=>zZ (wpAny_letTemporaryGo (zY h₃))) λ_ _ x=>x)
 first
   | exact zY (zZ fin)
   | exact zZ (zY (zZ fin))
   | exact zZ fin
theorem SW {X:Cx}{pins:List (Addr×Obj)}{σ:St}{H:Hp}{s:Shared}{a:Addr}{y:V}{o:Option V}(I:Inv X pins σ H s) (g:VR H a y o):s.TypeIs (.ref a) "dict" := by
 rcases g with ⟨kvs,k,e,_,_⟩ | ⟨kvs,k,b,e,_,_,_⟩
 . obtain⟨_,_,vs,_,dd⟩:=IU I.hok e;exact dd.typeIs
 . obtain⟨_,_,xs,_,dd⟩:=PB I.hok e;exact dd.typeIs
def XG (td ty:TE):TE:=λσ H Q=>td σ H λx H1=>ty σ H1 λy H2=>∃a v,x = .ref a/\VR H2 a y (some v)/\Q v H2
def oQ (ty td:TE):TE:=λσ H Q=>ty σ H λy H1=>td σ H1 λx H2=>∃a o,x = .ref a/\VR H2 a y o/\Q (.bl o.isSome) H2
def XH (ty td:TE):TE:=λσ H Q=>ty σ H λy H1=>td σ H1 λx H2=>∃a o,x = .ref a/\VR H2 a y o/\Q (.bl (!o.isSome)) H2
def mP (td ty tv:TE):TS:=λD σ H=>tv σ H λv H1=>td σ H1 λx H2=>ty σ H2 λy H3=>∃a H4,x = .ref a/\rW H3 a y v H4/\D.nx σ H4
def mQ (td ty:TE):TS:=λD σ H=>td σ H λx H1=>ty σ H1 λy H2=>∃a kvs k,x = .ref a/\H2 a=some (.dK kvs)/\y=kV k/\(EV kvs k).isSome=true/\D.nx σ (upd H2 a (.dK (IR kvs k)))
section
variable {X:Cx}{o i e value:Expr}{pos pos' kc:Pos}{td ty tv:TE}
theorem DC (hu:X.A.units+1 < cLine) (ho:PE X o td) (hi:PE X i ty) (hs:rY i):PE X (.Subscript o i pos) (XG td ty):=by intro pins s σ H Q I h;refine iY PySem.F.slot_dict_getitem.lookup hs (thn (ho pins s σ H _ I h) λu s1 ⟨x,H1,I1,rx,q1⟩=>thn (hi pins s1 σ H1 _ I1 q1) λiv s2 ⟨y,H2,I2,ry,a,v,ex,g,q2⟩=>?_);subst ex;obtain rfl:u=a0X a:=rx;exact⟨SW I2 g,Z9 hu I2 g ry λw' s3 I3 j_=>⟨v,H2,I3,j_,q2⟩⟩
theorem VS (hu:X.A.units+1 < cLine) (hi:PE X i ty) (ho:PE X o td):PC X .In i o (oQ ty td):=by intro pins s σ H Q I h;refine thn (hi pins s σ H _ I h) λiv s1 ⟨y,H1,I1,ry,q1⟩=>thn (ho pins s1 σ H1 _ I1 q1) λu s2 ⟨x,H2,I2,rx,a,ov,ex,g,q2⟩=>?_;subst ex;obtain rfl:u=a0X a:=rx;exact tZ hu I2 g ry λs3 I3=>⟨.bl ov.isSome,H2,I3,rfl,q2⟩
theorem ZC (hu:X.A.units+1 < cLine) (hi:PE X i ty) (ho:PE X o td):PC X .NotIn i o (XH ty td):=by intro pins s σ H Q I h;refine thn (hi pins s σ H _ I h) λiv s1 ⟨y,H1,I1,ry,q1⟩=>thn (ho pins s1 σ H1 _ I1 q1) λu s2 ⟨x,H2,I2,rx,a,ov,ex,g,q2⟩=>?_;subst ex;obtain rfl:u=a0X a:=rx;exact iX hu I2 g ry λs3 I3=>⟨.bl (!ov.isSome),H2,I3,rfl,q2⟩
theorem LM (hu:X.A.units+1 < cLine) (ho:PE X o td) (hi:PE X i ty) (hv:PE X value tv) (hs:swapsWith value (some (.Subscript o i pos')) pos.line X.env=pure false) :
   PS X (.Assign [.Subscript o i pos'] value pos) (mP td ty tv):=by intro pins s σ H D I h;refine wpAny_Assign_Subscript (thn (hv pins s σ H _ I h) λr s1 ⟨v,H1,I1,rv,q1⟩=>thn (ho pins s1 σ H1 _ I1 q1) λu s2 ⟨x,H2,I2,rx,q2⟩=>thn (hi pins s2 σ H2 _ I2 q2) λiv s3 ⟨y,H3,I3,ry,a,H4,ex,g,q3⟩=>?_) hs;subst ex;obtain rfl:u=a0X a:=rx;exact ZA hu I3 g ry rv λs4 I4=>⟨σ,H4,I4,q3⟩
theorem iZ (ho:PE X o td) (hi:PE X i ty):PS X (.Delete [.Subscript o i kc] pos) (mQ td ty):=by intro pins s σ H D I h;refine wpAny_Delete (wpAny_deleteEach_cons (wpAny_delete_Subscript (thn (ho pins s σ H _ I h) λu s1 ⟨x,H1,I1,rx,q1⟩=>thn (hi pins s1 σ H1 _ I1 q1) λiv s2 ⟨y,H2,I2,ry,a,kvs,k,ex,e,ey,l,q2⟩=>?_)));subst ex ey;obtain rfl:u=a0X a:=rx;exact ZB I2 e ry l λs3 I3=>wpAny_deleteEach_nil ⟨σ,_,I3,q2⟩
end
theorem SX {P:Program}{w:World}{H:Hp}(h:Heap) (hb:sysModules < h.objs.size):ObjOk P w H (h.push { cls:=.type "dict", data:=.dict #[] }) h.objs.size (.dK []):=⟨xU _,beq_eq_false_iff_ne.mpr (a5V (zC hb)),[],.nil,Heap.DictOf.new h⟩
def cA:TE:=λ_ H Q=>∀p,H p=none->Q (.ref p) (upd H p (.dK []))
section
variable {X:Cx}{pos:Pos}
theorem cB:PE X (.Dict [] [] pos) cA:=λpins s σ H Q I h=>
 wpAny_Dict_empty ⟨.ref s.heap.objs.size,_,I.laid (a:=s.heap.objs.size) (o:=.dK []) (t':=s.toks) (λ_ _ q=>zW _ q) (zR _) (SX s.heap I.big),rfl,h _ (I.hok.fresh (zR _))⟩
end
structure M1 (X:Cx) (o:Expr) (m:Str) (apos:Pos) (e:Expr) (ah:Pos):Prop where
 base:attributeBase o m X.env (eval o X.env)=eval o X.env
 few:((backTo ah (starEach [e] X.env)).all (λx=>!x.1)&&(backToKw ah (keywordEach [] X.env)).all (λx=>x.1.isSome)
   && decide (([e]:List Expr).length+([]:List Keyword).length+(if ([]:List Keyword).isEmpty then 0 else 1) < 30))=true
 line:(apos.endLine==ah.line)=true
 trees:backTo ah (starEach [e] X.env)=[(false,eval e X.env)]
def IsD (H:Hp) (a:Addr):Prop:=(∃kvs,Rd H a (.dK kvs))\/∃kvs,Rd H a (.dT kvs)
theorem oR {X:Cx}{pins:List (Addr×Obj)}{σ:St}{H:Hp}{s:Shared}{a:Addr}(I:Inv X pins σ H s) (d:IsD H a) :
   s.TypeIs (.ref a) "dict" /\ (∀b,a0X a = .ref b->∃ob,s.heap.get? b=some ob/\ob.dict=none)/\(a==sysModules)=false:=by
 rcases d with ⟨kvs,e⟩ | ⟨kvs,e⟩
 . obtain⟨_,hd,vs,_,dd⟩:=IU I.hok e;refine⟨dd.typeIs,λb q=>?_,hd⟩;cases q;obtain⟨ob,_,_,h1,h2,_⟩:=dd;exact⟨ob,h1,h2.2.1⟩
 . obtain⟨_,hd,xs,_,dd⟩:=PB I.hok e;refine⟨dd.typeIs,λb q=>?_,hd⟩;cases q;obtain⟨ob,_,_,h1,h2,_⟩:=dd;exact⟨ob,h1,h2.2.1⟩
def cC (td ty:TE):TE:=λσ H Q=>td σ H λx H1=>∃a,x = .ref a/\IsD H1 a/\ty σ H1 λy H2=>∃kvs k v,H2 a=some (.dK kvs)/\y=kV k/\EV kvs k=some v/\Q v (upd H2 a (.dK (IR kvs k)))
section
variable {X:Cx}{o e f:Expr}{apos ah:Pos}{td ty tx:TE}
theorem SY (ho:PE X o td) (he:PE X e ty) (m:M1 X o "pop" apos e ah):PE X (.Call (.Attribute o "pop" apos) [e] [] ah) (cC td ty):=by intro pins s σ H Q I h;refine wpAny_Call_method m.base m.few m.line PySem.F.plainAttrs_dict PySem.F.slot_dict_pop PySem.F.type_dict_pop (thn (ho pins s σ H _ I h) λu s1 ⟨x,H1,I1,rx,a,ex,d,q1⟩=>?_);subst ex;obtain rfl:u=a0X a:=rx;obtain⟨t1,t2,_⟩:=oR I1 d;refine⟨t1,t2,?_⟩;rw[m.trees];refine b7K rfl (Calls.evalArgs_plain (xQ (thn (he pins s1 σ H1 _ I1 q1) λiv s2 ⟨y,H2,I2,ry,kvs,k,v,ea,ey,l,q2⟩=>Calls.spliced_nil ?_)));subst ey;exact rX I2 ea ry l (.inl rfl) λw' s3 I3 j_=>⟨v,_,I3,j_,q2⟩
end
end L2
namespace Att
open PySem PySem.W PySem.Calls PyProof.Rows
theorem LC {P:Params}{h:Heap}:∀(ns:List Int) (vs:List Value),WellAll P h vs (ns.map WData.int)->IntsAre vs ns:=by
 intro ns;induction ns with
 | nil=> intro vs w;rw[List.map_nil] at w;cases w;exact .nil
 | cons n ns ih=>
   intro vs w;rw[zI] at w;cases w with
   | cons a b=> cases a;exact .cons _ _ (ih _ b)
theorem script_of {l:OpenLaw}{n:Nat}(hn:l.most=some n) {P:Params}{h:Heap}{args:List WData}{vals:List Value} (v7:l.row.toRowW.claim.pre args=true) (wN:WellAll P h vals args) : ∃a vs ns,vals=[a0X a]/\args=[WData.list (ns.map WData.int)]/\h.get? a=some { cls:=.type "list", data:=.seq vs.toArray }/\IntsAre vs ns/\ns.length<=n:=by
 have yq:WShape.hasAll [] args [.list .int]=true:=(pre_splitW v7).1;have hc:l.pre.holds [] { args:=args }=true:=(pre_splitW v7).2;obtain⟨d,r,rfl,h1,h2⟩:=hasAllW_cons yq;obtain rfl:=hasAllW_nil h2;obtain⟨xs,rfl,h3⟩:=hasW_list h1;obtain⟨ns,rfl⟩:=items_int h3;have af:ns.length<=n:=by
   unfold OpenLaw.pre at hc;have h4:(WTm.not (.lt (.lit (.int (n:Int))) (.len (.arg 0)))).holds [] { args:=[.list (ns.map .int)] }=true:=by have h4:=(holds_andW hc).1;rw[hn] at h4;exact h4
   have h5:=condW_of h4 (w_not (w_lt w_lit (w_len_list (w_arg rfl))));rw[zX] at h5;refine Nat.le_of_not_lt λq=>?_;have q':(n:Int) < ((ns.length:Nat):Int):=by lia
   first
     | (rw[decide_eq_true q'] at h5;exact absurd h5 (by decide))
     | (simp at h5;lia)
 cases wN with
 | cons w1 w2=>
   cases w2;cases w1 with
   | list ho hall=>exact⟨_,_,ns,rfl,rfl,ho,LC ns _ hall,af⟩
theorem post_true (l:OpenLaw) (args:List WData):l.row.toRowW.claim.post args (.bool true) args=true:=
 postW_of (r:=l.row.toRowW) (X:=(true==true)) (show WShape.has [] (.bool true) .bool=true by first | rfl | decide | simp[WShape.has,WShape.arms,WShape.armsAll])
   (show(WTm.eq .res (.lit (.bool true))).value [] { args:=args,res:=some (.bool true),after:=args }=some (.bool (true==true)) from w_eq_bool (w_res rfl) w_lit) rfl
end Att
namespace L2
open PySem PySem.Spec PyProof.Rows
theorem PD:∀{vs:List Value}{ns:List Int},IntsAre vs ns->Vals (ns.map V.int) vs
 | _,_,.nil=>.nil
 | _,_,.cons n t h=>.cons ⟨t,rfl⟩ (PD h)
def oS (H:Hp):Prop:=∀b,H b=none\/∃o xs,H b=some (.frz o (.lst xs))
theorem cF {P:Program}{w:World}{K:Frg}{mg mb:Str->Option Value}{CX:CXT}{k:Nat}{fa a:Addr}{fd:FuncData}{x:Str}{sp:Sp}{s₁:Shared}{vs:List Value}{ns:List Int} (KX:K.In s₁.heap) (wO:s₁.heap.Ns mainGlobals mg) (hb:s₁.heap.Ns builtinsNs mb) (Gj:∀x:Str,x ≠ "__name__" -> mb x=bootBuiltins x) (zo:s₁.heap.NoLimit) (hg:s₁.gens=#[]) (ha:s₁.heap.get? a=some { cls:=.type "list", data:=.seq vs.toArray }) (hi:IntsAre vs ns) (hl:ns.length<=sizeLine) (hr:Room k callerA) (F:∀base:Heap,K.In base->base.Ns mainGlobals mg->FnOk P w K mg base CX k fa fd [x] sp) (wR:∀(s:Shared) (u:Value),BindsTo s fd ⟨[u],[]⟩ [(x,u)]) (kb:∀H:Hp,oS H->SqL K H a (ns.map V.int)->sp [.ref a] H (λv _=>v = .bl true) λ_ _ _=>False) (zp:∀H e s',CX [] H s₁ (λ_ _ _=>False) e s'->False) :
   codeAny (model P w) callerA (.call (.ref fa) ⟨[.ref a],[]⟩) (λr s'=>r = .ok (.ret (.bool true))/\OldK s₁.heap s'.heap/\s'.os=s₁.os/\AllBare s'.gens) s₁:=by
 have rv:=PD hi;have zq:=hi.length;have core:∀H:Hp,oS H->SqL K H a (ns.map V.int)->HOk P w H s₁.heap->(∀b,H b≠none->b=a)->(H a≠none->K.lookup a=none) ->
     codeAny (model P w) callerA (.call (.ref fa) ⟨[.ref a],[]⟩) (λr s'=>r = .ok (.ret (.bool true))/\OldK s₁.heap s'.heap/\s'.os=s₁.os/\AllBare s'.gens) s₁:=by
   intro H hO hS hok hA hK;have pq:∀{b:Addr}{o:Obj},s₁.heap.get? b=some o->H b=none->(QH s₁.heap H).get? b=some o:=λe n=>bH e n;have wK:∀{b:Addr}{o:Obj}{es:Array DictEntry}{ep:Nat},s₁.heap.get? b=some o->o.data = .dict es ep->H b=none:=λ{b o es ep} e d=>by
     cases q:H b with
     | none=>rfl
     | some u=> have e':b=a:=hA b (by rw[q];simp);subst e';rw[ha] at e;cases e;have d':Data.seq vs.toArray _=Data.dict es ep:=d;cases d'
   have yt:∀{b:Addr}{m:Str->Option Value},s₁.heap.Ns b m->(QH s₁.heap H).Ns b m:=λ{b m} ⟨o,es,ep,e,d,r⟩=>⟨o,es,ep,pq e (wK e d),d,r⟩
   have Ca:K.In (QH s₁.heap H):=λb o e=>pq (KX b o e) (by
     cases q:H b with
     | none=>rfl
     | some u=> have e':b=a:=hA b (by rw[q];simp);subst e';rw[hK (by rw[q];simp)] at e;cases e);have hM:Mod K mg (QH s₁.heap H):=⟨Ca,yt wO,⟨mb,yt hb,Gj⟩,let ⟨mc,h1,h2⟩:=zo;⟨mc,yt h1,h2⟩⟩
   have e0:Env0 P w K mg (QH s₁.heap H) callerA [] s₁ H:=⟨rfl,hM,λb o e=>iH e,Nat.le_of_eq (YZ _ _),trivial,λb hb=>absurd (show b∈([]:List Addr) from hb) (by simp),hok,.of_eq hg⟩
   refine xP ((F _ Ca (yt wO)).run callerA [] s₁ H ⟨[.ref a],[]⟩ [.ref a] [.ref a] _ _ hr e0 (wR s₁ (.ref a)) (.cons rfl .nil) (kb H hO hS)) λr s' h=>?_;cases r with
   | error e=>exact(zp H e s' h).elim
   | ok fl=>
     cases fl with
     | next=>exact a6Z h
     | brk=>exact a6Z h
     | cont=>exact a6Z h
     | ret u=>
       obtain⟨v,H',os,bare,un,vV,r',q⟩:=h;have q':v = .bl true:=q;subst q';obtain rfl:u=b6Z true:=r';refine⟨rfl,OldK.of_keep λb o e=>?_,os,bare⟩;cases q:H b with
       | none=>exact un.keep b o e q (by intro z;exact absurd (show b∈([]:List Addr) from z) (by simp)) (by simp)
       | some u=>
         rcases hO b with z | ⟨ob,xs,z⟩
         . rw[q] at z;cases z
         . have z2:=un.frzs b ob _ z;obtain⟨e1,_⟩:=hok b _ z;obtain⟨e2,_⟩:=vV b _ z2;rw[e] at e1;cases e1;exact e2
 cases hk:K.lookup a with
 | some o=> have e:=KX a o hk;rw[ha] at e;cases e;refine core (λ_=>none) (λ_=>.inl rfl) (.inr ⟨_,vs.toArray,_,hk,rfl,rfl,rfl,by rw[zJ,zq];exact hl,by simpa using rv⟩) (λb u z=>by have z':(none:Option HO)=some u:=z;cases z') (λb z=>absurd rfl z) λz=>absurd rfl z
 | none=>
   refine core (λb=>if b=a then some (.frz { cls:=.type "list", data:=.seq vs.toArray } (.lst (ns.map V.int))) else none) (λb=>?_) (.inl (.inr ⟨{ cls:=.type "list", data:=.seq vs.toArray },if_pos rfl⟩)) (λb u z=>?_) (λb z=>?_) λ_=>hk
   . by_cases hb:b=a;. exact .inr ⟨_,_,if_pos hb⟩
     . exact .inl (if_neg hb)
   . by_cases hb:b=a;. have z':=(if_pos hb).symm.trans z;cases z';subst hb;exact⟨ha,by rw[zX];exact hl,vs,_,rv,ha⟩
     . have z':=(if_neg hb).symm.trans z;cases z'
   . by_cases hb:b=a;. exact hb
     . exact absurd (if_neg hb) z
def BY (s:Stmt):Arguments:=match s with
 | .FunctionDef _ a _ _ _ _ _ _ _ _=>a
 | _=>{ posonlyargs:=[],args:=[],vararg:=none,kwonlyargs:=[],kw_defaults:=[],kwarg:=none,defaults:=[] }
def B1 (s:Stmt):List Stmt:=match s with
 | .FunctionDef _ _ b _ _ _ _ _ _ _=>b
 | _=>[]
def AC (s:Stmt):Scope:=match s with
 | .FunctionDef _ _ _ _ _ _ sc _ _ _=>sc
 | _=>{ kind:=.function,names:=[],isGenerator:=false,isCoroutine:=false }
abbrev CX0:CXT:=λ_ _ _ _ _ _=>False
abbrev E0:XK:=λ_ _ _=>False
theorem mR {X:Cx}:QN CX0 X E0:=λ_ _ _ _ _ _ _ h=>h.elim
structure Fun (K:Frg) (x qual:Str) (st:Stmt) (f:Addr) (fd:FuncData):Prop where
 ex:∃(oc:Value) (od:Option Addr) (kV doc pm:Value) (an:Option Addr) (cdv ct:Value) (osl:Array (Option Value)),
   fd=a3V x qual (BY st) (B1 st) (AC st) .none kV doc pm an cdv ct/\K.lookup f=some ⟨oc,od,.func fd,osl⟩/\a8K K cdv qual=true
 kp:a2K K (.ref f)=true
section
variable {P:Program}{w:World}{K:Frg}{mg:Str->Option Value}{base:Heap}
theorem Fun.ok {x qual:Str}{st:Stmt}{f:Addr}{fd:FuncData}{N ps:List Str}{k:Nat}{sp:Sp}(F:Fun K x qual st f fd) (S:FnScope N ps (AC st)) (len:∀vs H Q E,sp vs H Q E->vs.length=ps.length) (bf:∀(cdv:Value) (A:Around) (outer:List Env) (s:Shared) (H:Hp) (vs:List V) (Q:VK) (E:XK),Room k (A.deeper (envOfC qual (AC st) s.heap.objs.size f cdv))->sp vs H Q E ->∃t,PSs (HJ CX0 P w K mg base N qual (AC st) f cdv A outer s H E).nox (B1 st) t/\t { nx:=λ_ H'=>Q .non H',rt:=Q } (CI N vs) H):FnOk P w K mg base CX0 (k+1) f fd ps sp:=by obtain⟨oc,od,kV,doc,pm,an,cdv,ct,osl,rfl,lk,iy⟩:=F.ex;refine mL lk iy S len λA outer s H vs Q E hr kb=>?_;obtain⟨t,h,q⟩:=bf cdv A outer s H vs Q E hr kb;exact⟨t,h.nox,q⟩
theorem Fun.binds {x qual:Str}{st:Stmt}{f:Addr}{fd:FuncData}{ps:List Str}(F:Fun K x qual st f fd) (h:∀(kV doc pm:Value) (an:Option Addr) (cdv ct:Value) (us:List Value),us.length=ps.length->bindArgs (a3V x qual (BY st) (B1 st) (AC st) .none kV doc pm an cdv ct) ⟨us,[]⟩=pure (ps.zip us)):Binds K fd ps []:=by obtain⟨oc,od,kV,doc,pm,an,cdv,ct,osl,rfl,lk,iy⟩:=F.ex;exact .all (h kV doc pm an cdv ct)
theorem VT {x qual:Str}{st:Stmt}{f:Addr}{oc:Value}{od an:Option Addr}{osl:Array (Option Value)}{kV doc pm cdv ct:Value}(l:K.lookup f=some ⟨oc,od,.func (a3V x qual (BY st) (B1 st) (AC st) .none kV doc pm an cdv ct),osl⟩) (c:a8K K cdv qual=true) (k:a2K K (.ref f)=true):Fun K x qual st f (a3V x qual (BY st) (B1 st) (AC st) .none kV doc pm an cdv ct):=⟨⟨oc,od,kV,doc,pm,an,cdv,ct,osl,rfl,l,c⟩,k⟩
end
section
variable {X:Cx}
theorem pv (i:Nat) {x:Str}{pos:Pos}(hN:X.N[i]?=some x:=by rfl) (hv:Vis X.env.scope x:=by first | exact Or.inl rfl | exact Or.inr (Or.inl rfl) | exact Or.inr (Or.inr rfl)) (hd:(x==("__debug__":Str))=false:=by decide)
   (iy:(x==("__classdict__":Str))=false:=by decide):PE X (.Name x pos) (SO i):=bI hN hv hd iy
end
theorem j4 {A B:Prop}(h:B):if false=true then A else B:=by rw[if_neg nft];exact h
theorem j6 {A B:Prop}(h:A):if true=true then A else B:=by rw[if_pos rfl];exact h
theorem oU {c A B:Prop}[Decidable c] (h1:c->A) (h2:¬c->B):if c then A else B:=by
 by_cases h:c;. rw[if_pos h];exact h1 h
 . rw[if_neg h];exact h2 h
end L2
namespace L2
open PySem PySem.Spec PyProof.Rows
def JZ (cells:List (Str×Addr)):List (Str×NameKind)->List (Str×Addr)->List (Str×Addr)
 | [],cs=>cs
 | (n,k)::r,cs=>JZ cells r (if k==.free then (match cells.lookup n with | some c=>(n,c)::cs | none=>cs) else cs)
theorem QV (env:Env):∀(names:List (Str×NameKind)) (cs:List (Str×Addr)),(∀y∈names,y.2 = .free->∃c,env.cells.lookup y.1=some c) ->(forIn (m:=Sem) names cs λx r=>do
     let (name,kind):=x
     if (kind==.free)=true then do let c <- cellOf env name;pure (b1W ((name,c)::r)) else pure (b1W r))=pure (JZ env.cells names cs)
 | [],cs,_=>rfl
 | (n,k)::r,cs,h=>by
   have hr:∀y∈r,y.2 = .free->∃c,env.cells.lookup y.1=some c:=λy hy=>h y (yV _ hy);rw[List.forIn_cons];by_cases hk:(k==a7Q)=true;. obtain⟨c,hc⟩:=h (n,k) a0J (by simpa using hk);have tq:env.cells.lookup n=some c:=hc;simp only[hk,if_true,cellOf,tq,JZ];exact QV env r _ hr
   . simp only[hk,if_false,JZ];exact QV env r _ hr
theorem j7 {scope:Scope}{env:Env}(h:∀y∈scope.names,y.2 = .free->∃c,env.cells.lookup y.1=some c):closureFor scope env=pure (JZ env.cells scope.names []):=by
 have e:=QV env scope.names [] h;have e2:closureFor scope env=((forIn (m:=Sem) scope.names ([]:List (Str×Addr)) λx r=>do
     let (name,kind):=x
     if (kind==.free)=true then do let c <- cellOf env name;pure (b1W ((name,c)::r)) else pure (b1W r)) >>= λr=>pure r):=rfl;rw[e2,e];rfl
theorem SZ {cells:List (Str×Addr)}:∀{names:List (Str×NameKind)}{cs:List (Str×Addr)},(∀p∈cs,cells.lookup p.1=some p.2)->∀p∈JZ cells names cs,cells.lookup p.1=some p.2
 | [],_,h=>h
 | (n,k)::r,cs,h=>by
   refine SZ (names:=r) ?_;split
   . cases e:cells.lookup n with
     | none=>exact h
     | some c=>
       intro p hp;rcases yX.mp hp with rfl | hp;. exact e
       . exact h p hp
   . exact h
theorem PF {cells:List (Str×Addr)}:∀{names:List (Str×NameKind)}{cs:List (Str×Addr)}{p:Str×Addr},p∈cs->p∈JZ cells names cs
 | [],_,_,h=>h
 | (n,k)::r,cs,p,h=>by
   refine PF (names:=r) ?_;split
   . cases e:cells.lookup n with
     | none=>exact h
     | some c=>exact yV _ h
   . exact h
theorem T0 {cells:List (Str×Addr)}{x:Str}{c:Addr}(hc:cells.lookup x=some c):∀{names:List (Str×NameKind)}{cs:List (Str×Addr)},(x,a7Q)∈names->(x,c)∈JZ cells names cs
 | [],_,h=>absurd h (by simp)
 | (n,k)::r,cs,h=>by
   rcases yX.mp h with e | h;. cases e;refine PF (names:=r) ?_;simp[hc]
   . exact T0 hc (names:=r) h
theorem MJ {α:Type}:∀{l:List (Str×α)}{x:Str}{c:α},(x,c)∈l->∃c',l.lookup x=some c'
 | [],_,_,h=>absurd h (by simp)
 | (n,k)::r,x,c,h=>by
   rw[a3Q];cases e:x==n with
   | true=>exact⟨k,rfl⟩
   | false=>
     rcases yX.mp h with e' | h;. cases e';simp at e
     . exact MJ h
theorem BD {cells:List (Str×Addr)}{names:List (Str×NameKind)}{x:Str}{c:Addr}(h:(JZ cells names []).lookup x=some c):cells.lookup x=some c:=
 SZ (names:=names) (cs:=[]) (by simp) (x,c) (a4V h)
structure CSc (X:Cx) (scope:Scope) (NC:List Str) (fr:List (Option Nat)):Prop where
 kind:scope.kind = .function
 nocell:∀y∈scope.names,y.2≠.cell
 names:∀y∈scope.names,y.2 = .local->scope.names.lookup y.1=some .local
 free:∀y∈scope.names,y.2 = .free->X.env.kindOf y.1=some .cell\/X.env.kindOf y.1=some .free
 len:fr.length=NC.length
 slot:∀(i j:Nat) (x:Str),NC[i]?=some x->fr[i]?=some (some j)->X.N[j]?=some x/\scope.names.lookup x=some .free/\Vis X.env.scope x/\X.env.kindOf x≠some .local
def capt (fr:List (Option Nat)) (σ:St):St:=fr.map λo=>o.bind λj=>(σ[j]?).join
def AU (X:Cx) (scope:Scope) (NC:List Str) (C:Addr) (s:Shared) (H:Hp) (ex:List Addr) (pn:List (Addr×Obj)):Cx where
 prog:=X.prog
 w:=X.w
 K:=X.K
 mg:=X.mg
 base:=X.base
 A:=X.A
 N:=NC
 s₀:=s
 H₀:=H
 env:=compEnvC scope (JZ X.env.cells scope.names []) C X.env
 outer:=X.stack
 stack:=X.stack
 ex:=ex
 fn:=λ_=>false
 calm:=X.calm
 pn:=pn
 xe:=λ_ _=>False
theorem HN {scope:Scope}{env:Env}{x:Str}:∀{names:List (Str×NameKind)},((names.map λ(n,k)=>if (k==a7Q&&env.scope.kind==.function&&env.kindOf n==some .cell) then (n,NameKind.cell) else (n,k)).lookup x=some .cell \/(names.map λ(n,k)=>if (k==a7Q&&env.scope.kind==.function&&env.kindOf n==some .cell) then (n,NameKind.cell) else (n,k)).lookup x=some .free) ->(∀y∈names,y.2≠.cell)->(x,a7Q)∈names
 | [],h,_=>by simp at h
 | (n,k)::r,h,hn=>by
   have ih:=@HN scope env x r;have vo:∀y∈r,y.2≠.cell:=λy hy=>hn y (yV _ hy);have hk:=hn (n,k) a0J;simp only[zI] at h;by_cases hc:(k==a7Q&&env.scope.kind==.function&&env.kindOf n==some .cell)=true
   . simp only[hc,if_true,a3Q] at h;cases hx:x==n with
     | true=>
       have e:x=n:=by simpa using hx
       have e2:k = .free:=by simp at hc;exact hc.1.1
       subst e e2;exact a0J
     | false=> simp only[hx] at h;exact yV _ (ih h vo)
   . simp only[hc,a3Q] at h;cases hx:x==n with
     | true=>
       have e:x=n:=by simpa using hx
       subst e;simp[a3Q] at h;rcases h with h | h;. exact absurd h hk
       . subst h;exact a0J
     | false=> simp[a3Q,hx] at h;exact yV _ (ih (by simpa using h) vo)
section
variable {X:Cx}{scope:Scope}{NC:List Str}{fr:List (Option Nat)}{pins:List (Addr×Obj)}{σ:St}{H:Hp}{s:Shared}
theorem CSc.has (S:CSc X scope NC fr) (ok:X.Ok):∀y∈scope.names,y.2 = .free->∃c,X.env.cells.lookup y.1=some c:=λy hy hf=>ok.has y.1 (S.free y hy hf)
theorem CSc.cells (S:CSc X scope NC fr) (ok:X.Ok) {x:Str}(h:(x,a7Q)∈scope.names):∃c,(JZ X.env.cells scope.names []).lookup x=some c/\X.env.cells.lookup x=some c:=by obtain⟨c,hc⟩:=S.has ok _ h rfl;have tq:X.env.cells.lookup x=some c:=hc;obtain⟨c',h'⟩:=MJ (T0 tq h (cs:=[]));have:=BD h';rw[tq] at this;cases this;exact⟨_,h',tq⟩
theorem QW {env:Env}{x:Str}{scope:Scope}(hn:∀y∈scope.names,y.2 = .local->scope.names.lookup y.1=some .local) (h:(x,a7Q)∈scope.names) (hl:scope.names.lookup x≠some .free->False):(relabel scope env).names.lookup x=some .cell\/(relabel scope env).names.lookup x=some .free:=by
 have hf:scope.names.lookup x=some .free:=by
   cases e:scope.names.lookup x with
   | none=>exact(hl (by rw[e];intro z;cases z)).elim
   | some k=>
     cases k <;> first
       | rfl
       | exact(hl (by rw[e];intro z;cases z)).elim
 have go:∀(names:List (Str×NameKind)),names.lookup x=some .free ->((names.map λ(n,k)=>if (k==a7Q&&env.scope.kind==.function&&env.kindOf n==some .cell) then (n,NameKind.cell) else (n,k)).lookup x=some .cell \/(names.map λ(n,k)=>if (k==a7Q&&env.scope.kind==.function&&env.kindOf n==some .cell) then (n,NameKind.cell) else (n,k)).lookup x=some .free):=by
   intro names;induction names with
   | nil=>intro h;simp at h
   | cons y r ih=>
     obtain⟨n,k⟩:=y;intro h;rw[a3Q] at h;simp only[zI];cases hx:x==n with
     | true=>
       simp only[hx] at h;cases h;split;. left;simp[a3Q,hx]
       . right;simp[a3Q,hx]
     | false=>
       simp only[hx] at h;have:=ih h;split;. simpa [a3Q,hx] using this
       . simpa [a3Q,hx] using this
 exact go scope.names hf
end
end L2
namespace L2
open PySem PySem.Spec PyProof.Rows
theorem AS {α:Type}{t:Sem α}{Q:α->Shared->Prop}{M:Model}{A:Around}{E:Value->Shared->Prop}{s:Shared}(h:wpAny M A t Q (λ_ _=>False) s):wpAny M A t Q E s:=
 wpAny_mono h (λ_ _ q=>q) λ_ _ f=>f.elim
def MK (ifs:List Expr) (env:Env):Sem Bool:=forIn ifs true λc r=>if r=true then do let ok <- isTrue c env (eval c env);pure (b1W ok) else pure (b1W r)
def VU (prog:Program) (w:World) (A:Around) (cE target:Expr) (ifs:List Expr) (tl:Env->Addr->(Shared->Prop)->Shared->Prop):Prop:=∀(it D:Addr) (env:Env) (R:Result->Shared->Prop) (I:Nat->Shared->Prop),(∀n s,I n s->wpAny (model prog w) A (pyNext (.ref it)) (λr s₁=>match r with
     | none=>R (.ok .next) s₁
     | some v=>wpAny (model prog w) A (letOwnedTupleGo target (.ref it) v) (λ_ s₀=>wpAny (model prog w) A (assign target env v) (λ_ s₂=>
         wpAny (model prog w) A (MK ifs env) (λok s₃=>if ok=true then tl env D (λs'=>∃m,m < n/\I m s') s₃ else ∃m,m < n/\I m s₃) (λ_ _=>False) s₂) (λ_ _=>False) s₀) (λ_ _=>False) s₁) (λ_ _=>False) s) ->
   ∀n s,I n s->codeAny (model prog w) A (.compLoop cE 0 (.ref it) (.ref D) env) R s
def tlL (prog:Program) (w:World) (A:Around) (elt:Expr):Env->Addr->(Shared->Prop)->Shared->Prop:=λenv D P s=>wpAny (model prog w) A (eval elt env) (λx s₄=>wpAny (model prog w) A (call (.builtin "list.append") [.ref D,x]) (λ_ s₅=>P s₅) (λ_ _=>False) s₄) (λ_ _=>False) s
theorem j8 {prog:Program}{w:World}{A:Around}{elt target iter:Expr}{ifs:List Expr}{scope:Scope}{pos:Pos}:VU prog w A (.ListComp elt [⟨target,iter,ifs,0⟩] scope pos) target ifs (tlL prog w A elt):=by
 intro it D env R I turn n s h;refine codeAny_loop rfl I (λn s hI=>?_) n h;show wpAny _ A ((compTurn (.ListComp elt [⟨target,iter,ifs,0⟩] scope pos) 0 (.ref it) (.ref D) env).onRaise (λx=>do noteFrame x env;theTreesLotGoes x)) _ _ s;refine wpAny_noted ?_;rw[compTurn_list];refine zZ (wpAny_standAt (zZ (wpAny_mono (AS (turn n s hI)) (λr s₁ h₁=>?_) λ_ _ h'=>h')));cases r with
 | none=>exact zY h₁
 | some v=>
   refine zZ (wpAny_mono (AS h₁) (λ_ s₀ h₀=>?_) λ_ _ h'=>h');refine zZ (wpAny_mono (AS h₀) (λ_ s₂ h₂=>zZ (wpAny_mono (AS h₂) (λok s₃ h₃=>?_) λ_ _ h'=>h')) λ_ _ h'=>h');cases ok with
   | false=>exact zY ⟨rfl,h₃⟩
   | true=> exact zZ (zZ (wpAny_mono (AS h₃) (λx s₄ h₄=>zZ (wpAny_mono (AS h₄) (λ_ s₅ h₅=>zY (zY ⟨rfl,h₅⟩)) λ_ _ h'=>h')) λ_ _ h'=>h'))
def PTs (X:Cx) (ifs:List Expr) (t:TT):Prop:=∀(pins:List (Addr×Obj)) (s:Shared) (σ:St) (H:Hp) (Q:Bool->Hp->Prop),Inv X pins σ H s->t σ H Q->wpAny (model X.prog X.w) X.A (MK ifs X.env) (TP X pins σ Q) X.xe s
def rZ:TT:=λ_ H Q=>Q true H
theorem j9 {X:Cx}:PTs X [] rZ:=λ_ _ _ H _ I h=>wpAny_tests_nil ⟨H,I,h⟩
theorem jA {X:Cx}{c:Expr}{t:TT}(h:PT X c t):PTs X [c] t:=λpins s σ H Q I q=>wpAny_tests_one (h pins s σ H Q I q)
def PH (fr:List (Option Nat)) (wi:TI) (g:TG) (tt:TT) (te:TE):TE:=λσ H Q=>wi σ H λJ H1=>∀D,H1 D=none->∃W:Nat->Nat->List V->Hp->Prop,(∃m,W 0 m [] (upd H1 D (.lst []))) /\∀i m ys H2,W i m ys H2->H2 D=some (.lst ys)/\((J.stop i H2/\Q (.ref D) H2)\/(J.go i H2/\∀x H3,J.yld i H2 x H3->g x (capt fr σ) H3 λσ2 H4=>
   (∀(i:Nat) v,(capt fr σ)[i]?=some (some v)->σ2[i]?=some (some v))/\tt σ2 H4 λc H5=>if c=true then te σ2 H5 λy H6=>∃ci,H6 D=some (.lst ci)/\ci.length < sizeLine/\∃m',m' < m/\W (i+1) m' (ci++[y]) (upd H6 D (.lst (ci++[y])))
     else ∃ci m',m' < m/\W (i+1) m' ci H5))
section
variable {X:Cx}{scope:Scope}{NC:List Str}{fr:List (Option Nat)}{pins:List (Addr×Obj)}{σ:St}{H:Hp}{s:Shared}
theorem VV {fp:List Addr}{h1:Heap}{m:Str->Option Value}{tk:Nat}(S:CSc X scope NC fr) (I:Inv X pins σ H s) (yu:∀b∈fp,JW X pins H b) (dj:∀b∈fp,b < s.heap.objs.size) (wO:h1.Ns s.heap.objs.size m) (hk:∀b o,s.heap.get? b=some o->h1.get? b=some o) :
   Inv (AU X scope NC s.heap.objs.size s H fp (X.pn++pins)) [] (capt fr σ) H { s with heap:=h1,toks:=tk }:=by
 have I4:Inv X pins σ H { s with heap:=h1,toks:=tk }:=I.kept hk;have wU:∀b,b≠X.env.locals->b∉X.fs->b∉frs X.stack:=λb h1 h2 z=>(yX.mp (I.stkSub b z)).elim h1 h2;refine⟨⟨I.ok.mod,S.kind,I.ok.glob,I.ok.blt,zR _,λx y c h1 h2=>I.ok.inj x y c (BD h1) (BD h2),λx hx=>?_,λx c h=>absurd h (by intro z;cases z),I.ok.hd,I.ok.frames,.inl rfl,λb hb=>?_,I.bs,zN I.ok.bsz I.sz,λb o e hb=>?_,λb hb=>?_,I.stack,I.stkFree⟩,
   rfl,I.bare,Un.kept hk,⟨m,wO,λi x v e1 e2 e3=>?_⟩,λx c e=>I4.cell x c (BD e),I.hok.fresh (zR _),λx c e=>I4.freeC x c (BD e),λp hp=>?_,I4.hok,?_⟩
 . have qf:=HN (scope:=scope) (env:=X.env) (x:=x) (names:=scope.names) hx S.nocell;obtain⟨c,h,_⟩:=S.cells I.ok qf;exact⟨c,h⟩
 . exact⟨zC (dj b hb),λx c e=>(yu b hb).2.2.2.2.1 x c (BD e)⟩
 . rcases (yu b hb).2.2.2.1 with z | z;. exact I.ok.noex b o e z
   . exact absurd (zP (zM e) (zN I.ok.bsz z)) (yF _)
 . exact wU b (yu b hb).2.1 (yu b hb).2.2.1
 . have Gk:∃j,fr[i]?=some (some j)/\σ[j]?=some (some v):=by
     unfold capt at e2;rw[zF] at e2;cases hf:fr[i]? with
     | none=>rw[hf] at e2;cases e2
     | some o=>
       rw[hf] at e2;cases o with
       | none=>cases e2
       | some j=>
         refine⟨j,rfl,?_⟩;have e2:((σ[j]?).join)=some v:=Option.some.inj e2;cases hs:σ[j]? with
         | none=>rw[hs] at e2;cases e2
         | some q=>rw[hs] at e2;cases q with
           | none=>cases e2
           | some v'=>cases e2;rfl
   obtain⟨j,f1,f2⟩:=Gk;obtain⟨g1,g2,g3,g4⟩:=S.slot i j x e1 f1;obtain⟨m',vo,kr⟩:=I4.loc;obtain⟨u,r,l⟩:=kr j x v g1 f2 g3;rcases l with ⟨k,_⟩ | ⟨k,c,hc,pj⟩
   . exact absurd k g4
   . obtain⟨c',q1,q2⟩:=S.cells I.ok (a4V g2);rw[hc] at q2;cases q2;exact⟨u,r,.inr ⟨QW S.names (a4V g2) (λz=>z g2),c,q1,pj⟩⟩
 . have w_:p∈X.pn++pins:=by rw[b0Z] at hp;exact hp
   obtain⟨p1,p2,p3,p4,p5⟩:=I4.pin p w_;exact⟨p1,p2,zC (zM (I.pin p w_).1),wU _ p3 p4,p5⟩
 . unfold capt;rw[zX];exact S.len
def s0 (fr:List (Option Nat)) (wi:TI) (g:TG) (tt:TT) {Y:Type}(y0:Y) (at_:Y->HO) (el:Addr->Nat->(Nat->Y->Hp->Prop)->St->Hp->Prop):TE:=λσ H Q=>wi σ H λJ H1=>∀D,H1 D=none->∃W:Nat->Nat->Y->Hp->Prop,(∃m,W 0 m y0 (upd H1 D (at_ y0))) /\∀i m ys H2,W i m ys H2->H2 D=some (at_ ys)/\((J.stop i H2/\Q (.ref D) H2)\/(J.go i H2/\∀x H3,J.yld i H2 x H3->g x (capt fr σ) H3 λσ2 H4=>
   (∀(i:Nat) v,(capt fr σ)[i]?=some (some v)->σ2[i]?=some (some v))/\tt σ2 H4 λc H5=>if c=true then el D m (W (i+1)) σ2 H5 else ∃ci m',m' < m/\W (i+1) m' ci H5))
def oV (X:Cx) (pins:List (Addr×Obj)) (σ:St) (use:Option (Value->Sem Unit)) (Q:VK) (QQ:Value->Shared->Prop):Prop:=∀(D C:Addr) (H':Hp) (s':Shared) (m:Str->Option Value) (oC:Obj),Inv X (pins++[(C,oC)]) σ H' s'->s'.heap.Ns C m->Q (.ref D) H' ->(∀(uf:List (Addr×Obj)) (σ2:St) (H2:Hp) (s2:Shared) (h2:Heap),Inv X (pins++[(C,oC)]) σ2 H2 s2->Heap.SameBut C s2.heap h2->Inv X pins σ2 H2 { s2 with heap:=h2 }) ->
     s'.heap.get? C=some oC ->
     match use with
     | none=>∀h',Heap.SameBut C s'.heap h'->QQ (.ref D) { s' with heap:=h' }
     | some u=>wpAny (model X.prog X.w) X.A (u (.ref D)) (λ_ vT=>∃m,vT.heap.Ns C m/\∀h',Heap.SameBut C vT.heap h'->QQ .none { vT with heap:=h' }) X.xe s'
theorem PJ {cE iter tg:Expr}{ifs:List Expr}{ah:Pos}{wi:TI}{g:TG}{tt:TT}{Y:Type}{y0:Y}{at_:Y->HO}{Ty:String}{dt:Data}{mk:Sem Value}{tl:Env->Addr->(Shared->Prop)->Shared->Prop}{el:Addr->Nat->(Nat->Y->Hp->Prop)->St->Hp->Prop}{use:Option (Value->Sem Unit)}{Q:VK}{QQ:Value->Shared->Prop} {gs:List Comprehension}(wV:clausesOf cE=⟨tg,iter,ifs,0⟩::gs) (w6:mk=newObj (.type Ty) dt none) (hsz:sizeOk dt) (yw:∀(H:Hp) (h:Heap),sysModules < h.objs.size->ObjOk X.prog X.w H (h.push { cls:=.type Ty,dict:=none,data:=dt }) h.objs.size (at_ y0)) (uj:VU X.prog X.w X.A cE tg ifs tl) (c_:∀{it acc:Value}{env:Env}{R:Result->Shared->Prop}{s:Shared},codeAny (model X.prog X.w) X.A (.compLoop cE 0 it acc env) R s->wpAny (model X.prog X.w) X.A (pyIter it) (λGm s'=>codeAny (model X.prog X.w) X.A (.compLoop cE 0 Gm acc env) R s') (notedBy (model X.prog X.w) X.A env λx s'=>R (.error x) s') s->codeAny (model X.prog X.w) X.A (.compStart cE 0 it acc env) R s) (hc:X.calm=true) (S:CSc X scope NC fr) (hi:PI X tg iter wi) (hb:∀(C:Addr) (s:Shared) (H:Hp) (ex:List Addr) (pn:List (Addr×Obj)),PG (AU X scope NC C s H ex pn) tg g/\PTs (AU X scope NC C s H ex pn) ifs tt/\∀(vW:List (Addr×Obj)) (s':Shared) (σ:St) (H':Hp) (D:Addr) (n:Nat) (W:Nat->Y->Hp->Prop) (P:Shared->Prop),Inv (AU X scope NC C s H ex pn) vW σ H' s'->el D n W σ H'->(∀m y H2 s2,m < n->W m y H2->Inv (AU X scope NC C s H ex pn) vW σ H2 s2->P s2)->tl (AU X scope NC C s H ex pn).env D P s') (I:Inv X pins σ H s) (h:s0 fr wi g tt y0 at_ el σ H Q) (fin:oV X pins σ use Q QQ) (hs:∀x,foldedSetIterable iter X.env x=pure x) :
   wpAny (model X.prog X.w) X.A (comprehension cE scope X.env ah mk false (eval iter X.env) use) QQ X.xe s:=by
 refine wpAny_comprehension_free (use:=use) wV hs (j7 (S.has I.ok)) S.kind S.names (thn (hi pins s σ H _ I h) λv s1 h1=>thn h1 λzj s2 h2=>?_);obtain⟨it,fp,tn,J,H2,e,I2,T,ik,f2,hq⟩:=h2;subst e;have Gn:H2 s2.heap.objs.size=none:=I2.hok.fresh (zR _);obtain⟨W,⟨m0,w0⟩,turn⟩:=hq s2.heap.objs.size Gn;rw[w6];refine xN (hd:=hsz) (wpAny_newFunctionEnv S.nocell (by intro y hy;simp at hy) (λh₁ v8 v9=>?_) S.kind);dsimp only at v8 v9 ⊢;generalize hs3:({ s2 with heap:=s2.heap.push { cls:=.type Ty,dict:=none,data:=dt } }:Shared)=s3;have yx:s2.heap.push { cls:=.type Ty,dict:=none,data:=dt }=s3.heap:=by rw[<-hs3]
 have I3:Inv X pins σ (upd H2 s2.heap.objs.size (at_ y0)) s3:=by rw[<-hs3];refine I2.laid (t':=s2.toks) (λb u e=>zW _ e) (zR _) ?_;exact yw _ _ I2.big
 rw[yx] at v8 v9 ⊢;have Gp:s3.heap.objs.size=s2.heap.objs.size+1:=by rw[<-yx,a7V]
 have Cb:∀b∈fp,b < s2.heap.objs.size:=λb hb=>by obtain⟨o,e,_⟩:=T.obj _ _ ik b hb;exact zM e
 have Cc:∀b∈fp,b < s3.heap.objs.size:=λb hb=>by rw[Gp];exact b7X (Cb b hb)
 have f3:∀b∈fp,JW X pins (upd H2 s2.heap.objs.size (at_ y0)) b:=λb hb=>⟨by rw[AG (zC (Cb b hb))];exact(f2 b hb).1,(f2 b hb).2⟩
 have uk:∀b o,s3.heap.get? b=some o->h₁.get? b=some o:=λb o e=>v9.extBut b o (zC (zM e)) (zW _ e);generalize hC:s3.heap.objs.size=C at v8 v9 ⊢;have I0:Inv (AU X scope NC C s3 (upd H2 s2.heap.objs.size (at_ y0)) fp (X.pn++pins)) [] (capt fr σ) (upd H2 s2.heap.objs.size (at_ y0)) { s2 with heap:=h₁,toks:=s2.toks+([]:List (Str×Value)).length }:=by have:=VV (tk:=s2.toks+([]:List (Str×Value)).length) (h1:=h₁) S I3 f3 Cc (hC▸v8) uk;rw[hC] at this;rw[<-hs3] at this;rw[<-hs3];exact this
 obtain⟨Cd,yy,Ce⟩:=hb C s3 (upd H2 s2.heap.objs.size (at_ y0)) fp (X.pn++pins);generalize hX':AU X scope NC C s3 (upd H2 s2.heap.objs.size (at_ y0)) fp (X.pn++pins)=X' at I0 Cd yy Ce;have eP:X'.prog=X.prog:=by rw[<-hX'];rfl
 have eW:X'.w=X.w:=by rw[<-hX'];rfl
 have eK:X'.K=X.K:=by rw[<-hX'];rfl
 have eA:X'.A=X.A:=by rw[<-hX'];rfl
 have eE:X'.env=compEnvC scope (JZ X.env.cells scope.names []) C X.env:=by rw[<-hX'];rfl
 have eX:X'.xe=λ_ _=>False:=by rw[<-hX'];rfl
 have ec:X'.calm=true:=by rw[<-hX'];exact hc
 have stat:∀{H':Hp},(∀b∈fp,H' b=none)->∀b∈fp,JW X' [] H' b:=λ{H'} hn b hb=>by obtain⟨q1,q2,q3,q4,q5,q6⟩:=f3 b hb;rw[<-hX'];exact⟨hn b hb,by show b≠C;rw[<-hC];exact zC (Cc b hb),λz=>(yX.mp (I3.stkSub b z)).elim q2 q3,.inl hb,λx c e=>q5 x c (BD e),λp hp=>q6 p (by rw[b0Z] at hp;exact hp)⟩
 have ends:∀(i m:Nat) (ys:Y) (H':Hp) (s':Shared),Inv X' [] (capt fr σ) H' s'->Q (.ref s2.heap.objs.size) H' ->
     compPost (model X.prog X.w) X.A X.xe use QQ (.ref s2.heap.objs.size) C (.ok .next) s':=by
   intro i m ys H' s' I' q';have eC:X'.env.locals=C:=by rw[eE];rfl
   obtain⟨mC,yz,_⟩:=I'.loc;rw[eC] at yz;have Gq:H' C=none:=by have:=I'.free;rw[eC] at this;exact this
   have un:Un (frs X.stack) fp (upd H2 s2.heap.objs.size (at_ y0)) H' s3.heap s'.heap:=by have:=I'.base;rw[<-hX'] at this;exact this
   have yo:s'.os=s3.os:=by have:=I'.os;rw[<-hX'] at this;exact this
   have vV:HOk X.prog X.w H' s'.heap:=by have:=I'.hok;rw[eP,eW] at this;exact this
   have wW:Inv X pins σ H' s':=I3.call' (ch:=fp) yo un vV I'.bare λb hb=>⟨(f3 b hb).2.2.2.1,(f3 b hb).2.1,(f3 b hb).2.2.2.2.1,(f3 b hb).2.2.2.2.2⟩
   have C1:C≠X.env.locals:=by rw[<-hC];exact a4J I3.lt
   have C2:C∉X.fs:=by rw[<-hC];exact I3.nofs (zR _)
   have C3:X.s₀.heap.objs.size<=C:=by rw[<-hC];exact I3.sz
   have C4:∀x c,X.env.cells.lookup x=some c->c≠C:=λx c e z=>by obtain⟨v,q⟩:=I3.cell x c e;rw[z,<-hC] at q;exact absurd q.lt (yF _)
   have C5:∀p∈X.pn++pins,p.1≠C:=λp hp z=>by have:=zM (I3.pin p hp).1;rw[z,<-hC] at this;exact absurd this (yF _)
   obtain⟨oC,Kj,Kk,y_,Gr,Kl⟩:=id yz;have zr:Inv X (pins++[(C,oC)]) σ H' s':=wW.pins_of λp hp=>(yW.mp hp).elim (λz=>wW.pin p (zB _ z)) λz=>by
     have e:p=(C,oC):=by simpa using z
     subst e;exact⟨y_,Gq,C1,C2,λv z=>by rw[Gr] at z;cases z⟩
   have res:=fin s2.heap.objs.size C H' s' mC oC zr yz q' (λ_ σ2 H3 s4 h4 I4 sb=>by have J4:Inv X pins σ2 H3 s4:=I4.unpinned;have Gs:H3 C=none:=(I4.pin (C,oC) (zB _ (zB _ (by simp)))).2.1;exact J4.turned (t':=s4.toks) (it:=C) (λb o hb e=>sb.extBut b o hb e) Gs C1 (.inr C3) C4 C5) y_;cases use with
   | none=>exact⟨mC,yz,res⟩
   | some u=>exact res
 have loop:∀s':Shared,s'={ s2 with heap:=h₁,toks:=s2.toks+([]:List (Str×Value)).length } ->
     codeAny (model X.prog X.w) X.A (.compLoop cE 0 (.ref it) (.ref s2.heap.objs.size) (compEnvC scope (JZ X.env.cells scope.names []) C X.env)) (compPost (model X.prog X.w) X.A X.xe use QQ (.ref s2.heap.objs.size) C) s':=by
   rintro s' rfl;refine uj _ _ _ _ (λn s'=>∃i ys H',Inv X' [] (capt fr σ) H' s'/\tn i s'.heap/\(∀b∈fp,H' b=none)/\W i n ys H') ?_ m0 _ ⟨0,y0,_,I0,T.keep _ _ _ ik (λb hb o e=>uk b o (by rw[<-yx];exact zW _ e)),λb hb=>(f3 b hb).1,w0⟩;rintro n s5 ⟨i,ys,H5,I5,qg,yn,w5⟩;obtain⟨hD5,wX⟩:=turn i n ys H5 w5;rcases wX with ⟨stop,qn⟩ | ⟨go,step⟩
   . have:=T.done X' eP eW eK ec i [] s5 (capt fr σ) H5 (λ_ _=>False) I5 (stat yn) qg stop;rw[eA] at this;refine thn this λr s6 ⟨hr,I6⟩=>?_;subst hr;exact ends i n ys H5 s6 I6 qn
   . have:=T.item X' eP eW eK ec i [] s5 (capt fr σ) H5 (λ_ _=>False) I5 (stat yn) qg go;rw[eA] at this;refine thn this λr s6 ⟨u,hr,h6⟩=>?_;subst hr;refine thn h6 λ_ s7 ⟨x,H7,I7,r7,y7,wY,Gu⟩=>?_;have Gv:=I7.pinned (stat Gu) (T.obj _ _ wY);have Cf:=Cd _ s7 (capt fr σ) H7 x u _ Gv r7 (step x H7 y7);rw[eP,eW,eA,eE,eX] at Cf;refine thn Cf λ_ s8 ⟨σ8,H8,I8,zt,q8⟩=>?_;have Cg:=yy _ s8 σ8 H8 _ I8 q8;rw[eP,eW,eA,eE,eX] at Cg;refine thn Cg λok s9 ⟨H9,I9,q9⟩=>?_;have weak:∀{H':Hp}{s':Shared},Inv X' ([]++MB fp s7.heap) σ8 H' s'->Inv X' [] (capt fr σ) H' s'/\tn (i+1) s'.heap/\∀b∈fp,H' b=none:=λ{H' s'} I'=>by refine⟨I'.unpinned.weak (by rw[I'.len];rw[I0.len]) zt,T.keep _ _ _ wY λb hb o e=>(I'.pin (b,o) (zB _ (zB _ (FN hb e)))).1,λb hb=>?_⟩;obtain⟨o,e,d⟩:=T.obj _ _ wY b hb;exact(I'.pin (b,o) (zB _ (zB _ (FN hb e)))).2.1
     cases ok with
     | false=> rw[if_neg nft] at q9;obtain⟨ci,m',wZ,w'⟩:=q9;obtain⟨a1,a2,a3⟩:=weak I9;exact⟨m',wZ,i+1,ci,H9,a1,a2,a3,w'⟩
     | true=>
       rw[if_pos rfl] at q9;have Ci:=Ce _ s9 σ8 H9 _ n (W (i+1)) (λs'=>∃zu,zu < n/\∃i ys H',Inv X' [] (capt fr σ) H' s'/\tn i s'.heap/\(∀b∈fp,H' b=none)/\W i zu ys H') I9 q9 λm y H2 s2 hm w' I'=>by obtain⟨a1,a2,a3⟩:=weak I';exact⟨m,hm,i+1,y,H2,a1,a2,a3,w'⟩
       rw[eE] at Ci;exact Ci
 refine c_ (loop _ rfl) (T.self _ 0 _ _ _ ?_ (loop _ rfl));exact T.keep _ _ _ ik (λb hb o e=>uk b o (by rw[<-yx];exact zW _ e))
theorem T1 {elt iter tg:Expr}{ifs:List Expr}{pos ah:Pos}{wi:TI}{g:TG}{tt:TT}{te:TE}{use:Option (Value->Sem Unit)}{Q:VK}{QQ:Value->Shared->Prop}(hc:X.calm=true) (S:CSc X scope NC fr) (hi:PI X tg iter wi) (hb:∀(C:Addr) (s:Shared) (H:Hp) (ex:List Addr) (pn:List (Addr×Obj)),PG (AU X scope NC C s H ex pn) tg g/\PTs (AU X scope NC C s H ex pn) ifs tt/\PE (AU X scope NC C s H ex pn) elt te) (I:Inv X pins σ H s) (h:PH fr wi g tt te σ H Q) (fin:oV X pins σ use Q QQ) (hs:∀x,foldedSetIterable iter X.env x=pure x) :
   wpAny (model X.prog X.w) X.A (comprehension (.ListComp elt [⟨tg,iter,ifs,0⟩] scope pos) scope X.env ah (newList []) false (eval iter X.env) use) QQ X.xe s:=by refine PJ (y0:=[]) (at_:=.lst) (Ty:= "list") (dt:=.seq #[]) (tl:=tlL X.prog X.w X.A elt) (el:=λD m W σ2 H5=>te σ2 H5 λy H6=>∃ci,H6 D=some (.lst ci)/\ci.length < sizeLine/\∃m',m' < m/\W m' (ci++[y]) (upd H6 D (.lst (ci++[y])))) rfl rfl (by size_fits) (λH h _=>⟨xU _,[],0,.nil,yZ _ rfl⟩) j8 codeAny_compStart_list hc S hi (λC s H ex pn=>⟨(hb C s H ex pn).1,(hb C s H ex pn).2.1,λvW s' σ H' D n W P I q k=>?_⟩) I h fin hs;refine thn ((hb C s H ex pn).2.2 _ s' σ H' _ I q) λy zv ⟨yv,zw,zz,z_,ci,hD,hsz,m',wZ,w'⟩=>?_;exact thn (P8 _ zv σ zw (.ref D) [yv] (.ref D) [y] (λ_ H'=>∃m',m' < n/\W m' (ci++[yv]) H') zz rfl (.cons z_ .nil) ⟨_,ci,yv,rfl,rfl,hD,hsz,m',wZ,w'⟩) λ_ y9 ⟨_,Gw,z0,_,zu,z6,Gx⟩=>k _ _ _ _ z6 Gx z0
end
end L2
namespace L2
open PySem PySem.Spec PyProof.Rows
section
variable {X:Cx}{scope:Scope}{NC:List Str}{fr:List (Option Nat)}{elt iter tg:Expr}{ifs:List Expr}{pos:Pos}{wi:TI}{g:TG}{tt:TT}{te:TE}
theorem jB (hc:X.calm=true) (S:CSc X scope NC fr) (hi:PI X tg iter wi) (hb:∀(C:Addr) (s:Shared) (H:Hp) (ex:List Addr) (pn:List (Addr×Obj)),PG (AU X scope NC C s H ex pn) tg g/\PTs (AU X scope NC C s H ex pn) ifs tt/\PE (AU X scope NC C s H ex pn) elt te) (hs:∀x,foldedSetIterable iter X.env x=pure x:=by intro _;rfl):PE X (.ListComp elt [⟨tg,iter,ifs,0⟩] scope pos) (PH fr wi g tt te):=by intro pins s σ H Q I h;rw[eval_ListComp];refine T1 (use:=none) (Q:=Q) hc S hi hb I h (λD C H' s' m oC I' hn q back _ h' sb=>?_) hs;exact⟨.ref D,H',back pins σ H' s' h' I' sb,rfl,q⟩
theorem jC {i:Nat}{x:Str}{py xc:Pos}(hc:X.calm=true) (hN:X.N.Nodup) (Gy:X.N[i]?=some x) (hx:Loc X.env.scope x) (S:CSc X scope NC fr) (hi:PI X tg iter wi) (hb:∀(C:Addr) (s:Shared) (H:Hp) (ex:List Addr) (pn:List (Addr×Obj)),PG (AU X scope NC C s H ex pn) tg g/\PTs (AU X scope NC C s H ex pn) ifs tt/\PE (AU X scope NC C s H ex pn) elt te) (Gz:swapsWith (.ListComp elt [⟨tg,iter,ifs,0⟩] scope pos) (some (.Name x py)) xc.line X.env=pure true) (hf:X.fn x=true\/X.env.scope.names.lookup x=some .local:=by first | exact .inl rfl | exact .inr rfl | assumption)
   (hs:∀x,foldedSetIterable iter X.env x=pure x:=by intro _;rfl) :
   PS X (.Assign [.Name x py] (.ListComp elt [⟨tg,iter,ifs,0⟩] scope pos) xc) (λD σ H=>PH fr wi g tt te σ H λv H'=>D.nx (σ.set i (some v)) H'):=by intro pins s σ H D I h;rw[exec_Assign_Name_used _ _ _ _ Gz];refine zZ (wpAny_standAt (zZ ?_));show wpAny _ X.A (do let _ <- comprehension (.ListComp elt [⟨tg,iter,ifs,0⟩] scope pos) scope X.env _ (newList []) false (eval iter X.env) (some (assign (.Name x py) X.env))) _ _ s;refine zZ (thn (T1 (use:=some (assign (.Name x py) X.env)) (Q:=λv H'=>D.nx (σ.set i (some v)) H') (QQ:=λ_ s'=>∃σ' H',Inv X pins σ' H' s'/\D.nx σ' H') hc S hi hb I h (λA C H' s' m oC I' hn q back y_=>?_) hs) λ_ s' hq=>zY (zY hq));have c_:=X8 (X:=X) (pos:=py) hN Gy hx hf (pins++[(C,oC)]) s' σ H' (.ref A) (.ref A) (λσ' H'=>D.nx σ' H') I' rfl q;refine thn c_ λ_ s2 ⟨σ2,H2,I2,q2⟩=>?_;have G_:s2.heap.get? C=some oC:=(I2.pin (C,oC) (zB _ (zB _ (by simp)))).1;obtain⟨o',es,ep,kq,mm,vX⟩:=hn;rw[y_] at kq;cases kq;exact⟨m,⟨_,es,ep,G_,mm,vX⟩,λh' sb=>⟨σ2,H2,back pins σ2 H2 s2 h' I2 sb,q2⟩⟩
end
def Its (x:Str):It:=⟨λi _=>i < x.cps.size,λi H v H'=>H'=H/\∃c,x.cps[i]?=some c/\v = .str ⟨#[c]⟩,λi _=>i=x.cps.size⟩
theorem T2 {P:Program}{w:World}{K:Frg}{tg:Expr}(it:Addr) (ty:String) (x:Str) (t:Tok) (wM:["enumerate", "zip", "dict_itemiterator", "dict_reverseitemiterator", "odict_iterator", "itertools.zip_longest", "itertools.pairwise"].contains ty=false) (W:∀A:Around,A.handled=none->Walks P w A it [it] [it] x.cps.size (SignAt x) (λi h=>h.IsStrIter it ty x t i)) (xf:∀(A:Around) (i:Nat) (s:Shared) (Q:Value->Shared->Prop) (E:Value->Shared->Prop),s.heap.IsStrIter it ty x t i->Q (.ref it) s->wpAny (model P w) A (pyIter (.ref it)) Q E s) :
   Turn P w K tg (Its x) [it] it (λi h=>h.IsStrIter it ty x t i) where
 mem:=by simp
 obj:=λi h st b hb=>by
   have e:b=it:=by simpa using hb
   subst e;obtain⟨o,e,c,d⟩:=st;exact⟨o,e,λv z=>by rw[d] at z;cases z⟩
 keep:=λi h h' st k=>by obtain⟨o,e,r⟩:=st;exact⟨o,k it (by simp) o e,r⟩
 item:=by intro X hP hw hK hc i pins s σ H E I hf st hg;subst hP hw hK;obtain⟨f0,f1,f2,f3,f4,f5⟩:=hf it (by simp);refine(W X.A (I.ok.hd hc)).item i s _ _ hg st λv h' tk hv ka kk=>?_;obtain⟨c,u,z7,rfl⟩:=hv;have I1:Inv X pins σ H { s with heap:=h',toks:=tk }:=I.turned (λb o hb e=>kk b o (by simpa using hb) e) f0 f1 f3 f4 f5;obtain⟨o,e,c',d⟩:=id ka;exact⟨_,rfl,X9 (s:={ s with heap:=h',toks:=tk }) e c' d wM ⟨.str ⟨#[c]⟩,H,I1,⟨u,rfl⟩,⟨rfl,c,z7,rfl⟩,ka,λb hb=>(hf b hb).1⟩⟩
 done:=by intro X hP hw hK hc i pins s σ H E I hf st hg;subst hP hw hK;obtain⟨f0,f1,f2,f3,f4,f5⟩:=hf it (by simp);have hi:i=x.cps.size:=hg;subst hi;refine(W X.A (I.ok.hd hc)).done s _ _ st λh' tk kk=>⟨rfl,I.turned (λb o hb e=>kk b o (by simpa using hb) e) f0 f1 f3 f4 f5⟩
 self:=xf
theorem QX (bs:List Bool):(a1V bs.length).all (λi=>(bs[i]?).getD false)=bs.all id:=by
 rw[a3X,a4Z,a4Z];constructor;. intro h b hb;obtain⟨i,hi,rfl⟩:=List.mem_iff_getElem.mp hb;have:=h i (by simpa using hi);simpa [hi] using this
 . intro h i hi;have hi:i < bs.length:=by simpa using hi
   have:=h bs[i] (a4X hi);simpa [hi] using this
theorem QY (bs:List Bool):(a1V bs.length).any (λi=>(bs[i]?).getD false)=bs.any id:=by
 rw[a3X,List.any_eq_true,List.any_eq_true];constructor
 . rintro⟨i,hi,h⟩;have hi:i < bs.length:=by simpa using hi
   exact⟨bs[i],a4X hi,by simpa [hi] using h⟩
 . rintro⟨b,hb,h⟩;obtain⟨i,hi,rfl⟩:=List.mem_iff_getElem.mp hb;exact⟨i,by simpa using hi,by simpa [hi] using h⟩
section
variable {X:Cx}
theorem XJ {bs:List Bool}{aa:List Value}(r:Vals (bs.map V.bl) aa) {i:Nat}{v:Value}(h:aa.toArray[i]?=some v):v = .bool ((bs[i]?).getD false):=by
 have h':aa[i]?=some v:=by simpa using h
 have hl:i < aa.length:=(yT.mp h').1;have e:=r.length;rw[zX] at e;have hb:(bs.map V.bl)[i]?=some (V.bl bs[i]):=by rw[zF];simp[show i < bs.length by omega]
 obtain⟨u,hu,ru⟩:=r.get hb;rw[h'] at hu;cases hu;simp[show i < bs.length by omega];exact ru
def u0 (X:Cx):List V->Hp->VK->Prop:=λxs H Q=>∃(p:Addr) (bs:List Bool),xs=[.ref p]/\SqL X.K H p (bs.map V.bl)/\Q (.bl (bs.all id)) H
theorem cG (hc:X.calm=true):B9 X (.builtin "all") (u0 X):=by
 intro pins s σ H xs us Q I r h;obtain⟨p,bs,rfl,hp,q⟩:=h;obtain⟨u,rfl,ru⟩:=F3 r;cases ru;obtain⟨aa,rv,pl,hz⟩:=I.list hp;have au:p≠s.heap.objs.size:=by obtain⟨o,n,e,_⟩:=pl;exact zC (zM e)
 have el:=rv.length;rw[zX] at el;refine call_all_walk (wpAny_pyIter_list pl.isList ?_);refine⟨s.heap.objs.size,_,_,_,_,_,λi=>(bs[i]?).getD false,rfl,Walks.list (show X.A.in1.handled=none from I.ok.hd hc) s.heap.objs.size p au aa.toArray,⟨⟨_,yZ _ rfl,rfl,rfl⟩,?_⟩,λi v s' Q' E' hv hq=>?_,λh' tk hk=>?_⟩;. obtain⟨o,n,e,c,d,dd⟩:=pl;exact⟨o,zW _ e,c,n,dd⟩
 . rw[XJ rv hv];exact wpAny_truthy_bool hq
 . refine⟨.bl (bs.all id),H,?_,?_,q⟩;. exact I.kept (t':=tk) λb o e=>hk b o (by simp;exact zC (zM e)) (zW _ e)
   . rw[zJ,<-el,QX];rfl
def u4 (X:Cx):List V->Hp->VK->Prop:=λxs H Q=>∃(p:Addr) (bs:List Bool),xs=[.ref p]/\SqL X.K H p (bs.map V.bl)/\Q (.bl (bs.any id)) H
theorem cH (hc:X.calm=true):B9 X (.builtin "any") (u4 X):=by
 intro pins s σ H xs us Q I r h;obtain⟨p,bs,rfl,hp,q⟩:=h;obtain⟨u,rfl,ru⟩:=F3 r;cases ru;obtain⟨aa,rv,pl,hz⟩:=I.list hp;have au:p≠s.heap.objs.size:=by obtain⟨o,n,e,_⟩:=pl;exact zC (zM e)
 have el:=rv.length;rw[zX] at el;refine call_any_walk (wpAny_pyIter_list pl.isList ?_);refine⟨s.heap.objs.size,_,_,_,_,_,λi=>(bs[i]?).getD false,rfl,Walks.list (show X.A.in1.handled=none from I.ok.hd hc) s.heap.objs.size p au aa.toArray,⟨⟨_,yZ _ rfl,rfl,rfl⟩,?_⟩,λi v s' Q' E' hv hq=>?_,λh' tk hk=>?_⟩;. obtain⟨o,n,e,c,d,dd⟩:=pl;exact⟨o,zW _ e,c,n,dd⟩
 . rw[XJ rv hv];exact wpAny_truthy_bool hq
 . refine⟨.bl (bs.any id),H,?_,?_,q⟩;. exact I.kept (t':=tk) λb o e=>hk b o (by simp;exact zC (zM e)) (zW _ e)
   . rw[zJ,<-el,QY];rfl
def oW:V->Option Int->Option Int->Hp->VK->Prop:=λx lo hi H Q=>∃y,x = .str y/\y.length<=sizeLine/\Q (.str (b0J y lo hi)) H
theorem oX:SlR X oW:=by
 intro pins s σ H x v vl vu lo hi sl Q I rx hs pl pu h;obtain⟨y,rfl,hz,q⟩:=h;obtain⟨t,rfl⟩:=rx;refine⟨"str", _,F.slot_str_getitem.lookup,typeIs_str _ _ _,?_⟩;cases pl with
 | none=>
   cases pu with
   | none=>exact wpAny_getItem_str_slice (l:=none) (u:=none) (st:=none) hs rfl (post_val_or_str ⟨zN (Txt.slice_le y _ _) hz,λt' k=>⟨.str _,H,I.tok _,⟨_,rfl⟩,q⟩⟩)
   | int j tj=>exact wpAny_getItem_str_slice (l:=none) (u:=some (j,tj)) (st:=none) hs rfl (post_val_or_str ⟨zN (Txt.slice_le y _ _) hz,λt' k=>⟨.str _,H,I.tok _,⟨_,rfl⟩,q⟩⟩)
 | int i ti=>
   cases pu with
   | none=>exact wpAny_getItem_str_slice (l:=some (i,ti)) (u:=none) (st:=none) hs rfl (post_val_or_str ⟨zN (Txt.slice_le y _ _) hz,λt' k=>⟨.str _,H,I.tok _,⟨_,rfl⟩,q⟩⟩)
   | int j tj=>exact wpAny_getItem_str_slice (l:=some (i,ti)) (u:=some (j,tj)) (st:=none) hs rfl (post_val_or_str ⟨zN (Txt.slice_le y _ _) hz,λt' k=>⟨.str _,H,I.tok _,⟨_,rfl⟩,q⟩⟩)
theorem QZ:∀{ys:List Str}{aa:List Value},Vals (ys.map V.str) aa->StrsAre aa ys
 | [],_,.nil=>.nil
 | y::r,_,.cons h t=>by obtain⟨tk,rfl⟩:=h;exact .cons y tk (QZ t)
def cI (K:Frg):V->List V->Hp->VK->Prop:=λx xs H Q=>∃(y:Str) (p:Addr) (ys:List Str),x = .str y/\xs=[.ref p]/\SqL K H p (ys.map V.str)/\(ys.map (·.length)).sum+ys.length*y.length<=16777216/\Q (.str (Txt.join y ys)) H
theorem jD:MtR X "str.join" (cI X.K):=by intro pins s σ H x xs v us Q I rx rv h;obtain⟨y,p,ys,rfl,rfl,hp,hz,q⟩:=h;obtain⟨t,rfl⟩:=rx;obtain⟨u,rfl,ru⟩:=F3 rv;cases ru;obtain⟨aa,r,pl,_⟩:=I.list hp;exact join_list pl.isList (by simpa using QZ r) hz λt' k=>⟨.str _,H,I.tok _,⟨_,rfl⟩,q⟩
def mS (K:Frg):R2:=λx y H Q=>∃a b xs ys,x = .ref a/\y = .ref b/\SqL K H a xs/\SqL K H b ys/\xs.length+ys.length<=sizeLine/\∀p,H p=none->Q (.ref p) (upd H p (.lst (xs++ys)))
theorem jE:OpR X (binaryOp .Add) (mS X.K):=by
 intro pins s σ H x y v u Q I rx ry h;obtain⟨l,b,xs,zs,rfl,rfl,hH,hB,hz,q⟩:=h;cases rx;cases ry;obtain⟨aa,r,pl,hl⟩:=I.list hH;obtain⟨il,r2,G',iu⟩:=I.list hB;have e1:=r.length;have e2:=r2.length;obtain⟨⟨cls,dd,data,sl⟩,n,ho,hc,_,hd⟩:=pl;obtain⟨⟨z8,vY,data2,xg⟩,n2,ho2,hc2,_,hd2⟩:=G';dsimp only at hc hd hc2 hd2;subst hc hd hc2 hd2;have ea:aa.toArray++il.toArray=(aa++il).toArray:=by simp
 have fin:EP X pins σ Q (.ref s.heap.objs.size) { s with heap:=s.heap.push { cls:=.type "list", data:=.seq (aa.toArray++il.toArray) } }:=by rw[ea];exact⟨.ref _,_,I.lnew (t':=s.toks) (r.append r2) (by rw[yY];omega),rfl,q _ I.fresh⟩
 exact concat_meets ⟨_,ho,rfl⟩ ⟨_,ho2,rfl⟩ noFill_list_add seq_list_add PySem.F.slot_list_add PySem.F.entry_list_add (PySem.F.args_list_add_2 _ _) (list_addW l b aa.toArray il.toArray n n2 dd vY sl xg (by rw[zJ,zJ];omega)) ⟨ho,ho2,fin⟩
def mT (i j:Int):Prop:=0 < j/\j < 2 ^ 64
theorem cJ:OpR X (binaryOp .FloorDiv) (rI mT λi j=>.int (i/j)):=opI λi j _ _ _ _ _ hc q=>by
 have h1:(0:Int) < j:=hc.1;have h2:j.natAbs.log2 < 9000:=by
   have h0:j.natAbs≠0:=by omega
   have:j.natAbs < 2 ^ 64:=by have:=hc.2;omega
   exact zP ((Nat.log2_lt h0).mpr this) (by decide)
 exact floordiv_int (by omega) (by rw[Int.fdiv_eq_ediv_of_nonneg i (by omega)];exact q) (.inl (PyProof.noPylong_of_log2 h2))
end
end L2
namespace L2
open PySem PySem.Spec PyProof.Rows
def sB:Key->PyData
 | .inl i=>.int i
 | .inr x=>.str x
def LW (K:Frg) (H:Hp) (W:Addr->Prop) (a:Addr) (xs:List V):Prop:=(¬W a/\Rd H a (.lst xs))\/∃(o:Obj) (aa:Array Value) (n:Nat),K.lookup a=some o/\o.cls = .type "list" /\ o.dict=none/\o.data = .seq aa n/\aa.size<=sizeLine/\Vals xs aa.toList
def TW (K:Frg) (H:Hp) (W:Addr->Prop) (a:Addr) (xs:List V):Prop:=(¬W a/\Rd H a (.tup xs))\/∃(o:Obj) (aa:Array Value) (n:Nat),K.lookup a=some o/\o.cls = .type "tuple" /\ o.data = .seq aa n/\aa.size<=sizeLine/\Vals xs aa.toList
theorem LW.sq {K:Frg}{H:Hp}{W:Addr->Prop}{a:Addr}{xs:List V}(h:LW K H W a xs):SqL K H a xs:=h.elim (λz=>.inl z.2) .inr
theorem TW.sq {K:Frg}{H:Hp}{W:Addr->Prop}{a:Addr}{xs:List V}(h:TW K H W a xs):SqT K H a xs:=h.elim (λz=>.inl z.2) .inr
mutual
def DV (K:Frg) (H:Hp) (W:Addr->Prop):PyData->V->Prop
 | .none,v=>v = .non
 | .bool b,v=>v = .bl b
 | .int i,v=>v = .int i
 | .str x,v=>v = .str x
 | .list ds,v=>∃a vs,v = .ref a/\LW K H W a vs/\DVs K H W ds vs
 | .tuple ds,v=>∃a vs,v = .ref a/\TW K H W a vs/\DVs K H W ds vs
 | .dict kvs,v=>∃a xh,v = .ref a/\¬W a/\Rd H a (.dK xh)/\DKV K H W kvs xh
def DVs (K:Frg) (H:Hp) (W:Addr->Prop):List PyData->List V->Prop
 | [],vs=>vs=[]
 | d::ds,vs=>∃v r,vs=v::r/\DV K H W d v/\DVs K H W ds r
def DKV (K:Frg) (H:Hp) (W:Addr->Prop):List (PyData×PyData)->List (Key×V)->Prop
 | [],vs=>vs=[]
 | (k,d)::ds,vs=>∃k' v r,vs=(k',v)::r/\k=sB k'/\DV K H W d v/\DKV K H W ds r
end
structure Grow (K:Frg) (W W':Addr->Prop) (H H':Hp):Prop where
 keep:∀b o,H b=some o->¬W b->H' b=some o\/∃ks ob,o = .dK ks/\H' b=some (.frz ob o)
 new:∀b,W' b->W b\/H b=none
theorem Grow.refl {K:Frg}{W:Addr->Prop}{H:Hp}:Grow K W W H H:=⟨λ_ _ h _=>.inl h,λ_ h=>.inl h⟩
section
variable {K:Frg}{W W' W2:Addr->Prop}{H H' H2:Hp}
theorem Rd.grow (g:Grow K W W' H H') {a:Addr}{o:HO}(nw:¬W a) (h:Rd H a o):Rd H' a o:=by
 rcases h with h | ⟨o',h⟩
 . rcases g.keep _ _ h nw with e | ⟨ks,ob,_,e⟩
   . exact .inl e
   . exact .inr ⟨ob,e⟩
 . rcases g.keep _ _ h nw with e | ⟨ks,ob,e,_⟩
   . exact .inr ⟨o',e⟩
   . cases e
theorem Grow.kept (g:Grow K W W' H H') {a:Addr}{o:HO}(h:H a=some o) (nw:¬W a) (n:∀ks,o≠.dK ks):H' a=some o:=(g.keep a o h nw).elim id λ⟨ks,_,e,_⟩=>absurd e (n ks)
theorem Rd.ne_none {H:Hp}{a:Addr}{o:HO}(h:Rd H a o):H a≠none:=by rcases h with h | ⟨o',h⟩ <;> rw[h] <;> simp
theorem Rd.nw (g:Grow K W W' H H') {a:Addr}{o:HO}(nw:¬W a) (h:Rd H a o):¬W' a:=λw=>by
 rcases g.new a w with z | z;. exact nw z
 . exact Rd.ne_none h z
theorem LW.grow (g:Grow K W W' H H') {a:Addr}{xs:List V}(h:LW K H W a xs):LW K H' W' a xs:=h.elim (λz=>.inl ⟨z.2.nw g z.1,z.2.grow g z.1⟩) .inr
theorem TW.grow (g:Grow K W W' H H') {a:Addr}{xs:List V}(h:TW K H W a xs):TW K H' W' a xs:=h.elim (λz=>.inl ⟨z.2.nw g z.1,z.2.grow g z.1⟩) .inr
mutual
theorem DV.grow (g:Grow K W W' H H'):∀{d:PyData}{v:V},DV K H W d v->DV K H' W' d v
 | .none,v,h=>by unfold DV at h ⊢;exact h
 | .bool b,v,h=>by unfold DV at h ⊢;exact h
 | .int i,v,h=>by unfold DV at h ⊢;exact h
 | .str x,v,h=>by unfold DV at h ⊢;exact h
 | .list ds,v,h=>by unfold DV at h ⊢;obtain⟨a,vs,e,hs,hd⟩:=h;exact⟨a,vs,e,hs.grow g,DVs.grow g hd⟩
 | .tuple ds,v,h=>by unfold DV at h ⊢;obtain⟨a,vs,e,hs,hd⟩:=h;exact⟨a,vs,e,hs.grow g,DVs.grow g hd⟩
 | .dict kvs,v,h=>by unfold DV at h ⊢;obtain⟨a,vs,e,nw,hs,hd⟩:=h;exact⟨a,vs,e,hs.nw g nw,hs.grow g nw,DKV.grow g hd⟩
theorem DVs.grow (g:Grow K W W' H H'):∀{ds:List PyData}{vs:List V},DVs K H W ds vs->DVs K H' W' ds vs
 | [],vs,h=>by unfold DVs at h ⊢;exact h
 | d::ds,vs,h=>by unfold DVs at h ⊢;obtain⟨v,r,e,h1,h2⟩:=h;exact⟨v,r,e,DV.grow g h1,DVs.grow g h2⟩
theorem DKV.grow (g:Grow K W W' H H'):∀{ds:List (PyData×PyData)}{vs:List (Key×V)},DKV K H W ds vs->DKV K H' W' ds vs
 | [],vs,h=>by unfold DKV at h ⊢;exact h
 | (k,d)::ds,vs,h=>by unfold DKV at h ⊢;obtain⟨k',v,r,e,e2,h1,h2⟩:=h;exact⟨k',v,r,e,e2,DV.grow g h1,DKV.grow g h2⟩
end
theorem Grow.trans (a:Grow K W W' H H') (b:Grow K W' W2 H' H2):Grow K W W2 H H2:=by
 refine⟨λx o h nw=>?_,λx w=>?_⟩
 . have Cj:¬W' x:=λw=>by
     rcases a.new x w with z | z;. exact nw z
     . rw[h] at z;cases z
   rcases a.keep x o h nw with e | ⟨ks,ob,e1,e2⟩
   . exact b.keep x o e Cj
   . exact .inr ⟨ks,ob,e1,b.kept e2 Cj λ_ z=>nomatch z⟩
 . rcases b.new x w with z | z1;. exact a.new x z
   . by_cases hx:W x;. exact .inl hx
     . refine .inr ?_;cases e:H x with
       | none=>rfl
       | some o=> rcases a.keep x o e hx with q | ⟨_,_,_,q⟩ <;> (rw[q] at z1;cases z1)
theorem DVs.length:∀{ds:List PyData}{vs:List V},DVs K H W ds vs->vs.length=ds.length
 | [],vs,h=>by unfold DVs at h;subst h;rfl
 | d::ds,vs,h=>by unfold DVs at h;obtain⟨v,r,e,h1,h2⟩:=h;subst e;simp[DVs.length h2]
theorem DVs.get:∀{ds:List PyData}{vs:List V}{i:Nat}{v:V},DVs K H W ds vs->vs[i]?=some v->∃d,ds[i]?=some d/\DV K H W d v
 | [],vs,i,v,h,e=>by unfold DVs at h;subst h;simp at e
 | d::ds,vs,i,v,h,e=>by
   unfold DVs at h;obtain⟨u,r,e',h1,h2⟩:=h;subst e';cases i with
   | zero=>simp at e;subst e;exact⟨d,rfl,h1⟩
   | succ i=>simpa using DVs.get h2 (by simpa using e)
theorem DVs.get':∀{ds:List PyData}{vs:List V}{i:Nat}{d:PyData},DVs K H W ds vs->ds[i]?=some d->∃v,vs[i]?=some v/\DV K H W d v
 | [],vs,i,v,h,e=>by simp at e
 | d::ds,vs,i,v,h,e=>by
   unfold DVs at h;obtain⟨u,r,e',h1,h2⟩:=h;subst e';cases i with
   | zero=>simp at e;subst e;exact⟨u,rfl,h1⟩
   | succ i=>simpa using DVs.get' h2 (by simpa using e)
theorem DVs.nil:DVs K H W [] []:=by unfold DVs;rfl
theorem DVs.cons {d:PyData}{v:V}{ds:List PyData}{vs:List V}(h:DV K H W d v) (t:DVs K H W ds vs):DVs K H W (d::ds) (v::vs):=by unfold DVs;exact⟨v,vs,rfl,h,t⟩
theorem DVs.append:∀{ds es:List PyData}{vs us:List V},DVs K H W ds vs->DVs K H W es us->DVs K H W (ds++es) (vs++us)
 | [],es,vs,us,h,t=>by unfold DVs at h;subst h;exact t
 | d::ds,es,vs,us,h,t=>by unfold DVs at h;obtain⟨u,r,e',h1,h2⟩:=h;subst e';exact DVs.cons h1 (DVs.append h2 t)
theorem DVs.set:∀{ds:List PyData}{vs:List V}{d:PyData}{v:V}(i:Nat),DVs K H W ds vs->DV K H W d v->DVs K H W (ds.set i d) (vs.set i v)
 | [],vs,d,v,i,h,t=>by unfold DVs at h;subst h;exact DVs.nil
 | e::ds,vs,d,v,i,h,t=>by
   unfold DVs at h;obtain⟨u,r,e',h1,h2⟩:=h;subst e';cases i with
   | zero=>exact DVs.cons t h2
   | succ i=>exact DVs.cons h1 (DVs.set i h2 t)
theorem DVs.drop:∀{ds:List PyData}{vs:List V}(i:Nat),DVs K H W ds vs->DVs K H W (ds.drop i) (vs.drop i)
 | ds,vs,0,h=>h
 | [],vs,i+1,h=>by unfold DVs at h;subst h;exact DVs.nil
 | e::ds,vs,i+1,h=>by unfold DVs at h;obtain⟨u,r,e',h1,h2⟩:=h;subst e';exact DVs.drop i h2
theorem DVs.take:∀{ds:List PyData}{vs:List V}(i:Nat),DVs K H W ds vs->DVs K H W (ds.take i) (vs.take i)
 | ds,vs,0,h=>DVs.nil
 | [],vs,i+1,h=>by unfold DVs at h;subst h;exact DVs.nil
 | e::ds,vs,i+1,h=>by unfold DVs at h;obtain⟨u,r,e',h1,h2⟩:=h;subst e';exact DVs.cons h1 (DVs.take i h2)
theorem K0:∀{bs:List Bool}{vs:List V},DVs K H W (bs.map PyData.bool) vs->vs=bs.map V.bl
 | [],vs,h=>by unfold DVs at h;exact h
 | b::bs,vs,h=>by simp only[zI] at h;unfold DVs at h;obtain⟨u,r,e',h1,h2⟩:=h;unfold DV at h1;subst e' h1;rw[K0 h2];rfl
theorem IW:∀{bs:List Str}{vs:List V},DVs K H W (bs.map a2W) vs->vs=bs.map V.str
 | [],vs,h=>by unfold DVs at h;exact h
 | b::bs,vs,h=>by simp only[zI] at h;unfold DVs at h;obtain⟨u,r,e',h1,h2⟩:=h;unfold DV at h1;subst e' h1;rw[IW h2];rfl
end
section
variable {X:Cx}{pins:List (Addr×Obj)}{σ:St}{H:Hp}{s:Shared}{W:Addr->Prop}
mutual
theorem DV.reads (I:Inv X pins σ H s):∀{d:PyData}{v:V}{u:Value},d.canLay0=true->DV X.K H W d v->RelV v u->∃as,PySem.Reads s.heap u d as
 | .none,v,u,c,h,r=>by unfold DV at h;subst h;cases r;exact⟨_,.none⟩
 | .bool b,v,u,c,h,r=>by unfold DV at h;subst h;cases r;exact⟨_,.bool b⟩
 | .int i,v,u,c,h,r=>by unfold DV at h;subst h;obtain⟨t,rfl⟩:=r;exact⟨_,.int i t⟩
 | .str x,v,u,c,h,r=>by unfold DV at h;subst h;obtain⟨t,rfl⟩:=r;exact⟨_,.str x t⟩
 | .list ds,v,u,c,h,r=>by unfold DV at h;obtain⟨a,vs,rfl,hs,hd⟩:=h;cases r;obtain⟨aa,rv,⟨o,n,e,hc,_,dd⟩,_⟩:=I.list hs.sq;obtain⟨as,q⟩:=DVs.reads I (by simpa [b5X] using c) hd rv;exact⟨_,.list e hc dd (by simpa using q)⟩
 | .tuple ds,v,u,c,h,r=>by unfold DV at h;obtain⟨a,vs,rfl,hs,hd⟩:=h;cases r;obtain⟨aa,rv,⟨o,e,hc,n,dd⟩,_⟩:=I.tuple hs.sq;obtain⟨as,q⟩:=DVs.reads I (by simpa [b5X] using c) hd rv;exact⟨_,.tuple e hc dd (by simpa using q)⟩
 | .dict kvs,v,u,c,h,r=>by simp[b5X] at c
theorem DVs.reads (I:Inv X pins σ H s):∀{ds:List PyData}{vs:List V}{us:List Value},b5V ds=true->DVs X.K H W ds vs->Vals vs us->∃as,PySem.ReadsAll s.heap us ds as
 | [],vs,us,c,h,r=>by unfold DVs at h;subst h;cases r;exact⟨_,.nil⟩
 | d::ds,vs,us,c,h,r=>by
   unfold DVs at h;obtain⟨v,q,rfl,h1,h2⟩:=h;cases r with
   | cons r1 r2=> simp[b5V] at c;obtain⟨as,q1⟩:=DV.reads I c.1 h1 r1;obtain⟨bs,q2⟩:=DVs.reads I c.2 h2 r2;exact⟨_,.cons q1 q2⟩
end
def VW (K:Frg) (neg:Bool):R2:=λx y H Q=>∃(W:Addr->Prop) (da db:PyData),DV K H W da x/\DV K H W db y/\zH da=true/\zH db=true/\Q (.bl (if neg then !a1Z da db else a1Z da db)) H
theorem oY (hu:X.A.units+64 < cLine):OpR X (compareOp .Eq) (VW X.K false):=by intro pins s σ H x y v u Q I rx ry h;obtain⟨W,da,db,h1,h2,s1,s2,q⟩:=h;obtain⟨as,r1⟩:=h1.reads I (zG s1) rx;obtain⟨bs,r2⟩:=h2.reads I (zG s2) ry;exact PySem.SeqAt.compareEq_shaped r1 r2 s1 s2 hu ⟨.bl _,H,I,rfl,q⟩
theorem oZ (hu:X.A.units+64 < cLine):OpR X (compareOp .NotEq) (VW X.K true):=by intro pins s σ H x y v u Q I rx ry h;obtain⟨W,da,db,h1,h2,s1,s2,q⟩:=h;obtain⟨as,r1⟩:=h1.reads I (zG s1) rx;obtain⟨bs,r2⟩:=h2.reads I (zG s2) ry;exact PySem.SeqAt.compareNe_shaped r1 r2 s1 s2 hu ⟨.bl _,H,I,rfl,q⟩
end
end L2
namespace DL
open PySem PySem.Spec L2
abbrev St:=L2.St
inductive MO where
 | l (ds:List PyData)
 | d (kvs:List (PyData×PyData))
 | t (kvs:List (List Key×PyData))
 | x (C:Addr) (fs:List (Str×PyData))
abbrev Own:=Addr->Option MO
def Own.W (M:Own):Addr->Prop:=λa=>M a≠none
def Own.put (M:Own) (a:Addr) (o:MO):Own:=λb=>if b=a then some o else M b
def Own.del (M:Own) (a:Addr):Own:=λb=>if b=a then none else M b
def Own.Sub (M N:Own):Prop:=∀a o,M a=some o->N a=some o
theorem zU {M:Own}{a:Addr}{o:MO}:M.put a o a=some o:=by unfold Own.put;rw[if_pos rfl]
theorem yH {M:Own}{a b:Addr}{o:MO}(h:b≠a):M.put a o b=M b:=by unfold Own.put;rw[if_neg h]
theorem yI {M:Own}{a:Addr}{o o':MO}:(M.put a o).put a o'=M.put a o':=by funext b;unfold Own.put;by_cases h:b=a <;> simp[h]
theorem yG {M:Own}{a:Addr}{o:MO}(h:M a=none):(M.put a o).del a=M:=by
 funext b;unfold Own.put Own.del;by_cases e:b=a;. subst e;simp[h]
 . simp[e]
theorem Own.del_put_ne {M:Own}{a b:Addr}{o:MO}(h:a≠b):(M.put a o).del b=(M.del b).put a o:=by
 funext c;unfold Own.put Own.del;by_cases h1:c=b;. subst h1;simp[a5V h]
 . simp[h1]
theorem zT (M:Own):M.Sub M:=λ_ _ h=>h
theorem Own.Sub.put {M N:Own}{a:Addr}{o:MO}(h:M.Sub N) (n:M a=none):M.Sub (N.put a o):=λb x e=>by rw[yH (by rintro rfl;rw[n] at e;cases e)];exact h b x e
inductive DS where
 | d (x:PyData)
 | loc (a:Addr)
 | ty (n:String)
 | tl (ds:List PyData) (a:Addr)
def SI (K:Frg) (H:Hp) (M:Own):DS->V->Prop
 | .d x,v=>DV K H M.W x v
 | .loc a,v=>v = .ref a
 | .ty n,v=>v = .ty n
 | .tl ds a,v=>∃b vs,v = .ref b/\TW K H M.W b (vs++[.ref a])/\DVs K H M.W ds vs
def SIs (K:Frg) (H:Hp) (M:Own):List DS->List V->Prop
 | [],vs=>vs=[]
 | d::ds,vs=>∃v r,vs=v::r/\SI K H M d v/\SIs K H M ds r
def XI (K:Frg) (H:Hp) (W:Addr->Prop):Option Addr->List (Str×PyData)->Prop
 | none,[]=>True
 | some d,[(n,x)]=>∃v,¬W d/\H d=some (.xd [(n,v)])/\DV K H W x v
 | _,_=>False
theorem XI.grow {K:Frg}{W W':Addr->Prop}{H H':Hp}(g:Grow K W W' H H') {dd:Option Addr}{fs:List (Str×PyData)}(h:XI K H W dd fs):XI K H' W' dd fs:=by
 unfold XI at h ⊢;split at h;. trivial
 . obtain⟨v,nw,a,b⟩:=h;exact⟨v,λz=>(g.new _ z).elim nw λq=>by(rw[a] at q;cases q),g.kept a nw (λ_ z=>nomatch z),b.grow g⟩
 . exact h.elim
def exK (a C:Addr) (dd:Option Addr):HO:=.ext λh=>∃o vs,h.get? a=some o/\o.cls = .ref C/\o.dict=dd/\o.data = .fields vs
def DTV (K:Frg) (H:Hp) (W:Addr->Prop) (kvs:List (List Key×PyData)) (ks:List (List Key×V)):Prop:=ks.map (·.1)=kvs.map (·.1)/\DVs K H W (kvs.map (·.2)) (ks.map (·.2))
theorem DTV.grow {K:Frg}{W W':Addr->Prop}{H H':Hp}(g:Grow K W W' H H') {kvs:List (List Key×PyData)}{ks:List (List Key×V)}(h:DTV K H W kvs ks):DTV K H' W' kvs ks:=⟨h.1,h.2.grow g⟩
def OA1 (K:Frg) (H:Hp) (M:Own) (a:Addr):MO->Prop
 | .x C fs=>∃dd,H a=some (exK a C dd)/\XI K H M.W dd fs
 | .l ds=>∃vs,H a=some (.lst vs)/\DVs K H M.W ds vs
 | .d kvs=>∃ks,H a=some (.dK ks)/\DKV K H M.W kvs ks
 | .t kvs=>∃ks,H a=some (.dT ks)/\DTV K H M.W kvs ks
def OA (K:Frg) (H:Hp) (M:Own):Prop:=∀a o,M a=some o->OA1 K H M a o
structure Step (K:Frg) (M M':Own) (H H':Hp):Prop where
 grow:Grow K M.W M'.W H H'
structure Rel (K:Frg) (M:Own) (ρ:List (Option DS)) (σ:St) (H:Hp):Prop where
 own:OA K H M
 len:ρ.length=σ.length
 slot:∀(i:Nat) x,ρ[i]?=some (some x)->∃v,σ[i]?=some (some v)/\SI K H M x v
section
variable {K:Frg}{M M' M2:Own}{H H' H2:Hp}{ρ:List (Option DS)}{σ:St}
theorem Step.refl:Step K M M H H:=⟨Grow.refl⟩
theorem Step.trans (a:Step K M M' H H') (b:Step K M' M2 H' H2):Step K M M2 H H2:=⟨a.grow.trans b.grow⟩
theorem SI.step (st:Step K M M' H H'):∀{x:DS}{v:V},SI K H M x v->SI K H' M' x v
 | .d _,_,h=>DV.grow st.grow h
 | .loc _,_,h=>h
 | .ty _,_,h=>h
 | .tl _ _,_,⟨b,vs,e,h1,h2⟩=>⟨b,vs,e,h1.grow st.grow,h2.grow st.grow⟩
theorem Rel.step (R:Rel K M ρ σ H) (oa:OA K H' M') (st:Step K M M' H H'):Rel K M' ρ σ H':=⟨oa,R.len,λi x e=>let ⟨v,h1,h2⟩:=R.slot i x e;⟨v,h1,h2.step st⟩⟩
theorem Rel.set (R:Rel K M ρ σ H) {x:DS}{v:V}(h:SI K H M x v) (i:Nat):Rel K M (ρ.set i (some x)) (σ.set i (some v)) H:=by
 refine⟨R.own,by rw[b0Q,b0Q];exact R.len,λj y e=>?_⟩;rw[b0W] at e ⊢;by_cases bc:i=j
 . rw[if_pos bc] at e ⊢;subst bc;by_cases hl:i < ρ.length;. rw[if_pos hl] at e;cases e;rw[if_pos (by rw[<-R.len];exact hl)];exact⟨v,rfl,h⟩
   . rw[if_neg hl] at e;cases e
 . rw[if_neg bc] at e ⊢;exact R.slot j y e
theorem OA.none (oa:OA K H M) {p:Addr}(h:H p=b3V):M p=b3V:=by
 cases e:M p with
 | none=>rfl
 | some o=> have:=oa p o e;cases o <;> (obtain⟨vs,q,_⟩:=this;rw[h] at q;cases q)
theorem AM {p:Addr}{o:HO}(W:Addr->Prop) (h:H p=b3V):Grow K W W H (upd H p o):=⟨λb u e _=>.inl (by rw[AG (AN e h)];exact e),λ_ w=>.inl w⟩
theorem OA.grow (oa:OA K H M) (g:Grow K M.W M.W H H') (hk:∀a o,M a=some o->H' a=H a):OA K H' M:=λa o e=>by have q:=oa a o e;cases o <;> (obtain⟨vs,q1,q2⟩:=q;exact⟨vs,by rw[hk a _ e];exact q1,q2.grow g⟩)
theorem OA.new {p:Addr}{o:HO}(oa:OA K H M) (h:H p=b3V):OA K (upd H p o) M:=oa.grow (AM _ h) λa x e=>by rw[AG (by rintro rfl;rw[oa.none h] at e;cases e)]
theorem R5 {p:Addr}{vs:List V}{ds:List PyData}(oa:OA K H M) (h:H p=b3V) (hd:DVs K H M.W ds vs) :
   OA K (upd H p (.lst vs)) (M.put p (.l ds))/\Step K M (M.put p (.l ds)) H (upd H p (.lst vs)):=by
 have hM:=oa.none h;have g:Grow K M.W (M.put p (.l ds)).W H (upd H p (.lst vs)):=⟨λb u e _=>.inl (by rw[AG (AN e h)];exact e),λb w=>by
   by_cases hb:b=p;. subst hb;exact .inr h
   . left;unfold Own.W at w ⊢;rw[yH hb] at w;exact w⟩
 refine⟨λa o e=>?_,⟨g⟩⟩
 . by_cases ha:a=p;. subst ha;rw[zU] at e;cases e;exact⟨vs,AF,hd.grow g⟩
   . rw[yH ha] at e;have q:=oa a o e;cases o <;> (obtain⟨vs,q1,q2⟩:=q;exact⟨vs,by rw[AG ha];exact q1,q2.grow g⟩)
theorem K1 {p:Addr}{vZ:List V}{ip:List PyData}{o:MO}(oa:OA K H M) (h:M p=some o) (hd:DVs K H M.W ip vZ) :
   OA K (upd H p (.lst vZ)) (M.put p (.l ip))/\Step K M (M.put p (.l ip)) H (upd H p (.lst vZ)):=by
 have hw:∀b,(M.put p (.l ip)).W b->M.W b:=λb w=>by
   unfold Own.W at w ⊢;by_cases hb:b=p;. subst hb;rw[h];simp
   . rw[yH hb] at w;exact w
 have g:Grow K M.W (M.put p (.l ip)).W H (upd H p (.lst vZ)):=⟨λb u e nw=>.inl (by
   rw[AG (by rintro rfl;exact nw (by unfold Own.W;rw[h];simp))];exact e),λb w=>.inl (hw b w)⟩
 refine⟨λa o e=>?_,⟨g⟩⟩
 . by_cases ha:a=p;. subst ha;rw[zU] at e;cases e;exact⟨vZ,AF,hd.grow g⟩
   . rw[yH ha] at e;have q:=oa a o e;cases o <;> (obtain⟨vs,q1,q2⟩:=q;exact⟨vs,by rw[AG ha];exact q1,q2.grow g⟩)
theorem AV (hs:M'.Sub M):Grow K M.W M'.W H H:=⟨λ_ _ e _=>.inl e,λb w=>.inl (by
 unfold Own.W at w ⊢;cases e:M' b with
 | none=>exact absurd e w
 | some o=>rw[hs b o e];simp)⟩
theorem OA.sub (oa:OA K H M) (hs:M'.Sub M):OA K H M':=λa o e=>by have q:=oa a o (hs a o e);cases o <;> (obtain⟨vs,q1,q2⟩:=q;exact⟨vs,q1,q2.grow (AV hs)⟩)
theorem SI.sub (hs:M'.Sub M):∀{x:DS}{v:V},SI K H M x v->SI K H M' x v
 | .d _,_,h=>DV.grow (AV hs) h
 | .loc _,_,h=>h
 | .ty _,_,h=>h
 | .tl _ _,_,⟨b,vs,e,h1,h2⟩=>⟨b,vs,e,h1.grow (AV hs),h2.grow (AV hs)⟩
end
def DE (K:Frg) (t:TE) (ρ:List (Option DS)) (M:Own) (Q:DS->Own->Prop):Prop:=∀(σ:St) (H:Hp) (QQ:VK),Rel K M ρ σ H->(∀v H' x M',OA K H' M'->SI K H' M' x v->Step K M M' H H'->Q x M'->QQ v H')->t σ H QQ
def DT (K:Frg) (t:TT) (ρ:List (Option DS)) (M:Own) (Q:Bool->Own->Prop):Prop:=∀(σ:St) (H:Hp) (QQ:Bool->Hp->Prop),Rel K M ρ σ H->(∀b H' M',OA K H' M'->Step K M M' H H'->Q b M'->QQ b H')->t σ H QQ
def DA (K:Frg) (t:TA) (ρ:List (Option DS)) (M:Own) (Q:List DS->Own->Prop):Prop:=∀(σ:St) (H:Hp) (QQ:List V->Hp->Prop),Rel K M ρ σ H->(∀vs H' xs M',OA K H' M'->SIs K H' M' xs vs->Step K M M' H H'->Q xs M'->QQ vs H')->t σ H QQ
def DP (K:Frg) (t:TO) (ρ:List (Option DS)) (M:Own) (Q:Option Int->Own->Prop):Prop:=∀(σ:St) (H:Hp) (QQ:Option Int->Hp->Prop),Rel K M ρ σ H->(∀b H' M',OA K H' M'->Step K M M' H H'->Q b M'->QQ b H')->t σ H QQ
structure EndsD where
 nx:List (Option DS)->Own->Prop
 rt:DS->Own->Prop
 bk:List (Option DS)->Own->Prop:=λ_ _=>False
 ct:List (Option DS)->Own->Prop:=λ_ _=>False
def DSt (K:Frg) (t:TS) (ρ:List (Option DS)) (M:Own) (D:EndsD):Prop:=∀(σ:St) (H:Hp) (E:Ends),Rel K M ρ σ H->(∀ρ' M' σ' H',Rel K M' ρ' σ' H'->Step K M M' H H'->D.nx ρ' M'->E.nx σ' H')->(∀v H' x M',OA K H' M'->SI K H' M' x v->Step K M M' H H'->D.rt x M'->E.rt v H') ->(∀ρ' M' σ' H',Rel K M' ρ' σ' H'->Step K M M' H H'->D.bk ρ' M'->E.bk σ' H')->(∀ρ' M' σ' H',Rel K M' ρ' σ' H'->Step K M M' H H'->D.ct ρ' M'->E.ct σ' H')->t E σ H
def D1 (K:Frg) (r:V->Hp->VK->Prop) (x:DS) (M:Own) (Q:DS->Own->Prop):Prop:=∀(H:Hp) (v:V) (QQ:VK),OA K H M->SI K H M x v->(∀w H' z M',OA K H' M'->SI K H' M' z w->Step K M M' H H'->Q z M'->QQ w H')->r v H QQ
def D2 (K:Frg) (r:R2) (x y:DS) (M:Own) (Q:DS->Own->Prop):Prop:=∀(H:Hp) (v u:V) (QQ:VK),OA K H M->SI K H M x v->SI K H M y u->(∀w H' z M',OA K H' M'->SI K H' M' z w->Step K M M' H H'->Q z M'->QQ w H')->r v u H QQ
def DR (K:Frg) (r:List V->Hp->VK->Prop) (xs:List DS) (M:Own) (Q:DS->Own->Prop):Prop:=∀(H:Hp) (vs:List V) (QQ:VK),OA K H M->SIs K H M xs vs->(∀w H' z M',OA K H' M'->SI K H' M' z w->Step K M M' H H'->Q z M'->QQ w H')->r vs H QQ
def DM (K:Frg) (r:V->List V->Hp->VK->Prop) (x:DS) (xs:List DS) (M:Own) (Q:DS->Own->Prop):Prop:=∀(H:Hp) (v:V) (vs:List V) (QQ:VK),OA K H M->SI K H M x v->SIs K H M xs vs->(∀w H' z M',OA K H' M'->SI K H' M' z w->Step K M M' H H'->Q z M'->QQ w H')->r v vs H QQ
def DSl (K:Frg) (r:V->Option Int->Option Int->Hp->VK->Prop) (x:DS) (lo hi:Option Int) (M:Own) (Q:DS->Own->Prop):Prop:=∀(H:Hp) (v:V) (QQ:VK),OA K H M->SI K H M x v->(∀w H' z M',OA K H' M'->SI K H' M' z w->Step K M M' H H'->Q z M'->QQ w H')->r v lo hi H QQ
def DTy (K:Frg) (T:String) (x:DS) (M:Own):Prop:=∀(H:Hp) (v:V),OA K H M->SI K H M x v->tyV K T v H
section
variable {K:Frg}{ρ:List (Option DS)}{M:Own}{Q:DS->Own->Prop}{QB:Bool->Own->Prop}{ta tb tc:TE}{tA v3:TT}{r r':R2}
theorem XN {t:TE}{Q':DS->Own->Prop}(h:DE K t ρ M Q) (hq:∀x M',Q x M'->Q' x M'):DE K t ρ M Q':=λσ H QQ R k=>h σ H QQ R λv H' x M' a b c q=>k v H' x M' a b c (hq x M' q)
theorem p6 {i:Nat}{x:DS}(e:ρ[i]?=some (some x)) (h:Q x M):DE K (SO i) ρ M Q:=λσ H QQ R k=>by obtain⟨v,h1,h2⟩:=R.slot i x e;exact⟨v,h1,k v H x M R.own h2 Step.refl h⟩
theorem p7 {i:Int}(h:Q (.d (.int i)) M):DE K (tC (.int i)) ρ M Q:=λσ H QQ R k=>k _ H (.d (.int i)) M R.own (by unfold SI DV;rfl) Step.refl h
theorem sC {i:Bool}(h:Q (.d (.bool i)) M):DE K (tC (.bl i)) ρ M Q:=λσ H QQ R k=>k _ H (.d (.bool i)) M R.own (by unfold SI DV;rfl) Step.refl h
theorem p9 {i:Str}(h:Q (.d (.str i)) M):DE K (tC (.str i)) ρ M Q:=λσ H QQ R k=>k _ H (.d (.str i)) M R.own (by unfold SI DV;rfl) Step.refl h
theorem pA (h:Q (.d .none) M):DE K (tC .non) ρ M Q:=λσ H QQ R k=>k _ H (.d .none) M R.own (by unfold SI DV;rfl) Step.refl h
theorem sD {n:String}(h:Q (.ty n) M):DE K (tC (.ty n)) ρ M Q:=λσ H QQ R k=>k _ H (.ty n) M R.own rfl Step.refl h
theorem sE (h:DE K ta ρ M λx M1=>DE K tb ρ M1 λy M2=>D2 K r x y M2 Q):DE K (tOp r ta tb) ρ M Q:=λσ H QQ R k=>
 h σ H _ R λv H1 x M1 o1 s1 t1 h1=>h1 σ H1 _ (R.step o1 t1) λu H2 y M2 o2 s2 t2 h2=>h2 H2 v u QQ o2 (s1.step t2) s2 λw H3 z M3 o3 s3 t3 q=>k w H3 z M3 o3 s3 ((t1.trans t2).trans t3) q
theorem sF {r:V->Hp->VK->Prop}(h:DE K ta ρ M λx M1=>D1 K r x M1 Q):DE K (tUn r ta) ρ M Q:=λσ H QQ R k=>
 h σ H _ R λv H1 x M1 o1 s1 t1 h1=>h1 H1 v QQ o1 s1 λw H3 z M3 o3 s3 t3 q=>k w H3 z M3 o3 s3 (t1.trans t3) q
theorem cK (h:DE K ta ρ M λx M1=>DE K tb ρ M1 λy M2=>D2 K r x y M2 λz M3=>∃c,z = .d (.bool c)/\if c=true then DE K tc ρ M3 (λw M4=>D2 K r' y w M4 Q) else Q (.d (.bool false)) M3) :
   DE K (VM r r' ta tb tc) ρ M Q:=λσ H QQ R k=>
 h σ H _ R λv H1 x M1 o1 s1 t1 h1=>h1 σ H1 _ (R.step o1 t1) λu H2 y M2 o2 s2 t2 h2=>h2 H2 v u _ o2 (s1.step t2) s2 λw H3 z M3 o3 s3 t3 q=>by
   obtain⟨c,rfl,q⟩:=q;unfold SI DV at s3;refine⟨c,s3,?_⟩;cases c with
   | false=> rw[if_neg nft] at q ⊢;exact k _ H3 _ M3 o3 (by unfold SI DV;rfl) ((t1.trans t2).trans t3) q
   | true=> rw[if_pos rfl] at q ⊢;exact q σ H3 _ (R.step o3 ((t1.trans t2).trans t3)) λw4 H4 z4 M4 o4 s4 t4 h4=>h4 H4 u w4 QQ o4 (s2.step (t3.trans t4)) s4 λw5 H5 z5 M5 o5 s5 t5 q5=>k w5 H5 z5 M5 o5 s5 ((((t1.trans t2).trans t3).trans t4).trans t5) q5
theorem jF (h:DE K ta ρ M λx M1=>∃c,x = .d (.bool c)/\QB c M1):DT K (bS ta) ρ M QB:=λσ H QQ R k=>
 h σ H _ R λv H1 x M1 o1 s1 t1 h1=>by obtain⟨c,rfl,q⟩:=h1;unfold SI DV at s1;exact⟨c,s1,k c H1 M1 o1 t1 q⟩
theorem u5 (h:DE K ta ρ M λx M1=>∃c,x = .d (.bool c)/\QB c M1):DT K (L2.tB ta) ρ M QB:=λσ H QQ R k=>
 h σ H _ R λv H1 x M1 o1 s1 t1 h1=>by obtain⟨c,rfl,q⟩:=h1;unfold SI DV at s1;exact⟨c,s1,k c H1 M1 o1 t1 q⟩
theorem pB (h:DT K tA ρ M λc M1=>if c=true then DT K v3 ρ M1 QB else QB false M1):DT K (rF tA v3) ρ M QB:=λσ H QQ R k=>
 h σ H _ R λc H1 M1 o1 t1 h1=>by
   cases c with
   | false=>rw[if_neg nft] at h1 ⊢;exact k _ H1 M1 o1 t1 h1
   | true=>rw[if_pos rfl] at h1 ⊢;exact h1 σ H1 QQ (R.step o1 t1) λb H2 M2 o2 t2 q=>k b H2 M2 o2 (t1.trans t2) q
theorem sG (h:DT K tA ρ M λc M1=>if c=true then QB true M1 else DT K v3 ρ M1 QB):DT K (tOr tA v3) ρ M QB:=λσ H QQ R k=>
 h σ H _ R λc H1 M1 o1 t1 h1=>by
   cases c with
   | true=>rw[if_pos rfl] at h1 ⊢;exact k _ H1 M1 o1 t1 h1
   | false=>rw[if_neg nft] at h1 ⊢;exact h1 σ H1 QQ (R.step o1 t1) λb H2 M2 o2 t2 q=>k b H2 M2 o2 (t1.trans t2) q
theorem pC (h:DT K tA ρ M λc M1=>QB (!c) M1):DT K (rG tA) ρ M QB:=λσ H QQ R k=>h σ H _ R λc H1 M1 o1 t1 h1=>k _ H1 M1 o1 t1 h1
theorem pD (h:QB true M):DT K rZ ρ M QB:=λσ H QQ R k=>k true H M R.own Step.refl h
theorem pE (h:DE K ta ρ M λx M1=>∃c,x = .d (.bool c)/\if c=true then DE K tb ρ M1 Q else Q (.d (.bool false)) M1):DE K (mG ta tb) ρ M Q:=λσ H QQ R k=>
 h σ H _ R λv H1 x M1 o1 s1 t1 h1=>by
   obtain⟨c,rfl,q⟩:=h1;unfold SI DV at s1;refine⟨c,s1,?_⟩;cases c with
   | false=>rw[if_neg nft] at q ⊢;exact k _ H1 _ M1 o1 (by unfold SI DV;rfl) t1 q
   | true=>rw[if_pos rfl] at q ⊢;exact q σ H1 QQ (R.step o1 t1) λw H2 z M2 o2 s2 t2 q=>k w H2 z M2 o2 s2 (t1.trans t2) q
theorem sH (h:DE K ta ρ M λx M1=>∃c,x = .d (.bool c)/\if c=true then Q (.d (.bool true)) M1 else DE K tb ρ M1 Q):DE K (rH ta tb) ρ M Q:=λσ H QQ R k=>
 h σ H _ R λv H1 x M1 o1 s1 t1 h1=>by
   obtain⟨c,rfl,q⟩:=h1;unfold SI DV at s1;refine⟨c,s1,?_⟩;cases c with
   | true=>rw[if_pos rfl] at q ⊢;exact k _ H1 _ M1 o1 (by unfold SI DV;rfl) t1 q
   | false=>rw[if_neg nft] at q ⊢;exact q σ H1 QQ (R.step o1 t1) λw H2 z M2 o2 s2 t2 q=>k w H2 z M2 o2 s2 (t1.trans t2) q
theorem pF (h:DE K ta ρ M λx M1=>∃c,x = .d (.bool c)/\Q (.d (.bool (!c))) M1):DE K (mH ta) ρ M Q:=λσ H QQ R k=>
 h σ H _ R λv H1 x M1 o1 s1 t1 h1=>by obtain⟨c,rfl,q⟩:=h1;unfold SI DV at s1;exact⟨c,s1,k _ H1 _ M1 o1 (by unfold SI DV;rfl) t1 q⟩
theorem sI (h:DT K tA ρ M λc M1=>if c=true then DE K ta ρ M1 Q else DE K tb ρ M1 Q):DE K (tIf tA ta tb) ρ M Q:=λσ H QQ R k=>
 h σ H _ R λc H1 M1 o1 t1 h1=>by
   cases c with
   | true=>rw[if_pos rfl] at h1 ⊢;exact h1 σ H1 QQ (R.step o1 t1) λw H2 z M2 o2 s2 t2 q=>k w H2 z M2 o2 s2 (t1.trans t2) q
   | false=>rw[if_neg nft] at h1 ⊢;exact h1 σ H1 QQ (R.step o1 t1) λw H2 z M2 o2 s2 t2 q=>k w H2 z M2 o2 s2 (t1.trans t2) q
variable {QL:List DS->Own->Prop}{tl:TA}
theorem cL (h:QL [] M):DA K O9 ρ M QL:=λσ H QQ R k=>k [] H [] M R.own rfl Step.refl h
theorem jG (h:DE K ta ρ M λx M1=>DA K tl ρ M1 λxs M2=>QL (x::xs) M2):DA K (CT ta tl) ρ M QL:=λσ H QQ R k=>
 h σ H _ R λv H1 x M1 o1 s1 t1 h1=>h1 σ H1 _ (R.step o1 t1) λvs H2 xs M2 o2 s2 t2 q=>k (v::vs) H2 (x::xs) M2 o2 ⟨v,vs,rfl,s1.step t2,s2⟩ (t1.trans t2) q
def OD:List DS->Option (List PyData)
 | []=>some []
 | .d x::r=>match OD r with
   | some l=>some (x::l)
   | none=>none
 | .loc _::_=>none
 | .ty _::_=>none
 | .tl _ _::_=>none
theorem SIs.data {H:Hp}:∀{xs:List DS}{ds:List PyData}{vs:List V},OD xs=some ds->SIs K H M xs vs->DVs K H M.W ds vs
 | [],ds,vs,e,h=>by cases e;cases h;exact DVs.nil
 | .d x::r,ds,vs,e,⟨v,q,e2,h1,h2⟩=>by
   cases e3:OD r with
   | none=>rw[OD,e3] at e;cases e
   | some es=> rw[OD,e3] at e;cases e;subst e2;exact DVs.cons h1 (SIs.data e3 h2)
 | .loc _::_,ds,vs,e,_=>by cases e
 | .ty _::_,ds,vs,e,_=>by cases e
 | .tl _ _::_,ds,vs,e,_=>by cases e
theorem SIs.length {H:Hp}:∀{xs:List DS}{vs:List V},SIs K H M xs vs->vs.length=xs.length
 | [],vs,h=>by cases h;rfl
 | _::r,vs,⟨v,q,e2,h1,h2⟩=>by subst e2;simp[SIs.length h2]
theorem pG (h:DA K tl ρ M λxs M1=>∃ds,OD xs=some ds/\ds.length<=sizeLine/\Q (.d (.tuple ds)) M1):DE K (Z7 tl) ρ M Q:=λσ H QQ R k=>
 h σ H _ R λvs H1 xs M1 o1 s1 t1 h1=>by obtain⟨ds,e,hz,q⟩:=h1;have hd:=s1.data e;refine⟨by rw[hd.length];exact hz,λp hp=>?_⟩;have g:Grow K M1.W M1.W H1 (upd H1 p (.tup vs)):=AM _ hp;refine k _ _ (.d (.tuple ds)) M1 (o1.new hp) ?_ (t1.trans ⟨g⟩) q;unfold SI DV;exact⟨p,vs,rfl,.inl ⟨λw=>w (o1.none hp),.inl AF⟩,hd.grow g⟩
theorem GK (h:DA K tl ρ M λxs M1=>∃ds,OD xs=some ds/\ds.length<=sizeLine/\Q (.d (.list ds)) M1):DE K (oB tl) ρ M Q:=λσ H QQ R k=>
 h σ H _ R λvs H1 xs M1 o1 s1 t1 h1=>by obtain⟨ds,e,hz,q⟩:=h1;have hd:=s1.data e;refine⟨by rw[hd.length];exact hz,λp hp=>?_⟩;have g:Grow K M1.W M1.W H1 (upd H1 p (.lst vs)):=AM _ hp;refine k _ _ (.d (.list ds)) M1 (o1.new hp) ?_ (t1.trans ⟨g⟩) q;unfold SI DV;exact⟨p,vs,rfl,.inl ⟨λw=>w (o1.none hp),.inl AF⟩,hd.grow g⟩
theorem IX (h:DA K tl ρ M λxs M1=>∃ds,OD xs=some ds/\ds.length<=sizeLine/\∀p,M1 p=none->Q (.loc p) (M1.put p (.l ds))):DE K (oB tl) ρ M Q:=λσ H QQ R k=>
 h σ H _ R λvs H1 xs M1 o1 s1 t1 h1=>by obtain⟨ds,e,hz,q⟩:=h1;have hd:=s1.data e;refine⟨by rw[hd.length];exact hz,λp hp=>?_⟩;obtain⟨a,b⟩:=R5 o1 hp hd;exact k _ _ (.loc p) _ a rfl (t1.trans b) (q p (o1.none hp))
theorem sJ {r:List V->Hp->VK->Prop}(h:DA K tl ρ M λxs M1=>DR K r xs M1 Q):DE K (tCB r tl) ρ M Q:=λσ H QQ R k=>
 h σ H _ R λvs H1 xs M1 o1 s1 t1 h1=>h1 H1 vs QQ o1 s1 λw H2 z M2 o2 s2 t2 q=>k w H2 z M2 o2 s2 (t1.trans t2) q
structure FSp where
 pre:List DS->Own->Prop
 post:List DS->Own->DS->Own->Prop
def spD (K:Frg) (n:Nat) (S:FSp):Sp:=λvs H Q _=>∃xs M,xs.length=n/\OA K H M/\SIs K H M xs vs/\S.pre xs M/\∀x M' v H',S.post xs M x M'->Step K M M' H H'->OA K H' M'->SI K H' M' x v->Q v H'
theorem XO {n:Nat}{S:FSp}:∀vs H Q E,spD K n S vs H Q E->vs.length=n:=λvs H Q E ⟨xs,M,hl,_,h,_⟩=>by rw[h.length,hl]
theorem jH {n:Nat}{S:FSp}{E:XK}(h:DA K tl ρ M λxs M1=>xs.length=n/\S.pre xs M1/\∀x M',S.post xs M1 x M'->Q x M'):DE K (P0 (spD K n S) [] E tl) ρ M Q:=λσ H QQ R k=>
 h σ H _ R λvs H1 xs M1 o1 s1 t1 ⟨h0,h1,h2⟩=>by show spD K n S (vs++[]) H1 QQ E;rw[b0Z];exact⟨xs,M1,h0,o1,s1,h1,λx M' v H' p st oa si=>k v H' x M' oa si (t1.trans st) (h2 x M' p)⟩
theorem KK {T:String}{r:V->List V->Hp->VK->Prop}(h:DE K ta ρ M λx M1=>DTy K T x M1/\DA K tl ρ M1 λxs M2=>DM K r x xs M2 Q):DE K (tBM K T r ta tl) ρ M Q:=λσ H QQ R k=>
 h σ H _ R λv H1 x M1 o1 s1 t1 ⟨h0,h1⟩=>⟨h0 H1 v o1 s1,h1 σ H1 _ (R.step o1 t1) λvs H2 xs M2 o2 s2 t2 h2=>h2 H2 v vs QQ o2 (s1.step t2) s2 λw H3 z M3 o3 s3 t3 q=>k w H3 z M3 o3 s3 ((t1.trans t2).trans t3) q⟩
theorem jI {QP:Option Int->Own->Prop}(h:QP none M):DP K XD ρ M QP:=λσ H QQ R k=>k _ H M R.own Step.refl h
theorem jJ {QP:Option Int->Own->Prop}(h:DE K ta ρ M λx M1=>∃i,x = .d (.int i)/\QP (some i) M1):DP K (mM ta) ρ M QP:=λσ H QQ R k=>
 h σ H _ R λv H1 x M1 o1 s1 t1 h1=>by obtain⟨i,rfl,q⟩:=h1;unfold SI DV at s1;exact⟨i,s1,k _ H1 M1 o1 t1 q⟩
theorem sK {r:V->Option Int->Option Int->Hp->VK->Prop}{tl th:TO}(h:DE K ta ρ M λx M1=>DP K tl ρ M1 λlo M2=>DP K th ρ M2 λhi M3=>DSl K r x lo hi M3 Q):DE K (tSl r ta tl th) ρ M Q:=λσ H QQ R k=>
 h σ H _ R λv H1 x M1 o1 s1 t1 h1=>h1 σ H1 _ (R.step o1 t1) λlo H2 M2 o2 t2 h2=>h2 σ H2 _ (R.step o2 (t1.trans t2)) λhi H3 M3 o3 t3 h3=>h3 H3 v QQ o3 (s1.step (t2.trans t3)) λw H4 z M4 o4 s4 t4 q=>k w H4 z M4 o4 s4 (((t1.trans t2).trans t3).trans t4) q
variable {D:EndsD}{t u:TS}
theorem XQ (h:D.nx ρ M):DSt K mI ρ M D:=λσ H E R k1 _ _ _=>k1 ρ M σ H R Step.refl h
theorem cM (h:DE K ta ρ M D.rt):DSt K (nM ta) ρ M D:=λσ H E R _ k2 _ _=>h σ H E.rt R λv H' x M' a b c q=>k2 v H' x M' a b c q
theorem XR (h:DE K ta ρ M λ_ M1=>D.nx ρ M1):DSt K (bM ta) ρ M D:=λσ H E R k1 _ _ _=>h σ H _ R λv H' x M' a b c q=>k1 ρ M' σ H' (R.step a c) c q
theorem cO {i:Nat}(h:DE K ta ρ M λx M1=>D.nx (ρ.set i (some x)) M1):DSt K (VH ta (HK i)) ρ M D:=λσ H E R k1 _ _ _=>
 h σ H _ R λv H' x M' a b c q=>k1 _ M' _ H' ((R.step a c).set b i) c q
theorem XS {i:Nat}(h:DE K ta ρ M λx M1=>D.nx (ρ.set i (some x)) M1):DSt K (λD σ H=>ta σ H λv H'=>D.nx (σ.set i (some v)) H') ρ M D:=λσ H E R k1 _ _ _=>
 h σ H _ R λv H' x M' a b c q=>k1 _ M' _ H' ((R.step a c).set b i) c q
theorem cP (h:DSt K t ρ M { D with nx:=λρ1 M1=>DSt K u ρ1 M1 D }):DSt K (iI t u) ρ M D:=λσ H E R k1 k2 k3 k4=>by refine h σ H { E with nx:=λσ' H'=>u E σ' H' } R (λρ1 M1 σ1 H1 R1 t1 q=>?_) k2 k3 k4;exact q σ1 H1 E R1 (λa b c d e f g=>k1 a b c d e (t1.trans f) g) (λa b c d e f g q=>k2 a b c d e f (t1.trans g) q) (λa b c d e f g=>k3 a b c d e (t1.trans f) g) (λa b c d e f g=>k4 a b c d e (t1.trans f) g)
theorem sM (h:DT K tA ρ M λc M1=>if c=true then DSt K t ρ M1 D else DSt K u ρ M1 D):DSt K (nO tA t u) ρ M D:=λσ H E R k1 k2 k3 k4=>
 h σ H _ R λc H1 M1 o1 t1 h1=>by
   have go:∀{w:TS},DSt K w ρ M1 D->w E σ H1:=λq=>q σ H1 E (R.step o1 t1) (λa b c d e f g=>k1 a b c d e (t1.trans f) g) (λa b c d e f g q=>k2 a b c d e f (t1.trans g) q) (λa b c d e f g=>k3 a b c d e (t1.trans f) g) (λa b c d e f g=>k4 a b c d e (t1.trans f) g);cases c with
   | true=>rw[if_pos rfl] at h1 ⊢;exact go h1
   | false=>rw[if_neg nft] at h1 ⊢;exact go h1
theorem jK {D':EndsD}(h:DSt K t ρ M D) (h1:∀ρ' M',D.nx ρ' M'->D'.nx ρ' M') (h2:∀x M',D.rt x M'->D'.rt x M') (h3:∀ρ' M',D.bk ρ' M'->D'.bk ρ' M') (h4:∀ρ' M',D.ct ρ' M'->D'.ct ρ' M'):DSt K t ρ M D':=
 λσ H E R k1 k2 k3 k4=>h σ H E R (λa b c d e f g=>k1 a b c d e f (h1 _ _ g)) (λa b c d e f g q=>k2 a b c d e f g (h2 _ _ q)) (λa b c d e f g=>k3 a b c d e f (h3 _ _ g)) (λa b c d e f g=>k4 a b c d e f (h4 _ _ g))
theorem F6 {i:Nat}{a:Addr}{ds:List PyData}(e:ρ[i]?=some (some (.loc a))) (m:M a=some (.l ds)) (h:DSt K t (ρ.set i (some (.d (.list ds)))) (M.del a) D):DSt K t ρ M D:=λσ H E R k1 k2 k3 k4=>by
 have hs:(M.del a).Sub M:=λb o q=>by
   unfold Own.del at q;by_cases hb:b=a;. rw[if_pos hb] at q;cases q
   . rw[if_neg hb] at q;exact q
 have st:Step K M (M.del a) H H:=⟨AV hs⟩
 obtain⟨v,e1,e2⟩:=R.slot i _ e;obtain⟨vs,q1,q2⟩:=R.own a _ m;have R1:Rel K (M.del a) ρ σ H:=R.step (R.own.sub hs) st;have R2:=R1.set (x:=.d (.list ds)) (v:=v) (by
   unfold SI DV;refine⟨a,vs,e2,.inl ⟨λw=>w (by unfold Own.del;rw[if_pos rfl]),.inl q1⟩,q2.grow (AV hs)⟩) i;have e3:σ.set i (some v)=σ:=by
   apply b0V;intro j;rw[b0W];by_cases bc:i=j
   . subst bc;rw[if_pos rfl,e1];split;. rfl
     . rename_i hl;rw[a3Z (by lia)] at e1;cases e1
   . rw[if_neg bc]
 rw[e3] at R2;exact h σ H E R2 (λa b c d e f g=>k1 a b c d e (st.trans f) g) (λa b c d e f g q=>k2 a b c d e f (st.trans g) q) (λa b c d e f g=>k3 a b c d e (st.trans f) g) (λa b c d e f g=>k4 a b c d e (st.trans f) g)
end
end DL
namespace DL
open PySem PySem.Spec L2
section
variable {K:Frg}{ρ:List (Option DS)}{M:Own}{Q:DS->Own->Prop}{H:Hp}
theorem BZ {i:Int}{v:V}(h:SI K H M (.d (.int i)) v):v = .int i:=by unfold SI DV at h;exact h
theorem sN {i:Bool}{v:V}(h:SI K H M (.d (.bool i)) v):v = .bl i:=by unfold SI DV at h;exact h
theorem AX {i:Str}{v:V}(h:SI K H M (.d (.str i)) v):v = .str i:=by unfold SI DV at h;exact h
theorem cQ {v:V}(h:SI K H M (.d .none) v):v = .non:=by unfold SI DV at h;exact h
theorem BW {i:Int}:SI K H M (.d (.int i)) (.int i):=by unfold SI DV;rfl
theorem AH {i:Bool}:SI K H M (.d (.bool i)) (.bl i):=by unfold SI DV;rfl
theorem F7 {i:Str}:SI K H M (.d (.str i)) (.str i):=by unfold SI DV;rfl
theorem sO {g:Int->Int->Int}{i j:Int}(q:Q (.d (.int (g i j))) M):D2 K (rI0 λi j=>.int (g i j)) (.d (.int i)) (.d (.int j)) M Q:=λH v u QQ oa s1 s2 k=>by rw[BZ s1,BZ s2];exact⟨i,j,rfl,rfl,k _ H _ M oa BW Step.refl q⟩
theorem sP {g:Int->Int->Bool}{i j:Int}(q:Q (.d (.bool (g i j))) M):D2 K (rI0 λi j=>.bl (g i j)) (.d (.int i)) (.d (.int j)) M Q:=λH v u QQ oa s1 s2 k=>by rw[BZ s1,BZ s2];exact⟨i,j,rfl,rfl,k _ H _ M oa AH Step.refl q⟩
theorem T3 {C:Int->Int->Prop}{g:Int->Int->Int}{i j:Int}(c:C i j) (q:Q (.d (.int (g i j))) M):D2 K (rI C λi j=>.int (g i j)) (.d (.int i)) (.d (.int j)) M Q:=λH v u QQ oa s1 s2 k=>by rw[BZ s1,BZ s2];exact⟨i,j,rfl,rfl,c,k _ H _ M oa BW Step.refl q⟩
theorem u6 {g:Int->Int}{i:Int}(q:Q (.d (.int (g i))) M):D1 K (rU λi=>.int (g i)) (.d (.int i)) M Q:=λH v QQ oa s1 k=>by rw[BZ s1];exact⟨i,rfl,k _ H _ M oa BW Step.refl q⟩
theorem jL {i j:Str}(hz:i.length+j.length<=sizeLine) (q:Q (.d (.str (i++j))) M) :
   D2 K (λx y H Q=>∃i j,x = .str i/\y = .str j/\i.length+j.length<=sizeLine/\Q (.str (i++j)) H) (.d (.str i)) (.d (.str j)) M Q:=λH v u QQ oa s1 s2 k=>by rw[AX s1,AX s2];exact⟨i,j,rfl,rfl,hz,k _ H _ M oa F7 Step.refl q⟩
theorem pH {i j:Str}(q:Q (.d (.bool (!(a6X j i 0 j.length 1).isEmpty))) M) :
   D2 K (λx y H Q=>∃i j,x = .str i/\y = .str j/\Q (.bl (!(a6X j i 0 j.length 1).isEmpty)) H) (.d (.str i)) (.d (.str j)) M Q:=λH v u QQ oa s1 s2 k=>by rw[AX s1,AX s2];exact⟨i,j,rfl,rfl,k _ H _ M oa AH Step.refl q⟩
theorem B0 {neg:Bool}{a b:PyData}(ha:zH a=true) (hb:zH b=true) (q:Q (.d (.bool (if neg then !a1Z a b else a1Z a b))) M):D2 K (VW K neg) (.d a) (.d b) M Q:=λH v u QQ oa s1 s2 k=>
 ⟨M.W,a,b,s1,s2,ha,hb,k _ H _ M oa AH Step.refl q⟩
theorem T4 (x:Str) (ys:List Str):inV (.str x) (ys.map V.str)=decide (x∈ys):=by
 unfold inV;rw[a3X,List.any_eq_true,decide_eq_true_iff];constructor
 . rintro⟨y,hy,e⟩;obtain⟨z,hz,rfl⟩:=zL.mp hy;have:z=x:=by simpa [eqV] using e
   subst this;exact hz
 . intro h;exact⟨.str x,zL.mpr ⟨x,h,rfl⟩,by simp[eqV]⟩
theorem pI {neg:Bool}{x:Str}{ys:List Str}(q:Q (.d (.bool (if neg then !decide (x∈ys) else decide (x∈ys)))) M):D2 K (rIn K neg) (.d (.str x)) (.d (.list (ys.map .str))) M Q:=λH v u QQ oa s1 s2 k=>by rw[AX s1];unfold SI DV at s2;obtain⟨a,vs,rfl,hl,hd⟩:=s2;have e:=IW hd;subst e;exact⟨a,_,rfl,.inl hl.sq,rfl,by simp[HM],k _ H (.d (.bool (if neg then !decide (x∈ys) else decide (x∈ys)))) M oa (by rw[T4];exact AH) Step.refl q⟩
theorem cS {W:Addr->Prop}{ds:List PyData}{vs:List V}{i:Int}{d:PyData}(h:DVs K H W ds vs) (e:atI ds i=some d):∃v,atI vs i=some v/\DV K H W d v:=by
 unfold atI at e ⊢;rw[h.length];cases hx:ixN ds.length i with
 | none=>rw[hx] at e;cases e
 | some j=>rw[hx] at e;simpa using h.get' (by simpa using e)
theorem pJ {ds:List PyData}{i:Int}{d:PyData}(e:atI ds i=some d) (q:Q (.d d) M):D2 K (oH K) (.d (.list ds)) (.d (.int i)) M Q:=λH v u QQ oa s1 s2 k=>by rw[BZ s2];unfold SI DV at s1;obtain⟨a,vs,rfl,hl,hd⟩:=s1;obtain⟨w,h1,h2⟩:=cS hd e;exact⟨a,vs,i,w,rfl,rfl,hl.sq,h1,k _ H (.d d) M oa h2 Step.refl q⟩
theorem pK {ds:List PyData}{i:Int}{d:PyData}(e:atI ds i=some d) (q:Q (.d d) M):D2 K (oI K) (.d (.tuple ds)) (.d (.int i)) M Q:=λH v u QQ oa s1 s2 k=>by rw[BZ s2];unfold SI DV at s1;obtain⟨a,vs,rfl,hl,hd⟩:=s1;obtain⟨w,h1,h2⟩:=cS hd e;exact⟨a,vs,i,w,rfl,rfl,hl.sq,h1,k _ H (.d d) M oa h2 Step.refl q⟩
theorem pL {z:Str}{i:Int}{c:Nat}(hz:z.length<=sizeLine) (e:atI z.cps.toList i=some c) (q:Q (.d (.str ⟨#[c]⟩)) M):D2 K oJ (.d (.str z)) (.d (.int i)) M Q:=λH v u QQ oa s1 s2 k=>by rw[BZ s2,AX s1];exact⟨z,i,c,rfl,rfl,hz,e,k _ H _ M oa F7 Step.refl q⟩
theorem D7 {r r':R2}{x y:DS}(h:D2 K r x y M Q):D2 K (λx y H Q=>r x y H Q\/r' x y H Q) x y M Q:=λH v u QQ oa s1 s2 k=>.inl (h H v u QQ oa s1 s2 k)
theorem EW {r r':R2}{x y:DS}(h:D2 K r' x y M Q):D2 K (λx y H Q=>r x y H Q\/r' x y H Q) x y M Q:=λH v u QQ oa s1 s2 k=>.inr (h H v u QQ oa s1 s2 k)
theorem pM {as bs:List PyData}(hz:as.length+bs.length<=sizeLine) (q:Q (.d (.list (as++bs))) M):D2 K (λx y H Q=>∃a b xs ys,x = .ref a/\y = .ref b/\SqL K H a xs/\SqL K H b ys/\xs.length+ys.length<=sizeLine/\∀p,H p=none->Q (.ref p) (upd H p (.lst (xs++ys)))) (.d (.list as)) (.d (.list bs)) M Q:=λH v u QQ oa s1 s2 k=>by unfold SI DV at s1 s2;obtain⟨a,vs,rfl,hl,hd⟩:=s1;obtain⟨b,us,rfl,iu,hd2⟩:=s2;refine⟨a,b,vs,us,rfl,rfl,hl.sq,iu.sq,by rw[hd.length,hd2.length];exact hz,λp hp=>?_⟩;have g:Grow K M.W M.W H (upd H p (.lst (vs++us))):=AM _ hp;refine k _ _ (.d (.list (as++bs))) M (oa.new hp) ?_ ⟨g⟩ q;unfold SI DV;exact⟨p,_,rfl,.inl ⟨λw=>w (oa.none hp),.inl AF⟩,(hd.append hd2).grow g⟩
theorem jM {z:Str}(hz:z.length<=sizeLine) (q:Q (.d (.int z.length)) M):DR K (λxs H Q=>∃x n,xs=[x]/\bV K x H n/\Q (.int (n:Nat)) H) [.d (.str z)] M Q:=λH vs QQ oa s k=>by obtain⟨v,r,rfl,h1,h2⟩:=s;cases h2;rw[AX h1];exact⟨_,_,rfl,⟨hz,rfl⟩,k _ H _ M oa BW Step.refl q⟩
theorem jN {ds:List PyData}(q:Q (.d (.int ds.length)) M):DR K (λxs H Q=>∃x n,xs=[x]/\bV K x H n/\Q (.int (n:Nat)) H) [.d (.list ds)] M Q:=λH vs QQ oa s k=>by obtain⟨v,r,rfl,h1,h2⟩:=s;cases h2;unfold SI DV at h1;obtain⟨a,vs,rfl,hl,hd⟩:=h1;exact⟨_,_,rfl,.inl ⟨vs,hl.sq,rfl⟩,k _ H (.d (.int ds.length)) M oa (by rw[hd.length];exact BW) Step.refl q⟩
theorem jO {ds:List PyData}(q:Q (.d (.int ds.length)) M):DR K (λxs H Q=>∃x n,xs=[x]/\bV K x H n/\Q (.int (n:Nat)) H) [.d (.tuple ds)] M Q:=λH vs QQ oa s k=>by obtain⟨v,r,rfl,h1,h2⟩:=s;cases h2;unfold SI DV at h1;obtain⟨a,vs,rfl,hl,hd⟩:=h1;exact⟨_,_,rfl,.inr ⟨vs,hl.sq,rfl⟩,k _ H (.d (.int ds.length)) M oa (by rw[hd.length];exact BW) Step.refl q⟩
theorem pN {bs:List Bool}(q:Q (.d (.bool (bs.all id))) M):DR K (λxs H Q=>∃(p:Addr) (bs:List Bool),xs=[.ref p]/\SqL K H p (bs.map V.bl)/\Q (.bl (bs.all id)) H) [.d (.list (bs.map .bool))] M Q:=λH vs QQ oa s k=>by obtain⟨v,r,rfl,h1,h2⟩:=s;cases h2;unfold SI DV at h1;obtain⟨a,vs,rfl,hl,hd⟩:=h1;rw[K0 hd] at hl;exact⟨a,bs,rfl,hl.sq,k _ H _ M oa AH Step.refl q⟩
theorem pO {bs:List Bool}(q:Q (.d (.bool (bs.any id))) M):DR K (λxs H Q=>∃(p:Addr) (bs:List Bool),xs=[.ref p]/\SqL K H p (bs.map V.bl)/\Q (.bl (bs.any id)) H) [.d (.list (bs.map .bool))] M Q:=λH vs QQ oa s k=>by obtain⟨v,r,rfl,h1,h2⟩:=s;cases h2;unfold SI DV at h1;obtain⟨a,vs,rfl,hl,hd⟩:=h1;rw[K0 hd] at hl;exact⟨a,bs,rfl,hl.sq,k _ H _ M oa AH Step.refl q⟩
theorem XT {z:Str}:DTy K "str" (.d (.str z)) M:=λH v _ s=>by rw[AX s];exact rfl
theorem FP {a:Addr}{ds:List PyData}(m:M a=some (.l ds)):DTy K "list" (.loc a) M:=λH v oa s=>by unfold SI at s;subst s;obtain⟨vs,h0,hd⟩:=oa a _ m;exact .inl ⟨rfl,vs,SqL.of h0⟩
theorem jP {y:Str}{ys:List Str}(hz:(ys.map (·.length)).sum+ys.length*y.length<=16777216) (q:Q (.d (.str (Txt.join y ys))) M):DM K (cI K) (.d (.str y)) [.d (.list (ys.map .str))] M Q:=λH v vs QQ oa s1 s2 k=>by obtain⟨u,r,rfl,h1,h2⟩:=s2;cases h2;rw[AX s1];unfold SI DV at h1;obtain⟨a,us,rfl,hl,hd⟩:=h1;rw[IW hd] at hl;exact⟨y,a,ys,rfl,rfl,hl.sq,hz,k _ H _ M oa F7 Step.refl q⟩
theorem CJ {a:Addr}{ds:List PyData}{d:PyData}(m:M a=some (.l ds)) (hz:ds.length < sizeLine) (q:Q (.d .none) (M.put a (.l (ds++[d])))):DM K QU (.loc a) [.d d] M Q:=λH v vs QQ oa s1 s2 k=>by obtain⟨u,r,rfl,h1,h2⟩:=s2;cases h2;unfold SI at s1;subst s1;obtain⟨us,h0,hd⟩:=oa a _ m;obtain⟨x,y⟩:=K1 oa m (hd.append (DVs.cons h1 DVs.nil));exact⟨a,us,u,rfl,rfl,h0,by rw[hd.length];exact hz,k _ _ (.d .none) _ x (by unfold SI DV;rfl) y q⟩
theorem jQ {z:Str}{lo hi:Option Int}(hz:z.length<=sizeLine) (q:Q (.d (.str (b0J z lo hi))) M):DSl K oW (.d (.str z)) lo hi M Q:=λH v QQ oa s1 k=>by rw[AX s1];exact⟨z,rfl,hz,k _ H _ M oa F7 Step.refl q⟩
def FQ (xs:List PyData) (lo hi:Option Int):List PyData:=(xs.drop (HT.sIx xs.length 0 lo)).take (HT.sIx xs.length xs.length hi - HT.sIx xs.length 0 lo)
theorem cT {ds:List PyData}{lo hi:Option Int}(q:Q (.d (.list (FQ ds lo hi))) M):DSl K (oN K) (.d (.list ds)) lo hi M Q:=λH v QQ oa s1 k=>by
 unfold SI DV at s1;obtain⟨a,vs,rfl,hl,hd⟩:=s1;refine⟨a,vs,rfl,hl.sq,λp hp=>?_⟩;have g:Grow K M.W M.W H (upd H p (.lst (IB vs lo hi))):=AM _ hp;have key:DVs K H M.W (FQ ds lo hi) (IB vs lo hi):=by unfold FQ IB;rw[hd.length];exact(hd.drop _).take _
 refine k _ _ (.d (.list (FQ ds lo hi))) M (oa.new hp) ?_ ⟨g⟩ q;unfold SI DV;exact⟨p,_,rfl,.inl ⟨λw=>w (oa.none hp),.inl AF⟩,key.grow g⟩
theorem ML {D:EndsD}{te to ti:TE}(h:DE K te ρ M λx M1=>∃d,x = .d d/\DE K to ρ M1 λo M2=>DE K ti ρ M2 λi M3=>∃a ds k j,o = .loc a/\i = .d (.int k)/\M3 a=some (.l ds)/\ixN ds.length k=some j/\D.nx ρ (M3.put a (.l (ds.set j d)))) :
   DSt K (VH te (rM to ti mN)) ρ M D:=λσ H E R k1 _ _ _=>
 h σ H _ R λv H1 x M1 o1 s1 t1 h1=>by obtain⟨d,rfl,h1⟩:=h1;refine h1 σ H1 _ (R.step o1 t1) λw H2 y M2 o2 s2 t2 h2=>h2 σ H2 _ (R.step o2 (t1.trans t2)) λu H3 z M3 o3 s3 t3 h3=>?_;obtain⟨a,ds,k,j,rfl,rfl,m,hj,q⟩:=h3;rw[BZ s3];have e:=s2.step t3;unfold SI at e;subst e;obtain⟨vs,h0,hd⟩:=o3 a _ m;obtain⟨p1,p2⟩:=K1 o3 m (hd.set j (s1.step (t2.trans t3)));have st:=((t1.trans t2).trans t3).trans p2;exact⟨a,vs,k,j,rfl,rfl,h0,by rw[hd.length];exact hj,k1 _ _ _ _ (R.step p1 st) st q⟩
end
end DL
namespace DL
open PySem PySem.Spec L2
structure WD (K:Frg) (J:It) (ds:List PyData) (H1:Hp) (M1:Own):Prop where
 go:∀(i:Nat) H' M',i < ds.length->OA K H' M'->Step K M1 M' H1 H'->J.go i H'
 stop:∀H' M',OA K H' M'->Step K M1 M' H1 H'->J.stop ds.length H'
 yld:∀(i:Nat) H' M' x H2,OA K H' M'->Step K M1 M' H1 H'->i < ds.length->J.yld i H' x H2->OA K H2 M'/\Step K M' M' H' H2/\∃d,ds[i]?=some d/\DV K H2 M'.W d x
def DI (K:Frg) (wi:TI) (ρ:List (Option DS)) (M:Own) (Q:List PyData->Own->Prop):Prop:=∀(σ:St) (H:Hp) (R:It->Hp->Prop),Rel K M ρ σ H->(∀J ds H1 M1,OA K H1 M1->Step K M M1 H H1->WD K J ds H1 M1->Q ds M1->R J H1)->wi σ H R
def DG (K:Frg) (g:TG) (d:PyData) (ρ:List (Option DS)) (M:Own) (P:List (Option DS)->Own->Prop):Prop:=∀(σ:St) (H:Hp) (v:V) (QQ:St->Hp->Prop),Rel K M ρ σ H->DV K H M.W d v->(∀ρ' M' σ' H',Rel K M' ρ' σ' H'->Step K M M' H H'->P ρ' M'->QQ σ' H')->g v σ H QQ
def PK (g:TG) (T:List Nat):Prop:=∀(v:V) (σ:St) (H:Hp) (QQ:St->Hp->Prop),g v σ H (λσ2 H2=>(∀i,i∉T->σ2[i]?=σ[i]?)->QQ σ2 H2)->g v σ H QQ
section
variable {K:Frg}{ρ:List (Option DS)}{M:Own}{D:EndsD}{tl:TE}{tb:TS}{i:Nat}{QI:List PyData->Own->Prop}{g:TG}{wi:TI}
def BM (z:Str):List PyData:=z.cps.toList.map λc=>.str ⟨#[c]⟩
def F8 (lo:Int) (n:Nat):List PyData:=(a1V n).map λ(i:Nat)=>.int (lo+i)
theorem H0 {ta:TA}(h:DA K ta ρ M λxs M1=>∃j:Int,xs=[.d (.int j)]/\-(2 ^ 62)<=j/\j < 2 ^ 62/\QI (F8 0 j.toNat) M1):DI K (mJ ta) ρ M QI:=λσ H R Rl k=>
 h σ H _ Rl λvs H1 xs M1 o1 s1 t1 ⟨j,e,h1,h2,q⟩=>by
   subst e;obtain⟨v,r,rfl,h3,h4⟩:=s1;cases h4;rw[show v = .int j by unfold SI DV at h3;exact h3];have af:(F8 0 j.toNat).length=j.toNat:=by simp[F8]
   refine⟨j,rfl,h1,h2,k _ (F8 0 j.toNat) H1 M1 o1 t1 ⟨λi H' M' hi oa st=>?_,λH' M' oa st=>?_,λi H' M' x H2 oa st hi y=>?_⟩ q⟩;. show i < j.toNat;rw[<-af];exact hi
   . show j.toNat<=(F8 0 j.toNat).length;rw[af];exact zR _
   . obtain⟨rfl,rfl⟩:=y;refine⟨oa,Step.refl,.int (0+i),?_,by unfold DV;rfl⟩;unfold F8;rw[zF];rw[af] at hi;simp[hi]
theorem jR {d:PyData}{P:List (Option DS)->Own->Prop}(h:P (ρ.set i (some (.d d))) M):DG K (HK i) d ρ M P:=λσ H v QQ R dv k=>k _ M _ H (R.set (x:=.d d) dv i) Step.refl h
theorem C0 (i:Nat):PK (HK i) [i]:=λv σ H QQ h=>h λj hj=>by rw[b1Z (by rintro rfl;exact hj (by simp))]
abbrev EndsD.turn (D:EndsD) (P:List (Option DS)->Own->Prop):EndsD:={ nx:=P,ct:=P,bk:=D.nx,rt:=D.rt }
theorem IC (h:DI K wi ρ M λds M1=>∃P:Nat->List (Option DS)->Own->Prop,P 0 ρ M1/\(∀k d ρ' M',ds[k]?=some d->P k ρ' M'->DG K g d ρ' M' λρ2 M2=>DSt K tb ρ2 M2 (D.turn (P (k+1))))/\∀ρ' M',P ds.length ρ' M'->D.nx ρ' M') :
   DSt K (nS wi g tb) ρ M D:=λσ H E R k1 k2 k3 k4=>
 h σ H _ R λJ ds H1 M1 o1 t1 wd ⟨P,p0,pt,pe⟩=>by
   refine⟨λi m σ' H'=>m=ds.length - i/\i<=ds.length/\∃ρ' M',Rel K M' ρ' σ' H'/\Step K M1 M' H1 H'/\P i ρ' M',⟨_,rfl,xU _,ρ,M1,R.step o1 t1,Step.refl,p0⟩,?_⟩;rintro i m σ' H' ⟨rfl,hi,ρ',M',R',st,p⟩;by_cases dj:i < ds.length;. refine .inr ⟨wd.go i H' M' dj R'.own st,λσ2 H2=>∃ρ2 M2,Rel K M2 ρ2 σ2 H2/\Step K M1 M2 H1 H2/\P (i+1) ρ2 M2,λσ2 H2 ⟨ρ2,M2,a,b,c⟩=>⟨ds.length - (i+1),by omega,rfl,dj,ρ2,M2,a,b,c⟩,λx H2 y=>?_⟩;obtain⟨z9,ik,d,e1,e2⟩:=wd.yld i H' M' x H2 R'.own st dj y;refine pt i d ρ' M' e1 p σ' H2 x _ (R'.step z9 ik) e2 λρ3 M3 σ3 H3 R3 ml b3=>?_;have s3:=(st.trans ik).trans ml;exact b3 σ3 H3 _ R3 (λr m s hh R4 mo q=>⟨r,m,R4,s3.trans mo,q⟩) (λw hh x m a b c q=>k2 w hh x m a b (t1.trans (s3.trans c)) q) (λr m s hh R4 mo q=>k1 r m s hh R4 (t1.trans (s3.trans mo)) q) (λr m s hh R4 mo q=>⟨r,m,R4,s3.trans mo,q⟩)
   . have e:i=ds.length:=by omega
     subst e;exact .inl ⟨wd.stop H' M' R'.own st,k1 ρ' M' σ' H' R' (t1.trans st) (pe ρ' M' p)⟩
def KL (fr:List (Option Nat)) (ρ:List (Option DS)):List (Option DS):=fr.map λo=>o.bind λj=>(ρ[j]?).join
theorem K2 {fr:List (Option Nat)}{α:Type}{ρ:List (Option α)}{i:Nat}{x:α}(h:(fr.map λo=>o.bind λj=>(ρ[j]?).join)[i]?=some (some x)):∃j,fr[i]?=some (some j)/\ρ[j]?=some (some x):=by
 rw[zF] at h;cases hf:fr[i]? with
 | none=>rw[hf] at h;cases h
 | some o=>
   rw[hf] at h;cases o with
   | none=>cases h
   | some j=>
     refine⟨j,rfl,?_⟩;have e2:((ρ[j]?).join)=some x:=Option.some.inj h;cases hs:ρ[j]? with
     | none=>rw[hs] at e2;cases e2
     | some q=>rw[hs] at e2;cases q with
       | none=>cases e2
       | some v'=>cases e2;rfl
theorem Rel.capt {fr:List (Option Nat)}{σ:St}{H:Hp}(R:Rel K M ρ σ H):Rel K M (KL fr ρ) (L2.capt fr σ) H:=by refine⟨R.own,by unfold KL L2.capt;rw[zX,zX],λi x e=>?_⟩;obtain⟨j,e1,e2⟩:=K2 e;obtain⟨v,h1,h2⟩:=R.slot j x e2;refine⟨v,?_,h2⟩;unfold L2.capt;rw[zF,e1];simp[h1]
theorem XU {fr:List (Option Nat)}{tt:TT}{te:TE}{T:List Nat}{Q:DS->Own->Prop}(ho:PK g T) (hT:∀i∈T,∀j,fr[i]?≠some (some j)) (h:DI K wi ρ M λds M1=>ds.length < sizeLine/\∀D,M1 D=none->∃P:Nat->List PyData->Own->Prop,P 0 [] (M1.put D (.l []))/\(∀k acc M',P k acc M'->M' D=some (.l acc)/\acc.length<=k) /\(∀k d acc M',ds[k]?=some d->P k acc M'->DG K g d (KL fr ρ) M' λρ2 M2=>DT K tt ρ2 M2 λc M3=>if c=true then DE K te ρ2 M3 λy M4=>∃r,y = .d r/\M4 D=some (.l acc)/\P (k+1) (acc++[r]) (M4.put D (.l (acc++[r]))) else P (k+1) acc M3) /\∀acc M',P ds.length acc M'->Q (.d (.list acc)) (M'.del D)) :
   DE K (PH fr wi g tt te) ρ M Q:=λσ H QQ R k=>
 h σ H _ R λJ ds H1 M1 o1 t1 wd ⟨hsz,hq⟩=>by
   intro A hA;obtain⟨P,p0,pa,pt,pe⟩:=hq A (o1.none hA);obtain⟨oA,sA⟩:=R5 o1 hA (DVs.nil (K:=K) (H:=H1) (W:=M1.W));refine⟨λi m ys H2=>m=ds.length - i/\i<=ds.length/\H2 A=some (.lst ys)/\∃acc M',OA K H2 M'/\Step K M1 M' H1 H2/\P i acc M',⟨_,rfl,xU _,AF,[],_,oA,sA,p0⟩,?_⟩;rintro i m ys H2 ⟨rfl,hi,xj,acc,M',oa,st,p⟩;refine⟨xj,?_⟩;have zA:∀{N:Own},(N.del A).Sub N:=λ{N} b o q=>by
     unfold Own.del at q;by_cases hb:b=A;. rw[if_pos hb] at q;cases q
     . rw[if_neg hb] at q;exact q
   by_cases dj:i < ds.length
   . refine .inr ⟨wd.go i H2 M' dj oa st,λx H3 y=>?_⟩;obtain⟨zE,ml,d,e1,e2⟩:=wd.yld i H2 M' x H3 oa st dj y;have Rc:Rel K M' (KL fr ρ) (L2.capt fr σ) H3:=((R.step o1 t1).step zE (st.trans ml)).capt;refine ho _ _ _ _ (pt i d acc M' e1 p (L2.capt fr σ) H3 x _ Rc e2 λρ3 M3 σ3 H4 R3 mo b3 hext=>⟨λi' v' xk=>?_,?_⟩);. obtain⟨j,f1,f2⟩:=K2 xk;rw[hext i' λhm=>hT i' hm j f1];exact xk
     . refine b3 σ3 H4 _ R3 λc H5 M5 o5 qg h5=>?_;have sx:=((st.trans ml).trans mo).trans qg;cases c with
       | false=> rw[if_neg nft] at h5 ⊢;obtain⟨hm,_⟩:=pa _ _ _ h5;obtain⟨vs,q1,q2⟩:=o5 A _ hm;exact⟨vs,ds.length - (i+1),by omega,rfl,dj,q1,acc,M5,o5,sx,h5⟩
       | true=> rw[if_pos rfl] at h5 ⊢;refine h5 σ3 H5 _ (R3.step o5 qg) λy H6 z M6 o6 s6 yE h6=>?_;obtain⟨r,rfl,hm,p'⟩:=h6;obtain⟨vs,q1,q2⟩:=o6 A _ hm;obtain⟨w1,w2⟩:=K1 o6 hm (q2.append (DVs.cons s6 DVs.nil));have af:acc.length<=i:=(pa _ _ _ p).2;exact⟨vs,q1,by rw[q2.length];omega,ds.length - (i+1),by omega,rfl,dj,AF,_,_,w1,(sx.trans yE).trans w2,p'⟩
   . have e:i=ds.length:=by omega
     subst e;refine .inl ⟨wd.stop H2 M' oa st,?_⟩;obtain⟨hm,_⟩:=pa _ _ _ p;obtain⟨vs,q1,q2⟩:=oa A _ hm;have c_:Step K M' (M'.del A) H2 H2:=⟨AV zA⟩
     refine k _ H2 (.d (.list acc)) (M'.del A) (oa.sub zA) ?_ ((t1.trans st).trans c_) (pe acc M' p);unfold SI DV;exact⟨A,vs,rfl,.inl ⟨λw=>w (by unfold Own.del;rw[if_pos rfl]),.inl q1⟩,q2.grow (AV zA)⟩
theorem BG {fr:List (Option Nat)}{tt:TT}{te:TE}{T:List Nat}{Q:DS->Own->Prop}(ho:PK g T) (hT:∀i∈T,∀j,fr[i]?≠some (some j)) (h:DI K wi ρ M λds M1=>ds.length < sizeLine/\∃(c:PyData->Bool) (f:PyData->PyData),(∀d∈ds,∀M',DG K g d (KL fr ρ) M' λρ2 M2=>M2=M'/\DT K tt ρ2 M2 λb M3=>M3=M'/\b=c d/\(c d=true->DE K te ρ2 M3 λy M4=>y = .d (f d)/\M4=M'))/\Q (.d (.list ((ds.filter c).map f))) M1) :
   DE K (PH fr wi g tt te) ρ M Q:=by
 refine XU ho hT λσ H R Rl k=>h σ H R Rl λJ ds H1 M1 o1 t1 wd q=>k J ds H1 M1 o1 t1 wd ?_;obtain⟨hsz,c,f,he,q⟩:=q;refine⟨hsz,λA hA=>⟨λk acc M'=>acc=((ds.take k).filter c).map f/\M'=M1.put A (.l acc),⟨by simp,rfl⟩,λk acc M' ⟨e1,e2⟩=>⟨by rw[e2];exact zU,?_⟩,λk d acc M' hd ⟨e1,e2⟩=>?_,λacc M' ⟨e1,e2⟩=>?_⟩⟩;. rw[e1,zX];exact zN (yJ _ _) (by rw[a2Q];omega)
 . have hm:d∈ds:=yN hd;intro σ H v QQ R dv kk;refine he d hm M' σ H v QQ R dv λρ' M2 σ' H' R' st ⟨eM,q2⟩=>kk ρ' M2 σ' H' R' st λσ2 H2 QQ2 R2 k2=>?_;refine q2 σ2 H2 QQ2 R2 λb H3 M3 o3 ml ⟨zK,eb,q3⟩=>k2 b H3 M3 o3 ml ?_;have ts:(ds.take (k+1)).filter c=(ds.take k).filter c++(if c d then [d] else []):=take_succ_filter c ds k d hd;cases hb:c d with
   | false=> rw[hb] at eb;subst eb;refine L2.j4 ⟨?_,by rw[zK,e2]⟩;rw[ts,hb,e1];simp
   | true=>
     rw[hb] at eb;subst eb;refine L2.j6 ?_;refine XN (q3 hb) λy M4 ⟨ey,e4⟩=>⟨f d,ey,by rw[e4,e2];exact zU,?_,by rw[e4,e2,yI]⟩
     rw[ts,hb,e1];simp
 . rw[e2,yG hA,e1,a3J];exact q
end
def MM (N:List Str) (xs:List DS):List (Option DS):=xs.map some++b1K (N.length - xs.length) none
section
variable {P:Program}{w:World}{K:Frg}{mg:Str->Option Value}{base:Heap}
theorem SIs.get {M:Own}{H:Hp}:∀{xs:List DS}{vs:List V}{i:Nat}{x:DS},SIs K H M xs vs->xs[i]?=some x->∃v,vs[i]?=some v/\SI K H M x v
 | [],_,_,_,_,e=>by simp at e
 | d::ds,vs,i,x,⟨v,r,e',h1,h2⟩,e=>by
   subst e';cases i with
   | zero=>simp at e;subst e;exact⟨v,rfl,h1⟩
   | succ i=>simpa using SIs.get h2 (by simpa using e)
theorem PL {M:Own}{H:Hp}{N:List Str}{xs:List DS}{vs:List V}(oa:OA K H M) (h:SIs K H M xs vs):Rel K M (MM N xs) (L2.CI N vs) H:=by
 have hl:=h.length;refine⟨oa,by unfold MM L2.CI;simp[hl],λi x e=>?_⟩;unfold MM at e;by_cases hi:i < xs.length
 . rw[yQ (by simpa using hi),zF] at e;cases q:xs[i]? with
   | none=>rw[q] at e;cases e
   | some y=> rw[q] at e;cases e;obtain⟨v,h1,h2⟩:=h.get q;refine⟨v,?_,h2⟩;unfold L2.CI;rw[yQ (by rw[zX,hl];exact hi),zF,h1];rfl
 . rw[List.getElem?_append_right (by simpa using hi),List.getElem?_replicate] at e;split at e <;> cases e
theorem fnD {x qual:Str}{st:Stmt}{f:Addr}{fd:FuncData}{N ps:List Str}{k:Nat}{S:FSp}(F:Fun K x qual st f fd) (Sc:FnScope N ps (AC st)) (bf:∀(cdv:Value) (A:Around) (outer:List Env) (s:Shared) (H:Hp) (E:XK),Room k (A.deeper (PyProof.Rows.envOfC qual (AC st) s.heap.objs.size f cdv)) ->∃t,PSs (HJ CX0 P w K mg base N qual (AC st) f cdv A outer s H E).nox (B1 st) t/\∀xs M,xs.length=ps.length->S.pre xs M->DSt K t (MM N xs) M { nx:=λ_ M1=>∃M2:Own,M2.Sub M1/\S.post xs M (.d .none) M2,rt:=λy M1=>∃M2:Own,M2.Sub M1/\S.post xs M y M2 }) :
   FnOk P w K mg base CX0 (k+1) f fd ps (spD K ps.length S):=by
 refine F.ok Sc XO λcdv A outer s H vs Q E hr h=>?_;obtain⟨t,ht,hq⟩:=bf cdv A outer s H E hr;obtain⟨xs,M,hl,oa,si,pre,post⟩:=h;refine⟨t,ht,hq xs M hl pre (L2.CI N vs) H _ (PL oa si) ?_ ?_ (λ_ _ _ _ _ _ z=>z.elim) (λ_ _ _ _ _ _ z=>z.elim)⟩;. rintro ρ' M1 σ' H' R st ⟨M2,hs,p⟩;exact post (.d .none) M2 .non H' p (st.trans ⟨AV hs⟩) (R.own.sub hs) (by unfold SI DV;rfl)
 . rintro v H' y M1 o s1 st ⟨M2,hs,p⟩;exact post y M2 v H' p (st.trans ⟨AV hs⟩) (o.sub hs) (s1.sub hs)
end
end DL
namespace L2
open PySem PySem.Spec PyProof.Rows
section
variable {X:Cx}{tg:Expr}
def T5 (K:Frg):R2:=λx y H Q=>(rI0 λi j=>.int (i+j)) x y H Q\/((∃i j,x = .str i/\y = .str j/\i.length+j.length<=sizeLine/\Q (.str (i++j)) H)\/mS K x y H Q)
theorem jS:OpR X (binaryOp .Add) (T5 X.K):=nW.or (VN.or jE)
def ZD (K:Frg):R2:=λx y H Q=>oH K x y H Q\/(oI K x y H Q\/oJ x y H Q)
theorem pP:IxR X (ZD X.K):=iV.or (oK.or oM)
def jT (K:Frg):V->Option Int->Option Int->Hp->VK->Prop:=λx lo hi H Q=>oN K x lo hi H Q\/oW x lo hi H Q
theorem pQ:SlR X (jT X.K):=iW.or oX
def sQ:R2:=λx y H Q=>(rI0 λi j=>.bl (decide (i < j))) x y H Q\/∃i j,x = .str i/\y = .str j/\Q (.bl (decide (i.cps.toList < j.cps.toList))) H
theorem cU:OpR X (compareOp .Lt) sQ:=rQ.or Z4
def cV (K:Frg):R2:=λx y H Q=>(∃i j,x = .str i/\y = .str j/\Q (.bl (!(a6X j i 0 j.length 1).isEmpty)) H)\/rIn K false x y H Q
theorem pR:OpR X (compareOp .In) (cV X.K):=Z5.or Z8
def cW (K:Frg) (tl:TE):TI:=λσ H R=>tl σ H λx H1=>(∃a,x = .ref a/\(∃xs,SqL K H1 a xs)/\R (Itl K a) H1)\/(∃a,x = .ref a/\(∃xs,SqT K H1 a xs)/\R (Itt K a) H1)\/∃y,x = .str y/\R (Its y) H1
theorem pS {l:Expr}{tl:TE}(hl:PE X l tl):PI X tg l (cW X.K tl):=by
 intro pins s σ H R I h;refine thn (hl pins s σ H _ I h) λv s1 ⟨x,H1,I1,r1,q1⟩=>?_;have fp:∀b∈[s1.heap.objs.size],JW X pins H1 b:=λb hb=>by
   have e:b=s1.heap.objs.size:=by simpa using hb
   subst e;exact I1.fpOk (zR _) (I1.hok.fresh (zR _))
 rcases q1 with ⟨a,e,⟨xs,hq⟩,q⟩ | ⟨a,e,⟨xs,hq⟩,q⟩ | ⟨y,e,q⟩
 . subst e;cases r1;obtain⟨aa,rv,p,hz⟩:=I1.list hq;refine wpAny_pyIter_list p.isList ?_;exact⟨s1.heap.objs.size,[s1.heap.objs.size],_,_,H1,rfl,I1.kept (t':=s1.toks) λb o e=>zW _ e,Z1 a _,⟨_,yZ _ rfl,rfl,rfl⟩,fp,q⟩
 . subst e;cases r1;obtain⟨aa,rv,p,hz⟩:=I1.tuple hq;refine wpAny_pyIter_tuple (show s1.heap.IsTuple a aa.toArray from p) ?_;exact⟨s1.heap.objs.size,[s1.heap.objs.size],_,_,H1,rfl,I1.kept (t':=s1.toks) λb o e=>zW _ e,VJ a _,⟨_,yZ _ rfl,rfl,rfl⟩,fp,q⟩
 . subst e;obtain⟨t,rfl⟩:=r1;cases ha:y.cps.all (· < 128)
   . exact wpAny_pyIter_wide ha ⟨s1.heap.objs.size,[s1.heap.objs.size],_,_,H1,rfl,I1.kept (t':=s1.toks) λb o e=>zW _ e,
       T2 s1.heap.objs.size "str_iterator" y t (by decide) (λA hA=>Walks.strWide hA _ y t) (λ_ _ _ _ _ st h=>wpAny_pyIter_striter_wide st h),⟨_,yZ _ rfl,rfl,rfl⟩,fp,q⟩
   . exact wpAny_pyIter_ascii ha ⟨s1.heap.objs.size,[s1.heap.objs.size],_,_,H1,rfl,I1.kept (t':=s1.toks) λb o e=>zW _ e,
       T2 s1.heap.objs.size "str_ascii_iterator" y t (by decide) (λA hA=>Walks.strAscii hA _ y t) (λ_ _ _ _ _ st h=>wpAny_pyIter_striter_ascii st h),⟨_,yZ _ rfl,rfl,rfl⟩,fp,q⟩
end
def cX:NameKind->Bool | .free=>true | _=>false
def cY:NameKind->Bool | .cell=>true | _=>false
def XV:NameKind->Bool | .local=>true | _=>false
def cZ (vH:Scope) (ON:List Str) (scope:Scope) (NC:List Str) (fr:List (Option Nat)):Bool:=(match scope.kind with | .function=>true | _=>false)&&scope.names.all (λy=>!cY y.2) &&
 scope.names.all (λy=>!XV y.2||(match scope.names.lookup y.1 with | some .local=>true | _=>false)) &&
 scope.names.all (λy=>!cX y.2||(match vH.names.lookup y.1 with | some .cell=>true | some .free=>true | _=>false)) &&
 fr.length==NC.length &&
 (a1V NC.length).all λi=>match fr[i]?,NC[i]? with
   | some (some j),some x=>ON[j]?==some x&&(match scope.names.lookup x with | some .free=>true | _=>false)&&(match vH.names.lookup x with | some .cell=>true | some .free=>true | _=>false)
   | _,_=>true
theorem CSc.of {X:Cx}{scope:Scope}{NC:List Str}{fr:List (Option Nat)}{vH:Scope}{ON:List Str}(h:cZ vH ON scope NC fr=true) (e:X.env.scope=vH) (eN:X.N=ON):CSc X scope NC fr:=by
 subst e eN;unfold cZ at h;simp only[a0V,a4Z,List.mem_range,beq_iff_eq] at h;obtain⟨⟨⟨⟨⟨h1,h2⟩,h3⟩,h4⟩,h5⟩,h6⟩:=h;refine⟨?_,λy hy e=>?_,λy hy e=>?_,λy hy e=>?_,h5,λi j x e1 e2=>?_⟩;. cases hk:scope.kind <;> rw[hk] at h1 <;> simp at h1 ⊢
 . have:=h2 y hy;rw[e] at this;simp[cY] at this
 . have:=h3 y hy;rw[e] at this;simp only[XV,Bool.not_true,Bool.false_or] at this;cases hl:scope.names.lookup y.1 with
   | none=>rw[hl] at this;cases this
   | some k=>rw[hl] at this;cases k <;> first | rfl | cases this
 . have:=h4 y hy;rw[e] at this;simp only[cX,Bool.not_true,Bool.false_or] at this;cases hl:X.env.scope.names.lookup y.1 with
   | none=>rw[hl] at this;cases this
   | some k=>
     rw[hl] at this;cases k <;> first
       | exact .inl hl
       | exact .inr hl
       | cases this
 . have hi:i < NC.length:=(yT.mp e1).1;have:=h6 i hi;rw[e1,e2] at this;simp only[a0V,beq_iff_eq] at this;obtain⟨⟨q1,q2⟩,q3⟩:=this;refine⟨q1,?_,?_⟩
   . cases hl:scope.names.lookup x with
     | none=>rw[hl] at q2;cases q2
     | some k=>rw[hl] at q2;cases k <;> first | rfl | cases q2
   . cases hl:X.env.scope.names.lookup x with
     | none=>rw[hl] at q3;cases q3
     | some k=>
       rw[hl] at q3;cases k <;> first
         | exact⟨.inr (.inl hl),λz=>by have z':X.env.scope.names.lookup x=some .local:=z;rw[hl] at z';cases z'⟩
         | exact⟨.inr (.inr hl),λz=>by have z':X.env.scope.names.lookup x=some .local:=z;rw[hl] at z';cases z'⟩
         | cases q3
end L2
namespace DL
open PySem PySem.Spec L2
section
variable {K:Frg}{ρ:List (Option DS)}{M:Own}{Q:DS->Own->Prop}{H:Hp}{QI:List PyData->Own->Prop}{tl ta tb:TE}
theorem d0 {i j:Int}(q:Q (.d (.int (i+j))) M):D2 K (T5 K) (.d (.int i)) (.d (.int j)) M Q:=D7 (sO q)
theorem dA {i j:Str}(hz:i.length+j.length<=sizeLine) (q:Q (.d (.str (i++j))) M):D2 K (T5 K) (.d (.str i)) (.d (.str j)) M Q:=EW (D7 (jL hz q))
theorem dB {a b:List PyData}(hz:a.length+b.length<=sizeLine) (q:Q (.d (.list (a++b))) M):D2 K (T5 K) (.d (.list a)) (.d (.list b)) M Q:=EW (EW (pM hz q))
theorem AK {ds:List PyData}{i:Int}{d:PyData}(e:atI ds i=some d) (q:Q (.d d) M):D2 K (ZD K) (.d (.list ds)) (.d (.int i)) M Q:=D7 (pJ e q)
theorem AB {ds:List PyData}{i:Int}{d:PyData}(e:atI ds i=some d) (q:Q (.d d) M):D2 K (ZD K) (.d (.tuple ds)) (.d (.int i)) M Q:=EW (D7 (pK e q))
theorem XW {z:Str}{i:Int}{c:Nat}(hz:z.length<=sizeLine) (e:atI z.cps.toList i=some c) (q:Q (.d (.str ⟨#[c]⟩)) M):D2 K (ZD K) (.d (.str z)) (.d (.int i)) M Q:=EW (EW (pL hz e q))
theorem dC {z:Str}{lo hi:Option Int}(hz:z.length<=sizeLine) (q:Q (.d (.str (b0J z lo hi))) M):DSl K (jT K) (.d (.str z)) lo hi M Q:=λH v QQ oa s1 k=>.inr (jQ hz q H v QQ oa s1 k)
theorem ZE {ds:List PyData}{lo hi:Option Int}(q:Q (.d (.list (FQ ds lo hi))) M):DSl K (jT K) (.d (.list ds)) lo hi M Q:=λH v QQ oa s1 k=>.inl (cT q H v QQ oa s1 k)
theorem jU {i j:Int}(q:Q (.d (.bool (decide (i < j)))) M):D2 K sQ (.d (.int i)) (.d (.int j)) M Q:=D7 (sP q)
theorem jV {i j:Str}(q:Q (.d (.bool (!(a6X j i 0 j.length 1).isEmpty))) M):D2 K (cV K) (.d (.str i)) (.d (.str j)) M Q:=D7 (pH q)
theorem jW {x:Str}{ys:List Str}(q:Q (.d (.bool (decide (x∈ys)))) M):D2 K (cV K) (.d (.str x)) (.d (.list (ys.map .str))) M Q:=EW (pI (neg:=false) q)
theorem BN (h:DE K tl ρ M λx M1=>∃ds,x = .d (.list ds)/\QI ds M1):DI K (cW K tl) ρ M QI:=λσ H R Rl k=>
 h σ H _ Rl λv H1 x M1 o1 s1 t1 ⟨ds,e,q⟩=>by
   subst e;unfold SI DV at s1;obtain⟨a,vs,rfl,hl,hd⟩:=s1;refine .inl ⟨a,rfl,⟨vs,hl.sq⟩,k _ ds H1 M1 o1 t1 ⟨λi H' M' hi oa st=>?_,λH' M' oa st=>?_,λi H' M' x H2 oa st hi y=>?_⟩ q⟩;. exact⟨vs,vs[i]'(by rw[hd.length];exact hi),(hl.grow st.grow).sq,by simp[hd.length,hi]⟩
   . exact⟨vs,(hl.grow st.grow).sq,by rw[hd.length];exact zR _⟩
   . obtain⟨rfl,y⟩:=y;obtain⟨d,e1,e2⟩:=hd.get (y vs (hl.grow st.grow).sq);exact⟨oa,Step.refl,d,e1,e2.grow st.grow⟩
theorem R6 (h:DE K tl ρ M λx M1=>∃ds,x = .d (.tuple ds)/\QI ds M1):DI K (cW K tl) ρ M QI:=λσ H R Rl k=>
 h σ H _ Rl λv H1 x M1 o1 s1 t1 ⟨ds,e,q⟩=>by
   subst e;unfold SI DV at s1;obtain⟨a,vs,rfl,hl,hd⟩:=s1;refine .inr (.inl ⟨a,rfl,⟨vs,hl.sq⟩,k _ ds H1 M1 o1 t1 ⟨λi H' M' hi oa st=>?_,λH' M' oa st=>?_,λi H' M' x H2 oa st hi y=>?_⟩ q⟩);. exact⟨vs,vs[i]'(by rw[hd.length];exact hi),(hl.grow st.grow).sq,by simp[hd.length,hi]⟩
   . exact⟨vs,(hl.grow st.grow).sq,by rw[hd.length];exact zR _⟩
   . obtain⟨rfl,y⟩:=y;obtain⟨d,e1,e2⟩:=hd.get (y vs (hl.grow st.grow).sq);exact⟨oa,Step.refl,d,e1,e2.grow st.grow⟩
theorem jX (h:DE K tl ρ M λx M1=>∃z,x = .d (.str z)/\QI (BM z) M1):DI K (cW K tl) ρ M QI:=λσ H R Rl k=>
 h σ H _ Rl λv H1 x M1 o1 s1 t1 ⟨z,e,q⟩=>by
   subst e;have af:(BM z).length=z.cps.size:=by simp[BM]
   rw[show v = .str z by unfold SI DV at s1;exact s1];refine .inr (.inr ⟨z,rfl,k _ (BM z) H1 M1 o1 t1 ⟨λi H' M' hi oa st=>?_,λH' M' oa st=>?_,λi H' M' x H2 oa st hi y=>?_⟩ q⟩);. show i < z.cps.size;rw[<-af];exact hi
   . exact af
   . obtain⟨rfl,c,e1,rfl⟩:=y;exact⟨oa,Step.refl,.str ⟨#[c]⟩,by unfold BM;rw[zF];simp[e1],by unfold DV;rfl⟩
def tyD:PyData->String
 | .none => "NoneType"
 | .bool _ => "bool"
 | .int _ => "int"
 | .str _ => "str"
 | .list _ => "list"
 | .tuple _ => "tuple"
 | .dict _ => "dict"
end
end DL
namespace L2
open PySem PySem.Spec PyProof.Rows
section
variable {X:Cx}
def dD (K:Frg):List V->Hp->VK->Prop:=λxs H Q=>∃(x:V) (T:String) (d:PyData) (W:Addr->Prop) (b:Bool),xs=[x,.ty T]/\DV K H W d x/\a3W K (.type (DL.tyD d)) (.type T)=some b/\Q (.bl b) H
theorem ZF:B9 X (.builtin "isinstance") (dD X.K):=by
 intro pins s σ H xs us Q I r h;obtain⟨x,T,d,W,b,rfl,dv,e,q⟩:=h;obtain⟨u,u',rfl,ru,Ha⟩:=rR r;cases Ha;have fin:∀tk,EP X pins σ Q (.bool b) { s with toks:=tk }:=λtk=>⟨.bl b,H,I.tok _,rfl,q⟩
 cases d with
 | none=>unfold DV at dv;subst dv;exact F4 I ru (TyOf.non) e fin
 | bool y=>unfold DV at dv;subst dv;exact F4 I ru (TyOf.bl _) e fin
 | int i=>unfold DV at dv;subst dv;exact F4 I ru (TyOf.int _) e fin
 | str y=>unfold DV at dv;subst dv;exact F4 I ru (TyOf.str _) e fin
 | list ds=> unfold DV at dv;obtain⟨a,vs,rfl,hl,_⟩:=dv;cases ru;obtain⟨aa,rv,⟨o,n,h1,h2,_,_⟩,_⟩:=I.list hl.sq;exact a2J PySem.W.kitx_list I.kIn ⟨o,h1,h2⟩ e (λz=>nomatch z) fin
 | tuple ds=> unfold DV at dv;obtain⟨a,vs,rfl,hl,_⟩:=dv;cases ru;obtain⟨aa,rv,⟨o,h1,h2,_⟩,_⟩:=I.tuple hl.sq;exact a2J PySem.W.kitx_tuple I.kIn ⟨o,h1,h2⟩ e (λz=>nomatch z) fin
 | dict kvs=>
   unfold DV at dv;obtain⟨a,vs,rfl,_,hl,_⟩:=dv;rcases hl with hl | ⟨o',hl⟩
   . exact F4 I ru (TyOf.dK hl) e fin
   . cases ru;obtain⟨_,_,vZ,_,dd⟩:=IU I.hok (.inr ⟨o',hl⟩);exact a2J PySem.W.kitx_dict I.kIn dd.typeIs e (λz=>nomatch z) fin
end
end L2
namespace DL
open PySem PySem.Spec L2
section
variable {K:Frg}{ρ:List (Option DS)}{M:Own}{Q:DS->Own->Prop}{H:Hp}{ta tb:TE}
theorem dE {d:PyData}{T:String}{b:Bool}(e:a3W K (.type (tyD d)) (.type T)=some b) (q:Q (.d (.bool b)) M):DR K (dD K) [.d d,.ty T] M Q:=λH vs QQ oa s k=>by obtain⟨v,r,rfl,h1,v2,r2,rfl,h2,h3⟩:=s;cases h3;rw[show v2 = .ty T from h2];exact⟨v,T,d,M.W,b,rfl,h1,e,k _ H _ M oa AH Step.refl q⟩
theorem MN {p:Addr}{ks:List (Key×V)}{kvs:List (PyData×PyData)}(oa:OA K H M) (h:H p=b3V) (hd:DKV K H M.W kvs ks) :
   OA K (upd H p (.dK ks)) (M.put p (.d kvs))/\Step K M (M.put p (.d kvs)) H (upd H p (.dK ks)):=by
 have hM:=oa.none h;have g:Grow K M.W (M.put p (.d kvs)).W H (upd H p (.dK ks)):=⟨λb u e _=>.inl (by rw[AG (AN e h)];exact e),λb w=>by
   by_cases hb:b=p;. subst hb;exact .inr h
   . left;unfold Own.W at w ⊢;rw[yH hb] at w;exact w⟩
 refine⟨λa o e=>?_,⟨g⟩⟩;by_cases ha:a=p;. subst ha;rw[zU] at e;cases e;exact⟨ks,AF,hd.grow g⟩
 . rw[yH ha] at e;have q:=oa a o e;cases o <;> (obtain⟨vs,q1,q2⟩:=q;exact⟨vs,by rw[AG ha];exact q1,q2.grow g⟩)
theorem FR {p:Addr}{ks:List (Key×V)}{kvs:List (PyData×PyData)}{o:MO}(oa:OA K H M) (h:M p=some o) (hd:DKV K H M.W kvs ks) :
   OA K (upd H p (.dK ks)) (M.put p (.d kvs))/\Step K M (M.put p (.d kvs)) H (upd H p (.dK ks)):=by
 have hw:∀b,(M.put p (.d kvs)).W b->M.W b:=λb w=>by
   unfold Own.W at w ⊢;by_cases hb:b=p;. subst hb;rw[h];simp
   . rw[yH hb] at w;exact w
 have g:Grow K M.W (M.put p (.d kvs)).W H (upd H p (.dK ks)):=⟨λb u e nw=>.inl (by
   rw[AG (by rintro rfl;exact nw (by unfold Own.W;rw[h];simp))];exact e),λb w=>.inl (hw b w)⟩
 refine⟨λa o e=>?_,⟨g⟩⟩;by_cases ha:a=p;. subst ha;rw[zU] at e;cases e;exact⟨ks,AF,hd.grow g⟩
 . rw[yH ha] at e;have q:=oa a o e;cases o <;> (obtain⟨vs,q1,q2⟩:=q;exact⟨vs,by rw[AG ha];exact q1,q2.grow g⟩)
end
structure Has (P:Program) (w:World) (K:Frg) (mg:Str->Option Value) (base:Heap) (x:Str) (k:Nat) (ps:List Str) (S:FSp):Prop where
 ex:∃f fd,FnOk P w K mg base CX0 k f fd ps (spD K ps.length S)/\mg x=some (.ref f)/\a2K K (.ref f)=true/\Binds K fd ps []
theorem dF {X:Cx}{x:Str}{k:Nat}{ps:List Str}{S:FSp}{e:Expr}{es:List Expr}{t:TA}{p pos:Pos}(h:Has X.prog X.w X.K X.mg X.base x k ps S) (hr:Room k X.A) (hg:Gl X x) (ha:PA X (e::es) t) (cg:(x==("__debug__":Str))=false:=by decide) (he:starEach (e::es) X.env=(false,eval e X.env)::starEach es X.env:=by rfl) (kn:(backTo pos (starEach es X.env)).any (·.1)=false:=by rfl) :
   PE X (.Call (.Name x p) (e::es) [] pos) (P0 (spD X.K ps.length S) [] E0 t):=by obtain⟨f,fd,F,hm,hk,hb⟩:=h.ex;exact iR F hr hg hm hk hb .nil mR ha cg he kn
theorem jY {X:Cx}{x z:Str}{pos:Pos}(hg:Gl X x) (h:∃t,X.mg x=some (.str z t)) (hd:(x==("__debug__":Str))=false:=by decide):PE X (.Name x pos) (tC (.str z)):=by obtain⟨t,h⟩:=h;exact QJ hg h ⟨t,rfl⟩ hd
theorem jZ {X:Cx}{x:Str}{z:Int}{pos:Pos}(hg:Gl X x) (h:∃t,X.mg x=some (.int z t)) (hd:(x==("__debug__":Str))=false:=by decide):PE X (.Name x pos) (tC (.int z)):=by obtain⟨t,h⟩:=h;exact QJ hg h ⟨t,rfl⟩ hd
section
variable {X:Cx}{K:Frg}
theorem kIx (h:X.K=K):IxR X (ZD K):=h▸pP
theorem kIn (h:X.K=K):OpR X (compareOp .In) (cV K):=h▸pR
theorem kEq (h:X.K=K) (hu:X.A.units+64 < cLine):OpR X (compareOp .Eq) (VW K false):=h▸oY hu
theorem kNe (h:X.K=K) (hu:X.A.units+64 < cLine):OpR X (compareOp .NotEq) (VW K true):=h▸oZ hu
def dG (K:Frg):List V->Hp->VK->Prop:=λxs H Q=>∃x n,xs=[x]/\bV K x H n/\Q (.int (n:Nat)) H
def mU (K:Frg):List V->Hp->VK->Prop:=λxs H Q=>∃(p:Addr) (bs:List Bool),xs=[.ref p]/\SqL K H p (bs.map V.bl)/\Q (.bl (bs.all id)) H
def mV (K:Frg):List V->Hp->VK->Prop:=λxs H Q=>∃(p:Addr) (bs:List Bool),xs=[.ref p]/\SqL K H p (bs.map V.bl)/\Q (.bl (bs.any id)) H
theorem u7 (h:X.K=K):B9 X (.builtin "len") (dG K):=h▸bW
theorem u8 (h:X.K=K) (hc:X.calm=true):B9 X (.builtin "all") (mU K):=h▸cG hc
theorem u9 (h:X.K=K) (hc:X.calm=true):B9 X (.builtin "any") (mV K):=h▸cH hc
theorem uA (h:X.K=K):B9 X (.builtin "isinstance") (dD K):=h▸ZF
theorem sR (h:X.K=K):MtR X "str.join" (cI K):=h▸jD
theorem sS {tg l:Expr}{tl:TE}(h:X.K=K) (hl:PE X l tl):PI X tg l (cW K tl):=h▸pS hl
theorem mW {P:Program}{w:World}{mg:Str->Option Value}{base:Heap}{x:Str}{k:Nat}{ps:List Str}{S:FSp}{e:Expr}{es:List Expr}{t:TA}{p pos:Pos}(hK:X.K=K) (hP:X.prog=P) (hw:X.w=w) (mr:X.mg=mg) (vA:X.base=base) (h:Has P w K mg base x k ps S) (hr:Room k X.A) (hg:Gl X x) (ha:PA X (e::es) t) (cg:(x==("__debug__":Str))=false:=by decide) (he:starEach (e::es) X.env=(false,eval e X.env)::starEach es X.env:=by rfl) (kn:(backTo pos (starEach es X.env)).any (·.1)=false:=by rfl) :
   PE X (.Call (.Name x p) (e::es) [] pos) (P0 (spD K ps.length S) [] E0 t):=by subst hK hP hw mr vA;exact dF h hr hg ha cg he kn
variable {o e:Expr}{es:List Expr}{to:TE}{t:TA}{name:Str}{apos ah:Pos}{T id:String}{r:V->List V->Hp->VK->Prop}
theorem kBm (h:X.K=K) (pa:PlainAttrs T) (slot:Slot T name id) (wM:typeOf (.builtin id)=pure (.type "method_descriptor")) (hm:MtR X id r) (ho:PE X o to) (ha:PA X (e::es) t) (hbase:attributeBase o name X.env (eval o X.env)=eval o X.env:=by rfl)
   (qh:((backTo ah (starEach (e::es) X.env)).all (λx=>!x.1)&&(backToKw ah (keywordEach [] X.env)).all (λx=>x.1.isSome)
     && decide ((e::es).length+([]:List Keyword).length+(if ([]:List Keyword).isEmpty then 0 else 1) < 30))=true:=by rfl)
   (ui:(apos.endLine==ah.line)=true:=by rfl) (hs:starEach (e::es) X.env=(false,eval e X.env)::starEach es X.env:=by rfl) (mn:(backTo ah (starEach es X.env)).any (·.1)=false:=by rfl) :
   PE X (.Call (.Attribute o name apos) (e::es) [] ah) (tBM K T r to t):=h▸rT pa slot wM hm ho ha hbase qh ui hs mn
end
section
variable {K:Frg}{M:Own}{Q:DS->Own->Prop}
theorem XX {z:Str}(hz:z.length<=sizeLine) (q:Q (.d (.int z.length)) M):DR K (dG K) [.d (.str z)] M Q:=jM hz q
theorem LN {ds:List PyData}(q:Q (.d (.int ds.length)) M):DR K (dG K) [.d (.list ds)] M Q:=jN q
theorem IY {ds:List PyData}(q:Q (.d (.int ds.length)) M):DR K (dG K) [.d (.tuple ds)] M Q:=jO q
theorem VX {bs:List Bool}(q:Q (.d (.bool (bs.all id))) M):DR K (mU K) [.d (.list (bs.map .bool))] M Q:=pN q
theorem pT {bs:List Bool}(q:Q (.d (.bool (bs.any id))) M):DR K (mV K) [.d (.list (bs.map .bool))] M Q:=pO q
end
end DL
namespace L2
open PySem PySem.Spec PyProof.Rows
section
variable {X:Cx}
theorem dH:∀{aa:List Value}{ss:List Str},StrsAre aa ss->Vals (ss.map V.str) aa
 | _,_,.nil=>.nil
 | _,_,.cons y t r=>.cons ⟨t,rfl⟩ (dH r)
def dI (K:Frg):List V->Hp->VK->Prop:=λxs H Q=>∃(p:Addr) (ss:List Str),xs=[.ref p]/\SqL K H p (ss.map V.str)/\ss.length < 64/\∀(fu:List Str) (q:Addr),fu.Perm ss->sortedS fu=true->H q=none->Q (.ref q) (upd H q (.lst (fu.map V.str)))
theorem VY:B9 X (.builtin "sorted") (dI X.K):=by intro pins s σ H xs us Q I r h;obtain⟨p,ss,rfl,hp,de,q⟩:=h;obtain⟨u,rfl,ru⟩:=F3 r;cases ru;obtain⟨aa,rv,pl,hz⟩:=I.list hp;have hS:=QZ rv;have el:=rv.length;rw[zX] at el;refine sorted_strs pl.isList hS (by lia) λout fu h1 h2 h3=>?_;obtain⟨e,he⟩:=sortedAll_at s.heap aa out;have hn:H (s.heap.objs.size+1)=none:=I.hok.fresh (a6K _);have af:=h2.length_eq;refine⟨.ref (s.heap.objs.size+1),_,I.laid (t':=s.toks) (o:=.lst (fu.map V.str)) (λb o eb=>sortedAll_old eb) (a6K _) ?_,rfl,q fu _ h2 h3 hn⟩;refine⟨by rw[zX,af];exact zN (xT de) (by decide),out.toList,e,dH h1,?_⟩;have mw:=he;simpa [seqObj] using mw
end
end L2
namespace DL
open PySem PySem.Spec L2
section
variable {X:Cx}{K:Frg}
def MP (K:Frg):List V->Hp->VK->Prop:=λxs H Q=>∃p ys,xs=[.ref p]/\((SqL K H p ys/\∀l,H l=none->Q (.ref l) (upd H l (.tup ys)))\/(SqT K H p ys/\Q (.ref p) H))
theorem pU (h:X.K=K):B9 X (.type "tuple") (MP K):=h▸OC
def XY (K:Frg):List V->Hp->VK->Prop:=λxs H Q=>∃p ys,xs=[.ref p]/\(SqL K H p ys\/SqT K H p ys)/\∀l,H l=none->Q (.ref l) (upd H l (.lst ys))
theorem sU (h:X.K=K):B9 X (.type "list") (XY K):=h▸QT
end
section
variable {K:Frg}{M:Own}{Q:DS->Own->Prop}{ρ:List (Option DS)}{H:Hp}
theorem LO {ds:List PyData}(q:Q (.d (.tuple ds)) M):DR K (MP K) [.d (.list ds)] M Q:=λH vs QQ oa s k=>by obtain⟨v,r,rfl,h1,h2⟩:=s;cases h2;unfold SI DV at h1;obtain⟨a,vs,rfl,hl,hd⟩:=h1;refine⟨a,vs,rfl,.inl ⟨hl.sq,λp hp=>?_⟩⟩;have g:Grow K M.W M.W H (upd H p (.tup vs)):=AM _ hp;refine k _ _ (.d (.tuple ds)) M (oa.new hp) ?_ ⟨g⟩ q;unfold SI DV;exact⟨p,vs,rfl,.inl ⟨λw=>w (oa.none hp),.inl AF⟩,hd.grow g⟩
theorem GL {W:Addr->Prop}:∀{bs:List Str},DVs K H W (bs.map a2W) (bs.map V.str)
 | []=>DVs.nil
 | b::bs=>DVs.cons (by unfold DV;rfl) GL
theorem pV {a:Addr}{ds:List PyData}(oa:OA K H M) (m:M a=some (.l ds)):DV K H (M.del a).W (.list ds) (.ref a):=by
 obtain⟨vs,h0,hd⟩:=oa a _ m;have hs:(M.del a).Sub M:=λb o q=>by
   unfold Own.del at q;by_cases hb:b=a;. rw[if_pos hb] at q;cases q
   . rw[if_neg hb] at q;exact q
 unfold DV;exact⟨a,vs,rfl,.inl ⟨λw=>w (by unfold Own.del;rw[if_pos rfl]),.inl h0⟩,hd.grow (AV hs)⟩
theorem pW {neg:Bool}{a:Addr}{ds:List PyData}{b:PyData}(m:M a=some (.l ds)) (ha:zH (.list ds)=true) (hb:zH b=true) (q:Q (.d (.bool (if neg then !a1Z (.list ds) b else a1Z (.list ds) b))) M):D2 K (VW K neg) (.loc a) (.d b) M Q:=λH v u QQ oa s1 s2 k=>by
 unfold SI at s1;subst s1;have hs:(M.del a).Sub M:=λb o q=>by
   unfold Own.del at q;by_cases hb:b=a;. rw[if_pos hb] at q;cases q
   . rw[if_neg hb] at q;exact q
 exact⟨(M.del a).W,.list ds,b,pV oa m,s2.sub hs,ha,hb,k _ H _ M oa AH Step.refl q⟩
theorem k6 {a:Addr}{ds:List PyData}(m:M a=some (.l ds)) (q:Q (.d (.int ds.length)) M):DR K (dG K) [.loc a] M Q:=λH vs QQ oa s k=>by obtain⟨v,r,rfl,h1,h2⟩:=s;cases h2;unfold SI at h1;subst h1;obtain⟨vs,h0,hd⟩:=oa a _ m;exact⟨_,_,rfl,.inl ⟨vs,SqL.of h0,rfl⟩,k _ H (.d (.int ds.length)) M oa (by rw[hd.length];exact BW) Step.refl q⟩
def CP:PyData->Bool | .none=>true | _=>false
theorem pX {d:PyData}(q:Q (.d (.bool (CP d))) M):D2 K (λx y H Q=>y = .non/\Q (.bl (decide (x = .non))) H) (.d d) (.d .none) M Q:=λH v u QQ oa s1 s2 k=>by
 refine⟨cQ s2,k _ H (.d (.bool (CP d))) M oa ?_ Step.refl q⟩;cases d <;> unfold SI DV at s1;. rw[s1];exact AH
 . rw[s1];exact AH
 . rw[s1];exact AH
 . rw[s1];exact AH
 . obtain⟨a,_,rfl,_⟩:=s1;exact AH
 . obtain⟨a,_,rfl,_⟩:=s1;exact AH
 . obtain⟨a,_,rfl,_⟩:=s1;exact AH
theorem k7 {d:PyData}(q:Q (.d (.bool (!CP d))) M):D2 K (λx y H Q=>y = .non/\Q (.bl (!decide (x = .non))) H) (.d d) (.d .none) M Q:=λH v u QQ oa s1 s2 k=>by
 refine⟨cQ s2,k _ H (.d (.bool (!CP d))) M oa ?_ Step.refl q⟩;cases d <;> unfold SI DV at s1;. rw[s1];exact AH
 . rw[s1];exact AH
 . rw[s1];exact AH
 . rw[s1];exact AH
 . obtain⟨a,_,rfl,_⟩:=s1;exact AH
 . obtain⟨a,_,rfl,_⟩:=s1;exact AH
 . obtain⟨a,_,rfl,_⟩:=s1;exact AH
end
def DGs (K:Frg) (g:TGs) (ds:List PyData) (ρ:List (Option DS)) (M:Own) (P:List (Option DS)->Own->Prop):Prop:=∀(σ:St) (H:Hp) (vs:List V) (QQ:St->Hp->Prop),Rel K M ρ σ H->DVs K H M.W ds vs->(∀ρ' M' σ' H',Rel K M' ρ' σ' H'->Step K M M' H H'->P ρ' M'->QQ σ' H')->g vs σ H QQ
section
variable {K:Frg}{M:Own}{ρ:List (Option DS)}{P:List (Option DS)->Own->Prop}
theorem k8 (h:P ρ M):DGs K iL [] ρ M P:=λσ H vs QQ R hd k=>by unfold DVs at hd;subst hd;exact⟨rfl,k ρ M σ H R Step.refl h⟩
theorem dJ {i:Nat}{g:TGs}{d:PyData}{ds:List PyData}(h:DGs K g ds (ρ.set i (some (.d d))) M P):DGs K (SR (HK i) g) (d::ds) ρ M P:=λσ H vs QQ R hd k=>by unfold DVs at hd;obtain⟨v,r,rfl,h1,h2⟩:=hd;exact⟨v,r,rfl,h (σ.set i (some v)) H r QQ (R.set (x:=.d d) h1 i) h2 k⟩
theorem pY {n:Nat}{g:TGs}{ds:List PyData}(hn:ds.length=n) (h:DGs K g ds ρ M P):DG K (iN K n g) (.tuple ds) ρ M P:=λσ H v QQ R dv k=>by unfold DV at dv;obtain⟨a,vs,rfl,hl,hd⟩:=dv;exact⟨a,vs,rfl,hl.sq,by rw[hd.length];exact hn,h σ H vs QQ R hd k⟩
def k9 (g:TGs) (T:List Nat):Prop:=(∀(vs:List V) (σ:St) (H:Hp) (Q Q':St->Hp->Prop),(∀a b,Q a b->Q' a b)->g vs σ H Q->g vs σ H Q') /\(∀(vs:List V) (σ:St) (H:Hp) (QQ:St->Hp->Prop),g vs σ H QQ->g vs σ H λσ2 H2=>(∀i,i∉T->σ2[i]?=σ[i]?)/\QQ σ2 H2)
theorem dL:k9 iL []:=⟨λvs σ H Q Q' m ⟨e,h⟩=>⟨e,m _ _ h⟩,λvs σ H QQ ⟨e,h⟩=>⟨e,λ_ _=>rfl,h⟩⟩
theorem IZ {i:Nat}{g:TGs}{T:List Nat}(hg:k9 g T):k9 (SR (HK i) g) (i::T):=by refine⟨λvs σ H Q Q' m ⟨v,r,e,h⟩=>⟨v,r,e,hg.1 r _ H Q Q' m h⟩,λvs σ H QQ ⟨v,r,e,h⟩=>⟨v,r,e,?_⟩⟩;refine hg.1 r _ H _ _ (λσ2 H2 ⟨h1,h2⟩=>⟨λj hj=>?_,h2⟩) (hg.2 r (σ.set i (some v)) H QQ h);rw[h1 j λz=>hj (yV _ z),b1Z (by rintro rfl;exact hj a0J)]
theorem dM {n:Nat}{g:TGs}{T:List Nat}(hg:k9 g T):PK (iN K n g) T:=λv σ H QQ ⟨a,xs,e,hs,hl,h⟩=>
 ⟨a,xs,e,hs,hl,hg.1 xs σ H _ _ (λσ2 H2 ⟨h1,h2⟩=>h2 h1) (hg.2 xs σ H _ h)⟩
end
end DL
namespace L2
open PySem PySem.Spec PyProof.Rows
section
variable {X:Cx}{pins:List (Addr×Obj)}{σ:St}{H:Hp}{s:Shared}{h':Heap}
theorem Inv.turnedT {ch:List Addr}{T:Addr}{ys:List V}{t':Nat}(I:Inv X pins σ H s) (k:∀b o,b∉ch->s.heap.get? b=some o->h'.get? b=some o) (hn:∀b∈ch,H b=none) (ix:∀b∈ch,(b∈X.ex\/X.s₀.heap.objs.size<=b)/\b≠X.env.locals/\(∀x c,X.env.cells.lookup x=some c->c≠b)/\∀p∈X.pn++pins,p.1≠b) (hT:s.heap.objs.size<=T) (new:ObjOk X.prog X.w (upd H T (.tup ys)) h' T (.tup ys)):Inv X pins σ (upd H T (.tup ys)) { s with heap:=h',toks:=t' }:=by
 have xl:H T=none:=I.hok.fresh hT;have ph:∀b u,H b=some u->b∉ch:=λb u e z=>by rw[hn b z] at e;cases e
 refine I.step (g':=s.gens) (d':=s.drawn) (ch:=ch) ix (λb o _ _ hc e _=>k b o hc e) (λb o _ _ hc e _=>⟨o.slots,k b o hc e⟩) (λb o hc e n=>?_) (λb o hc e=>⟨o,k b o hc e⟩) (λb xs e=>?_) (λb o u e=>?_) (λb ps e=>⟨#[],?_⟩) (λm hm=>?_) (λb u e=>?_) I.bare;. rw[AG (zC (zP (zM e) hT))];exact n
 . rw[AG (AN e xl)];exact e
 . rw[AG (AN e xl)];exact e
 . rw[AG (AN e xl),e];simp
 . obtain⟨o,es,ep,ho,r⟩:=hm;exact⟨o,es,ep,k _ o (λz=>(ix _ z).2.1 rfl) ho,r⟩
 . by_cases hb:b=T;. subst hb;rw[AF] at e;cases e;exact new
   . rw[AG hb] at e;refine(I.hok b u e).stay (λc v hc q=>k c v ?_ q) (λc q=>by rw[AG (AN q xl)];exact q) λc xs q=>by rw[AG (AN q xl)];exact q
     rcases hc with z | z;. rw[z];exact ph b u e
     . exact ph c _ z
theorem Inv.turnedL {ch:List Addr}{t':Nat}(I:Inv X pins σ H s) (k:∀b o,b∉ch->s.heap.get? b=some o->h'.get? b=some o) (hn:∀b∈ch,H b=none) (ix:∀b∈ch,(b∈X.ex\/X.s₀.heap.objs.size<=b)/\b≠X.env.locals/\(∀x c,X.env.cells.lookup x=some c->c≠b)/\∀p∈X.pn++pins,p.1≠b):Inv X pins σ H { s with heap:=h',toks:=t' }:=by
 have ph:∀b u,H b=some u->b∉ch:=λb u e z=>by rw[hn b z] at e;cases e
 refine I.step (g':=s.gens) (d':=s.drawn) (ch:=ch) ix (λb o _ _ hc e _=>k b o hc e) (λb o _ _ hc e _=>⟨o.slots,k b o hc e⟩) (λb o hc e n=>n) (λb o hc e=>⟨o,k b o hc e⟩) (λb xs e=>e) (λb o u e=>e) (λb ps e=>⟨#[],by rw[e];simp⟩) (λm hm=>?_) (λb u e=>?_) I.bare;. obtain⟨o,es,ep,ho,r⟩:=hm;exact⟨o,es,ep,k _ o (λz=>(ix _ z).2.1 rfl) ho,r⟩
 . refine(I.hok b u e).stay (λc v hc q=>k c v ?_ q) (λc q=>q) λc xs q=>q;rcases hc with z | z;. rw[z];exact ph b u e
   . exact ph c _ z
end
end L2
namespace DL
open PySem PySem.Spec L2
section
variable {K:Frg}{M:Own}{ρ:List (Option DS)}{QI:List PyData->Own->Prop}
def T6 (as bs:List PyData):List PyData:=(as.zip bs).map λp=>.tuple [p.1,p.2]
end
end DL
namespace HT
open PySem PySem.Spec PyProof.Rows
section
variable {prog:Program}{w:World}{A:Around}{E:Value->Shared->Prop}{s:Shared}
theorem getItem_tuple_whole {t sl:Addr}{items:Array Value}{vl vu:Value}{lo hi:Option Int}{Q:Value->Shared->Prop}(ht:IsTup s.heap t items) (hs:s.heap.IsSliceOf sl vl vu .none) (pl:IsPart vl lo) (pu:IsPart vu hi) (hw:sIx items.size 0 lo=0/\sIx items.size items.size hi=items.size) (h:Q (.ref t) s):wpAny (model prog w) A (getItem (.ref t) (.ref sl)) Q E s:=by
 obtain⟨os,vU,yp,wL⟩:=id hs;have zl:s.TypeIs (.ref sl) "slice" := ⟨os,vU,yp⟩
 unfold getItem;try with_reducible refine wpAny_holding ?_
 first | refine zZ (zY ?_) | skip
 refine zZ (wpAny_sequenceKey ht.typeIs (by decide) ?_);refine zZ (wpAny_callSpecial?_slot (name:=a0Q "__getitem__") ht.typeIs a7X (wpAny_call_entry a7X ht.typeIs entry_tuple_getitem ?_ (args_tuple_getitem _ _)));show wpAny _ _ (Builtin.Tuple.tupleItemsOf (.ref t) >>= _) _ _ s;refine zZ (tupleItemsOf_ ht ?_);refine zZ (wpAny_typeOf zl ?_);rw[if_pos (by decide)];refine zZ (F5 hs pl pu ?_);have zm:((((sIx items.size 0 lo:Nat):Int)==0&&(1:Int)==1&&(sIx items.size items.size hi - sIx items.size 0 lo)==items.size)=true):=by rw[hw.1,hw.2];simp
 show wpAny _ _ (if (((sIx items.size 0 lo:Nat):Int)==0&&(1:Int)==1&&(sIx items.size items.size hi - sIx items.size 0 lo)==items.size)=true then _ else _) _ _ s;rw[if_pos zm];refine zZ (m:=Builtin.Tuple.tupleIsExact _) (zZ (wpAny_typeOf ht.typeIs (zY ?_)));show wpAny _ _ (if true=true then _ else _) _ _ s;rw[if_pos rfl];first
   | exact zZ (wpAny_rule (zZ (zY ⟨_,rfl,zY h⟩)))
   | exact zZ (wpAny_rule (zY ⟨_,rfl,zY h⟩))
   | exact zZ (wpAny_rule (zZ (zY (zY ⟨_,rfl,zY h⟩))))
end
end HT
namespace L2
open PySem PySem.Spec PyProof.Rows
section
variable {X:Cx}
def mX (K:Frg):V->Option Int->Option Int->Hp->VK->Prop:=λx lo hi H Q=>∃a xs,x = .ref a/\SqT K H a xs/\(IB xs lo hi=xs->Q (.ref a) H)/\∀p,H p=none->Q (.ref p) (upd H p (.tup (IB xs lo hi)))
theorem kA:SlR X (mX X.K):=by
 intro pins s σ H x v vl vu lo hi sl Q I rx hs pl pu h;obtain⟨a,xs,rfl,hx,q1,q2⟩:=h;cases rx;obtain⟨aa,r,ht,hz⟩:=I.tuple hx;have af:aa.toArray.size=xs.length:=by rw[zJ];exact r.length.symm
 by_cases hw:HT.sIx xs.length 0 lo=0/\HT.sIx xs.length xs.length hi=xs.length;. refine⟨"tuple", _,PyProof.Rows.slot_tuple_getitem.lookup,ht.typeIs,?_⟩;refine HT.getItem_tuple_whole ht hs pl pu (by rw[af];exact hw) ⟨.ref a,H,I,rfl,q1 ?_⟩;unfold IB;rw[hw.1,hw.2];simp
 . exact oG pins s σ H (.ref a) (.ref a) vl vu lo hi sl Q I rfl hs pl pu ⟨a,xs,rfl,hx,hw,q2⟩
def dN (K:Frg):R2:=λx y H Q=>∃a b xs ys,x = .ref a/\y = .ref b/\SqT K H a xs/\SqT K H b ys/\xs.length+ys.length<=sizeLine /\(xs=[]->Q (.ref b) H)/\(ys=[]->Q (.ref a) H)/\(∀p,H p=none->Q (.ref p) (upd H p (.tup (xs++ys))))
theorem dO:OpR X (binaryOp .Add) (dN X.K):=by
 intro pins s σ H x y v u Q I rx ry h;obtain⟨t,b,xs,ys,rfl,rfl,hx,hy,hz,q0,q1,q2⟩:=h;cases rx;cases ry;obtain⟨aa,r,ht,_⟩:=I.tuple hx;obtain⟨il,r2,hb,_⟩:=I.tuple hy;have e1:=r.length;have e2:=r2.length;obtain⟨⟨cls,dd,data,sl⟩,ho,hc,n,hd⟩:=id ht;obtain⟨⟨z8,vY,data2,xg⟩,ho2,hc2,n2,hd2⟩:=id hb;dsimp only at hc hd hc2 hd2;subst hc hd hc2 hd2;have e:aa.toArray++il.toArray=(aa++il).toArray:=by simp
 by_cases hv:aa=[]
 . have xn:xs=[]:=by cases r with | nil=>rfl | cons _ _=>cases hv
   exact concat_meets ⟨_,ho,rfl⟩ ⟨_,ho2,rfl⟩ noFill_tuple_add seq_tuple_add b6V b6J (b5K _ _) (tuple_addW0 t b aa.toArray il.toArray n n2 dd vY sl xg (by simp[hv])) ⟨ho,ho2,⟨.ref b,H,I,rfl,q0 xn⟩⟩
 . by_cases hw:il=[]
   . have ku:ys=[]:=by cases r2 with | nil=>rfl | cons _ _=>cases hw
     exact concat_meets ⟨_,ho,rfl⟩ ⟨_,ho2,rfl⟩ noFill_tuple_add seq_tuple_add b6V b6J (b5K _ _) (tuple_addW1 t b aa.toArray il.toArray n n2 dd vY sl xg (by simpa using hv) (by simp[hw])) ⟨ho,ho2,⟨.ref t,H,I,rfl,q1 ku⟩⟩
   . refine concat_meets ⟨_,ho,rfl⟩ ⟨_,ho2,rfl⟩ noFill_tuple_add seq_tuple_add b6V b6J (b5K _ _) (tuple_addW2 t b aa.toArray il.toArray n n2 dd vY sl xg (by simpa using hv) (by simpa using hw) (by rw[zJ,zJ];lia)) ⟨ho,ho2,?_⟩;rw[e];refine⟨.ref s.heap.objs.size,_,I.laid (t':=s.toks) (o:=.tup (xs++ys)) (λb ob q=>zW _ q) (zR _) ?_,rfl,q2 _ I.fresh⟩;exact⟨by rw[yY];exact hz,aa++il,r.append r2,IsTup.new _ _⟩
end
end L2
namespace DL
open PySem PySem.Spec L2
section
variable {X:Cx}{K:Frg}
def T7 (K:Frg):R2:=λx y H Q=>T5 K x y H Q\/dN K x y H Q
theorem sV (h:X.K=K):OpR X (binaryOp .Add) (T7 K):=h▸jS.or dO
def kB (K:Frg):V->Option Int->Option Int->Hp->VK->Prop:=λx lo hi H Q=>jT K x lo hi H Q\/mX K x lo hi H Q
theorem uB (h:X.K=K):SlR X (kB K):=h▸pQ.or kA
end
section
variable {K:Frg}{M:Own}{Q:DS->Own->Prop}
theorem dP {i j:Int}(q:Q (.d (.int (i+j))) M):D2 K (T7 K) (.d (.int i)) (.d (.int j)) M Q:=D7 (d0 q)
theorem dQ {i j:Str}(hz:i.length+j.length<=sizeLine) (q:Q (.d (.str (i++j))) M):D2 K (T7 K) (.d (.str i)) (.d (.str j)) M Q:=D7 (dA hz q)
theorem MQ {a b:List PyData}(hz:a.length+b.length<=sizeLine) (q:Q (.d (.list (a++b))) M):D2 K (T7 K) (.d (.list a)) (.d (.list b)) M Q:=D7 (dB hz q)
theorem J0 {as bs:List PyData}(hz:as.length+bs.length<=sizeLine) (q:Q (.d (.tuple (as++bs))) M):D2 K (T7 K) (.d (.tuple as)) (.d (.tuple bs)) M Q:=EW λH v u QQ oa s1 s2 k=>by
 have vI:=s1;have Hb:=s2;unfold SI DV at s1 s2;obtain⟨a,vs,rfl,hl,hd⟩:=s1;obtain⟨b,us,rfl,iu,hd2⟩:=s2;refine⟨a,b,vs,us,rfl,rfl,hl.sq,iu.sq,by rw[hd.length,hd2.length];exact hz,λe=>?_,λe=>?_,λp hp=>?_⟩
 . have:as=[]:=by have:=hd.length;rw[e] at this;exact List.length_eq_zero_iff.mp this.symm
   subst this;exact k _ H (.d (.tuple ([]++bs))) M oa Hb Step.refl q
 . have:bs=[]:=by have:=hd2.length;rw[e] at this;exact List.length_eq_zero_iff.mp this.symm
   subst this;rw[b0Z] at q;exact k _ H (.d (.tuple as)) M oa vI Step.refl q
 . have g:Grow K M.W M.W H (upd H p (.tup (vs++us))):=AM _ hp;refine k _ _ (.d (.tuple (as++bs))) M (oa.new hp) ?_ ⟨g⟩ q;unfold SI DV;exact⟨p,_,rfl,.inl ⟨λw=>w (oa.none hp),.inl AF⟩,(hd.append hd2).grow g⟩
theorem T8 {z:Str}{lo hi:Option Int}(hz:z.length<=sizeLine) (q:Q (.d (.str (b0J z lo hi))) M):DSl K (kB K) (.d (.str z)) lo hi M Q:=λH v QQ oa s1 k=>.inl (dC hz q H v QQ oa s1 k)
theorem ZG {ds:List PyData}{lo hi:Option Int}(q:Q (.d (.list (FQ ds lo hi))) M):DSl K (kB K) (.d (.list ds)) lo hi M Q:=λH v QQ oa s1 k=>.inl (ZE q H v QQ oa s1 k)
theorem MR {ds:List PyData}{lo hi:Option Int}(q:Q (.d (.tuple (FQ ds lo hi))) M):DSl K (kB K) (.d (.tuple ds)) lo hi M Q:=λH v QQ oa s1 k=>.inr (by
 have vI:=s1;unfold SI DV at s1;obtain⟨a,vs,rfl,hl,hd⟩:=s1;have key:DVs K H M.W (FQ ds lo hi) (IB vs lo hi):=by unfold FQ IB;rw[hd.length];exact(hd.drop _).take _
 refine⟨a,vs,rfl,hl.sq,λe=>?_,λp hp=>?_⟩;. refine k _ H (.d (.tuple (FQ ds lo hi))) M oa ?_ Step.refl q;unfold SI DV;exact⟨a,vs,rfl,hl,by rw[<-e];rw[e] at key;rw[e];exact key⟩
 . have g:Grow K M.W M.W H (upd H p (.tup (IB vs lo hi))):=AM _ hp;refine k _ _ (.d (.tuple (FQ ds lo hi))) M (oa.new hp) ?_ ⟨g⟩ q;unfold SI DV;exact⟨p,_,rfl,.inl ⟨λw=>w (oa.none hp),.inl AF⟩,key.grow g⟩)
end
theorem kC {X:Cx}{K:Frg}{pos:Pos}{es:List Expr}{k:Nat}{t:TGs}{n:Nat}(hK:X.K=K) (hc:X.calm=true) (h:PGs X es t) (hn:(assignEach es X.env).length=n:=by rfl) (c_:(assignEach es X.env).findIdx? (·.1)=none:=by rfl):PG X (.Tuple es k pos) (iN K n t):=hK▸bO hc h hn c_
end DL
namespace DL
open PySem PySem.Spec L2
def fn1 (pre:PyData->Prop) (f:PyData->PyData):FSp:=⟨λxs _=>∃d,xs=[.d d]/\pre d,λxs M y M'=>∀d,xs=[.d d]->y = .d (f d)/\M'=M⟩
theorem BE {pre:PyData->Prop}{f:PyData->PyData}{d:PyData}{M:Own}{Q:DS->Own->Prop}(p:pre d) (q:Q (.d (f d)) M):[DS.d d].length=1/\(fn1 pre f).pre [.d d] M/\∀x M',(fn1 pre f).post [.d d] M x M'->Q x M':=⟨rfl,⟨d,rfl,p⟩,λx M' h=>by obtain⟨rfl,rfl⟩:=h d rfl;exact q⟩
def G6 (c:Nat):Bool:=decide (97<=c)&&decide (c<=122)
def K3:PyData->Bool | .int _=>true | _=>false
def BL:PyData->Bool | .str z=>decide (1<=z.cps.size)&&decide (z.cps.size<=8)&&z.cps.toList.all G6 | _=>false
def ID:PyData->Bool | .int i=>decide (0<=i)&&decide (i<=999) | _=>false
def okS (z:Str):Prop:=z.cps.size<=5000/\∀c∈z.cps.toList,c < 128
def okD:PyData->Prop | .str z=>okS z | _=>True
def IE:FSp:=fn1 (λ_=>True) λd=>.bool (K3 d)
def PM:FSp:=fn1 okD λd=>.bool (BL d)
def MS:FSp:=fn1 (λ_=>True) λd=>.bool (ID d)
def J1 (d:PyData) (lo hi:Int):Bool:=match d with | .int i=>decide (lo<=i)&&decide (i<=hi) | _=>false
def EF:FSp:=⟨λxs _=>∃(d:PyData) (lo hi:Int),xs=[.d d,.d (.int lo),.d (.int hi)],λxs M y M'=>∀(d:PyData) (lo hi:Int),xs=[.d d,.d (.int lo),.d (.int hi)]->y = .d (.bool (J1 d lo hi))/\M'=M⟩
theorem T9 {d:PyData}{lo hi:Int}{M:Own}{Q:DS->Own->Prop}(q:Q (.d (.bool (J1 d lo hi))) M):[DS.d d,.d (.int lo),.d (.int hi)].length=3/\EF.pre [.d d,.d (.int lo),.d (.int hi)] M/\∀x M',EF.post [.d d,.d (.int lo),.d (.int hi)] M x M'->Q x M':=⟨rfl,⟨d,lo,hi,rfl⟩,λx M' h=>by obtain⟨rfl,rfl⟩:=h d lo hi rfl;exact q⟩
theorem R7 (d:PyData):J1 d 0 999=ID d:=by cases d <;> rfl
theorem VZ:∀c:Nat,c < 128->(!(a6X (a0Q "abcdefghijklmnopqrstuvwxyz") ⟨#[c]⟩ 0 (a0Q "abcdefghijklmnopqrstuvwxyz").length 1).isEmpty)=G6 c:=by decide +kernel
def kD:PyData->Bool | .str z=>z.cps.toList.all G6 | _=>false
theorem ZH (z:Str):((BM z).filter λ_=>true).map (λd=>PyData.bool (kD d))=(z.cps.toList.map G6).map .bool:=by rw[List.filter_eq_self.mpr (by simp)];unfold BM;rw[zD,zD];apply yM;intro c hc;simp[kD]
theorem W0 (l:List Nat) (f:Nat->Bool):(l.map f).all id=l.all f:=by simp
section
variable {K:Frg}{ρ:List (Option DS)}{M:Own}{D:EndsD}{t u:TS}
theorem dR (P:List (Option DS)->Own->Prop) (h:DSt K t ρ M { D with nx:=P }) (h2:∀ρ1 M1,P ρ1 M1->DSt K u ρ1 M1 D):DSt K (iI t u) ρ M D:=
 cP (jK h (λρ' M' p=>h2 ρ' M' p) (λ_ _ q=>q) (λ_ _ q=>q) (λ_ _ q=>q))
end
def DZ (z:Str):Prop:=1<=z.cps.size/\z.cps.size<=8/\∀c∈z.cps.toList,G6 c=true
theorem p64:(2:Int) ^ 64=18446744073709551616:=by decide
theorem R8 {i j:Int}(h1 : -1000000000000000 < i) (h2:i < 1000000000000000):CMul i j:=by refine .inl ⟨?_,?_⟩ <;> rw[p64] <;> lia
theorem dS {i j:Int}(h1 : -1000000000000000 < j) (h2:j < 1000000000000000):CMul i j:=by refine .inr ⟨?_,?_⟩ <;> rw[p64] <;> lia
theorem uC {xs:List DS}{ds:List PyData}{Q:List PyData->Prop}(e:OD xs=some ds) (h:ds.length<=sizeLine) (q:Q ds):∃ds,OD xs=some ds/\ds.length<=sizeLine/\Q ds:=⟨ds,e,h,q⟩
theorem kE {x y:Str}(h:x.cps.toList=y.cps.toList):x=y:=by obtain⟨⟨a⟩⟩:=x;obtain⟨⟨b⟩⟩:=y;simp at h;subst h;rfl
theorem MT:∀(cs:List Nat) (acc:Array Nat),((cs.map λc=>(⟨#[c]⟩:Str)).foldl (λacc p=>acc++(a0Q "").cps++p.cps) acc)=acc++cs.toArray
 | [],acc=>by simp
 | c::cs,acc=>by
   rw[zI,List.foldl_cons,MT cs];have e:(a0Q "").cps=#[]:=by decide +kernel
   rw[e];apply Array.ext';simp
theorem W1 (cs:List Nat):Txt.join (a0Q "") (cs.map λc=>(⟨#[c]⟩:Str))=⟨cs.toArray⟩:=by
 unfold Txt.join Builtin.Str.glued;cases cs with
 | nil=>rfl
 | cons c cs=> simp only[zI,List.drop_succ_cons,List.drop_zero,List.headD_cons];rw[MT];congr 1;apply Array.ext';simp
theorem dU (n len:Nat):Builtin.Str.strSliceIndices none (some (n:Int)) 1 len=a1V (min n len):=by
 unfold Builtin.Str.strSliceIndices sliceRange;have h1:¬((n:Int) < 0):=by lia
 have h2:max 0 (min (n:Int) (len:Int))=((min n len:Nat):Int):=by lia
 simp only[show(1:Int) > 0 by decide,if_true,h1,if_false,h2];have h3:(if (0:Int) < ((min n len:Nat):Int) then (((min n len:Nat):Int) - 0+1 - 1)/1 else 0).toNat=min n len:=by
   split;. rw[Int.ediv_one];lia
   . lia
 rw[h3];apply b0V;intro i;rw[zF];by_cases h:i < min n len;. simp[yA h]
 . simp[a3Z (show(a1V (min n len)).length<=i by simp;lia)]
theorem ZI (l:List Nat) (a:Array Nat) (m:Nat) (h:a.toList=l):(a1V m).filterMap (λi=>a[i]?)=l.take m:=by
 induction m with
 | zero=>simp
 | succ m ih=>
   rw[List.range_succ,List.filterMap_append,ih,b0K];have e:a[m]?=l[m]?:=by rw[<-h];simp
   simp only[a5J,List.filterMap_nil,e];cases l[m]? <;> simp
theorem W3 (z:Str) (n:Nat):(b0J z none (some (n:Int))).cps.toList=z.cps.toList.take n:=by
 unfold b0J;rw[dU];have hl:z.length=z.cps.toList.length:=by simp[Str.length]
 split;. rename_i h;simp only[xZ,beq_self_eq_true,Bool.true_and,beq_iff_eq] at h;rw[b8Q (by rw[<-hl];lia)]
 . show(List.filterMap _ _).toArray.toList=_;rw[ZI z.cps.toList z.cps _ rfl,List.toList_toArray,hl,List.take_eq_take_iff];lia
theorem OE (x y:Str):(x++y).cps.toList=x.cps.toList++y.cps.toList:=by show(x.cps++y.cps).toList=_;simp
theorem KM:(a0Q "abcdefghijklmnopqrstuvwxyz").length=26:=by decide +kernel
theorem PN:∀cs:List Nat,((cs.map λc=>(⟨#[c]⟩:Str)).map (·.length)).sum=cs.length
 | []=>rfl
 | c::cs=>by rw[zI,zI,List.sum_cons,PN cs];show 1+cs.length=cs.length+1;lia
theorem flt (l:List PyData):l.filter (λ_=>true)=l:=List.filter_eq_self.mpr (by simp)
theorem ZJ (z:Str) (l u:Option Int) {n:Nat}(h:z.length<=n):(b0J z l u).length<=n:=zN (Txt.slice_le z l u) h
theorem dW {c:Nat}(h:G6 c=true):c < 128:=by unfold G6 at h;simp at h;lia
theorem PP (s:Str):BL (.str s)=(decide (1<=s.cps.size)&&decide (s.cps.size<=8)&&s.cps.toList.all G6):=rfl
theorem PQ (s:Str):s.cps.size=s.cps.toList.length:=by simp
theorem dX {z:Str}(h:DZ z):okD (.str z):=⟨by have:=h.2.1;lia,λc hc=>dW (h.2.2 c hc)⟩
end DL
namespace DL
open PySem PySem.Spec L2
def sl (a b:Str):Bool:=b1V a.cps.toList b.cps.toList
theorem PR:∀a:List Nat,b1V a a=false
 | []=>rfl
 | a::r=>by simp[b1V,PR r]
theorem TB:∀a b c:List Nat,b1V a b=true->b1V b c=true->b1V a c=true
 | [],[],_,h,_=>by cases h
 | [],_::_,[],_,h=>by cases h
 | [],_::_,_::_,_,_=>rfl
 | _::_,[],_,h,_=>by cases h
 | _::_,_::_,[],_,h=>by cases h
 | a::r,b::t,c::u,h1,h2=>by
   simp only[b1V,Bool.or_eq_true,decide_eq_true_eq,a0V,beq_iff_eq] at h1 h2 ⊢;rcases h1 with h1 | ⟨rfl,h1⟩
   . rcases h2 with h2 | ⟨rfl,h2⟩
     . exact .inl (Nat.lt_trans h1 h2)
     . exact .inl h1
   . rcases h2 with h2 | ⟨rfl,h2⟩
     . exact .inl h2
     . exact .inr ⟨rfl,TB r t u h1 h2⟩
theorem TC:∀a b:List Nat,b1V a b=false->b1V b a=false->a=b
 | [],[],_,_=>rfl
 | [],_::_,h,_=>by cases h
 | _::_,[],_,h=>by cases h
 | a::r,b::t,h1,h2=>by
   simp only[b1V,Bool.or_eq_false_iff,decide_eq_false_iff_not,Bool.and_eq_false_iff] at h1 h2;have e:a=b:=by lia
   subst e;simp at h1 h2;rw[TC r t h1 h2]
theorem PU (a:Str):sl a a=false:=PR _
theorem MU {a b c:Str}(h1:sl a b=true) (h2:sl b c=true):sl a c=true:=TB _ _ _ h1 h2
theorem MV {a b:Str}(h1:sl a b=false) (h2:sl b a=false):a=b:=kE (TC _ _ h1 h2)
theorem TD {a b:Str}(h:sl a b=true):sl b a=false:=by
 cases e:sl b a with
 | false=>rfl
 | true=>have:=MU h e;rw[PU] at this;cases this
theorem sW (a b:Str):decide (a.cps.toList < b.cps.toList)=sl a b:=PyProof.Rows.lt_meets a b
def Ris (ss:List Str):Prop:=ss.Pairwise λa b=>sl a b=true
theorem ZK:∀ss:List Str,xH ss=true->ss.Pairwise λa b=>sl b a=false
 | [],_=>.nil
 | a::r,h=>by
   have key:∀(r:List Str) (p:Str),PyProof.Rows.risingS p r=true->(p::r).Pairwise λa b=>sl b a=false:=by
     intro r;induction r with
     | nil=>intro p _;simp
     | cons x r ih=>
       intro p h;unfold PyProof.Rows.risingS at h;simp only[a0V,Bool.not_eq_true'] at h;have h2:=ih x h.2;refine List.pairwise_cons.mpr ⟨λc hc=>?_,h2⟩;have hx:sl x p=false:=h.1;rcases yX.mp hc with rfl | hc;. exact hx
       . have z7:sl c x=false:=(List.pairwise_cons.mp h2).1 c hc;cases e:sl c p with
         | false=>rfl
         | true=>
           cases e2:sl x c with
           | true=>have:=MU e2 e;rw[hx] at this;cases this
           | false=>have:=MV z7 e2;subst this;rw[hx] at e;cases e
   exact key r a h
theorem W4 {ss:List Str}(h:xH ss=true) (nd:ss.Nodup):Ris ss:=by
 unfold Ris;have h1:=ZK ss h;refine(List.Pairwise.and h1 nd).imp λ{a b} ⟨x,y⟩=>?_;cases e:sl a b with
 | true=>rfl
 | false=>exact absurd (MV e x) y
theorem Ris.nodup {ss:List Str}(h:Ris ss):ss.Nodup:=h.imp λ{a b} q=>by rintro rfl;rw[PU] at q;cases q
theorem CK {d:PyData}(h1:d.canLay0=true) (h2:d.depth<=64):zH d=true:=by unfold zH;rw[h1,decide_eq_true h2];rfl
theorem MW {ds:List PyData}(h:∀d∈ds,d.canLay0=true):b5V ds=true:=by
 induction ds with
 | nil=>rfl
 | cons d r ih=>rw[b5V,h d a0J,ih λx hx=>h x (yV _ hx)];rfl
theorem W5 {ds:List PyData}{n:Nat}(h:∀d∈ds,d.depth<=n):a5W ds<=n:=by
 induction ds with
 | nil=>simp[a5W]
 | cons d r ih=> have h1:=h d a0J;have h2:=ih λx hx=>h x (yV _ hx);simp only[a5W];lia
theorem E1 {z:Str}(h:DZ z):b7V z=true:=by unfold b7V;rw[Array.all_eq_true'];intro c hc;have:=dW (h.2.2 c (by simpa using hc));simp;lia
end DL
namespace DL
open PySem PySem.Spec L2
theorem sIx_nat (n d k:Nat):HT.sIx n d (some (k:Int))=min k n:=HT.sIx_nat n d k
theorem dY (xs:List PyData) (k:Nat):FQ xs (some (k:Int)) none=xs.drop k:=by
 unfold FQ;rw[sIx_nat];show(xs.drop (min k xs.length)).take (xs.length - min k xs.length)=_;rw[b8Q (by rw[b3W];lia)];by_cases h:k<=xs.length;. rw[Nat.min_eq_left h]
 . rw[Nat.min_eq_right (by lia),b3X (zR _),b3X (by lia)]
theorem R9 (xs:List PyData) (a b:Nat):FQ xs (some (a:Int)) (some (b:Int))=(xs.take b).drop a:=by
 unfold FQ;rw[sIx_nat,sIx_nat,List.drop_take];by_cases h:a<=xs.length;. rw[Nat.min_eq_left h,List.take_eq_take_iff,b3W];lia
 . rw[b3X (show xs.length<=min a xs.length by lia),b3X (show xs.length<=a by lia)];simp
def fn2 (pre:PyData->PyData->Prop) (f:PyData->PyData->PyData):FSp:=⟨λxs _=>∃a b,xs=[.d a,.d b]/\pre a b,λxs M y M'=>∀a b,xs=[.d a,.d b]->y = .d (f a b)/\M'=M⟩
theorem dZ {pre:PyData->PyData->Prop}{f:PyData->PyData->PyData}{a b:PyData}{M:Own}{Q:DS->Own->Prop}(p:pre a b) (q:Q (.d (f a b)) M):[DS.d a,.d b].length=2/\(fn2 pre f).pre [.d a,.d b] M/\∀x M',(fn2 pre f).post [.d a,.d b] M x M'->Q x M':=⟨rfl,⟨a,b,rfl,p⟩,λx M' h=>by obtain⟨rfl,rfl⟩:=h a b rfl;exact q⟩
def uD:PyData->PyData | .tuple (a::_)=>a | d=>d
def e6:PyData->Str | .str z=>z | _=>⟨#[]⟩
def nm0 (d:PyData):Str:=e6 (uD d)
abbrev Th:=Str×Int×Int
def thD (t:Th):PyData:=.tuple [.str t.1,.int t.2.1,.int t.2.2]
def wD (w:List Th):PyData:=.tuple (w.map thD)
def sY (w:List Th):Prop:=Ris (w.map (·.1))/\∀t∈w,DZ t.1/\0<=t.2.1/\t.2.1<=999/\-1000000000000<=t.2.2/\t.2.2<=1000000000000
theorem PV {d:PyData}(h:BL d=true):∃z,d = .str z/\DZ z:=by
 cases d with
 | str z=> rw[PP] at h;simp only[a0V,decide_eq_true_eq,a4Z] at h;exact⟨z,rfl,h.1.1,h.1.2,h.2⟩
 | _=>cases h
theorem e7 {z:Str}(h:DZ z):BL (.str z)=true:=by rw[PP,decide_eq_true h.1,decide_eq_true h.2.1,List.all_eq_true.mpr h.2.2];rfl
theorem kF (w:List Th):(w.map thD).map nm0=w.map (·.1):=by rw[zD];rfl
end DL
namespace DL
open PySem PySem.Spec L2
section
variable {K:Frg}{ρ:List (Option DS)}{M:Own}{g:TG}{wi:TI}
theorem BH {fr:List (Option Nat)}{tt:TT}{te:TE}{T:List Nat}{Q:DS->Own->Prop}(ho:PK g T) (hT:∀i∈T,∀j,fr[i]?≠some (some j)) (h:DI K wi ρ M λds M1=>ds.length < sizeLine/\∃(c:PyData->Bool) (f:PyData->PyData),(∀d∈ds,∀A acc M',M1 A=none->M'=M1.put A (.l acc)->DG K g d (KL fr ρ) M' λρ2 M2=>M2=M'/\DT K tt ρ2 M2 λb M3=>M3=M'/\b=c d/\(c d=true->DE K te ρ2 M3 λy M4=>y = .d (f d)/\M4=M'))/\Q (.d (.list ((ds.filter c).map f))) M1) :
   DE K (PH fr wi g tt te) ρ M Q:=by
 refine XU ho hT λσ H R Rl k=>h σ H R Rl λJ ds H1 M1 o1 t1 wd q=>k J ds H1 M1 o1 t1 wd ?_;obtain⟨hsz,c,f,he,q⟩:=q;refine⟨hsz,λA hA=>⟨λk acc M'=>acc=((ds.take k).filter c).map f/\M'=M1.put A (.l acc),⟨by simp,rfl⟩,λk acc M' ⟨e1,e2⟩=>⟨by rw[e2];exact zU,?_⟩,λk d acc M' hd ⟨e1,e2⟩=>?_,λacc M' ⟨e1,e2⟩=>?_⟩⟩;. rw[e1,zX];exact zN (yJ _ _) (by rw[a2Q];lia)
 . have hm:d∈ds:=yN hd;intro σ H v QQ R dv kk;refine he d hm A acc M' hA e2 σ H v QQ R dv λρ' M2 σ' H' R' st ⟨eM,q2⟩=>kk ρ' M2 σ' H' R' st λσ2 H2 QQ2 R2 k2=>?_;refine q2 σ2 H2 QQ2 R2 λb H3 M3 o3 ml ⟨zK,eb,q3⟩=>k2 b H3 M3 o3 ml ?_;have ts:(ds.take (k+1)).filter c=(ds.take k).filter c++(if c d then [d] else []):=take_succ_filter c ds k d hd;cases hb:c d with
   | false=> rw[hb] at eb;subst eb;refine L2.j4 ⟨?_,by rw[zK,e2]⟩;rw[ts,hb,e1];simp
   | true=>
     rw[hb] at eb;subst eb;refine L2.j6 ?_;refine XN (q3 hb) λy M4 ⟨ey,e4⟩=>⟨f d,ey,by rw[e4,e2];exact zU,?_,by rw[e4,e2,yI]⟩
     rw[ts,hb,e1];simp
 . rw[e2,yG hA,e1,a3J];exact q
end
theorem KN {as bs:List Str}(h:as.map a2W=bs.map a2W):as=bs:=by have:=congrArg (b7Z e6) h;rw[zD,zD] at this;simpa [show(e6∘a2W)=id from rfl] using this
theorem W6 {K:Frg}{ρ:List (Option DS)}{M:Own}{D:EndsD}{te:TE}{g:TG}(h:DE K te ρ M λx M1=>∃d,x = .d d/\DG K g d ρ M1 D.nx):DSt K (VH te g) ρ M D:=λσ H E R k1 _ _ _=>
 h σ H _ R λv H' x M' a b c q=>by obtain⟨d,rfl,q⟩:=q;exact q σ H' v _ (R.step a c) b λρ2 M2 σ2 H2 R2 ik p=>k1 ρ2 M2 σ2 H2 R2 (c.trans ik) p
theorem e8 {X:Cx}:MtR X "list.append" QU:=P8
end DL
namespace L2
open PySem PySem.Spec PyProof.Rows
def EntS (w:World):List DictEntry->List (Str×Str)->Prop
 | [],[]=>True
 | e::es,kv::r=>e.hash=hashStr w kv.1/\(∃t,e.key = .str kv.1 t)/\(∃t,e.val = .str kv.2 t)/\EntS w es r
 | _,_=>False
def GDict (w:World) (K:Frg) (a:Addr) (kvs:List (Str×Str)):Prop:=(a==sysModules)=false/\(kvs.map (·.1)).Nodup/\∃es ep,K.lookup a=some { cls:=.type "dict", data:=.dict es ep }/\EntS w es.toList kvs
theorem EntS.pairs {P:Program}{w:World}:∀{es:List DictEntry}{kvs:List (Str×Str)},EntS w es kvs->∃vs:List (Key×Value),Pairs (AQ P w) es vs/\KV (kvs.map λkv=>((a1K kv.1:Key),V.str kv.2)) vs/\vs.map (·.1)=kvs.map (λkv=>(a1K kv.1:Key))/\∀e∈es,∃k,(AQ P w).is k e.key=true/\e.hash=(AQ P w).hash k
 | [],[],_=>⟨[],.nil,.nil,rfl,by simp⟩
 | e::es,kv::r,⟨h1,⟨t,h2⟩,⟨t',h3⟩,h4⟩=>by
   obtain⟨vs,a,b,c,d⟩:=EntS.pairs (P:=P) h4;have hk:(AQ P w).is (a1K kv.1) e.key=true:=by rw[h2];exact KI P w kv.1 t
   refine⟨(a1K kv.1,e.val)::vs,.cons hk rfl a,.cons ⟨rfl,⟨t',h3⟩⟩ b,by rw[zI,zI,c],λx hx=>?_⟩;rcases yX.mp hx with rfl | hx;. exact⟨_,hk,h1⟩
   . exact d x hx
section
variable {X:Cx}{pins:List (Addr×Obj)}{σ:St}{H:Hp}{s:Shared}
theorem GDict.at {a:Addr}{kvs:List (Str×Str)}(g:GDict X.w X.K a kvs) (I:Inv X pins σ H s):∃vs,KV (kvs.map λkv=>((a1K kv.1:Key),V.str kv.2)) vs/\s.heap.DictOf (AQ X.prog X.w) a vs:=by
 obtain⟨_,nd,es,ep,hk,he⟩:=g;obtain⟨vs,p1,p2,p3,p4⟩:=he.pairs (P:=X.prog);refine⟨vs,p2,_,es,ep,I.kIn a _ hk,⟨rfl,rfl,rfl⟩,rfl,λe he=>p4 e (by simpa using he),p1,?_⟩;rw[p3];have:kvs.map (λkv=>(a1K kv.1:Key))=(kvs.map (·.1)).map a1K:=by rw[zD];rfl
 rw[this];unfold List.Nodup;rw[b3J];exact nd.imp λ{a b} q e=>q (by injection e)
def mY (kvs:List (Str×Str)) (ty:TE):TE:=λσ H Q=>ty σ H λy H1=>∃k:Str,y = .str k/\Q (((kvs.lookup k).map V.str).getD .non) H1
theorem TF (kvs:List (Str×Str)) (k:Str):EV (kvs.map λkv=>((a1K kv.1:Key),V.str kv.2)) (a1K k)=(kvs.lookup k).map V.str:=by
 induction kvs with
 | nil=>rfl
 | cons kv r ih=>
   obtain⟨a,b⟩:=kv;unfold EV at ih ⊢;rw[zI,b0X,a3Q];by_cases h:a=k;. subst h;simp
   . have h1:decide ((a1K a:Key)=a1K k)=false:=decide_eq_false λe=>h (by injection e);have h2:(k==a)=false:=by simpa using λe=>h e.symm
     simp only[h1,h2];exact ih
theorem kG {x:Str}{p apos ah:Pos}{e:Expr}{ty:TE}{kvs:List (Str×Str)}(hg:Gl X x) (hm:∃a,X.mg x=some (.ref a)/\GDict X.w X.K a kvs) (he:PE X e ty) (m:M1 X (.Name x p) "get" apos e ah) (hd:(x==("__debug__":Str))=false:=by decide) :
   PE X (.Call (.Attribute (.Name x p) "get" apos) [e] [] ah) (mY kvs ty):=by
 obtain⟨a,hm,g⟩:=hm;intro pins s σ H Q I h;refine wpAny_Call_method m.base m.few m.line PySem.F.plainAttrs_dict PySem.F.slot_dict_get PySem.F.type_dict_get (DB I hg hm ?_ hd);obtain⟨vs,rel,dd⟩:=g.at I;refine⟨dd.typeIs,λb q=>?_,?_⟩;. cases q;obtain⟨ob,_,_,h1,h2,_⟩:=dd;exact⟨ob,h1,h2.2.1⟩
 rw[m.trees];refine b7K rfl (Calls.evalArgs_plain (xQ (thn (he pins s σ H _ I h) λiv s2 ⟨y,H2,I2,ry,k,ey,q2⟩=>Calls.spliced_nil ?_)));subst ey;obtain⟨vZ,zO,ko⟩:=g.at I2;refine call_meetsIn PySem.F.slot_dict_get ko.typeIs PySem.F.entry_dict_get (PySem.F.args_dict_get_2 _ _) (meets_dict_get (AQ X.prog X.w) a (IT (k:=a1K k) ry) g.1) ⟨_,ko.mapOf,?_⟩;refine⟨_,H2,I2.tok _,?_,q2⟩;have:=(zO.val (a1K k)).getD (show RelV .non .none from rfl);rw[TF] at this;exact this
end
end L2
namespace DL
open PySem PySem.Spec L2
section
variable {K:Frg}{ρ:List (Option DS)}{M:Own}{Q:DS->Own->Prop}{ty:TE}
def ZL:Option Str->PyData | some z=>.str z | none=>.none
theorem kH {kvs:List (Str×Str)}(h:DE K ty ρ M λy M1=>∃k,y = .d (.str k)/\Q (.d (ZL (kvs.lookup k))) M1):DE K (mY kvs ty) ρ M Q:=λσ H QQ R k=>
 h σ H _ R λv H1 x M1 o1 s1 t1 h1=>by
   obtain⟨z,rfl,q⟩:=h1;refine⟨z,AX s1,?_⟩;cases e:kvs.lookup z with
   | none=>rw[e] at q;exact k _ H1 (.d .none) M1 o1 (by unfold SI DV;rfl) t1 q
   | some y=>rw[e] at q;exact k _ H1 (.d (.str y)) M1 o1 F7 t1 q
theorem AL {X:Cx}{x:Str}{a:Addr}{pos:Pos}(hg:Gl X x) (hm:X.mg x=some (.ref a)) (hd:(x==("__debug__":Str))=false:=by decide):PE X (.Name x pos) (tC (.ref a)):=QJ hg hm rfl hd
theorem pZ {neg:Bool}{x:Str}{ys:List Str}(q:Q (.d (.bool (if neg then !decide (x∈ys) else decide (x∈ys)))) M):D2 K (rIn K neg) (.d (.str x)) (.d (.tuple (ys.map .str))) M Q:=λH v u QQ oa s1 s2 k=>by rw[AX s1];unfold SI DV at s2;obtain⟨a,vs,rfl,hl,hd⟩:=s2;have e:=IW hd;subst e;exact⟨a,_,rfl,.inr hl.sq,rfl,by simp[HM],k _ H (.d (.bool (if neg then !decide (x∈ys) else decide (x∈ys)))) M oa (by rw[T4];exact AH) Step.refl q⟩
theorem kI {x:Str}{ys:List Str}(q:Q (.d (.bool (decide (x∈ys)))) M):D2 K (cV K) (.d (.str x)) (.d (.tuple (ys.map .str))) M Q:=EW (pZ (neg:=false) q)
end
end DL
namespace L2
open PySem PySem.Spec PyProof.Rows
section
variable {X:Cx}
def RA:V->List V->Hp->VK->Prop:=λv vs H Q=>∃x y,v = .str x/\vs=[.str y]/\Q (.bl (Txt.startswith x y)) H
theorem ZM:MtR X "str.startswith" RA:=by intro pins s σ H x xs v us Q I rx rv h;obtain⟨y,z,rfl,rfl,q⟩:=h;obtain⟨t,rfl⟩:=rx;obtain⟨u,rfl,t',rfl⟩:=F3 rv;exact SC.startswith ⟨.bl _,H,I,rfl,q⟩
def sZ (z:Str) (n:Int):Str:=if (n==1||z.length==0)=true then z else ⟨(b1K n.toNat z.cps).foldl (·++·) #[]⟩
def e9:R2:=λx y H Q=>(rI (λi j=>IntMulOk i j) λi j=>.int (i*j)) x y H Q\/∃z n,x = .str z/\y = .int n/\1<=n/\n<=8/\z.length<=1000/\Q (.str (sZ z n)) H
theorem TH (a:Array Nat):∀(n:Nat) (b:Array Nat),(List.foldl (λx1 x2=>x1++x2) b (b1K n a)).size=b.size+n*a.size
 | 0,b=>by simp
 | n+1,b=>by rw[List.replicate_succ,List.foldl_cons,TH a n,Array.size_append,Nat.succ_mul];lia
theorem kJ:OpR X (binaryOp .Mult) e9:=by
 intro pins s σ H x y v u Q I rx ry h;rcases h with h | ⟨z,n,rfl,rfl,h1,h2,h3,q⟩
 . exact(opI (C:=λi j=>IntMulOk i j) λ_ _ _ _ _ _ _ hc q=>mul_int q hc) pins s σ H x y v u Q I rx ry h
 . obtain⟨t,rfl⟩:=rx;obtain⟨t',rfl⟩:=ry;have hp:(2:Int) ^ 63=9223372036854775808:=by decide
   refine P.mul_str ?_ (λ_ _=>?_) (λ_ _=>?_) ?_;. rw[decide_eq_false (Int.not_lt.mpr (Int.le_trans (by decide) h1)),decide_eq_false (Int.not_le.mpr (Int.lt_of_le_of_lt h2 (by decide)))];rfl
   . rw[hp];have h5:(1000:Int)<=(9223372036854775808 - 1)/n:=Int.le_ediv_of_mul_le (Int.lt_of_lt_of_le (by decide) h1) (Int.le_trans (Int.mul_le_mul_of_nonneg_left h2 (by decide)) (by decide));exact λhc=>absurd (Int.lt_of_le_of_lt h5 hc) (Int.not_lt.mpr (Int.ofNat_le.mpr h3))
   . have hm:z.length*n.toNat<=1000*1000:=Nat.mul_le_mul h3 (by lia);unfold Builtin.Str.tooLong;rw[decide_eq_false];exact λhc=>absurd (zP hc hm) (by decide)
   . rw[if_neg (by lia)];have q':=q;unfold sZ at q';split;. rename_i e;rw[if_pos e] at q';exact⟨.str z,H,I,⟨_,rfl⟩,q'⟩
     . rename_i e;rw[if_neg e] at q';refine⟨?_,⟨.str _,H,I.tok _,⟨_,rfl⟩,q'⟩⟩;show(List.foldl (λx1 x2=>x1++x2) #[] (b1K n.toNat z.cps)).size<=sizeLine;rw[TH];have hm:(#[]:Array Nat).size+n.toNat*z.cps.size<=8*1000:=by rw[show(#[]:Array Nat).size=0 from rfl,Nat.zero_add];exact Nat.mul_le_mul (by lia) h3
       exact zN hm (by decide)
end
end L2
namespace DL
open PySem PySem.Spec L2
section
variable {X:Cx}{K:Frg}
theorem TJ (_:X.K=K):MtR X "str.startswith" RA:=ZM
theorem kK (_:X.K=K):OpR X (binaryOp .Mult) e9:=kJ
end
section
variable {K:Frg}{ρ:List (Option DS)}{M:Own}{Q:DS->Own->Prop}
theorem ZN {x y:Str}(q:Q (.d (.bool (Txt.startswith x y))) M):DM K RA (.d (.str x)) [.d (.str y)] M Q:=λH v vs QQ oa s1 s2 k=>by obtain⟨u,r,rfl,h1,h2⟩:=s2;cases h2;rw[AX s1,AX h1];exact⟨x,y,rfl,rfl,k _ H _ M oa AH Step.refl q⟩
theorem eB {i j:Int}(c:IntMulOk i j) (q:Q (.d (.int (i*j))) M):D2 K e9 (.d (.int i)) (.d (.int j)) M Q:=λH v u QQ oa s1 s2 k=>by rw[BZ s1,BZ s2];exact .inl ⟨i,j,rfl,rfl,c,k _ H _ M oa BW Step.refl q⟩
end
end DL
namespace L2
open PySem PySem.Spec PyProof.Rows PySem.W
theorem RB {ns:List Int}(h:WData.layableAll [WData.list (ns.map WData.int)]=true):∀i∈ns,xL i<=2 ^ 20:=by
 have h1:WData.weightAll (ns.map WData.int)<=2 ^ 20:=by
   have h0:WData.layable (WData.list (ns.map WData.int))=true:=by unfold WData.layableAll at h;simpa using h
   unfold WData.layable at h0;rw[a0V] at h0;exact of_decide_eq_true h0.2
 intro i hi;refine zN ?_ h1;clear h h1;induction ns with
 | nil=>cases hi
 | cons n r ih=>
   rw[zI];show _<=WData.weight (.int n)+1+WData.weightAll (r.map WData.int);rcases yX.mp hi with rfl | hi;. have:WData.weight (.int i)=xL i:=rfl;lia
   . have:=ih hi;lia
theorem eD {l:PySem.W.OpenLaw}{n k:Nat}{q:Program}{loose:List Str}{XP:(Str->Option Value)->Heap->Prop}{YP:World->Heap->Prop}{d:DefRec}{K:Params->Frg}{CX:World->CXT}{sp:World->Sp}{x:Str} (hn:l.most=some n) (Ck:n<=sizeLine) (zS:d.params.defaults=[]) (hr:Room k callerA) (hY:∀(w:World) (h:Heap),YP w h->(K w.params).In h) (F:∀(w:World) (mg:Str->Option Value) (fa:Addr) (h:Heap),(K w.params).In h->h.Ns mainGlobals mg->mg d.name=some (.ref fa) ->∃fd:FuncData,(∀(s:Shared) (u:Value),BindsTo s fd ⟨[u],[]⟩ [(x,u)]) /\∀base:Heap,(K w.params).In base->base.Ns mainGlobals mg->FnOk l.prog w (K w.params) mg base (CX w) k fa fd [x] (sp w)) (kb:∀(w:World) (H:Hp) (a:Addr) (ns:List Int),ns.length<=n->(∀i∈ns,xL i<=2 ^ 20)->oS H->SqL (K w.params) H a (ns.map V.int)->sp w [.ref a] H (λv _=>v = .bl true) λ_ _ _=>False) (zp:∀(w:World) (H:Hp) (s:Shared) (e:Value) (s':Shared),CX w [] H s (λ_ _ _=>False) e s'->False) :
   PySem.W.WalkO q loose XP YP l.row.toRowW d [] (λf vs=>PySem.call f vs):=by
 intro w s₀ s₁ mg mb G Y fa o pm cd doc dV kV ho hd iy hD mr hg args vals as v7 Aa Km wN Kn;have e1:dV = .none:=Dflts.none hD zS;subst e1;have e2:kV = .none:=Dflts.noKw hD;subst e2;obtain⟨a,vs,ns,rfl,rfl,Ab,xp,af⟩:=Att.script_of hn v7 wN;have vJ:=RB Aa;refine enter_call (xP (R:=λr s'=>r = .ok (.ret (.bool true))/\OldK s₁.heap s'.heap/\s'.os=s₁.os/\AllBare s'.gens) ?_ λr s' hq=>?_);. have KX:=hY w _ Y;obtain⟨fd,hb,hF⟩:=F w mg fa _ KX G.T.g mr;exact cF KX G.T.g G.T.b G.T.builtins G.T.nolimit hg Ab xp (zN af Ck) hr hF hb (λH hO hS=>kb w H a ns af vJ hO hS) λH e s'=>zp w H s₁ e s'
 . have h1:=hq.1;subst h1;exact⟨.inl ⟨.bool true,.bool true,[],rfl,λ_=>rfl,.bool true,Att.post_true l _,λ_=>⟨List.Pairwise.nil,λ_ hm=>(nomatch hm)⟩⟩,hq.2.1,hq.2.2.1,hq.2.2.2⟩
end L2
namespace DL
open PySem PySem.Spec L2
def uE (z:Str):Prop:=∀c∈z.cps.toList,G6 c=true
theorem eF {z:Str}(h:uE z) (h1:1<=z.cps.toList.length) (h2:z.cps.toList.length<=8):DZ z:=⟨by rw[PQ];exact h1,by rw[PQ];exact h2,h⟩
end DL
namespace L2
open PySem PySem.Spec PyProof.Rows
abbrev E2 (F:List Addr) (S:Heap->Prop):Prop:=∀h h':Heap,S h->(∀c∈F,∀o,h.get? c=some o->h'.get? c=some o)->S h'
abbrev NxI (P:Program) (w:World) (A:Around) (i:Addr) (S S':Heap->Prop) (R:Value->Prop):Prop:=∀(s:Shared) (Q:Value->Shared->Prop) (E:Value->Shared->Prop),S s.heap->(∀h' tk x,R x->S' h'->Heap.SameBut i s.heap h'->Q x { s with heap:=h',toks:=tk })->wpAny (model P w) A (a1J (.ref i)) Q E s
abbrev NxE (P:Program) (w:World) (A:Around) (i:Addr) (S:Heap->Prop):Prop:=∀(s:Shared) (Q:Value->Shared->Prop) (E:Value->Shared->Prop),S s.heap->(∀h' e,Heap.ExtBut i s.heap h'->(∃o,h'.get? e=some o/\o.cls = .type "StopIteration")->E (.ref e) { s with heap:=h' })->wpAny (model P w) A (a1J (.ref i)) Q E s
structure ZAp (z TI TO i1 i2:Addr) (F1 F2:List Addr):Prop where
 tz:TO≠z
 az:i1≠z
 bz:i2≠z
 ta:TO≠i1
 tb:TO≠i2
 ab:i1≠i2
 f1:∀c∈F1,c≠z/\c≠TO/\c≠i2
 f2:∀c∈F2,c≠z/\c≠TO/\c≠i1
section
variable {prog:Program}{w:World}{A:Around}{E:Value->Shared->Prop}{s:Shared}{z TI TO i1 i2:Addr}{F1 F2:List Addr}{S1 tu S2 vq:Heap->Prop}{R1 R2:Value->Prop}{a b:Value}
theorem ZO {Q:Value->Shared->Prop}(D:ZAp z TI TO i1 i2 F1 F2) (t1:E2 F1 S1) (wa:E2 F1 tu) (t2:E2 F2 S2) (w8:E2 F2 vq) (n1:NxI prog w A i1 S1 tu R1) (n2:NxI prog w A i2 S2 vq R2) (hz:IsZip s.heap z TI TO .none) (wb:IsPair s.heap TI (.ref i1) (.ref i2)) (w9:IsPair s.heap TO a b) (h1:S1 s.heap) (h2:S2 s.heap) (l1:∀h,tu h->i1 < h.objs.size) (l2:∀h,vq h->i2 < h.objs.size) (hQ:∀h' tk x y,R1 x->R2 y->IsZip h' z TI TO (rawInt s.heap.objs.size)->IsPair h' TO x y->tu h'->vq h'->IsPair h' s.heap.objs.size x y->h'.objs.size=s.heap.objs.size+1 ->(∀c o,c≠z->c≠TO->c≠i1->c≠i2->s.heap.get? c=some o->h'.get? c=some o)->Q (.ref s.heap.objs.size) { s with heap:=h',toks:=tk }) :
   wpAny (model prog w) A (Builtin.«zip.__next__» ⟨[.ref z],[]⟩) (λfin s'=>∃v,fin = .done (.ret v)/\Q v s') E s:=by
 show wpAny _ _ (field (.ref z) 2 >>= _) _ _ _;refine zZ (wpAny_field hz rfl (x:=.bool false) rfl ?_);show wpAny _ _ (field (.ref z) 3 >>= _) _ _ _;refine zZ (wpAny_field hz rfl (x:=.ref TI) rfl ?_);refine zZ (wpAny_seqItems wb rfl ?_);show wpAny _ _ (a2Z (.ref z) >>= _) _ _ _;refine zZ ?_;unfold a2Z;refine zZ (wpAny_field hz rfl (x:=.none) rfl (zY ?_));simp only[if_true];refine zZ (wpAny_rule ?_);refine zZ (wpAny_field hz rfl (x:=.ref TO) rfl ?_);refine zZ (wpAny_setField_rec hz (by simp) λg1 y1 q1=>?_);replace y1:IsZip g1 z TI TO .ellipsis:=y1;refine zZ ?_;simp only[List.forIn_cons,List.forIn_nil,List.zipIdx_cons,List.zipIdx_nil];refine zZ (zZ (wpAny_onRaise ?_));show wpAny _ _ (a1J (.ref i1) >>= _) _ _ _;refine zZ (n1 _ _ _ (t1 _ _ h1 λc hc o e=>q1.extBut _ _ (D.f1 c hc).1 e) λg2 k2 x rx x2 q2=>zY ?_);have p2:IsPair g2 TO a b:=q2.extBut _ _ D.ta (q1.extBut _ _ D.tz w9);refine zZ (wpAny_seqItems p2 rfl ?_);refine zZ (wpAny_updateSeq_pair p2 λg3 p3 q3=>?_);replace p3:IsPair g3 TO x b:=p3;refine zZ (wpAny_letGo (zY ?_));refine zZ (zZ (wpAny_onRaise ?_));show wpAny _ _ (a1J (.ref i2) >>= _) _ _ _;refine zZ (n2 _ _ _ (t2 _ _ h2 λc hc o e=>q3.extBut _ _ (D.f2 c hc).2.1 (q2.extBut _ _ (D.f2 c hc).2.2 (q1.extBut _ _ (D.f2 c hc).1 e))) λg4 k4 y ry x4 q4=>zY ?_);have p4:IsPair g4 TO x b:=q4.extBut _ _ D.tb p3;refine zZ (wpAny_seqItems p4 rfl ?_);refine zZ (wpAny_updateSeq_pair p4 λg5 p5 q5=>?_);replace p5:IsPair g5 TO x y:=p5;refine zZ (wpAny_letGo (zY (zY ?_)));refine zZ (wpAny_seqItems p5 rfl ?_);refine zZ (wpAny_newTuple ?_);have hsz:g5.objs.size=s.heap.objs.size:=by rw[q5.1,q4.1,q3.1,q2.1,q1.1]
 have y5:IsZip g5 z TI TO .ellipsis:=q5.extBut _ _ D.tz.symm (q4.extBut _ _ D.bz.symm (q3.extBut _ _ D.tz.symm (q2.extBut _ _ D.az.symm y1)));have k5:∀c o,c≠z->c≠TO->c≠i1->c≠i2->s.heap.get? c=some o->g5.get? c=some o:=λc o c1 c2 c3 c4 e=>q5.extBut _ _ c2 (q4.extBut _ _ c4 (q3.extBut _ _ c2 (q2.extBut _ _ c3 (q1.extBut _ _ c1 e))));have Hc:tu g5:=wa _ _ x2 λc hc o e=>q5.extBut _ _ (D.f1 c hc).2.1 (q4.extBut _ _ (D.f1 c hc).2.2 (q3.extBut _ _ (D.f1 c hc).2.1 e));have Hd:vq g5:=w8 _ _ x4 λc hc o e=>q5.extBut _ _ (D.f2 c hc).2.1 e;have Cm:z < g5.objs.size:=zM y5;show wpAny _ _ (b5Q (.ref z) (.ref g5.objs.size) >>= _) _ _ _;refine zZ ?_;unfold b5Q;have y6:IsZip (g5.push { cls:=.type "tuple", data:=.seq #[x,y] }) z TI TO .ellipsis:=zW _ y5;refine zZ (wpAny_setField_rec y6 (by simp) λg7 y7 q7=>?_);replace y7:IsZip g7 z TI TO (rawInt g5.objs.size):=y7;refine wpAny_setField_rec y7 (by simp) λg8 y8 q8=>?_;replace y8:IsZip g8 z TI TO (rawInt g5.objs.size):=y8;have up:∀c o,c≠z->g5.get? c=some o->g8.get? c=some o:=λc o c1 e=>q8.extBut _ _ c1 (q7.extBut _ _ c1 (zW _ e));have p8:IsPair g8 g5.objs.size x y:=q8.extBut _ _ (a4J Cm) (q7.extBut _ _ (a4J Cm) (yZ _ rfl));have s8:g8.objs.size=g5.objs.size+1:=by rw[q8.1,q7.1,a7V]
 rw[hsz] at y8 p8 s8;refine zY ⟨_,rfl,?_⟩;show Q (.ref g5.objs.size) _;rw[hsz];exact hQ g8 _ x y rx ry y8 (up _ _ D.tz p5) (wa _ _ Hc λc hc o e=>up c o (D.f1 c hc).1 e) (w8 _ _ Hd λc hc o e=>up c o (D.f2 c hc).1 e) p8 s8 λc o c1 c2 c3 c4 e=>up c o c1 (k5 c o c1 c2 c3 c4 e)
theorem ZP {Q:Fin->Shared->Prop}(D:ZAp z TI TO i1 i2 F1 F2) (t1:E2 F1 S1) (n1:NxE prog w A i1 S1) (hz:IsZip s.heap z TI TO .none) (wb:IsPair s.heap TI (.ref i1) (.ref i2)) (w9:IsPair s.heap TO a b) (h1:S1 s.heap) (hE:∀h' e tk,(∀c o,c≠z->c≠TO->c≠i1->c≠i2->s.heap.get? c=some o->h'.get? c=some o)->(∃o,h'.get? e=some o/\o.cls = .type "StopIteration")->E (.ref e) { s with heap:=h',toks:=tk }) :
   wpAny (model prog w) A (Builtin.«zip.__next__» ⟨[.ref z],[]⟩) Q E s:=by
 show wpAny _ _ (field (.ref z) 2 >>= _) _ _ _;refine zZ (wpAny_field hz rfl (x:=.bool false) rfl ?_);show wpAny _ _ (field (.ref z) 3 >>= _) _ _ _;refine zZ (wpAny_field hz rfl (x:=.ref TI) rfl ?_);refine zZ (wpAny_seqItems wb rfl ?_);show wpAny _ _ (a2Z (.ref z) >>= _) _ _ _;refine zZ ?_;unfold a2Z;refine zZ (wpAny_field hz rfl (x:=.none) rfl (zY ?_));simp only[if_true];refine zZ (wpAny_rule ?_);refine zZ (wpAny_field hz rfl (x:=.ref TO) rfl ?_);refine zZ (wpAny_setField_rec hz (by simp) λg1 y1 q1=>?_);replace y1:IsZip g1 z TI TO .ellipsis:=y1;refine zZ ?_;simp only[List.forIn_cons,List.forIn_nil,List.zipIdx_cons,List.zipIdx_nil];refine zZ (zZ (wpAny_onRaise ?_));show wpAny _ _ (a1J (.ref i1) >>= _) _ _ _;refine zZ (n1 _ _ _ (t1 _ _ h1 λc hc o e=>q1.extBut _ _ (D.f1 c hc).1 e) λg2 e q2 he=>?_);obtain⟨oe,wc,xq⟩:=he;have y2:IsZip g2 z TI TO .ellipsis:=q2 _ _ D.az.symm y1;have ez:e≠z:=λx=>by subst x;rw[y2] at wc;cases wc;simp at xq
 exact wpAny_setField_rec y2 (by simp) λg3 _ q3=>hE g3 e _ (λc o c1 _ c3 _ x=>q3.extBut _ _ c1 (q2 _ _ c3 (q1.extBut _ _ c1 x))) ⟨oe,q3.extBut _ _ ez wc,xq⟩
theorem ZQ {Q:Fin->Shared->Prop}(D:ZAp z TI TO i1 i2 F1 F2) (t1:E2 F1 S1) (t2:E2 F2 S2) (n1:NxI prog w A i1 S1 tu R1) (n2:NxE prog w A i2 S2) (hz:IsZip s.heap z TI TO .none) (wb:IsPair s.heap TI (.ref i1) (.ref i2)) (w9:IsPair s.heap TO a b) (h1:S1 s.heap) (h2:S2 s.heap) (hE:∀h' e tk,(∀c o,c≠z->c≠TO->c≠i1->c≠i2->s.heap.get? c=some o->h'.get? c=some o)->(∃o,h'.get? e=some o/\o.cls = .type "StopIteration")->E (.ref e) { s with heap:=h',toks:=tk }) :
   wpAny (model prog w) A (Builtin.«zip.__next__» ⟨[.ref z],[]⟩) Q E s:=by
 show wpAny _ _ (field (.ref z) 2 >>= _) _ _ _;refine zZ (wpAny_field hz rfl (x:=.bool false) rfl ?_);show wpAny _ _ (field (.ref z) 3 >>= _) _ _ _;refine zZ (wpAny_field hz rfl (x:=.ref TI) rfl ?_);refine zZ (wpAny_seqItems wb rfl ?_);show wpAny _ _ (a2Z (.ref z) >>= _) _ _ _;refine zZ ?_;unfold a2Z;refine zZ (wpAny_field hz rfl (x:=.none) rfl (zY ?_));simp only[if_true];refine zZ (wpAny_rule ?_);refine zZ (wpAny_field hz rfl (x:=.ref TO) rfl ?_);refine zZ (wpAny_setField_rec hz (by simp) λg1 y1 q1=>?_);replace y1:IsZip g1 z TI TO .ellipsis:=y1;refine zZ ?_;simp only[List.forIn_cons,List.forIn_nil,List.zipIdx_cons,List.zipIdx_nil];refine zZ (zZ (wpAny_onRaise ?_));show wpAny _ _ (a1J (.ref i1) >>= _) _ _ _;refine zZ (n1 _ _ _ (t1 _ _ h1 λc hc o e=>q1.extBut _ _ (D.f1 c hc).1 e) λg2 k2 x rx x2 q2=>zY ?_);have p2:IsPair g2 TO a b:=q2.extBut _ _ D.ta (q1.extBut _ _ D.tz w9);refine zZ (wpAny_seqItems p2 rfl ?_);refine zZ (wpAny_updateSeq_pair p2 λg3 p3 q3=>?_);refine zZ (wpAny_letGo (zY ?_));refine zZ (zZ (wpAny_onRaise ?_));show wpAny _ _ (a1J (.ref i2) >>= _) _ _ _;refine zZ (n2 _ _ _ (t2 _ _ h2 λc hc o e=>q3.extBut _ _ (D.f2 c hc).2.1 (q2.extBut _ _ (D.f2 c hc).2.2 (q1.extBut _ _ (D.f2 c hc).1 e))) λg4 e q4 he=>?_);obtain⟨oe,wc,xq⟩:=he;have y4:IsZip g4 z TI TO .ellipsis:=q4 _ _ D.bz.symm (q3.extBut _ _ D.tz.symm (q2.extBut _ _ D.az.symm y1));have ez:e≠z:=λx=>by subst x;rw[y4] at wc;cases wc;simp at xq
 exact wpAny_setField_rec y4 (by simp) λg5 _ q5=>hE g5 e _ (λc o c1 c2 c3 c4 x=>q5.extBut _ _ c1 (q4 _ _ c4 (q3.extBut _ _ c2 (q2.extBut _ _ c3 (q1.extBut _ _ c1 x))))) ⟨oe,q5.extBut _ _ ez wc,xq⟩
theorem ZR {Q:Option Value->Shared->Prop}(D:ZAp z TI TO i1 i2 F1 F2) (t1:E2 F1 S1) (wa:E2 F1 tu) (t2:E2 F2 S2) (w8:E2 F2 vq) (n1:∀A:Around,NxI prog w A i1 S1 tu R1) (n2:∀A:Around,NxI prog w A i2 S2 vq R2) (hz:IsZip s.heap z TI TO .none) (wb:IsPair s.heap TI (.ref i1) (.ref i2)) (w9:IsPair s.heap TO a b) (h1:S1 s.heap) (h2:S2 s.heap) (l1:∀h,tu h->i1 < h.objs.size) (l2:∀h,vq h->i2 < h.objs.size) (hQ:∀h' tk x y,R1 x->R2 y->IsZip h' z TI TO (rawInt s.heap.objs.size)->IsPair h' TO x y->tu h'->vq h'->IsPair h' s.heap.objs.size x y->h'.objs.size=s.heap.objs.size+1 ->(∀c o,c≠z->c≠TO->c≠i1->c≠i2->s.heap.get? c=some o->h'.get? c=some o)->Q (some (.ref s.heap.objs.size)) { s with heap:=h',toks:=tk }) :
   wpAny (model prog w) A (pyNext (.ref z)) Q E s:=by
 have hT:s.TypeIs (.ref z) "zip" := ⟨_,hz,rfl⟩
 unfold pyNext;exact zZ (wpAny_attempt (wpAny_callSpecial?_slot (name:=a0Q "__next__") hT F.slot_zip_next (wpAny_call_entry F.slot_zip_next hT F.entry_zip_next (ZO D t1 wa t2 w8 (n1 _) (n2 _) hz wb w9 h1 h2 l1 l2 λh' tk x y b1 b2 b3 b4 b5 b6 b7 b8 b9=>zY (hQ h' tk x y b1 b2 b3 b4 b5 b6 b7 b8 b9)) (F.args_zip_next_1 _))))
theorem ZS {Q:Option Value->Shared->Prop}(hh:A.handled=none) (hz:IsZip s.heap z TI TO .none) (h:∀(Q':Fin->Shared->Prop) (E':Value->Shared->Prop),(∀h' e tk,(∀c o,c≠z->c≠TO->c≠i1->c≠i2->s.heap.get? c=some o->h'.get? c=some o)->(∃o,h'.get? e=some o/\o.cls = .type "StopIteration")->E' (.ref e) { s with heap:=h',toks:=tk }) ->∀A':Around,A'.handled=none->wpAny (model prog w) A' (Builtin.«zip.__next__» ⟨[.ref z],[]⟩) Q' E' s) (hQ:∀h' tk,(∀c o,c≠z->c≠TO->c≠i1->c≠i2->s.heap.get? c=some o->h'.get? c=some o)->Q none { s with heap:=h',toks:=tk }):wpAny (model prog w) A (pyNext (.ref z)) Q E s:=by
 have hT:s.TypeIs (.ref z) "zip" := ⟨_,hz,rfl⟩
 unfold pyNext;refine zZ (wpAny_attempt (wpAny_callSpecial?_slot (name:=a0Q "__next__") hT F.slot_zip_next (wpAny_call_entry F.slot_zip_next hT F.entry_zip_next (h _ _ (λh' e tk hk he=>?_) _ ?_) (F.args_zip_next_1 _))));. obtain⟨o,ho,hc⟩:=he;refine zZ (wpAny_isInstance (T:= "StopIteration") (b:=true) ⟨o,ho,hc⟩ isSubtype_stop ?_);exact zY (hQ _ _ hk)
 . exact hh
end
end L2
namespace L2
open PySem PySem.Spec PyProof.Rows
section
variable {prog:Program}{w:World}{A:Around}{E:Value->Shared->Prop}{s:Shared}
theorem eG {i:Addr}{x:Str}{t:Tok}{k c:Nat}(hx:x.cps[k]?=some c):NxI prog w A i (λh=>h.IsStrIter i "str_ascii_iterator" x t k) (λh=>h.IsStrIter i "str_ascii_iterator" x t (k+1)) (λv=>RelV (.str ⟨#[c]⟩) v):=
 λs Q E hit hQ=>wpAny_nextOf_ascii_item hit hx λh' a b=>hQ h' _ _ ⟨_,rfl⟩ a b
theorem ZT {i:Addr}{x:Str}{t:Tok}{k:Nat}(hh:A.handled=none) (hx:x.cps[k]?=none):NxE prog w A i (λh=>h.IsStrIter i "str_ascii_iterator" x t k):=
 λs Q E hit hE=>wpAny_nextOf_ascii_end hh hit hx hE
theorem eI {i t:Addr}{k:Nat}{items:Array Value}{y:Value}(au:t≠i) (hx:items[k]?=some y):NxI prog w A i (λh=>h.IsTupleIter i t k/\h.IsTuple t items) (λh=>h.IsTupleIter i t (k+1)/\h.IsTuple t items) (λv=>v=y):=λs Q E hS hQ=>by obtain⟨hit,ht⟩:=hS;obtain⟨o,ho,hc,hd⟩:=id hit;obtain⟨ol,xt,wV,nl,pw⟩:=id ht;unfold a1J;refine zZ (wpAny_callSpecial?_slot (name:=a0Q "__next__") hit.typeIs a5Z (wpAny_call_entry a5Z hit.typeIs b5J ?_ (b4V _)));show wpAny _ _ (field (.ref i) 0 >>= _) _ _ s;refine zZ (wpAny_field ho hd (x:=.ref t) rfl ?_);show wpAny _ _ (if (a0X t==a0W)=true then _ else _) _ _ s;rw[if_neg (show ¬((a0X t==a0W)=true) from nft)];show wpAny _ _ (field (.ref i) 1 >>= _) _ _ s;refine zZ (wpAny_field ho hd (x:=.int k 0) rfl ?_);show wpAny _ _ (seqItems? (.ref t) >>= _) _ _ s;refine zZ (wpAny_seqItems xt pw ?_);simp only[a8J,hx];refine zZ (wpAny_setField ho hd (by simp) (zY ⟨y,rfl,zY (hQ _ s.toks y rfl ⟨?_,ht.extBut (b3Z ..).extBut au⟩ (b3Z ..))⟩));exact⟨_,a2X _ ho (Obj.isFreed_of_fields (a9W hd _)),(Obj.cls_mapFields ..).trans hc,by rw[a9W hd];simp[rawInt]⟩
abbrev MX (v:Value) (o:Obj) (Pre:Heap->Prop):Prop:=∀(prog:Program) (w:World) (A:Around) (E:Value->Shared->Prop) (s:Shared) (Q:Value->Shared->Prop),Pre s.heap->Q (.ref s.heap.objs.size) { s with heap:=s.heap.push o }->wpAny (model prog w) A (pyIter v) Q E s
theorem ZU {x:Str}{t:Tok}(ha:x.cps.all (· < 128)=true):MX (.str x t) { cls:=.type "str_ascii_iterator", data:=.fields #[.str x t,.int 0 0] } (λ_=>True):=λprog w A E s Q _ hQ=>wpAny_pyIter_ascii ha hQ
theorem kL {t:Addr}{items:Array Value}:MX (.ref t) { cls:=.type "tuple_iterator", data:=.fields #[.ref t,.int 0 0] } (λh=>h.IsTuple t items):=λprog w A E s Q ht hQ=>wpAny_pyIter_tuple ht hQ
abbrev zH1 (h:Heap) (o1:Obj):Heap:=h.push o1
abbrev zH2 (h:Heap) (o1 o2:Obj):Heap:=(zH1 h o1).push o2
abbrev zH3 (h:Heap) (o1 o2:Obj):Heap:=(zH2 h o1 o2).push { cls:=.type "tuple", data:=.seq #[.ref h.objs.size,.ref (zH1 h o1).objs.size] }
abbrev zH4 (h:Heap) (o1 o2:Obj):Heap:=(zH3 h o1 o2).push { cls:=.type "tuple", data:=.seq #[.none,.none] }
abbrev zH5 (h:Heap) (o1 o2:Obj):Heap:=(zH4 h o1 o2).push { cls:=.type "zip", data:=.fields #[.none,.bool false,.bool false,.ref (zH2 h o1 o2).objs.size,.ref (zH3 h o1 o2).objs.size] }
theorem W7 {v1 v2:Value}{o1 o2:Obj}{ul jm:Heap->Prop}(n1:MX v1 o1 ul) (n2:MX v2 o2 jm) (ik:∀h o,jm h->jm (h.push o)) :
   Meets (Builtin.«zip.__new__» ⟨[.type "zip", v1,v2],[]⟩) (λ_ R s=>ul s.heap/\jm s.heap/\R (.ok (.ret (.ref (zH4 s.heap o1 o2).objs.size))) { s with heap:=zH5 s.heap o1 o2 }):=
 .of_wp λprog w A R s h=>by
   obtain⟨hp,g,d,tk,os⟩:=s;obtain⟨p1,p2,h⟩:=h;have cf:=sub_zip;have He:jm (hp.push o1):=ik _ _ p2
   wp_walk using n1 _ _ _ _ _ _ p1,n2 _ _ _ _ _ _ He
   exact⟨_,rfl,h⟩
theorem ZV {v1 v2:Value}{o1 o2:Obj}{ul jm:Heap->Prop}{Q:Value->Shared->Prop}(n1:MX v1 o1 ul) (n2:MX v2 o2 jm) (ik:∀h o,jm h->jm (h.push o)) (f1:o1.isFreed=false) (f2:o2.isFreed=false) (h1:ul s.heap) (h2:jm s.heap) (h:∀h',IsZip h' (s.heap.objs.size+4) (s.heap.objs.size+2) (s.heap.objs.size+3) .none->IsPair h' (s.heap.objs.size+2) (.ref s.heap.objs.size) (.ref (s.heap.objs.size+1)) ->
     IsPair h' (s.heap.objs.size+3) .none .none->h'.get? s.heap.objs.size=some o1->h'.get? (s.heap.objs.size+1)=some o2->(∀c o,s.heap.get? c=some o->h'.get? c=some o)->Q (.ref (s.heap.objs.size+4)) { s with heap:=h' }) :
   wpAny (model prog w) A (call (.type "zip") [v1,v2]) Q E s:=by
 refine callType_new F.called_zip (by decide) (F.typeCall_zip_2 _ _) (F.newCall_zip_2 _ _) (λobj=>F.args_object_init_3 obj _ _) F.entry_zip_new (W7 n1 n2 ik) ⟨h1,h2,?_⟩;have z1:(zH1 s.heap o1).objs.size=s.heap.objs.size+1:=a7V ..;have z2:(zH2 s.heap o1 o2).objs.size=s.heap.objs.size+2:=by rw[a7V,z1]
 have z3:(zH3 s.heap o1 o2).objs.size=s.heap.objs.size+3:=by rw[a7V,z2]
 have z4:(zH4 s.heap o1 o2).objs.size=s.heap.objs.size+4:=by rw[a7V,z3]
 have e5:(zH5 s.heap o1 o2).get? (zH4 s.heap o1 o2).objs.size=some _:=yZ _ rfl;have e4:(zH5 s.heap o1 o2).get? (zH3 s.heap o1 o2).objs.size=some _:=zW _ (yZ _ rfl);have e3:(zH5 s.heap o1 o2).get? (zH2 s.heap o1 o2).objs.size=some _:=zW _ (zW _ (yZ _ rfl));have e2:(zH5 s.heap o1 o2).get? (zH1 s.heap o1).objs.size=some o2:=zW _ (zW _ (zW _ (yZ _ f2)));have e1:(zH5 s.heap o1 o2).get? s.heap.objs.size=some o1:=zW _ (zW _ (zW _ (zW _ (yZ _ f1))));show _/\_;rw[z2,z3,z4] at e5;rw[z1,z2] at e3;rw[z3] at e4;rw[z1] at e2;rw[z4];exact⟨⟨_,e5,rfl⟩,h _ e5 e3 e4 e1 e2 λc o x=>zW _ (zW _ (zW _ (zW _ (zW _ x))))⟩
end
section
variable {X:Cx}{pins:List (Addr×Obj)}{σ:St}{H:Hp}{s:Shared}
theorem MY {a z:Addr}{xs:List V}(I:Inv X pins σ H s) (hf:JW X pins H z) (h:SqT X.K H a xs):a≠z:=by
 rintro rfl;rcases h with h | ⟨o,aa,n,hk,_⟩
 . rcases h with h | ⟨o',h⟩ <;> rw[hf.1] at h <;> cases h
 . have e:=I.ok.mod.kin a o hk;rcases hf.2.2.2.1 with z | z;. exact I.ok.noex a o e z
   . exact absurd (zP (zM e) (zN I.ok.bsz z)) (yF _)
end
end L2
namespace L2
open PySem PySem.Spec PyProof.Rows
section
variable {X:Cx}
def t0:R2:=λx y H Q=>(y = .non/\Q (.bl (decide (x = .non))) H)\/∃a b:Bool,x = .bl a/\y = .bl b/\Q (.bl (a==b)) H
theorem eJ:OpR X (compareOp .Is) t0:=by
 intro pins s σ H x y v u Q I rx ry h;rcases h with h | ⟨a,b,rfl,rfl,q⟩
 . exact o9 pins s σ H x y v u Q I rx ry h
 . cases rx;cases ry;refine wpAny_is_plain rfl ⟨.bl (a==b),H,I,?_,q⟩;cases a <;> cases b <;> rfl
def mZ:R2:=λx y H Q=>(y = .non/\Q (.bl (!decide (x = .non))) H)\/∃a b:Bool,x = .bl a/\y = .bl b/\Q (.bl (!(a==b))) H
theorem XZ:OpR X (compareOp .IsNot) mZ:=by
 intro pins s σ H x y v u Q I rx ry h;rcases h with h | ⟨a,b,rfl,rfl,q⟩
 . exact iO pins s σ H x y v u Q I rx ry h
 . cases rx;cases ry;refine wpAny_isNot_plain rfl ⟨.bl (!(a==b)),H,I,?_,q⟩;cases a <;> cases b <;> rfl
end
end L2
namespace DL
open PySem PySem.Spec L2
section
variable {K:Frg}{ρ:List (Option DS)}{M:Own}{Q:DS->Own->Prop}{QI:List PyData->Own->Prop}
theorem RC {d:PyData}(q:Q (.d (.bool (CP d))) M):D2 K t0 (.d d) (.d .none) M Q:=D7 (pX q)
theorem TK {d:PyData}(q:Q (.d (.bool (!CP d))) M):D2 K mZ (.d d) (.d .none) M Q:=D7 (k7 q)
end
end DL
namespace L2
open PySem PySem.Spec PyProof.Rows
section
variable {prog:Program}{w:World}{A:Around}{E:Value->Shared->Prop}{s:Shared}
theorem TL {it l:Addr}{aa:Array Value}(au:l≠it):∀(n i:Nat) (s:Shared) (Q:List Value->Shared->Prop),s.heap.IsListIter it l i->s.heap.IsList l aa->i+n<=aa.size ->(∀h',h'.IsListIter it l (i+n)->Heap.SameBut it s.heap h'->Q ((aa.toList.drop i).take n) { s with heap:=h' })->wpAny (model prog w) A (draw (.ref it) n) Q E s
 | 0,i,s,Q,hit,_,_,hQ=>by show wpAny _ _ (pure []) Q E s;exact zY (by simpa using hQ s.heap hit (Heap.SameBut.refl ..))
 | n+1,i,s,Q,hit,hl,hle,hQ=>by
   have dj:i < aa.size:=by lia
   show wpAny _ _ (pyNext (.ref it) >>= _) Q E s;refine zZ (wpAny_pyNext_list_item hit hl (x:=aa[i]) (by simp[dj]) λg1 t1 q1=>?_);refine zZ (wpAny_holding (TL au n (i+1) _ _ t1 (hl.extBut q1.extBut au) (by lia) λg2 t2 q2=>zY ?_));have hd:aa.toList.drop i=aa[i]::aa.toList.drop (i+1):=by simp[List.drop_eq_getElem_cons,dj]
   have h3:=hQ g2 (by rw[show i+(n+1)=i+1+n by lia];exact t2) (q1.trans q2);rw[hd,List.take_succ_cons] at h3;exact h3
theorem W8 {l:Addr}{aa:Array Value}{Q:List Value->Shared->Prop}(hh:A.handled=none) (hl:s.heap.IsList l aa) (hQ:∀h',Heap.ExtBut s.heap.objs.size s.heap h'->Q aa.toList { s with heap:=h' }):wpAny (model prog w) A (unpackItems (.ref l) aa.size none) Q E s:=by
 have au:l≠s.heap.objs.size:=by obtain⟨o,ho,_⟩:=hl;exact zC (zM ho)
 unfold unpackItems;refine zZ ?_;unfold notIterableAtAll;refine zZ (wpAny_specialOf hl.typeIs F.slot_list_iter.lookup ?_);refine zY ?_;simp only[b2K,if_false];refine zZ (wpAny_holding (wpAny_pyIter_list hl ?_));refine zZ (wpAny_holding (TL au aa.size 0 _ _ ⟨_,yZ _ rfl,rfl,rfl⟩ (hl.push _) (by lia) λg1 t1 q1=>?_));rw[show List.take aa.size (List.drop 0 aa.toList)=aa.toList by rw[List.drop_zero];exact b8Q (by simp),if_neg (by simp)];refine zZ (wpAny_holding (wpAny_pyNext_list_end hh t1 ((hl.push _).extBut q1.extBut au) (by simp) λg2 e2=>?_));simp only[Option.isSome_none,b2K,if_false];exact zY (hQ g2 λb o hb e=>e2 b o hb (q1.extBut b o hb (zW _ e)))
end
section
variable {X:Cx}{pos:Pos}
def Y0 (K:Frg) (n:Nat) (t:TGs):TG:=λv σ H Q=>∃a xs,v = .ref a/\(SqT K H a xs\/SqL K H a xs)/\xs.length=n/\t xs σ H Q
theorem kM {es:List Expr}{k:Nat}{t:TGs}{n:Nat}(hc:X.calm=true) (h:PGs X es t) (hn:(assignEach es X.env).length=n:=by rfl) (c_:(assignEach es X.env).findIdx? (·.1)=none:=by rfl):PG X (.Tuple es k pos) (Y0 X.K n t):=by
 intro pins s σ H v u Q I r hw;obtain⟨a,xs,e1,hq,hl,hw⟩:=hw;rcases hq with hq | hq;. exact bO hc h hn c_ pins s σ H v u Q I r ⟨a,xs,e1,hq,hl,hw⟩
 . subst e1;cases r;obtain⟨aa,rv,pl,hz⟩:=I.list hq;rw[arm_assign_Tuple];refine zZ (wpAny_standAt ?_);unfold unpack;rw[show(assignEach es X.env).length=aa.toArray.size by simp[hn,<-hl,rv.length],c_];refine zZ (wpAny_holding (W8 (I.ok.hd hc) pl.isList λh' hx=>?_));have I1:Inv X pins σ H { s with heap:=h' }:=I.kept (t':=s.toks) λb o e=>hx b o (zC (zM e)) e;exact h pins _ σ H xs _ Q I1 (by simpa using rv) hw
end
end L2
namespace DL
open PySem PySem.Spec L2
theorem n3 {X:Cx}{K:Frg}{pos:Pos}{es:List Expr}{k:Nat}{t:TGs}{n:Nat}(hK:X.K=K) (hc:X.calm=true) (h:PGs X es t) (hn:(assignEach es X.env).length=n:=by rfl) (c_:(assignEach es X.env).findIdx? (·.1)=none:=by rfl):PG X (.Tuple es k pos) (Y0 K n t):=hK▸kM hc h hn c_
section
variable {K:Frg}{M:Own}{ρ:List (Option DS)}{P:List (Option DS)->Own->Prop}
theorem kN {n:Nat}{g:TGs}{ds:List PyData}(hn:ds.length=n) (h:DGs K g ds ρ M P):DG K (Y0 K n g) (.tuple ds) ρ M P:=λσ H v QQ R dv k=>by unfold DV at dv;obtain⟨a,vs,rfl,hl,hd⟩:=dv;exact⟨a,vs,rfl,.inl hl.sq,by rw[hd.length];exact hn,h σ H vs QQ R hd k⟩
end
end DL
namespace L2
open PySem PySem.Spec PyProof.Rows PySem.W
section
variable {n:Nat}{lt:Nat->Nat->Bool}
def Good (n:Nat) (lt:Nat->Nat->Bool) {α:Type}(P:α->Prop):KasT α->Prop
 | .ret a=>P a
 | .ask i j k=>i < n/\j < n/\i≠j/\Good n lt P (k (lt i j))
theorem Good.mono {α:Type}{P Q:α->Prop}(h:∀a,P a->Q a):∀{t:KasT α},Good n lt P t->Good n lt Q t
 | .ret _,g=>h _ g
 | .ask _ _ _,⟨a,b,c,g⟩=>⟨a,b,c,Good.mono h g⟩
theorem Good.bind {α β:Type}{P:β->Prop}{f:α->KasT β}:∀{t:KasT α},Good n lt (λa=>Good n lt P (f a)) t->Good n lt P (t.bind f)
 | .ret _,g=>g
 | .ask _ _ _,⟨a,b,c,g⟩=>⟨a,b,c,Good.bind g⟩
theorem Good.wp {α:Type}{cmp:Nat->Nat->(Bool->Shared->Prop)->Shared->Prop}{s:Shared}{P:α->Prop}{Q:α->Shared->Prop} (hc:∀i j (C:Bool->Shared->Prop),i < n->j < n->i≠j->C (lt i j) s->cmp i j C s) (hq:∀a,P a->Q a s):∀{t:KasT α},Good n lt P t->t.kasWp cmp Q s
 | .ret a,g=>hq a g
 | .ask i j k,⟨a,b,c,g⟩=>hc i j _ a b c (Good.wp hc hq g)
structure Strict (n:Nat) (lt:Nat->Nat->Bool):Prop where
 irr:∀i,lt i i=false
 tr:∀i j k,lt i j=true->lt j k=true->lt i k=true
 tot:∀i j,i < n->j < n->i≠j->lt i j=true\/lt j i=true
def Pm (n:Nat) (p:Array Nat):Prop:=p.toList.Perm (a1V n)
theorem Pm.size {p:Array Nat}(h:Pm n p):p.size=n:=by have:=h.length_eq;simpa using this
theorem Pm.bel {p:Array Nat}(h:Pm n p) {i:Nat}(hi:i < n):p.getD i 0 < n:=by
 have hs:i < p.size:=by rw[h.size];exact hi
 have:p[i]∈a1V n:=h.mem_iff.mp (by simp);simp only[Array.getD,hs,dite_true];exact List.mem_range.mp this
theorem qD {l:List Nat}(nd:l.Nodup) {i j:Nat}{hi:i < l.length}{hj:j < l.length}(e:l[i]=l[j]):i=j:=by
 rcases b7Q i j with h | h | h;. exact absurd e (List.pairwise_iff_getElem.mp nd i j hi hj h)
 . exact h
 . exact absurd e.symm (List.pairwise_iff_getElem.mp nd j i hj hi h)
theorem Pm.inj {p:Array Nat}(h:Pm n p) {i j:Nat}(hi:i < n) (hj:j < n) (bc:i≠j):p.getD i 0≠p.getD j 0:=by
 have Cn:i < p.size:=by rw[h.size];exact hi
 have Co:j < p.size:=by rw[h.size];exact hj
 simp only[Array.getD,Cn,Co,dite_true];have nd:p.toList.Nodup:=h.nodup_iff.mpr List.nodup_range;intro e;have e':p.toList[i]'(by simpa using Cn)=p.toList[j]'(by simpa using Co):=by simpa using e
 exact bc (qD nd e')
def Up (lt:Nat->Nat->Bool) (p:Array Nat) (k:Nat):Prop:=∀i j,i < j->j < k->lt (p.getD i 0) (p.getD j 0)=true
def Dn (lt:Nat->Nat->Bool) (p:Array Nat) (k:Nat):Prop:=∀i j,i < j->j < k->lt (p.getD j 0) (p.getD i 0)=true
theorem MZ (S:Strict n lt) {p:Array Nat}(hp:Pm n p):∀(f m:Nat),1<=m->m+f<=n->Up lt p m ->
   Good n lt (λr=>m<=r/\r<=m+f/\Up lt p r/\(r=m+f\/lt (p.getD r 0) (p.getD (r - 1) 0)=true)) (kas_asc p f m)
 | 0,m,h1,h2,h3=>⟨zR _,zR _,h3,.inl rfl⟩
 | f+1,m,h1,h2,h3=>by
   unfold kas_asc;refine⟨hp.bel (by lia),hp.bel (by lia),hp.inj (by lia) (by lia) (by lia),?_⟩;cases hc:lt (p.getD m 0) (p.getD (m - 1) 0) with
   | true=>exact⟨zR _,by lia,h3,.inr hc⟩
   | false=>
     have we:lt (p.getD (m - 1) 0) (p.getD m 0)=true:=(S.tot _ _ (hp.bel (by lia)) (hp.bel (by lia)) (hp.inj (i:=m - 1) (j:=m) (by lia) (by lia) (by lia))).elim id λz=>by rw[hc] at z;cases z
     dsimp only;rw[if_neg nft];refine(MZ S hp f (m+1) (by lia) (by lia) λi j bc hj=>?_).mono λr ⟨a,b,c,d⟩=>⟨by lia,by lia,c,d.elim (λz=>.inl (by lia)) .inr⟩
     by_cases hjm:j < m;. exact h3 i j bc hjm
     . have e:j=m:=by lia
       subst e;by_cases hi:i=j - 1;. subst hi;exact we
       . exact S.tr _ _ _ (h3 i (j - 1) (by lia) (by lia)) we
theorem PX (S:Strict n lt) {p:Array Nat}(hp:Pm n p):∀(f m:Nat),1<=m->m+f<=n->Dn lt p m ->
   Good n lt (λr=>r.1=p/\r.2.2=0/\m<=r.2.1/\r.2.1<=m+f/\Dn lt p r.2.1) (kas_desc f p m 0)
 | 0,m,h1,h2,h3=>⟨rfl,rfl,zR _,zR _,h3⟩
 | f+1,m,h1,h2,h3=>by
   unfold kas_desc;refine⟨hp.bel (by lia),hp.bel (by lia),hp.inj (by lia) (by lia) (by lia),?_⟩;cases hc:lt (p.getD m 0) (p.getD (m - 1) 0) with
   | true=>
     dsimp only;rw[if_pos rfl,if_neg (yF 0)];refine(PX S hp f (m+1) (by lia) (by lia) λi j bc hj=>?_).mono λr ⟨a,b,c,d,e⟩=>⟨a,b,by lia,by lia,e⟩
     by_cases hjm:j < m;. exact h3 i j bc hjm
     . have e:j=m:=by lia
       subst e;by_cases hi:i=j - 1;. subst hi;exact hc
       . exact S.tr _ _ _ hc (h3 i (j - 1) (by lia) (by lia))
   | false=>
     have we:lt (p.getD (m - 1) 0) (p.getD m 0)=true:=(S.tot _ _ (hp.bel (by lia)) (hp.bel (by lia)) (hp.inj (i:=m - 1) (j:=m) (by lia) (by lia) (by lia))).elim id λz=>by rw[hc] at z;cases z
     dsimp only;rw[if_neg nft];refine⟨hp.bel (by lia),hp.bel (by lia),hp.inj (by lia) (by lia) (by lia),?_⟩;dsimp only;rw[we,if_pos rfl];exact⟨rfl,rfl,zR _,(show m<=_ by lia),h3⟩
theorem LP {α:Type}{xs ys:Array α}{i j:Nat}{d:α}(h:xs[i]?=ys[j]?):xs.getD i d=ys.getD j d:=by rw[b4X,b4X,h]
theorem eL {p:Array Nat}(hp:Pm n p) (i j:Nat):Pm n (kas_rev p i j):=(Array.perm_iff_toList_perm.mp (mirror_perm _ _ _ _)).trans hp
theorem W9 (S:Strict n lt) {p:Array Nat}(hp:Pm n p) {m:Nat}(h1:1<=m) (h2:m<=n) (h3:Dn lt p m) :
   Good n lt (λr=>1<=r.1/\r.1<=n/\Pm n r.2/\Up lt r.2 r.1) (kas_tail3 m n p):=by
 unfold kas_tail3;refine Good.bind ((MZ S (eL hp 0 m) (n - m) m h1 (by lia) λi j bc hj=>?_).mono λr ⟨a,b,c,_⟩=>⟨by lia,by lia,eL hp 0 m,c⟩);have hz:m<=p.size:=by rw[hp.size];exact h2
 have e:∀k,k < m->(kas_rev p 0 m).getD k 0=p.getD (m - 1 - k) 0:=λk hk=>by refine LP ?_;unfold kas_rev;rw[getElem?_mirror_all (i:=0) hz k,if_pos ⟨xU _,hk⟩,Nat.zero_add]
 rw[e i (by lia),e j (by lia)];exact h3 _ _ (by lia) (by lia)
theorem OF (S:Strict n lt) {p:Array Nat}(hp:Pm n p) {m:Nat}(h2:m+1<=n) (h3:Dn lt p (m+1)) :
   Good n lt (λr=>1<=r.1/\r.1<=n/\Pm n r.2/\Up lt r.2 r.1) (kas_descPart m n p):=by unfold kas_descPart;refine Good.bind ((PX S hp (n - (m+1)) (m+1) (by lia) (by lia) h3).mono λr ⟨a,b,c,d,e⟩=>?_);rw[b,if_neg (yF 0),a];exact W9 S hp (by lia) (by lia) e
theorem WA (S:Strict n lt) {p:Array Nat}(hp:Pm n p) (h2:1<=n) :
   Good n lt (λr=>1<=r.1/\r.1<=n/\Pm n r.2/\Up lt r.2 r.1) (kas_count n p):=by
 unfold kas_count;refine Good.bind ((MZ S hp (n - 1) 1 (zR _) (by lia) λi j bc hj=>by lia).mono λr ⟨a,b,c,d⟩=>?_);by_cases hr:r=n;. subst hr;rw[if_pos (by simp)];exact⟨a,zR _,hp,c⟩
 . rw[if_neg (by simpa using hr)];have dj:lt (p.getD r 0) (p.getD (r - 1) 0)=true:=d.resolve_left (by lia);by_cases h1:r > 1;. rw[if_pos h1];refine⟨hp.bel (by lia),hp.bel (by lia),hp.inj (by lia) (by lia) (by lia),?_⟩;dsimp only;rw[c 0 (r - 1) (by lia) (by lia),if_pos rfl];exact⟨a,by lia,hp,c⟩
   . rw[if_neg h1];have e:r=1:=by lia
     subst e;refine OF S hp (by lia) λi j bc hj=>?_;have e1:i=0:=by lia
     have e2:j=1:=by lia
     subst e1 e2;exact dj
theorem IF (S:Strict n lt) {p:Array Nat}(hp:Pm n p) {k:Nat}(hk:k < n) (hu:Up lt p k):∀(f l r:Nat),l<=r->r<=k->r - l<=f ->(∀i,i < l->lt (p.getD i 0) (p.getD k 0)=true)->(∀i,r<=i->i < k->lt (p.getD k 0) (p.getD i 0)=true) ->
   Good n lt (λx=>x<=k/\(∀i,i < x->lt (p.getD i 0) (p.getD k 0)=true)/\∀i,x<=i->i < k->lt (p.getD k 0) (p.getD i 0)=true) (kas_place p k f l r)
 | 0,l,r,h1,h2,h3,h4,h5=>by unfold kas_place;exact⟨by lia,h4,λi hi xu=>h5 i (by lia) xu⟩
 | f+1,l,r,h1,h2,h3,h4,h5=>by
   unfold kas_place;by_cases hge:l≥r;. rw[if_pos hge];exact⟨by lia,h4,λi hi xu=>h5 i (by lia) xu⟩
   . rw[if_neg hge];have hm:l<=(l+r)/2/\(l+r)/2 < r:=by lia
     generalize (l+r)/2=m at hm ⊢;obtain⟨Hf,wA⟩:=hm;have w6:m < k:=zP wA h2;have yK:m < n:=Nat.lt_trans w6 hk;refine⟨hp.bel hk,hp.bel yK,hp.inj hk yK (a4J w6),?_⟩;cases hc:lt (p.getD k 0) (p.getD m 0) with
     | true=>
       dsimp only;rw[if_pos rfl];refine IF S hp hk hu f l m Hf (xT w6) (by lia) h4 λi hi xu=>?_;by_cases e:i=m;. subst e;exact hc
       . exact S.tr _ _ _ hc (hu _ _ (Nat.lt_of_le_of_ne hi (a5V e)) xu)
     | false=>
       dsimp only;rw[if_neg nft];have we:lt (p.getD m 0) (p.getD k 0)=true:=(S.tot _ _ (hp.bel yK) (hp.bel hk) (hp.inj (i:=m) (j:=k) yK hk (zC w6))).elim id λz=>by rw[hc] at z;cases z
       refine IF S hp hk hu f (m+1) r wA h2 (by lia) (λi hi=>?_) h5;by_cases e:i=m;. subst e;exact we
       . exact S.tr _ _ _ (hu _ _ (by lia) (by lia)) we
theorem TM (S:Strict n lt):∀(f:Nat) {p:Array Nat}{k:Nat},Pm n p->k+f=n->Up lt p k->Good n lt (λq=>Pm n q/\Up lt q n) (kas_bin f p k)
 | 0,p,k,hp,h1,h2=>by
   have e:k=n:=by lia
   subst e;exact⟨hp,h2⟩
 | f+1,p,k,hp,h1,h2=>by
   unfold kas_bin;refine Good.bind ((IF S hp (by lia) h2 k 0 k (xU _) (zR _) (by lia) (λi hi=>by lia) λi hi hk=>by lia).mono λx ⟨hx,a,b⟩=>?_);have Hg:k < p.size:=by rw[hp.size];lia
   refine TM S f ((Array.perm_iff_toList_perm.mp (bubble_perm _ _ _)).trans hp) (by lia) λi j bc hj=>?_;have e:∀q,(bubble p k (k - x)).getD q 0=if q=x then p.getD k 0 else if x < q/\q<=k then p.getD (q - 1) 0 else p.getD q 0:=λq=>by
     have:=getElem?_bubble Hg (k - x) (by lia) q;rw[show k - (k - x)=x by lia] at this;by_cases c1:q=x;. rw[if_pos c1] at this ⊢;exact LP this
     . rw[if_neg c1] at this ⊢;by_cases c2:x < q/\q<=k;. rw[if_pos c2] at this ⊢;exact LP this
       . rw[if_neg c2] at this ⊢;exact LP this
   obtain⟨g,hg⟩:∃g:Nat->Nat,∀i,p.getD i 0=g i:=⟨_,λ_=>rfl⟩
   have xv:∀i j,i < j->j < k->lt (g i) (g j)=true:=λi j x y=>by rw[<-hg,<-hg];exact h2 i j x y
   rw[e,e];simp only[hg] at a b ⊢;clear e;rcases b7Q j x with hj' | hj' | hj';. have hi':i < x:=Nat.lt_trans bc hj';rw[if_neg (zC hi'),if_neg (λz=>Nat.lt_asymm z.1 hi'),if_neg (zC hj'),if_neg (λz=>Nat.lt_asymm z.1 hj')];exact xv _ _ bc (zP hj' hx)
   . subst hj';rw[if_neg (zC bc),if_neg (λz=>Nat.lt_asymm z.1 bc),if_pos rfl];exact a _ bc
   . obtain⟨j',rfl⟩:∃j',j=j'+1:=⟨j - 1,by lia⟩
     have vB:j' < k:=Nat.lt_of_succ_le (Nat.le_of_lt_succ hj);have Cp:x<=j':=Nat.le_of_lt_succ hj';rw[if_neg (a4J hj') (c:=j'+1=x),if_pos (c:=x < j'+1/\j'+1<=k) ⟨hj',vB⟩,Nat.add_sub_cancel];rcases b7Q i x with hi' | hi' | hi';. rw[if_neg (zC hi'),if_neg (λz=>Nat.lt_asymm z.1 hi')];exact xv _ _ (zP hi' Cp) vB
     . rw[if_pos hi'];exact b _ Cp vB
     . obtain⟨i',rfl⟩:∃i',i=i'+1:=⟨i - 1,by lia⟩
       have xw:i' < j':=Nat.lt_of_succ_lt_succ bc;rw[if_neg (a4J hi'),if_pos (c:=x < i'+1/\i'+1<=k) ⟨hi',Nat.lt_trans xw vB⟩,Nat.add_sub_cancel];exact xv _ _ xw vB
theorem ZW (S:Strict n lt) (h1:1<=n):Good n lt (λq=>Pm n q/\Up lt q n) (kas_sort n):=by
 unfold kas_sort;refine Good.bind ((WA S (show Pm n _ from .refl _) h1).mono λr ⟨a,b,c,d⟩=>?_);have e:max r.1 1=r.1:=by lia
 rw[e];by_cases hr:r.1 < n;. rw[if_pos hr];exact TM S _ c (by lia) d
 . rw[if_neg hr];have e:r.1=n:=by lia
   rw[e] at d;exact⟨c,d⟩
end
end L2
namespace L2
open PySem PySem.Spec PyProof.Rows PySem.W
def TupsN (h:Heap) (vs:List Value) (ns:List Str):Prop:=
 vs.length=ns.length/\∀(i:Nat) (v:Value) (nm:Str),vs[i]?=some v->ns[i]?=some nm->∃(a:Addr) (o:Obj) (xs:Array Value) (k:Nat) (t:Tok),v=a0X a/\h.get? a=some o/\o.cls = .type "tuple" /\ o.data = .seq xs k/\xs[0]?=some (.str nm t)
theorem TupsN.keep {h h':Heap}{vs:List Value}{ns:List Str}(t:TupsN h vs ns) (hk:∀b o,o.cls = .type "tuple" -> h.get? b=some o->h'.get? b=some o):TupsN h' vs ns:=⟨t.1,λi v nm e1 e2=>let ⟨a,o,xs,k,t',h1,h2,h3,h4,h5⟩:=t.2 i v nm e1 e2;⟨a,o,xs,k,t',h1,hk a o h3 h2,h3,h4,h5⟩⟩
theorem TupsN.kat {h:Heap}:∀{vs:List Value}{ns:List Str},TupsN h vs ns->∃fs,KatTups h vs fs/\fs.length=ns.length/\∀v∈fs,∃x t,v=b6X x t
 | [],[],_=>⟨[],trivial,rfl,λv hv=>nomatch hv⟩
 | [],_::_,t=>by have:=t.1;simp at this
 | _::_,[],t=>by have:=t.1;simp at this
 | v::vs,nm::ns,t=>by obtain⟨a,o,xs,k,t',rfl,h2,h3,h4,h5⟩:=t.2 0 v nm rfl rfl;obtain⟨fs,q1,q2,q3⟩:=TupsN.kat (vs:=vs) (ns:=ns) ⟨by have:=t.1;simpa using this,λi v nm e1 e2=>t.2 (i+1) v nm (by simpa using e1) (by simpa using e2)⟩;exact⟨_,KatTups.cons h2 h3 h4 h5 q1,by simp[q2],λv hv=>(yX.mp hv).elim (λe=>⟨_,_,e⟩) (q3 v)⟩
section
variable {prog:Program}{w:World}{A:Around}{E:Value->Shared->Prop}{s:Shared}
theorem eO {vs:List Value}{ns:List Str}(t:TupsN s.heap vs ns) (nd:ns.Nodup) {i j:Nat}(hi:i < ns.length) (hj:j < ns.length) (bc:i≠j) {C:Bool->Shared->Prop}(h:C (decide ((ns.getD i "").cps.toList < (ns.getD j "").cps.toList)) s) :
   kas_ask prog w A (tuples' true) vs i j C s:=by
 unfold kas_ask;have hl:=t.1;have e1:vs[i]?=some (vs.getD i a0W):=by rw[yU,zV (by lia)];rfl
 have e2:vs[j]?=some (vs.getD j a0W):=by rw[yU,zV (by lia)];rfl
 have f1:ns[i]?=some (ns.getD i ""):=by rw[yU,zV hi];rfl
 have f2:ns[j]?=some (ns.getD j ""):=by rw[yU,zV hj];rfl
 have au:ns.getD i "" ≠ ns.getD j "" := λe=>by
   rw[yU,yU,zV hi,zV hj] at e;rcases Nat.lt_or_gt_of_ne bc with q | q;. exact List.pairwise_iff_getElem.mp nd i j hi hj q e
   . exact List.pairwise_iff_getElem.mp nd j i hj hi q e.symm
 generalize vs.getD i a0W=v at e1 ⊢;generalize vs.getD j a0W=u at e2 ⊢;obtain⟨a,o,xs,k,t1,rfl,a2,a3,a4,a5⟩:=t.2 i v _ e1 f1;obtain⟨b,o',ys,k',t2,rfl,b2,b3,b4,b5⟩:=t.2 j u _ e2 f2;refine kat_lt a2 a4 b2 b4 ?_;have x1:xs.toList[0]?=some (.str (ns.getD i "") t1):=by rw[a9V];exact a5
 have y1:ys.toList[0]?=some (.str (ns.getD j "") t2):=by rw[a9V];exact b5
 obtain⟨xr,hx⟩:∃r,xs.toList = .str (ns.getD i "") t1::r:=by
   cases hh:xs.toList with
   | nil=>rw[hh] at x1;cases x1
   | cons q r=>rw[hh] at x1;cases x1;exact⟨r,rfl⟩
 obtain⟨yr,hy⟩:∃r,ys.toList = .str (ns.getD j "") t2::r:=by
   cases hh:ys.toList with
   | nil=>rw[hh] at y1;cases y1
   | cons q r=>rw[hh] at y1;cases y1;exact⟨r,rfl⟩
 rw[hx,hy,b2Q];refine kat_cons (wpAny_eqBool_str ?_);rw[decide_eq_false au];refine kat_no ?_;show wpAny (model prog w) A (oneLt' true _ _) C (λ_ _=>False) s;exact oneLt_str h
theorem N0 {a:Addr}{vs:List Value}{ns:List Str}{n:Nat}{P:PySem.Fin->Shared->Prop}(ho:s.heap.get? a=some (seqObj "list" vs.toArray n)) (t:TupsN s.heap vs ns) (nd:ns.Nodup) (de:vs.length < 64) (h:∀p:List Nat,p.Perm (a1V vs.length)->(∀i j,i < j->j < vs.length->(ns.getD (p.getD i 0) "").cps.toList < (ns.getD (p.getD j 0) "").cps.toList) ->
     P (.done (.ret .none)) { s with heap:=sortedHeap s.heap a vs (p.map λi=>vs.getD i a0W).toArray }) :
   wpAny (model prog w) A (Builtin.«list.sort» ⟨[.ref a],[]⟩) P E s:=by
 have ha:a < s.heap.objs.size:=zM ho;rw[list_sort_plain];refine zZ (listItems_at ho rfl ?_);refine zZ (listUpdate_at ho rfl ?_ (by rw[zJ,sizeLine_eq];lia) (xU _));obtain⟨e1,Cq⟩:∃e1,(s.heap.update a (a7K λ_=>(#[]:Array Value))).get? a=some (seqObj "list" #[] e1):=⟨_,get?_update_seq ho (λ_=>#[])⟩
 refine zZ (seqEpoch_at Cq rfl (zZ (wpAny_newTuple ?_ (by show vs.length<=_;rw[sizeLine_eq];lia))));refine zZ (wpAny_newList (wpAny_holding ?_) (xU _));have hsz:vs.toArray.size=vs.length:=zJ ..;have xx:∀b o,o.cls = .type "tuple" -> s.heap.get? b=some o->(((s.heap.update a (a7K λ_=>(#[]:Array Value))).push (seqObj "tuple" vs.toArray 0)).push (seqObj "list" #[] 0)).get? b=some o:=λb o hc q=>by
   have hb:b≠a:=λe=>by subst e;rw[ho] at q;cases q;exact absurd hc (show ¬(b6Q "list"=b6Q "tuple") by decide)
   refine zW _ (zW _ ?_);rw[yB _ _ _ _ hb];exact q
 have yO:(((s.heap.update a (a7K λ_=>(#[]:Array Value))).push (seqObj "tuple" vs.toArray 0)).push (seqObj "list" #[] 0)).get? a=some (seqObj "list" #[] e1):=zW _ (zW _ Cq);show wpAny (model prog w) A _ P E { s with heap:=((s.heap.update a (a7K λ_=>(#[]:Array Value))).push (seqObj "tuple" vs.toArray 0)).push (seqObj "list" #[] 0) };dsimp only;by_cases h2:vs.toArray.size < 2
 . rw[if_pos h2,if_pos h2];refine zZ (zY ?_);rw[StateT.run_pure];refine zZ (zY (zZ (seqEpoch_at yO rfl ?_)));have e3:(arrOf (SortSt.mk' general' (vs.toArray.zip vs.toArray) #[] 7 none)).map (·.2)=vs.toArray:=by show(vs.toArray.zip vs.toArray).map (·.2)=vs.toArray;apply Array.toList_inj.mp;rw[Array.toList_map,Array.toList_zip];exact List.map_snd_zip (zR _)
   rw[e3];refine zZ (listUpdate_at yO rfl ?_ (xU _) (by rw[zJ,sizeLine_eq];lia));simp only[bne_self_eq_false,b2K,if_false];have:=h (a1V vs.length) (.refl _) (λi j bc hj=>by lia);have e4:(a1V vs.length).map (λi=>vs.getD i a0W)=vs:=by
     apply b0V;intro i;rw[zF];by_cases hi:i < vs.length;. rw[yA hi];simp[hi]
     . rw[a3Z (by simp;lia),a3Z (by lia)];rfl
   rw[e4] at this;exact zY this
 . rw[if_neg h2,if_neg h2];have xv:2<=vs.length:=by lia
   have t6:=t.keep xx;obtain⟨fs,q1,q2,q3⟩:=t6.kat;refine zZ (kat_kind (T:=.type "str") q1 (by have:=t.1;lia) (λv hv=>?_) rfl ?_);. obtain⟨x,tt,rfl⟩:=q3 v hv;exact Looks.of_pure rfl
   have hn:vs.length=ns.length:=t.1;have S:Strict vs.length (λi j=>decide (i < vs.length)&&(decide (j < vs.length)&&decide ((ns.getD i "").cps.toList < (ns.getD j "").cps.toList))):=by
     refine⟨λi=>?_,λi j k a b=>?_,λi j hi hj bc=>?_⟩;. simp[List.lt_irrefl]
     . simp only[a0V,decide_eq_true_eq] at a b ⊢;exact⟨a.1,b.2.1,List.lt_trans a.2.2 b.2.2⟩
     . simp only[a0V,decide_eq_true_eq,hi,hj,true_and];have au:(ns.getD i "").cps.toList≠(ns.getD j "").cps.toList:=λe=>by
         have e':ns.getD i ""=ns.getD j "" := by generalize ns.getD i ""=x at e;generalize ns.getD j ""=y at e;obtain⟨⟨x⟩⟩:=x;obtain⟨⟨y⟩⟩:=y;simp at e;rw[e]
         rw[yU,yU,zV (by lia),zV (by lia)] at e';rcases Nat.lt_or_gt_of_ne bc with q | q;. exact List.pairwise_iff_getElem.mp nd i j (by lia) (by lia) q e'
         . exact List.pairwise_iff_getElem.mp nd j i (by lia) (by lia) q e'.symm
       by_cases c:(ns.getD i "").cps.toList < (ns.getD j "").cps.toList;. exact .inl c
       . refine .inr ?_;rcases List.le_iff_lt_or_eq.mp (List.not_lt.mp c) with z | z;. exact z
         . exact absurd z.symm au
   refine zZ (wpAny_mono (kat_run (ks:=vs) (G:=λp s'=>s'={ s with heap:=((s.heap.update a (a7K λ_=>(#[]:Array Value))).push (seqObj "tuple" vs.toArray 0)).push (seqObj "list" #[] 0) }/\Pm vs.length p/\Up _ p vs.length) (Q:=λka s'=>s'={ s with heap:=((s.heap.update a (a7K λ_=>(#[]:Array Value))).push (seqObj "tuple" vs.toArray 0)).push (seqObj "list" #[] 0) }/\failedOf ka=none/\∃p:Array Nat,Pm vs.length p/\Up _ p vs.length/\(arrOf ka).map (·.2)=List.toArray (p.toList.map λi=>vs.getD i a0W))
     rfl xv de (λp ka s' a1 a2 a3 a4=>⟨a4.1,a3,p,a4.2.1,a4.2.2,kat_snds rfl a2⟩) ((ZW S (by lia)).wp (λi j C hi hj bc hC=>?_) λp hp=>⟨rfl,hp.1,hp.2⟩)) ?_ λ_ _ e=>e)
   . refine eO t6 nd (by lia) (by lia) bc ?_;simp only[hi,hj,decide_true,Bool.true_and] at hC;exact hC
   . rintro⟨⟨⟩,ka⟩ s' ⟨rfl,hf,p,hp,hu,hm⟩;dsimp only;refine zZ (seqEpoch_at yO rfl ?_);rw[hm];refine zZ (listUpdate_at yO rfl ?_ (xU _) (by
       have z:=hp.length_eq;simp only[xZ,a5X] at z;simp only[zJ,zX,a5X];rw[sizeLine_eq];lia));rw[hf];simp only[bne_self_eq_false,b2K,if_false];refine zY (h p.toList hp λi j bc hj=>?_);have:=hu i j bc hj;simp only[a0V,decide_eq_true_eq] at this;have ed:∀k,p.toList.getD k 0=p.getD k 0:=λk=>by rw[yU,b4X,a9V]
     rw[ed,ed];exact this.2.2
theorem TN {l:Addr}{vs:List Value}{Q:List Value->Shared->Prop}(hl:s.heap.IsList l vs.toArray\/s.heap.IsTuple l vs.toArray) (h:Q vs { s with heap:=(s.heap.push (seqObj "list" #[] 0)).update s.heap.objs.size (a7K (·++vs.toArray)) }) (hsz:vs.length<=sizeLine) :
   wpAny (model prog w) A (collect (.ref l)) Q E s:=by
 rcases hl with hl | ⟨o,ho,hc,n,hd⟩
 . exact collect_list hl h hsz
 unfold collect;refine zZ (wpAny_runValue (codeAny_builtin entry_proto_collect' ?_));show wpAny _ _ (do again (.builtin "list.__iadd__" ⟨[<-newList [],.ref l],[]⟩)) _ _ s;refine zZ (wpAny_newList (zY ⟨Code.quiet_builtin _ (by decide +kernel),codeAny_builtin entry_list_iadd' ?_⟩));show wpAny _ _ (a8W (.ref s.heap.objs.size) (.ref l) (.ref s.heap.objs.size)) _ _ { s with heap:=s.heap.push (seqObj "list" #[] 0) };unfold a8W;have kq:(s.heap.push (seqObj "list" #[] 0)).get? l=some o:=zW _ ho;refine zZ (wpAny_typeOf (T:= "tuple") ⟨o,kq,hc⟩ ?_);have ht:(b6Q "tuple" == b6Q "tuple")=true:=by rfl
 rw[if_pos (by rw[ht];simp)];refine zZ (listItems_at kq hd ?_);refine zZ (listItems_at (xs:=#[]) (n:=0) (yZ _ rfl) rfl ?_);rw[if_neg (by simp)];refine zZ (listUpdate_at (xs:=#[]) (n:=0) (yZ _ rfl) rfl ?_ (xU _) (by show(#[]++vs.toArray).size<=sizeLine+1;simp only[Array.size_append,zJ,List.length_nil];lia));refine zY ?_;show wpAny (model prog w) A (do
     let o <- load s.heap.objs.size
     match o.data with
     | .seq xs _=>pure xs.toList
     | _=>unsupported "internal:collect") Q E { s with heap:=(s.heap.push (seqObj "list" #[] 0)).update s.heap.objs.size (a7K (·++vs.toArray)) };refine zZ (wpAny_load (get?_update_seq (yZ _ rfl) _) ?_);show wpAny _ _ (pure ((#[]:Array Value)++vs.toArray).toList) Q E _;rw[show((#[]:Array Value)++vs.toArray).toList=vs by simp];exact zY h
theorem TQ {l:Addr}{vs:List Value}{ns:List Str}{Q:Value->Shared->Prop}(hl:s.heap.IsList l vs.toArray\/s.heap.IsTuple l vs.toArray) (t:TupsN s.heap vs ns) (nd:ns.Nodup) (de:vs.length < 64) (h:∀p:List Nat,p.Perm (a1V vs.length)->(∀i j,i < j->j < vs.length->(ns.getD (p.getD i 0) "").cps.toList < (ns.getD (p.getD j 0) "").cps.toList) ->
     Q (.ref (s.heap.objs.size+1)) { s with heap:=sortedAll s.heap vs (p.map λi=>vs.getD i a0W).toArray }) :
   wpAny (model prog w) A (call (.builtin "sorted") [.ref l]) Q E s:=by
 refine Calls.call_function_entry kind_sorted plain_sorted entry_sorted (args_sorted1 _) ?_;unfold Builtin.«sorted»;refine zZ (m:=checkCount "sorted" 1 1 _) (zY (zZ (TN hl (zZ (wpAny_newList ?_ (by rw[sizeLine_eq];lia))) (by rw[sizeLine_eq];lia))));generalize hH:(s.heap.push (seqObj "list" #[] 0)).update s.heap.objs.size (a7K (·++vs.toArray))=H1;have hsz:H1.objs.size=s.heap.objs.size+1:=by rw[<-hH,Heap.size_update,size_push']
 have old:∀b o,s.heap.get? b=some o->(H1.push (seqObj "list" vs.toArray 0)).get? b=some o:=λb o q=>by refine zW _ ?_;rw[<-hH,yB _ _ _ _ (zC (zM q))];exact zW _ q
 have v_:(H1.push (seqObj "list" vs.toArray 0)).get? (s.heap.objs.size+1)=some (seqObj "list" vs.toArray 0):=by rw[<-hsz];exact yZ _ rfl
 show wpAny _ _ _ _ _ { s with heap:=H1.push (seqObj "list" vs.toArray 0) };rw[hsz];refine zZ (wpAny_holding (wpAny_call_entry slot_list_sort ⟨_,v_,rfl⟩ entry_list_sort (N0 v_ (t.keep λb o _ q=>old b o q) nd de λp a1 a2=>⟨_,rfl,?_⟩) (args_list_sort _)));have:=h p a1 a2;unfold sortedAll at this;rw[hH] at this;exact zY ⟨_,rfl,this⟩
theorem TR {d:Addr}{kvs:List (Key×Value)}{ss:List Str}{Q:Value->Shared->Prop}(hh:A.handled=none) (hd:(d==sysModules)=false) (dd:s.heap.DictOf (AQ prog w) d kvs) (hk:kvs.map (·.1)=ss.map a1K) (de:ss.length < 64) (h:∀(h1 h':Heap) (tk:Nat) (out:List Value) (e:Nat) (fu:List Str),(∀b o,s.heap.get? b=some o->h1.get? b=some o)->(∀b o,h1.get? b=some o->h'.get? b=some o)->h'.get? h1.objs.size=some (seqObj "list" out.toArray e)->StrsAre out fu->fu.Perm ss->sortedS fu=true->Q (.ref h1.objs.size) { s with heap:=h',toks:=tk }) :
   wpAny (model prog w) A (call (.builtin "sorted") [.ref d]) Q E s:=by
 refine Calls.call_function_entry kind_sorted plain_sorted entry_sorted (args_sorted1 _) ?_;obtain⟨ep,xy⟩:=dd.dictAt;have af:kvs.length=ss.length:=by have:=congrArg b7J hk;simpa using this
 unfold Builtin.«sorted»;refine zZ (m:=checkCount "sorted" 1 1 _) (zY (zZ (kdu_collect (A:=A.in1) (kdl_dict (kvs:=kvs) (ep:=ep) hd) hh xy (by rw[af,sizeLine_eq];lia) λh' tk acc hold qi=>?_)));have hl:acc.toList.length=ss.length:=by rw[a5X,qi.1,af]
 have hS:StrsAre acc.toList ss:=by
   have go:∀(vs:List Value) (zs:List Str),vs.length=zs.length->(∀(i:Nat) v x,vs[i]?=some v->zs[i]?=some x->∃t,v=b6X x t)->StrsAre vs zs:=by
     intro vs;induction vs with
     | nil=>intro zs hz _;cases zs with
       | nil=>exact .nil
       | cons _ _=>simp at hz
     | cons v vs ih=>intro zs hz hv;cases zs with
       | nil=>simp at hz
       | cons x zs=> obtain⟨t,rfl⟩:=hv 0 v x rfl rfl;exact .cons x t (ih zs (by simpa using hz) λi v x e1 e2=>hv (i+1) v x (by simpa using e1) (by simpa using e2))
   refine go _ _ hl λi v x e1 e2=>?_;obtain⟨k,y,g1,g2⟩:=qi.2 i v (by rw[<-a9V];exact e1);have e3:(kvs.map (·.1))[i]?=some k:=by rw[zF,g1];rfl
   rw[hk,zF,e2] at e3;cases e3;have Hh:M9 (.inr x) v=true:=g2;rcases AY Hh with ⟨i,t,e,_⟩ | ⟨z,t,e,e'⟩
   . cases e
   . cases e;exact⟨t,e'⟩
 refine zZ (wpAny_newList ?_ (by rw[hl,sizeLine_eq];lia));have v_:(h'.push (seqObj "list" acc.toList.toArray 0)).get? h'.objs.size=some (seqObj "list" acc.toList.toArray 0):=yZ _ rfl;show wpAny _ _ _ _ _ { s with heap:=h'.push (seqObj "list" acc.toList.toArray 0),toks:=tk };refine zZ (wpAny_holding (wpAny_call_entry (s:={ s with heap:=h'.push (seqObj "list" acc.toList.toArray 0),toks:=tk }) slot_list_sort ⟨_,v_,rfl⟩ entry_list_sort (list_sort_treeK strKind_oneLt v_ hS.keysOf (λv₁ v₂ rest e=>keyKind_strs (by rw[<-e];exact hS)) (by rw[hl];exact de) λka hp hs=>⟨_,rfl,?_⟩) (args_list_sort _)));obtain⟨fu,h1,h2,h3⟩:=sorted_out_str hS hp hs;obtain⟨e,he⟩:=sortedHeap_at (out:=(arrOf ka).map (·.2)) v_;refine zY ⟨_,rfl,h h' _ tk ((arrOf ka).map (·.2)).toList e fu hold (λb o q=>?_) (by rw[Array.toArray_toList];exact he) h1 h2 h3⟩;have lt:b < h'.objs.size:=zM q;rw[sortedHeap_old (zC lt) (by rw[size_push'];exact b7X lt)];exact zW _ q
end
end L2
namespace L2
open PySem PySem.Spec PyProof.Rows
def tlD (prog:Program) (w:World) (A:Around) (kx vx:Expr):Env->Addr->(Shared->Prop)->Shared->Prop:=λenv D P s=>wpAny (model prog w) A (eval kx env) (λkv s₄=>wpAny (model prog w) A (eval vx env) (λvv s₅=>wpAny (model prog w) A (dictSet D kv vv) (λ_ s₆=>P s₆) (λ_ _=>False) s₅) (λ_ _=>False) s₄) (λ_ _=>False) s
theorem kP {prog:Program}{w:World}{A:Around}{kx vx target iter:Expr}{ifs:List Expr}{scope:Scope}{pos:Pos}:VU prog w A (.DictComp kx vx [⟨target,iter,ifs,0⟩] scope pos) target ifs (tlD prog w A kx vx):=by
 intro it D env R I turn n s h;refine codeAny_loop rfl I (λn s hI=>?_) n h;show wpAny _ A ((compTurn (.DictComp kx vx [⟨target,iter,ifs,0⟩] scope pos) 0 (.ref it) (.ref D) env).onRaise (λx=>do noteFrame x env;theTreesLotGoes x)) _ _ s;refine wpAny_noted ?_;rw[compTurn_dict];refine zZ (wpAny_standAt (zZ (wpAny_mono (AS (turn n s hI)) (λr s₁ h₁=>?_) λ_ _ h'=>h')));cases r with
 | none=>exact zY h₁
 | some v=>
   refine zZ (wpAny_mono (AS h₁) (λ_ s₀ h₀=>?_) λ_ _ h'=>h');refine zZ (wpAny_mono (AS h₀) (λ_ s₂ h₂=>zZ (wpAny_mono (AS h₂) (λok s₃ h₃=>?_) λ_ _ h'=>h')) λ_ _ h'=>h');cases ok with
   | false=>exact zY ⟨rfl,h₃⟩
   | true=> exact zZ (zZ (wpAny_mono (AS h₃) (λkv s₄ h₄=>zZ (wpAny_holding (wpAny_mono (AS h₄) (λvv s₅ h₅=>zZ (wpAny_standAt (wpAny_holding (wpAny_mono (AS h₅) (λ_ s₆ h₆=>zY ⟨rfl,h₆⟩) λ_ _ h'=>h')))) λ_ _ h'=>h'))) λ_ _ h'=>h'))
theorem qE {X:Cx}{pins:List (Addr×Obj)}{σ:St}{H:Hp}{s:Shared}{a:Addr}{kvs:List (Key×V)}{k:Key}{v:V}{u r:Value}{A:Around}{E:Value->Shared->Prop}{Q:Unit->Shared->Prop} (I:Inv X pins σ H s) (e:H a=some (.dK kvs)) (l:kvs.length < sizeLine) (ry:RelV (kV k) u) (rv:RelV v r) (h:∀s',Inv X pins σ (upd H a (.dK (GD kvs k v))) s'->Q () s'):wpAny (model X.prog X.w) A (dictSet a u r) Q E s:=by
 obtain⟨z,hd,vs,rel,dd⟩:=XF I.hok e;have hz:vs.length<=sizeLine:=by rw[<-rel.length];exact z
 have hl:(GD kvs k v).length<=sizeLine:=by have:=GJ kvs k v;lia
 refine wpAny_dictSet_pairs (hsz:=hz) (IT ry) dd λh' ko hs=>h _ ?_;have he:∃q,h'.get? a=some q:=let ⟨q,_,_,hq,_⟩:=ko;⟨q,hq⟩;exact IV I (by rw[e];exact a9X) hs he (MI hl hd (rel.put k rv) ko)
def WB (fr:List (Option Nat)) (wi:TI) (g:TG) (tt:TT) (tk tv:TE):TE:=λσ H Q=>wi σ H λJ H1=>∀D,H1 D=none->∃W:Nat->Nat->List (Key×V)->Hp->Prop,(∃m,W 0 m [] (upd H1 D (.dK []))) /\∀i m ys H2,W i m ys H2->H2 D=some (.dK ys)/\((J.stop i H2/\Q (.ref D) H2)\/(J.go i H2/\∀x H3,J.yld i H2 x H3->g x (capt fr σ) H3 λσ2 H4=>
   (∀(i:Nat) v,(capt fr σ)[i]?=some (some v)->σ2[i]?=some (some v))/\tt σ2 H4 λc H5=>if c=true then tk σ2 H5 λx H6=>tv σ2 H6 λy H7=>∃ci k,x=kV k/\H7 D=some (.dK ci)/\ci.length < sizeLine/\∃m',m' < m/\W (i+1) m' (GD ci k y) (upd H7 D (.dK (GD ci k y)))
     else ∃ci m',m' < m/\W (i+1) m' ci H5))
section
variable {X:Cx}{scope:Scope}{NC:List Str}{fr:List (Option Nat)}{pins:List (Addr×Obj)}{σ:St}{H:Hp}{s:Shared}
theorem ZX {kx vx iter tg:Expr}{ifs:List Expr}{pos ah:Pos}{wi:TI}{g:TG}{tt:TT}{tk tv:TE}{use:Option (Value->Sem Unit)}{Q:VK}{QQ:Value->Shared->Prop} (hc:X.calm=true) (S:CSc X scope NC fr) (hi:PI X tg iter wi) (hb:∀(C:Addr) (s:Shared) (H:Hp) (ex:List Addr) (pn:List (Addr×Obj)),PG (AU X scope NC C s H ex pn) tg g/\PTs (AU X scope NC C s H ex pn) ifs tt/\PE (AU X scope NC C s H ex pn) kx tk/\PE (AU X scope NC C s H ex pn) vx tv) (I:Inv X pins σ H s) (hu:X.A.units+1 < cLine) (h:WB fr wi g tt tk tv σ H Q) (fin:oV X pins σ use Q QQ) (hs:∀x,foldedSetIterable iter X.env x=pure x) :
   wpAny (model X.prog X.w) X.A (comprehension (.DictComp kx vx [⟨tg,iter,ifs,0⟩] scope pos) scope X.env ah newDict false (eval iter X.env) use) QQ X.xe s:=by refine PJ (y0:=[]) (at_:=.dK) (Ty:= "dict") (dt:=.dict #[]) (tl:=tlD X.prog X.w X.A kx vx) (el:=λD m W σ2 H5=>tk σ2 H5 λx H6=>tv σ2 H6 λy H7=>∃ci k,x=kV k/\H7 D=some (.dK ci)/\ci.length < sizeLine/\∃m',m' < m/\W m' (GD ci k y) (upd H7 D (.dK (GD ci k y)))) rfl rfl (by size_fits) (λH h b=>SX h b) kP codeAny_compStart_dict hc S hi (λC s H ex pn=>⟨(hb C s H ex pn).1,(hb C s H ex pn).2.1,λvW s' σ H' D n W P I q k=>?_⟩) I h fin hs;refine thn ((hb C s H ex pn).2.2.1 _ s' σ H' _ I q) λyk zv ⟨kv,zw,zz,z_,Hi⟩=>thn ((hb C s H ex pn).2.2.2 _ zv σ zw _ zz Hi) λyv y9 ⟨vv,Gw,z0,Hj,ci,kk,ek,hD,hsz,m',wZ,w'⟩=>?_;subst ek;exact qE (X:=AU X scope NC C s H ex pn) z0 hD hsz z_ Hj λs' I'=>k m' _ _ _ wZ w' I'
theorem eQ {kx vx iter tg:Expr}{ifs:List Expr}{pos:Pos}{wi:TI}{g:TG}{tt:TT}{tk tv:TE}(hc:X.calm=true) (hu:X.A.units+1 < cLine) (S:CSc X scope NC fr) (hi:PI X tg iter wi) (hb:∀(C:Addr) (s:Shared) (H:Hp) (ex:List Addr) (pn:List (Addr×Obj)),PG (AU X scope NC C s H ex pn) tg g/\PTs (AU X scope NC C s H ex pn) ifs tt/\PE (AU X scope NC C s H ex pn) kx tk/\PE (AU X scope NC C s H ex pn) vx tv) (hs:∀x,foldedSetIterable iter X.env x=pure x:=by intro _;rfl):PE X (.DictComp kx vx [⟨tg,iter,ifs,0⟩] scope pos) (WB fr wi g tt tk tv):=by intro pins s σ H Q I h;rw[arm_eval_DictComp];refine ZX (use:=none) (Q:=Q) hc S hi hb I hu h (λD C H' s' m oC I' hn q back _ h' sb=>?_) hs;exact⟨.ref D,H',back pins σ H' s' h' I' sb,rfl,q⟩
end
end L2
namespace L2
open PySem PySem.Spec PyProof.Rows PySem.W
def eR (K:Frg):List V->Hp->VK->Prop:=λxs H Q=>∃(p:Addr) (es:List (Addr×Str×List V)),xs=[.ref p]/\(SqL K H p (es.map λe=>V.ref e.1)\/SqT K H p (es.map λe=>V.ref e.1))/\(∀e∈es,SqT K H e.1 (.str e.2.1::e.2.2))/\(es.map λe=>e.2.1).Nodup/\es.length < 64 /\∀(ir:List (Addr×Str×List V)) (q:Addr),ir.Perm es->ir.Pairwise (λx y=>x.2.1.cps.toList < y.2.1.cps.toList)->H q=none->Q (.ref q) (upd H q (.lst (ir.map λe=>V.ref e.1)))
def eT:List V->Hp->VK->Prop:=λxs H Q=>∃(p:Addr) (kvs:List (Key×V)) (ss:List Str),xs=[.ref p]/\Rd H p (.dK kvs)/\kvs.map (·.1)=ss.map a1K/\ss.length < 64 /\∀(fu:List Str) (q:Addr),fu.Perm ss->sortedS fu=true->H q=none->Q (.ref q) (upd H q (.lst (fu.map V.str)))
def K4 (K:Frg):List V->Hp->VK->Prop:=λxs H Q=>dI K xs H Q\/eR K xs H Q\/eT xs H Q
section
variable {X:Cx}
theorem PY:∀{es:List (Addr×Str×List V)}{aa:List Value},Vals (es.map λe=>V.ref e.1) aa->aa=es.map λe=>a0X e.1
 | [],_,.nil=>rfl
 | _::_,_,.cons r t=>by rw[PY t];cases r;rfl
theorem PZ:∀{es:List (Addr×Str×List V)},Vals (es.map λe=>V.ref e.1) (es.map λe=>a0X e.1)
 | []=>.nil
 | _::_=>.cons rfl PZ
theorem WC:B9 X (.builtin "sorted") (eR X.K):=by
 intro pins s σ H xs us Q I r h;obtain⟨p,es,rfl,hp,ht,nd,de,q⟩:=h;obtain⟨u,rfl,ru⟩:=F3 r;cases ru;obtain⟨aa,rv,pl⟩:∃aa:List Value,Vals (es.map λe=>V.ref e.1) aa/\(s.heap.IsList p aa.toArray\/s.heap.IsTuple p aa.toArray):=by
   rcases hp with hp | hp;. obtain⟨aa,rv,pl,_⟩:=I.list hp;exact⟨aa,rv,.inl pl.isList⟩
   . obtain⟨aa,rv,pl,_⟩:=I.tuple hp;exact⟨aa,rv,.inr pl⟩
 have ei:=PY rv;subst ei;have tn:TupsN s.heap (es.map λe=>a0X e.1) (es.map λe=>e.2.1):=by
   refine⟨by simp,λi v nm e1 e2=>?_⟩;rw[zF] at e1 e2;cases he:es[i]? with
   | none=>rw[he] at e1;cases e1
   | some e=>
     rw[he] at e1 e2;cases e1;cases e2;obtain⟨js,rj,⟨o,ho,hc,n,hd⟩,_⟩:=I.tuple (ht e (yN he));cases rj with
     | cons r0 _=> obtain⟨t,rfl⟩:=r0;exact⟨e.1,o,_,n,t,rfl,ho,hc,hd,by simp⟩
 refine TQ pl tn nd (by simpa using de) λpm h1 h2=>?_;simp only[zX] at h1 h2;obtain⟨e,he⟩:=sortedAll_at s.heap (es.map λe=>a0X e.1) (pm.map λi=>(es.map λe=>a0X e.1).getD i a0W).toArray;have hn:H (s.heap.objs.size+1)=none:=I.hok.fresh (a6K _);obtain⟨ir,mw⟩:∃ir:List (Addr×Str×List V),ir=pm.filterMap λi=>es[i]?:=⟨_,rfl⟩
 have wB:∀i∈pm,i < es.length:=λi hi=>List.mem_range.mp (h1.mem_iff.mp hi);have x_:∀(l:List Nat),(∀i∈l,i < es.length)->(l.filterMap λi=>es[i]?)=l.attach.map λi=>es.getD i.1 (0, "", []):=λl=>by
   intro hl;induction l with
   | nil=>rfl
   | cons a l ih=> have ha:=hl a (by simp);rw[a5J,zV ha];simp only[List.attach_cons,zI,zD];rw[ih λi hi=>hl i (yV _ hi)];simp[yU,zV ha]
 have vK:ir=pm.map λi=>es.getD i (0, "", []):=by rw[mw,x_ pm wB];simp
 have perm:ir.Perm es:=by
   rw[mw];refine(h1.filterMap _).trans ?_;rw[show((a1V es.length).filterMap λi=>es[i]?)=es from ?_];apply b0V;intro i;have:((a1V es.length).filterMap λi=>es[i]?)=(a1V es.length).map λi=>es.getD i (0, "", []):=by rw[x_ _ λi hi=>List.mem_range.mp hi];simp
   rw[this,zF];by_cases hi:i < es.length;. rw[yA hi];simp[hi]
   . rw[a3Z (by simp;lia),a3Z (by lia)];rfl
 have outs:(pm.map λi=>(es.map λe=>a0X e.1).getD i a0W)=ir.map λe=>a0X e.1:=by rw[vK,zD];apply yM;intro i hi;have hi:=wB i hi;simp[yU,zF,zV hi]
 have Hk:pm.length=es.length:=by have:=h1.length_eq;simpa using this
 have Hl:ir.Pairwise (λx y=>x.2.1.cps.toList < y.2.1.cps.toList):=by
   rw[vK,b3J,List.pairwise_iff_getElem];intro i j hi hj bc;have:=h2 i j bc (by lia);have g:∀k (hk:k < pm.length),(es.map λe=>e.2.1).getD (pm.getD k 0) (a0Q "")=(es.getD pm[k] (0, "", [])).2.1:=λk hk=>by have xA:=wB pm[k] (a4X hk);rw[yU (l:=pm),zV hk];simp[yU,zF,zV xA]
   rw[g i hi,g j hj] at this;exact this
 rw[outs] at he ⊢;refine⟨.ref (s.heap.objs.size+1),_,I.laid (t':=s.toks) (o:=.lst (ir.map λe=>V.ref e.1)) (λb o eb=>sortedAll_old eb) (a6K _) ?_,rfl,q ir _ perm Hl hn⟩;refine⟨by rw[zX,perm.length_eq];exact zN (xT de) (by decide),ir.map λe=>a0X e.1,e,PZ,?_⟩;have mw:=he;simpa [seqObj] using mw
theorem WE (hc:X.calm=true):B9 X (.builtin "sorted") eT:=by
 intro pins s σ H xs us Q I r h;obtain⟨p,kvs,ss,rfl,hp,hk,de,q⟩:=h;obtain⟨u,rfl,ru⟩:=F3 r;cases ru;obtain⟨z,hd,vs,rel,dd⟩:=IU I.hok hp;have xA:vs.map (·.1)=ss.map a1K:=by
   rw[<-hk];clear hk dd z hp q;unfold KV at rel;induction rel with
   | nil=>rfl
   | cons h t ih=>simp[h.1,ih]
 refine TR (I.ok.hd hc) hd dd xA de λh1 h' tk out e fu k1 k2 ho hS vL xB=>?_;have I1:Inv X pins σ H { s with heap:=h1,toks:=tk }:=I.kept k1;have hn:H h1.objs.size=none:=I1.hok.fresh (zR _);refine⟨.ref h1.objs.size,_,I1.laid (t':=tk) (o:=.lst (fu.map V.str)) (h':=h') k2 (zR _) ?_,rfl,q fu _ vL xB hn⟩;refine⟨by rw[zX,vL.length_eq];exact zN (xT de) (by decide),out,e,dH hS,?_⟩;simpa [seqObj] using ho
theorem WF (hc:X.calm=true):B9 X (.builtin "sorted") (K4 X.K):=by
 intro pins s σ H xs us Q I r h;rcases h with h | h | h;. exact VY pins s σ H xs us Q I r h
 . exact WC pins s σ H xs us Q I r h
 . exact WE hc pins s σ H xs us Q I r h
end
end L2
namespace DL
open PySem PySem.Spec L2
def AJ (ts:List (Str×PyData)):List (PyData×PyData):=ts.map λt=>(a2W t.1,t.2)
def TU (ts:List (Str×PyData)) (k:Str) (d:PyData):List (Str×PyData):=
 if (ts.any λt=>decide (t.1=k))=true then ts.map (λt=>if t.1=k then (t.1,d) else t) else ts++[(k,d)]
def Q0 (ts:List (Str×PyData)) (k:Str):List (Str×PyData):=ts.filter λt=>decide (t.1≠k)
def CV:List (Str×PyData)->Str->Option PyData
 | [],_=>none
 | t::r,k=>if t.1=k then some t.2 else CV r k
section
variable {K:Frg}{H:Hp}{W:Addr->Prop}
theorem BF {t:Str×PyData}{ts:List (Str×PyData)}{ks:List (Key×V)}:DKV K H W (AJ (t::ts)) ks↔∃v r,ks=(a1K t.1,v)::r/\DV K H W t.2 v/\DKV K H W (AJ ts) r:=by
 unfold AJ;rw[zI];constructor
 . intro h;unfold DKV at h;obtain⟨k',v,r,e,e2,h1,h2⟩:=h;cases k' with
   | inl i=>cases e2
   | inr x=>
     have e3:t.1=x:=by simpa [sB] using e2
     subst e3;exact⟨v,r,e,h1,h2⟩
 . rintro⟨v,r,e,h1,h2⟩;unfold DKV;exact⟨a1K t.1,v,r,e,rfl,h1,h2⟩
theorem DD {ks:List (Key×V)}:DKV K H W (AJ []) ks↔ks=[]:=by unfold AJ;simp only[List.map_nil];unfold DKV;exact Iff.rfl
theorem N1:∀{ts:List (Str×PyData)}{ks:List (Key×V)},DKV K H W (AJ ts) ks->ks.map (·.1)=(ts.map (·.1)).map a1K
 | [],ks,h=>by rw[DD.mp h];rfl
 | t::ts,ks,h=>by obtain⟨v,r,rfl,_,h2⟩:=BF.mp h;simp[N1 h2]
theorem Y1 {k:Str}:∀{ts:List (Str×PyData)}{ks:List (Key×V)},DKV K H W (AJ ts) ks->(ks.any λkv=>decide (kv.1=a1K k))=ts.any λt=>decide (t.1=k)
 | [],ks,h=>by rw[DD.mp h];rfl
 | t::ts,ks,h=>by
   obtain⟨v,r,rfl,_,h2⟩:=BF.mp h;rw[b2J,b2J,Y1 h2];congr 1;by_cases e:t.1=k;. rw[decide_eq_true e,decide_eq_true (by rw[e])]
   . rw[decide_eq_false e,decide_eq_false λq=>e (by injection q)]
theorem N2 {k:Str}{d:PyData}{v:V}(hd:DV K H W d v):∀{ts:List (Str×PyData)}{ks:List (Key×V)},DKV K H W (AJ ts) ks ->
   DKV K H W (AJ (ts.map λt=>if t.1=k then (t.1,d) else t)) (ks.map λkv=>if kv.1=a1K k then (kv.1,v) else kv)
 | [],ks,h=>by rw[DD.mp h];exact DD.mpr rfl
 | t::ts,ks,h=>by
   obtain⟨u,r,rfl,h1,h2⟩:=BF.mp h;rw[zI,zI];by_cases e:t.1=k;. rw[if_pos e,if_pos (by rw[e])];exact BF.mpr ⟨v,_,rfl,hd,N2 hd h2⟩
   . rw[if_neg e,if_neg λq=>e (by injection q)];exact BF.mpr ⟨u,_,rfl,h1,N2 hd h2⟩
theorem TV {k:Str}{d:PyData}{v:V}(hd:DV K H W d v):∀{ts:List (Str×PyData)}{ks:List (Key×V)},DKV K H W (AJ ts) ks->DKV K H W (AJ (ts++[(k,d)])) (ks++[(a1K k,v)])
 | [],ks,h=>by rw[DD.mp h];exact BF.mpr ⟨v,[],rfl,hd,DD.mpr rfl⟩
 | t::ts,ks,h=>by obtain⟨u,r,rfl,h1,h2⟩:=BF.mp h;exact BF.mpr ⟨u,_,rfl,h1,TV hd h2⟩
theorem Y2 {k:Str}{d:PyData}{v:V}{ts:List (Str×PyData)}{ks:List (Key×V)}(h:DKV K H W (AJ ts) ks) (hd:DV K H W d v):DKV K H W (AJ (TU ts k d)) (GD ks (a1K k) v):=by
 unfold TU GD;rw[Y1 h];by_cases c:(ts.any λt=>decide (t.1=k))=true;. rw[if_pos c,if_pos c];exact N2 hd h
 . rw[if_neg c,if_neg c];exact TV hd h
theorem N3 {k:Str}:∀{ts:List (Str×PyData)}{ks:List (Key×V)},DKV K H W (AJ ts) ks->DKV K H W (AJ (Q0 ts k)) (IR ks (a1K k))
 | [],ks,h=>by rw[DD.mp h];exact DD.mpr rfl
 | t::ts,ks,h=>by
   obtain⟨u,r,rfl,h1,h2⟩:=BF.mp h;have ih:=N3 (k:=k) h2;unfold Q0 IR at ih ⊢;by_cases e:t.1=k;. rw[a9Q,a9Q,if_neg (by simp[e]),if_neg (by simp[e])];exact ih
   . rw[a9Q,a9Q,if_pos (by simpa using e),if_pos (by simp;exact e)];exact BF.mpr ⟨u,_,rfl,h1,ih⟩
theorem C6 {k:Str}:∀{ts:List (Str×PyData)}{ks:List (Key×V)},DKV K H W (AJ ts) ks->(∃d v,CV ts k=some d/\EV ks (a1K k)=some v/\DV K H W d v)\/(CV ts k=none/\EV ks (a1K k)=none)
 | [],ks,h=>by rw[DD.mp h];exact .inr ⟨rfl,rfl⟩
 | t::ts,ks,h=>by
   obtain⟨u,r,rfl,h1,h2⟩:=BF.mp h;by_cases e:t.1=k;. exact .inl ⟨t.2,u,by simp[CV,e],IS (by rw[e]),h1⟩
   . have e':¬(a1K t.1:Key)=a1K k:=λq=>e (by injection q);rcases C6 (k:=k) h2 with ⟨d,v,a1,a2,a3⟩ | ⟨a1,a2⟩
     . exact .inl ⟨d,v,by simp[CV,e,a1],by rw[GI (p:=(a1K t.1,u)) e'];exact a2,a3⟩
     . exact .inr ⟨by simp[CV,e,a1],by rw[GI (p:=(a1K t.1,u)) e'];exact a2⟩
theorem RD:∀{kvs:List (PyData×PyData)}{ks:List (Key×V)},DKV K H W kvs ks->ks.length=kvs.length
 | [],ks,h=>by unfold DKV at h;subst h;rfl
 | (k,d)::r,ks,h=>by unfold DKV at h;obtain⟨_,_,_,rfl,_,_,h2⟩:=h;simp[RD h2]
end
section
variable {K:Frg}{M:Own}{Q:DS->Own->Prop}{ρ:List (Option DS)}{H:Hp}{td ty tv:TE}{D:EndsD}
theorem E3 (h:DE K td ρ M λx M1=>DE K ty ρ M1 λy M2=>∃(a:Addr) (ts:List (Str×PyData)) (k:Str) (d:PyData),x = .loc a/\y = .d (.str k)/\M2 a=some (.d (AJ ts))/\CV ts k=some d/\Q (.d d) M2):DE K (XG td ty) ρ M Q:=λσ H QQ R kk=>
 h σ H _ R λv H1 x M1 o1 s1 t1 h1=>h1 σ H1 _ (R.step o1 t1) λu H2 y M2 o2 s2 t2 h2=>by
   obtain⟨a,ts,k,d,rfl,rfl,m,l,q⟩:=h2;unfold SI at s1;subst s1;rw[AX s2];obtain⟨ks,e1,e2⟩:=o2 a _ m;rcases C6 (k:=k) e2 with ⟨d',w',a1,a2,a3⟩ | ⟨a1,a2⟩
   . rw[l] at a1;cases a1;exact⟨a,w',rfl,.inl ⟨ks,a1K k,.inl e1,rfl,a2.symm⟩,kk _ H2 (.d d) M2 o2 a3 (t1.trans t2) q⟩
   . rw[l] at a1;cases a1
theorem eU (h:DE K td ρ M λx M1=>DE K ty ρ M1 λy M2=>∃(ts:List (Str×PyData)) (k:Str) (d:PyData),x = .d (.dict (AJ ts))/\y = .d (.str k)/\CV ts k=some d/\Q (.d d) M2):DE K (XG td ty) ρ M Q:=λσ H QQ R kk=>
 h σ H _ R λv H1 x M1 o1 s1 t1 h1=>h1 σ H1 _ (R.step o1 t1) λu H2 y M2 o2 s2 t2 h2=>by
   obtain⟨ts,k,d,rfl,rfl,l,q⟩:=h2;have vI:=s1.step t2;unfold SI DV at vI;obtain⟨a,ks,rfl,nw,e1,e2⟩:=vI;rw[AX s2];rcases C6 (k:=k) e2 with ⟨d',w',a1,a2,a3⟩ | ⟨a1,a2⟩
   . rw[l] at a1;cases a1;exact⟨a,w',rfl,.inl ⟨ks,a1K k,e1,rfl,a2.symm⟩,kk _ H2 (.d d) M2 o2 a3 (t1.trans t2) q⟩
   . rw[l] at a1;cases a1
theorem Y3 (h:DE K ty ρ M λy M1=>DE K td ρ M1 λx M2=>∃(a:Addr) (ts:List (Str×PyData)) (k:Str),x = .loc a/\y = .d (.str k)/\M2 a=some (.d (AJ ts))/\Q (.d (.bool (CV ts k).isSome)) M2):DE K (oQ ty td) ρ M Q:=λσ H QQ R kk=>
 h σ H _ R λv H1 x M1 o1 s1 t1 h1=>h1 σ H1 _ (R.step o1 t1) λu H2 y M2 o2 s2 t2 h2=>by
   obtain⟨a,ts,k,rfl,rfl,m,q⟩:=h2;unfold SI at s2;subst s2;rw[AX s1];obtain⟨ks,e1,e2⟩:=o2 a _ m;refine⟨a,EV ks (a1K k),rfl,.inl ⟨ks,a1K k,.inl e1,rfl,rfl⟩,kk _ H2 _ M2 o2 ?_ (t1.trans t2) q⟩;rcases C6 (k:=k) e2 with ⟨d',w',a1,a2,a3⟩ | ⟨a1,a2⟩
   . rw[a1,a2];exact AH
   . rw[a1,a2];exact AH
theorem BI (h:DE K tv ρ M λz M1=>DE K td ρ M1 λx M2=>DE K ty ρ M2 λy M3=>∃(a:Addr) (ts:List (Str×PyData)) (k:Str) (d:PyData),z = .d d/\x = .loc a/\y = .d (.str k)/\M3 a=some (.d (AJ ts))/\ts.length < sizeLine/\D.nx ρ (M3.put a (.d (AJ (TU ts k d))))):DSt K (mP td ty tv) ρ M D:=λσ H E R k1 k2 k3 k4=>
 h σ H _ R λv H1 z M1 o1 s1 t1 h1=>h1 σ H1 _ (R.step o1 t1) λu H2 x M2 o2 s2 t2 h2=>h2 σ H2 _ (R.step o2 (t1.trans t2)) λyv H3 y M3 o3 s3 t3 h3=>by
   obtain⟨a,ts,k,d,rfl,rfl,rfl,m,hl,q⟩:=h3;unfold SI at s2;subst s2;rw[AX s3];obtain⟨ks,e1,e2⟩:=o3 a _ m;have hd:DV K H3 M3.W d v:=DV.grow (t2.trans t3).grow s1;obtain⟨o4,t4⟩:=FR o3 m (Y2 (k:=k) e2 hd);have af:ks.length < sizeLine:=by rw[RD e2];unfold AJ;rw[zX];exact hl
   have ta:=((t1.trans t2).trans t3).trans t4;exact⟨a,_,rfl,.inl ⟨ks,a1K k,e1,rfl,af,rfl⟩,k1 ρ _ σ _ (R.step o4 ta) ta q⟩
theorem Y4 (h:DE K td ρ M λx M1=>DE K ty ρ M1 λy M2=>∃(a:Addr) (ts:List (Str×PyData)) (k:Str),x = .loc a/\y = .d (.str k)/\M2 a=some (.d (AJ ts))/\(CV ts k).isSome=true/\D.nx ρ (M2.put a (.d (AJ (Q0 ts k))))):DSt K (mQ td ty) ρ M D:=λσ H E R k1 k2 k3 k4=>
 h σ H _ R λv H1 x M1 o1 s1 t1 h1=>h1 σ H1 _ (R.step o1 t1) λu H2 y M2 o2 s2 t2 h2=>by
   obtain⟨a,ts,k,rfl,rfl,m,l,q⟩:=h2;unfold SI at s1;subst s1;rw[AX s2];obtain⟨ks,e1,e2⟩:=o2 a _ m;obtain⟨o4,t4⟩:=FR o2 m (N3 (k:=k) e2);have ta:=(t1.trans t2).trans t4;refine⟨a,ks,a1K k,rfl,e1,rfl,?_,k1 ρ _ σ _ (R.step o4 ta) ta q⟩;rcases C6 (k:=k) e2 with ⟨d',w',a1,a2,a3⟩ | ⟨a1,a2⟩
   . rw[a2];rfl
   . rw[a1] at l;cases l
theorem LQ (h:DE K td ρ M λx M1=>∃(a:Addr) (Cr:List (Str×PyData)),x = .loc a/\M1 a=some (.d (AJ Cr))/\DE K ty ρ M1 λy M2=>∃(ts:List (Str×PyData)) (k:Str) (d:PyData),y = .d (.str k)/\M2 a=some (.d (AJ ts))/\CV ts k=some d/\Q (.d d) (M2.put a (.d (AJ (Q0 ts k))))):DE K (cC td ty) ρ M Q:=λσ H QQ R kk=>
 h σ H _ R λv H1 x M1 o1 s1 t1 h1=>by
   obtain⟨a,Cr,rfl,m0,h1⟩:=h1;unfold SI at s1;subst s1;obtain⟨Hm,e0,_⟩:=o1 a _ m0;refine⟨a,rfl,.inl ⟨Hm,.inl e0⟩,h1 σ H1 _ (R.step o1 t1) λu H2 y M2 o2 s2 t2 h2=>?_⟩;obtain⟨ts,k,d,rfl,m,l,q⟩:=h2;rw[AX s2];obtain⟨ks,e1,e2⟩:=o2 a _ m;rcases C6 (k:=k) e2 with ⟨d',w',a1,a2,a3⟩ | ⟨a1,a2⟩
   . rw[l] at a1;cases a1;obtain⟨o4,t4⟩:=FR o2 m (N3 (k:=k) e2);exact⟨ks,a1K k,w',e1,rfl,a2,kk _ _ (.d d) _ o4 (DV.grow t4.grow a3) ((t1.trans t2).trans t4) q⟩
   . rw[l] at a1;cases a1
theorem eV {a:Addr}{ts:List (Str×PyData)}(m:M a=some (.d (AJ ts))) (de:ts.length < 64) (q:∀ss:List Str,ss.Perm (ts.map (·.1))->xH ss=true->Q (.d (.list (ss.map .str))) M):DR K (K4 K) [.loc a] M Q:=λH vs QQ oa s k=>by obtain⟨v,r,rfl,h1,h2⟩:=s;cases h2;unfold SI at h1;subst h1;obtain⟨ks,e1,e2⟩:=oa a _ m;refine .inr (.inr ⟨a,ks,ts.map (·.1),rfl,.inl e1,N1 e2,by rw[zX];exact de,λfu p h3 h4 hp=>?_⟩);have g:Grow K M.W M.W H (upd H p (.lst (fu.map V.str))):=AM _ hp;refine k _ _ (.d (.list (fu.map .str))) M (oa.new hp) ?_ ⟨g⟩ (q fu h3 h4);unfold SI DV;exact⟨p,_,rfl,.inl ⟨λw=>w (oa.none hp),.inl AF⟩,GL⟩
def K5 (t:Str×List PyData):PyData:=.tuple (.str t.1::t.2)
theorem TX {W:Addr->Prop}:∀{ts:List (Str×List PyData)}{vs:List V},DVs K H W (ts.map K5) vs->∃es:List (Addr×Str×List V),vs=es.map (λe=>V.ref e.1)/\es.map (λe=>e.2.1)=ts.map (·.1)/\(∀e∈es,SqT K H e.1 (.str e.2.1::e.2.2)) /\
   es.length=ts.length/\∀(i:Nat) e t,es[i]?=some e->ts[i]?=some t->DV K H W (K5 t) (.ref e.1)/\e.2.1=t.1
 | [],vs,h=>by unfold DVs at h;subst h;exact⟨[],rfl,rfl,(λe he=>by simp at he),rfl,λi e t h1 h2=>by simp at h1⟩
 | t::ts,vs,h=>by
   rw[zI] at h;unfold DVs at h;obtain⟨v,r,rfl,h1,h2⟩:=h;obtain⟨es,rfl,e2,e3,e4,e5⟩:=TX h2;have Cs:=h1;unfold K5 DV at Cs;obtain⟨a,us,rfl,hw,hd⟩:=Cs;unfold DVs at hd;obtain⟨u,Hn,rfl,hu,Ko⟩:=hd;unfold DV at hu;subst hu;refine⟨(a,t.1,Hn)::es,rfl,by simp[e2],λe he=>?_,by simp[e4],λi e t' h3 h4=>?_⟩
   . rcases yX.mp he with rfl | he;. exact hw.sq
     . exact e3 e he
   . cases i with
     | zero=>simp at h3 h4;subst h3 h4;exact⟨h1,rfl⟩
     | succ i=>exact e5 i e t' (by simpa using h3) (by simpa using h4)
theorem TY {W:Addr->Prop}:∀{es:List (Addr×Str×List V)}{ts:List (Str×List PyData)},es.length=ts.length->(∀(i:Nat) e t,es[i]?=some e->ts[i]?=some t->DV K H W (K5 t) (.ref e.1))->DVs K H W (ts.map K5) (es.map λe=>V.ref e.1)
 | [],[],_,_=>by simp only[List.map_nil];exact DVs.nil
 | [],_::_,h,_=>by simp at h
 | _::_,[],h,_=>by simp at h
 | e::es,t::ts,h,k=>by rw[zI,zI];exact DVs.cons (k 0 e t rfl rfl) (TY (by simpa using h) λi e t h1 h2=>k (i+1) e t (by simpa using h1) (by simpa using h2))
theorem WG {α β:Type}:∀{as yP:List α},yP.Perm as->∀{bs:List β},as.length=bs.length->∃wg:List β,wg.Perm bs/\(yP.zip wg).Perm (as.zip bs)/\yP.length=wg.length:=by
 intro as yP h;induction h with
 | nil=>intro bs hl;exact⟨bs,.refl _,.refl _,hl⟩
 | cons x _ ih=>
   intro bs hl;cases bs with
   | nil=>simp at hl
   | cons b bs=> obtain⟨wg,h1,h2,h3⟩:=ih (bs:=bs) (by simpa using hl);exact⟨b::wg,h1.cons b,by rw[b2Q,b2Q];exact h2.cons _,by simp[h3]⟩
 | swap x y l=>
   intro bs hl
   match bs,hl with
   | b1::b2::bs,hl=>exact⟨b2::b1::bs,.swap _ _ _,by simp only[b2Q];exact .swap _ _ _,by simpa using hl⟩
 | trans p1 p2 ih1 ih2=> intro bs hl;obtain⟨b2,h1,h2,h3⟩:=ih2 hl;obtain⟨b3,g1,g2,g3⟩:=ih1 h3;exact⟨b3,g1.trans h1,g2.trans h2,g3⟩
theorem N4 {a:Addr}{ts:List (Str×List PyData)}{vs:List V}{QQ:VK}(oa:OA K H M) (hl:SqL K H a vs\/SqT K H a vs) (hd:DVs K H M.W (ts.map K5) vs) (nd:(ts.map (·.1)).Nodup) (de:ts.length < 64) (k:∀(w:V) (H':Hp) (z:DS) (M':Own),OA K H' M'->SI K H' M' z w->Step K M M' H H'->(∃cj:List (Str×List PyData),cj.Perm ts/\cj.Pairwise (λx y=>x.1.cps.toList < y.1.cps.toList)/\z = .d (.list (cj.map K5))/\M'=M)->QQ w H'):K4 K [.ref a] H QQ:=by
 obtain⟨es,rfl,e2,e3,e4,e5⟩:=TX hd;refine .inr (.inl ⟨a,es,rfl,hl,e3,by rw[e2];exact nd,by rw[e4];exact de,λir p hp hs hn=>?_⟩);obtain⟨cj,p1,p2,p3⟩:=WG hp e4;have each:∀(i:Nat) e t,ir[i]?=some e->cj[i]?=some t->DV K H M.W (K5 t) (.ref e.1)/\e.2.1=t.1:=λi e t h1 h2=>by have hz:(e,t)∈es.zip ts:=p2.mem_iff.mp (yN (i:=i) (by rw[a8Q];exact⟨h1,h2⟩));obtain⟨j,hj⟩:=List.getElem?_of_mem hz;rw[a8Q] at hj;exact e5 j e t hj.1 hj.2
 have g:Grow K M.W M.W H (upd H p (.lst (ir.map λe=>V.ref e.1))):=AM _ hn;refine k _ _ (.d (.list (cj.map K5))) M (oa.new hn) ?_ ⟨g⟩ ⟨cj,p1,?_,rfl,rfl⟩;. unfold SI DV;exact⟨p,_,rfl,.inl ⟨λw=>w (oa.none hn),.inl AF⟩,(TY p3 λi e t h1 h2=>(each i e t h1 h2).1).grow g⟩
 . rw[List.pairwise_iff_getElem] at hs ⊢;intro i j hi hj bc;have hi':i < ir.length:=by lia
   have hj':j < ir.length:=by lia
   have:=hs i j hi' hj' bc;rw[(each i ir[i] cj[i] (zV hi') (zV hi)).2,(each j ir[j] cj[j] (zV hj') (zV hj)).2] at this;exact this
theorem eY {ts:List (Str×List PyData)}(nd:(ts.map (·.1)).Nodup) (de:ts.length < 64) (q:∀cj:List (Str×List PyData),cj.Perm ts->cj.Pairwise (λx y=>x.1.cps.toList < y.1.cps.toList)->Q (.d (.list (cj.map K5))) M):DR K (K4 K) [.d (.list (ts.map K5))] M Q:=λH vs QQ oa s k=>by obtain⟨v,r,rfl,h1,h2⟩:=s;cases h2;unfold SI DV at h1;obtain⟨a,vs,rfl,hl,hd⟩:=h1;exact N4 oa (.inl hl.sq) hd nd de λw H' z M' o si st ⟨cj,p1,p2,e1,e2⟩=>by subst e1 e2;exact k w H' _ _ o si st (q cj p1 p2)
end
end DL
namespace DL
open PySem PySem.Spec L2
section
variable {X:Cx}{K:Frg}
theorem qF (h:X.K=K) (hc:X.calm=true):B9 X (.builtin "sorted") (K4 K):=h▸WF hc
end
section
variable {K:Frg}{M:Own}{ρ:List (Option DS)}{wi:TI}{g:TG}{H:Hp}
theorem eZ {ts:List (Str×PyData)}{k:Str}{d:PyData}(h:k∉ts.map (·.1)):TU ts k d=ts++[(k,d)]:=by unfold TU;rw[if_neg];intro e;obtain⟨t,ht,e⟩:=List.any_eq_true.mp e;exact h (zL.mpr ⟨t,ht,by simpa using e⟩)
theorem f6 {fr:List (Option Nat)}{tt:TT}{tk tv:TE}{T:List Nat}{Q:DS->Own->Prop}(ho:PK g T) (hT:∀i∈T,∀j,fr[i]?≠some (some j)) (h:DI K wi ρ M λds M1=>ds.length < sizeLine/\∃(c:PyData->Bool) (f:PyData->Str) (w:PyData->PyData),((ds.filter c).map f).Nodup /\(∀d∈ds,∀M',DG K g d (KL fr ρ) M' λρ2 M2=>M2=M'/\DT K tt ρ2 M2 λb M3=>M3=M'/\b=c d/\(c d=true->DE K tk ρ2 M3 λy M4=>y = .d (.str (f d))/\M4=M'/\DE K tv ρ2 M4 λz M5=>z = .d (w d)/\M5=M')) /\∀p,M1 p=none->Q (.loc p) (M1.put p (.d (AJ ((ds.filter c).map λd=>(f d,w d)))))) :
   DE K (WB fr wi g tt tk tv) ρ M Q:=λσ H QQ R k=>
 h σ H _ R λJ ds H1 M1 o1 t1 wd ⟨hsz,c,f,w,nd,he,hq⟩=>by
   intro A hA;obtain⟨oA,sA⟩:=MN (kvs:=[]) (ks:=[]) o1 hA (by unfold DKV;rfl);have hM:=o1.none hA;let acc:Nat->List (Str×PyData):=λi=>((ds.take i).filter c).map λd=>(f d,w d)
   refine⟨λi m ys H2=>m=ds.length - i/\i<=ds.length/\H2 A=some (.dK ys)/\OA K H2 (M1.put A (.d (AJ (acc i))))/\Step K M1 (M1.put A (.d (AJ (acc i)))) H1 H2,⟨_,rfl,xU _,AF,oA,sA⟩,?_⟩;rintro i m ys H2 ⟨rfl,hi,xj,oa,st⟩;refine⟨xj,?_⟩;by_cases dj:i < ds.length
   . refine .inr ⟨wd.go i H2 _ dj oa st,λx H3 y=>?_⟩;obtain⟨zE,ml,d,e1,e2⟩:=wd.yld i H2 _ x H3 oa st dj y;have Rc:Rel K (M1.put A (.d (AJ (acc i)))) (KL fr ρ) (L2.capt fr σ) H3:=((R.step o1 t1).step zE (st.trans ml)).capt;have ts:(ds.take (i+1)).filter c=(ds.take i).filter c++(if c d then [d] else []):=take_succ_filter c ds i d e1;refine ho _ _ _ _ (he d (yN e1) _ (L2.capt fr σ) H3 x _ Rc e2 λρ3 M3 σ3 H4 R3 mo ⟨eM,b3⟩ hext=>⟨λi' v' xk=>?_,?_⟩);. obtain⟨j,f1,f2⟩:=K2 xk;rw[hext i' λhm=>hT i' hm j f1];exact xk
     . subst eM;refine b3 σ3 H4 _ R3 λb H5 M5 o5 qg ⟨Ho,eb,h5⟩=>?_;subst Ho;have sx:=((st.trans ml).trans mo).trans qg;cases hb:c d with
       | false=>
         rw[hb] at eb;subst eb;rw[if_neg nft];obtain⟨ks,q1,q2⟩:=o5 A _ zU;have ea:acc (i+1)=acc i:=by show(((ds.take (i+1)).filter c).map _)=_;rw[ts,hb];simp[acc]
         refine⟨ks,ds.length - (i+1),by lia,rfl,dj,q1,?_,?_⟩;. rw[ea];exact o5
         . rw[ea];exact sx
       | true=>
         rw[hb] at eb;subst eb;rw[if_pos rfl];refine h5 hb σ3 H5 _ (R3.step o5 qg) λy H6 z M6 o6 s6 yE ⟨ez,Hq,h6⟩=>?_;subst ez Hq;refine h6 σ3 H6 _ ((R3.step o5 qg).step o6 yE) λy2 H7 z2 M7 o7 s7 wY ⟨Hr,Hs⟩=>?_;subst Hr Hs;obtain⟨ks,q1,q2⟩:=o7 A _ zU;obtain⟨w1,w2⟩:=FR o7 zU (Y2 (k:=f d) q2 s7);have Ac:f d∉(acc i).map (·.1):=by
           intro hm;have:((ds.take (i+1)).filter c).map f=(acc i).map (·.1)++[f d]:=by rw[ts,hb];simp[acc]
           have yS:(((ds.take (i+1)).filter c).map f).Nodup:=by refine nd.sublist ?_;exact((List.take_sublist _ _).filter _).map _
           rw[this,List.nodup_append] at yS;exact yS.2.2 _ hm _ (by simp) rfl
         have ea:acc (i+1)=TU (acc i) (f d) (w d):=by rw[eZ Ac];show(((ds.take (i+1)).filter c).map _)=_;rw[ts,hb];simp[acc]
         have af:ks.length < sizeLine:=by rw[RD q2];unfold AJ;rw[zX];refine zQ ?_ hsz;show(((ds.take i).filter c).map _).length<=_;rw[zX];exact zN (yJ _ _) (by rw[a2Q];lia)
         rw[yI] at w1 w2;refine⟨ks,a1K (f d),AX s6,q1,af,ds.length - (i+1),by lia,rfl,dj,AF,?_,?_⟩;. rw[ea];exact w1
         . rw[ea];exact((sx.trans yE).trans wY).trans w2
   . have e:i=ds.length:=by lia
     subst e;refine .inl ⟨wd.stop H2 _ oa st,k _ H2 (.loc A) _ oa rfl (t1.trans st) ?_⟩;have:=hq A hM;have ea:acc ds.length=(ds.filter c).map λd=>(f d,w d):=by show(((ds.take ds.length).filter c).map _)=_;rw[a3J]
     rw[ea];exact this
theorem f7 {D:EndsD}{i j:Nat}{ta:TA}(h:DA K ta ρ M λxs M1=>∃x y,xs=[x,y]/\D.nx ((ρ.set i (some x)).set j (some y)) M1):DSt K (rN i j ta) ρ M D:=λσ H E R k1 _ _ _=>
 h σ H _ R λvs H1 xs M1 o1 s1 t1 h1=>by obtain⟨x,y,rfl,q⟩:=h1;obtain⟨v,r,rfl,sx,s2⟩:=s1;obtain⟨w,r',rfl,sy,s3⟩:=s2;cases s3;exact⟨v,w,rfl,k1 _ M1 _ H1 (((R.step o1 t1).set sx i).set sy j) t1 q⟩
end
end DL
namespace DL
open PySem PySem.Spec L2
inductive Deed where
 | put (x:Str) (p k:Int) | take (x:Str) | move (x:Str) (p:Int) | count (x:Str) (k:Int) | name (x y:Str) | split (x y:Str) (p k:Int) | join (x y:Str)
def Deed.d:Deed->PyData
 | .put x p k=>.tuple [.str (a0Q "put"),.str x,.int p,.int k]
 | .take x=>.tuple [.str (a0Q "take"),.str x]
 | .move x p=>.tuple [.str (a0Q "move"),.str x,.int p]
 | .count x k=>.tuple [.str (a0Q "count"),.str x,.int k]
 | .name x y=>.tuple [.str (a0Q "name"),.str x,.str y]
 | .split x y p k=>.tuple [.str (a0Q "split"),.str x,.str y,.int p,.int k]
 | .join x y=>.tuple [.str (a0Q "join"),.str x,.str y]
def Deed.names:Deed->List Str
 | .put x _ _=>[x] | .take x=>[x] | .move x _=>[x] | .count x _=>[x] | .name x y=>[x,y] | .split x y _ _=>[x,y] | .join x y=>[x,y]
def Deed.ok (D:Deed):Prop:=∀x∈D.names,DZ x
def F9:List (Str×Str):=[("put", "npk"),("take", "n"),("move", "np"),("count", "nk"),("name", "nn"),("split", "nnpk"),("join", "nn")]
def N5:PyData->PyData | .str z=>ZL (F9.lookup z) | _=>.none
def TZ (z:Str):Bool:=z == "name" || z == "split" || z == "join"
def N6:PyData->PyData | .tuple (.str w::r)=>.tuple (r.take (if TZ w then 2 else 1)) | d=>d
theorem f8 {w f:Str}(h:F9.lookup w=some f):(w = "put" /\ f = "npk")\/(w = "take" /\ f = "n")\/(w = "move" /\ f = "np")\/(w = "count" /\ f = "nk")\/(w = "name" /\ f = "nn")\/(w = "split" /\ f = "nnpk")\/(w = "join" /\ f = "nn"):=by
 unfold F9 at h;simp only[a3Q,List.lookup_nil] at h;split at h;. rename_i e;exact .inl ⟨eq_of_beq e,by injection h with h;exact h.symm⟩
 split at h;. rename_i e;exact .inr (.inl ⟨eq_of_beq e,by injection h with h;exact h.symm⟩)
 split at h;. rename_i e;exact .inr (.inr (.inl ⟨eq_of_beq e,by injection h with h;exact h.symm⟩))
 split at h;. rename_i e;exact .inr (.inr (.inr (.inl ⟨eq_of_beq e,by injection h with h;exact h.symm⟩)))
 split at h;. rename_i e;exact .inr (.inr (.inr (.inr (.inl ⟨eq_of_beq e,by injection h with h;exact h.symm⟩))))
 split at h;. rename_i e;exact .inr (.inr (.inr (.inr (.inr (.inl ⟨eq_of_beq e,by injection h with h;exact h.symm⟩)))))
 split at h;. rename_i e;exact .inr (.inr (.inr (.inr (.inr (.inr ⟨eq_of_beq e,by injection h with h;exact h.symm⟩)))))
 cases h
theorem N7 {w f:Str}(h:F9.lookup w=some f):f.cps.all (· < 128)=true/\f.cps.size<=4/\Txt.startswith f (a0Q "nn")=TZ w/\(TZ w=true->2<=f.cps.size/\f.cps[0]?=some 110/\f.cps[1]?=some 110)/\1<=f.cps.size:=by rcases f8 h with ⟨rfl,rfl⟩ | ⟨rfl,rfl⟩ | ⟨rfl,rfl⟩ | ⟨rfl,rfl⟩ | ⟨rfl,rfl⟩ | ⟨rfl,rfl⟩ | ⟨rfl,rfl⟩ <;> decide +kernel
def f9 (d:PyData):Prop:=∃w f r,d = .tuple (.str w::r)/\F9.lookup w=some f
theorem fA (D:Deed):f9 D.d:=by cases D <;> exact⟨_,_,_,rfl,rfl⟩
theorem fB (D:Deed):N6 D.d = .tuple (D.names.map .str):=by cases D <;> rfl
def WH (d:PyData):Prop:=∃D:Deed,d=D.d/\D.ok
def K6:FSp:=fn1 (λ_=>True) N5
def IG:FSp:=fn1 f9 N6
theorem BR {z:Str}(h:DZ z):zH (.str z)=true:=CK (E1 h) (by simp[a9K])
def Deed.word:Deed->Str
 | .put .. => "put" | .take .. => "take" | .move .. => "move" | .count .. => "count" | .name .. => "name" | .split .. => "split" | .join .. => "join"
def Deed.fst:Deed->Str
 | .put x _ _=>x | .take x=>x | .move x _=>x | .count x _=>x | .name x _=>x | .split x _ _ _=>x | .join x _=>x
def Deed.rest:Deed->List PyData
 | .put _ p k=>[.int p,.int k] | .take _=>[] | .move _ p=>[.int p] | .count _ k=>[.int k] | .name _ y=>[.str y] | .split _ y p k=>[.str y,.int p,.int k] | .join _ y=>[.str y]
theorem Deed.d_eq (D:Deed):D.d = .tuple (.str D.word::.str D.fst::D.rest):=by cases D <;> rfl
theorem Deed.word_ok (D:Deed):zH (.str D.word)=true:=by cases D <;> (simp only[Deed.word];decide +kernel)
theorem BO (a b:Str):a1Z (.str a) (.str b)=(a==b):=by simp[a1Z]
theorem KO {ss:List Str}(h:∀s∈ss,b7V s=true):zH (.list (ss.map .str))=true:=by
 refine CK (MW λd hd=>?_) ?_;. obtain⟨y,h1,rfl⟩:=zL.mp hd;exact h y h1
 . have:a5W (ss.map a2W)<=0:=W5 λd hd=>by obtain⟨y,h1,rfl⟩:=zL.mp hd;exact zR 0
   simp only[a9K];lia
theorem Y5 {ys:List Str}{v:Int}(h0:0<=v) (h1:v < ys.length):∃y,atI (ys.map a2W) v=some (.str y)/\y∈ys:=by
 obtain⟨n,rfl⟩:∃n:Nat,v=(n:Int):=⟨v.toNat,by lia⟩
 have hn:n < ys.length:=by lia
 exact⟨ys[n],AA (by rw[zF,zV hn];rfl),a4X hn⟩
def Q1:FSp:=⟨λxs M=>∃ns:List Int,xs=[.d (.list (ns.map .int))]/\ns.length<=63/\∀i∈ns,xL i<=2 ^ 20,λxs M y M'=>y = .d (.bool true)⟩
end DL
namespace DL
open PySem PySem.Spec L2
def J2:PyData->PyData->Bool
 | .str s,p=>if s == "n" then BL p else if s == "p" then ID p else K3 p
 | _,p=>K3 p
def fC:FSp:=fn2 (λa b=>∃c:Nat,a = .str ⟨#[c]⟩/\c < 128/\okD b) λa b=>.bool (J2 a b)
def FS (f:Str) (r:List PyData):Bool:=((BM f).zip r).all λp=>J2 p.1 p.2
def AT:List PyData->Bool
 | .str w::r=>match F9.lookup w with
   | some f=>(r.length==f.cps.size)&&FS f r&&(!TZ w||!a1Z (r.getD 0 .none) (r.getD 1 .none))
   | none=>false
 | _=>false
def LR:PyData->Bool | .tuple ds=>AT ds | _=>false
def okP:PyData->Prop | .tuple ds=>ds.length<=5000/\∀d∈ds,okD d | _=>True
def K7:FSp:=fn1 okP λd=>.bool (LR d)
def t7:PyData->PyData | .tuple [a,b]=>.bool (J2 a b) | d=>d
theorem fD (f:Str) (r:List PyData):((T6 (BM f) r).filter λ_=>true).map t7=(((BM f).zip r).map λp=>J2 p.1 p.2).map .bool:=by rw[flt];unfold T6;rw[zD,zD];rfl
theorem fE {f:Str}{a b:PyData}{r:List PyData}(h0:f.cps[0]?=some 110) (h1:f.cps[1]?=some 110) (h:FS f (a::b::r)=true):BL a=true/\BL b=true:=by
 unfold FS at h;rw[a4Z] at h;have e0:((BM f).zip (a::b::r))[0]?=some (.str ⟨#[110]⟩,a):=by rw[a8Q];exact⟨by unfold BM;rw[zF];simp[h0],rfl⟩
 have e1:((BM f).zip (a::b::r))[1]?=some (.str ⟨#[110]⟩,b):=by rw[a8Q];exact⟨by unfold BM;rw[zF];simp[h1],rfl⟩
 have q:∀d,J2 (.str ⟨#[110]⟩) d=BL d:=λd=>rfl;exact⟨by rw[<-q];exact h _ (yN e0),by rw[<-q];exact h _ (yN e1)⟩
def U0:PyData->PyData
 | .tuple (.str w::r)=>if w == "put" then r.getD 0 .none else if w == "name" || w == "split" then r.getD 1 .none else .none
 | _=>.none
def Q2:FSp:=fn1 WH U0
def Deed.isPut:Deed->Bool | .put ..=>true | _=>false
def Deed.isNS:Deed->Bool | .name ..=>true | .split ..=>true | _=>false
theorem fF (D:Deed):(D.word==a0Q "put")=D.isPut:=by cases D <;> (simp only[Deed.word,Deed.isPut];decide +kernel)
theorem uF (w a b:Str):decide (w∈[a,b])=(w==a||w==b):=by rw[a3X];simp
theorem kQ (D:Deed):(D.word==a0Q "name" || D.word==a0Q "split")=D.isNS:=by cases D <;> (simp only[Deed.word,Deed.isNS];decide +kernel)
theorem kR {D:Deed}(h:D.ok):zH (U0 D.d)=true:=by
 cases D with
 | put x p k=>exact BR (h x (by simp[Deed.names]))
 | name x y=>exact BR (h y (by simp[Deed.names]))
 | split x y p k=>exact BR (h y (by simp[Deed.names]))
 | _=>rfl
end DL
namespace DL
open PySem PySem.Spec L2
def pcD (p c:Int):PyData:=.tuple [.int p,.int c]
def tsD (ts:List Th):List (Str×PyData):=ts.map λt=>(t.1,pcD t.2.1 t.2.2)
def DF (ts:List Th) (k:Str) (p c:Int):List Th:=if (ts.any λt=>decide (t.1=k))=true then ts.map (λt=>if t.1=k then (t.1,p,c) else t) else ts++[(k,p,c)]
def G7 (ts:List Th) (k:Str):List Th:=ts.filter λt=>decide (t.1≠k)
def AE:List Th->Str->Option (Int×Int)
 | [],_=>none
 | t::r,k=>if t.1=k then some t.2 else AE r k
theorem BJ (ts:List Th) (k:Str) (p c:Int):TU (tsD ts) k (pcD p c)=tsD (DF ts k p c):=by
 unfold TU DF tsD;have e:((ts.map λt=>(t.1,pcD t.2.1 t.2.2)).any λt=>decide (t.1=k))=ts.any λt=>decide (t.1=k):=by rw[List.any_map];rfl
 rw[e];split;. rw[zD,zD];apply yM;intro t _;show(if t.1=k then (t.1,pcD p c) else _)=_;simp only[Function.comp];split <;> rfl
 . simp
theorem FA (ts:List Th) (k:Str):Q0 (tsD ts) k=tsD (G7 ts k):=by unfold Q0 G7 tsD;rw[xV];rfl
theorem AI (k:Str):∀ts:List Th,CV (tsD ts) k=(AE ts k).map λv=>pcD v.1 v.2
 | []=>rfl
 | t::r=>by
   have ih:=AI k r;unfold tsD at ih ⊢;simp only[zI,CV,AE];split;. rfl
   . exact ih
theorem CL {k:Str}:∀{ts:List Th}{v:Int×Int},AE ts k=some v->(k,v)∈ts
 | t::r,v,h=>by
   unfold AE at h;split at h;. rename_i e;cases h;subst e;exact a0J
   . exact yV _ (CL h)
theorem E4 {k:Str}:∀{ts:List Th},AE ts k=none↔k∉ts.map (·.1)
 | []=>by simp[AE]
 | t::r=>by
   unfold AE;rw[zI,yX];split;. rename_i e;simp[e]
   . rename_i e;rw[E4];constructor;. intro h q;rcases q with q | q;exact e q.symm;exact h q
     . intro h q;exact h (.inr q)
theorem FT {k:Str}{ts:List Th}:(AE ts k).isSome=decide (k∈ts.map (·.1)):=by
 cases h:AE ts k with
 | none=>rw[decide_eq_false (E4.mp h)];rfl
 | some v=>rw[decide_eq_true (zL.mpr ⟨_,CL h,rfl⟩)];rfl
theorem C7 {t:Th}:∀{ts:List Th},(ts.map (·.1)).Nodup->t∈ts->AE ts t.1=some t.2
 | u::r,nd,h=>by
   unfold AE;rcases yX.mp h with rfl | h;. rw[if_pos rfl]
   . rw[zI,xW] at nd;rw[if_neg λe=>nd.1 (by rw[e];exact zL.mpr ⟨t,h,rfl⟩)];exact C7 nd.2 h
def WI (t:Th):List Th->List Th
 | []=>[t]
 | u::r=>if sl t.1 u.1=true then t::u::r else u::WI t r
def AW:List Th->List Th
 | []=>[]
 | t::r=>WI t (AW r)
theorem K8 (t:Th):∀ts:List Th,(WI t ts).Perm (t::ts)
 | []=>.refl _
 | u::r=>by
   unfold WI;split;. exact .refl _
   . exact((K8 t r).cons u).trans (.swap _ _ _)
theorem BK:∀ts:List Th,(AW ts).Perm ts
 | []=>.refl _
 | t::r=>(K8 t _).trans ((BK r).cons t)
theorem U1 (t:Th):∀{ts:List Th},Ris (ts.map (·.1))->t.1∉ts.map (·.1)->Ris ((WI t ts).map (·.1))
 | [],_,_=>by simp[WI,Ris]
 | u::r,h,hn=>by
   unfold WI;unfold Ris at h;rw[zI,a9J] at h;rw[zI,yX] at hn;split
   . rename_i e;unfold Ris;rw[zI,zI,a9J,a9J];refine⟨λx hx=>?_,h⟩;rcases yX.mp hx with rfl | hx;. exact e
     . exact MU e (h.1 x hx)
   . rename_i e;have e':sl t.1 u.1=false:=by simpa using e
     have dj:sl u.1 t.1=true:=by
       cases hq:sl u.1 t.1 with
       | true=>rfl
       | false=>exact absurd (MV e' hq) λq=>hn (.inl q)
     unfold Ris;rw[zI,a9J];refine⟨λx hx=>?_,U1 t h.2 λq=>hn (.inr q)⟩;have:=((K8 t r).map (·.1)).mem_iff.mp hx;rcases yX.mp this with rfl | hx;. exact dj
     . exact h.1 x hx
theorem J3:∀{ts:List Th},(ts.map (·.1)).Nodup->Ris ((AW ts).map (·.1))
 | [],_=>List.Pairwise.nil
 | t::r,nd=>by rw[zI,xW] at nd;exact U1 t (J3 nd.2) λq=>nd.1 (((BK r).map (·.1)).mem_iff.mp q)
theorem U2:∀{as bs:List Th},as.Perm bs->Ris (as.map (·.1))->Ris (bs.map (·.1))->as=bs
 | [],bs,p,_,_=>(List.nil_perm.mp p).symm
 | a::as,[],p,_,_=>by have:=p.length_eq;simp at this
 | a::as,b::bs,p,h1,h2=>by
   unfold Ris at h1 h2;rw[zI,a9J] at h1 h2;have e:a=b:=by
     rcases yX.mp (p.mem_iff.mp (a0J (a:=a) (l:=as))) with e | e;. exact e
     . rcases yX.mp (p.mem_iff.mpr (a0J (a:=b) (l:=bs))) with e' | e';. exact e'.symm
       . have x1:=h1.1 b.1 (zL.mpr ⟨b,e',rfl⟩);have x2:=h2.1 a.1 (zL.mpr ⟨a,e,rfl⟩);rw[TD x1] at x2;cases x2
   subst e;rw[U2 (List.Perm.cons_inv p) h1.2 h2.2]
theorem Q3 {as bs:List Th}(p:as.Perm bs) (h:Ris (as.map (·.1))):as=AW bs:=
 U2 (p.trans (BK bs).symm) h (J3 ((p.map (·.1)).nodup_iff.mp h.nodup))
theorem ZY {w:List Th}(h:Ris (w.map (·.1))):AW w=w:=(Q3 (.refl w) h).symm
def FU (ts:List Th) (x:Str) (k:Int):List Th:=match AE ts x with | some v=>DF ts x v.1 (v.2+k) | none=>ts
def doT (ts:List Th):Deed->List Th
 | .put x p k=>DF ts x p k
 | .take x=>G7 ts x
 | .move x p=>match AE ts x with | some v=>DF ts x p v.2 | none=>ts
 | .count x k=>FU ts x k
 | .name x y=>match AE ts x with | some v=>DF (G7 ts x) y v.1 v.2 | none=>ts
 | .split x y p k=>DF (FU ts x (-k)) y p k
 | .join x y=>match AE ts y with | some v=>G7 (FU ts x v.2) y | none=>ts
def Deed.made:Deed->Option Str | .put x _ _=>some x | .name _ y=>some y | .split _ y _ _=>some y | _=>none
def Deed.apart:Deed->Prop | .name x y=>x≠y | .split x y _ _=>x≠y | .join x y=>x≠y | _=>True
def Deed.placed:Deed->Prop | .put _ p _=>0<=p/\p<=999 | .move _ p=>0<=p/\p<=999 | .split _ _ p _=>0<=p/\p<=999 | _=>True
def Deed.real (D:Deed):Prop:=D.ok/\D.apart/\D.placed
theorem U3 {D:Deed}(h:D.real):WH D.d:=⟨D,rfl,h.1⟩
def AO (ns:List Str) (D:Deed):Option Str:=D.names.find? λn=>decide (n∈ns)==decide (D.made=some n)
theorem CW {ns:List Str}{D:Deed}(h:AO ns D=none):∀n∈D.names,(n∈ns)↔¬D.made=some n:=λn hn=>by have:=List.find?_eq_none.mp h n hn;by_cases h1:n∈ns <;> by_cases h2:D.made=some n <;> simp_all
theorem kS (D:Deed):U0 D.d=match D.made with | some x=>.str x | none=>.none:=by cases D <;> rfl
def B2 (ts:List Th):Deed->Deed
 | .put x _ _=>.take x
 | .take x=>match AE ts x with | some v=>.put x v.1 v.2 | none=>.take x
 | .move x p=>match AE ts x with | some v=>.move x v.1 | none=>.move x p
 | .count x k=>.count x (-k)
 | .name x y=>.name y x
 | .split x y _ _=>.join x y
 | .join x y=>match AE ts y with | some v=>.split x y v.1 v.2 | none=>.join x y
abbrev tsO (ts:List Th):MO:=.d (AJ (tsD ts))
def J5 (ts:List Th):Prop:=(ts.map (·.1)).Nodup/\ts.length < 63
def CM:FSp:=⟨λxs M=>∃w:List Th,xs=[.d (wD w)]/\J5 w,λxs M y M'=>∀w:List Th,xs=[.d (wD w)]->∃p,M p=none/\y = .loc p/\M'=M.put p (tsO w)⟩
def B3:FSp:=⟨λxs M=>∃(p:Addr) (ts:List Th),xs=[.loc p]/\M p=some (tsO ts)/\(ts.map (·.1)).Nodup/\ts.length < 64,λxs M y M'=>∀(p:Addr) (ts:List Th),xs=[.loc p]->M p=some (tsO ts)->(ts.map (·.1)).Nodup->y = .d (wD (AW ts))/\M'=M⟩
def C8:FSp:=⟨λxs M=>∃(p:Addr) (ts:List Th) (D:Deed),xs=[.loc p,.d D.d]/\M p=some (tsO ts)/\D.real/\AO (ts.map (·.1)) D=none,λxs M y M'=>y = .d .none/\M'=M⟩
def EG:FSp:=⟨λxs M=>∃(p:Addr) (ts:List Th) (x:Str) (k:Int) (v:Int×Int),xs=[.loc p,.d (.str x),.d (.int k)]/\M p=some (tsO ts)/\AE ts x=some v/\ts.length < 64,
 λxs M y M'=>∀(p:Addr) (ts:List Th) (x:Str) (k:Int),xs=[.loc p,.d (.str x),.d (.int k)]->M p=some (tsO ts)->y = .d .none/\M'=M.put p (tsO (FU ts x k))⟩
def J6:FSp:=⟨λxs M=>∃(p:Addr) (ts:List Th) (D:Deed),xs=[.loc p,.d D.d]/\M p=some (tsO ts)/\J5 ts/\D.real/\AO (ts.map (·.1)) D=none,
 λxs M y M'=>∀(p:Addr) (ts:List Th) (D:Deed),xs=[.loc p,.d D.d]->M p=some (tsO ts)->y = .d .none/\M'=M.put p (tsO (doT ts D))⟩
def goD (w:List Th) (D:Deed):Prop:=J5 w/\D.real/\AO (w.map (·.1)) D=none
def RE:FSp:=⟨λxs M=>∃(w:List Th) (D:Deed),xs=[.d (wD w),.d D.d]/\goD w D,λxs M y M'=>∀(w:List Th) (D:Deed),xs=[.d (wD w),.d D.d]->y = .d (wD (AW (doT w D)))/\M'=M⟩
theorem kT {t u:Th}(h:thD t=thD u):t=u:=by obtain⟨a,b,c⟩:=t;obtain⟨a',b',c'⟩:=u;simp only[thD,PyData.tuple.injEq,List.cons.injEq,PyData.str.injEq,PyData.int.injEq,and_true] at h;obtain⟨rfl,rfl,rfl⟩:=h;rfl
theorem KP:∀{v w:List Th},v.map thD=w.map thD->v=w
 | [],[],_=>rfl
 | [],_::_,h=>by simp at h
 | _::_,[],h=>by simp at h
 | a::v,b::w,h=>by rw[zI,zI,List.cons.injEq] at h;rw[kT h.1,KP h.2]
theorem IH {v w:List Th}(h:wD v=wD w):v=w:=KP (by unfold wD at h;exact PyData.tuple.inj h)
theorem C9 {D E:Deed}(h:D.d=E.d):D=E:=by
 cases D <;> cases E <;> simp only[Deed.d,PyData.tuple.injEq,List.cons.injEq,PyData.str.injEq,PyData.int.injEq,and_true,true_and,reduceCtorEq,and_false,false_and,List.nil_eq] at h <;>
   first
   | (obtain⟨_,h⟩:=h;first | (obtain⟨rfl,rfl,rfl,rfl⟩:=h;rfl) | (obtain⟨rfl,rfl,rfl⟩:=h;rfl) | (obtain⟨rfl,rfl⟩:=h;rfl) | (subst h;rfl))
   | (obtain⟨rfl,rfl,rfl,rfl⟩:=h;rfl) | (obtain⟨rfl,rfl,rfl⟩:=h;rfl) | (obtain⟨rfl,rfl⟩:=h;rfl) | (subst h;rfl)
   | exact absurd h.1 (by decide +kernel)
theorem qG {a b c d:Int}(h:pcD a b=pcD c d):a=c/\b=d:=by simp only[pcD,PyData.tuple.injEq,List.cons.injEq,PyData.int.injEq,and_true] at h;exact h
theorem LS:∀{ts us:List Th},tsO ts=tsO us->ts=us:=by
 intro ts us h;have h:AJ (tsD ts)=AJ (tsD us):=by injection h
 unfold AJ tsD at h;rw[zD,zD] at h;have go:∀(ts us:List Th),ts.map ((λt:Str×PyData=>(a2W t.1,t.2))∘λt:Th=>(t.1,pcD t.2.1 t.2.2))=us.map ((λt:Str×PyData=>(a2W t.1,t.2))∘λt:Th=>(t.1,pcD t.2.1 t.2.2))->ts=us:=by
   intro ts;induction ts with
   | nil=>intro us h;cases us with | nil=>rfl | cons _ _=>simp at h
   | cons t ts ih=>
     intro us h;cases us with
     | nil=>simp at h
     | cons u us=> rw[zI,zI,List.cons.injEq] at h;obtain⟨h1,h2⟩:=h;simp only[Function.comp,Prod.mk.injEq,PyData.str.injEq] at h1;obtain⟨e1,e2⟩:=h1;obtain⟨e3,e4⟩:=qG e2;rw[ih us h2];obtain⟨a,b,c⟩:=t;obtain⟨a',b',c'⟩:=u;simp only at e1 e3 e4;rw[e1,e3,e4]
 exact go ts us h
section
variable {M:Own}{Q:DS->Own->Prop}
theorem EX {w:List Th}(h:J5 w) (q:∀p,M p=none->Q (.loc p) (M.put p (tsO w))):[DS.d (wD w)].length=1/\CM.pre [.d (wD w)] M/\∀x M',CM.post [.d (wD w)] M x M'->Q x M':=⟨rfl,⟨w,rfl,h⟩,λx M' h=>by obtain⟨p,h1,rfl,rfl⟩:=h w rfl;exact q p h1⟩
theorem KQ {p:Addr}{ts:List Th}(m:M p=some (tsO ts)) (nd:(ts.map (·.1)).Nodup) (hl:ts.length < 64) (q:Q (.d (wD (AW ts))) M):[DS.loc p].length=1/\B3.pre [.loc p] M/\∀x M',B3.post [.loc p] M x M'->Q x M':=⟨rfl,⟨p,ts,rfl,m,nd,hl⟩,λx M' h=>by obtain⟨rfl,rfl⟩:=h p ts rfl m nd;exact q⟩
theorem U4 {p:Addr}{ts:List Th}{D:Deed}(m:M p=some (tsO ts)) (hr:D.real) (ha:AO (ts.map (·.1)) D=none) (q:Q (.d .none) M):[DS.loc p,.d D.d].length=2/\C8.pre [.loc p,.d D.d] M/\∀x M',C8.post [.loc p,.d D.d] M x M'->Q x M':=⟨rfl,⟨p,ts,D,rfl,m,hr,ha⟩,λx M' h=>by obtain⟨rfl,rfl⟩:=h;exact q⟩
theorem N8 {p:Addr}{ts:List Th}{x:Str}{k:Int}{v:Int×Int}(m:M p=some (tsO ts)) (hl:AE ts x=some v) (hz:ts.length < 64) (q:Q (.d .none) (M.put p (tsO (FU ts x k)))):[DS.loc p,.d (.str x),.d (.int k)].length=3/\EG.pre [.loc p,.d (.str x),.d (.int k)] M/\∀x' M',EG.post [.loc p,.d (.str x),.d (.int k)] M x' M'->Q x' M':=⟨rfl,⟨p,ts,x,k,v,rfl,m,hl,hz⟩,λx' M' h=>by obtain⟨rfl,rfl⟩:=h p ts x k rfl m;exact q⟩
theorem U5 {p:Addr}{ts:List Th}{D:Deed}(m:M p=some (tsO ts)) (hc:J5 ts) (hr:D.real) (ha:AO (ts.map (·.1)) D=none) (q:Q (.d .none) (M.put p (tsO (doT ts D)))):[DS.loc p,.d D.d].length=2/\J6.pre [.loc p,.d D.d] M/\∀x M',J6.post [.loc p,.d D.d] M x M'->Q x M':=⟨rfl,⟨p,ts,D,rfl,m,hc,hr,ha⟩,λx M' h=>by obtain⟨rfl,rfl⟩:=h p ts D rfl m;exact q⟩
theorem ZZ {w:List Th}{D:Deed}(h:goD w D) (q:Q (.d (wD (AW (doT w D)))) M):[DS.d (wD w),.d D.d].length=2/\RE.pre [.d (wD w),.d D.d] M/\∀x M',RE.post [.d (wD w),.d D.d] M x M'->Q x M':=⟨rfl,⟨w,D,rfl,h⟩,λx M' h=>by obtain⟨rfl,rfl⟩:=h w D rfl;exact q⟩
end
end DL
namespace DL
open PySem PySem.Spec L2
theorem a6 (ds:List PyData):(ds.filter λ_=>true)=ds:=List.filter_eq_self.mpr (by simp)
def uG:PyData->PyData | .tuple [_,p,c]=>.tuple [p,c] | d=>d
theorem Q4:∀{as bs:List Str},as.Perm bs->Ris as->Ris bs->as=bs
 | [],bs,p,_,_=>(List.nil_perm.mp p).symm
 | a::as,[],p,_,_=>by have:=p.length_eq;simp at this
 | a::as,b::bs,p,h1,h2=>by
   unfold Ris at h1 h2;rw[a9J] at h1 h2;have e:a=b:=by
     rcases yX.mp (p.mem_iff.mp (a0J (a:=a) (l:=as))) with e | e;. exact e
     . rcases yX.mp (p.mem_iff.mpr (a0J (a:=b) (l:=bs))) with e' | e';. exact e'.symm
       . have x1:=h1.1 b e';have x2:=h2.1 a e;rw[TD x1] at x2;cases x2
   subst e;rw[Q4 (List.Perm.cons_inv p) h1.2 h2.2]
def Q5 (ts:List Th):PyData->PyData
 | .str s=>match AE ts s with | some v=>.tuple [.str s,.int v.1,.int v.2] | none=>.none
 | d=>d
theorem Q6 {ts:List Th}{ss:List Str}(nd:(ts.map (·.1)).Nodup) (p:ss.Perm (ts.map (·.1))) (h:xH ss=true):(ss.map a2W).map (Q5 ts)=(AW ts).map thD:=by have yS:ss.Nodup:=p.nodup_iff.mpr nd;have e:ss=(AW ts).map (·.1):=Q4 (p.trans ((BK ts).map (·.1)).symm) (W4 h yS) (J3 nd);rw[e,zD,zD];apply yM;intro t ht;have:=C7 nd ((BK ts).mem_iff.mp ht);simp only[Function.comp,Q5,this];rfl
def wT (s:String):PyData:=.str (a0Q s)
theorem qH (a b c:PyData):AT [wT "put", a,b,c]=(BL a&&(ID b&&(K3 c&&true))&&true):=rfl
theorem kU (a:PyData):AT [wT "take", a]=(BL a&&true&&true):=rfl
theorem kW (a b:PyData):AT [wT "move", a,b]=(BL a&&(ID b&&true)&&true):=rfl
theorem fG (a b:PyData):AT [wT "count", a,b]=(BL a&&(K3 b&&true)&&true):=rfl
theorem kX (a b:PyData):AT [wT "name", a,b]=(BL a&&(BL b&&true)&&(!a1Z a b)):=rfl
theorem kY (a b:PyData):AT [wT "join", a,b]=(BL a&&(BL b&&true)&&(!a1Z a b)):=rfl
theorem fH (a b c d:PyData):AT [wT "split", a,b,c,d]=(BL a&&(BL b&&(ID c&&(K3 d&&true)))&&(!a1Z a b)):=rfl
theorem Y6 {D:Deed}(h:D.real):LR D.d=true:=by
 obtain⟨h1,nd,pl⟩:=h;have nm:∀x∈D.names,BL (.str x)=true:=λx hx=>e7 (h1 x hx);have ne:∀x y:Str,x≠y->a1Z (.str x) (.str y)=false:=λx y hn=>by simp[a1Z,hn]
 have pp:∀p:Int,0<=p/\p<=999->ID (.int p)=true:=λp hp=>by show(decide (0<=p)&&decide (p<=999))=true;rw[decide_eq_true hp.1,decide_eq_true hp.2];rfl
 cases D with
 | put x p k=>show AT [wT "put", .str x,.int p,.int k]=true;rw[qH,nm x (by simp[Deed.names]),pp p pl];rfl
 | take x=>show AT [wT "take", .str x]=true;rw[kU,nm x (by simp[Deed.names])];rfl
 | move x p=>show AT [wT "move", .str x,.int p]=true;rw[kW,nm x (by simp[Deed.names]),pp p pl];rfl
 | count x k=>show AT [wT "count", .str x,.int k]=true;rw[fG,nm x (by simp[Deed.names])];rfl
 | name x y=>show AT [wT "name", .str x,.str y]=true;rw[kX,nm x (by simp[Deed.names]),nm y (by simp[Deed.names]),ne x y nd];rfl
 | split x y p k=>show AT [wT "split", .str x,.str y,.int p,.int k]=true;rw[fH,nm x (by simp[Deed.names]),nm y (by simp[Deed.names]),ne x y nd,pp p pl];rfl
 | join x y=>show AT [wT "join", .str x,.str y]=true;rw[kY,nm x (by simp[Deed.names]),nm y (by simp[Deed.names]),ne x y nd];rfl
theorem kZ {D:Deed}(h:D.ok):okP D.d:=by
 have wk:∀s:Str,(decide (s.cps.size<=5000)&&s.cps.toList.all (λc=>decide (c < 128)))=true->okD (.str s):=λs h=>by simp only[a0V,decide_eq_true_eq,a4Z] at h;exact h
 have nk:∀x∈D.names,okD (.str x):=λx hx=>dX (h x hx);cases D <;> (refine⟨by simp,?_⟩;simp only[List.forall_mem_cons])
 . exact⟨wk _ (by decide +kernel),nk _ (by simp[Deed.names]),trivial,trivial,by simp⟩
 . exact⟨wk _ (by decide +kernel),nk _ (by simp[Deed.names]),by simp⟩
 . exact⟨wk _ (by decide +kernel),nk _ (by simp[Deed.names]),trivial,by simp⟩
 . exact⟨wk _ (by decide +kernel),nk _ (by simp[Deed.names]),trivial,by simp⟩
 . exact⟨wk _ (by decide +kernel),nk _ (by simp[Deed.names]),nk _ (by simp[Deed.names]),by simp⟩
 . exact⟨wk _ (by decide +kernel),nk _ (by simp[Deed.names]),nk _ (by simp[Deed.names]),trivial,trivial,by simp⟩
 . exact⟨wk _ (by decide +kernel),nk _ (by simp[Deed.names]),nk _ (by simp[Deed.names]),by simp⟩
theorem l0 (D:Deed) (n:Str):a1Z (.str n) (U0 D.d)=decide (D.made=some n):=by
 rw[kS];cases h:D.made with
 | none=>simp[a1Z]
 | some x=>simp only[a1Z,Option.some.injEq];rw[a3X];simp;exact eq_comm
theorem a7 (a b:Bool):a1Z (.bool a) (.bool b)=(a==b):=by cases a <;> cases b <;> rfl
theorem U6 {ts:List Th}{x:Str}{p c:Int}(h:x∈ts.map (·.1)):DF ts x p c=ts.map λt=>if t.1=x then (t.1,p,c) else t:=by unfold DF;obtain⟨t,ht,e⟩:=zL.mp h;rw[if_pos (List.any_eq_true.mpr ⟨t,ht,by simpa using e⟩)]
theorem J7 {ts:List Th}{x:Str}{p c:Int}(h:x∉ts.map (·.1)):DF ts x p c=ts++[(x,p,c)]:=by unfold DF;rw[if_neg];intro e;obtain⟨t,ht,e⟩:=List.any_eq_true.mp e;exact h (zL.mpr ⟨t,ht,by simpa using e⟩)
theorem N9 {ts:List Th}{x:Str}{p c:Int}(h:x∈ts.map (·.1)):(DF ts x p c).map (·.1)=ts.map (·.1):=by rw[U6 h,zD];apply yM;intro t _;simp only[Function.comp];split <;> rfl
theorem AZ {ts:List Th}{x:Str}(h:x∈ts.map (·.1)):∃v,AE ts x=some v:=by
 cases e:AE ts x with
 | none=>exact absurd h (E4.mp e)
 | some v=>exact⟨v,rfl⟩
theorem Y7 {ts:List Th}{x:Str}{v:Int×Int}(h:AE ts x=some v):x∈ts.map (·.1):=zL.mpr ⟨_,CL h,rfl⟩
theorem CN {ts:List Th}{x:Str}{k:Int}:(FU ts x k).map (·.1)=ts.map (·.1):=by
 unfold FU;cases e:AE ts x with
 | none=>rfl
 | some v=>exact N9 (Y7 e)
theorem fI {ts:List Th}{x:Str}{k:Int}:(FU ts x k).length=ts.length:=by have:=congrArg b7J (CN (ts:=ts) (x:=x) (k:=k));simpa using this
theorem FV {M:Own}{p p':Addr}{ts cj:List Th}{D D':Deed}(m:M p=some (tsO ts)) (e:[DS.loc p,.d D.d]=[.loc p',.d D'.d]) (m':M p'=some (tsO cj)):p=p'/\ts=cj/\D=D':=by simp only[List.cons.injEq,DS.loc.injEq,DS.d.injEq,and_true] at e;obtain⟨rfl,e⟩:=e;exact⟨rfl,LS (Option.some.inj (m.symm.trans m')),C9 e⟩
theorem qI {w w':List Th}{D D':Deed}(e:[DS.d (wD w),.d D.d]=[.d (wD w'),.d D'.d]):w=w'/\D=D':=by simp only[List.cons.injEq,DS.d.injEq,and_true] at e;exact⟨IH e.1,C9 e.2⟩
theorem BP {ts:List Th}(h:ts.length < 64):(tsD ts).length < sizeLine:=by unfold tsD;rw[zX];exact zP h (by decide)
theorem EH (ts:List Th) (x:Str):(G7 ts x).map (·.1)=(ts.map (·.1)).filter λn=>decide (n≠x):=by unfold G7;rw[xV];rfl
def RF (ns:List Str):Deed->List Str
 | .put x _ _=>ns++[x]
 | .take x=>ns.filter λn=>decide (n≠x)
 | .move _ _=>ns
 | .count _ _=>ns
 | .name x y=>(ns.filter λn=>decide (n≠x))++[y]
 | .split _ y _ _=>ns++[y]
 | .join _ y=>ns.filter λn=>decide (n≠y)
theorem KR {ns:List Str}{D:Deed}(ha:AO ns D=none) {n:Str}(hn:n∈D.names) (hm:D.made≠some n):n∈ns:=(CW ha n hn).mpr hm
theorem II {ns:List Str}{D:Deed}(ha:AO ns D=none) {n:Str}(hn:n∈D.names) (hm:D.made=some n):n∉ns:=λq=>(CW ha n hn).mp q hm
theorem K9 {ts:List Th}{D:Deed}(hr:D.real) (ha:AO (ts.map (·.1)) D=none):(doT ts D).map (·.1)=RF (ts.map (·.1)) D:=by
 cases D with
 | put x p k=> show(DF ts x p k).map (·.1)=_;rw[J7 (II ha (by simp[Deed.names]) rfl),xJ];rfl
 | take x=>exact EH ts x
 | move x p=> obtain⟨v,hv⟩:=AZ (KR ha (n:=x) (by simp[Deed.names]) (by simp[Deed.made]));simp only[doT,hv];exact N9 (Y7 hv)
 | count x k=>exact CN
 | name x y=>
   obtain⟨v,hv⟩:=AZ (KR ha (n:=x) (by simp[Deed.names]) (by simp[Deed.made];exact λe=>hr.2.1 e.symm));simp only[doT,hv];have hy:y∉(G7 ts x).map (·.1):=by rw[EH];intro q;exact II ha (n:=y) (by simp[Deed.names]) rfl (yL.mp q).1
   rw[J7 hy,xJ,EH];rfl
 | split x y p k=>
   show(DF (FU ts x (-k)) y p k).map (·.1)=_;have hy:y∉(FU ts x (-k)).map (·.1):=by rw[CN];exact II ha (n:=y) (by simp[Deed.names]) rfl
   rw[J7 hy,xJ,CN];rfl
 | join x y=> obtain⟨v,hv⟩:=AZ (KR ha (n:=y) (by simp[Deed.names]) (by simp[Deed.made]));simp only[doT,hv];rw[EH,CN];rfl
theorem RG {ns:List Str}{D:Deed}(nd:ns.Nodup) (ha:AO ns D=none):(RF ns D).Nodup:=by
 have Ad:∀{l:List Str}{y:Str},l.Nodup->y∉l->(l++[y]).Nodup:=λ{l y} h1 h2=>by rw[List.nodup_append];exact⟨h1,by simp,λa ha b hb e=>by simp at hb;subst hb;subst e;exact h2 ha⟩
 cases D with
 | put x p k=>exact Ad nd (II ha (by simp[Deed.names]) rfl)
 | take x=>exact nd.sublist List.filter_sublist
 | move x p=>exact nd
 | count x k=>exact nd
 | name x y=>exact Ad (nd.sublist List.filter_sublist) λq=>II ha (n:=y) (by simp[Deed.names]) rfl (yL.mp q).1
 | split x y p k=>exact Ad nd (II ha (n:=y) (by simp[Deed.names]) rfl)
 | join x y=>exact nd.sublist List.filter_sublist
theorem NA (ns:List Str) (D:Deed):(RF ns D).length<=ns.length+1:=by cases D <;> simp only[RF,yY,yR,List.length_nil];all_goals first | lia | exact zN (yJ _ _) (a6K _) | exact Nat.add_le_add_right (yJ _ _) 1
theorem KA {ts:List Th}{D:Deed}(h:goD ts D):((doT ts D).map (·.1)).Nodup/\(doT ts D).length < 64:=by obtain⟨⟨nd,hl⟩,hr,ha⟩:=h;have e:=K9 hr ha;refine⟨by rw[e];exact RG nd ha,?_⟩;have h1:=NA (ts.map (·.1)) D;have h2:=congrArg b7J e;simp only[zX] at h1 h2;lia
end DL
namespace DL
open PySem PySem.Spec L2
theorem FC (ts:List Th) (x:Str) (p c:Int) (n:Str):AE (DF ts x p c) n=if n=x then some (p,c) else AE ts n:=by
 by_cases h:x∈ts.map (·.1)
 . rw[U6 h];induction ts with
   | nil=>simp at h
   | cons t r ih=>
     rw[zI];by_cases e:t.1=x
     . rw[if_pos e];unfold AE;by_cases en:n=x;. subst en;rw[if_pos e,if_pos rfl]
       . have e1:¬t.1=n:=λq=>en (q.symm.trans e);rw[if_neg e1,if_neg en,if_neg e1];by_cases hr:x∈r.map (·.1);. rw[ih hr,if_neg en]
         . have hm:(r.map λt=>if t.1=x then (t.1,p,c) else t)=r:=by
             conv=>rhs;rw[<-List.map_id r]
             apply yM;intro u hu;rw[if_neg λq=>hr (by rw[<-q];exact zL.mpr ⟨u,hu,rfl⟩)];rfl
           rw[hm]
     . rw[if_neg e];have hr:x∈r.map (·.1):=by rw[zI,yX] at h;exact h.resolve_left λq=>e q.symm
       unfold AE;by_cases e1:t.1=n;. rw[if_pos e1,if_pos e1,if_neg λq=>e (e1.trans q)]
       . rw[if_neg e1,if_neg e1,ih hr]
 . rw[J7 h];have:∀ts:List Th,x∉ts.map (·.1)->AE (ts++[(x,p,c)]) n=if n=x then some (p,c) else AE ts n:=by
     intro ts;induction ts with
     | nil=>
       intro _;show(if x=n then _ else _)=_;by_cases e:n=x;. rw[if_pos e,if_pos e.symm]
       . rw[if_neg e,if_neg λq=>e q.symm]
     | cons t r ih=>
       intro hx;rw[zI,yX] at hx;rw[List.cons_append];unfold AE;by_cases e1:t.1=n;. rw[if_pos e1,if_pos e1,if_neg λq=>hx (.inl (e1.trans q).symm)]
       . rw[if_neg e1,if_neg e1,ih λq=>hx (.inr q)]
   exact this ts h
theorem KB (ts:List Th) (x n:Str):AE (G7 ts x) n=if n=x then none else AE ts n:=by
 induction ts with
 | nil=>show none=_;split <;> rfl
 | cons t r ih=>
   unfold G7 at ih ⊢;rw[a9Q];by_cases e:t.1=x
   . rw[if_neg (by simp[e]),ih];by_cases en:n=x;. rw[if_pos en,if_pos en]
     . rw[if_neg en,if_neg en]
       conv=>rhs;unfold AE
       rw[if_neg λq=>en (q.symm.trans e)]
   . rw[if_pos (by simpa using e)];unfold AE;rw[ih];by_cases e1:t.1=n;. rw[if_pos e1,if_pos e1,if_neg λq=>e (e1.trans q)]
     . rw[if_neg e1,if_neg e1]
theorem NB (ts:List Th) (x:Str) (k:Int) (n:Str):AE (FU ts x k) n=if n=x then (AE ts x).map λv=>(v.1,v.2+k) else AE ts n:=by
 unfold FU;cases h:AE ts x with
 | none=>
   by_cases e:n=x;. subst e;rw[if_pos rfl,h];rfl
   . rw[if_neg e]
 | some v=>rw[FC];rfl
theorem J8 {ts:List Th}(nd:(ts.map (·.1)).Nodup) {t:Th}:t∈ts↔AE ts t.1=some t.2:=⟨λh=>C7 nd h,λh=>CL h⟩
theorem a8 {as bs:List Th}(n1:(as.map (·.1)).Nodup) (p:as.Perm bs) (n:Str):AE as n=AE bs n:=by
 have n2:(bs.map (·.1)).Nodup:=(p.map (·.1)).nodup_iff.mp n1;cases h:AE as n with
 | none=>
   cases h2:AE bs n with
   | none=>rfl
   | some v=>exact absurd (zL.mpr ⟨_,p.mem_iff.mpr (CL h2),rfl⟩) (E4.mp h)
 | some v=>exact((J8 n2 (t:=(n,v))).mp (p.mem_iff.mp (CL h))).symm
theorem a9 {as bs:List Th}(n1:(as.map (·.1)).Nodup) (n2:(bs.map (·.1)).Nodup) (h:∀n,AE as n=AE bs n):as.Perm bs:=by
 have nd:∀{l:List Th},(l.map (·.1)).Nodup->l.Nodup:=λ{l} h=>by unfold List.Nodup at h ⊢;rw[b3J] at h;exact h.imp λ{a b} q e=>q (by rw[e])
 rw[List.perm_ext_iff_of_nodup (nd n1) (nd n2)];intro t;rw[J8 n1,J8 n2,h]
theorem Q7 {ts w:List Th}(nd:(ts.map (·.1)).Nodup) (hw:Ris (w.map (·.1))) (h:∀n,AE ts n=AE w n):AW ts=w:=(Q3 (a9 hw.nodup nd λn=>(h n).symm) hw).symm
theorem U7 {ts:List Th}(nd:(ts.map (·.1)).Nodup) (n:Str):AE (AW ts) n=AE ts n:=
 a8 (((BK ts).map (·.1)).nodup_iff.mpr nd) (BK ts) n
def EI (w:List Th):Prop:=Ris (w.map (·.1))/\∀t∈w,DZ t.1/\0<=t.2.1/\t.2.1<=999
theorem HA {w:List Th}(h:EI w) {x:Str}{v:Int×Int}(e:AE w x=some v):DZ x/\0<=v.1/\v.1<=999:=h.2 _ (CL e)
theorem CA {ts:List Th}{D:Deed}(hr:D.real) (ha:AO (ts.map (·.1)) D=none) (n:Str) :
   AE (doT ts D) n=match D with
     | .put x p k=>if n=x then some (p,k) else AE ts n
     | .take x=>if n=x then none else AE ts n
     | .move x p=>if n=x then (AE ts x).map λv=>(p,v.2) else AE ts n
     | .count x k=>if n=x then (AE ts x).map λv=>(v.1,v.2+k) else AE ts n
     | .name x y=>if n=y then AE ts x else if n=x then none else AE ts n
     | .split x y p k=>if n=y then some (p,k) else if n=x then (AE ts x).map λv=>(v.1,v.2 + -k) else AE ts n
     | .join x y=>if n=y then none else if n=x then (AE ts x).bind λv=>(AE ts y).map λu=>(v.1,v.2+u.2) else AE ts n:=by
 cases D with
 | put x p k=>exact FC _ _ _ _ _
 | take x=>exact KB _ _ _
 | move x p=> obtain⟨v,hv⟩:=AZ (KR ha (n:=x) (by simp[Deed.names]) (by simp[Deed.made]));simp only[doT,hv];exact FC _ _ _ _ _
 | count x k=>exact NB _ _ _ _
 | name x y=> obtain⟨v,hv⟩:=AZ (KR ha (n:=x) (by simp[Deed.names]) (by simp[Deed.made];exact λe=>hr.2.1 e.symm));simp only[doT,hv];rw[FC,KB]
 | split x y p k=> show AE (DF (FU ts x (-k)) y p k) n=_;rw[FC,NB]
 | join x y=> obtain⟨v,hv⟩:=AZ (KR ha (n:=x) (by simp[Deed.names]) (by simp[Deed.made]));obtain⟨u,hu⟩:=AZ (KR ha (n:=y) (by simp[Deed.names]) (by simp[Deed.made]));simp only[doT,hu];rw[KB,NB,hv];rfl
theorem here {w:List Th}{D:Deed}(h:goD w D) {n:Str}(hn:n∈D.names) (hm:D.made≠some n):∃v,AE w n=some v:=AZ (KR h.2.2 hn hm)
theorem gone {w:List Th}{D:Deed}(h:goD w D) {n:Str}(hn:n∈D.names) (hm:D.made=some n):AE w n=none:=E4.mpr (II h.2.2 hn hm)
theorem U8 {ns:List Str}{D:Deed}(h:∀n∈D.names,(n∈ns)↔¬D.made=some n):AO ns D=none:=by unfold AO;rw[List.find?_eq_none];intro n hn;have:=h n hn;by_cases h1:n∈ns <;> by_cases h2:D.made=some n <;> simp_all
theorem FD {ts:List Th}{n:Str}:n∈ts.map (·.1)↔(AE ts n).isSome=true:=by rw[FT];simp
theorem fJ {w:List Th}{D:Deed}(hw:EI w) (hg:goD w D) (hl:w.length < 60) :
   goD (AW (doT w D)) (B2 w D)/\AW (doT (AW (doT w D)) (B2 w D))=w/\B2 (AW (doT w D)) (B2 w D)=D/\EI (AW (doT w D))/\(AW (doT w D)).length<=w.length+1:=by
 have hr:=hg.2.1;have ha:=hg.2.2;obtain⟨nd,_⟩:=KA hg;have L:∀n,AE (AW (doT w D)) n=AE (doT w D) n:=U7 nd;have Ct:((AW (doT w D)).map (·.1)).Nodup:=((BK _).map (·.1)).nodup_iff.mpr nd;have af:(AW (doT w D)).length<=w.length+1:=by rw[(BK _).length_eq];have h1:=NA (w.map (·.1)) D;have h2:=congrArg b7J (K9 hr ha);simp only[zX] at h1 h2;lia
 have fw:EI (AW (doT w D)):=by
   refine⟨J3 nd,λt ht=>?_⟩;have hk:AE (doT w D) t.1=some t.2:=by rw[<-L];exact(J8 Ct).mp ht
   rw[CA hr ha] at hk;have old:∀{n:Str}{v:Int×Int},AE w n=some v->DZ n/\0<=v.1/\v.1<=999:=λe=>HA hw e;cases D with
   | put x p k=>
     dsimp only at hk;split at hk;. rename_i e;have hk:=Option.some.inj hk;rw[e,<-hk];exact⟨hr.1 x (by simp[Deed.names]),hr.2.2.1,hr.2.2.2⟩
     . exact old hk
   | take x=>
     dsimp only at hk;split at hk;. cases hk
     . exact old hk
   | move x p=>
     dsimp only at hk;split at hk;. rename_i e;obtain⟨v,hv,e2⟩:=Option.map_eq_some_iff.mp hk;rw[e,<-e2];exact⟨(old hv).1,hr.2.2.1,hr.2.2.2⟩
     . exact old hk
   | count x k=>
     dsimp only at hk;split at hk;. rename_i e;obtain⟨v,hv,e2⟩:=Option.map_eq_some_iff.mp hk;rw[e,<-e2];exact⟨(old hv).1,(old hv).2⟩
     . exact old hk
   | name x y=>
     dsimp only at hk;split at hk;. rename_i e;rw[e];exact⟨hr.1 y (by simp[Deed.names]),(old hk).2⟩
     . split at hk;. cases hk
       . exact old hk
   | split x y p k=>
     dsimp only at hk;split at hk;. rename_i e;have hk:=Option.some.inj hk;rw[e,<-hk];exact⟨hr.1 y (by simp[Deed.names]),hr.2.2.1,hr.2.2.2⟩
     . split at hk;. rename_i e;obtain⟨v,hv,e2⟩:=Option.map_eq_some_iff.mp hk;rw[e,<-e2];exact⟨(old hv).1,(old hv).2⟩
       . exact old hk
   | join x y=>
     dsimp only at hk;split at hk;. cases hk
     . split at hk;. rename_i e;obtain⟨v,hv,e2⟩:=Option.bind_eq_some_iff.mp hk;obtain⟨u,hu,e3⟩:=Option.map_eq_some_iff.mp e2;rw[e,<-e3];exact⟨(old hv).1,(old hv).2⟩
       . exact old hk
 have core:goD (AW (doT w D)) (B2 w D)/\(∀n,AE (doT (AW (doT w D)) (B2 w D)) n=AE w n)/\B2 (AW (doT w D)) (B2 w D)=D:=by
   have tw:J5 (AW (doT w D)):=⟨Ct,by lia⟩
   have LD:∀n,AE (AW (doT w D)) n=_:=λn=>(L n).trans (CA hr ha n);have mk:∀B:Deed,B.real->(∀n∈B.names,((AE (AW (doT w D)) n).isSome=true)↔¬B.made=some n)->goD (AW (doT w D)) B:=λB h1 h2=>⟨tw,h1,U8 λn hn=>FD.trans (h2 n hn)⟩
   cases D with
   | put x p k=>
     have hx:=gone hg (n:=x) (by simp[Deed.names]) rfl;have g:goD (AW (doT w (.put x p k))) (.take x):=mk (.take x) ⟨λn hn=>hr.1 n hn,trivial,trivial⟩ λn hn=>by simp only[Deed.names,b2Z] at hn;subst hn;rw[LD];simp[Deed.made]
     refine⟨g,λn=>?_,?_⟩
     . show AE (doT (AW (doT w (.put x p k))) (.take x)) n=_;rw[CA g.2.1 g.2.2];dsimp only;rw[LD];dsimp only;by_cases e:n=x;. rw[if_pos e,e,hx]
       . rw[if_neg e,if_neg e]
     . have lx:AE (AW (doT w (.put x p k))) x=some (p,k):=by rw[LD];simp
       simp only[B2,lx]
   | take x=>
     obtain⟨v,hv⟩:=here hg (n:=x) (by simp[Deed.names]) (by simp[Deed.made]);have eb:B2 w (.take x) = .put x v.1 v.2:=by simp only[B2,hv]
     rw[eb];have g:goD (AW (doT w (.take x))) (.put x v.1 v.2):=mk (.put x v.1 v.2) ⟨λn hn=>hr.1 n hn,trivial,(HA hw hv).2⟩ λn hn=>by simp only[Deed.names,b2Z] at hn;subst hn;rw[LD];simp[Deed.made]
     refine⟨g,λn=>?_,rfl⟩;rw[CA g.2.1 g.2.2];dsimp only;rw[LD];dsimp only;by_cases e:n=x;. rw[if_pos e,e,hv]
     . rw[if_neg e,if_neg e]
   | move x p=>
     obtain⟨v,hv⟩:=here hg (n:=x) (by simp[Deed.names]) (by simp[Deed.made]);have eb:B2 w (.move x p) = .move x v.1:=by simp only[B2,hv]
     rw[eb];have lx:AE (AW (doT w (.move x p))) x=some (p,v.2):=by rw[LD];simp[hv]
     have g:goD (AW (doT w (.move x p))) (.move x v.1):=mk (.move x v.1) ⟨λn hn=>hr.1 n hn,trivial,(HA hw hv).2⟩ λn hn=>by simp only[Deed.names,b2Z] at hn;subst hn;rw[lx];simp[Deed.made]
     refine⟨g,λn=>?_,by simp only[B2,lx]⟩;rw[CA g.2.1 g.2.2];dsimp only;rw[lx];by_cases e:n=x;. rw[if_pos e,e,hv];rfl
     . rw[if_neg e,LD];dsimp only;rw[if_neg e]
   | count x k=>
     obtain⟨v,hv⟩:=here hg (n:=x) (by simp[Deed.names]) (by simp[Deed.made]);have eb:B2 w (.count x k) = .count x (-k):=rfl;rw[eb];have lx:AE (AW (doT w (.count x k))) x=some (v.1,v.2+k):=by rw[LD];simp[hv]
     have g:goD (AW (doT w (.count x k))) (.count x (-k)):=mk (.count x (-k)) ⟨λn hn=>hr.1 n hn,trivial,trivial⟩ λn hn=>by simp only[Deed.names,b2Z] at hn;subst hn;rw[lx];simp[Deed.made]
     refine⟨g,λn=>?_,by simp only[B2,Int.neg_neg]⟩;rw[CA g.2.1 g.2.2];dsimp only;rw[lx];by_cases e:n=x;. rw[if_pos e,e,hv];show some (v.1,v.2+k + -k)=some v;rw[Int.add_neg_cancel_right]
     . rw[if_neg e,LD];dsimp only;rw[if_neg e]
   | name x y=>
     have t_:x≠y:=hr.2.1;obtain⟨v,hv⟩:=here hg (n:=x) (by simp[Deed.names]) (by simp[Deed.made];exact λe=>t_ e.symm);have hy:=gone hg (n:=y) (by simp[Deed.names]) rfl;have eb:B2 w (.name x y) = .name y x:=rfl;rw[eb];have ly:AE (AW (doT w (.name x y))) y=some v:=by rw[LD];simp[hv]
     have lx:AE (AW (doT w (.name x y))) x=none:=by rw[LD];simp[t_]
     have g:goD (AW (doT w (.name x y))) (.name y x):=mk (.name y x) ⟨λn hn=>hr.1 n (by simp[Deed.names] at hn ⊢;exact hn.symm),λe=>t_ e.symm,trivial⟩ λn hn=>by
       simp only[Deed.names,yX,xX,or_false] at hn;rcases hn with rfl | rfl;. rw[ly];simp[Deed.made];exact t_
       . rw[lx];simp[Deed.made]
     refine⟨g,λn=>?_,rfl⟩;rw[CA g.2.1 g.2.2];dsimp only;rw[ly];by_cases e:n=x;. rw[if_pos e,e,hv]
     . rw[if_neg e];by_cases e2:n=y;. rw[if_pos e2,e2,hy]
       . rw[if_neg e2,LD];dsimp only;rw[if_neg e2,if_neg e]
   | split x y p k=>
     have t_:x≠y:=hr.2.1;obtain⟨v,hv⟩:=here hg (n:=x) (by simp[Deed.names]) (by simp[Deed.made];exact λe=>t_ e.symm);have hy:=gone hg (n:=y) (by simp[Deed.names]) rfl;have eb:B2 w (.split x y p k) = .join x y:=rfl;rw[eb];have ly:AE (AW (doT w (.split x y p k))) y=some (p,k):=by rw[LD];simp
     have lx:AE (AW (doT w (.split x y p k))) x=some (v.1,v.2 + -k):=by rw[LD];simp[t_,hv]
     have g:goD (AW (doT w (.split x y p k))) (.join x y):=mk (.join x y) ⟨λn hn=>hr.1 n hn,t_,trivial⟩ λn hn=>by
       simp only[Deed.names,yX,xX,or_false] at hn;rcases hn with rfl | rfl;. rw[lx];simp[Deed.made]
       . rw[ly];simp[Deed.made]
     refine⟨g,λn=>?_,by simp only[B2,ly]⟩;rw[CA g.2.1 g.2.2];dsimp only;rw[lx,ly];by_cases e:n=y;. rw[if_pos e,e,hy]
     . rw[if_neg e];by_cases e2:n=x;. rw[if_pos e2,e2,hv];show some (v.1,v.2 + -k+k)=some v;rw[Int.neg_add_cancel_right]
       . rw[if_neg e2,LD];dsimp only;rw[if_neg e,if_neg e2]
   | join x y=>
     have t_:x≠y:=hr.2.1;obtain⟨v,hv⟩:=here hg (n:=x) (by simp[Deed.names]) (by simp[Deed.made]);obtain⟨u,hu⟩:=here hg (n:=y) (by simp[Deed.names]) (by simp[Deed.made]);have eb:B2 w (.join x y) = .split x y u.1 u.2:=by simp only[B2,hu]
     rw[eb];have ly:AE (AW (doT w (.join x y))) y=none:=by rw[LD];simp
     have lx:AE (AW (doT w (.join x y))) x=some (v.1,v.2+u.2):=by rw[LD];simp[t_,hv,hu]
     have g:goD (AW (doT w (.join x y))) (.split x y u.1 u.2):=mk (.split x y u.1 u.2) ⟨λn hn=>hr.1 n hn,t_,(HA hw hu).2⟩ λn hn=>by
       simp only[Deed.names,yX,xX,or_false] at hn;rcases hn with rfl | rfl;. rw[lx];simp[Deed.made];exact λe=>t_ e.symm
       . rw[ly];simp[Deed.made]
     refine⟨g,λn=>?_,rfl⟩;rw[CA g.2.1 g.2.2];dsimp only;rw[lx];by_cases e:n=y;. rw[if_pos e,e,hu]
     . rw[if_neg e];by_cases e2:n=x;. rw[if_pos e2,e2,hv];show some (v.1,v.2+u.2 + -u.2)=some v;rw[Int.add_neg_cancel_right]
       . rw[if_neg e2,LD];dsimp only;rw[if_neg e,if_neg e2]
 obtain⟨c1,c2,c3⟩:=core;exact⟨c1,Q7 (KA c1).1 hw.1 c2,c3,fw,af⟩
end DL
namespace DL
open PySem PySem.Spec L2
def D9 (w:List Th) (D:Deed):List Th:=AW (doT w D)
def G8:List Th->List Deed->Prop
 | _,[]=>True
 | w,D::r=>goD w D/\G8 (D9 w D) r
def CB:List Th->List Deed->List Th
 | w,[]=>w
 | w,D::r=>CB (D9 w D) r
def BQ (ys:List Str):Prop:=(∀z∈ys,DZ z)/\ys.Nodup/\ys.length<=26
def CH (ys:List Str):PyData:=.list (ys.map .str)
theorem aA {w:List Th}{D:Deed}(hw:EI w) (hg:goD w D) (hl:w.length < 60):EI (D9 w D)/\(D9 w D).length<=w.length+1:=by obtain⟨_,_,_,h1,h2⟩:=fJ hw hg hl;exact⟨h1,h2⟩
theorem ND {as bs:List Str}(h:CH as=CH bs):as=bs:=KN (by unfold CH at h;exact PyData.list.inj h)
def wB2 (t:Th):Str×List PyData:=(t.1,[.int t.2.1,.int t.2.2])
def unB (u:Str×List PyData):Th:=match u with | (a,[.int p,.int c])=>(a,p,c) | (a,_)=>(a,0,0)
theorem fK (w:List Th):(w.map wB2).map K5=w.map thD:=by rw[zD];rfl
theorem fL {ts:List (Str×List PyData)}{w:List Th}(h:ts.Perm (w.map wB2)):(ts.map unB).Perm w/\ts.map K5=(ts.map unB).map thD/\(ts.map unB).map (·.1)=ts.map (·.1):=by
 have e:(w.map wB2).map unB=w:=by rw[zD];exact List.map_id _
 refine⟨by have:=h.map unB;rw[e] at this;exact this,?_,?_⟩;. rw[zD];apply yM;intro u hu;obtain⟨t,_,rfl⟩:=zL.mp (h.mem_iff.mp hu);rfl
 . rw[zD];apply yM;intro u hu;obtain⟨t,_,rfl⟩:=zL.mp (h.mem_iff.mp hu);rfl
theorem WJ {ts:List (Str×List PyData)}(h:ts.Pairwise λx y=>x.1.cps.toList < y.1.cps.toList):Ris (ts.map (·.1)):=by unfold Ris;rw[b3J];exact h.imp λ{a b} q=>by rw[<-sW];exact decide_eq_true q
def wsF (w:List Th) (Ds:List Deed) (k:Nat):List Th:=CB w (Ds.take k)
theorem Y8:∀{Ds:List Deed}{w:List Th}{k:Nat},G8 w Ds->EI w->w.length+Ds.length < 60->k<=Ds.length->EI (wsF w Ds k)/\(wsF w Ds k).length<=w.length+k/\∀D,Ds[k]?=some D->goD (wsF w Ds k) D
 | [],w,k,_,hf,_,hk=>by
   have e:k=0:=by simpa using hk
   subst e;exact⟨hf,zR _,λD h=>by simp at h⟩
 | D::r,w,0,hb,hf,_,_=>⟨hf,zR _,λD' h=>by simp at h;subst h;exact hb.1⟩
 | D::r,w,k+1,hb,hf,hl,hk=>by
   have kr:w.length+r.length+1 < 60:=by simpa [Nat.add_assoc] using hl
   obtain⟨f1,f2⟩:=aA hf hb.1 (by lia);obtain⟨a,b,c⟩:=Y8 (Ds:=r) (w:=D9 w D) (k:=k) hb.2 f1 (by lia) (by simpa using hk);have e:wsF w (D::r) (k+1)=wsF (D9 w D) r k:=rfl;rw[e];exact⟨a,by lia,λD' h=>c D' (by simpa using h)⟩
def bkF (w:List Th) (Ds:List Deed) (j:Nat):PyData:=match Ds[j]? with | some D=>(B2 (wsF w Ds j) D).d | none=>.none
def bkL (w:List Th) (Ds:List Deed) (k:Nat):List PyData:=(a1V k).map (bkF w Ds)
theorem fM {K:Frg}{M:Own}{Q:DS->Own->Prop}{a:Addr}{ds:List PyData}(m:M a=some (.l ds)) (q:Q (.d (.tuple ds)) M):DR K (MP K) [.loc a] M Q:=λH vs QQ oa s k=>by obtain⟨v,r,rfl,h1,h2⟩:=s;cases h2;unfold SI at h1;subst h1;obtain⟨vs,h0,hd⟩:=oa a _ m;refine⟨a,vs,rfl,.inl ⟨SqL.of h0,λp hp=>?_⟩⟩;have g:Grow K M.W M.W H (upd H p (.tup vs)):=AM _ hp;refine k _ _ (.d (.tuple ds)) M (oa.new hp) ?_ ⟨g⟩ q;unfold SI DV;exact⟨p,vs,rfl,.inl ⟨λw=>w (oa.none hp),.inl AF⟩,hd.grow g⟩
end DL
namespace L2
open PySem PySem.Spec PyProof.Rows
def t8:List Nat:=[0,1,2,3,4,5,6,7,8,9,10,11,12,13,14,15,16,17,18,19,20,21,22,23]
theorem fN {x:Str}{i:Nat}:∀(l:List Str) (k n:Nat),(l.zip (List.range' k n)).lookup x=some i->k<=i/\l[i - k]?=some x
 | [],_,_,h=>by cases h
 | _::_,_,0,h=>by cases h
 | a::r,k,n+1,h=>by
   rw[List.range'_succ,b2Q,a3Q] at h;split at h;. rename_i e;have h:=Option.some.inj h;subst h;rw[Nat.sub_self];exact⟨zR _,by rw[eq_of_beq e];rfl⟩
   . obtain⟨h1,h2⟩:=fN r (k+1) n h;refine⟨by lia,?_⟩;rw[show i - k=(i - (k+1))+1 by lia];exact h2
theorem RH {l:List Str}{x:Str}{i:Nat}(h:(l.zip t8).lookup x=some i):l[i]?=some x:=(fN l 0 24 h).2
theorem pvx {X:Cx}{i:Nat}{x:Str}{pos:Pos}(h:(X.N.zip t8).lookup x=some i) (hv:Vis X.env.scope x) (hd:(x==("__debug__":Str))=false:=by decide)
   (iy:(x==("__classdict__":Str))=false:=by decide):PE X (.Name x pos) (SO i):=bI (RH h) hv hd iy
end L2
namespace DL
open PySem PySem.Spec L2
theorem AD {K:Frg}{M:Own}{Q:DS->Own->Prop}{a b:Str}{t:Bool}(h:(zH (.str a)&&zH (.str b)&&(a1Z (.str a) (.str b)==t))=true) (q:Q (.d (.bool t)) M):D2 K (VW K false) (.d (.str a)) (.d (.str b)) M Q:=by simp only[a0V,beq_iff_eq] at h;exact B0 h.1.1 h.1.2 (by rw[if_neg nft,h.2];exact q)
end DL
namespace L2
open PySem PySem.Spec
def t9 (scope:Scope) (NC:List Str):Bool:=(NC.all λx=>(scope.names.lookup x).isSome)&&scope.names.all λy=>!(y.2==.local||y.2==.free||y.2==.cell)||y.1==a0Q ".0" || NC.contains y.1
theorem RI {X:Cx}{scope:Scope}{NC:List Str}{fr:List (Option Nat)}{vH:Scope}{ON:List Str}(_:t9 scope NC=true) (h:cZ vH ON scope NC fr=true) (e:X.env.scope=vH) (eN:X.N=ON):CSc X scope NC fr:=CSc.of h e eN
end L2
namespace DL
open PySem PySem.Spec L2
section
variable {K:Frg}{M:Own}{Q:DS->Own->Prop}{H:Hp}
theorem KS {W:Addr->Prop}:∀{bs:List Int},DVs K H W (bs.map b5W) (bs.map V.int)
 | []=>DVs.nil
 | b::bs=>DVs.cons (by unfold DV;rfl) KS
end
end DL
namespace XC
open PySem PySem.Spec
def IJ (h:Heap) (e:Addr) (cls:Value) (dd:Option Addr) (ar:Value) (T:Option Addr) (fl:Value):Prop:=∃oe vs,h.get? e=some oe/\oe.cls=cls/\oe.dict=dd/\oe.data = .fields vs/\vs[2]?=some ar /\
   match T with
   | none=>vs[1]?=some .none
   | some T=>vs[1]?=some (.ref T)/\T≠e/\∃oT ts,h.get? T=some oT/\oT.data = .fields ts/\ts[3]?=some fl
structure Moved (fs ch:List Addr) (h h':Heap):Prop where
 keep:∀b o,h.get? b=some o->b∉fs->b∉ch->h'.get? b=some o
 slot:∀b o,h.get? b=some o->b∉ch->∃sl,h'.get? b=some { o with slots:=sl }
 there:∀b o,h.get? b=some o->∃o',h'.get? b=some o'
theorem Moved.refl (fs ch:List Addr) (h:Heap):Moved fs ch h h:=⟨λ_ _ e _ _=>e,λ_ o e _=>⟨o.slots,e⟩,λ_ o e=>⟨o,e⟩⟩
theorem Moved.trans {fs ch:List Addr}{h h1 h2:Heap}(a:Moved fs ch h h1) (b:Moved fs ch h1 h2):Moved fs ch h h2 where
 keep:=λc o e n m=>b.keep c o (a.keep c o e n m) n m
 slot:=λc o e m=>by obtain⟨sl,e1⟩:=a.slot c o e m;obtain⟨vQ,e2⟩:=b.slot c _ e1 m;exact⟨vQ,e2⟩
 there:=λc o e=>by obtain⟨o',e1⟩:=a.there c o e;exact b.there c o' e1
theorem Moved.mono {fs yl ch xC:List Addr}{h h':Heap}(a:Moved fs ch h h') (f:∀b∈fs,b∈yl) (g:∀b∈ch,b∈xC):Moved yl xC h h':=⟨λb o e n m=>a.keep b o e (λz=>n (f b z)) λz=>m (g b z),λb o e m=>a.slot b o e λz=>m (g b z),a.there⟩
theorem Moved.drop {fs ch xC:List Addr}{h h':Heap}(a:Moved fs ch h h') (g:∀b∈ch,b∈xC\/h.get? b=none):Moved fs xC h h':=⟨λb o e n m=>a.keep b o e n λz=>(g b z).elim m λq=>by(rw[q] at e;cases e),λb o e m=>a.slot b o e λz=>(g b z).elim m λq=>by(rw[q] at e;cases e),a.there⟩
theorem Moved.frames {fs ch:List Addr}{h h' base:Heap}(a:Moved fs ch h h') {l:List Env}(hl:h.FunFrames base l) (hc:∀b∈ch,b∉l.filterMap (·.frame)):h'.FunFrames base l:=by
 induction l with
 | nil=>trivial
 | cons env rest ih=> obtain⟨hk,⟨L,o,hf,hn,ho,hd⟩,hr⟩:=hl;obtain⟨sl,e⟩:=a.slot L o ho λz=>hc L z (by rw[a5J,hf];exact .head _);exact⟨hk,⟨L,_,hf,hn,e,hd⟩,ih hr λb z q=>hc b z (by rw[a5J,hf];exact .tail _ q)⟩
theorem EJ {o:Obj}{vs:Array Value}(f:Array Value->Array Value) (hd:o.data = .fields vs):(o.mapFields f).isFreed=false:=Obj.isFreed_of_fields (a9W hd f)
theorem fQ {o:Obj}{vs:Array Value}(f:Array Value->Array Value) (hd:o.data = .fields vs):o.mapFields f={ o with data:=.fields (f vs) }:=by obtain⟨c,d,dt,sl⟩:=o;cases hd;rfl
theorem CO {h:Heap}{a:Addr}{o:Obj}{vs:Array Value}(f:Array Value->Array Value) (ho:h.get? a=some o) (hd:o.data = .fields vs) (fs:List Addr):Moved fs [a] h (h.update a (b1Q f)):=by
 have k:∀b u,h.get? b=some u->b∉[a]->(h.update a (b1Q f)).get? b=some u:=λb u e m=>by rw[yC _ _ (λz=>m (by simp[z]))];exact e
 refine⟨λb u e _ m=>k b u e m,λb u e m=>⟨u.slots,k b u e m⟩,λb u e=>?_⟩;by_cases q:b=a;. subst q;exact⟨_,a2X _ ho (EJ f hd)⟩
 . exact⟨u,k b u e (by simp[q])⟩
section
variable {M:Model}{A:Around}{E:Value->Shared->Prop}{s:Shared}{base:Heap}{env:Env}{outer:List Env}{L e:Addr}{cls ar:Value}{dd:Option Addr}{T:Option Addr}
theorem FE {T:Addr}{fl:Value}{Q:Unit->Shared->Prop}(x:IJ s.heap e cls dd ar (some T) fl) (h:∀h',IJ h' e cls dd ar (some T) .none->Moved [] [T] s.heap h'->Q () { s with heap:=h' }):wpAny M A (setFlight (.ref e) none) Q E s:=by obtain⟨oe,vs,he,hc,mx,hd,h0,h1,hT,oT,ts,ky,jn,h3⟩:=x;unfold setFlight;refine zZ (wpAny_field he hd h1 ?_);rw[if_pos (show(a0X T != a0W)=true from by simp)];have hsz:3 < ts.size:=(Array.getElem?_eq_some_iff.mp h3).1;refine wpAny_setField ky jn hsz (h _ ⟨oe,vs,?_,hc,mx,hd,h0,h1,hT,_,_,a2X _ ky (EJ _ jn),a9W jn _,by simp[hsz]⟩ (CO _ ky jn []));rw[yC _ _ hT];exact he
theorem U9 {oe:Obj}{vs:Array Value}{head:Value}{hadNext:Bool}{Q:Unit->Shared->Prop}(g_:A.frames=some (env::outer)) (hl:s.heap.FunFrames base (env::outer)) (hf:env.frame=some L) (he:s.heap.get? e=some oe) (hd:oe.data = .fields vs) (hsz:1 < vs.size) (h0:vs[2]?=some ar) (h:∀h' T',IJ h' e oe.cls oe.dict ar (some T') (rawInt L)->s.heap.get? T'=none->s.heap.objs.size<=T'->Moved ((env::outer).filterMap (·.frame)) [e] s.heap h'->Q () { s with heap:=h' }) :
   wpAny M A (do let a <- frameOf env;let pl <- entryPlaceOf L hadNext;let b <- EntryCells.newEntry head a .none (rawInt L) .none pl;setField (.ref e) 1 b) Q E s:=by
 have Ae:e∉(env::outer).filterMap (·.frame):=λhm=>by obtain⟨_,o,ho,xD⟩:=hl.mem hm;rw[he] at ho;injection ho with ho;subst ho;exact xD vs hd
 refine zZ (wpAny_frameOf_fun g_ hl hf λh₁ wC=>?_);refine zZ (wpAny_entryPlaceOf λpl kn=>?_);unfold EntryCells.newEntry newFields;refine zZ (xN ?_ (kn.sizeOk5 _ _ _ _ _));have Cu:h₁.get? e=some oe:=(wC.2.1 e Ae).trans he;generalize yw:({ cls:=.type "traceback", dict:=none,data:=.fields ([head,.ref L,.none,rawInt L,.none]++(if pl.isEmpty then b1K 6 a0W else pl)).toArray }:Obj)=ob;have Af:=zW (h:=h₁) ob Cu;have ub:h₁.objs.size≠e:=a4J (zM Cu);refine wpAny_setField Af hd hsz (h _ h₁.objs.size ⟨_,_,a2X _ Af (EJ _ hd),?_,?_,a9W hd _,?_,?_,ub,ob,([head,.ref L,.none,rawInt L,.none]++(if pl.isEmpty then b1K 6 a0W else pl)).toArray,?_,?_,?_⟩ ?_ ?_ ?_);. rw[fQ _ hd]
 . rw[fQ _ hd]
 . rw[Array.getElem?_setIfInBounds_ne (by decide)];exact h0
 . simp[hsz]
 . rw[yC _ _ (a5V ub)];exact yZ h₁ (by rw[<-yw];rfl)
 . rw[<-yw]
 . simp
 . rw[wC.1];exact Heap.get?_none_of_le (zR _)
 . rw[wC.1];exact zR _
 . have k1:Moved ((env::outer).filterMap (·.frame)) [e] s.heap h₁:=⟨λb o q n _=>(wC.2.1 b n).trans q,λb o q _=>wC.2.2 b o q,λb o q=>let ⟨sl,z⟩:=wC.2.2 b o q;⟨_,z⟩⟩
   have k2:Moved ((env::outer).filterMap (·.frame)) [e] h₁ (h₁.push ob):=⟨λb o q _ _=>zW _ q,λb o q _=>⟨o.slots,zW _ q⟩,λb o q=>⟨o,zW _ q⟩⟩
   exact(k1.trans k2).trans (CO _ Af hd _)
theorem l3 {Q:Unit->Shared->Prop}(g_:A.frames=some (env::outer)) (hl:s.heap.FunFrames base (env::outer)) (hf:env.frame=some L) (x:IJ s.heap e cls dd ar T .none) (h:∀h' T',IJ h' e cls dd ar (some T') (rawInt L)->s.heap.get? T'=none->s.heap.objs.size<=T'->Moved ((env::outer).filterMap (·.frame)) (e::T.toList) s.heap h'->Q () { s with heap:=h' }) :
   wpAny M A (noteFrame (.ref e) env) Q E s:=by
 obtain⟨oe,vs,he,hc,mx,hd,h0,hT⟩:=x;subst hc mx;unfold noteFrame;simp only[hf];cases T with
 | none=> refine zZ (wpAny_field he hd hT ?_);rw[if_neg (by decide)];exact U9 g_ hl hf he hd (Array.getElem?_eq_some_iff.mp hT).1 h0 λh' T' a b c d=>h h' T' a b c d
 | some T=>
   obtain⟨h1,ub,oT,ts,ky,jn,h3⟩:=hT;refine zZ (wpAny_field he hd h1 ?_);rw[if_pos (show(a0X T != a0W)=true from by simp)];refine zZ (wpAny_field ky jn h3 ?_);rw[if_neg (show ¬((a0W==rawInt L)=true) from by simp[rawInt])];refine zZ (wpAny_setField ky jn (Array.getElem?_eq_some_iff.mp h3).1 ?_);have mv:=CO (h:=s.heap) (·.setIfInBounds 3 a0W) ky jn ((env::outer).filterMap (·.frame));have Ht:T∉(env::outer).filterMap (·.frame):=λhm=>by obtain⟨_,o,ho,xD⟩:=hl.mem hm;rw[ky] at ho;injection ho with ho;subst ho;exact xD ts jn
   refine U9 g_ (mv.frames hl λb hb=>by(rw[b2Z] at hb;subst hb;exact Ht)) hf (by rw[yC _ _ ub];exact he) hd (Array.getElem?_eq_some_iff.mp h1).1 h0 λh' T' a b c d=>?_;have hsz:(s.heap.update T (b1Q (·.setIfInBounds 3 a0W))).objs.size=s.heap.objs.size:=Heap.size_after_update ..;rw[hsz] at c;refine h h' T' a (Heap.get?_none_of_le c) c ((mv.mono (λ_ z=>z) λb z=>by simp at z;simp[z]).trans (d.mono (λ_ z=>z) λb z=>by simp at z;simp[z]))
theorem GM {fl:Value}{Q:Unit->Shared->Prop}(g_:A.frames=some (env::outer)) (hl:s.heap.FunFrames base (env::outer)) (hf:env.frame=some L) (x:IJ s.heap e cls dd ar T fl) (qj:fl = .none\/(T≠none/\fl=rawInt L)) (h:∀h' T',IJ h' e cls dd ar (some T') (rawInt L)->(T=some T'\/s.heap.get? T'=none/\s.heap.objs.size<=T')->Moved ((env::outer).filterMap (·.frame)) (e::T.toList) s.heap h'->Q () { s with heap:=h' }) :
   wpAny M A (noteFrame (.ref e) env) Q E s:=by
 rcases qj with rfl | ⟨hT,rfl⟩
 . exact l3 g_ hl hf x λh' T' a b c d=>h h' T' a (.inr ⟨b,c⟩) d
 . cases T with
   | none=>exact absurd rfl hT
   | some T=> obtain⟨oe,vs,he,hc,mx,hd,h0,h1,ub,oT,ts,ky,jn,h3⟩:=id x;unfold noteFrame;simp only[hf];refine zZ (wpAny_field he hd h1 ?_);rw[if_pos (show(a0X T != a0W)=true from by simp)];refine zZ (wpAny_field ky jn h3 ?_);rw[if_pos (show(rawInt L==rawInt L)=true from by simp)];exact zY (h s.heap T x (.inl rfl) (Moved.refl ..))
theorem aB {fl:Value}{Q:Unit->Shared->Prop}(g_:A.frames=some (env::outer)) (hl:s.heap.FunFrames base (env::outer)) (hf:env.frame=some L) (x:IJ s.heap e cls dd ar T fl) (qj:fl = .none\/(T≠none/\fl=rawInt L)) (h:∀h' T',IJ h' e cls dd ar (some T') .none->(T=some T'\/s.heap.objs.size<=T')->Moved ((env::outer).filterMap (·.frame)) (e::T.toList) s.heap h'->Q () { s with heap:=h' }) :
   wpAny M A (leaving env (.ref e)) Q E s:=by
 unfold leaving;refine zZ (GM g_ hl hf x qj λh1 T' x1 n1 m1=>?_);refine FE (s:={ s with heap:=h1 }) x1 λh2 x2 m2=>h h2 T' x2 (n1.imp id λz=>z.2) ?_;have Hu:Moved ((env::outer).filterMap (·.frame)) (T'::e::T.toList) s.heap h1:=m1.mono (λ_ z=>z) λb z=>.tail _ z;have Hv:Moved ((env::outer).filterMap (·.frame)) (T'::e::T.toList) h1 h2:=m2.mono (λ_ z=>absurd z (by simp)) λb z=>by simp at z;simp[z]
 refine(Hu.trans Hv).drop λb z=>(yX.mp z).elim (λq=>?_) λq=>.inl q;rcases n1 with n1 | n1;. left;rw[q,n1];simp
 . right;rw[q];exact n1.1
theorem NE {T f:Addr}{fl:Value}{Q:Unit->Shared->Prop}(x:IJ s.heap e cls dd ar (some T) fl) (h:∀h',IJ h' e cls dd ar (some T) (rawInt f)->Moved [] [T] s.heap h'->Q () { s with heap:=h' }):wpAny M A (setFlight (.ref e) (some f)) Q E s:=by obtain⟨oe,vs,he,hc,mx,hd,h0,h1,hT,oT,ts,ky,jn,h3⟩:=x;unfold setFlight;refine zZ (wpAny_field he hd h1 ?_);rw[if_pos (show(a0X T != a0W)=true from by simp)];have hsz:3 < ts.size:=(Array.getElem?_eq_some_iff.mp h3).1;refine wpAny_setField ky jn hsz (h _ ⟨oe,vs,?_,hc,mx,hd,h0,h1,hT,_,_,a2X _ ky (EJ _ jn),a9W jn _,by simp[hsz]⟩ (CO _ ky jn []));rw[yC _ _ hT];exact he
end
end XC
namespace XC
open PySem PySem.Spec
abbrev UA (C t:Addr):Obj:={ cls:=.ref C,data:=.fields #[.ref t,.none,.none,.none,.bool false,.none] }
abbrev J9 (h:Heap) (C:Addr) (rest:List Value):Heap:=(h.push { cls:=.type "tuple", data:=.seq rest.toArray }).push (UA C h.objs.size)
theorem BS {h:Heap}{C:Addr}{rest:List Value}:∀b o,h.get? b=some o->(J9 h C rest).get? b=some o:=λb o e=>zW _ (zW _ e)
theorem LU {h:Heap}{C:Addr}{rest:List Value}:(J9 h C rest).get? (h.objs.size+1)=some (UA C h.objs.size):=by heap_get
section
variable {prog:Program}{w:World}{A:Around}{E:Value->Shared->Prop}{h:Heap}{g:Array GenState}{d:Drawn}{t:Nat}{os:OsState}
variable {nm q:Str}{C N:Addr}{bs bm xE:List Value}{hdct:Bool}{sn:List Str}{sub:List Value}{ab:Bool}{col:Option Bool}{dd:Option Addr}{k0 k1 k2 k3 k5:Option Value}{B newId fv:String}{init:Value}
theorem UB {M:Model}(F:ExcBaseFacts B newId fv xE) (hB:bm.contains (.type B)=true) {rest:List Value}{Q:Unit->Shared->Prop}(hC:h.get? C=some (excClassObj nm q C N bs bm hdct sn sub ab col dd k0 k1 k2 k3 k5 newId)) (hq:Q () ⟨h,g,d,t,os⟩):wpAny M A (checkBuiltinCall newId ⟨.ref C::rest,[]⟩) Q E ⟨h,g,d,t,os⟩:=by
 have xF:(a0X C::bm).contains (.type B)=true:=by rw[a0K,hB,Bool.or_true]
 have Cv:=F.noStar;simp only[checkBuiltinCall,F.newKind,F.newSplit,F.newRow];repeat (first | refine wpAny_loadPart_at hC ?_ | (refine wpAny_isSubtype_exc hC ?_;rw[xF]) | refine wpAny_staticBase_exc hC ?_ | refine wpAny_madeBy_exc hC ?_ | simp only[bne_self_eq_false,b2K,if_false] | wp_step)
 exact hq
theorem tD {R:Result->Shared->Prop}(F:ExcBaseFacts B newId fv xE) (hB:bm.contains (.type B)=true) (hA:bm.contains (.type "AttributeError")=false) (hN:bm.contains (.type "NameError")=false) {rest:List Value} (hC:h.get? C=some (excClassObj nm q C N bs bm hdct sn sub ab col dd k0 k1 k2 k3 k5 newId)) (hq:R (.ok (.ret (.ref (h.objs.size+1)))) ⟨J9 h C rest,g,d,t,os⟩) (kz:rest.length<=sizeLine) :
   codeAny (model prog w) A (.builtin newId ⟨.ref C::rest,[]⟩) R ⟨h,g,d,t,os⟩:=by
 have Cw:=F.ends;have vC:(a0X C::bm).contains (.type B)=true:=by rw[a0K,hB,Bool.or_true]
 have Hw:(a0X C::bm).contains (.type "AttributeError")=false:=by rw[a0K,hA];rfl
 have Hx:(a0X C::bm).contains (.type "NameError")=false:=by rw[a0K,hN];rfl
 refine codeAny_builtinAt F.entry ?_;unfold Builtin.«BaseException.__new__»;refine wpAt_bind ?_;show wpAt _ _ _ (stack >>= _) _ _ _;refine wpAt_bind (wpAt_stack λp below=>wpAt_of_wpAny ?_)
 wp_walk
 refine wpAt_of_wpAny ?_;rw[F.owner];repeat (first | with_reducible refine wpAny_madeHere_exc F.canon hC ?_ | with_reducible refine wpAny_loadPart_at hC ?_ | (with_reducible refine wpAny_isSubtype_exc hC ?_;first | rw[vC] | rw[Hw] | rw[Hx]) | wp_step)
 show R _ _;rw[a7V];exact hq
theorem UC (F:ExcBaseFacts B newId fv xE) (hB:bm.contains (.type B)=true) (hA:bm.contains (.type "AttributeError")=false) (hN:bm.contains (.type "NameError")=false) {rest:List Value}{Q:Fin->Shared->Prop} (hC:h.get? C=some (excClassObj nm q C N bs bm hdct sn sub ab col dd k0 k1 k2 k3 k5 newId)) (hi:PySem.W.Looks (model prog w) h (typeLookup (.ref C) "__init__") (some init)) (hb:∀self:Value,PySem.W.Looks (model prog w) h (bindSpecial init self) (init,[self])) (hq:codeAny (model prog w) A (.call init ⟨.ref (h.objs.size+1)::rest,[]⟩) (λr s'=>match r with | .ok (.ret v)=>v = .none/\Q (.done (.ret (.ref (h.objs.size+1)))) s' | .ok _=>False | .error e=>E e s') ⟨J9 h C rest,g,d,t,os⟩) (kz:rest.length<=sizeLine) :
   wpAny (model prog w) A (Builtin.«type.__call__» ⟨.ref C::rest,[]⟩) Q E ⟨h,g,d,t,os⟩:=by
 repeat (first | with_reducible refine wpAny_loadPart_at hC ?_ | with_reducible refine wpAny_madeBy_exc hC ?_ | wp_step)
 refine codeAny_call_builtin_code (Code.quiet_builtin _ F.quiet) (UB F hB hC ?_);refine tD F hB hA hN hC ?_ kz;show wpAny _ _ _ _ _ _;have y':(J9 h C rest).get? C=_:=BS _ _ hC;have my:(J9 h C rest).get? (h.objs.size+1)=some (UA C h.objs.size):=LU;have Ag:(a0X C::bm).contains (.ref C)=true:=by simp
 unfold isInstance;repeat (first | with_reducible refine wpAny_loadPart_at my ?_ | (with_reducible refine wpAny_isSubtype_exc y' ?_;rw[Ag]) | wp_step)
 show wpAny _ _ (typeLookup (.ref C) _) _ _ _;refine(hi.keeps BS).here (s:=⟨J9 h C rest,g,d,t,os⟩) ?_;refine wpAny_holding (zZ (((hb _).keeps BS).here (s:=⟨J9 h C rest,g,d,t,os⟩) ?_));refine zZ (wpAny_call (xP hq λr s' z=>?_));rcases r with e | (v | _ | _ | _) <;> first | exact z | exact z.elim | skip
 obtain⟨rfl,z⟩:=z
 wp_walk
 exact z
theorem WK (F:ExcBaseFacts B newId fv xE) (hB:bm.contains (.type B)=true) (hA:bm.contains (.type "AttributeError")=false) (hN:bm.contains (.type "NameError")=false) {rest:List Value}{Q:Value->Shared->Prop} (hC:h.get? C=some (excClassObj nm q C N bs bm hdct sn sub ab col dd k0 k1 k2 k3 k5 newId)) (hi:PySem.W.Looks (model prog w) h (typeLookup (.ref C) "__init__") (some init)) (hb:∀self:Value,PySem.W.Looks (model prog w) h (bindSpecial init self) (init,[self])) (hq:codeAny (model prog w) (A.under (.builtin "type.__call__" ⟨.ref C::rest,[]⟩)) (.call init ⟨.ref (h.objs.size+1)::rest,[]⟩) (λr s'=>match r with | .ok (.ret v)=>v = .none/\Q (.ref (h.objs.size+1)) s' | .ok _=>False | .error e=>E e s') ⟨J9 h C rest,g,d,t,os⟩) (kz:rest.length<=sizeLine) :
   wpAny (model prog w) A (call (.ref C) rest) Q E ⟨h,g,d,t,os⟩:=by
 have f1:=tc_lookup;have f2:=tc_bind (.ref C);have hT:(⟨h,g,d,t,os⟩:Shared).TypeIs (.ref C) "type" := ⟨_,hC,rfl⟩
 refine wpAny_call (codeAny_of_tree ?_);show wpAny _ _ (callAny (.ref C) _) _ _ _;repeat (any_goals (first | assumption | with_reducible refine wpAny_loadPart_at hC ?_ | wp_step))
 refine⟨rfl,?_⟩;refine codeAny_call_builtin_at (Code.quiet_builtin _ (by decide +kernel)) entry_typeCall (wpAny_check_type_call_sub hC (UC F hB hA hN hC hi hb (xP hq λr s' z=>?_) kz));rcases r with e | (v | _ | _ | _) <;> first | exact z | exact z.elim
theorem aC (F:ExcBaseFacts B newId fv xE) (hB:bm.contains (.type B)=true) {rest:List Value}{R:Result->Shared->Prop} (hC:h.get? C=some (excClassObj nm q C N bs bm hdct sn sub ab col dd k0 k1 k2 k3 k5 newId)) (hq:∀h' t',(∀b o,h.get? b=some o->h'.get? b=some o)->h'.get? (h.objs.size+1)=some (UA C t')->R (.ok (.ret .none)) ⟨h',g,d,t,os⟩) (kz:rest.length<=sizeLine) :
   codeAny (model prog w) A (.call (.builtin fv) ⟨.ref (h.objs.size+1)::rest,[]⟩) R ⟨J9 h C rest,g,d,t,os⟩:=by
 have y':(J9 h C rest).get? C=_:=BS _ _ hC;have my:(J9 h C rest).get? (h.objs.size+1)=some (UA C h.objs.size):=LU;have vC:(a0X C::bm).contains (.type B)=true:=by rw[a0K,hB,Bool.or_true]
 have Ah:=F.noStar;refine codeAny_call_builtin F.init.plain F.initEntry ?_;simp only[checkBuiltinCall,F.initKind,F.initSplit,F.initRow];repeat (first | with_reducible refine wpAny_loadPart_at my ?_ | with_reducible refine wpAny_loadPart_at y' ?_ | (with_reducible refine wpAny_isSubtype_exc y' ?_;rw[vC]) | wp_step)
 refine wpAny_onRaise ?_;rw[show ∀(a b:String) (n:Nat),Bind.check ⟨.positional, "*", B,.self,[⟨"args", .varPos,false⟩]⟩ a b n (b7Z (λx=>x.fst) ({ pos:=a0X (h.objs.size+1)::rest }:Args).kw)=pure () from
   λa b n=>check_star_args _ _ _ _ _ _];refine zY ?_
 wp_walk
 refine hq _ (h.objs.size+2) (λb o hb=>?_) ?_;. rw[yC _ _ (a4J (b7X (zM hb)))];exact zW _ (BS _ _ hb)
 . rw[a2X _ (zW _ my) rfl];simp only[a7V];rfl
theorem Q8 {s:Shared}{env:Env}{x:Sem Value}{Q:Flow->Shared->Prop}(hbase:bm.contains (.type "BaseException")=true) (hh:A.handled=none) (hx:wpAny (model prog w) A x (λv s₁=>∃e t dx,v = .ref e/\s₁.heap.get? C=some (excClassObj nm q C N bs bm hdct sn sub ab col dd k0 k1 k2 k3 k5 newId) /\
     s₁.heap.get? e=some { cls:=.ref C,dict:=dx,data:=.fields #[.ref t,.none,.none,.none,.bool false,.none] }/\E (.ref e) s₁) E s) :
   wpAny (model prog w) A (raiseStmt env (some x) none) Q E s:=by
 have vC:(a0X C::bm).contains (.type "BaseException")=true:=by rw[a0K,hbase,Bool.or_true]
 unfold raiseStmt;refine zZ (wpAny_mono hx (λv s₁ h₁=>?_) λ_ _ x=>x);obtain⟨e,t,dx,rfl,hC,he,hE⟩:=h₁;obtain⟨hp,g,d,tk,os⟩:=s₁;repeat (first | with_reducible refine wpAny_loadPart_at he ?_ | with_reducible refine wpAny_loadPart_at hC ?_ | (with_reducible refine wpAny_isSubtype_exc hC ?_;rw[vC]) | wp_step)
 exact wpAny_raiseNew_none hh hE
end
end XC
namespace XC
open PySem PySem.Spec PySem.W Builtin Builtin.ObjectAttr
section
variable {prog:Program}{w:World}{A:Around}{E:Value->Shared->Prop}{K:Frag}{C x:Addr}{s:Shared}{o:Obj}{vs:Array Value}{name:Str}{v:Value}{cd:ClassData}
theorem l4 {R:Result->Shared->Prop}{tk:Tok}(X:K.In s.heap) (hx:s.heap.get? x=some o) (hc:o.cls = .ref C) (qk:o.dict=none) (um:o.data = .fields vs) (iy:clsIn K C=some cd) (hm:cd.mro.contains (.type "object")=true) (hp:∀self,refuseLoop self "__setattr__" cd.mro=pure ()) (ht:takerIn K C name=some none) (hh:cd.hasDict=true) (hq:∀h' uo dx,s.heap.objs.size<=dx->h'.get? x=some { o with dict:=some dx }->h'.Ns1 dx (λy=>if y=name then some v else none)->(∀b u,b≠x->s.heap.get? b=some u->h'.get? b=some u) ->
     R (.ok (.ret .none)) { s with heap:=h',toks:=uo }) :
   codeAny (model prog w) A (.call (.builtin "object.__setattr__") ⟨[.ref x,.str name tk,v],[]⟩) R s:=by
 have SF:=PySem.F.store_object;have ne:cd.mro.isEmpty=false:=by cases q:cd.mro with | nil=>rw[q] at hm;cases hm | cons _ _=>rfl
 have ty:Looks (model prog w) s.heap (typeOf (.ref x)) (.ref C):=(Looks.ld hx).andThen (by rw[hc];exact .now);have sub:Looks (model prog w) s.heap (isInstance (.ref x) (.type "object")) true:=ty.andThen (looks_mroIn X (by unfold mroIn;rw[iy,Option.bind_some,if_neg (by rw[ne];decide),hm]));refine codeAny_call_builtin SF.slot.plain SF.entry (@check_slot (model prog w) _ _ s "object.__setattr__" "object" "__setattr__" (.ref x) [.str name tk,v] [] _ SF.kind SF.split sub (SF.args (.ref x) (.str name tk) v) ?_);obtain⟨attr,ha,hr⟩:=Option.bind_eq_some_iff.mp ht;have Hy:Looks (model prog w) s.heap (mroOf (.ref C)) cd.mro:=(looks_clsIn X iy).andThen .now;have L3:Looks (model prog w) s.heap (storeTaker? attr) none:=by
   cases attr with
   | none=>cases hr;exact .now
   | some a=> obtain⟨b,hb,e⟩:=Option.map_eq_some_iff.mp hr;refine(looks_takesIn X hb).andThen ?_;cases b <;> first | exact .now | cases e
 rw[osa_eq,refuse_eq];refine zZ (zZ (ty.here (zZ (Hy.here ?_))));rw[hp];refine zY (zZ (ty.here (zZ ((looks_findIn X ha).here (zZ (L3.here ?_))))));obtain⟨pz,g,d,t,os⟩:=s;obtain⟨oc,od,Kp,osl⟩:=o;dsimp only at hc qk um hq;subst hc qk um;have qf:pz.get? x=some ⟨.ref C,none,.fields vs,osl⟩:=hx;refine zZ (zY (zZ (zZ (wpAny_loadPart qf (zZ ((looks_clsIn X iy).here ?_))))));rw[hh];have Cy:(pz.push { cls:=.type "dict", data:=.dict #[] }).get? x=some ⟨.ref C,none,.fields vs,osl⟩:=zW _ qf;have Cz:x≠pz.objs.size:=zC (zM qf);refine zZ (wpAny_alloc' ?_);refine zZ (wpAny_update' Cy ?_);refine zY (a:=some pz.objs.size) ?_;have Hz:((pz.push { cls:=.type "dict", data:=.dict #[] }).update x λo=>{ cls:=o.cls,dict:=some pz.objs.size,data:=o.data,slots:=o.slots }).get? pz.objs.size
     = some { cls:=.type "dict", data:=.dict #[] }:=
   (yB _ _ _ _ Cz.symm).trans (Heap.get?_push_at rfl rfl);have xG:((pz.push { cls:=.type "dict", data:=.dict #[] }).update x λo=>{ cls:=o.cls,dict:=some pz.objs.size,data:=o.data,slots:=o.slots }).Ns pz.objs.size (λ_=>none):=⟨_,#[],_,Hz,rfl,λe he=>absurd he (by simp),λ_=>rfl⟩
 show wpAny _ _ (storeInDict pz.objs.size (.str name tk) name v) _ _ _;unfold storeInDict newKeyGuard;refine zZ (zY (zZ (wpAny_nsSet1 (Heap.Ns1.of_empty xG) λh' vo hs=>?_)));obtain⟨oD,Kq,Kr,H_,Ia,vD⟩:=vo.count (Within.cons name v Within.nil);refine zZ (wpAny_lookBehind H_ (by rw[Ia];exact pastItsLine_dict (zN vD (by rw[yR,List.length_nil,sizeLine_eq];omega))) ?_);refine zY (hq h' _ pz.objs.size (zR _) ?_ vo λb u Ib hb=>?_);. exact(hs.2 x Cz).trans (a2X _ Cy rfl)
 . exact(hs.2 b (zC (zM hb))).trans ((yB _ _ _ _ Ib).trans (zW _ hb))
theorem l5 {Q:Unit->Shared->Prop}(X:K.In s.heap) (hx:s.heap.get? x=some o) (hc:o.cls = .ref C) (qk:o.dict=none) (um:o.data = .fields vs) (hs:findIn K (.ref C) "__setattr__"=some (some (.builtin "object.__setattr__"))) (iy:clsIn K C=some cd) (hm:cd.mro.contains (.type "object")=true) (hp:∀self,refuseLoop self "__setattr__" cd.mro=pure ()) (ht:takerIn K C name=some none) (hh:cd.hasDict=true) (hq:∀h' uo dx,s.heap.objs.size<=dx->h'.get? x=some { o with dict:=some dx }->h'.Ns1 dx (λy=>if y=name then some v else none)->(∀b u,b≠x->s.heap.get? b=some u->h'.get? b=some u) ->
     Q () { s with heap:=h',toks:=uo }) :
   wpAny (model prog w) A (setAttr (.ref x) name v) Q E s:=by
 have J:InstAt s.heap x o C none:=⟨hx,hc,by obtain⟨_,_,_,_⟩:=o;cases um;rfl,by rw[qk];trivial⟩
 exact set_plain X J hs (l4 (s:={ s with toks:=s.toks+1 }) X hx hc qk um iy hm hp ht hh λh' uo dx a b c d=>hq h' uo dx a b c d)
end
end XC
namespace XC
open PySem PySem.Spec L2
open PyProof.Rows (envOfC AllBare)
abbrev St:=L2.St
theorem Q9 {P:Program}{w:World}{H:Hp}{h h':Heap}{fs ch:List Addr}(ok:HOk P w H h) (m:Moved fs ch h h') (f1:∀b∈fs,H b=none) (f2:∀b∈ch,H b=none):HOk P w H h':=λa o e=>by
 have ne:∀b u,H b=some u->b∉fs/\b∉ch:=λb u q=>⟨λz=>(by rw[f1 b z] at q;cases q),λz=>(by rw[f2 b z] at q;cases q)⟩
 refine(ok a o e).stay (λb u hb q=>?_) (λ_ q=>q) λ_ _ q=>q;rcases hb with rfl | hb;. exact m.keep b u q (ne b o e).1 (ne b o e).2
 . exact m.keep b u q (ne b _ hb).1 (ne b _ hb).2
def fR (dd:Option Addr) (H:Hp):Prop:=∃d v,dd=some d/\H d=some (.xd [(a0Q "number", v)])
def CXE (P:Program) (w:World):CXT:=λouter H s E e s'=>∃(a T:Addr) (cls:Value) (dd:Option Addr) (ar:Value) (H':Hp),e = .ref a/\s'.os=s.os/\AllBare s'.gens/\Un (frs outer) [] H H' s.heap s'.heap/\HOk P w H' s'.heap /\
 IJ s'.heap a cls dd ar (some T) .none/\s.heap.objs.size<=a/\s.heap.objs.size<=T/\H' a=none/\H' T=none/\(ar = .none\/fR dd H')/\E cls dd H'
structure Loose (X:Cx) (H:Hp) (b:Addr):Prop where
 above:X.s₀.heap.objs.size<=b
 loc:b≠X.env.locals
 cel:∀x c,X.env.cells.lookup x=some c->c≠b
 fre:H b=none
 pn:∀p∈X.pn,p.1≠b
theorem Loose.of {X:Cx}{pins:List (Addr×Obj)}{σ:St}{H H':Hp}{s:Shared}{b:Addr}(I:Inv X pins σ H s) (h:s.heap.objs.size<=b) (f:H' b=none):Loose X H' b:=by
 refine⟨zN I.sz h,λz=>?_,λx c e z=>?_,f,λp hp z=>?_⟩;. have:=I.lt;rw[<-z] at this;exact absurd (zP this h) (yF _)
 . obtain⟨v,o,ho,_⟩:=I.cell x c e;have:=zM ho;rw[z] at this;exact absurd (zP this h) (yF _)
 . have:=zM (I.pin p (List.mem_append_left _ hp)).1;rw[z] at this;exact absurd (zP this h) (yF _)
def Fly (X:Cx) (R:St->XK) (e:Value) (s':Shared):Prop:=∃(a:Addr) (T:Option Addr) (cls:Value) (dd:Option Addr) (ar:Value) (σ:St) (H:Hp) (fl:Value),e = .ref a/\Inv X [] σ H s'/\(IJ s'.heap a cls dd ar T fl/\(fl = .none\/(T≠none/\fl=rawInt X.env.locals)))/\Loose X H a/\(∀t,T=some t->Loose X H t)/\(ar = .none\/fR dd H)/\R σ cls dd H
theorem RJ {X:Cx}{pins:List (Addr×Obj)}{σ:St}{H:Hp}{s:Shared}(I:Inv X pins σ H s):Inv X [] σ H s:=I.pins_of λp hp=>nomatch hp
theorem fS {X:Cx}{R:St->XK}{pins:List (Addr×Obj)}{σ:St}{H:Hp}{s:Shared}{e:Value}{s':Shared}(I:Inv (X.wish (Fly X R)) pins σ H s) (h:CXE X.prog X.w X.stack H s (R σ) e s'):Fly X R e s':=by obtain⟨a,T,cls,dd,ar,H',rfl,os,bare,un,hok,x,h1,h2,f1,f2,lx,r⟩:=h;have I':=I.unwish;have J:Inv X pins σ H' s':=I'.call' (ch:=[]) os un hok bare λb z=>absurd z (by simp);exact⟨a,some T,cls,dd,ar,σ,H',.none,rfl,RJ J,⟨x,.inl rfl⟩,Loose.of I' h1 f1,λt e=>(by cases e;exact Loose.of I' h2 f2),lx,r⟩
def RK (sp:Sp) (R:St->XK) (t:TA):TE:=λσ H Q=>t σ H λvs H1=>sp vs H1 Q (R σ)
theorem fT {X:Cx}{R:St->XK}{k:Nat}{f:Addr}{fd:FuncData}{ps:List Str}{sp:Sp}{x:Str}{p pos:Pos}{e:Expr}{es:List Expr}{t:TA}(F:FnOk X.prog X.w X.K X.mg X.base (CXE X.prog X.w) k f fd ps sp) (hr:Room k X.A) (hg:Gl X x) (hm:X.mg x=some (.ref f)) (hk:a2K X.K (.ref f)=true) (hb:Binds X.K fd ps []) (ha:PA (X.wish (Fly X R)) (e::es) t) (cg:(x==("__debug__":Str))=false:=by decide) (he:starEach (e::es) X.env=(false,eval e X.env)::starEach es X.env:=by rfl) (kn:(backTo pos (starEach es X.env)).any (·.1)=false:=by rfl) :
   PE (X.wish (Fly X R)) (.Call (.Name x p) (e::es) [] pos) (RK sp R t):=by
 intro pins s σ H Q I h;refine wpAny_Call_Name_kw (DB (X:=X.wish (Fly X R)) I hg hm ?_ cg);refine b4Z (h₀:=X.base) I.ok.mod.kin hk (thn (ha pos pins s σ H _ I h) λus s1 ⟨vs,H1,I1,r,q⟩=>⟨I1.kIn,?_⟩) he kn;have hl:(us++[]).length=ps.length:=by rw[b0Z,<-r.length];exact F.len _ _ _ _ q
 have r2:Vals vs (us++[]):=by rw[b0Z];exact r
 refine wpAny_call (xP (F.run X.A X.stack s1 H1 ⟨us,[]⟩ (us++[]) vs Q (R σ) hr I1.env0 (hb s1 us I1.kIn hl) r2 q) λr' s' hq=>?_);cases r' with
 | error e=>exact fS I1 hq
 | ok fl=>
   cases fl with
   | ret u=>exact I1.after hq
   | next=>exact a6Z hq
   | brk=>exact a6Z hq
   | cont=>exact a6Z hq
theorem B6 {X:Cx}{pins:List (Addr×Obj)}{σ:St}{H:Hp}{s:Shared}{ch:List Addr}{h':Heap}(I:Inv X pins σ H s) (m:Moved (frs X.stack) ch s.heap h') (ix:∀b∈ch,H b=none/\X.s₀.heap.objs.size<=b/\b≠X.env.locals/\(∀x c,X.env.cells.lookup x=some c->c≠b)/\∀p∈X.pn++pins,p.1≠b) :
   Inv X pins σ H { s with heap:=h' }:=by
 refine I.call' (s':={ s with heap:=h' }) (ch:=ch) rfl ⟨λb o q n f c=>m.keep b o q f c,λb o q n f c=>m.slot b o q c,λ_ _ _ n _=>n,λb o q _=>m.there b o q,λ_ _ q=>q,λ_ _ _ q=>q,λb ps q=>⟨#[],by rw[q];simp⟩⟩
   (Q9 I.hok m I.stkFree λb hb=>(ix b hb).1) I.bare λb hb=>⟨.inr (ix b hb).2.1,(ix b hb).2.2⟩
theorem Loose.ch {X:Cx}{H:Hp}{b:Addr}(l:Loose X H b):H b=none/\X.s₀.heap.objs.size<=b/\b≠X.env.locals/\(∀x c,X.env.cells.lookup x=some c->c≠b)/\∀p∈X.pn++[],p.1≠b:=⟨l.fre,l.above,l.loc,l.cel,λp hp=>l.pn p (by simpa using hp)⟩
theorem WL {X:Cx}{R:St->XK}(bo:X.stack=X.env::X.outer) (g_:X.env.frame=some X.env.locals):PassesOwn (model X.prog X.w) X.A X.env (Fly X R):=λe s' h=>by
 obtain⟨a,T,cls,dd,ar,σ,H,fl,rfl,I,⟨x,qj⟩,la,lT,lx,r⟩:=h;have fr:X.A.frames=some (X.env::X.outer):=by rw[<-bo];exact I.ok.frames
 have hl:s'.heap.FunFrames X.base (X.env::X.outer):=by rw[<-bo];exact I.stack
 refine GM fr hl g_ x qj λh2 T' x2 n2 m2=>?_;have vE:(X.env::X.outer).filterMap (·.frame)=frs X.stack:=by rw[bo];rfl
 rw[vE] at m2;have I2:Inv X [] σ H { s' with heap:=h2 }:=B6 I m2 λb hb=>by
   rcases yX.mp hb with q | q;. rw[q];exact la.ch
   . exact(lT b (by cases T with | none=>simp at q | some t=>simp at q;rw[q])).ch
 have k_:Loose X H T':=n2.elim (λz=>lT T' z) λz=>Loose.of I z.2 (I.hok.fresh z.2);obtain⟨oe,vs,he,hc,mx,hd,h0,h1,ub,_⟩:=id x2;unfold cameBackBy;refine zZ (wpAny_field (s:={ s' with heap:=h2 }) he hd h1 ?_);rw[if_neg (by simp)];rw[g_];refine NE (s:={ s' with heap:=h2 }) x2 λh3 x3 m3=>?_;have I3:Inv X [] σ H { s' with heap:=h3 }:=B6 (s:={ s' with heap:=h2 }) (ch:=[T']) I2 (m3.mono (λb z=>absurd z (by simp)) λb z=>z) λb hb=>by
   have:b=T':=by simpa using hb
   rw[this];exact k_.ch
 exact⟨a,some T',cls,dd,ar,σ,H,_,rfl,I3,⟨x3,.inr ⟨by simp,rfl⟩⟩,la,λt e=>(by cases e;exact k_),lx,r⟩
section
variable {P:Program}{w:World}{K:Frg}{mg:Str->Option Value}{base:Heap}
theorem qJ {N:List Str}{qual:Str}{scope:Scope}{f:Addr}{cd:Value}{A:Around}{outer:List Env}{s:Shared}{H:Hp}{E:XK}{e:Value}{s':Shared} (h:Fly (HJ (CXE P w) P w K mg base N qual scope f cd A outer s H E) (λ_=>E) e s'):(HJ (CXE P w) P w K mg base N qual scope f cd A outer s H E).xe e s':=by
 obtain⟨a,T,cls,dd,ar,σ,H',fl,rfl,I,⟨x,qj⟩,la,lT,lx,r⟩:=h;have c_:=I.stack;have Ai:=I.stkFree;refine aB (base:=base) (env:=envOfC qual scope s.heap.objs.size f cd) (outer:=outer) (L:=s.heap.objs.size) I.ok.frames c_ rfl x qj λh' T' x' z m=>?_;have g_:∀b∈(envOfC qual scope s.heap.objs.size f cd::outer).filterMap (·.frame),H' b=none:=Ai;have ix:∀b∈a::T.toList,Loose (HJ (CXE P w) P w K mg base N qual scope f cd A outer s H E) H' b:=λb hb=>by
   rcases yX.mp hb with q | q;. rw[q];exact la
   . exact lT b (by cases T with | none=>simp at q | some t=>simp at q;rw[q])
 have ph:∀b o,s.heap.get? b=some o->b∉a::T.toList:=λb o q hb=>absurd (zP (zM q) (ix b hb).above) (yF _);have za:∀b o,s.heap.get? b=some o->b∉frs outer->b∉(envOfC qual scope s.heap.objs.size f cd::outer).filterMap (·.frame):=λb o q n hb=>by
   rcases yX.mp (show b∈s.heap.objs.size::frs outer from hb) with z | z;. rw[z] at q;exact absurd (zM q) (yF _)
   . exact n z
 have B:=I.base;have hok:=Q9 I.hok m g_ λb hb=>(ix b hb).fre;have sz:=I.sz;have C_:s.heap.objs.size<=T'/\H' T'=none:=by
   rcases z with z | z;. exact⟨(lT T' z).above,(lT T' z).fre⟩
   . exact⟨zN sz z,I.hok.fresh z⟩
 refine⟨a,T',cls,dd,ar,H',rfl,I.os,I.bare,⟨λb o q n hb hx=>?_,λb o q n hb hx=>?_,B.free,λb o q hx=>?_,B.tups,B.frzs,B.tbls⟩,hok,x',la.above,C_.1,la.fre,C_.2,lx,r⟩;. exact m.keep b o (B.keep b o q n hb hx) (za b o q hb) (ph b o q)
 . obtain⟨sl,q1⟩:=B.slot b o q n hb hx;obtain⟨vQ,q2⟩:=m.slot b _ q1 (ph b o q);exact⟨vQ,q2⟩
 . obtain⟨o',q1⟩:=B.there b o q hx;exact m.there b o' q1
theorem fU {X:Cx}{E:Value->Shared->Prop}{st:List Stmt}{t:TS}(h:PSs (X.wish E) st t) (hE:∀e s,E e s->X.xe e s):PSs X st t:=λpins s σ H D I hw=>
 wpAny_mono (h pins s σ H D (I.wish _) hw) (λ_ _ q=>q.unwish) hE
theorem uH {x qual:Str}{st:Stmt}{f:Addr}{fd:FuncData}{N ps:List Str}{k:Nat}{sp:Sp}(F:Fun K x qual st f fd) (S:FnScope N ps (AC st)) (len:∀vs H Q E,sp vs H Q E->vs.length=ps.length) (bf:∀(cdv:Value) (A:Around) (outer:List Env) (s:Shared) (H:Hp) (vs:List V) (Q:VK) (E:XK),Room k (A.deeper (envOfC qual (AC st) s.heap.objs.size f cdv))->sp vs H Q E ->∃t,PSs ((HJ (CXE P w) P w K mg base N qual (AC st) f cdv A outer s H E).wish (Fly (HJ (CXE P w) P w K mg base N qual (AC st) f cdv A outer s H E) λ_=>E)) (B1 st) t/\t { nx:=λ_ H'=>Q .non H',rt:=Q } (CI N vs) H):FnOk P w K mg base (CXE P w) (k+1) f fd ps sp:=by obtain⟨oc,od,kV,doc,pm,an,cdv,ct,osl,rfl,lk,iy⟩:=F.ex;refine mL lk iy S len λA outer s H vs Q E hr kb=>?_;obtain⟨t,h,q⟩:=bf cdv A outer s H vs Q E hr kb;exact⟨t,fU h λe s' z=>qJ z,q⟩
end
end XC
namespace XC
open PySem PySem.Spec L2
open PyProof.Rows (envOfC AllBare)
abbrev bmV:List Value:=[.type "ValueError", .type "Exception", .type "BaseException", .type "object"]
structure XCls (K:Frg) (C S:Addr) (init:Value):Prop where
 lk:∃(nm q:Str) (N:Addr) (bs:List Value) (sn:List Str) (sub:List Value) (ab:Bool) (col:Option Bool) (dd:Option Addr) (k0 k1 k2 k3 k5:Option Value),K.lookup C=some (excClassObj nm q C N bs (.ref S::bmV) true sn sub ab col dd k0 k1 k2 k3 k5 "ValueError.__new__")
 init:a5Q K (.ref C) "__init__"=some (some init)
 kp:a2K K (.ref C)=true
theorem LV {S:Addr}:(a0X S::bmV).contains (.type "ValueError")=true:=by rw[a0K];rfl
theorem RL {S:Addr}:(a0X S::bmV).contains (.type "AttributeError")=false:=by rw[a0K];rfl
theorem RM {S:Addr}:(a0X S::bmV).contains (.type "NameError")=false:=by rw[a0K];rfl
theorem NF {S:Addr}:(a0X S::bmV).contains (.type "BaseException")=true:=by rw[a0K];rfl
section
variable {X:Cx}{R:St->XK}{C S f:Addr}{x:Str}{np ah pos:Pos}
def RN (C:Addr) (R:St->XK):TS:=λ_ σ H=>R σ (.ref C) none H
theorem aD (c:XCls X.K C S (.builtin "ValueError.__init__")) (hg:Gl X x) (hm:X.mg x=some (.ref C)) (hh:X.A.handled=none) (cg:(x==("__debug__":Str))=false:=by decide) :
   PS (X.wish (Fly X R)) (.Raise (some (.Call (.Name x np) [] [] ah)) none pos) (RN C R):=by
 intro pins s σ H D I h;have F:=b4Q;obtain⟨nm,q,N,bs,sn,sub,ab,col,dd,k0,k1,k2,k3,k5,lk⟩:=c.lk;have I0:=I.unwish;have hC:=I0.kIn _ _ lk;rw[arm_exec_Raise];refine zZ (wpAny_standAt (Q8 (C:=C) (hbase:=NF (S:=S)) (hh:=hh) (nm:=nm) (q:=q) (N:=N) (bs:=bs) (hdct:=true) (sn:=sn) (sub:=sub) (ab:=ab) (col:=col) (dd:=dd) (k0:=k0) (k1:=k1) (k2:=k2) (k3:=k3) (k5:=k5) (newId:= "ValueError.__new__") ?_));refine zZ (thn (wpAny_Call_Name_kw (DB I (X:=X.wish (Fly X R)) hg hm (PySem.W.callWith_K0 (X:=I0.kIn) c.kp (Q:=λv s₁=>∃e t dx,v = .ref e/\s₁.heap.get? C=some (excClassObj nm q C N bs (.ref S::bmV) true sn sub ab col dd k0 k1 k2 k3 k5 "ValueError.__new__") /\
     s₁.heap.get? e=some { cls:=.ref C,dict:=dx,data:=.fields #[.ref t,.none,.none,.none,.bool false,.none] }/\Fly X R (.ref e) s₁) ?_) cg)) λv s3 h3=>zZ (wpAny_standAt (zY h3)));obtain⟨hp,g,d,t,os⟩:=s;refine WK F LV RL RM hC (b8X I0.kIn c.init) (λself=>PySem.W.Looks.of_pure (F.init.bind self)) (aC F LV hC (λh' t' k my=>?_) (xU _)) (xU _);have J:Inv X pins σ H ⟨h',g,d,t,os⟩:=I0.kept (t':=t) k;have sz:hp.objs.size<=hp.objs.size+1:=a6K _;exact⟨rfl,hp.objs.size+1,t',none,rfl,k _ _ hC,my,hp.objs.size+1,none,.ref C,none,.none,σ,H,.none,rfl,RJ J,⟨⟨_,_,my,rfl,rfl,rfl,rfl,rfl⟩,.inl rfl⟩,Loose.of I0 sz (I0.hok.fresh sz),λt e=>(by cases e),.inl rfl,h⟩
end
end XC
namespace XC
open PySem PySem.Spec L2
open PyProof.Rows (envOfC AllBare)
def xo (e C t:Addr) (dx:Option Addr):HO:=.ext λh=>h.get? e=some { cls:=.ref C,dict:=dx,data:=.fields #[.ref t,.none,.none,.none,.bool false,.none] }
theorem fV {P:Program}{w:World}{H:Hp}{h:Heap}{e C t:Addr}{dx:Option Addr}(q:h.get? e=some { cls:=.ref C,dict:=dx,data:=.fields #[.ref t,.none,.none,.none,.bool false,.none] }):ObjOk P w H h e (xo e C t dx):=⟨q,⟨_,q⟩,λ_ _ a b=>b _ a⟩
structure XSet (K:Frg) (C:Addr) (fn:Str):Prop where
 sa:a5Q K (.ref C) "__setattr__"=some (some (.builtin "object.__setattr__"))
 ta:PySem.W.takerIn K C fn=some none
def sX (C:Addr) (fn:Str) (ta tv:TE):TS:=λD σ H=>tv σ H λy H1=>ta σ H1 λx H2=>∃e t,x = .ref e/\H2 e=some (xo e C t none) /\∀d,H2 d=none->d≠e->D.nx σ (upd (upd H2 d (.xd [(fn,y)])) e (xo e C t (some d)))
section
variable {X:Cx}{pins:List (Addr×Obj)}{σ:St}{H:Hp}{s:Shared}
theorem fW {e C t dx:Addr}{fn:Str}{y:V}{u:Value}{h':Heap}{t':Nat}(I:Inv X pins σ H s) (he:H e=some (xo e C t none)) (ry:RelV y u) (hd:s.heap.objs.size<=dx) (q1:h'.get? e=some { cls:=.ref C,dict:=some dx,data:=.fields #[.ref t,.none,.none,.none,.bool false,.none] }) (q2:h'.Ns1 dx (λz=>if z=fn then some u else none)) (k:∀b o,b≠e->s.heap.get? b=some o->h'.get? b=some o):Inv X pins σ (upd (upd H dx (.xd [(fn,y)])) e (xo e C t (some dx))) { s with heap:=h',toks:=t' }:=by
 have qk:H dx=none:=I.hok.fresh hd;have au:dx≠e:=λz=>by rw[z,he] at qk;cases qk
 have lo:∀b o,s.heap.get? b=some o->b≠dx:=λb o q z=>by rw[z] at q;exact absurd (zP (zM q) hd) (yF _)
 have same:∀b,b≠e->b≠dx->upd (upd H dx (.xd [(fn,y)])) e (xo e C t (some dx)) b=H b:=λb h1 h2=>by rw[AG h1,AG h2]
 have tr:∀b o,H b=some o->b≠dx:=λb o q z=>by rw[z,qk] at q;cases q
 refine I.un ⟨λb o q n _ _=>k b o (λz=>by rw[z,he] at n;cases n) q,λb o q n _ _=>⟨o.slots,k b o (λz=>by rw[z,he] at n;cases n) q⟩,λb o q n _=>?_,λb o q _=>?_,λb xs q=>?_,λb o xs q=>?_,λb ps q=>⟨#[],?_⟩⟩ λb o q=>?_;. rw[same b (λz=>by rw[z,he] at n;cases n) (lo b o q)];exact n
 . by_cases z:b=e;. rw[z];exact⟨_,q1⟩
   . exact⟨o,k b o z q⟩
 . rw[same b (λz=>by rw[z,he] at q;cases q) (tr b _ q)];exact q
 . rw[same b (λz=>by rw[z,he] at q;cases q) (tr b _ q)];exact q
 . rw[same b (λz=>by rw[z,he] at q;cases q) (tr b _ q)];rw[q];simp
 . by_cases z:b=e;. subst z;rw[AF] at q;cases q;exact fV q1
   . by_cases z2:b=dx
     . subst z2;rw[AG z,AF] at q;cases q;refine⟨_,q2,λf=>?_⟩;by_cases hf:f=fn;. subst hf;simp[List.lookup];exact ry
       . have:(f==fn)=false:=by simp[hf]
         simp[List.lookup,this,hf,RelO]
     . rw[same b z z2] at q;refine(I.hok b o q).stay (λc v hc qq=>k c v ?_ qq) (λc qq=>?_) λc xs qq=>?_
       . rcases hc with rfl | hc;. exact z
         . rintro rfl;rw[he] at hc;cases hc
       . rw[same c (λz=>by rw[z,he] at qq;cases qq) (tr c _ qq)];exact qq
       . rw[same c (λz=>by rw[z,he] at qq;cases qq) (tr c _ qq)];exact qq
theorem Y9 {C S:Addr}{init:Value}{fn:Str}{o value:Expr}{pos pos':Pos}{ta tv:TE}(c:XCls X.K C S init) (cs:XSet X.K C fn) (ha:PE X o ta) (hv:PE X value tv) (hs:swapsWith value (some (.Attribute o fn pos')) pos.line X.env=pure false) :
   PS X (.Assign [.Attribute o fn pos'] value pos) (sX C fn ta tv):=by
 intro pins s σ H D I h;refine plainObj_wpAny_Assign_Attribute (thn (hv pins s σ H _ I h) λu s1 ⟨y,H1,I1,ry,q⟩=>thn (ha pins s1 σ H1 _ I1 q) λov s2 ⟨x,H2,I2,rx,e,t,ex,ea,q2⟩=>?_) hs;subst ex;obtain rfl:ov=a0X e:=rx;obtain⟨nm,q,N,bs,sn,sub,ab,col,dd,k0,k1,k2,k3,k5,lk⟩:=c.lk;have hx:=(I2.hok e _ ea).1;refine l5 (cd:={ name:=nm,bases:=bs,mro:=.ref C::.ref S::bmV,ns:=N,qualname:=q,hasDict:=true,slotNames:=sn,subclasses:=sub,abstract:=ab,collection:=col,hasDel:=false }) I2.kIn hx rfl rfl rfl cs.sa (by unfold PySem.W.clsIn;rw[lk]) (by rw[a0K,a0K];rfl)
   (λself=>by show refuseLoop self "__setattr__" (.ref C::.ref S::bmV)=pure ();rw[refuseLoop_ref,refuseLoop_ref];exact PySem.F.store_ValueError.passes self) cs.ta rfl λh' uo dx z1 z2 z3 z4=>?_;have qk:H2 dx=none:=I2.hok.fresh z1;have au:dx≠e:=λz=>by rw[z,ea] at qk;cases qk
 exact⟨σ,_,fW (t':=uo) I2 ea ry z1 z2 z3 z4,q2 dx qk au⟩
end
def D8 (C:Addr) (fn:Str):Sp:=λvs H Q _=>∃e v t,vs=[.ref e,v]/\H e=some (xo e C t none)/\∀d,H d=none->d≠e->Q .non (upd (upd H d (.xd [(fn,v)])) e (xo e C t (some d)))
theorem NG {X:Cx}{pins:List (Addr×Obj)}{σ:St}{H:Hp}{s:Shared}{e C t:Addr}{dx:Option Addr}(I:Inv X pins σ (upd H e (xo e C t dx)) s) (hn:H e=none) (ha:X.s₀.heap.objs.size<=e):Inv X pins σ H s:=by
 have B:=I.base;have sm:∀b,b≠e->upd H e (xo e C t dx) b=H b:=λb z=>AG z;have ne:∀b o,X.s₀.heap.get? b=some o->b≠e:=λb o q z=>by rw[z] at q;exact absurd (zP (zM q) ha) (yF _)
 have nn:∀b,upd H e (xo e C t dx) b=none->H b=none:=λb q=>by
   by_cases z:b=e;. rw[z];exact hn
   . rw[sm b z] at q;exact q
 have nt:∀{b o},upd H e (xo e C t dx) b=some o->o≠xo e C t dx->H b=some o:=λ{b o} q no=>by
   by_cases z:b=e;. rw[z,AF] at q;cases q;exact absurd rfl no
   . rw[sm b z] at q;exact q
 refine⟨I.ok,I.os,I.bare,⟨B.keep,B.slot,λb o q n hx=>nn b (B.free b o q n hx),B.there,λb xs q=>nt (B.tups b xs q) (by unfold xo;simp),λb o xs q=>nt (B.frzs b o xs q) (by unfold xo;simp),λb ps q=>?_⟩,I.loc,I.cell,nn _ I.free,λx c q=>nn _ (I.freeC x c q),λp hp=>?_,λb o q=>?_,I.len⟩;. obtain⟨m,q'⟩:=B.tbls b ps q;exact⟨m,nt q' (by unfold xo;simp)⟩
 . obtain⟨a1,a2,a3⟩:=I.pin p hp;exact⟨a1,nn _ a2,a3⟩
 . have z:b≠e:=λz=>by rw[z,hn] at q;cases q
   have q':upd H e (xo e C t dx) b=some o:=by rw[sm b z];exact q
   exact(I.hok b o q').stay (λ_ _ _ a=>a) (λc a=>nt a (by unfold xo;simp)) λc xs a=>nt a (by unfold xo;simp)
section
variable {X:Cx}{R:St->XK}{C S f:Addr}{x fn:Str}{np ah pos:Pos}{arg:Expr}{t:TA}{k:Nat}{fd:FuncData}{ps:List Str}
def RO (C:Addr) (fn:Str) (R:St->XK) (t:TA):TS:=λ_ σ H=>t σ H λvs H1=>∃v,vs=[v]/\∀d,H1 d=none->R σ (.ref C) (some d) (upd H1 d (.xd [(fn,v)]))
theorem aE (c:XCls X.K C S (.ref f)) (v0:b3Q X.K (.ref f)=true) (F:FnOk X.prog X.w X.K X.mg X.base CX0 k f fd ps (D8 C fn)) (hb:Binds X.K fd ps []) (hr:Room (k+1) X.A) (hg:Gl X x) (hm:X.mg x=some (.ref C)) (ha:PA (X.wish (Fly X R)) [arg] t) (cg:(x==("__debug__":Str))=false:=by decide) (he:starEach [arg] X.env=[(false,eval arg X.env)]:=by rfl) :
   PS (X.wish (Fly X R)) (.Raise (some (.Call (.Name x np) [arg] [] ah)) none pos) (RO C fn R t):=by
 intro pins s σ H D I h;have FB:=b4Q;obtain⟨nm,q,N,bs,sn,sub,ab,col,dd,k0,k1,k2,k3,k5,lk⟩:=c.lk;rw[arm_exec_Raise];refine zZ (wpAny_standAt (Q8 (C:=C) (hbase:=NF (S:=S)) (hh:=hr.hd) (nm:=nm) (q:=q) (N:=N) (bs:=bs) (hdct:=true) (sn:=sn) (sub:=sub) (ab:=ab) (col:=col) (dd:=dd) (k0:=k0) (k1:=k1) (k2:=k2) (k3:=k3) (k5:=k5) (newId:= "ValueError.__new__") ?_));refine zZ (thn (wpAny_Call_Name_kw (DB I (X:=X.wish (Fly X R)) hg hm (b4Z (h₀:=X.base) I.ok.mod.kin c.kp (Q:=λv s₁=>∃e t dx,v = .ref e/\s₁.heap.get? C=some (excClassObj nm q C N bs (.ref S::bmV) true sn sub ab col dd k0 k1 k2 k3 k5 "ValueError.__new__") /\
     s₁.heap.get? e=some { cls:=.ref C,dict:=dx,data:=.fields #[.ref t,.none,.none,.none,.bool false,.none] }/\Fly X R (.ref e) s₁) (thn (ha ah pins s σ H _ I h) λus s1 ⟨vs,H1,I1,r,v,ev,q1⟩=>⟨I1.kIn,?_⟩) he rfl) cg)) λv s3 h3=>zZ (wpAny_standAt (zY h3)));subst ev;obtain⟨u,rfl,ru⟩:∃u,us=[u]/\RelV v u:=by cases r with | cons a b=>cases b;exact⟨_,rfl,a⟩
 have I0:=I1.unwish;have hC:=I0.kIn _ _ lk;obtain⟨hp,g,d,tk,os⟩:=s1;have kk:=BS (h:=hp) (C:=C) (rest:=[u]);have xy:=LU (h:=hp) (C:=C) (rest:=[u]);have I2:Inv X pins σ (upd H1 (hp.objs.size+1) (xo (hp.objs.size+1) C hp.objs.size none)) ⟨J9 hp C [u],g,d,tk,os⟩:=I0.laid (a:=hp.objs.size+1) (t':=tk) kk (a6K _) (fV xy);have Aj:H1 (hp.objs.size+1)=none:=I0.hok.fresh (a6K _);have r2:Vals [V.ref (hp.objs.size+1),v] [a0X (hp.objs.size+1),u]:=.cons rfl (.cons ru .nil);have kb:D8 C fn [V.ref (hp.objs.size+1),v] (upd H1 (hp.objs.size+1) (xo (hp.objs.size+1) C hp.objs.size none)) (λw H2=>w = .non/\∃d',H1 d'=none/\d'≠hp.objs.size+1/\H2=upd (upd H1 d' (.xd [(fn,v)])) (hp.objs.size+1) (xo (hp.objs.size+1) C hp.objs.size (some d'))) (λ_ _ _=>False):=by refine⟨_,v,hp.objs.size,rfl,AF,λd' mm au=>⟨rfl,d',by rw[AG au] at mm;exact mm,au,?_⟩⟩;funext b;unfold upd;by_cases z:b=hp.objs.size+1 <;> simp[z]
 have hl:([a0X (hp.objs.size+1),u]++[]).length=ps.length:=by have:=F.len _ _ _ _ kb;simpa using this
 refine WK FB LV RL RM hC (b8X I0.kIn c.init) (λself=>PySem.W.bind_fn I0.kIn self (beq_iff_eq.mp v0)) (xP (F.run _ X.stack _ _ ⟨[a0X (hp.objs.size+1),u],[]⟩ ([a0X (hp.objs.size+1),u]++[]) _ _ _ (hr.make C [u] []) (I2.env0.make C [u] []) (hb _ [a0X (hp.objs.size+1),u] I2.kIn hl) r2 kb) λr' s' xK=>?_) (by show 1<=sizeLine;decide);rcases r' with e | (w | _ | _ | _) <;> first | exact xK.elim | skip
 obtain⟨w',H2,I3,j_,rfl,d',xM,hd2,rfl⟩:=I2.after xK;have hx:=(I3.hok _ _ AF).1;have uq:(upd H1 d' (.xd [(fn,v)])) (hp.objs.size+1)=none:=by rw[AG (a5V hd2)];exact Aj
 have xO:X.s₀.heap.objs.size<=hp.objs.size+1:=zN I0.sz (a6K _);have I4:=NG I3 uq xO;refine⟨j_,hp.objs.size+1,hp.objs.size,some d',rfl,I3.kIn _ _ lk,hx,hp.objs.size+1,none,.ref C,some d',.none,σ,_,.none,rfl,RJ I4,⟨⟨_,_,hx,rfl,rfl,rfl,rfl,rfl⟩,.inl rfl⟩,Loose.of I0 (a6K _) uq,λt e=>(by cases e),.inl rfl,q1 d' xM⟩
end
end XC
namespace XC
open PySem PySem.Spec L2
open PyProof.Rows (envOfC AllBare)
def XM (K:Frg) (C D:Addr):Prop:=∀(prog:Program) (w:World) (A:Around) (E:Value->Shared->Prop) (s:Shared) (e:Addr) (oe:Obj) (Q:Bool->Shared->Prop),K.In s.heap->s.heap.get? e=some oe->oe.cls = .ref C->Q true s ->
 wpAny (model prog w) A (excMatches (.ref e) (.ref D)) Q E s
structure XTop (K:Frg) (S:Addr):Prop where
 lk:∃(nm q:Str) (N:Addr) (bs:List Value) (sn:List Str) (sub:List Value) (ab:Bool) (col:Option Bool) (dd:Option Addr) (k0 k1 k2 k3 k5:Option Value),K.lookup S=some (excClassObj nm q S N bs bmV true sn sub ab col dd k0 k1 k2 k3 k5 "ValueError.__new__")
theorem qK {K:Frg}{C S:Addr}{init:Value}(c:XCls K C S init) (u:XTop K S):XM K C S:=λprog w A E s e oe Q X he hc q=>by
 obtain⟨nm,q',N,bs,sn,sub,ab,col,dd,k0,k1,k2,k3,k5,lk⟩:=c.lk;obtain⟨Ic,Ie,N',wg,Ig,Ak,xO,Al,ko,j0,j1,j2,j3,j5,Am⟩:=u.lk;obtain⟨hp,g,d,t,os⟩:=s;have hC:=X _ _ lk;have hS:=X _ _ Am;have vC:(a0X S::bmV).contains (.type "BaseException")=true:=by rw[a0K];rfl
 have Ag:(a0X C::a0X S::bmV).contains (.ref S)=true:=by rw[a0K,a0K];simp
 have f:=tc_notTuple;have mw:hp.get? e=some oe:=he;unfold excMatches;repeat (first | (with_reducible refine wpAny_loadPart_at mw ?_;rw[hc]) | with_reducible refine wpAny_loadPart_at hS ?_ | (with_reducible refine wpAny_isSubtype_exc hS ?_;rw[vC]) | (with_reducible refine wpAny_isSubtype_exc hC ?_;rw[Ag]) | wp_step)
 exact q
abbrev FW (X:Cx) (a:Addr):Cx:={ X with A:=X.A.mark (some (.ref a)),calm:=false,xe:=λ_ _=>False }
abbrev pinned (X:Cx) (pn:List (Addr×Obj)):Cx:={ X with pn:=pn }
section
variable {X:Cx}{pins:List (Addr×Obj)}{σ:St}{H:Hp}{s:Shared}{a:Addr}
theorem NH (I:Inv X pins σ H s) (a:Addr):Inv (FW X a) pins σ H s:=⟨⟨I.ok.mod,I.ok.kind,I.ok.glob,I.ok.blt,I.ok.above,I.ok.inj,I.ok.has,I.ok.cab,(λz=>nomatch z),I.ok.frames,I.ok.stk,I.ok.exf,I.ok.bs,I.ok.bsz,I.ok.noex,I.ok.exfs,I.ok.funs,I.ok.frf⟩,I.os,I.bare,I.base,I.loc,I.cell,I.free,I.freeC,I.pin,I.hok,I.len⟩
theorem E5 {X:Cx}(ok:X.Ok) (I:Inv (FW X a) pins σ H s):Inv X pins σ H s:=⟨ok,I.os,I.bare,I.base,I.loc,I.cell,I.free,I.freeC,I.pin,I.hok,I.len⟩
theorem YA (I:Inv X pins σ H s):Inv (pinned X (X.pn++pins)) [] σ H s:=⟨⟨I.ok.mod,I.ok.kind,I.ok.glob,I.ok.blt,I.ok.above,I.ok.inj,I.ok.has,I.ok.cab,I.ok.hd,I.ok.frames,I.ok.stk,I.ok.exf,I.ok.bs,I.ok.bsz,I.ok.noex,I.ok.exfs,I.ok.funs,I.ok.frf⟩,I.os,I.bare,I.base,I.loc,I.cell,I.free,I.freeC,λp hp=>I.pin p (by simpa using hp),I.hok,I.len⟩
theorem DU {X:Cx}(ok:X.Ok) (I:Inv (pinned X (X.pn++pins)) [] σ H s):Inv X pins σ H s:=⟨ok,I.os,I.bare,I.base,I.loc,I.cell,I.free,I.freeC,λp hp=>I.pin p (by simpa using hp),I.hok,I.len⟩
theorem UD {X:Cx}(ok:X.Ok) {D:Ends}{f:Flow}{s':Shared}(h:SP (pinned X (X.pn++pins)) [] D f s'):SP X pins D f s':=by
 cases f with
 | next=>obtain⟨σ',H',I,q⟩:=h;exact⟨σ',H',DU ok I,q⟩
 | brk=>obtain⟨σ',H',I,q⟩:=h;exact⟨σ',H',DU ok I,q⟩
 | cont=>obtain⟨σ',H',I,q⟩:=h;exact⟨σ',H',DU ok I,q⟩
 | ret u=>obtain⟨v,σ',H',I,r,q⟩:=h;exact⟨v,σ',H',DU ok I,r,q⟩
theorem aF {X:Cx}(ok:X.Ok) {D:Ends}{f:Flow}{s':Shared}(h:SP (FW X a) pins D f s'):SP X pins D f s':=by
 cases f with
 | next=>obtain⟨σ',H',I,q⟩:=h;exact⟨σ',H',E5 ok I,q⟩
 | brk=>obtain⟨σ',H',I,q⟩:=h;exact⟨σ',H',E5 ok I,q⟩
 | cont=>obtain⟨σ',H',I,q⟩:=h;exact⟨σ',H',E5 ok I,q⟩
 | ret u=>obtain⟨v,σ',H',I,r,q⟩:=h;exact⟨v,σ',H',E5 ok I,r,q⟩
end
end XC
namespace DL
open PySem PySem.Spec L2 XC
open PyProof.Rows (envOfC AllBare)
abbrev Rx:=L2.St->XK
theorem XI.sub {K:Frg}{H:Hp}{M M':Own}(hs:M'.Sub M) {dd:Option Addr}{fs:List (Str×PyData)}(h:XI K H M.W dd fs):XI K H M'.W dd fs:=h.grow (AV hs)
abbrev DXK:=List (Option DS)->Value->List (Str×PyData)->Own->Prop
def KX (K:Frg) (R:Rx) (M:Own) (H:Hp) (DX:DXK):Prop:=∀(ρ':List (Option DS)) (cls:Value) (fs:List (Str×PyData)) (M':Own) (σ':St) (dd:Option Addr) (H':Hp),Rel K M' ρ' σ' H'->Step K M M' H H'->XI K H' M'.W dd fs->DX ρ' cls fs M'->R σ' cls dd H'
theorem KX.step {K:Frg}{R:Rx}{M M1:Own}{H H1:Hp}{DX:DXK}(k:KX K R M H DX) (t:Step K M M1 H H1):KX K R M1 H1 DX:=λa b c d e f g h i j l=>k a b c d e f g h (t.trans i) j l
def DXt (K:Frg) (R:Rx) (t:TS) (ρ:List (Option DS)) (M:Own) (D:EndsD) (DX:DXK):Prop:=∀(σ:St) (H:Hp) (E:Ends),Rel K M ρ σ H->(∀ρ' M' σ' H',Rel K M' ρ' σ' H'->Step K M M' H H'->D.nx ρ' M'->E.nx σ' H')->(∀v H' x M',OA K H' M'->SI K H' M' x v->Step K M M' H H'->D.rt x M'->E.rt v H') ->(∀ρ' M' σ' H',Rel K M' ρ' σ' H'->Step K M M' H H'->D.bk ρ' M'->E.bk σ' H')->(∀ρ' M' σ' H',Rel K M' ρ' σ' H'->Step K M M' H H'->D.ct ρ' M'->E.ct σ' H')->KX K R M H DX->t E σ H
def DEx (K:Frg) (R:Rx) (t:TE) (ρ:List (Option DS)) (M:Own) (Q:DS->Own->Prop) (DX:DXK):Prop:=∀(σ:St) (H:Hp) (QQ:VK),Rel K M ρ σ H->(∀v H' x M',OA K H' M'->SI K H' M' x v->Step K M M' H H'->Q x M'->QQ v H')->KX K R M H DX->t σ H QQ
structure FSpX where
 pre:List DS->Own->Prop
 post:List DS->Own->DS->Own->Prop
 xpost:List DS->Own->Value->List (Str×PyData)->Own->Prop
def spX (K:Frg) (n:Nat) (S:FSpX):Sp:=λvs H Q E=>∃xs M,xs.length=n/\OA K H M/\SIs K H M xs vs/\S.pre xs M/\(∀x M' v H',S.post xs M x M'->Step K M M' H H'->OA K H' M'->SI K H' M' x v->Q v H') /\∀cls fs M' dd H',S.xpost xs M cls fs M'->Step K M M' H H'->OA K H' M'->XI K H' M'.W dd fs->E cls dd H'
section
variable {K:Frg}{R:Rx}{ρ:List (Option DS)}{M:Own}{D:EndsD}{DX:DXK}{t u:TS}{ta:TE}{tl:TA}{tA:TT}{Q:DS->Own->Prop}
theorem DH (h:DSt K t ρ M D):DXt K R t ρ M D DX:=λσ H E Rl k1 k2 k3 k4 _=>h σ H E Rl k1 k2 k3 k4
theorem fX (h:DXt K R t ρ M { D with nx:=λρ1 M1=>DXt K R u ρ1 M1 D DX } DX):DXt K R (iI t u) ρ M D DX:=λσ H E Rl k1 k2 k3 k4 k5=>by refine h σ H { E with nx:=λσ' H'=>u E σ' H' } Rl (λρ1 M1 σ1 H1 R1 t1 q=>?_) k2 k3 k4 k5;exact q σ1 H1 E R1 (λa b c d e f g=>k1 a b c d e (t1.trans f) g) (λa b c d e f g q=>k2 a b c d e f (t1.trans g) q) (λa b c d e f g=>k3 a b c d e (t1.trans f) g) (λa b c d e f g=>k4 a b c d e (t1.trans f) g) (k5.step t1)
theorem n4 (h:DT K tA ρ M λc M1=>if c=true then DXt K R t ρ M1 D DX else DXt K R u ρ M1 D DX):DXt K R (nO tA t u) ρ M D DX:=λσ H E Rl k1 k2 k3 k4 k5=>
 h σ H _ Rl λc H1 M1 o1 t1 h1=>by
   have go:∀{w:TS},DXt K R w ρ M1 D DX->w E σ H1:=λq=>q σ H1 E (Rl.step o1 t1) (λa b c d e f g=>k1 a b c d e (t1.trans f) g) (λa b c d e f g q=>k2 a b c d e f (t1.trans g) q) (λa b c d e f g=>k3 a b c d e (t1.trans f) g) (λa b c d e f g=>k4 a b c d e (t1.trans f) g) (k5.step t1);cases c with
   | true=>rw[if_pos rfl] at h1 ⊢;exact go h1
   | false=>rw[if_neg nft] at h1 ⊢;exact go h1
theorem fY {wi:TI}{g:TG}{tb:TS}(h:DI K wi ρ M λds M1=>∃P:Nat->List (Option DS)->Own->Prop,P 0 ρ M1/\(∀k d ρ' M',ds[k]?=some d->P k ρ' M'->DG K g d ρ' M' λρ2 M2=>DXt K R tb ρ2 M2 (D.turn (P (k+1))) DX)/\∀ρ' M',P ds.length ρ' M'->D.nx ρ' M') :
   DXt K R (nS wi g tb) ρ M D DX:=λσ H E Rl k1 k2 k3 k4 k5=>
 h σ H _ Rl λJ ds H1 M1 o1 t1 wd ⟨P,p0,pt,pe⟩=>by
   refine⟨λi m σ' H'=>m=ds.length - i/\i<=ds.length/\∃ρ' M',Rel K M' ρ' σ' H'/\Step K M1 M' H1 H'/\P i ρ' M',⟨_,rfl,xU _,ρ,M1,Rl.step o1 t1,Step.refl,p0⟩,?_⟩;rintro i m σ' H' ⟨rfl,hi,ρ',M',R',st,p⟩;by_cases dj:i < ds.length;. refine .inr ⟨wd.go i H' M' dj R'.own st,λσ2 H2=>∃ρ2 M2,Rel K M2 ρ2 σ2 H2/\Step K M1 M2 H1 H2/\P (i+1) ρ2 M2,λσ2 H2 ⟨ρ2,M2,a,b,c⟩=>⟨ds.length - (i+1),by omega,rfl,dj,ρ2,M2,a,b,c⟩,λx H2 y=>?_⟩;obtain⟨z9,ik,d,e1,e2⟩:=wd.yld i H' M' x H2 R'.own st dj y;refine pt i d ρ' M' e1 p σ' H2 x _ (R'.step z9 ik) e2 λρ3 M3 σ3 H3 R3 ml b3=>?_;have s3:=(st.trans ik).trans ml;exact b3 σ3 H3 _ R3 (λr m s hh R4 mo q=>⟨r,m,R4,s3.trans mo,q⟩) (λw hh x m a b c q=>k2 w hh x m a b (t1.trans (s3.trans c)) q) (λr m s hh R4 mo q=>k1 r m s hh R4 (t1.trans (s3.trans mo)) q) (λr m s hh R4 mo q=>⟨r,m,R4,s3.trans mo,q⟩) (k5.step (t1.trans s3))
   . have e:i=ds.length:=by omega
     subst e;exact .inl ⟨wd.stop H' M' R'.own st,k1 ρ' M' σ' H' R' (t1.trans st) (pe ρ' M' p)⟩
theorem aG {C:Addr}(h:DX ρ (.ref C) [] M):DXt K R (RN C R) ρ M D DX:=λσ H E Rl _ _ _ _ k5=>k5 ρ _ [] M σ none H Rl Step.refl trivial h
theorem aH {C:Addr}{fn:Str}(h:DA K tl ρ M λxs M1=>∃d,xs=[.d d]/\DX ρ (.ref C) [(fn,d)] M1):DXt K R (RO C fn R tl) ρ M D DX:=λσ H E Rl _ _ _ _ k5=>
 h σ H _ Rl λvs H1 xs M1 o1 s1 t1 ⟨d,ex,q⟩=>by
   subst ex;obtain⟨v,r,rfl,sv,rfl⟩:=s1;refine⟨v,rfl,λp hp=>?_⟩;have g:Step K M1 M1 H1 (upd H1 p (.xd [(fn,v)])):=⟨AM _ hp⟩
   exact k5 ρ _ [(fn,d)] M1 σ (some p) _ ((Rl.step o1 t1).step (o1.new hp) g) (t1.trans g) ⟨v,λz=>z (o1.none hp),AF,DV.grow g.grow sv⟩ q
theorem CY {n:Nat}{S:FSpX}(h:DA K tl ρ M λxs M1=>xs.length=n/\S.pre xs M1/\(∀x M',S.post xs M1 x M'->Q x M')/\∀cls fs M',S.xpost xs M1 cls fs M'->DX ρ cls fs M'):DEx K R (RK (spX K n S) R tl) ρ M Q DX:=λσ H QQ Rl k k5=>
 h σ H _ Rl λvs H1 xs M1 o1 s1 t1 ⟨h0,h1,h2,h3⟩=>
   ⟨xs,M1,h0,o1,s1,h1,λx M' v H' p st oa si=>k v H' x M' oa si (t1.trans st) (h2 x M' p),λcls fs M' dd H' p st oa xi=>k5 ρ cls fs M' σ dd H' ((Rl.step o1 t1).step oa st) (t1.trans st) xi (h3 cls fs M' p)⟩
theorem WM (h:DEx K R ta ρ M D.rt DX):DXt K R (nM ta) ρ M D DX:=λσ H E Rl _ k2 _ _ k5=>h σ H E.rt Rl (λv H' x M' a b c q=>k2 v H' x M' a b c q) k5
theorem YB (h:DEx K R ta ρ M (λ_ M1=>D.nx ρ M1) DX):DXt K R (bM ta) ρ M D DX:=λσ H E Rl k1 _ _ _ k5=>h σ H _ Rl (λv H' x M' a b c q=>k1 ρ M' σ H' (Rl.step a c) c q) k5
theorem WN {i:Nat}(h:DEx K R ta ρ M (λx M1=>D.nx (ρ.set i (some x)) M1) DX):DXt K R (VH ta (HK i)) ρ M D DX:=λσ H E Rl k1 _ _ _ k5=>
 h σ H _ Rl (λv H' x M' a b c q=>k1 _ M' _ H' ((Rl.step a c).set b i) c q) k5
end
section
variable {P:Program}{w:World}{K:Frg}{mg:Str->Option Value}{base:Heap}
theorem l6 {n:Nat}{S:FSpX}:∀vs H Q E,spX K n S vs H Q E->vs.length=n:=λvs H Q E ⟨xs,M,hl,_,h,_⟩=>by rw[h.length,hl]
theorem fZ {x qual:Str}{st:Stmt}{f:Addr}{fd:FuncData}{N ps:List Str}{k:Nat}{S:FSpX}(F:Fun K x qual st f fd) (Sc:FnScope N ps (AC st)) (bf:∀(cdv:Value) (A:Around) (outer:List Env) (s:Shared) (H:Hp) (E:XK),Room k (A.deeper (envOfC qual (AC st) s.heap.objs.size f cdv)) ->∃t,PSs ((HJ (CXE P w) P w K mg base N qual (AC st) f cdv A outer s H E).wish (Fly (HJ (CXE P w) P w K mg base N qual (AC st) f cdv A outer s H E) λ_=>E)) (B1 st) t /\∀xs M,xs.length=ps.length->S.pre xs M->DXt K (λ_=>E) t (MM N xs) M { nx:=λ_ M1=>∃M2:Own,M2.Sub M1/\S.post xs M (.d .none) M2,rt:=λy M1=>∃M2:Own,M2.Sub M1/\S.post xs M y M2 } λ_ cls fs M1=>∃M2:Own,M2.Sub M1/\S.xpost xs M cls fs M2) :
   FnOk P w K mg base (CXE P w) (k+1) f fd ps (spX K ps.length S):=by
 refine uH F Sc l6 λcdv A outer s H vs Q E hr h=>?_;obtain⟨t,ht,hq⟩:=bf cdv A outer s H E hr;obtain⟨xs,M,hl,oa,si,pre,post,xpost⟩:=h;refine⟨t,ht,hq xs M hl pre (L2.CI N vs) H _ (PL oa si) ?_ ?_ (λ_ _ _ _ _ _ z=>z.elim) (λ_ _ _ _ _ _ z=>z.elim) ?_⟩;. rintro ρ' M1 σ' H' R st ⟨M2,hs,p⟩;exact post (.d .none) M2 .non H' p (st.trans ⟨AV hs⟩) (R.own.sub hs) (by unfold SI DV;rfl)
 . rintro v H' y M1 o s1 st ⟨M2,hs,p⟩;exact post y M2 v H' p (st.trans ⟨AV hs⟩) (o.sub hs) (s1.sub hs)
 . rintro ρ' cls fs M1 σ' dd H' R st xi ⟨M2,hs,p⟩;exact xpost cls fs M2 dd H' p (st.trans ⟨AV hs⟩) (R.own.sub hs) (xi.sub hs)
structure HasX (P:Program) (w:World) (K:Frg) (mg:Str->Option Value) (base:Heap) (x:Str) (k:Nat) (ps:List Str) (S:FSpX):Prop where
 ex:∃f fd,FnOk P w K mg base (CXE P w) k f fd ps (spX K ps.length S)/\mg x=some (.ref f)/\a2K K (.ref f)=true/\Binds K fd ps []
theorem aI {X:Cx}{R:Rx}{x:Str}{k:Nat}{ps:List Str}{S:FSpX}{e:Expr}{es:List Expr}{t:TA}{p pos:Pos}(h:HasX X.prog X.w X.K X.mg X.base x k ps S) (hr:Room k X.A) (hg:Gl X x) (ha:PA (X.wish (Fly X R)) (e::es) t) (cg:(x==("__debug__":Str))=false:=by decide) (he:starEach (e::es) X.env=(false,eval e X.env)::starEach es X.env:=by rfl) (kn:(backTo pos (starEach es X.env)).any (·.1)=false:=by rfl) :
   PE (X.wish (Fly X R)) (.Call (.Name x p) (e::es) [] pos) (RK (spX X.K ps.length S) R t):=by obtain⟨f,fd,F,hm,hk,hb⟩:=h.ex;exact fT F hr hg hm hk hb ha cg he kn
end
end DL
namespace DL
open PySem PySem.Spec L2 XC
def DAx (K:Frg) (R:Rx) (t:TA) (ρ:List (Option DS)) (M:Own) (Q:List DS->Own->Prop) (DX:DXK):Prop:=∀(σ:St) (H:Hp) (QQ:List V->Hp->Prop),Rel K M ρ σ H->(∀vs H' xs M',OA K H' M'->SIs K H' M' xs vs->Step K M M' H H'->Q xs M'->QQ vs H')->KX K R M H DX->t σ H QQ
section
variable {K:Frg}{R:Rx}{ρ:List (Option DS)}{M:Own}{DX:DXK}{ta:TE}{tl:TA}{Q:DS->Own->Prop}{QL:List DS->Own->Prop}
theorem g6 (h:DA K tl ρ M QL):DAx K R tl ρ M QL DX:=λσ H QQ Rl k _=>h σ H QQ Rl k
theorem g9 (h:DEx K R ta ρ M (λx M1=>DAx K R tl ρ M1 (λxs M2=>QL (x::xs) M2) DX) DX):DAx K R (CT ta tl) ρ M QL DX:=λσ H QQ Rl k k5=>
 h σ H _ Rl (λv H1 x M1 o1 s1 t1 h1=>h1 σ H1 _ (Rl.step o1 t1) (λvs H2 xs M2 o2 s2 t2 q=>k (v::vs) H2 (x::xs) M2 o2 ⟨v,vs,rfl,s1.step t2,s2⟩ (t1.trans t2) q) (k5.step t1)) k5
end
end DL
namespace DL
open PySem PySem.Spec L2 XC
open PyProof.Rows (envOfC AllBare)
def YC (k:Nat):Stmt->Stmt
 | .ClassDef _ _ _ b _ _ _ _ _ _ _=>b.getD k (.Pass ⟨0,0,0,0⟩)
 | _=>.Pass ⟨0,0,0,0⟩
section
variable {P:Program}{w:World}{K:Frg}{mg:Str->Option Value}{base:Heap}
theorem qL (X:Cx) (R:Rx) {x:Str}{k:Nat}{ps:List Str}{S:FSpX}{e:Expr}{es:List Expr}{t:TA}{p pos:Pos}(hK:X.K=K) (hP:X.prog=P) (hw:X.w=w) (mr:X.mg=mg) (vA:X.base=base) (h:HasX P w K mg base x k ps S) (hr:Room k X.A) (hg:Gl X x) (ha:PA (X.wish (Fly X R)) (e::es) t) (cg:(x==("__debug__":Str))=false:=by decide) (he:starEach (e::es) X.env=(false,eval e X.env)::starEach es X.env:=by rfl) (kn:(backTo pos (starEach es X.env)).any (·.1)=false:=by rfl) :
   PE (X.wish (Fly X R)) (.Call (.Name x p) (e::es) [] pos) (RK (spX K ps.length S) R t):=by subst hK hP hw mr vA;exact aI h hr hg ha cg he kn
structure HasR (P:Program) (w:World) (K:Frg) (mg:Str->Option Value) (base:Heap) (x fn:Str) (C S:Addr):Prop where
 ex:∃(f:Addr) (fd:FuncData) (ps:List Str),XCls K C S (.ref f)/\b3Q K (.ref f)=true/\FnOk P w K mg base CX0 1 f fd ps (D8 C fn)/\Binds K fd ps []/\mg x=some (.ref C)
theorem l7 (X:Cx) (R:Rx) {x fn:Str}{C S:Addr}{arg:Expr}{t:TA}{np ah pos:Pos}(hK:X.K=K) (hP:X.prog=P) (hw:X.w=w) (mr:X.mg=mg) (vA:X.base=base) (h:HasR P w K mg base x fn C S) (hr:Room 2 X.A) (hg:Gl X x) (ha:PA (X.wish (Fly X R)) [arg] t) (cg:(x==("__debug__":Str))=false:=by decide) (he:starEach [arg] X.env=[(false,eval arg X.env)]:=by rfl) :
   PS (X.wish (Fly X R)) (.Raise (some (.Call (.Name x np) [arg] [] ah)) none pos) (RO C fn R t):=by subst hK hP hw mr vA;obtain⟨f,fd,ps,c,hf,F,hb,hm⟩:=h.ex;exact aE c hf F hb hr hg hm ha cg he
structure HasN (K:Frg) (mg:Str->Option Value) (x:Str) (C S:Addr):Prop where
 c:XCls K C S (.builtin "ValueError.__init__")
 at_:mg x=some (.ref C)
theorem l9 (X:Cx) (R:Rx) {x:Str}{C S:Addr}{np ah pos:Pos}(hK:X.K=K) (mr:X.mg=mg) (h:HasN K mg x C S) (hh:X.A.handled=none) (hg:Gl X x) (cg:(x==("__debug__":Str))=false:=by decide) :
   PS (X.wish (Fly X R)) (.Raise (some (.Call (.Name x np) [] [] ah)) none pos) (RN C R):=by subst hK mr;exact aD h.c hg h.at_ hh cg
theorem YD {qual fn pn:Str}{st:Stmt}{f C S:Addr}{fd:FuncData}{p1 p2 p3 p4:Pos}(F:Fun K "__init__" qual st f fd) (Sc:FnScope ["self", pn] ["self", pn] (AC st)) (hb:B1 st=[.Assign [.Attribute (.Name "self" p1) fn p2] (.Name pn p3) p4]) (c:XCls K C S (.ref f)) (cs:XSet K C fn) (nd:(["self", pn]:List Str).Nodup) (hs:∀env:Env,swapsWith (.Name pn p3) (some (.Attribute (.Name "self" p1) fn p2)) p4.line env=pure false) (h0:∀X:Cx,X.N=(["self", pn]:List Str)->X.env.scope=AC st->PE X (.Name "self" p1) (SO 0)) (h1:∀X:Cx,X.N=(["self", pn]:List Str)->X.env.scope=AC st->PE X (.Name pn p3) (SO 1)):FnOk P w K mg base CX0 1 f fd ["self", pn] (D8 C fn):=by refine F.ok Sc (λvs H Q E ⟨e,v,t,h,_⟩=>by rw[h];rfl) λcdv A outer s H vs Q E hr ⟨e,v,t,ev,he,hq⟩=>?_;subst ev;rw[hb];refine⟨_,LL (Y9 (C:=C) (S:=S) (fn:=fn) c cs (h0 _ rfl rfl) (h1 _ rfl rfl) (hs _)),?_⟩;exact⟨v,rfl,.ref e,rfl,e,t,rfl,he,λd hd au=>hq d hd au⟩
end
end DL
namespace DL
open PySem PySem.Spec L2
section
variable {K:Frg}{ρ:List (Option DS)}{M:Own}{H:Hp}{Q:DS->Own->Prop}{QI:List PyData->Own->Prop}{tl td ty tx:TE}{D:EndsD}{t:TS}
theorem WO {i:Nat}{a:Addr}{kvs:List (PyData×PyData)}(e:ρ[i]?=some (some (.loc a))) (m:M a=some (.d kvs)) (h:DSt K t (ρ.set i (some (.d (.dict kvs)))) (M.del a) D):DSt K t ρ M D:=λσ H E R k1 k2 k3 k4=>by
 have hs:(M.del a).Sub M:=λb o q=>by
   unfold Own.del at q;by_cases hb:b=a;. rw[if_pos hb] at q;cases q
   . rw[if_neg hb] at q;exact q
 have st:Step K M (M.del a) H H:=⟨AV hs⟩
 obtain⟨v,e1,e2⟩:=R.slot i _ e;obtain⟨vs,q1,q2⟩:=R.own a _ m;have R1:Rel K (M.del a) ρ σ H:=R.step (R.own.sub hs) st;have R2:=R1.set (x:=.d (.dict kvs)) (v:=v) (by
   unfold SI DV;refine⟨a,vs,e2,(λw=>w (by unfold Own.del;rw[if_pos rfl])),.inl q1,q2.grow (AV hs)⟩) i;have e3:σ.set i (some v)=σ:=by
   apply b0V;intro j;rw[b0W];by_cases bc:i=j
   . subst bc;rw[if_pos rfl,e1];split;. rfl
     . rename_i hl;rw[a3Z (by lia)] at e1;cases e1
   . rw[if_neg bc]
 rw[e3] at R2;exact h σ H E R2 (λa b c d e f g=>k1 a b c d e (st.trans f) g) (λa b c d e f g q=>k2 a b c d e f (st.trans g) q) (λa b c d e f g=>k3 a b c d e (st.trans f) g) (λa b c d e f g=>k4 a b c d e (st.trans f) g)
end
end DL
namespace XC
open PySem PySem.Spec L2
open PyProof.Rows (envOfC AllBare)
theorem aJ {X:Cx}{pins:List (Addr×Obj)}{σ:St}{H:Hp}{s:Shared}{a:Addr}{o:HO}(I:Inv X pins σ H s) (hn:H a=none) (ha:X.s₀.heap.objs.size<=a) (hl:a≠X.env.locals) (hc:∀x c,X.env.cells.lookup x=some c->c≠a) (hp:∀p∈X.pn++pins,p.1≠a) (new:ObjOk X.prog X.w (upd H a o) s.heap a o):Inv X pins σ (upd H a o) s:=by
 have B:=I.base;have sm:∀b u,H b=some u->upd H a o b=some u:=λb u q=>by rw[AG (λz=>by rw[z,hn] at q;cases q)];exact q
 have ne:∀b u,X.s₀.heap.get? b=some u->b≠a:=λb u q z=>by rw[z] at q;exact absurd (zP (zM q) ha) (yF _)
 refine⟨I.ok,I.os,I.bare,⟨B.keep,B.slot,λb u q n hx=>by rw[AG (ne b u q)];exact B.free b u q n hx,B.there,λb xs q=>sm _ _ (B.tups b xs q),λb u xs q=>sm _ _ (B.frzs b u xs q),λb ps q=>?_⟩,I.loc,I.cell,by rw[AG hl.symm];exact I.free,λx c q=>by rw[AG (hc x c q)];exact I.freeC x c q,λp hq=>?_,λb u q=>?_,I.len⟩;. obtain⟨m,q'⟩:=B.tbls b ps q;exact⟨m,sm _ _ q'⟩
 . obtain⟨a1,a2,a3⟩:=I.pin p hq;exact⟨a1,by rw[AG (hp p hq)];exact a2,a3⟩
 . by_cases z:b=a;. subst z;rw[AF] at q;cases q;exact new
   . rw[AG z] at q;exact(I.hok b u q).stay (λ_ _ _ q=>q) (λc q=>sm _ _ q) λc xs q=>sm _ _ q
theorem LX {X:Cx}{pins:List (Addr×Obj)}{σ:St}{H:Hp}{s:Shared}{M:Model}{A:Around}{E:Value->Shared->Prop}{i:Nat}{x:Str}{pos:Pos}{Q:Unit->Shared->Prop}(I:Inv X pins σ H s) (hN:X.N.Nodup) (hi:X.N[i]?=some x) (hk:X.env.kindOf x=some .local) (h:∀s',Inv X pins (σ.set i none) H s'->Q () s'):wpAny M A (do bindName X.env x .none;unbindBehindTheSuite X.env x pos) Q E s:=by
 obtain⟨m,hn,hl⟩:=id I.loc;have ug:(X.env.scope.kind==.class||(X.env.scope.kind==.module&&X.env.locals != X.env.globals))=false:=by rw[I.ok.kind];rfl
 have cne:=I.cne;refine wpAny_nameGoes_keeps hk hn ug λh' v vo hs=>?_;obtain⟨oL,_,_,v_,_⟩:=id hn;refine h _ ⟨I.ok,I.os,I.bare,⟨λb o e n hb hx=>?_,λb o e n hb hx=>?_,I.base.free,λb o e hx=>?_,I.base.tups,I.base.frzs,I.base.tbls⟩,⟨_,vo,λj y v' e1 e2 e3=>?_⟩,λy c e=>?_,I.free,I.freeC,λp hp=>?_,λb ob e=>?_,by rw[b0Q];exact I.len⟩;. exact(hs.2 b (zC (zP (zM e) I.ok.above))).trans (I.base.keep b o e n hb hx)
 . obtain⟨sl,e1⟩:=I.base.slot b o e n hb hx;exact⟨sl,(hs.2 b (zC (zP (zM e) I.ok.above))).trans e1⟩
 . obtain⟨o',e1⟩:=I.base.there b o e hx;exact⟨o',(hs.2 b (zC (zP (zM e) I.ok.above))).trans e1⟩
 . by_cases hj:j=i;. subst hj;rw[b0W] at e2;simp at e2
   . rw[b1Z (a5V hj)] at e2;obtain⟨u',r',q⟩:=hl j y v' e1 e2 e3;refine⟨u',r',?_⟩;rcases q with ⟨k,e⟩ | ⟨k,c,e,z⟩
     . refine .inl ⟨k,?_⟩;have:y≠x:=λe=>hj (MA hN e1 (e▸hi));simp[this,e]
     . exact .inr ⟨k,c,e,z.sameBut hs (cne y c e)⟩
 . obtain⟨w',z⟩:=I.cell y c e;exact⟨w',z.sameBut hs (cne y c e)⟩
 . obtain⟨e,n,ne,nf,d⟩:=I.pin p hp;exact⟨(hs.2 p.1 ne).trans e,n,ne,nf,d⟩
 . refine(I.hok b ob e).stay (λc w' hc q=>(hs.2 c ?_).trans q) (λ_ q=>q) λ_ _ q=>q;rintro rfl;rcases hc with rfl | hc;. rw[I.free] at e;cases e
   . rw[I.free] at hc;cases hc
theorem qM {P:Program}{w:World}{H:Hp}{h:Heap}{a C:Addr}{dd:Option Addr}{ar:Value}{T:Option Addr}{fl:Value}(x:IJ h a (.ref C) dd ar T fl):ObjOk P w H h a (DL.exK a C dd):=by obtain⟨oe,vs,he,hc,hd,um,_⟩:=x;exact⟨⟨oe,vs,he,hc,hd,um⟩,⟨_,he⟩,λ_ _ ⟨o,v,a1,a2⟩ b=>⟨o,v,b _ a1,a2⟩⟩
def WP (K:Frg) (D:Addr) (i:Nat) (tb:(St->XK)->TS) (ts:TS):TS:=λD' σ H=>tb (λσ' cls dd H'=>∃C,cls = .ref C/\XM K C D /\∀a,H' a=none->ts { nx:=λσ2 H2=>D'.nx (σ2.set i none) H2,rt:=D'.rt,bk:=λσ2 H2=>D'.bk (σ2.set i none) H2,ct:=λσ2 H2=>D'.ct (σ2.set i none) H2 } (σ'.set i (some (.ref a))) (upd H' a (DL.exK a C dd))) D' σ H
theorem gA {X:Cx}{D:Addr}{i:Nat}{body:List Stmt}{b₀:Stmt}{lg:List Stmt}{x n:Str}{np lh pos:Pos}{tb:(St->XK)->TS}{ts:TS}(bo:X.stack=X.env::X.outer) (g_:X.env.frame=some X.env.locals) (hN:X.N.Nodup) (hi:X.N[i]?=some n) (hk:X.env.kindOf n=some .local) (hg:Gl X x) (hm:X.mg x=some (.ref D)) (hb:∀(pn:List (Addr×Obj)) (R:St->XK),PSs ((pinned X pn).wish (Fly (pinned X pn) R)) body (tb R)) (hs:∀a,PSs (FW X a) (b₀::lg) ts) (cg:(x==("__debug__":Str))=false:=by decide) :
   PS X (.Try body [.ExceptHandler (some (.Name x np)) (some n) (b₀::lg) lh] [] [] pos) (WP X.K D i tb ts):=by
 intro pins s σ H D' I h;have ok:=I.ok;refine wpAny_Try_except ?_;have bf:=hb (X.pn++pins) _ [] s σ H D' ((YA I).wish _) h;refine wpAny_mono bf (λf s1 q=>?_) λe s1 q=>?_
 . have q':=UD ok q.unwish;cases f with
   | next=>exact wpAny_execs_nil q'
   | ret v=>exact q'
   | brk=>exact q'
   | cont=>exact q'
 . obtain⟨a,T,cls,dd,ar,σ',H',fl,rfl,J,⟨x1,qj⟩,la,lT,lx,⟨C,rfl,xm,r⟩⟩:=q;have I1:=DU ok J;have fr:X.A.frames=some (X.env::X.outer):=by rw[<-bo];exact ok.frames
   have hl:s1.heap.FunFrames X.base (X.env::X.outer):=by rw[<-bo];exact I1.stack
   refine GM fr hl g_ x1 qj λh2 T' x2 n2 m2=>?_;have vE:(X.env::X.outer).filterMap (·.frame)=frs X.stack:=by rw[bo];rfl
   rw[vE] at m2;have lo:∀b,Loose (pinned X (X.pn++pins)) H' b->H' b=none/\X.s₀.heap.objs.size<=b/\b≠X.env.locals/\(∀x c,X.env.cells.lookup x=some c->c≠b)/\∀p∈X.pn++pins,p.1≠b:=λb l=>⟨l.fre,l.above,l.loc,l.cel,l.pn⟩
   have I2:Inv X pins σ' H' { s1 with heap:=h2 }:=B6 I1 m2 λb hb=>by
     rcases yX.mp hb with q | q;. rw[q];exact lo _ la
     . exact lo _ (lT b (by cases T with | none=>simp at q | some t=>simp at q;rw[q]))
   have k_:=lo _ (n2.elim (λz=>lT T' z) λz=>Loose.of (b:=T') J z.2 (J.hok.fresh z.2));refine FE (s:={ s1 with heap:=h2 }) x2 λh3 x3 m3=>?_;have I3:Inv X pins σ' H' { s1 with heap:=h3 }:=B6 (s:={ s1 with heap:=h2 }) (ch:=[T']) I2 (m3.mono (λb z=>absurd z (by simp)) λb z=>z) λb hb=>by
     have:b=T':=by simpa using hb
     rw[this];exact k_
   have I4:=NH I3 a;refine wpAny_handleBy_cons (codeAny_handlers_test (DB (X:=FW X a) I4 hg hm ?_ cg)) (by intro q;cases q);obtain⟨oe,vs,he,hc,_⟩:=id x3;refine xm _ _ _ _ { s1 with heap:=h3 } a oe _ I3.kIn he hc (codeAny_handlers_suite_as ?_);refine FE (s:={ s1 with heap:=h3 }) x3 λh4 x4 m4=>?_;have I5:Inv X pins σ' H' { s1 with heap:=h4 }:=B6 (s:={ s1 with heap:=h3 }) (ch:=[T']) I3 (m4.mono (λb z=>absurd z (by simp)) λb z=>z) λb hb=>by
     have:b=T':=by simpa using hb
     rw[this];exact k_
   obtain⟨q1,q2,q3,q4,q5⟩:=lo _ la;have I6:Inv X pins σ' (upd H' a (DL.exK a C dd)) { s1 with heap:=h4 }:=aJ I5 q1 q2 q3 q4 q5 (qM x4);have wj:Loc X.env.scope n:=.inl hk;refine GF (X:=X) I6 hN hi wj (v:=.ref a) (u:=.ref a) rfl (λs5 I7=>?_) (.inr hk);refine wpAny_mono (hs a pins s5 _ _ _ (NH I7 a) (r a q1)) (λf s' q=>?_) λ_ _ z=>a6Z z;have q':=aF ok q;cases f with
   | next=>obtain⟨σ2,H2,I8,z⟩:=q';exact LX I8 hN hi hk λs9 I9=>⟨_,_,I9,z⟩
   | brk=>obtain⟨σ2,H2,I8,z⟩:=q';exact LX I8 hN hi hk λs9 I9=>⟨_,_,I9,z⟩
   | cont=>obtain⟨σ2,H2,I8,z⟩:=q';exact LX I8 hN hi hk λs9 I9=>⟨_,_,I9,z⟩
   | ret u=>obtain⟨v,σ2,H2,I8,rv,z⟩:=q';exact LX I8 hN hi hk λs9 I9=>⟨v,_,_,I9,rv,z⟩
end XC
namespace DL
open PySem PySem.Spec L2 XC
section
variable {K:Frg}{ρ:List (Option DS)}{M:Own}{H:Hp}{σ:St}{D:EndsD}
theorem gB {a C:Addr}{dd:Option Addr}{fs:List (Str×PyData)}(oa:OA K H M) (h:H a=b3V) (hd:XI K H M.W dd fs) :
   OA K (upd H a (exK a C dd)) (M.put a (.x C fs))/\Step K M (M.put a (.x C fs)) H (upd H a (exK a C dd)):=by
 have g:Grow K M.W (M.put a (.x C fs)).W H (upd H a (exK a C dd)):=⟨λb u e _=>.inl (by rw[AG (AN e h)];exact e),λb w=>by
   by_cases hb:b=a;. subst hb;exact .inr h
   . left;unfold Own.W at w ⊢;rw[yH hb] at w;exact w⟩
 refine⟨λb o e=>?_,⟨g⟩⟩;by_cases ha:b=a;. subst ha;rw[zU] at e;cases e;exact⟨dd,AF,hd.grow g⟩
 . rw[yH ha] at e;have q:=oa b o e;cases o <;> (obtain⟨vs,q1,q2⟩:=q;exact⟨vs,by rw[AG ha];exact q1,q2.grow g⟩)
theorem Rel.unset (R:Rel K M ρ σ H) (i:Nat):Rel K M (ρ.set i none) (σ.set i none) H:=by
 refine⟨R.own,by rw[b0Q,b0Q];exact R.len,λj y e=>?_⟩;rw[b0W] at e ⊢;by_cases bc:i=j;. rw[if_pos bc] at e;split at e <;> cases e
 . rw[if_neg bc] at e ⊢;exact R.slot j y e
abbrev EndsD.gone (D:EndsD) (i:Nat):EndsD:={ nx:=λρ2 M2=>D.nx (ρ2.set i none) M2,rt:=D.rt,bk:=λρ2 M2=>D.bk (ρ2.set i none) M2,ct:=λρ2 M2=>D.ct (ρ2.set i none) M2 }
theorem gC {Da:Addr}{i:Nat}{tb:Rx->TS}{ts:TS}(h:∀R,DXt K R (tb R) ρ M D λρ' cls fs M'=>∃C,cls = .ref C/\XM K C Da/\∀a,M' a=none->DSt K ts (ρ'.set i (some (.loc a))) (M'.put a (.x C fs)) (D.gone i)):DSt K (WP K Da i tb ts) ρ M D:=λσ H E Rl k1 k2 k3 k4=>by
 refine h _ σ H E Rl k1 k2 k3 k4 λρ' cls fs M' σ' dd H' R' st xi ⟨C,e,xm,q⟩=>⟨C,e,xm,λa ha=>?_⟩
 obtain⟨o2,t2⟩:=gB (C:=C) R'.own ha xi;have R2:=(R'.step o2 t2).set (x:=.loc a) (v:=.ref a) rfl i;have s2:=st.trans t2;exact q a (R'.own.none ha) _ _ _ R2 (λa b c d e f g=>k1 _ b _ d (e.unset i) (s2.trans f) g) (λa b c d e f g q=>k2 a b c d e f (s2.trans g) q) (λa b c d e f g=>k3 _ b _ d (e.unset i) (s2.trans f) g) (λa b c d e f g=>k4 _ b _ d (e.unset i) (s2.trans f) g)
end
section
variable {P:Program}{w:World}{K:Frg}{mg:Str->Option Value}{base:Heap}
theorem qN (X:Cx) {D:Addr}{i:Nat}{body:List Stmt}{b₀:Stmt}{lg:List Stmt}{x n:Str}{np lh pos:Pos}{tb:Rx->TS}{ts:TS}(hK:X.K=K) (bo:X.stack=X.env::X.outer) (g_:X.env.frame=some X.env.locals) (hN:X.N.Nodup) (hi:X.N[i]?=some n) (hk:X.env.kindOf n=some .local) (hg:Gl X x) (hm:X.mg x=some (.ref D)) (hb:∀(pn:List (Addr×Obj)) (R:Rx),PSs ((pinned X pn).wish (Fly (pinned X pn) R)) body (tb R)) (hs:∀a,PSs (FW X a) (b₀::lg) ts) (cg:(x==("__debug__":Str))=false:=by decide) :
   PS X (.Try body [.ExceptHandler (some (.Name x np)) (some n) (b₀::lg) lh] [] [] pos) (WP K D i tb ts):=by subst hK;exact gA bo g_ hN hi hk hg hm hb hs cg
end
end DL
namespace XC
open PySem PySem.Spec L2
section
open PySem.W
variable {K:Frag}{prog:Program}{w:World}{A:Around}{E:Value->Shared->Prop}{s:Shared}{x D C:Addr}{ox:Obj}{vt:Option Obj}{name:Str}
structure XKit (K:Frag) (D:Addr):Prop where
 ga:findIn K (.ref D) "__getattribute__"=some (some (.builtin "BaseException.__getattribute__"))
 gg:findIn K (.ref D) "__getattr__"=some none
 hd:hasDictIn K D=true
 ca:findIn K (.ref D) "__class__"=some (some (.builtin "object.__class__"))
 gt:specialIn K (.builtin "object.__class__") "__get__"=some (some (.builtin "getset_descriptor.__get__"))
 tk:takesIn K (.builtin "object.__class__")=some true
 ob:mroIn K D (.type "object")=some true
 bx:mroIn K D (.type "BaseException")=some true
theorem gD {vM:Value}{Q:Unit->Shared->Prop}(X:K.In s.heap) (I:InstAt s.heap x ox D vt) (c:XKit K D) (hq:Q () s):wpAny (model prog w) A (checkBuiltinCall "BaseException.__getattribute__" ⟨[.ref x,vM],[]⟩) Q E s:=by
 have hk:builtinKind "BaseException.__getattribute__"=some .slot:=by decide +kernel
 have wl:splitId "BaseException.__getattribute__"=some ("BaseException", "__getattribute__"):=by decide +kernel
 have ha:=F.args_bexc_ga (.ref x) vM;have L0:=I.type (M:=model prog w);have L1:=looks_mroIn (M:=model prog w) X c.bx;simp only[checkBuiltinCall,hk,wl];refine zZ ?_;unfold isInstance;refine zZ (L0.at (L1.at ?_));repeat (first | assumption | wp_step)
theorem lA {tk:Tok}{R:Result->Shared->Prop}(X:K.In s.heap) (I:InstAt s.heap x ox D vt) (c:XKit K D) (h:wpAny (model prog w) A.in1 (Builtin.«object.__getattribute__» ⟨[.ref x,.str name tk],[]⟩) (λfin s'=>match fin with | .done f=>R (.ok f) s' | .again _=>False) (λe s'=>R (.error e) s') s) :
   codeAny (model prog w) A (.call (.builtin "BaseException.__getattribute__") ⟨[.ref x,.str name tk],[]⟩) R s:=by
 refine codeAny_call_builtin F.attr_ValueError.ga.plain F.entry_bexc_ga (gD X I c (wpAny_mono h (λfin s' z=>?_) λ_ _ z=>z));cases fin with
 | done f=>exact z
 | again c=>exact z.elim
theorem gE {tk:Tok}{fill expr:Bool}{Q:Value->Shared->Prop}(X:K.In s.heap) (I:InstAt s.heap x ox D vt) (c:XKit K D) (h:wpAny (model prog w) A.in1 (Builtin.«object.__getattribute__» ⟨[.ref x,.str name tk],[]⟩) (λfin s'=>match fin with | .done (.ret v)=>wpAny (model prog w) A (handedOut v) Q E s' | _=>False) (λ_ _=>False) s) :
   wpAny (model prog w) A (getAttrBy (.ref x) (.str name tk) fill expr) Q E s:=by
 have L0:=I.type (M:=model prog w);have L1:=looks_findIn (M:=model prog w) X c.ga;have L2:=looks_findIn (M:=model prog w) X c.gg;have xn:(expr&&onTheHeap (b6W "BaseException.__getattribute__"))=false:=by cases expr <;> rfl
 have Ih:(b6W "BaseException.__getattribute__" == b6W "object.__getattribute__")=false:=by decide +kernel
 have An:(onTheHeap (a0X D)&&b6W "BaseException.__getattribute__" == b6W "object.__getattribute__")=false:=by rw[Ih];rfl
 obtain⟨hh,g,d,t,os⟩:=s;unfold getAttrBy;refine wpAny_holding (zZ (L0.at (zZ (L1.at ?_))));simp only[An];unfold getAttrByItsOwn hookBefore;refine zZ ?_;rw[if_pos (show onTheHeap (a0X D)=true from rfl)];refine L2.at ?_;refine zZ (wpAny_attempt (wpAny_holding ?_));unfold callGetattribute;rw[if_neg (by rw[xn];decide)];unfold boundAndCalled;rw[F.attr_ValueError.ga.bind];refine zZ (zY ?_);refine wpAny_call (lA X I c (wpAny_mono h (λfin s' z=>?_) λ_ _ z=>z.elim));rcases fin with (_ | _ | _ | _) | _ <;> first | exact z | exact z.elim
theorem aK {tk:Tok}{v:Value}{P:Value->Shared->Prop}{E':Value->Shared->Prop}(X:K.In s.heap) (I:InstAt s.heap x ox D vt) (hf:findObj K D vt name=some (.value v)) (h:P v s) :
   wpAny (model prog w) A (Builtin.«object.__getattribute__» ⟨[.ref x,.str name tk],[]⟩) (λfin s'=>match fin with | .done (.ret v)=>P v s' | _=>False) E' s:=by obtain⟨Ii,g,d,t,os⟩:=s;have L0:=I.type (M:=model prog w);have L1:=looks_find (M:=model prog w) X I hf;refine zZ (zY (zZ (zY (zZ (L0.at (zZ (L1.at ?_)))))));exact zY h
theorem gF {tk:Tok}{g a:Value}{P:Value->Shared->Prop}{E':Value->Shared->Prop}(X:K.In s.heap) (I:InstAt s.heap x ox D vt) (hf:findObj K D vt name=some (.bind g a)) (h:wpAny (model prog w) A (call g [a,.ref x,.ref D]) P E' s) :
   wpAny (model prog w) A (Builtin.«object.__getattribute__» ⟨[.ref x,.str name tk],[]⟩) (λfin s'=>match fin with | .done (.ret v)=>P v s' | _=>False) E' s:=by obtain⟨Ii,gg,d,t,os⟩:=s;have L0:=I.type (M:=model prog w);have L1:=looks_find (M:=model prog w) X I hf;refine zZ (zY (zZ (zY (zZ (L0.at (zZ (L1.at ?_)))))));show wpAny _ _ (holding [a] (call g [a,.ref x,.ref D]) >>= ret) _ _ _;exact zZ (wpAny_holding (wpAny_mono h (λv s' z=>zY z) λ_ _ z=>z))
theorem gG {expr:Bool}{v:Value}{Q:Value->Shared->Prop}(X:K.In s.heap) (I:InstAt s.heap x ox D vt) (c:XKit K D) (hf:findObj K D vt name=some (.value v)) (hh:handedIn v=true) (h:Q v { s with toks:=s.toks+1 }) :
   wpAny (model prog w) A (getAttr (.ref x) name expr) Q E s:=by obtain⟨hp,g,d,t,os⟩:=s;unfold getAttr;refine zZ (wpAny_mkText (gE (s:=⟨hp,g,d,t+1,os⟩) X I c (aK (s:=⟨hp,g,d,t+1,os⟩) X I hf ?_)));rw[handedOut_of hh];exact zY h
theorem OG {a g:Value}(hc:(clsIn K C).isSome=true) (ha:findIn K (.ref C) name=some (some a)) (hg:specialIn K a "__get__"=some (some g)) (ht:takesIn K a=some true):findObj K C vt name=some (.bind g a):=by obtain⟨cd,hc⟩:=Option.isSome_iff_exists.mp hc;unfold findObj;rw[hc,Option.bind_some,ha,Option.bind_some];simp[hg,ht]
theorem UE (c:XKit K D):KitX K (.ref x) (.ref D) (λh=>∃ox od,InstAt h x ox D od) where
 ty:=λ_ _ _ ⟨_,_,I⟩=>I.type
 it:=λ_ _ X _=>by
   obtain⟨Ij,vD,_⟩:=any_some c.hd;unfold clsIn at vD;split at vD;. rename_i c' d' cd' vQ ho;intro A' Q' E' s' k q;unfold isType loadHead;exact zZ (wpAny_loadPart (k _ _ (X _ _ ho)) (zY q))
   . cases vD
 ne:=λh tp dd aa n sl X Ik=>by
   obtain⟨Ij,vD,_⟩:=any_some c.hd;refine Bool.eq_false_iff.mpr λq=>?_;have e:D=tp:=Value.ref.inj (beq_iff_eq.mp q);subst e;unfold clsIn at vD;split at vD;. rename_i c' d' cd' vQ ho;have z:=(X _ _ ho).symm.trans Ik;cases z
   . cases vD
 ca:=λ{prog w A E Q s} X ⟨ox,od,I⟩ k=>by have hf:findObj K D od "__class__"=some (.bind (.builtin "getset_descriptor.__get__") (.builtin "object.__class__")):=OG (by obtain⟨cd,hc,_⟩:=any_some c.hd;rw[hc];rfl) c.ca c.gt c.tk;obtain⟨hp,g,dr,t,os⟩:=s;unfold getAttr? getAttrBy?;refine zZ (wpAny_mkText (zZ (wpAny_attempt ?_)));refine gE (s:=⟨hp,g,dr,t+1,os⟩) X I c (gF (s:=⟨hp,g,dr,t+1,os⟩) X I hf ?_);exact wpAny_call (class_get (s:=⟨hp,g,dr,t+1,os⟩) (ox:=ox) (od:=od) X I c.ob (handed_on rfl (zY k)))
end
section
variable {X:Cx}{pins:List (Addr×Obj)}{σ:St}{H:Hp}{s:Shared}{a C:Addr}{dd:Option Addr}
def lB (H:Hp):Option Addr->Prop
 | none=>True
 | some d=>∃fs,H d=some (.xd fs)
theorem UF (I:Inv X pins σ H s) (e:H a=some (DL.exK a C dd)) (hd:lB H dd):∃ox od,PySem.W.InstAt s.heap a ox C od/\ox.dict=dd:=by
 obtain⟨o,vs,ho,hc,mx,um⟩:=(I.hok a _ e).1;have no:PySem.W.notCls o=true:=by unfold PySem.W.notCls;rw[um]
 cases dd with
 | none=>exact⟨o,none,⟨ho,hc,no,by rw[mx];trivial⟩,mx⟩
 | some d=> obtain⟨fs,q⟩:=hd;obtain⟨mA,⟨od,_,_,Ao,_⟩,_⟩:=I.hok d _ q;exact⟨o,some od,⟨ho,hc,no,by rw[mx];exact Ao⟩,mx⟩
def YE (K:Frg):List V->Hp->VK->Prop:=λxs H Q=>∃(a C:Addr) (dd:Option Addr) (c:V) (u:Value) (b:Bool),xs=[.ref a,c]/\H a=some (DL.exK a C dd)/\lB H dd/\XKit K C/\(∀u',RelV c u'->u'=u)/\a3W K (.ref C) u=some b/\Q (.bl b) H
theorem aL:B9 X (.builtin "isinstance") (YE X.K):=by
 intro pins s σ H vs us Q I r h;obtain⟨a,C,dd,c,u,b,rfl,e,hd,k,hu,hb,q⟩:=h;obtain⟨ua,uc,rfl,ra,rc⟩:∃ua uc,us=[ua,uc]/\RelV (.ref a) ua/\RelV c uc:=by cases r with | cons r1 r2=>cases r2 with | cons r3 r4=>cases r4;exact⟨_,_,rfl,r1,r3⟩
 cases (show ua=a0X a from ra);cases hu _ rc;obtain⟨ox,od,J,_⟩:=UF I e hd;exact a2J (UE k) I.kIn ⟨ox,od,J⟩ hb (λz=>nomatch z) λtk=>⟨.bl b,H,I.tok _,rfl,q⟩
end
end XC
namespace XC
open PySem PySem.Spec L2
section
variable {X:Cx}{pins:List (Addr×Obj)}{σ:St}{H:Hp}{s:Shared}{a C d:Addr}
theorem lC {fs:List (Str×V)}{f:Str}{v:V}{A:Around}{E:Value->Shared->Prop}{b:Bool}{Q:Value->Shared->Prop}(I:Inv X pins σ H s) (e:H a=some (DL.exK a C (some d))) (hd:H d=some (.xd fs)) (k:XKit X.K C) (n:JX X.K C f) (l:fs.lookup f=some v) (h:∀u s',Inv X pins σ H s'->RelV v u->Q u s'):wpAny (model X.prog X.w) A (getAttr (.ref a) f b) Q E s:=by
 obtain⟨o,vs,ho,hc,mx,um⟩:=(I.hok a _ e).1;have no:PySem.W.notCls o=true:=by unfold PySem.W.notCls;rw[um]
 obtain⟨mA,ns,hr⟩:=I.hok d _ hd;obtain⟨od,Ao,hl⟩:=OZ ns;have J:PySem.W.InstAt s.heap a o C (some od):=⟨ho,hc,no,by rw[mx];exact Ao⟩
 obtain⟨u,hu,ru⟩:=RelO.some_of (v:=v) (o:=mA f) (by rw[<-l];exact hr f);exact gG I.kIn J k (PySem.W.findObj_own k.hd n rfl (by rw[hl,hu])) (Z6 ru) (h u _ (I.tok _) ru)
def gH (K:Frg) (ta:TE) (f:Str):TE:=λσ H Q=>ta σ H λx H1=>∃a C d fs v,x = .ref a/\H1 a=some (DL.exK a C (some d))/\H1 d=some (.xd fs)/\XKit K C/\JX K C f/\fs.lookup f=some v/\Q v H1
theorem lD {e:Expr}{f:Str}{pos:Pos}{ta:TE}(he:PE X e ta) (hb:attributeBase e f X.env (eval e X.env)=eval e X.env):PE X (.Attribute e f pos) (gH X.K ta f):=by intro pins s σ H Q I h;refine iQ hb (thn (he pins s σ H _ I h) λu s1 ⟨x,H1,I1,rx,a,C,d,fs,v,ex,ea,ed,k,n,l,q⟩=>?_);subst ex;obtain rfl:u=a0X a:=rx;exact lC I1 ea ed k n l λu' s2 I2 ru=>⟨v,H1,I2,ru,q⟩
end
end XC
namespace DL
open PySem PySem.Spec L2 XC
section
variable {K:Frg}{ρ:List (Option DS)}{M:Own}{H:Hp}{Q:DS->Own->Prop}{ta:TE}
theorem XI.dd {W:Addr->Prop}{dd:Option Addr}{fs:List (Str×PyData)}(h:XI K H W dd fs):lB H dd:=by
 unfold XI at h;split at h;. trivial
 . obtain⟨v,_,q,_⟩:=h;exact⟨_,q⟩
 . exact h.elim
theorem lE {a C C':Addr}{fs:List (Str×PyData)}{b:Bool}(m:M a=some (.x C fs)) (k:XKit K C) (hb:a3W K (.ref C) (.ref C')=some b) (q:Q (.d (.bool b)) M):DR K (YE K) [.loc a,.loc C'] M Q:=λH vs QQ oa s kk=>by obtain⟨v,r,rfl,h1,v2,r2,rfl,h2,h3⟩:=s;cases h3;unfold SI at h1 h2;subst h1 h2;obtain⟨dd,e,xi⟩:=oa a _ m;exact⟨a,C,dd,.ref C',.ref C',b,rfl,e,xi.dd,k,(λu' z=>z),hb,kk _ _ (.d (.bool b)) M oa (by unfold SI DV;rfl) Step.refl q⟩
theorem gI {a C:Addr}{T:String}{fs:List (Str×PyData)}{b:Bool}(m:M a=some (.x C fs)) (k:XKit K C) (hb:a3W K (.ref C) (.type T)=some b) (q:Q (.d (.bool b)) M):DR K (YE K) [.loc a,.ty T] M Q:=λH vs QQ oa s kk=>by obtain⟨v,r,rfl,h1,v2,r2,rfl,h2,h3⟩:=s;cases h3;unfold SI at h1 h2;subst h1 h2;obtain⟨dd,e,xi⟩:=oa a _ m;exact⟨a,C,dd,.ty T,.type T,b,rfl,e,xi.dd,k,(λu' z=>z),hb,kk _ _ (.d (.bool b)) M oa (by unfold SI DV;rfl) Step.refl q⟩
theorem YF {f:Str}(h:DE K ta ρ M λx M1=>∃(a C:Addr) (d:PyData),x = .loc a/\M1 a=some (.x C [(f,d)])/\XKit K C/\JX K C f/\Q (.d d) M1):DE K (gH K ta f) ρ M Q:=λσ H QQ R kk=>
 h σ H _ R λv H1 x M1 o1 s1 t1 h1=>by
   obtain⟨a,C,d,rfl,m,k,n,q⟩:=h1;unfold SI at s1;subst s1;obtain⟨dd,e,xi⟩:=o1 a _ m;cases dd with
   | none=>exact xi.elim
   | some p=> obtain⟨u,nw,e2,dv⟩:=xi;exact⟨a,C,p,_,u,rfl,e,e2,k,n,by simp[List.lookup],kk _ _ (.d d) M1 o1 dv t1 q⟩
theorem tE {X:Cx}{K:Frg}(h:X.K=K):B9 X (.builtin "isinstance") (YE K):=h▸aL
theorem tF {X:Cx}{K:Frg}{e:Expr}{f:Str}{pos:Pos}{ta:TE}(h:X.K=K) (he:PE X e ta) (hb:attributeBase e f X.env (eval e X.env)=eval e X.env):PE X (.Attribute e f pos) (gH K ta f):=h▸lD he hb
end
end DL
namespace L2
open PySem PySem.Spec PyProof.Rows PySem.Builtin PySem.Builtin.Str
section
variable {prog:Program}{w:World}{A:Around}{E:Value->Shared->Prop}{s:Shared}{I l:Addr}{items:Array Value}
theorem aM:typeLookup (.type "list_reverseiterator") "__len__"=pure none:=by rw[typeLookup_type,builtinLookup_eq_fast];kernel_rfl
theorem gJ:typeLookup (.type "list_reverseiterator") "__length_hint__"=pure (some (.builtin "list_reverseiterator.__length_hint__")):=by rw[typeLookup_type,builtinLookup_eq_fast];kernel_rfl
theorem UG {Q:List Value->Shared->Prop}(hh:A.handled=none) (au:l≠I) (hit:s.heap.IsRevIter I l ((items.size:Int) - 1)) (hl:s.heap.IsList l items) (hn:items.size<=sizeLine) (hQ:∀s',(∀b o,b≠I->s.heap.get? b=some o->s'.heap.get? b=some o)->s'.gens=s.gens->s'.drawn=s.drawn->s'.os=s.os->Q items.toList.reverse s'):wpAny (model prog w) A (collect (.ref I)) Q E s:=by
 have W:=(Walks.listRev (prog:=prog) (w:=w) (A:=A.in1) hh I l au items).toS;have Ap:0<=items.size/\s.heap.IsRevIter I l ((items.size:Int) - 1 - ((0:Nat):Int))/\s.heap.IsList l items:=⟨xU _,by simpa using hit,hl⟩
 have hT:∀(i:Nat) (r:Shared),(i<=items.size/\r.heap.IsRevIter I l ((items.size:Int) - 1 - (i:Int))/\r.heap.IsList l items)->r.TypeIs (.ref I) "list_reverseiterator" := λi r x=>x.2.1.typeIs;have hI:I < s.heap.objs.size:=by obtain⟨o,ho,_⟩:=hit;exact zM ho
 have kr:l < s.heap.objs.size:=by obtain⟨o,ho,_⟩:=hl;exact zM ho
 have Il:s.heap.objs.size∉[I,l]:=λhm=>by
   rcases yX.mp hm with e | e;. exact a4J hI e
   . exact a4J kr (List.mem_singleton.mp e)
 have Im:s.heap.objs.size≠I:=a4J hI;unfold collect;refine zZ (wpAny_runValue (codeAny_builtin F.entry_proto_collect ?_));rw[Around.under_plainId F.plain_proto_collect _];show wpAny _ A.in1 (newList [] >>= λl=>again (.builtin "list.__iadd__" ⟨[l,.ref I],[]⟩)) _ _ s;refine zZ (xN (zY ⟨plainId_quiet F.plain_list_iadd _,codeAny_builtin F.entry_list_iadd ?_⟩));rw[Around.under_plainId F.plain_list_iadd _];have ur:=W.frame 0 s (s.heap.push { cls:=.type "list", data:=.seq ([]:List Value).toArray }) s.toks Ap (zR _) λb _ o e=>zW _ e;have Ip:(s.heap.push { cls:=.type "list", data:=.seq ([]:List Value).toArray }).get? s.heap.objs.size=some { cls:=.type "list", data:=.seq ([]:List Value).toArray }:=yZ _ rfl;have h1:Builtin.List.listSameRef (.ref s.heap.objs.size) (.ref I)=false:=by simp[Builtin.List.listSameRef,Im]
 show wpAny _ A.in1 (a8W (.ref s.heap.objs.size) (.ref I) (.ref s.heap.objs.size)) _ _ _;unfold a8W;refine zZ (wpAny_typeOf (hT 0 _ ur) ?_);rw[if_neg (by rw[h1];decide)];refine zZ (W.self 0 _ _ _ ur (zZ (wpAny_holding ?_)));unfold Builtin.List.listLengthHint;refine zZ (wpAny_specialOf (hT 0 _ ur) aM ?_);show wpAny _ A.in1 (specialOf (a0X I) (a0Q "__length_hint__") >>= _) _ _ _;refine zZ (wpAny_specialOf (hT 0 _ ur) gJ ?_);generalize hid:("list_reverseiterator.__length_hint__":String)=id0
 wp_delta
 rw[show splitId id0=some ("list_reverseiterator", "__length_hint__") from by subst hid;decide +kernel];subst hid;refine zZ (wpAny_isInstance (b:=true) (hT 0 _ ur) (by rw[isSubtype_type];kernel_rfl) (zY ?_));rw[if_neg (by decide)];refine zY ⟨plainId_quiet F.plain_extend_loop _,codeAny_extend_loopS W hn _ Il _ items.size 0 _ _ _ rfl (xU _) ur Ip (ItemsOf.nil _) λs' wm c' hm Iq qi=>?_⟩;show wpAny _ A (load s.heap.objs.size >>= _) _ _ s';refine zZ (wpAny_load Iq (zY ?_));have M:=Moved.drop_new (o:={ cls:=.type "list", data:=.seq ([]:List Value).toArray }) (tk:=s.toks) hm (zR _);have e:wm.toList=items.toList.reverse:=by
   refine b0V λi=>?_;by_cases hi:i < items.size
   . have h2:i < wm.size:=by rw[qi.1];exact hi
     have:=qi.2 i _ (b1J h2);rw[List.getElem?_reverse (by simpa using hi)];simp only[a5X,a9V];rw[b1J h2];exact this.symm
   . rw[a3Z (by simp[qi.1];lia),a3Z (by simp;lia)]
 show Q wm.toList s';rw[e];exact hQ s' (λb o hb eo=>M.heap b o (λh=>hb (List.mem_singleton.mp h)) eo) M.gens M.drawn M.os
end
end L2
namespace DL
open PySem PySem.Spec L2
section
variable {K:Frg}{M:Own}{ρ:List (Option DS)}{QI:List PyData->Own->Prop}
def KU (as:List PyData):List PyData:=as.zipIdx.map λp=>.tuple [.int (p.2:Nat),p.1]
end
end DL
theorem PyProof.Rows.boot_ValueError:PySem.bootBuiltins "ValueError"=some (.type "ValueError"):=by first | kernel_rfl | decide +kernel | rfl
namespace DL
open PySem PySem.Spec L2 XC
theorem lG {K:Frg}{ρ:List (Option DS)}{M:Own}{Q:DS->Own->Prop}{a:Addr}(h:Q (.loc a) M):DE K (tC (.ref a)) ρ M Q:=λσ H QQ R k=>k _ H (.loc a) M R.own rfl Step.refl h
theorem HasX.calm {P:Program}{w:World}{K:Frg}{mg:Str->Option Value}{base:Heap}{x:Str}{k:Nat}{ps:List Str}{S:FSpX}{S':FSp}(h:HasX P w K mg base x k ps S) (hp:∀xs M,S'.pre xs M->S.pre xs M/\(∀y M',S.post xs M y M'->S'.post xs M y M')/\∀cls fs M',¬S.xpost xs M cls fs M'):Has P w K mg base x k ps S':=by
 obtain⟨f,fd,F,hm,hk,hb⟩:=h.ex;refine⟨f,fd,⟨XO,λA outer s H args us vs Q E hr he yy hv hs=>?_⟩,hm,hk,hb⟩;obtain⟨xs,M,h0,oa,si,pre,q⟩:=hs;obtain⟨g1,g2,g3⟩:=hp xs M pre;refine xP (F.run A outer s H args us vs Q (λ_ _ _=>False) hr he yy hv ⟨xs,M,h0,oa,si,g1,λy M' v H' p1=>q y M' v H' (g2 y M' p1),λcls fs M' dd H' p1=>absurd p1 (g3 cls fs M')⟩) λr s' vX=>?_;cases r with
 | ok z=>cases z <;> first | exact vX | exact vX.elim
 | error e=> obtain⟨_,_,_,_,_,_,_,_,_,_,_,_,_,_,_,_,_,hf⟩:=vX;exact hf.elim
end DL
namespace DL
open PySem PySem.Spec L2
def Deed.must (D:Deed):List Str:=D.names.filter λn=>decide (¬D.made=some n)
end DL
namespace DL
open PySem PySem.Spec L2 XC
section
variable {M:Own}{Q:DS->Own->Prop}{w:List Th}{ls:List (Str×Deed)}
def CZ:FSp:=⟨λxs M=>∃D:Deed,xs=[.d D.d]/\D.real,λxs M y M'=>∀D:Deed,xs=[.d D.d]->y = .d (CH D.must)/\M'=M⟩
theorem aN {D:Deed}(hr:D.real) (q:Q (.d (CH D.must)) M):[DS.d D.d].length=1/\CZ.pre [.d D.d] M/\∀x M',CZ.post [.d D.d] M x M'->Q x M':=⟨rfl,⟨D,rfl,hr⟩,λx M' h=>by obtain⟨rfl,rfl⟩:=h D rfl;exact q⟩
end
end DL
namespace DL
open PySem PySem.Spec L2 XC
theorem JA (a b:Int):a1Z (.int a) (.int b)=decide (a=b):=by
 have:a1Z (.int a) (.int b)=(a==b):=by simp[a1Z]
 rw[this];rfl
end DL
namespace DL
open PySem PySem.Spec L2
theorem WQ {t:Th}(h:DZ t.1):zH (thD t)=true:=by
 refine CK ?_ ?_
 . exact MW (ds:=[.str t.1,.int t.2.1,.int t.2.2]) λd hd=>by
     simp only[yX,xX,or_false] at hd;rcases hd with rfl | rfl | rfl;. exact E1 h
     . rfl
     . rfl
 . simp[thD,a9K,a5W]
theorem aO {w:List Th}(h:EI w):zH (wD w)=true:=by
 refine CK (MW λd hd=>?_) ?_;. obtain⟨t,ht,rfl⟩:=zL.mp hd;exact zG (WQ (h.2 t ht).1)
 . have:a5W (w.map thD)<=3:=W5 λd hd=>by obtain⟨t,ht,rfl⟩:=zL.mp hd;simp[thD,a9K,a5W]
   simp only[wD,a9K];lia
theorem aP {D:Deed}(h:D.ok):zH D.d=true:=by
 have wk:b5X (.str D.word)=true:=zG D.word_ok;have nk:∀x∈D.names,b5X (.str x)=true:=λx hx=>E1 (h x hx);refine CK ?_ (by cases D <;> simp[Deed.d,a9K,a5W]);cases D <;> (refine MW ?_;simp only[List.forall_mem_cons])
 . exact⟨wk,nk _ (by simp[Deed.names]),rfl,rfl,by simp⟩
 . exact⟨wk,nk _ (by simp[Deed.names]),by simp⟩
 . exact⟨wk,nk _ (by simp[Deed.names]),rfl,by simp⟩
 . exact⟨wk,nk _ (by simp[Deed.names]),rfl,by simp⟩
 . exact⟨wk,nk _ (by simp[Deed.names]),nk _ (by simp[Deed.names]),by simp⟩
 . exact⟨wk,nk _ (by simp[Deed.names]),nk _ (by simp[Deed.names]),rfl,rfl,by simp⟩
 . exact⟨wk,nk _ (by simp[Deed.names]),nk _ (by simp[Deed.names]),by simp⟩
theorem NI {d:PyData}(h:zH d=true):a1Z d d=true:=PySem.SeqAt.eqv_refl _ (zG h)
end DL
namespace DL
open PySem PySem.Spec L2 XC
theorem HB {n k:Nat}{d:PyData}(h:(F8 0 ((n:Nat):Int).toNat)[k]?=some d):k < n/\d = .int (k:Int):=by
 have hl:k < n:=by have:=(yT.mp h).1;simpa [F8] using this
 refine⟨hl,?_⟩;unfold F8 at h;rw[zF,yA (by lia)] at h;simp at h;exact h.symm
theorem gK {n:Nat}{d:PyData}(h:d∈F8 0 ((n:Nat):Int).toNat):∃k:Nat,k < n/\d = .int (k:Int):=by obtain⟨k,hk,e⟩:=List.mem_iff_getElem.mp h;exact⟨k,HB (n:=n) (by rw[zV hk,e])⟩
theorem GN (n:Nat):(F8 0 ((n:Nat):Int).toNat).length=n:=by simp[F8]
end DL
namespace L2
open PySem PySem.Spec PyProof.Rows
section
variable {prog:Program}{w:World}{A:Around}{E:Value->Shared->Prop}{s:Shared}
theorem aQ {i t:Addr}{k:Nat}{items:Array Value}(hh:A.handled=none) (hx:items[k]?=none):NxE prog w A i (λh=>h.IsTupleIter i t k/\h.IsTuple t items):=λs Q E hS hE=>by
 obtain⟨hit,ht⟩:=hS;obtain⟨o,ho,hc,hd⟩:=id hit;obtain⟨ol,xt,wV,nl,pw⟩:=id ht;unfold a1J;refine zZ (wpAny_callSpecial?_slot (name:=a0Q "__next__") hit.typeIs a5Z (wpAny_call_entry a5Z hit.typeIs b5J ?_ (b4V _)));show wpAny _ _ (field (.ref i) 0 >>= _) _ _ s;refine zZ (wpAny_field ho hd (x:=.ref t) rfl ?_);show wpAny _ _ (if (a0X t==a0W)=true then _ else _) _ _ s;rw[if_neg (show ¬((a0X t==a0W)=true) from nft)];show wpAny _ _ (field (.ref i) 1 >>= _) _ _ s;refine zZ (wpAny_field ho hd (x:=.int k 0) rfl ?_);show wpAny _ _ (seqItems? (.ref t) >>= _) _ _ s;refine zZ (wpAny_seqItems xt pw ?_);simp only[a8J,hx];refine zZ (wpAny_rule (zZ (wpAny_setField ho hd (by simp) (zZ ?_))));simp only[newExc,newTuple];refine zZ (xN (zZ (m:=firstArgMember _ _) (wpAny_of_eq (a:=a0W) (by first | rfl | (simp only[firstArgMember];rfl)) (xN ?_ (by size_fits)))) (by size_fits));simp only[raiseNew];refine zZ (wpAny_handled ?_);first | rw[show A.in1.handled=none from hh] | rw[hh]
 exact zZ (zY (wpAny_throw (hE _ _ (((b3Z ..).extBut.push _).push _) ⟨_,yZ _ rfl,rfl⟩)))
end
end L2
namespace DL
open PySem PySem.Spec L2 XC
theorem gL {K:Frg}{ρ:List (Option DS)}{M:Own}{Q:DS->Own->Prop}(q:∀p,M p=none->Q (.loc p) (M.put p (.d (AJ [])))):DE K cA ρ M Q:=λσ H QQ R k p hp=>by obtain⟨Ir,Ap⟩:=MN (kvs:=[]) (ks:=[]) R.own hp (by unfold DKV;rfl);exact k _ _ (.loc p) _ Ir (by unfold SI;rfl) Ap (q p (R.own.none hp))
end DL
namespace DL
open PySem PySem.Spec L2 XC
section
variable {M:Own}{Q:DS->Own->Prop}{ys:List Str}{w:List Th}{D:Deed}{p:Addr}{L:List Int}
def HP (x:Int):Nat:=97+(x % 26).toNat
def tG (u:Int):PyData->PyData
 | .int k=>.str ⟨#[HP (u/(1+5*k))]⟩
 | d=>d
def FX (u:Int):List Nat:=(a1V 8).map λk:Nat=>HP (u/(1+5*(k:Int)))
theorem gM (v:Int):atI (a0Q "abcdefghijklmnopqrstuvwxyz").cps.toList (v % 26)=some (HP v):=by
 have h0:0<=v % 26:=a4Q _ (by decide);have h1:v % 26 < 26:=a7W _ (by decide);unfold HP;generalize v % 26=m at h0 h1;obtain⟨n,rfl⟩:∃n:Nat,m=(n:Int):=⟨m.toNat,by lia⟩
 have hn:n < 26:=by lia
 rw[a8J];refine AA ?_;have key:∀n:Fin 26,(a0Q "abcdefghijklmnopqrstuvwxyz").cps.toList[n.1]?=some (97+n.1):=by decide +kernel
 exact key ⟨n,hn⟩
theorem UH (x:Int):G6 (HP x)=true:=by have h0:0<=x % 26:=a4Q _ (by decide);have h1:x % 26 < 26:=a7W _ (by decide);unfold G6 HP;rw[a0V,decide_eq_true_iff,decide_eq_true_iff];lia
def z18 (u:Int):Str:=⟨(FX u).toArray⟩
theorem gN (u:Int):(z18 u).cps.toList=FX u:=rfl
theorem NJ (u:Int):(z18 u).length=8:=rfl
theorem IK (u:Int):(FX u).length=8:=rfl
def FF (u x:Int) (k:Nat):Str:=if x/8 % 2=0 then (⟨#[HP (x/16+(k:Int))]⟩:Str)++b0J (z18 u) none (some (x/16 % 8)) else b0J (z18 u) none (some (1+(x+(k:Int)) % 8))
theorem n5 (u:Int) {m:Int}(h0:0<=m):(b0J (z18 u) none (some m)).cps.toList=(FX u).take m.toNat:=by
 obtain⟨n,rfl⟩:∃n:Nat,m=(n:Int):=⟨m.toNat,by lia⟩
 rw[W3,gN,a8J]
theorem KC (u x:Int) (k:Nat):(FF u x k).cps.toList=if x/8 % 2=0 then HP (x/16+(k:Int))::(FX u).take (x/16 % 8).toNat else (FX u).take (1+(x+(k:Int)) % 8).toNat:=by
 unfold FF;split;. rw[OE,n5 u (a4Q _ (by decide))];rfl
 . have:=a4Q (x+(k:Int)) (b:=8) (by decide);rw[n5 u (by lia)]
theorem aR (u x:Int) (k:Nat):DZ (FF u x k):=by
 have hw:∀c∈FX u,G6 c=true:=λc hc=>by obtain⟨j,_,rfl⟩:=zL.mp hc;exact UH _
 have e:=KC u x k;have l8:=IK u;refine eF (λc hc=>?_) ?_ ?_
 . rw[e] at hc;split at hc
   . rcases yX.mp hc with rfl | hc;. exact UH _
     . exact hw c (List.mem_of_mem_take hc)
   . exact hw c (List.mem_of_mem_take hc)
 . rw[e];split;. simp
   . rw[a2Q];have:=a4Q (x+(k:Int)) (b:=8) (by decide);lia
 . rw[e];split;. rw[yR,a2Q];have:=a7W (x/16) (b:=8) (by decide);lia
   . rw[a2Q];lia
theorem gQ {u x:Int}{j k:Nat}(hj:j < 8) (hk:k < 8) (h:FF u x j=FF u x k):j=k:=by
 have e:(FF u x j).cps.toList=(FF u x k).cps.toList:=by rw[h]
 rw[KC,KC] at e;split at e;. have e1:=(List.cons.inj e).1;unfold HP at e1;lia
 . have e1:=congrArg b7J e;rw[a2Q,a2Q,IK] at e1;lia
theorem lH (u x:Int) {n:Nat}(hn:n<=6):BQ ((a1V n).map (FF u x)):=by
 refine⟨λz hz=>?_,?_,by rw[zX,xZ];lia⟩;. obtain⟨k,_,rfl⟩:=zL.mp hz;exact aR u x k
 . unfold List.Nodup;rw[b3J];refine List.pairwise_iff_getElem.mpr λi j hi hj bc e=>?_;rw[xZ] at hi hj;rw[List.getElem_range,List.getElem_range] at e;have:=gQ (by lia) (by lia) e;lia
theorem gR {w:List Th}{k:Nat}{t:Th}(xG:(w.map (·.1)).Nodup) (h:w[k]?=some t):DF (w.take k) t.1 t.2.1 t.2.2=w.take (k+1):=by
 unfold DF;rw[if_neg λq=>?_,b0K,h];. rfl
 . obtain⟨s,hs,e⟩:=List.any_eq_true.mp q;have e:=of_decide_eq_true e;obtain⟨i,hi,rfl⟩:=List.mem_iff_getElem.mp hs;rw[a2Q] at hi;rw[List.getElem_take] at e;obtain⟨hk,rfl⟩:=yT.mp h;have h2:=List.pairwise_iff_getElem.mp xG i k (by rw[zX];lia) (by rw[zX];exact hk) (by lia);rw[List.getElem_map,List.getElem_map] at h2;exact h2 e
def inT (ns:List Str):PyData->PyData | .str z=>.bool (decide (z∈ns)) | d=>d
theorem UI (ns l:List Str):(l.map a2W).map (inT ns)=(l.map λz=>decide (z∈ns)).map .bool:=by rw[zD,zD];rfl
theorem aS {ts:List Th}{x:Str}{p c:Int}:(DF ts x p c).length<=ts.length+1:=by
 unfold DF;split;. rw[zX];lia
 . rw[yY];exact zR _
theorem UJ {ts:List Th}{x n:Str}{p c:Int}(h:n≠x):AE (DF ts x p c) n=AE ts n:=by rw[FC,if_neg h]
theorem gS {a b:List Th}(h:tsO a=tsO b):a=b:=by
 have h1:AJ (tsD a)=AJ (tsD b):=MO.d.inj h;clear h;induction a generalizing b with
 | nil=>cases b with | nil=>rfl | cons _ _=>cases h1
 | cons x r ih=>cases b with
   | nil=>cases h1
   | cons y s=> simp only[AJ,tsD,pcD,zI,List.cons.injEq,Prod.mk.injEq,PyData.str.injEq,PyData.tuple.injEq,PyData.int.injEq,and_true] at h1;rw[ih (b:=s) (by simpa [AJ,tsD,pcD] using h1.2)];obtain⟨⟨e1,e2,e3⟩,_⟩:=h1;obtain⟨x1,x2,x3⟩:=x;obtain⟨y1,y2,y3⟩:=y;simp only at e1 e2 e3;rw[e1,e2,e3]
theorem tH (ns:List Str) (D:Deed):decide (AO ns D=none)=((D.must.map λz=>decide (z∈ns)).all id&&!((D.made.toList.map λz=>decide (z∈ns)).any id)):=by
 rw[a3X,decide_eq_true_iff,a0V,a4Z,Bool.not_eq_true',List.any_eq_false];constructor
 . intro h;have h:=CW h;refine⟨λb hb=>?_,λb hb=>?_⟩;. obtain⟨z,hz,rfl⟩:=zL.mp hb;obtain⟨h1,h2⟩:=yL.mp hz;exact decide_eq_true ((h z h1).mpr (of_decide_eq_true h2))
   . obtain⟨z,hz,rfl⟩:=zL.mp hb;have hm:D.made=some z:=by simpa using hz
     have hn:z∈D.names:=by cases D <;> simp_all [Deed.made,Deed.names]
     have:=(h z hn)
     simp only[id,decide_eq_true_eq];exact λq=>this.mp q hm
 . rintro⟨h1,h2⟩;refine U8 λn hn=>⟨λq hm=>?_,λhm=>?_⟩
   . exact h2 _ (zL.mpr ⟨n,by simpa using hm,rfl⟩) (decide_eq_true q)
   . exact of_decide_eq_true (h1 _ (zL.mpr ⟨n,yL.mpr ⟨hn,decide_eq_true hm⟩,rfl⟩))
def stT (ns:List Str):PyData->Bool | .str z=>decide (z∈ns) | _=>false
def frT (ns:List Str) (d:PyData):Bool:=!stT ns d
theorem gT (ns l:List Str):((l.map a2W).filter (stT ns)).map id=(l.filter λz=>decide (z∈ns)).map .str:=by rw[List.map_id,xV];rfl
theorem gU (ns l:List Str):((l.map a2W).filter (frT ns)).map id=(l.filter λz=>!decide (z∈ns)).map .str:=by rw[List.map_id,xV];rfl
theorem UK (l:List Str):a1Z (.list (l.map a2W)) (.list [])=l.isEmpty:=by
 cases l with
 | nil=>rfl
 | cons a r=>simp[a1Z,PyData.eqvAll]
theorem UL {α:Type}{l:List α}(h:l.isEmpty=false):l≠[]:=by rintro rfl;cases h
def okX (L:List Int):Prop:=∀x∈L,0<=x/\x < 1000000000
def JB:FSp:=⟨λxs M=>∃(ns:List Int) (k:Nat),xs=[.d (.list (ns.map .int)),.d (.int k)],λxs M y M'=>M'=M/\∃c:Int,y = .d (.int c)⟩
theorem UM {ns:List Int}{k:Nat}(q:∀c:Int,Q (.d (.int c)) M):[DS.d (.list (ns.map .int)),.d (.int k)].length=2/\JB.pre [.d (.list (ns.map .int)),.d (.int k)] M/\∀x M',JB.post [.d (.list (ns.map .int)),.d (.int k)] M x M'->Q x M':=⟨rfl,⟨ns,k,rfl⟩,λx M' h=>by obtain⟨rfl,c,rfl⟩:=h;exact q c⟩
def EK:FSp:=⟨λxs M=>∃(c:Int) (n:Nat),xs=[.d (.int c),.d (.int n)]/\n<=200,λxs M y M'=>∀(c:Int) (n:Nat),xs=[.d (.int c),.d (.int n)]->M'=M/\∃L:List Int,y = .d (.list (L.map .int))/\L.length=n/\okX L⟩
theorem RP {c:Int}{n:Nat}(hn:n<=200) (q:∀L:List Int,L.length=n->okX L->Q (.d (.list (L.map .int))) M):[DS.d (.int c),.d (.int n)].length=2/\EK.pre [.d (.int c),.d (.int n)] M/\∀x M',EK.post [.d (.int c),.d (.int n)] M x M'->Q x M':=⟨rfl,⟨c,n,rfl,hn⟩,λx M' h=>by obtain⟨rfl,L,rfl,h1,h2⟩:=h c n rfl;exact q L h1 h2⟩
def nxX (L:List Int) (a n:Nat):List DS:=[.d (.list (L.map .int)),.d (.int a),.d (.int n)]
def HC:FSp:=⟨λxs M=>∃(L:List Int) (a n:Nat),xs=nxX L a n/\okX L/\a+1 < L.length/\n<=6/\L.length<=200,λxs M y M'=>∀(L:List Int) (a n:Nat),xs=nxX L a n->M'=M/\∃ys,y = .d (CH ys)/\BQ ys/\ys.length=n⟩
theorem RQ {a n:Nat}(h:okX L) (ha:a+1 < L.length) (hn:n<=6) (hl:L.length<=200) (q:∀ys,BQ ys->ys.length=n->Q (.d (CH ys)) M):(nxX L a n).length=3/\HC.pre (nxX L a n) M/\∀x M',HC.post (nxX L a n) M x M'->Q x M':=⟨rfl,⟨L,a,n,rfl,h,ha,hn,hl⟩,λx M' hh=>by obtain⟨rfl,ys,rfl,h1,h2⟩:=hh L a n rfl;exact q ys h1 h2⟩
def FG:FSp:=⟨λxs M=>∃x:Int,xs=[.d (.int x)]/\0<=x/\x < 1000000000,λxs M y M'=>M'=M/\∃v:Int,y = .d (.int v)/\0<=v/\v<=999⟩
theorem JC {x:Int}(h:0<=x/\x < 1000000000) (q:∀v:Int,0<=v->v<=999->Q (.d (.int v)) M):[DS.d (.int x)].length=1/\FG.pre [.d (.int x)] M/\∀y M',FG.post [.d (.int x)] M y M'->Q y M':=⟨rfl,⟨x,rfl,h⟩,λy M' hh=>by obtain⟨rfl,v,rfl,h1,h2⟩:=hh;exact q v h1 h2⟩
def E6:FSp:=⟨λxs M=>∃x:Int,xs=[.d (.int x)]/\0<=x/\x < 1000000000,λxs M y M'=>M'=M/\∃v:Int,y = .d (.int v)/\-1000000000000<=v/\v<=1000000000000⟩
theorem HQ {x:Int}(h:0<=x/\x < 1000000000) (q:∀v:Int,-1000000000000<=v->v<=1000000000000->Q (.d (.int v)) M):[DS.d (.int x)].length=1/\E6.pre [.d (.int x)] M/\∀y M',E6.post [.d (.int x)] M y M'->Q y M':=⟨rfl,⟨x,rfl,h⟩,λy M' hh=>by obtain⟨rfl,v,rfl,h1,h2⟩:=hh;exact q v h1 h2⟩
def JD:FSp:=⟨λxs M=>∃(ys:List Str) (x:Int),xs=[.d (CH ys),.d (.int x)]/\ys≠[]/\ys.length<=60,λxs M y M'=>∀(ys:List Str) (x:Int),xs=[.d (CH ys),.d (.int x)]->M'=M/\∃z,y = .d (.str z)/\z∈ys⟩
theorem B4 {x:Int}(h:ys≠[]) (hl:ys.length<=60) (q:∀z∈ys,Q (.d (.str z)) M):[DS.d (CH ys),.d (.int x)].length=2/\JD.pre [.d (CH ys),.d (.int x)] M/\∀y M',JD.post [.d (CH ys),.d (.int x)] M y M'->Q y M':=⟨rfl,⟨ys,x,rfl,h,hl⟩,λy M' hh=>by obtain⟨rfl,z,rfl,h1⟩:=hh ys x rfl;exact q z h1⟩
def NK (L:List Int) (a:Nat) (ys:List Str):List DS:=[.d (.list (L.map .int)),.d (.int a),.d (CH ys)]
def YG (ys:List Str) (w:List Th):Prop:=sY w/\∀t∈w,t.1∈ys
def HD:FSp:=⟨λxs M=>∃(L:List Int) (a:Nat) (ys:List Str),xs=NK L a ys/\okX L/\a+ys.length < L.length/\L.length<=200/\BQ ys/\ys.length<=6,λxs M y M'=>∀(L:List Int) (a:Nat) (ys:List Str),xs=NK L a ys->M'=M/\∃w,y = .d (wD w)/\YG ys w⟩
theorem RR {a:Nat}(h:okX L) (ha:a+ys.length < L.length) (hl:L.length<=200) (hn:BQ ys) (h6:ys.length<=6) (q:∀w,YG ys w->Q (.d (wD w)) M):(NK L a ys).length=3/\HD.pre (NK L a ys) M/\∀x M',HD.post (NK L a ys) M x M'->Q x M':=⟨rfl,⟨L,a,ys,rfl,h,ha,hl,hn,h6⟩,λx M' hh=>by obtain⟨rfl,w,rfl,h1⟩:=hh L a ys rfl;exact q w h1⟩
structure There (ys:List Str) (w:List Th):Prop where
 nd:(w.map (·.1)).Nodup
 sub:∀t∈w,t.1∈ys
def FH:FSp:=⟨λxs M=>∃w:List Th,xs=[.d (wD w)]/\(w.map (·.1)).Nodup/\w.length < 60,λxs M y M'=>∀w:List Th,xs=[.d (wD w)]->∃p,M p=none/\y = .loc p/\M'=M.put p (tsO w)⟩
theorem JE (h:(w.map (·.1)).Nodup) (hl:w.length < 60) (q:∀p,M p=none->Q (.loc p) (M.put p (tsO w))):[DS.d (wD w)].length=1/\FH.pre [.d (wD w)] M/\∀x M',FH.post [.d (wD w)] M x M'->Q x M':=⟨rfl,⟨w,rfl,h,hl⟩,λx M' hh=>by obtain⟨p,h1,rfl,rfl⟩:=hh w rfl;exact q p h1⟩
def GO:FSp:=⟨λxs M=>∃D:Deed,xs=[.d D.d]/\D.real,λxs M y M'=>∀D:Deed,xs=[.d D.d]->y = .d (CH D.made.toList)/\M'=M⟩
theorem UN (h:D.real) (q:Q (.d (CH D.made.toList)) M):[DS.d D.d].length=1/\GO.pre [.d D.d] M/\∀x M',GO.post [.d D.d] M x M'->Q x M':=⟨rfl,⟨D,rfl,h⟩,λx M' hh=>by obtain⟨rfl,rfl⟩:=hh D rfl;exact q⟩
def ddX (L:List Int) (a:Nat) (ys:List Str) (p:Addr):List DS:=[.d (.list (L.map .int)),.d (.int a),.d (CH ys),.loc p]
def BU (ys:List Str) (D:Deed):Prop:=D.real/\∀x∈D.names,x∈ys
def GP:FSp:=⟨λxs M=>∃(L:List Int) (a:Nat) (ys:List Str) (p:Addr) (w:List Th),xs=ddX L a ys p/\okX L/\a+4 < L.length/\L.length<=200/\BQ ys/\2<=ys.length/\ys.length<=6/\M p=some (tsO w),λxs M y M'=>∀(L:List Int) (a:Nat) (ys:List Str) (p:Addr),xs=ddX L a ys p->M'=M/\∃D:Deed,y = .d D.d/\BU ys D⟩
theorem UO {a:Nat}(h:okX L) (ha:a+4 < L.length) (hl:L.length<=200) (hn:BQ ys) (h2:2<=ys.length) (h6:ys.length<=6) (m:M p=some (tsO w)) (q:∀D:Deed,BU ys D->Q (.d D.d) M):(ddX L a ys p).length=4/\GP.pre (ddX L a ys p) M/\∀x M',GP.post (ddX L a ys p) M x M'->Q x M':=⟨rfl,⟨L,a,ys,p,w,rfl,h,ha,hl,hn,h2,h6,m⟩,λx M' hh=>by obtain⟨rfl,D,rfl,h1⟩:=hh L a ys p rfl;exact q D h1⟩
def rwX (L:List Int) (a n:Nat) (ys:List Str) (p:Addr):List DS:=[.d (.list (L.map .int)),.d (.int a),.d (.int n),.d (CH ys),.loc p]
def LY:FSp:=⟨λxs M=>∃(L:List Int) (a n:Nat) (ys:List Str) (p:Addr) (w:List Th),xs=rwX L a n ys p/\okX L/\a+5*n<=L.length/\L.length<=200/\n<=12/\BQ ys/\2<=ys.length/\ys.length<=6/\M p=some (tsO w)/\There ys w,λxs M y M'=>∀(L:List Int) (a n:Nat) (ys:List Str) (p:Addr),xs=rwX L a n ys p->M'=M/\∃Ds:List Deed,y = .d (.tuple (Ds.map Deed.d))/\Ds.length<=n/\∀D∈Ds,BU ys D⟩
theorem WR {a n:Nat}(h:okX L) (ha:a+5*n<=L.length) (hl:L.length<=200) (xR:n<=12) (hn:BQ ys) (h2:2<=ys.length) (h6:ys.length<=6) (m:M p=some (tsO w)) (ht:There ys w) (q:∀Ds:List Deed,Ds.length<=n->(∀D∈Ds,BU ys D)->Q (.d (.tuple (Ds.map Deed.d))) M):(rwX L a n ys p).length=5/\LY.pre (rwX L a n ys p) M/\∀x M',LY.post (rwX L a n ys p) M x M'->Q x M':=⟨rfl,⟨L,a,n,ys,p,w,rfl,h,ha,hl,xR,hn,h2,h6,m,ht⟩,λx M' hh=>by obtain⟨rfl,Ds,rfl,h1,h3⟩:=hh L a n ys p rfl;exact q Ds h1 h3⟩
theorem lI {ys:List Str}(hn:BQ ys) {pl num:Int}(p0:0<=pl) (p1:pl<=999) {z:Str}(hz:z∈ys):BU ys (.put z pl num)/\BU ys (.take z)/\BU ys (.move z pl)/\BU ys (.count z num):=by
 have Iu:=hn.1 z hz;have one:∀{D:Deed},D.names=[z]->D.ok/\∀x∈D.names,x∈ys:=λ{D} e=>by
   refine⟨λx hx=>?_,λx hx=>?_⟩;. rw[e] at hx;rw[List.mem_singleton.mp hx];exact Iu
   . rw[e] at hx;rw[List.mem_singleton.mp hx];exact hz
 exact⟨⟨⟨(one rfl).1,trivial,p0,p1⟩,(one rfl).2⟩,⟨⟨(one rfl).1,trivial,trivial⟩,(one rfl).2⟩,⟨⟨(one rfl).1,trivial,p0,p1⟩,(one rfl).2⟩,⟨⟨(one rfl).1,trivial,trivial⟩,(one rfl).2⟩⟩
theorem lJ {ys:List Str}(hn:BQ ys) {pl num:Int}(p0:0<=pl) (p1:pl<=999) {o y:Str}(ho:o∈ys) (hy:y∈ys) (au:y≠o):BU ys (.name o y)/\BU ys (.split o y pl num)/\BU ys (.join o y):=by
 have two:∀{D:Deed},D.names=[o,y]->D.ok/\∀x∈D.names,x∈ys:=λ{D} e=>by
   have h:∀x∈D.names,x∈ys:=λx hx=>by
     rw[e] at hx;rcases yX.mp hx with q | q;. rw[q];exact ho
     . rw[List.mem_singleton.mp q];exact hy
   exact⟨λx hx=>hn.1 x (h x hx),h⟩
 exact⟨⟨⟨(two rfl).1,a5V au,trivial⟩,(two rfl).2⟩,⟨⟨(two rfl).1,a5V au,p0,p1⟩,(two rfl).2⟩,⟨⟨(two rfl).1,a5V au,trivial⟩,(two rfl).2⟩⟩
theorem RS {ys:List Str}(hn:BQ ys) (h2:2<=ys.length) (o:Str):(ys.filter λz=>!decide (z=o))≠[]:=by
 intro h;have all:∀z∈ys,z=o:=λz hz=>by have:=List.filter_eq_nil_iff.mp h z hz;simpa using this
 match ys,h2,hn,all with
 | a::b::r,_,hn,all=> have e:=(all a (by simp)).trans (all b (by simp)).symm;have:=hn.2.1;rw[xW] at this;exact this.1 (by rw[e];simp)
def neT (o:Str):PyData->Bool | .str z=>!decide (z=o) | _=>false
theorem NL (o:Str) (l:List Str):((l.map a2W).filter (neT o)).map id=(l.filter λz=>!decide (z=o)).map .str:=by rw[List.map_id,xV];rfl
theorem JF {M:Own}{a:Addr}{o:MO}:(M.put a o).del a=M.del a:=by funext b;unfold Own.del Own.put;by_cases h:b=a <;> simp[h]
theorem qO {M:Own}{a b:Addr}(h:b≠a):(M.del a) b=M b:=by unfold Own.del;rw[if_neg h]
theorem gV {M N:Own}{a:Addr}(h:M.Sub N) (n:N a=none):M a=none:=by
 cases e:M a with
 | none=>rfl
 | some o=>have:=h a o e;rw[n] at this;cases this
theorem UP {ys:List Str}{w:List Th}{D:Deed}(h:There ys w) (hg:goD w D) (hD:∀x∈D.names,x∈ys):There ys (doT w D):=by
 obtain⟨nd,hl⟩:=KA hg;refine⟨nd,λt ht=>?_⟩;have h1:t.1∈(doT w D).map (·.1):=zL.mpr ⟨t,ht,rfl⟩;rw[K9 hg.2.1 hg.2.2] at h1;have hw:∀z∈w.map (·.1),z∈ys:=λz hz=>by obtain⟨s,hs,rfl⟩:=zL.mp hz;exact h.sub s hs
 cases D with
 | put x p k=>rcases yW.mp h1 with q | q;exact hw _ q;exact hD _ (by simpa [Deed.names] using q)
 | take x=>exact hw _ (yL.mp h1).1
 | move x p=>exact hw _ h1
 | count x k=>exact hw _ h1
 | name x y=>rcases yW.mp h1 with q | q;exact hw _ (yL.mp q).1;exact hD _ (by rw[List.mem_singleton.mp q];simp[Deed.names])
 | split x y p k=>rcases yW.mp h1 with q | q;exact hw _ q;exact hD _ (by rw[List.mem_singleton.mp q];simp[Deed.names])
 | join x y=>exact hw _ (yL.mp h1).1
theorem gW:∀{l ys:List Str},l.Nodup->(∀z∈l,z∈ys)->l.length<=ys.length
 | [],_,_,_=>xU _
 | a::r,ys,hn,hs=>by rw[xW] at hn;have ha:=hs a (by simp);have:=gW (l:=r) (ys:=ys.erase a) hn.2 λz hz=>(List.mem_erase_of_ne (by rintro rfl;exact hn.1 hz)).mpr (hs z (yV _ hz));rw[List.length_erase_of_mem ha] at this;have:=List.length_pos_of_mem ha;rw[yR];lia
theorem There.few {ys:List Str}{w:List Th}(h:There ys w):w.length<=ys.length:=by
 have:=gW h.nd λz hz=>by obtain⟨t,h1,rfl⟩:=zL.mp hz;exact h.sub t h1
 rw[zX] at this;exact this
end
end DL
namespace L2
open PySem PySem.Spec PyProof.Rows
def WS:List V->Hp->VK->Prop:=λxs H Q=>∃(p:Addr) (kvs:List (Key×V)),xs=[.ref p]/\Rd H p (.dK kvs)/\∀q:Addr,H q=none->Q (.ref q) (upd H q (.dK kvs))
theorem WT {X:Cx}:B9 X (.type "dict") WS:=by intro pins s σ H xs us Q I r h;obtain⟨p,kvs,rfl,hp,q⟩:=h;obtain⟨u,rfl,ru⟩:=F3 r;cases ru;obtain⟨hz,Iv,vs,rel,hd⟩:=IU I.hok hp;have af:vs.length=kvs.length:=(Paired.length rel).symm;refine kt_call_dict Iv hd (by rw[af];exact hz) λh' mm sb=>?_;have hn:H s.heap.objs.size=none:=I.hok.fresh (zR _);have keep:∀b o,s.heap.get? b=some o->h'.get? b=some o:=λb o e=>sb.extBut b o (zC (zM e)) (zW _ e);refine⟨.ref s.heap.objs.size,_,I.laid (t':=s.toks) (o:=.dK kvs) keep (zR _) ?_,rfl,q _ hn⟩;exact MI hz (beq_eq_false_iff_ne.mpr (a5V (zC I.big))) rel mm
end L2
namespace DL
open PySem PySem.Spec L2
section
variable {X:Cx}{K:Frg}
theorem qP (h:X.K=K):B9 X (.type "dict") WS:=WT
end
section
variable {K:Frg}{M:Own}{ρ:List (Option DS)}{td ty:TE}{Q:DS->Own->Prop}
theorem gX (h:DE K ty ρ M λy M1=>DE K td ρ M1 λx M2=>∃(a:Addr) (ts:List (Str×PyData)) (k:Str),x = .loc a/\y = .d (.str k)/\M2 a=some (.d (AJ ts))/\Q (.d (.bool (!(CV ts k).isSome))) M2):DE K (XH ty td) ρ M Q:=λσ H QQ R kk=>
 h σ H _ R λv H1 x M1 o1 s1 t1 h1=>h1 σ H1 _ (R.step o1 t1) λu H2 y M2 o2 s2 t2 h2=>by
   obtain⟨a,ts,k,rfl,rfl,m,q⟩:=h2;unfold SI at s2;subst s2;rw[AX s1];obtain⟨ks,e1,e2⟩:=o2 a _ m;refine⟨a,EV ks (a1K k),rfl,.inl ⟨ks,a1K k,.inl e1,rfl,rfl⟩,kk _ H2 _ M2 o2 ?_ (t1.trans t2) q⟩;rcases C6 (k:=k) e2 with ⟨d',w',a1,a2,a3⟩ | ⟨a1,a2⟩
   . rw[a1,a2];exact AH
   . rw[a1,a2];exact AH
end
end DL
namespace DL
open PySem PySem.Spec L2 XC
section
variable {M:Own}{Q:DS->Own->Prop}
def HE:FSp:=⟨λxs M=>∃c:Int,xs=[.d (.int c)],λxs M y M'=>y = .d (.bool true)/\M'=M⟩
end
theorem QA {α:Type}{f:α->PyData}(hf:∀{a b},f a=f b->a=b):∀{l r:List α},l.map f=r.map f->l=r
 | [],[],_=>rfl
 | [],_::_,h=>by cases h
 | _::_,[],h=>by cases h
 | a::l,b::r,h=>by simp only[zI,List.cons.injEq] at h;rw[hf h.1,QA hf h.2]
theorem KW {a b:List Deed}(h:[DS.d (.tuple (a.map Deed.d))]=[.d (.tuple (b.map Deed.d))]):a=b:=by simp only[List.cons.injEq,DS.d.injEq,PyData.tuple.injEq,and_true] at h;exact QA C9 h
theorem RT {c:Int}{M:Own}{Q:DS->Own->Prop}(q:Q (.d (.bool true)) M):[DS.d (.int c)].length=1/\HE.pre [.d (.int c)] M/\∀x M',HE.post [.d (.int c)] M x M'->Q x M':=⟨rfl,⟨c,rfl⟩,λx M' hh=>by obtain⟨rfl,rfl⟩:=hh;exact q⟩
end DL
namespace DL
open PySem PySem.Spec L2
section
variable {K:Frg}{M:Own}{Q:DS->Own->Prop}{ρ:List (Option DS)}{td ty:TE}
def isTD (M:Own) (x:DS) (ts:List (Str×PyData)):Prop:=(∃a,x = .loc a/\M a=some (.d (AJ ts)))\/x = .d (.dict (AJ ts))
theorem isTD.o {M:Own}{a:Addr}{ts:List (Str×PyData)}(h:M a=some (.d (AJ ts))):isTD M (.loc a) ts:=.inl ⟨a,rfl,h⟩
theorem isTD.d {M:Own}{ts:List (Str×PyData)}:isTD M (.d (.dict (AJ ts))) ts:=.inr rfl
theorem isTD.put {M:Own}{x:DS}{ts:List (Str×PyData)}{a:Addr}{m:MO}(h:isTD M x ts) (ha:M a=none):isTD (M.put a m) x ts:=by
 rcases h with ⟨b,rfl,hb⟩ | rfl
 . exact .inl ⟨b,rfl,by rw[yH (by rintro rfl;rw[hb] at ha;cases ha)];exact hb⟩
 . exact .inr rfl
theorem YH (h:DE K ty ρ M λy M1=>DE K td ρ M1 λx M2=>∃(ts:List (Str×PyData)) (k:Str),isTD M2 x ts/\y = .d (.str k)/\Q (.d (.bool (CV ts k).isSome)) M2):DE K (oQ ty td) ρ M Q:=λσ H QQ R kk=>
 h σ H _ R λv H1 x M1 o1 s1 t1 h1=>h1 σ H1 _ (R.step o1 t1) λu H2 y M2 o2 s2 t2 h2=>by
   obtain⟨ts,k,hx,rfl,q⟩:=h2;rw[AX s1];obtain⟨a,ks,e0,e1,e2⟩:∃a ks,u = .ref a/\Rd H2 a (.dK ks)/\DKV K H2 M2.W (AJ ts) ks:=by
     rcases hx with ⟨a,rfl,m⟩ | rfl
     . unfold SI at s2;obtain⟨ks,e1,e2⟩:=o2 a _ m;exact⟨a,ks,s2,.inl e1,e2⟩
     . unfold SI DV at s2;obtain⟨a,ks,e0,nw,e1,e2⟩:=s2;exact⟨a,ks,e0,e1,e2⟩
   subst e0;refine⟨a,EV ks (a1K k),rfl,.inl ⟨ks,a1K k,e1,rfl,rfl⟩,kk _ H2 _ M2 o2 ?_ (t1.trans t2) q⟩;rcases C6 (k:=k) e2 with ⟨d',w',a1,a2,a3⟩ | ⟨a1,a2⟩
   . rw[a1,a2];exact AH
   . rw[a1,a2];exact AH
theorem gY {x:DS}{ts:List (Str×PyData)}(hx:isTD M x ts) (q:∀p,M p=none->Q (.loc p) (M.put p (.d (AJ ts)))):DR K WS [x] M Q:=λH vs QQ oa s k=>by
 obtain⟨v,r,rfl,h1,h2⟩:=s;cases h2;obtain⟨a,ks,e0,e1,e2⟩:∃a ks,v = .ref a/\Rd H a (.dK ks)/\DKV K H M.W (AJ ts) ks:=by
   rcases hx with ⟨a,rfl,m⟩ | rfl
   . unfold SI at h1;obtain⟨ks,e1,e2⟩:=oa a _ m;exact⟨a,ks,h1,.inl e1,e2⟩
   . unfold SI DV at h1;obtain⟨a,ks,e0,nw,e1,e2⟩:=h1;exact⟨a,ks,e0,e1,e2⟩
 subst e0;refine⟨a,ks,rfl,e1,λp hp=>?_⟩;obtain⟨o1,t1⟩:=MN oa hp e2;exact k _ _ (.loc p) _ o1 rfl t1 (q p (oa.none hp))
end
end DL
namespace DL
open PySem PySem.Spec L2 XC
section
variable {ys:List Str}{E:Eff}{g:Gt}{n:Str}{w a b:List Th}{D:Deed}
abbrev wQ (w:List Th):PyData:=.dict (AJ (tsD w))
end
end DL
namespace DL
open PySem PySem.Spec L2 XC
section
variable {K:Frg}{ρ:List (Option DS)}{td ty:TE}{M:Own}{Q:DS->Own->Prop}{ys:List Str}{w:List Th}{D:Deed}{p:Addr}{x:DS}{Ds:List Deed}{E:Eff}
theorem D0 (h:DE K td ρ M λx M1=>DE K ty ρ M1 λy M2=>∃(ts:List (Str×PyData)) (k:Str) (d:PyData),isTD M2 x ts/\y = .d (.str k)/\CV ts k=some d/\Q (.d d) M2):DE K (XG td ty) ρ M Q:=by
 intro σ H QQ R kk;refine h σ H _ R λv H1 x M1 o1 s1 t1 h1=>h1 σ H1 _ (R.step o1 t1) λu H2 y M2 o2 s2 t2 h2=>?_;obtain⟨ts,k,d,hx,rfl,l,q⟩:=h2;rw[AX s2];obtain⟨a,ks,rfl,e1,e2⟩:∃a ks,v = .ref a/\Rd H2 a (.dK ks)/\DKV K H2 M2.W (AJ ts) ks:=by
   rcases hx with ⟨a,rfl,m⟩ | rfl
   . unfold SI at s1;obtain⟨ks,e1,e2⟩:=o2 a _ m;exact⟨a,ks,s1,.inl e1,e2⟩
   . have vI:=s1.step t2;unfold SI DV at vI;obtain⟨a,ks,e0,nw,e1,e2⟩:=vI;exact⟨a,ks,e0,e1,e2⟩
 rcases C6 (k:=k) e2 with ⟨d',w',a1,a2,a3⟩ | ⟨a1,a2⟩
 . rw[l] at a1;cases a1;exact⟨a,w',rfl,.inl ⟨ks,a1K k,e1,rfl,a2.symm⟩,kk _ H2 (.d d) M2 o2 a3 (t1.trans t2) q⟩
 . rw[l] at a1;cases a1
theorem gZ {a b:List Th}(h:wQ a=wQ b):a=b:=gS (by unfold wQ at h;injection h with h;unfold tsO;rw[h])
theorem isTD.inj {a b:List Th}(h1:isTD M x (tsD a)) (h2:isTD M x (tsD b)):a=b:=by
 rcases h1 with ⟨p,rfl,m⟩ | rfl
 . rcases h2 with ⟨q,e,m2⟩ | e
   . injection e with e;subst e;rw[m] at m2;exact gS (Option.some.inj m2)
   . cases e
 . rcases h2 with ⟨q,e,m2⟩ | e
   . cases e
   . injection e with e;exact gZ e
def tdW (x:DS) (D:Deed):List DS:=[x,.d D.d]
def HF:FSp:=⟨λxs M=>∃(x:DS) (w:List Th) (D:Deed),xs=tdW x D/\isTD M x (tsD w)/\D.real,λxs M y M'=>∀(x:DS) (w:List Th) (D:Deed),xs=tdW x D->isTD M x (tsD w)->D.real->y = .d (.bool (decide (AO (w.map (·.1)) D=none)))/\M'=M⟩
theorem NM (m:isTD M x (tsD w)) (h:D.real) (q:Q (.d (.bool (decide (AO (w.map (·.1)) D=none)))) M):(tdW x D).length=2/\HF.pre (tdW x D) M/\∀y M',HF.post (tdW x D) M y M'->Q y M':=⟨rfl,⟨x,w,D,rfl,m,h⟩,λy M' hh=>by obtain⟨rfl,rfl⟩:=hh x w D rfl m h;exact q⟩
def FI:FSp:=⟨λxs M=>∃(x:DS) (w:List Th) (D:Deed),xs=tdW x D/\isTD M x (tsD w)/\goD w D/\w.length < 60,λxs M y M'=>∀(x:DS) (w:List Th) (D:Deed),xs=tdW x D->isTD M x (tsD w)->∃q,M q=none/\y = .loc q/\M'=M.put q (tsO (doT w D))⟩
theorem KY (m:isTD M x (tsD w)) (h:goD w D) (hl:w.length < 60) (q:∀r,M r=none->Q (.loc r) (M.put r (tsO (doT w D)))):(tdW x D).length=2/\FI.pre (tdW x D) M/\∀y M',FI.post (tdW x D) M y M'->Q y M':=⟨rfl,⟨x,w,D,rfl,m,h,hl⟩,λy M' hh=>by obtain⟨r,h1,rfl,rfl⟩:=hh x w D rfl m;exact q r h1⟩
def tI (M M1:Own) (x:DS) (w:List Th):Prop:=(M1=M/\x = .d (wQ w))\/∃r,M r=none/\M1=M.put r (tsO w)/\x = .loc r
theorem QC {t:TS}{D:EndsD}{i:Nat}{M1:Own}(h:tI M M1 x w) (e:ρ[i]?=some (some x)) (hd:DSt K t (ρ.set i (some (.d (wQ w)))) M D):DSt K t ρ M1 D:=by
 rcases h with ⟨rfl,rfl⟩ | ⟨r,hr,rfl,rfl⟩
 . have e2:ρ.set i (some (.d (wQ w)))=ρ:=by obtain⟨hi,e3⟩:=yT.mp e;rw[<-e3,List.set_getElem_self]
   rwa [e2] at hd
 . refine WO (i:=i) (a:=r) e zU ?_;rw[yG hr];exact hd
end
end DL
namespace L2
open PySem PySem.Spec PyProof.Rows
open AutoSeq1 (wpAny_loadPart')
section
variable {prog:Program}{w:World}{A:Around}{E:Value->Shared->Prop}{s:Shared}
theorem YI {it l:Addr}{i:Nat}{items:Array Value}(hh:A.handled=none) (hx:items[i]?=none):NxE prog w A it (λh=>h.IsTupleIter it l i/\h.IsTuple l items):=λs Q E hS hE=>by
 obtain⟨hit,ht⟩:=hS;obtain⟨o,ho,hc,hd⟩:=id hit;obtain⟨ol,xt,_,nl,pw⟩:=id ht;unfold a1J;refine zZ (wpAny_callSpecial?_slot (name:=a0Q "__next__") hit.typeIs a5Z (wpAny_call_entry a5Z hit.typeIs b5J ?_ (b4V _)));show wpAny _ _ (field (.ref it) 0 >>= _) _ _ s;refine zZ (wpAny_field ho hd (x:=.ref l) rfl ?_);show wpAny _ _ (if (a0X l==a0W)=true then _ else _) _ _ s;rw[if_neg (show ¬((a0X l==a0W)=true) from nft)];show wpAny _ _ (field (.ref it) 1 >>= _) _ _ s;refine zZ (wpAny_field ho hd (x:=.int i 0) rfl ?_);show wpAny _ _ (seqItems? (.ref l) >>= _) _ _ s;refine zZ (wpAny_seqItems xt pw ?_);simp only[a8J,hx];refine zZ (wpAny_rule (zZ (wpAny_setField ho hd (by simp) ?_)));show wpAny _ _ (newExc (.type "StopIteration") [] >>= _) _ _ _;refine zZ ?_;simp only[newExc,newTuple];refine zZ (xN ?_ (by size_fits));refine zZ (m:=firstArgMember _ _) (wpAny_of_eq (a:=a0W) (by first | rfl | (simp only[firstArgMember];rfl)) ?_);refine xN ?_ (by size_fits);simp only[raiseNew];refine zZ (wpAny_handled ?_);first | rw[show A.in1.handled=none from hh] | rw[hh]
 refine zZ (zY (wpAny_throw ?_));exact hE _ _ (((b3Z ..).extBut.push _).push _) ⟨_,yZ _ rfl,rfl⟩
theorem aT (hh:A.handled=none) (it l:Addr) (au:l≠it) (items:Array Value):Draws prog w A it [it,l] items.size (λi v=>items[i]?=some v) (λi h=>h.IsTupleIter it l i/\h.IsTuple l items) where
 live:=λ_ _ st=>let ⟨o,ho,_⟩:=st.1;⟨o,ho⟩
 frame:=λ_ _ _ st hk=>⟨st.1.at λo e=>hk it (by simp) o e,let ⟨o,e,r⟩:=st.2;⟨o,hk l (by simp) o e,r⟩⟩
 item:=λi s Q E hi st hQ=>eI au (y:=items[i]) (by simp[hi]) s Q E st λh' tk x e a b=>hQ x h' tk (by rw[e];simp[hi]) a b
 done:=λs Q E st hE=>YI hh (by simp) s Q E st hE
theorem aU {e it l:Addr}{i:Nat}{items:Array Value}{old:Value}{Q:Option Value->Shared->Prop}(hh:A.handled=none) (he:IsEnum s.heap e it i old) (hit:s.heap.IsTupleIter it l i) (hl:s.heap.IsTuple l items) (hx:items[i]?=none) (hQ:∀h',Heap.ExtBut it s.heap h'->Q none { s with heap:=h' }):wpAny (model prog w) A (pyNext (.ref e)) Q E s:=by have hT:s.TypeIs (.ref e) "enumerate" := ⟨_,he,rfl⟩;unfold pyNext;refine zZ (wpAny_attempt (wpAny_callSpecial?_slot (name:=a0Q "__next__") hT F.slot_enumerate_next (wpAny_call_entry F.slot_enumerate_next hT F.entry_enumerate_next ?_ (F.args_enumerate_next_1 _))));show wpAny _ _ (field (.ref e) 2 >>= _) _ _ _;refine zZ (wpAny_field he rfl (x:=.ref it) rfl (zZ (YI (A:=A.in1) hh hx _ _ _ ⟨hit,hl⟩ λh' x mw qf=>?_)));obtain⟨o,ho,hc⟩:=qf;exact zZ (wpAny_isInstance (T:= "StopIteration") (b:=true) ⟨o,ho,hc⟩ isSubtype_stop (zY (hQ _ mw)))
theorem UQ (l:Addr) (items:Array Value) :
   Meets (Builtin.«enumerate.__new__» ⟨[.type "enumerate", .ref l],[]⟩) (λ_ R s=>s.heap.IsTuple l items /\
     R (.ok (.ret (.ref (s.heap.push { cls:=.type "tuple_iterator", data:=.fields #[.ref l,.int 0 0] }).objs.size))) { s with heap:=(s.heap.push { cls:=.type "tuple_iterator", data:=.fields #[.ref l,.int 0 0] }).push { cls:=.type "enumerate", data:=.fields #[.none,.bool false,.ref s.heap.objs.size,rawInt 0,.none,.none] } }):=
 .of_wp λprog w A R s h=>by
   obtain⟨hp,g,d,tk,os⟩:=s;obtain⟨hL,h⟩:=h;have cf:=sub_enumerate;obtain⟨⟨c,Ks,dt,sl⟩,hl,hc,n,hd⟩:=id hL
   wp_walk using wpAny_loadPart' hl
   refine wpAny_stack_any λst=>zY ?_;split;. rename_i c _ _ _ _ _;cases (c==b6Q "enumerate") <;> (wp_walk using wpAny_loadPart' hl,wpAny_pyIter_tuple hL;exact⟨_,rfl,h⟩)
   . (wp_walk using wpAny_loadPart' hl,wpAny_pyIter_tuple hL;exact⟨_,rfl,h⟩)
theorem WU {l:Addr}{items:Array Value}{Q:Value->Shared->Prop}(hL:s.heap.IsTuple l items) (h:∀h',IsEnum h' (s.heap.objs.size+1) s.heap.objs.size 0 .none->h'.IsTupleIter s.heap.objs.size l 0 ->(∀b o,s.heap.get? b=some o->h'.get? b=some o)->Q (.ref (s.heap.objs.size+1)) { s with heap:=h' }) :
   wpAny (model prog w) A (call (.type "enumerate") [.ref l]) Q E s:=by
 refine callType_new F.called_enumerate (by decide) (F.typeCall_enumerate_1 _) (F.newCall_enumerate_1 _) (λobj=>F.args_object_init_2 obj _) F.entry_enumerate_new (UQ l items) ⟨hL,?_⟩;have hz:(s.heap.push { cls:=.type "tuple_iterator", data:=.fields #[.ref l,.int 0 0] }).objs.size=s.heap.objs.size+1:=a7V ..;show _/\_;rw[hz];have he:IsEnum ((s.heap.push { cls:=.type "tuple_iterator", data:=.fields #[.ref l,.int 0 0] }).push { cls:=.type "enumerate", data:=.fields #[.none,.bool false,.ref s.heap.objs.size,rawInt 0,.none,.none] }) (s.heap.objs.size+1) s.heap.objs.size 0 .none:=by have:=yZ (s.heap.push { cls:=.type "tuple_iterator", data:=.fields #[.ref l,.int 0 0] }) (o:={ cls:=.type "enumerate", data:=.fields #[.none,.bool false,.ref s.heap.objs.size,rawInt 0,.none,.none] }) rfl;rw[hz] at this;exact this
 exact⟨⟨_,he,rfl⟩,h _ he ⟨_,zW _ (yZ _ rfl),rfl,rfl⟩ λb o x=>zW _ (zW _ x)⟩
end
end L2
namespace L2
open PySem PySem.Spec PyProof.Rows
def tJ (K:Frg) (l:Addr):It:=⟨λi H=>∃xs,SqT K H l xs/\i < xs.length,
  λi H x H'=>∃p a,H p=none/\x = .ref p/\H'=upd H p (.tup [.int (i:Nat),a])/\∀xs,SqT K H l xs->xs[i]?=some a,
  λi H=>∃xs,SqT K H l xs/\xs.length<=i⟩
theorem WV {P:Program}{w:World}{K:Frg}{mz:List Expr}{kk:Nat}{kc:Pos}(e it l:Addr) (d1:e≠it) :
   Turn P w K (.Tuple mz kk kc) (tJ K l) [e,it] e (λi h=>(∃old,IsEnum h e it (i:Nat) old)/\h.IsTupleIter it l i) where
 mem:=by simp
 obj:=λi h ⟨⟨old,a1⟩,a2⟩ b hb=>by
   simp only[yX,xX,or_false] at hb;rcases hb with rfl | rfl;. exact⟨_,a1,λv q=>by cases q⟩
   . obtain⟨o,q,c,d⟩:=a2;exact⟨o,q,λv z=>by rw[d] at z;cases z⟩
 keep:=λi h h' ⟨⟨old,a1⟩,a2⟩ k=>⟨⟨old,k e (by simp) _ a1⟩,a2.at λo q=>k it (by simp) o q⟩
 item:=by
   intro X hP hw hK hc i pins s σ H E I hf ⟨⟨old,a1⟩,a2⟩ hg;subst hP hw hK;obtain⟨xs,hx,lx⟩:=hg;obtain⟨aa,rx,px,_⟩:=I.tuple hx;obtain⟨u,hu,ru⟩:=rx.get (zV lx);have hle:l≠e:=MY I (hf e (by simp)) hx;have Dc:l≠it:=MY I (hf it (by simp)) hx;have Kt:=rx.length;refine wpAny_pyNext_enum_itemD (aT (items:=aa.toArray) (A:=X.A.in1) (I.ok.hd hc) it l Dc) a1 ⟨a2,px⟩ (show i < aa.toArray.size by simp;lia) d1 (by simp;exact⟨d1,hle.symm⟩) λx h' tk ex b1 b2 b3 b4 hk=>?_;have ex:x=u:=by
     have:aa[i]?=some x:=by simpa using ex
     rw[hu] at this;exact(Option.some.inj this).symm
   subst ex;refine⟨_,rfl,wpAny_letOwnedTupleGo_enum (s:={ s with heap:=h',toks:=tk+1 }) b1 λh2 c1 sb=>?_⟩;have lt:∀{c o},s.heap.get? c=some o->s.heap.objs.size≠c:=λq=>a4J (zM q);have keep:∀b o,b∉[e,it]->s.heap.get? b=some o->h2.get? b=some o:=λb o hb q=>by simp only[yX,xX,or_false,not_or] at hb;exact sb.extBut b o hb.1 (hk b o hb.1 hb.2 q)
   have ub:s.heap.objs.size≠e:=lt a1;have I1:Inv X pins σ (upd H s.heap.objs.size (.tup [.int (i:Nat),xs[i]])) { s with heap:=h2,toks:=tk+1 }:=I.turnedT (t':=tk+1) (ch:=[e,it]) keep (λb hb=>(hf b hb).1) (λb hb=>let q:=hf b hb;⟨q.2.2.2.1,q.2.1,q.2.2.2.2.1,q.2.2.2.2.2⟩) (zR _) ⟨by show 2<=sizeLine;decide,[.int (i:Nat) tk,x],.cons ⟨_,rfl⟩ (.cons ru .nil),⟨_,sb.extBut _ _ ub b3,rfl,_,rfl⟩⟩;refine⟨.ref s.heap.objs.size,_,I1,rfl,⟨s.heap.objs.size,xs[i],I.hok.fresh (zR _),rfl,rfl,λKu qf=>?_⟩,⟨⟨_,c1⟩,let ⟨o,q,r⟩:=b2.1;⟨o,sb.extBut it o (a5V d1) q,r⟩⟩,λb hb=>?_⟩;. rw[I.tuple_inj qf hx];exact zV lx
   . have dj:s.heap.objs.size≠b:=by
       simp only[yX,xX,or_false] at hb;rcases hb with rfl | rfl;. exact lt a1
       . obtain⟨o,q,_⟩:=a2;exact lt q
     rw[AG (a5V dj)];exact(hf b hb).1
 done:=by
   intro X hP hw hK hc i pins s σ H E I hf ⟨⟨old,a1⟩,a2⟩ hg;subst hP hw hK;obtain⟨xs,hx,Iw⟩:=hg;obtain⟨aa,rx,px,_⟩:=I.tuple hx;have e1:=rx.length;have Dc:l≠it:=MY I (hf it (by simp)) hx;refine aU (I.ok.hd hc) a1 a2 px (by rw[b7W];simp;lia) λh' hk=>⟨rfl,I.turnedL (t':=s.toks) (ch:=[e,it]) (λb o hb q=>?_) (λb hb=>(hf b hb).1) λb hb=>let q:=hf b hb;⟨q.2.2.2.1,q.2.1,q.2.2.2.2.1,q.2.2.2.2.2⟩⟩
   simp only[yX,xX,or_false,not_or] at hb;exact hk b o hb.2 q
 self:=λ_ _ _ _ _ st h=>let ⟨_,q⟩:=st.1;wpAny_pyIter_enum q h
section
variable {X:Cx}{K:Frg}
def h7 (K:Frg) (ta:TA):TI:=λσ H R=>ta σ H λvs H1=>∃a,vs=[.ref a]/\(∃xs,SqT K H1 a xs)/\R (tJ K a) H1
theorem qQ {a:Expr}{ta:TA}{p pos:Pos}{mz:List Expr}{kk:Nat}{kc:Pos}(hk:X.K=K) (hg:Gl X "enumerate") (hm:X.mg "enumerate"=none) (ha:PA X [a] ta) (hs:starEach [a] X.env=[(false,eval a X.env)]:=by rfl) :
   PI X (.Tuple mz kk kc) (.Call (.Name "enumerate" p) [a] [] pos) (h7 K ta):=by
 subst hk;intro pins s σ H R I h;refine Call_ (GG I hg hm boot_enumerate (xI (thn (ha pos pins s σ H _ I h) λus s1 ⟨vs,H1,I1,r1,q1⟩=>?_) hs rfl));obtain⟨l,e,⟨xs,hx⟩,q⟩:=q1;subst e;obtain⟨u,rfl,ru⟩:=F3 r1;cases ru;obtain⟨aa,rx,px,_⟩:=I1.tuple hx;refine WU px λh' b1 b2 hk=>?_;refine wpAny_pyIter_enum (s:={ s1 with heap:=h' }) b1 ?_;refine⟨s1.heap.objs.size+1,[s1.heap.objs.size+1,s1.heap.objs.size],_,_,H1,rfl,I1.kept (t':=s1.toks) hk,WV (s1.heap.objs.size+1) s1.heap.objs.size l (Nat.succ_ne_self _),⟨⟨_,b1⟩,b2⟩,λb hb=>?_,q⟩;have hle:s1.heap.objs.size<=b:=by
   simp only[yX,xX,or_false] at hb;rcases hb with rfl | rfl;. exact Nat.le_add_right _ _
   . exact zR _
 exact I1.fpOk hle (I1.hok.fresh hle)
end
end L2
namespace DL
open PySem PySem.Spec L2
section
variable {K:Frg}{ρ:List (Option DS)}{M:Own}{QI:List PyData->Own->Prop}
theorem h8 {ta:TA}(h:DA K ta ρ M λxs M1=>∃as,xs=[.d (.tuple as)]/\QI (KU as) M1):DI K (h7 K ta) ρ M QI:=λσ H R Rl k=>
 h σ H _ Rl λvs H1 xs M1 o1 s1 t1 ⟨as,e,q⟩=>by
   subst e;obtain⟨v,r,rfl,h1,h3⟩:=s1;cases h3;unfold SI DV at h1;obtain⟨a,va,rfl,hl,hd⟩:=h1;have af:(KU as).length=as.length:=by unfold KU;rw[zX,List.length_zipIdx]
   refine⟨a,rfl,⟨va,hl.sq⟩,k _ (KU as) H1 M1 o1 t1 ⟨λi H' M' hi oa st=>?_,λH' M' oa st=>?_,λi H' M' x H2 oa st hi y=>?_⟩ q⟩;. rw[af] at hi;exact⟨va,(hl.grow st.grow).sq,by rw[hd.length];lia⟩
   . refine⟨va,(hl.grow st.grow).sq,?_⟩;rw[af,hd.length];lia
   . obtain⟨p,xa,hp,rfl,rfl,hy⟩:=y;have e1:=hy va (hl.grow st.grow).sq;obtain⟨da,f1,f2⟩:=hd.get e1;have gg:Grow K M'.W M'.W H' (upd H' p (.tup [.int (i:Nat),xa])):=AM _ hp;refine⟨oa.new hp,⟨gg⟩,.tuple [.int (i:Nat),da],?_,?_⟩;. unfold KU;rw[zF,List.getElem?_zipIdx,f1];simp
     . unfold DV;exact⟨p,_,rfl,.inl ⟨λw=>w (oa.none hp),.inl AF⟩,DVs.cons (by unfold DV;rfl) (DVs.cons ((f2.grow st.grow).grow gg) DVs.nil)⟩
end
end DL
namespace DL
open PySem PySem.Spec L2 XC
structure rowP (w:List Th) (Ds:List Deed):Prop where
 fine:EI w
 book:G8 w Ds
 few:w.length+Ds.length < 60
end DL
namespace DL
open PySem PySem.Spec L2
theorem UR {w:List Th}{Ds:List Deed}(h:rowP w Ds):EI (CB w Ds)/\(CB w Ds).length<=w.length+Ds.length:=by have:=Y8 h.book h.fine h.few (zR _);rw[show wsF w Ds Ds.length=CB w Ds by unfold wsF;rw[a3J]] at this;exact⟨this.1,this.2.1⟩
end DL
namespace DL
open PySem PySem.Spec L2
section
variable {K:Frg}{M:Own}{ρ:List (Option DS)}{P:List (Option DS)->Own->Prop}{Q:DS->Own->Prop}
theorem SIs.tail {H:Hp}{a:Addr}:∀{ds:List PyData}{vs:List V},SIs K H M (ds.map .d++[.loc a]) vs->∃us,vs=us++[.ref a]/\DVs K H M.W ds us
 | [],vs,h=>by obtain⟨v,r,rfl,h1,h2⟩:=h;cases h2;cases (show v = .ref a from h1);exact⟨[],rfl,DVs.nil⟩
 | d::ds,vs,h=>by obtain⟨v,r,rfl,h1,h2⟩:=h;obtain⟨us,rfl,h3⟩:=SIs.tail h2;exact⟨v::us,rfl,DVs.cons h1 h3⟩
theorem YJ {tl:TA}(h:DA K tl ρ M λxs M1=>∃ds a,xs=ds.map .d++[.loc a]/\ds.length < sizeLine/\Q (.tl ds a) M1):DE K (Z7 tl) ρ M Q:=λσ H QQ R k=>
 h σ H _ R λvs H1 xs M1 o1 s1 t1 h1=>by obtain⟨ds,a,rfl,hz,q⟩:=h1;obtain⟨us,rfl,hd⟩:=s1.tail;refine⟨by rw[yY,hd.length];exact hz,λp hp=>?_⟩;have g:Grow K M1.W M1.W H1 (upd H1 p (.tup (us++[.ref a]))):=AM _ hp;refine k _ _ (.tl ds a) M1 (o1.new hp) ?_ (t1.trans ⟨g⟩) q;unfold SI;exact⟨p,us,rfl,.inl ⟨λw=>w (o1.none hp),.inl AF⟩,hd.grow g⟩
def DGl (K:Frg) (g:TGs) (ds:List PyData) (a:Addr) (ρ:List (Option DS)) (M:Own) (P:List (Option DS)->Own->Prop):Prop:=∀(σ:St) (H:Hp) (vs:List V) (QQ:St->Hp->Prop),Rel K M ρ σ H->DVs K H M.W ds vs->(∀ρ' M' σ' H',Rel K M' ρ' σ' H'->Step K M M' H H'->P ρ' M'->QQ σ' H')->g (vs++[.ref a]) σ H QQ
theorem lK {i:Nat}{a:Addr}(h:P (ρ.set i (some (.loc a))) M):DGl K (SR (HK i) iL) [] a ρ M P:=λσ H vs QQ R hd k=>by unfold DVs at hd;subst hd;exact⟨.ref a,[],rfl,rfl,k _ M _ H (R.set (x:=.loc a) rfl i) Step.refl h⟩
theorem h9 {i:Nat}{g:TGs}{d:PyData}{ds:List PyData}{a:Addr}(h:DGl K g ds a (ρ.set i (some (.d d))) M P):DGl K (SR (HK i) g) (d::ds) a ρ M P:=λσ H vs QQ R hd k=>by unfold DVs at hd;obtain⟨v,r,rfl,h1,h2⟩:=hd;refine⟨v,r++[V.ref a],rfl,?_⟩;exact h (σ.set i (some v)) H r QQ (R.set (x:=.d d) h1 i) h2 k
theorem lL {D:EndsD}{te:TE}{n:Nat}{g:TGs}(h:DE K te ρ M λx M1=>∃ds a,x = .tl ds a/\ds.length+1=n/\DGl K g ds a ρ M1 D.nx):DSt K (VH te (Y0 K n g)) ρ M D:=λσ H E R k1 _ _ _=>
 h σ H _ R λv H' x M' a b c q=>by obtain⟨ds,p,rfl,hn,q⟩:=q;unfold SI at b;obtain⟨t,vs,rfl,hw,hd⟩:=b;exact⟨t,vs++[.ref p],rfl,.inl hw.sq,by rw[yY,hd.length];exact hn,q σ H' vs _ (R.step a c) hd λρ2 M2 σ2 H2 R2 ik p=>k1 ρ2 M2 σ2 H2 R2 (c.trans ik) p⟩
end
end DL
namespace DL
open PySem PySem.Spec L2 XC
def bkS (w:List Th):List Deed->List Deed
 | []=>[]
 | D::r=>B2 w D::bkS (D9 w D) r
section
variable {w:List Th}{Ds A B:List Deed}{D E:Deed}
theorem YK:∀{A B:List Deed}{w:List Th},bkS w (A++B)=bkS w A++bkS (CB w A) B
 | [],_,_=>rfl
 | D::A,B,w=>by show _::bkS (D9 w D) (A++B)=_;rw[YK (A:=A)];rfl
theorem RU:∀{A B:List Deed}{w:List Th},CB w (A++B)=CB (CB w A) B
 | [],_,_=>rfl
 | D::A,B,w=>RU (A:=A)
theorem NN:∀{A B:List Deed}{w:List Th},G8 w (A++B)↔G8 w A/\G8 (CB w A) B
 | [],_,_=>by simp[G8,CB]
 | D::A,B,w=>by show goD w D/\G8 (D9 w D) (A++B)↔(goD w D/\G8 (D9 w D) A)/\G8 (CB (D9 w D) A) B;rw[NN (A:=A),and_assoc]
theorem YL:∀{Ds:List Deed}{w:List Th},(bkS w Ds).length=Ds.length
 | [],_=>rfl
 | D::r,w=>by show(bkS (D9 w D) r).length+1=_;rw[YL (Ds:=r)];rfl
theorem hU:∀{Ds:List Deed}{w:List Th},bkL w Ds Ds.length=(bkS w Ds).map Deed.d
 | [],_=>rfl
 | D::r,w=>by unfold bkL;rw[yR,List.range_succ_eq_map,zI,zD];show bkF w (D::r) 0::_=(B2 w D).d::(bkS (D9 w D) r).map Deed.d;rw[<-hU (Ds:=r)];rfl
end
end DL
namespace L2
open PySem PySem.Spec PyProof.Rows
open AutoSeq1 (wpAny_loadPart')
theorem LF (I l:Addr) (items:Array Value) (au:l≠I) (hn:items.size<=sizeLine) :
   Meets (Builtin.«tuple.__new__» ⟨[.type "tuple", .ref I],[]⟩) (λA R s=>A.handled=none/\s.heap.IsRevIter I l ((items.size:Int) - 1)/\s.heap.IsList l items/\∀s':Shared,(∀b o,b≠I->s.heap.get? b=some o->s'.heap.get? b=some o)->s'.gens=s.gens->s'.drawn=s.drawn->s'.os=s.os->R (.ok (.ret (.ref s'.heap.objs.size))) { s' with heap:=s'.heap.push { cls:=.type "tuple", data:=.seq items.toList.reverse.toArray } }):=
 .of_wp λprog w A R s h=>by
   obtain⟨hh,ht,hl,h⟩:=h;have cf:=sub_tuple_self;have Dd:=init_tuple_lookup;have Kv:=madeHere_tuple;have hT:=ht.typeIs;have Iy:A.in1.handled=none:=hh;obtain⟨o,ho,_⟩:=id ht;obtain⟨hp,g,d,tk,os⟩:=s
   wp_walk using wpAny_loadPart' ho,wpAny_typeOf hT,UG Iy au ht hl hn
   intro s' k1 k2 k3 k4;show wpAny _ _ (a4W items.toList.reverse.toArray >>= λv=>ret v) _ _ _;unfold a4W;refine zZ (xN ?_ (show items.toList.reverse.toArray.size<=sizeLine by simpa using hn));exact zY ⟨_,rfl,h s' k1 k2 k3 k4⟩
section
variable {prog:Program}{w:World}{A:Around}{E:Value->Shared->Prop}{s:Shared}
theorem NO {Q:Value->Shared->Prop}{I l:Addr}{items:Array Value}(hh:A.handled=none) (au:l≠I) (hit:s.heap.IsRevIter I l ((items.size:Int) - 1)) (hl:s.heap.IsList l items) (hn:items.size<=sizeLine) (h:∀s':Shared,(∀b o,b≠I->s.heap.get? b=some o->s'.heap.get? b=some o)->s'.gens=s.gens->s'.drawn=s.drawn->s'.os=s.os->Q (.ref s'.heap.objs.size) { s' with heap:=s'.heap.push { cls:=.type "tuple", data:=.seq items.toList.reverse.toArray } }) :
   wpAny (model prog w) A (call (.type "tuple") [.ref I]) Q E s:=
 callType_new F.called_tuple (by decide) (F.typeCall_tuple_1 _) (F.newCall_tuple_1 _) (λobj=>F.args_object_init_2 obj _) F.entry_tuple_new
   (LF I l items au hn) ⟨hh,hit,hl,λs' k1 k2 k3 k4=>⟨⟨_,yZ _ rfl,rfl⟩,h s' k1 k2 k3 k4⟩⟩
end
section
variable {X:Cx}{K:Frg}
theorem hW:∀{xs:List V}{us:List Value},Vals xs us->Vals xs.reverse us.reverse:=λ{xs us} h=>by
 have go:∀{xs:List V}{us:List Value},Vals xs us->∀{as:List V}{bs:List Value},Vals as bs->Vals (xs.reverseAux as) (us.reverseAux bs):=by
   intro xs us h;induction h with
   | nil=>intro as bs q;exact q
   | cons r t ih=>intro as bs q;exact ih (.cons r q)
 exact go h .nil
def YM (K:Frg) (te:TE):TE:=λσ H Q=>CT te O9 σ H λvs H1=>∃(l:Addr) (xs:List V),vs=[.ref l]/\SqL K H1 l xs/\∀p,H1 p=none->Q (.ref p) (upd H1 p (.tup xs.reverse))
theorem aV {e:Expr}{te:TE}{np rp pos mp:Pos}(hk:X.K=K) (he:PE X e te) (hh:X.A.handled=none) (hg:Gl X "reversed") (hm:X.mg "reversed"=none) (Iz:Gl X "tuple") (wA:X.mg "tuple"=none) (hs:starEach [.Call (.Name "reversed" np) [e] [] rp] X.env=[(false,eval (.Call (.Name "reversed" np) [e] [] rp) X.env)]:=by rfl) (De:starEach [e] X.env=[(false,eval e X.env)]:=by rfl) :
   PE X (.Call (.Name "tuple" mp) [.Call (.Name "reversed" np) [e] [] rp] [] pos) (YM K te):=by
 subst hk;intro pins s σ H Q I h;refine wpAny_Call_Name_kw (GG I Iz wA boot_tuple ?_);refine xI ?_ hs rfl;rw[hs];show wpAny _ _ (spliced ((false,eval (.Call (.Name "reversed" np) [e] [] rp) X.env)::backTo pos (starEach [] X.env))) _ _ _;refine xQ ?_;refine wpAny_Call_Name_kw (GG I hg hm boot_reversed ?_);refine xI (thn ((AR he GH De) rp pins s σ H _ I h) λus s2 ⟨vs,H2,I2,r2,l,xs,I_,hl,q⟩=>?_) De rfl;subst I_;obtain⟨u,rfl,ru⟩:=F3 r2;cases ru;obtain⟨aa,rv,pl,hsz⟩:=I2.list hl;refine call_reversed_list pl.isList ?_;show wpAny _ _ (spliced []) _ _ _;refine zY ?_;have dj:l < s2.heap.objs.size:=by obtain⟨o,ho,_⟩:=pl.isList;exact zM ho
 have hle:aa.length<=sizeLine:=by rw[<-rv.length];exact hsz
 refine NO (l:=l) (items:=aa.toArray) hh (zC dj) ⟨_,yZ _ rfl,rfl,rfl⟩ (pl.isList.at λo eo=>zW _ eo) (by simpa using hle) λs' k1 k2 k3 k4=>?_;obtain⟨h',g',d',uo,yo⟩:=s';cases k2;cases k3;cases k4;have I3:Inv X pins σ H2 { s2 with heap:=h',toks:=uo }:=I2.kept λb u eb=>k1 b u (zC (zM eb)) (zW _ eb);have I4:Inv X pins σ (upd H2 h'.objs.size (.tup xs.reverse)) { s2 with heap:=h'.push { cls:=.type "tuple", data:=.seq aa.toArray.toList.reverse.toArray },toks:=uo }:=
   I3.laid (t':=uo) (λb o e=>zW _ e) (zR _) (show ObjOk X.prog X.w _ _ _ (.tup _) from ⟨by rw[List.length_reverse];exact hsz,aa.reverse,hW rv,IsTup.new _ _⟩);exact⟨.ref h'.objs.size,_,I4,rfl,q _ (I3.hok.fresh (zR _))⟩
end
end L2
namespace DL
open PySem PySem.Spec L2
section
variable {K:Frg}{ρ:List (Option DS)}{M:Own}{Q:DS->Own->Prop}{te:TE}
theorem lM {W:Addr->Prop}{H:Hp}{ds:List PyData}{vs:List V}(h:DVs K H W ds vs):DVs K H W ds.reverse vs.reverse:=by
 have go:∀{ds:List PyData}{vs:List V},DVs K H W ds vs->∀{as:List PyData}{bs:List V},DVs K H W as bs->DVs K H W (ds.reverseAux as) (vs.reverseAux bs):=by
   intro ds;induction ds with
   | nil=>intro vs h as bs q;cases h;exact q
   | cons d r ih=> intro vs h as bs q;obtain⟨v,t,rfl,h1,h2⟩:=h;exact ih h2 (DVs.cons h1 q)
 exact go h DVs.nil
end
end DL
namespace DL
open PySem PySem.Spec L2 XC
section
variable {M:Own}{Q:DS->Own->Prop}{w:List Th}{ls:List (Str×Deed)}{st ws:List Nat}{Ds:List Deed}
theorem WW (h:∀D∈Ds,D.real):zH (.tuple (Ds.map Deed.d))=true:=by
 refine CK (MW λd hd=>?_) ?_;. obtain⟨D,hD,rfl⟩:=zL.mp hd;exact zG (aP (h D hD).1)
 . have:a5W (Ds.map Deed.d)<=5:=W5 λd hd=>by
     obtain⟨D,hD,rfl⟩:=zL.mp hd;have:D.d.depth<=3:=by cases D <;> simp[Deed.d,a9K,a5W]
     lia
   simp only[a9K];lia
end
end DL
namespace XC
open PySem PySem.Spec L2
open PyProof.Rows (envOfC AllBare)
structure RoomA (k:Nat) (A:Around):Prop where
 dp:A.depth+3*k+5 < recursionLimit
 un:A.units+16*k+200 < cLine
theorem RoomA.of {k:Nat}{A:Around}(r:Room k A):RoomA k A:=⟨r.dp,r.un⟩
theorem RoomA.make {k:Nat}{A:Around}(r:RoomA (k+1) A) (C:Addr) (us:List Value) (kw:List (Str×Value)):RoomA k (A.under (.builtin "type.__call__" ⟨.ref C::us,kw⟩)):=⟨by rw[MD];have:=r.dp;lia,by rw[ME];have:=r.un;lia⟩
structure FnOkA (P:Program) (w:World) (K:Frg) (mg:Str->Option Value) (base:Heap) (k:Nat) (f:Addr) (fd:FuncData) (ps:List Str) (sp:Sp):Prop where
 len:∀vs H Q E,sp vs H Q E->vs.length=ps.length
 run:∀(A:Around) (outer:List Env) (s:Shared) (H:Hp) (args:Args) (us:List Value) (vs:List V) (Q:VK) (E:XK),RoomA k A->Env0 P w K mg base A outer s H->BindsTo s fd args (ps.zip us)->Vals vs us->sp vs H Q E ->
   codeAny (model P w) A (.call (.ref f) args) (CR CX0 outer P w H s Q E) s
def cxA (P:Program) (w:World) (K:Frg) (mg:Str->Option Value) (base:Heap) (N:List Str) (qual:Str) (scope:Scope) (f:Addr) (cd:Value) (A:Around) (outer:List Env) (s:Shared) (H:Hp) (E:XK):Cx:={ HJ CX0 P w K mg base N qual scope f cd A outer s H E with calm:=false,xe:=λ_ _=>False }
theorem qR {P:Program}{w:World}{K:Frg}{mg:Str->Option Value}{base:Heap}{k:Nat}{f:Addr}{name qual:Str}{params:Arguments}{body:List Stmt}{scope:Scope}{dV kV doc pm cdv ct oc:Value}{an od:Option Addr} {osl:Array (Option Value)}{N ps:List Str}{sp:Sp}(lk:K.lookup f=some ⟨oc,od,.func (a3V name qual params body scope dV kV doc pm an cdv ct),osl⟩) (iy:a8K K cdv qual=true) (S:FnScope N ps scope) (len:∀vs H Q E,sp vs H Q E->vs.length=ps.length) (bf:∀(A:Around) (outer:List Env) (s:Shared) (H:Hp) (vs:List V) (Q:VK) (E:XK),sp vs H Q E->∃t,PSs (cxA P w K mg base N qual scope f cdv A outer s H E) body t/\t { nx:=λ_ H'=>Q .non H',rt:=Q } (CI N vs) H) :
   FnOkA P w K mg base (k+1) f (a3V name qual params body scope dV kV doc pm an cdv ct) ps sp:=by
 refine⟨len,λA outer s H args us vs Q E hr e0 hb r kb=>?_⟩;have hl:=len _ _ _ _ kb;have KX:K.In s.heap:=e0.mod.kin.keeps λb o e=>(e0.bs b o e).1;have lim:s.heap.NoLimit:=e0.mod.nolimit.keeps λb o e=>(e0.bs b o e).1;have uh:∀y∈ps.zip us,scope.names.lookup y.1=some .local\/(scope.names.lookup y.1=some .cell/\((cellsFrom (s.heap.objs.size+1) scope.names []).lookup y.1).isSome=true):=λ⟨n,v⟩ hy=>by
   rcases S.par n (b2X hy).1 with q | q;. exact .inl q
   . exact .inr ⟨q,b6K _ _ _ (.inl q)⟩
 refine codeAny_call_function (by have:=hr.dp;lia) (KX _ _ lk) rfl S.co S.gen rfl (PySem.W.codeRec_of KX iy) (hb _ _ _ _ ?_);refine wpAny_newFunctionEnv_cells S.kind uh λenv he s1 x=>?_;subst he;refine⟨lim.keeps x.toInCall.keep,codeAny_func ?_⟩;obtain⟨t,ht,hq⟩:=bf A outer s H vs Q E kb;have J:Inv (HJ CX0 P w K mg base N qual scope f cdv { A with handled:=none } outer s H E) [] (CI N vs) H s1:=P7 S rfl ⟨e0.frames,e0.mod,e0.bs,e0.bsz,e0.funs,e0.frf,e0.hok,e0.bare⟩ hl r x;have I:Inv (cxA P w K mg base N qual scope f cdv A outer s H E) [] (CI N vs) H s1:=⟨⟨J.ok.mod,J.ok.kind,J.ok.glob,J.ok.blt,J.ok.above,J.ok.inj,J.ok.has,J.ok.cab,(λz=>nomatch z),Around.frames_deeper e0.frames,J.ok.stk,J.ok.exf,J.ok.bs,J.ok.bsz,J.ok.noex,J.ok.exfs,J.ok.funs,J.ok.frf⟩,J.os,J.bare,J.base,J.loc,J.cell,J.free,J.freeC,J.pin,J.hok,J.len⟩
 refine wpAny_mono (ht [] s1 (CI N vs) H _ I hq) (λfl s' hs=>?_) λe s' hs=>hs.elim;have fin:∀{σ':St}{H':Hp}{v:V}{u:Value},Inv (cxA P w K mg base N qual scope f cdv A outer s H E) [] σ' H' s'->RelV v u->Q v H'->CE outer P w H s Q u s':=
   λ{σ' H' v u} J rv q=>⟨v,H',J.os,J.bare,J.base,J.hok,rv,q⟩
 cases fl with
 | ret u=> obtain⟨v,σ',H',J,rv,q⟩:=hs;exact fin J rv q
 | next=> obtain⟨σ',H',J,q⟩:=hs;exact fin (v:=V.non) (u:=a0W) J rfl q
 | brk=> obtain⟨_,_,_,q⟩:=hs;exact a6Z q
 | cont=> obtain⟨_,_,_,q⟩:=hs;exact a6Z q
theorem hX {P:Program}{w:World}{K:Frg}{mg:Str->Option Value}{base:Heap}{qual fn pn:Str}{st:Stmt}{f C S:Addr}{fd:FuncData}{p1 p2 p3 p4:Pos}(F:Fun K "__init__" qual st f fd) (Sc:FnScope ["self", pn] ["self", pn] (AC st)) (hb:B1 st=[.Assign [.Attribute (.Name "self" p1) fn p2] (.Name pn p3) p4]) (c:XCls K C S (.ref f)) (cs:XSet K C fn) (nd:(["self", pn]:List Str).Nodup) (hs:∀env:Env,swapsWith (.Name pn p3) (some (.Attribute (.Name "self" p1) fn p2)) p4.line env=pure false) (h0:∀X:Cx,X.N=(["self", pn]:List Str)->X.env.scope=AC st->PE X (.Name "self" p1) (SO 0)) (h1:∀X:Cx,X.N=(["self", pn]:List Str)->X.env.scope=AC st->PE X (.Name pn p3) (SO 1)):FnOkA P w K mg base 1 f fd ["self", pn] (D8 C fn):=by obtain⟨oc,od,kV,doc,pm,an,cdv,ct,osl,rfl,lk,iy⟩:=F.ex;refine qR (k:=0) lk iy Sc (λvs H Q E ⟨e,v,t,h,_⟩=>by rw[h];rfl) λA outer s H vs Q E ⟨e,v,t,ev,he,hq⟩=>?_;subst ev;rw[hb];refine⟨_,LL (Y9 (C:=C) (S:=S) (fn:=fn) c cs (h0 _ rfl rfl) (h1 _ rfl rfl) (hs _)),?_⟩;exact⟨v,rfl,.ref e,rfl,e,t,rfl,he,λd hd au=>hq d hd au⟩
theorem US {X:Cx}{R:St->XK}{h:Option Value}(bo:X.stack=X.env::X.outer) (g_:X.env.frame=some X.env.locals):PassesOwnAt (model X.prog X.w) (X.A.mark h) X.A X.env (Fly X R):=λe s' hf=>by
 obtain⟨a,T,cls,dd,ar,σ,H,fl,rfl,I,⟨x,qj⟩,la,lT,lx,r⟩:=hf;have fr:(X.A.mark h).frames=some (X.env::X.outer):=by rw[<-bo];exact I.ok.frames
 have hl:s'.heap.FunFrames X.base (X.env::X.outer):=by rw[<-bo];exact I.stack
 refine GM fr hl g_ x qj λh2 T' x2 n2 m2=>?_;have vE:(X.env::X.outer).filterMap (·.frame)=frs X.stack:=by rw[bo];rfl
 rw[vE] at m2;have I2:Inv X [] σ H { s' with heap:=h2 }:=B6 I m2 λb hb=>by
   rcases yX.mp hb with q | q;. rw[q];exact la.ch
   . exact(lT b (by cases T with | none=>simp at q | some t=>simp at q;rw[q])).ch
 have k_:Loose X H T':=n2.elim (λz=>lT T' z) λz=>Loose.of I z.2 (I.hok.fresh z.2);obtain⟨oe,vs,he,hc,mx,hd,h0,h1,ub,_⟩:=id x2;unfold cameBackBy;refine zZ (wpAny_field (s:={ s' with heap:=h2 }) he hd h1 ?_);rw[if_neg (by simp),g_];refine NE (s:={ s' with heap:=h2 }) x2 λh3 x3 m3=>?_;have I3:Inv X [] σ H { s' with heap:=h3 }:=B6 (s:={ s' with heap:=h2 }) (ch:=[T']) I2 (m3.mono (λb z=>absurd z (by simp)) λb z=>z) λb hb=>by
   have:b=T':=by simpa using hb
   rw[this];exact k_.ch
 exact⟨a,some T',cls,dd,ar,σ,H,_,rfl,I3,⟨x3,.inr ⟨by simp,rfl⟩⟩,la,λt e=>(by cases e;exact k_),lx,r⟩
theorem OH:entryFor table "proto.unchain"=some Builtin.«proto.unchain»:=entryFor_of_tree (by kernel_rfl)
section
variable {prog:Program}{w:World}{A:Around}{E:Value->Shared->Prop}{nm q:Str}{C N:Addr}{bs bm:List Value}{hdct:Bool}{sn:List Str}{sub:List Value}{ab:Bool}{col:Option Bool}{dd:Option Addr}{k0 k1 k2 k3 k5:Option Value}{newId:String}
abbrev i0 (C t a:Addr) (dx:Option Addr):Obj:={ cls:=.ref C,dict:=dx,data:=.fields #[.ref t,.none,.ref a,.none,.bool true,.none] }
theorem WX {s:Shared}{env:Env}{x c:Sem Value}{a:Addr}{Q:Flow->Shared->Prop}(hbase:bm.contains (.type "BaseException")=true) (hh:A.handled=some (.ref a)) (hc:∀(s:Shared) (Q':Value->Shared->Prop),Q' .none s->wpAny (model prog w) A c Q' E s) (hx:wpAny (model prog w) A x (λv s₁=>∃e t dx oa vs,v = .ref e/\e≠a/\s₁.heap.get? C=some (excClassObj nm q C N bs bm hdct sn sub ab col dd k0 k1 k2 k3 k5 newId)/\C≠e /\
     s₁.heap.get? e=some { cls:=.ref C,dict:=dx,data:=.fields #[.ref t,.none,.none,.none,.bool false,.none] }/\s₁.heap.get? a=some oa/\oa.data = .fields vs/\vs[2]?=some .none /\
     ∀h',h'.get? e=some (i0 C t a dx)->Moved [] [e] s₁.heap h'->E (.ref e) { s₁ with heap:=h' }) E s) :
   wpAny (model prog w) A (raiseStmt env (some x) (some c)) Q E s:=by
 have vC:(a0X C::bm).contains (.type "BaseException")=true:=by rw[a0K,hbase,Bool.or_true]
 unfold raiseStmt;refine zZ (wpAny_mono hx (λv s₁ h₁=>?_) λ_ _ x=>x);obtain⟨e,t,dx,oa,vs,rfl,Df,hC,Kw,he,ha,Ja,h2,hE⟩:=h₁;obtain⟨hp,g,d,tk,os⟩:=s₁;refine zZ (wpAny_holding (hc _ _ (zZ (zY ?_))));repeat (first | with_reducible refine wpAny_loadPart_at he ?_ | with_reducible refine wpAny_loadPart_at hC ?_ | (with_reducible refine wpAny_isSubtype_exc hC ?_;rw[vC]) | wp_step)
 have xS:(#[a0X t,.none,.none,.none,.bool false,.none]:Array Value).size=6:=rfl;have m1:=CO (h:=hp) (a:=e) (·.setIfInBounds 3 a0W) he rfl [];have g1:(hp.update e (b1Q λx=>x.setIfInBounds 3 a0W)).get? e=some { cls:=.ref C,dict:=dx,data:=.fields #[.ref t,.none,.none,.none,.bool false,.none] }:=a2X _ he rfl;have m2:=CO (a:=e) (·.setIfInBounds 4 (b6Z true)) g1 rfl [];have g2:((hp.update e (b1Q λx=>x.setIfInBounds 3 a0W)).update e (b1Q λx=>x.setIfInBounds 4 (b6Z true))).get? e=some { cls:=.ref C,dict:=dx,data:=.fields #[.ref t,.none,.none,.none,.bool true,.none] }:=a2X _ g1 rfl;have Aq:=m1.trans m2;generalize ((hp.update e (b1Q λx=>x.setIfInBounds 3 a0W)).update e (b1Q λx=>x.setIfInBounds 4 (b6Z true)))=H2 at g2 Aq;have ud:H2.get? a=some oa:=Aq.keep a oa ha (by simp) (by simp[a5V Df]);unfold raiseNew;refine zZ (wpAny_handled ?_);rw[hh];dsimp only;rw[if_pos (show(a0X a != a0X e)=true by simp[a5V Df])];refine zZ (wpAny_holding (wpAny_runValue (codeAny_builtin OH ?_)));show wpAny _ _ (field (.ref a) 2 >>= _) _ _ _;refine zZ (wpAny_field ud Ja h2 ?_);rw[if_pos (show(a0W==a0W)=true by decide)];refine(show wpAny _ _ (pure _) _ _ _ from zY ?_);refine zZ (show wpAny _ _ (setField (.ref e) 2 (.ref a)) _ _ _ from wpAny_setField (s:=⟨H2,g,d,tk,os⟩) g2 rfl (by show 2 < 6;decide) (wpAny_throw ?_));refine hE _ (a2X _ g2 rfl) (Aq.trans (CO (a:=e) (·.setIfInBounds 2 (a0X a)) g2 rfl []))
end
def lN (K:Frg) (D1 D2:Addr) (cls:Value):Prop:=cls = .ref D1\/cls = .ref D2
def qS (dd:Option Addr) (H:Hp):Prop:=¬fR dd H
def i3 (K:Frg) (D1 D2 C:Addr) (tb:(St->XK)->TS) (t:TA) (R:St->XK):TS:=λD' σ H=>tb (λσ' cls dd H'=>lN K D1 D2 cls/\qS dd H' /\∀p,H' p=none->t σ' (upd H' p (.tup [.ref D1,.ref D2])) λvs H1=>∃v,vs=[v]/\∀d,H1 d=none->R σ' (.ref C) (some d) (upd H1 d (.xd [(a0Q "number", v)]))) D' σ H
theorem qT {K:Frg}{D1 D2 S1 S2:Addr}{i1 i2:Value}(c1:XCls K D1 S1 i1) (c2:XCls K D2 S2 i2) {prog:Program}{w:World}{A:Around}{E:Value->Shared->Prop}{s:Shared}{e p:Addr}{oe:Obj}{Q:Bool->Shared->Prop}(X:K.In s.heap) (he:s.heap.get? e=some oe) (hc:oe.cls = .ref D1\/oe.cls = .ref D2) (ht:s.heap.IsTuple p #[.ref D1,.ref D2]) (q:Q true s):wpAny (model prog w) A (excMatches (.ref e) (.ref p)) Q E s:=by
 obtain⟨nm,q',N,bs,sn,sub,ab,col,dd,k0,k1,k2,k3,k5,lk⟩:=c1.lk;obtain⟨Ic,Ie,N',wg,Ig,Ak,xO,Al,ko,j0,j1,j2,j3,j5,Am⟩:=c2.lk;obtain⟨hp,g,d,t,os⟩:=s;have hC:=X _ _ lk;have hS:=X _ _ Am;have wF:(a0X D1::a0X S1::bmV).contains (.type "BaseException")=true:=by rw[a0K,a0K];simp
 have Ar:(a0X D2::a0X S2::bmV).contains (.type "BaseException")=true:=by rw[a0K,a0K];simp
 obtain⟨⟨c,dt,da,sl⟩,ho,e1,n,e2⟩:=ht;simp only at e1 e2;subst e1 e2;have f:=AutoSeq1.sub_tuple_tuple;unfold excMatches;have mw:hp.get? e=some oe:=he;have y9:(a0X D1::a0X S1::bmV).contains (.ref D1)=true:=by simp
 have Jb:(a0X D2::a0X S2::bmV).contains (.ref D2)=true:=by simp
 rcases hc with hc | hc
 . repeat (first | with_reducible refine wpAny_loadPart_at ho ?_ | (with_reducible refine wpAny_loadPart_at mw ?_;rw[hc]) | with_reducible refine wpAny_loadPart_at hC ?_ | with_reducible refine wpAny_loadPart_at hS ?_ | (with_reducible refine wpAny_isSubtype_exc hC ?_;first | rw[wF] | rw[y9]) | (with_reducible refine wpAny_isSubtype_exc hS ?_;rw[Ar]) | wp_step)
   exact q
 . by_cases hDD:D1=D2
   . subst hDD;repeat (first | with_reducible refine wpAny_loadPart_at ho ?_ | (with_reducible refine wpAny_loadPart_at mw ?_;rw[hc]) | with_reducible refine wpAny_loadPart_at hC ?_ | (with_reducible refine wpAny_isSubtype_exc hC ?_;first | rw[wF] | rw[y9]) | wp_step)
     exact q
   . by_cases hSD:S2=D1
     . have Au:(a0X D2::a0X S2::bmV).contains (.ref D1)=true:=by simp[hSD]
       repeat (first | with_reducible refine wpAny_loadPart_at ho ?_ | (with_reducible refine wpAny_loadPart_at mw ?_;rw[hc]) | with_reducible refine wpAny_loadPart_at hC ?_ | with_reducible refine wpAny_loadPart_at hS ?_ | (with_reducible refine wpAny_isSubtype_exc hC ?_;rw[wF]) | (with_reducible refine wpAny_isSubtype_exc hS ?_;first | rw[Ar] | rw[Au]) | wp_step)
       exact q
     . have Au:(a0X D2::a0X S2::bmV).contains (.ref D1)=false:=by simp[hDD,a5V hSD]
       repeat (first | with_reducible refine wpAny_loadPart_at ho ?_ | (with_reducible refine wpAny_loadPart_at mw ?_;rw[hc]) | with_reducible refine wpAny_loadPart_at hC ?_ | with_reducible refine wpAny_loadPart_at hS ?_ | (with_reducible refine wpAny_isSubtype_exc hC ?_;rw[wF]) | (with_reducible refine wpAny_isSubtype_exc hS ?_;first | rw[Ar] | rw[Au] | rw[Jb]) | wp_step)
       exact q
end XC
namespace XC
open PySem PySem.Spec L2
open PyProof.Rows (envOfC AllBare)
theorem NP {X:Cx}{pins:List (Addr×Obj)}{σ:St}{H:Hp}{s:Shared}{a:Addr}{o:Obj}(I:Inv X pins σ H s) (h1:s.heap.get? a=some o) (h2:H a=none) (h3:a≠X.env.locals) (h4:a∉X.fs) (h5:∀v,o.data≠.cell v):Inv X ((a,o)::pins) σ H s:=⟨I.ok,I.os,I.bare,I.base,I.loc,I.cell,I.free,I.freeC,λp hp=>by
   rcases yW.mp hp with q | q;. exact I.pin p (yW.mpr (.inl q))
   . rcases yX.mp q with rfl | q;. exact⟨h1,h2,h3,h4,h5⟩
     . exact I.pin p (yW.mpr (.inr q)),I.hok,I.len⟩
theorem lO {X:Cx}{E:Value->Shared->Prop}{pins:List (Addr×Obj)}{D:Ends}{f:Flow}{s':Shared}(h:SP X pins D f s'):SP (X.wish E) pins D f s':=by
 cases f with
 | next=>obtain⟨σ',H',I,q⟩:=h;exact⟨σ',H',I.wish E,q⟩
 | brk=>obtain⟨σ',H',I,q⟩:=h;exact⟨σ',H',I.wish E,q⟩
 | cont=>obtain⟨σ',H',I,q⟩:=h;exact⟨σ',H',I.wish E,q⟩
 | ret u=>obtain⟨v,σ',H',I,r,q⟩:=h;exact⟨v,σ',H',I.wish E,r,q⟩
section
variable {Y:Cx}{R:St->XK}{C S f a:Addr}{x:Str}{np ah pos:Pos}{arg:Expr}{t:TA}{k:Nat}{fd:FuncData}{ps:List Str}
theorem aW {pins:List (Addr×Obj)}{σ:St}{H:Hp}{s:Shared}{oe:Obj}{vs:Array Value}{ck:Nat}{cp:Pos}{Q:Flow->Shared->Prop}(c:XCls Y.K C S (.ref f)) (v0:b3Q Y.K (.ref f)=true) (F:FnOkA Y.prog Y.w Y.K Y.mg Y.base k f fd ps (D8 C (a0Q "number"))) (hb:Binds Y.K fd ps []) (hr:RoomA (k+1) Y.A) (hg:Gl Y x) (hm:Y.mg x=some (.ref C)) (ha:PA (FW Y a) [arg] t) (I:Inv (FW Y a) ((a,oe)::pins) σ H s) (Jc:Y.Ok) (hd:oe.data = .fields vs) (h2:vs[2]?=some .none) (h:t σ H λus H1=>∃v,us=[v]/\∀d,H1 d=none->R σ (.ref C) (some d) (upd H1 d (.xd [(a0Q "number", v)]))) (cg:(x==("__debug__":Str))=false) (he:starEach [arg] Y.env=[(false,eval arg Y.env)]) :
   wpAny (model Y.prog Y.w) (Y.A.mark (some (.ref a))) (exec (.Raise (some (.Call (.Name x np) [arg] [] ah)) (some (.Constant .none ck cp)) pos) Y.env) Q (Fly Y R) s:=by
 have FB:=b4Q;obtain⟨nm,q,N,bs,sn,sub,ab,col,dd,k0,k1,k2,k3,k5,lk⟩:=c.lk;rw[arm_exec_Raise];refine zZ (wpAny_standAt (WX (C:=C) (a:=a) (hbase:=NF (S:=S)) (hh:=rfl) (nm:=nm) (q:=q) (N:=N) (bs:=bs) (hdct:=true) (sn:=sn) (sub:=sub) (ab:=ab) (col:=col) (dd:=dd) (k0:=k0) (k1:=k1) (k2:=k2) (k3:=k3) (k5:=k5) (newId:= "ValueError.__new__") ?_ ?_));. intro s Q' hq;refine zZ (PyProof.Rows.Constant_none ?_);refine zZ (wpAny_standAt ?_);exact zY hq
 refine wpAny_mono (E:=λ_ _=>False) ?_ (λ_ _ z=>z) λ_ _ z=>z.elim;refine zZ (thn (wpAny_Call_Name_kw (DB I (X:=FW Y a) hg hm (b4Z (h₀:=Y.base) I.ok.mod.kin c.kp (Q:=λv s₁=>∃e t dx oa vs,v = .ref e/\e≠a/\s₁.heap.get? C=some (excClassObj nm q C N bs (.ref S::bmV) true sn sub ab col dd k0 k1 k2 k3 k5 "ValueError.__new__")/\C≠e /\
     s₁.heap.get? e=some { cls:=.ref C,dict:=dx,data:=.fields #[.ref t,.none,.none,.none,.bool false,.none] }/\s₁.heap.get? a=some oa/\oa.data = .fields vs/\vs[2]?=some .none /\
     ∀h',h'.get? e=some (i0 C t a dx)->Moved [] [e] s₁.heap h'->Fly Y R (.ref e) { s₁ with heap:=h' }) (thn (ha ah _ s σ H _ I h) λus s1 ⟨Kx,H1,I1,r,v,ev,q1⟩=>⟨I1.kIn,?_⟩) he rfl) cg)) λv s3 h3=>zZ (wpAny_standAt (zY h3)));subst ev;obtain⟨u,rfl,ru⟩:∃u,us=[u]/\RelV v u:=by cases r with | cons a b=>cases b;exact⟨_,rfl,a⟩
 have hC:=I1.kIn _ _ lk;have Jd:=(I1.pin (a,oe) (yW.mpr (.inr (a0J ..)))).1;obtain⟨hp,g,d,tk,os⟩:=s1;have kk:=BS (h:=hp) (C:=C) (rest:=[u]);have xy:=LU (h:=hp) (C:=C) (rest:=[u]);have I2:Inv (FW Y a) ((a,oe)::pins) σ (upd H1 (hp.objs.size+1) (xo (hp.objs.size+1) C hp.objs.size none)) ⟨J9 hp C [u],g,d,tk,os⟩:=I1.laid (a:=hp.objs.size+1) (t':=tk) kk (a6K _) (fV xy);have Aj:H1 (hp.objs.size+1)=none:=I1.hok.fresh (a6K _);have r2:Vals [V.ref (hp.objs.size+1),v] [a0X (hp.objs.size+1),u]:=.cons rfl (.cons ru .nil);have kb:D8 C (a0Q "number") [V.ref (hp.objs.size+1),v] (upd H1 (hp.objs.size+1) (xo (hp.objs.size+1) C hp.objs.size none)) (λw H2=>w = .non/\∃d',H1 d'=none/\d'≠hp.objs.size+1/\H2=upd (upd H1 d' (.xd [(a0Q "number", v)])) (hp.objs.size+1) (xo (hp.objs.size+1) C hp.objs.size (some d'))) (λ_ _ _=>False):=by refine⟨_,v,hp.objs.size,rfl,AF,λd' mm au=>⟨rfl,d',by rw[AG au] at mm;exact mm,au,?_⟩⟩;funext b;unfold upd;by_cases z:b=hp.objs.size+1 <;> simp[z]
 have hl:([a0X (hp.objs.size+1),u]++[]).length=ps.length:=by have:=F.len _ _ _ _ kb;simpa using this
 have wo:RoomA (k+1) (FW Y a).A:=⟨hr.dp,hr.un⟩
 refine WK FB LV RL RM hC (b8X I1.kIn c.init) (λself=>PySem.W.bind_fn I1.kIn self (beq_iff_eq.mp v0)) (xP (F.run _ Y.stack _ _ ⟨[a0X (hp.objs.size+1),u],[]⟩ ([a0X (hp.objs.size+1),u]++[]) _ _ _ (wo.make C [u] []) (I2.env0.make C [u] []) (hb _ [a0X (hp.objs.size+1),u] I2.kIn hl) r2 kb) λr' s' xK=>?_) (by show 1<=sizeLine;decide);rcases r' with e | (w | _ | _ | _) <;> first | exact xK.elim | skip
 obtain⟨w',H2,I3,j_,rfl,d',xM,hd2,rfl⟩:=I2.after xK;have hx:=(I3.hok _ _ AF).1;have uq:(upd H1 d' (.xd [(a0Q "number", v)])) (hp.objs.size+1)=none:=by rw[AG (a5V hd2)];exact Aj
 have xO:(FW Y a).s₀.heap.objs.size<=hp.objs.size+1:=zN I1.sz (a6K _);have I4:=RJ (NG I3 uq xO);have Av:=(I3.pin (a,oe) (yW.mpr (.inr (a0J ..)))).1;have lo:Loose (FW Y a) (upd H1 d' (.xd [(a0Q "number", v)])) (hp.objs.size+1):=Loose.of I1 (a6K _) uq;refine⟨j_,hp.objs.size+1,hp.objs.size,some d',oe,vs,rfl,λe=>?_,I3.kIn _ _ lk,λe=>?_,hx,Av,hd,h2,λh' Je m3=>?_⟩;. have:=zM Jd;have e':a=hp.objs.size+1:=e.symm;rw[e'] at this;exact absurd this (by simp)
 . have:=zM hC;rw[e] at this;exact absurd this (by simp)
 . have I5:Inv (FW Y a) [] σ (upd H1 d' (.xd [(a0Q "number", v)])) { s' with heap:=h' }:=B6 (ch:=[hp.objs.size+1]) I4 (m3.mono (λb z=>absurd z (by simp)) λb z=>z) λb hb=>by
     have:b=hp.objs.size+1:=by simpa using hb
     rw[this];exact lo.ch
   exact⟨hp.objs.size+1,none,.ref C,some d',.ref a,σ,_,.none,rfl,E5 Jc I5,⟨⟨_,_,Je,rfl,rfl,rfl,rfl,rfl⟩,.inl rfl⟩,⟨lo.above,lo.loc,lo.cel,lo.fre,lo.pn⟩,λt e=>(by cases e),.inr ⟨d',v,rfl,AF⟩,q1 d' xM⟩
theorem lP {D1 D2 S1 S2:Addr}{i1 i2:Value}{body:List Stmt}{te:Expr}{wq lh:Pos}{ck:Nat}{cp:Pos}{tb:(St->XK)->TS}(bo:Y.stack=Y.env::Y.outer) (g_:Y.env.frame=some Y.env.locals) (c1:XCls Y.K D1 S1 i1) (c2:XCls Y.K D2 S2 i2) (c:XCls Y.K C S (.ref f)) (v0:b3Q Y.K (.ref f)=true) (F:FnOkA Y.prog Y.w Y.K Y.mg Y.base k f fd ps (D8 C (a0Q "number"))) (Aw:Binds Y.K fd ps []) (hr:RoomA (k+1) Y.A) (hg:Gl Y x) (hm:Y.mg x=some (.ref C)) (Jf:∀a,PE (FW Y a) te (Z7 (CT (tC (.ref D1)) (CT (tC (.ref D2)) O9)))) (ha:∀a,PA (FW Y a) [arg] t) (hb:∀(pn:List (Addr×Obj)) (R':St->XK),PSs ((pinned Y pn).wish (Fly (pinned Y pn) R')) body (tb R')) (cg:(x==("__debug__":Str))=false:=by decide) (he:starEach [arg] Y.env=[(false,eval arg Y.env)]:=by rfl) :
   PS (Y.wish (Fly Y R)) (.Try body [.ExceptHandler (some te) none [.Raise (some (.Call (.Name x np) [arg] [] ah)) (some (.Constant .none ck cp)) wq] lh] [] [] pos) (i3 Y.K D1 D2 C tb t R):=by
 intro pins s σ H D' I0 h;have I:=I0.unwish;have ok:=I.ok;refine wpAny_Try_except ?_;have bf:=hb (Y.pn++pins) _ [] s σ H D' ((YA I).wish _) h;refine wpAny_mono bf (λfl s1 q=>?_) λe s1 q=>?_
 . have q':=lO (E:=Fly Y R) (UD ok q.unwish);cases fl with
   | next=>exact wpAny_execs_nil q'
   | ret v=>exact q'
   | brk=>exact q'
   | cont=>exact q'
 . obtain⟨a,T,cls,dd,ar,σ',H',fl,rfl,J,⟨x1,qj⟩,la,lT,lx,ug,hE,r⟩:=q;have Jg:ar = .none:=lx.resolve_right hE;subst Jg;have I1:=DU ok J;have fr:Y.A.frames=some (Y.env::Y.outer):=by rw[<-bo];exact ok.frames
   have hl:s1.heap.FunFrames Y.base (Y.env::Y.outer):=by rw[<-bo];exact I1.stack
   refine GM fr hl g_ x1 qj λh2 T' x2 n2 m2=>?_;have vE:(Y.env::Y.outer).filterMap (·.frame)=frs Y.stack:=by rw[bo];rfl
   rw[vE] at m2;have lo:∀b,Loose (pinned Y (Y.pn++pins)) H' b->H' b=none/\Y.s₀.heap.objs.size<=b/\b≠Y.env.locals/\(∀x c,Y.env.cells.lookup x=some c->c≠b)/\∀p∈Y.pn++pins,p.1≠b:=λb l=>⟨l.fre,l.above,l.loc,l.cel,l.pn⟩
   have I2:Inv Y pins σ' H' { s1 with heap:=h2 }:=B6 I1 m2 λb hb=>by
     rcases yX.mp hb with q | q;. rw[q];exact lo _ la
     . exact lo _ (lT b (by cases T with | none=>simp at q | some t=>simp at q;rw[q]))
   have k_:=lo _ (n2.elim (λz=>lT T' z) λz=>Loose.of (b:=T') J z.2 (J.hok.fresh z.2));refine FE (s:={ s1 with heap:=h2 }) x2 λh3 x3 m3=>?_;have I3:Inv Y pins σ' H' { s1 with heap:=h3 }:=B6 (s:={ s1 with heap:=h2 }) (ch:=[T']) I2 (m3.mono (λb z=>absurd z (by simp)) λb z=>z) λb hb=>by
     have:b=T':=by simpa using hb
     rw[this];exact k_
   have I4:=NH I3 a;obtain⟨q1,q2,q3,q4,q5⟩:=lo _ la;obtain⟨oe,vs,Dg,Dh,Ax,xS,Di,Jh,ub,oT,ts,ky,jn,Ji⟩:=id x3;have Jj:h3.FunFrames Y.base (Y.env::Y.outer):=by rw[<-bo];exact I3.stack
   have za:∀{b:Addr}{o:Obj}{zs:Array Value},h3.get? b=some o->o.data = .fields zs->b∉Y.fs:=λ{b o zs} e1 e2 hm=>by obtain⟨_,o',ho,xD⟩:=Jj.mem (show b∈(Y.env::Y.outer).filterMap (·.frame) by rw[a5J,g_];exact yV _ hm);rw[e1] at ho;injection ho with ho;subst ho;exact xD zs e2
   have I5:Inv (FW Y a) ((a,oe)::(T',oT)::pins) σ' H' { s1 with heap:=h3 }:=NP (NP I4 ky k_.1 k_.2.2.1 (za ky jn) (λv e=>by rw[jn] at e;cases e)) Dg q1 q3 (za Dg xS) (λv e=>by rw[xS] at e;cases e);refine wpAny_handleBy_cons (codeAny_handlers_test (wpAny_mono (Jf a _ { s1 with heap:=h3 } σ' H' (λv H1=>∃p,v = .ref p/\H' p=none/\H1=upd H' p (.tup [.ref D1,.ref D2])) I5 ⟨by show 2<=sizeLine;decide,λp hp=>⟨p,rfl,hp,rfl⟩⟩) (λc5 s5 q=>?_) λ_ _ z=>z.elim)) (by intro q;cases q);obtain⟨v5,H5,I6,Jk,p,rfl,pz,rfl⟩:=q;cases Jk;have Ay:=(I6.pin (a,oe) (yW.mpr (.inr (a0J ..)))).1;have hT5:=(I6.pin (T',oT) (yW.mpr (.inr (yV _ (a0J ..))))).1;obtain⟨aa,Jl,Jm,_⟩:=I6.tuple (a:=p) (xs:=[.ref D1,.ref D2]) (.inl (.inl AF));obtain rfl:aa=[.ref D1,.ref D2]:=by
     cases Jl with
     | cons a1 r1=>cases r1 with
       | cons a2 r2=>cases r2;cases a1;cases a2;rfl
   have wV:oe.cls = .ref D1\/oe.cls = .ref D2:=by rw[Dh];exact ug
   refine qT c1 c2 I6.kIn Ay wV Jm (codeAny_handlers_suite ?_);have x5:IJ s5.heap a cls dd .none (some T') .none:=⟨oe,vs,Ay,Dh,Ax,xS,Di,Jh,ub,oT,ts,hT5,jn,Ji⟩
   refine FE (s:=s5) x5 λh6 x6 m6=>?_;have Dj:T'≠a:=ub;have Ky:h6.get? a=some oe:=m6.keep a oe Ay (by simp) (by simp[a5V Dj]);have I7:Inv (FW Y a) ((a,oe)::pins) σ' (upd H' p (.tup [.ref D1,.ref D2])) { s5 with heap:=h6 }:=by
     refine B6 (s:=s5) (ch:=[T']) (I6.pins_of λp' w_=>?_) (m6.mono (λb z=>absurd z (by simp)) λb z=>z) λb hb=>?_
     . rcases yX.mp w_ with rfl | z;. exact I6.pin _ (yW.mpr (.inr (a0J ..)))
       . exact I6.pin _ (yW.mpr (.inr (yV _ (yV _ z))))
     . have:b=T':=by simpa using hb
       subst this;refine⟨?_,k_.2.1,k_.2.2.1,k_.2.2.2.1,λp' w_=>?_⟩;. have:=(I6.pin (b,oT) (yW.mpr (.inr (yV _ (a0J ..))))).2.1;exact this
       . rcases yW.mp w_ with z | z;. exact k_.2.2.2.2 p' (yW.mpr (.inl z))
         . rcases yX.mp z with rfl | z;. exact a5V Dj
           . exact k_.2.2.2.2 p' (yW.mpr (.inr z))
   refine wpAny_mono (Q:=λ_ _=>False) (E:=Fly Y R) ?_ (λ_ _ z=>z.elim) (λe s' hf=>US bo g_ e s' hf);refine wpAny_execs_cons (wpAny_mono (aW (Y:=Y) (Q:=λ_ _=>False) c v0 F Aw hr hg hm (ha a) I7 ok xS Di (r p pz) cg he) (λ_ _ z=>z.elim) λ_ _ z=>z)
end
end XC
namespace DL
open PySem PySem.Spec L2 XC
open PyProof.Rows (envOfC AllBare)
section
variable {P:Program}{w:World}{K:Frg}{mg:Str->Option Value}{base:Heap}
structure HasRA (P:Program) (w:World) (K:Frg) (mg:Str->Option Value) (base:Heap) (x fn:Str) (C S:Addr):Prop where
 ex:∃(f:Addr) (fd:FuncData) (ps:List Str),XCls K C S (.ref f)/\b3Q K (.ref f)=true/\FnOkA P w K mg base 1 f fd ps (D8 C fn)/\Binds K fd ps []/\mg x=some (.ref C)
def YN (K:Frg) (mg:Str->Option Value) (x:Str) (C S:Addr):Prop:=(∃i,XCls K C S i)/\mg x=some (.ref C)
theorem HasR.cls {x fn:Str}{C S:Addr}(h:HasR P w K mg base x fn C S):YN K mg x C S:=let ⟨_,_,_,c,_,_,_,q⟩:=h.ex;⟨⟨_,c⟩,q⟩
theorem HasN.cls {x:Str}{C S:Addr}(h:HasN K mg x C S):YN K mg x C S:=⟨⟨_,h.c⟩,h.at_⟩
theorem tK (Y:Cx) (R:Rx) {D1 D2 C S S1 S2:Addr}{body:List Stmt}{arg:Expr}{x x1 x2:Str}{np ah wq lh pos p1 p2 tp cp:Pos}{ck:Nat}{tc:Nat}{tb:Rx->TS}{t:TA}(hK:Y.K=K) (hP:Y.prog=P) (hw:Y.w=w) (mr:Y.mg=mg) (vA:Y.base=base) (bo:Y.stack=Y.env::Y.outer) (g_:Y.env.frame=some Y.env.locals) (c1:YN K mg x1 D1 S1) (c2:YN K mg x2 D2 S2) (h:HasRA P w K mg base x (a0Q "number") C S) (hr:Room 2 Y.A) (g1:Gl Y x1) (g2:Gl Y x2) (hg:Gl Y x) (ha:∀a,PA (FW Y a) [arg] t) (hb:∀(pn:List (Addr×Obj)) (R':Rx),PSs ((pinned Y pn).wish (Fly (pinned Y pn) R')) body (tb R')) (hd:(x==("__debug__":Str))=false:=by decide) (xM:(x1==("__debug__":Str))=false:=by decide) (hd2:(x2==("__debug__":Str))=false:=by decide) (he:starEach [arg] Y.env=[(false,eval arg Y.env)]:=by rfl) :
   PS (Y.wish (Fly Y R)) (.Try body [.ExceptHandler (some (.Tuple [.Name x1 p1,.Name x2 p2] tc tp)) none [.Raise (some (.Call (.Name x np) [arg] [] ah)) (some (.Constant .none ck cp)) wq] lh] [] [] pos) (i3 K D1 D2 C tb t R):=by subst hK hP hw mr vA;obtain⟨⟨i1,q1⟩,m1⟩:=c1;obtain⟨⟨i2,q2⟩,m2⟩:=c2;obtain⟨f,fd,ps,c,hf,F,Aw,hm⟩:=h.ex;exact lP bo g_ q1 q2 c hf F Aw (.of hr) hg hm (λa=>QM (AR (AL g1 m1 xM) (AR (AL g2 m2 hd2) GH))) ha hb hd he
end
section
variable {K:Frg}{R:Rx}{ρ:List (Option DS)}{M:Own}{D:EndsD}{DX:DXK}{ta:TE}{tl:TA}{Q:DS->Own->Prop}
theorem qU {T:String}{r:V->List V->Hp->VK->Prop}(h:DE K ta ρ M λx M1=>DTy K T x M1/\DAx K R tl ρ M1 (λxs M2=>DM K r x xs M2 Q) DX):DEx K R (tBM K T r ta tl) ρ M Q DX:=λσ H QQ Rl k k5=>
 h σ H _ Rl λv H1 x M1 o1 s1 t1 ⟨h0,h1⟩=>⟨h0 H1 v o1 s1,h1 σ H1 _ (Rl.step o1 t1) (λvs H2 xs M2 o2 s2 t2 h2=>h2 H2 v vs QQ o2 (s1.step t2) s2 λw H3 z M3 o3 s3 t3 q=>k w H3 z M3 o3 s3 ((t1.trans t2).trans t3) q) (k5.step t1)⟩
theorem lQ {D1 D2 C:Addr}{tb:Rx->TS}{t:TA}(h:∀R',DXt K R' (tb R') ρ M D λρ' cls fs M'=>(cls = .ref D1\/cls = .ref D2)/\(∀z,fs≠[(a0Q "number", z)])/\DA K t ρ' M' λxs M1=>∃d,xs=[.d d]/\DX ρ' (.ref C) [(a0Q "number", d)] M1):DXt K R (i3 K D1 D2 C tb t R) ρ M D DX:=λσ H E Rl k1 k2 k3 k4 k5=>by
 refine h _ σ H E Rl k1 k2 k3 k4 λρ' cls fs M' σ' dd H' R' st xi ⟨hc,hf,q⟩=>⟨hc,?_,λp hp=>?_⟩
 . rintro⟨d,v,rfl,hd⟩
   match fs,xi with
   | [(n,z)],xi=> obtain⟨v',_,e,_⟩:=xi;rw[hd] at e;injection e with e;injection e with e;injection e with e1 e2;injection e1 with e1 e3;exact hf z (by rw[e1])
 . have g0:Step K M' M' H' (upd H' p (.tup [.ref D1,.ref D2])):=⟨AM _ hp⟩
   have R0:=R'.step (R'.own.new (o:=.tup [.ref D1,.ref D2]) hp) g0;refine q σ' _ _ R0 λvs H1 xs M1 o1 s1 t1 ⟨d,ex,z⟩=>?_;subst ex;obtain⟨v,r,rfl,sv,rfl⟩:=s1;refine⟨v,rfl,λe he=>?_⟩;have g:Step K M1 M1 H1 (upd H1 e (.xd [(a0Q "number", v)])):=⟨AM _ he⟩
   exact k5 ρ' _ [(a0Q "number", d)] M1 σ' (some e) _ ((R0.step o1 t1).step (o1.new he) g) (st.trans (g0.trans (t1.trans g))) ⟨v,λz=>z (o1.none he),AF,DV.grow g.grow sv⟩ z
end
end DL
namespace DL
open PySem PySem.Spec L2 XC
section
variable {K:Frg}{R:Rx}{ρ:List (Option DS)}{DX:DXK}{ta tb te:TE}{Q:DS->Own->Prop}{M:Own}
theorem i4 {r:R2}(h:DEx K R ta ρ M (λx M1=>DE K tb ρ M1 λy M2=>D2 K r x y M2 Q) DX):DEx K R (tOp r ta tb) ρ M Q DX:=λσ H QQ Rl k k5=>
 h σ H _ Rl (λv H1 x M1 o1 s1 t1 h1=>h1 σ H1 _ (Rl.step o1 t1) λu H2 y M2 o2 s2 t2 h2=>h2 H2 v u QQ o2 (s1.step t2) s2 λw H3 z M3 o3 s3 t3 q=>k w H3 z M3 o3 s3 ((t1.trans t2).trans t3) q) k5
theorem WY (h:DEx K R te ρ M (λv M1=>∃ds:List PyData,v = .d (.list ds)/\Q (.d (.tuple ds.reverse)) M1) DX):DEx K R (YM K te) ρ M Q DX:=λσ H QQ Rl k k5=>
 h σ H _ Rl (λv H1 x M1 o1 s1 t1 ⟨ds,e,q⟩=>by subst e;unfold SI DV at s1;obtain⟨a,vs,rfl,hl,hd⟩:=s1;refine⟨a,vs,rfl,hl.sq,λp hp=>?_⟩;have g:Grow K M1.W M1.W H1 (upd H1 p (.tup vs.reverse)):=AM _ hp;refine k _ _ (.d (.tuple ds.reverse)) M1 (o1.new hp) ?_ (t1.trans ⟨g⟩) q;unfold SI DV;exact⟨p,_,rfl,.inl ⟨λw=>w (o1.none hp),.inl AF⟩,(lM hd).grow g⟩) k5
end
section
variable {M:Own}{Q:DS->Own->Prop}{DX:Value->List (Str×PyData)->Own->Prop}{ys:List Str}{w u v:List Th}{D:Deed}{Ds:List Deed}{p:Addr}{x:DS}{n:Str}
def nnX (z:Str):List (Str×PyData):=[("name", .str z)]
def amB (ns:List Str) (D:Deed) (n:Str):Bool:=decide (n∈ns)==decide (D.made=some n)
theorem UT {ns:List Str}{k:Nat}(h:∀x∈D.names.take k,amB ns D x=false) (hn:D.names[k]?=some n) (hb:amB ns D n=true):AO ns D=some n:=by
 unfold AO;have e:D.names=D.names.take k++n::D.names.drop (k+1):=by
   obtain⟨hk,e⟩:=yT.mp hn
   conv=>lhs;rw[<-List.take_append_drop k D.names,List.drop_eq_getElem_cons hk,e]
 rw[e,List.find?_append,List.find?_eq_none.mpr λx hx=>by rw[show(decide (x∈ns)==decide (D.made=some x))=false from h x hx];exact nft];rw[Option.none_or];exact List.find?_cons_of_pos hb
theorem i5 {ns:List Str}(h:∀x∈D.names,amB ns D x=false):AO ns D=none:=by unfold AO;exact List.find?_eq_none.mpr λx hx=>by rw[show(decide (x∈ns)==decide (D.made=some x))=false from h x hx];exact nft
theorem YO:∀{Ds:List Deed}{w:List Th}{i j:Nat}{D:Deed},G8 w (Ds.take j)->i < j->Ds[i]?=some D->goD (wsF w Ds i) D
 | [],w,i,j,D,_,_,h=>by simp at h
 | E::r,w,0,j+1,D,hb,_,h=>by
   obtain rfl:E=D:=by simpa using h
   exact hb.1
 | E::r,w,i+1,j+1,D,hb,bc,h=>YO (Ds:=r) (w:=D9 w E) hb.2 (Nat.lt_of_succ_lt_succ bc) (by simpa using h)
 | E::r,w,_,0,D,_,bc,_=>absurd bc (Nat.not_lt_zero _)
def nrX (i:Nat):List (Str×PyData):=[(a0Q "number", .int (i:Nat))]
def NQ (w:List Th) (Ds:List Deed):PyData:=.tuple [wD (CB w Ds),.list (bkL w Ds Ds.length)]
def YQ (w:List Th) (Ds:List Deed):PyData:=wD (CB w Ds)
def NR (w:List Th) (Ds:List Deed):PyData:=.tuple ((bkS w Ds).reverse.map Deed.d)
structure Alk (v u:List Th):Prop where
 nd:(v.map (·.1)).Nodup
 lk:∀n,AE v n=AE u n
theorem Alk.amiss (h:Alk v u) (D:Deed):AO (v.map (·.1)) D=AO (u.map (·.1)) D:=by
 unfold AO;congr 1;funext n;have:(n∈v.map (·.1))↔(n∈u.map (·.1)):=by rw[FD,FD,h.lk]
 simp only[this]
theorem Alk.step (h:Alk v u) (hv:goD v D) (hu:goD u D):Alk (doT v D) (D9 u D):=by refine⟨(KA hv).1,λn=>?_⟩;rw[show AE (D9 u D) n=AE (doT u D) n from U7 (KA hu).1 n,CA hv.2.1 hv.2.2,CA hu.2.1 hu.2.2];cases D <;> simp only[h.lk]
end
end DL
namespace XC
open PySem PySem.Spec L2
section
variable {X:Cx}
def YR (K:Frg):List V->Hp->VK->Prop:=λxs H Q=>∃(a C p:Addr) (dd:Option Addr) (cs:List Addr) (b:Bool),xs=[.ref a,.ref p]/\H a=some (DL.exK a C dd)/\lB H dd/\XKit K C/\SqT K H p (cs.map V.ref)/\a7J K (.ref C) (cs.map a0X)=some b/\Q (.bl b) H
theorem UU:∀{cs:List Addr}{us:List Value},Vals (cs.map V.ref) us->us=cs.map a0X
 | [],_,.nil=>rfl
 | _::_,_,.cons r t=>by rw[UU t];cases r;rfl
theorem aX:B9 X (.builtin "isinstance") (YR X.K):=by
 intro pins s σ H vs us Q I r h;obtain⟨a,C,p,dd,cs,b,rfl,e,hd,k,ht,hb,q⟩:=h;obtain⟨ua,uc,rfl,ra,rc⟩:∃ua uc,us=[ua,uc]/\RelV (.ref a) ua/\RelV (.ref p) uc:=by
   cases r with
   | cons a1 r1=>cases r1 with
     | cons a2 r2=>cases r2;exact⟨_,_,rfl,a1,a2⟩
 cases ra;cases rc;obtain⟨aa,rv,⟨⟨c,dt,da,sl⟩,ho,e1,n,e2⟩,_⟩:=I.tuple ht;simp only at e1 e2;subst e1 e2;obtain rfl:=UU rv;obtain⟨ox,od,Io,_⟩:=UF I e hd;exact PySem.W.kia_tup (UE k) I.kIn ⟨ox,od,Io⟩ ho hb (by intro z;cases z) λtk=>⟨.bl b,H,I.tok tk,rfl,q⟩
end
end XC
namespace DL
open PySem PySem.Spec L2 XC
theorem n6 {X:Cx}{K:Frg}(h:X.K=K):B9 X (.builtin "isinstance") (YR K):=by subst h;exact aX
def i6:List Addr->TA
 | []=>O9
 | c::r=>CT (tC (.ref c)) (i6 r)
theorem UV:∀(cs:List Addr) {σ:St}{H:Hp}{Q:List V->Hp->Prop},Q (cs.map V.ref) H->i6 cs σ H Q
 | [],_,_,_,q=>q
 | c::r,_,_,_,q=>UV r q
section
variable {K:Frg}{ρ:List (Option DS)}{M:Own}{Q:DS->Own->Prop}{te:TE}
theorem lR (cs:List Addr) (hc:cs.length<=sizeLine) (h:DE K te ρ M λx M1=>∃(a C:Addr) (fs:List (Str×PyData)) (b:Bool),x = .loc a/\M1 a=some (.x C fs)/\XKit K C/\a7J K (.ref C) (cs.map a0X)=some b/\Q (.d (.bool b)) M1) :
   DE K (tCB (YR K) (CT te (CT (Z7 (i6 cs)) O9))) ρ M Q:=λσ H QQ R k=>
 h σ H _ R λv H1 x M1 o1 s1 t1 ⟨a,C,fs,b,e,m,kk,hb,q⟩=>by
   subst e;unfold SI at s1;subst s1;refine UV cs ⟨by rw[zX];exact hc,λp hp=>?_⟩;obtain⟨dd,e,xi⟩:=o1 a _ m;have g:Step K M1 M1 H1 (upd H1 p (.tup (cs.map V.ref))):=⟨AM _ hp⟩
   have o2:=o1.new (o:=.tup (cs.map V.ref)) hp;obtain⟨vY,e2,Jn⟩:=o2 a _ m;exact⟨a,C,p,vY,cs,b,rfl,e2,Jn.dd,kk,.inl (.inl AF),hb,k _ _ (.d (.bool b)) M1 o2 (by unfold SI DV;rfl) (t1.trans g) q⟩
end
end DL
namespace DL
open PySem PySem.Spec L2 XC
section
variable {K:Frg}{M:Own}{Q:DS->Own->Prop}{w u v:List Th}{D:Deed}{Ds:List Deed}{p:Addr}{x:DS}{k:Nat}
theorem i7 {ts:List (Str×PyData)}(de:ts.length < 64) (q:∀ss:List Str,ss.Perm (ts.map (·.1))->xH ss=true->Q (.d (.list (ss.map .str))) M):DR K (K4 K) [.d (.dict (AJ ts))] M Q:=λH vs QQ oa s k=>by obtain⟨v,r,rfl,h1,h2⟩:=s;cases h2;unfold SI DV at h1;obtain⟨a,ks,rfl,nw,e1,e2⟩:=h1;refine .inr (.inr ⟨a,ks,ts.map (·.1),rfl,e1,N1 e2,by rw[zX];exact de,λfu p h3 h4 hp=>?_⟩);have g:Grow K M.W M.W H (upd H p (.lst (fu.map V.str))):=AM _ hp;refine k _ _ (.d (.list (fu.map .str))) M (oa.new hp) ?_ ⟨g⟩ (q fu h3 h4);unfold SI DV;exact⟨p,_,rfl,.inl ⟨λw=>w (oa.none hp),.inl AF⟩,GL⟩
theorem UW {ρ:List (Option DS)}{te:TE}{c1 c2 c3 c4 c5 c6:Addr}(h:DE K te ρ M λx M1=>∃(a C:Addr) (fs:List (Str×PyData)) (b:Bool),x = .loc a/\M1 a=some (.x C fs)/\XKit K C/\a7J K (.ref C) ([c1,c2,c3,c4,c5,c6].map a0X)=some b/\Q (.d (.bool b)) M1) :
   DE K (tCB (YR K) (CT te (CT (Z7 (CT (tC (.ref c1)) (CT (tC (.ref c2)) (CT (tC (.ref c3)) (CT (tC (.ref c4)) (CT (tC (.ref c5)) (CT (tC (.ref c6)) O9))))))) O9))) ρ M Q:=lR [c1,c2,c3,c4,c5,c6] (by show 6<=sizeLine;decide) h
def GQ:FSp:=⟨λxs M=>∃v:List Th,xs=[.d (wQ v)]/\(v.map (·.1)).Nodup/\v.length < 60,λxs M y M'=>∀v:List Th,xs=[.d (wQ v)]->y = .d (wD (AW v))/\M'=M⟩
theorem UX (h:(v.map (·.1)).Nodup) (hl:v.length < 60) (q:Q (.d (wD (AW v))) M):[DS.d (wQ v)].length=1/\GQ.pre [.d (wQ v)] M/\∀y M',GQ.post [.d (wQ v)] M y M'->Q y M':=⟨rfl,⟨v,rfl,h,hl⟩,λy M' hh=>by obtain⟨rfl,rfl⟩:=hh v rfl;exact q⟩
end
end DL
namespace DL
open PySem PySem.Spec L2
section
variable {K:Frg}{ρ:List (Option DS)}{M:Own}{D:EndsD}{tl:TE}{tb:TS}{g:TG}
theorem aY {Q:DS->Own->Prop}{ds:List PyData}(q:∀p,M p=none->Q (.loc p) (M.put p (.l ds))):DR K (XY K) [.d (.tuple ds)] M Q:=λH vs QQ oa s k=>by obtain⟨v,r,rfl,h1,h2⟩:=s;cases h2;unfold SI DV at h1;obtain⟨a,vs,rfl,hl,hd⟩:=h1;refine⟨a,vs,rfl,.inr hl.sq,λp hp=>?_⟩;obtain⟨x,y⟩:=R5 oa hp hd;exact k _ _ (.loc p) _ x rfl y (q p (oa.none hp))
end
end DL
namespace DL
open PySem PySem.Spec L2 XC
section
variable {K:Frg}{M:Own}{Q:DS->Own->Prop}
theorem lS {ds:List PyData}{a:Addr}{i:Int}(hi:i=(ds.length:Int)) (q:Q (.loc a) M):D2 K (ZD K) (.tl ds a) (.d (.int i)) M Q:=EW (D7 λH v u QQ oa s1 s2 k=>by rw[BZ s2];unfold SI at s1;obtain⟨b,vs,rfl,hl,hd⟩:=s1;refine⟨b,vs++[.ref a],i,.ref a,rfl,rfl,hl.sq,?_,k _ H (.loc a) M oa rfl Step.refl q⟩;rw[hi,<-hd.length];exact AA (by simp))
theorem qV {X:Cx}{P:Program}{w:World}{mg:Str->Option Value}{base:Heap}{x:Str}{k:Nat}{S:FSp}{p pos:Pos}(hK:X.K=K) (hP:X.prog=P) (hw:X.w=w) (mr:X.mg=mg) (vA:X.base=base) (h:Has P w K mg base x k [] S) (hr:Room k X.A) (hg:Gl X x) (cg:(x==("__debug__":Str))=false:=by decide) :
   PE X (.Call (.Name x p) [] [] pos) (P0 (spD K 0 S) [] E0 O9):=by subst hK hP hw mr vA;obtain⟨f,fd,F,hm,hk,hb⟩:=h.ex;exact bY F hr hg hm hk hb .nil mR cg
end
end DL
namespace DL
open PySem PySem.Spec L2 XC
section
variable {M:Own}{Q:DS->Own->Prop}{DX:Value->List (Str×PyData)->Own->Prop}{ns:List Str}{w u v:List Th}{D:Deed}{Ds:List Deed}{ds:List PyData}{d:PyData}{p:Addr}{x:DS}{k:Nat}{cD cN cR:Addr}
def aZ (d:PyData):Prop:=LR d=false/\okP d
def QD (d:PyData):Prop:=(∃D:Deed,d=D.d/\D.real)\/aZ d
def YS (ns:List Str) (d:PyData) (cD cN C:Addr) (fs:List (Str×PyData)):Prop:=(∃(D:Deed) (z:Str),d=D.d/\D.real/\AO ns D=some z/\C=cN/\fs=nnX z)\/(aZ d/\C=cD/\fs=[])
def RV (ns:List Str) (d:PyData) (D:Deed):Prop:=d=D.d/\D.real/\AO ns D=none
def B7 (cD cN:Addr):FSpX:=⟨λxs M=>∃(p:Addr) (ts:List Th) (d:PyData),xs=[.loc p,.d d]/\M p=some (tsO ts)/\QD d,
 λxs M y M'=>∀(p:Addr) (ts:List Th) (d:PyData),xs=[.loc p,.d d]->M p=some (tsO ts)->∃D,RV (ts.map (·.1)) d D/\y = .d .none/\M'=M,
 λxs M cls fs M'=>∀(p:Addr) (ts:List Th) (d:PyData),xs=[.loc p,.d d]->M p=some (tsO ts)->∃C,cls = .ref C/\YS (ts.map (·.1)) d cD cN C fs/\M'=M⟩
theorem OI {ts:List Th}(m:M p=some (tsO ts)) (ha:QD d) (q:∀D,RV (ts.map (·.1)) d D->Q (.d .none) M) (q2:∀C fs,YS (ts.map (·.1)) d cD cN C fs->DX (.ref C) fs M) :
   [DS.loc p,.d d].length=2/\(B7 cD cN).pre [.loc p,.d d] M/\(∀x M',(B7 cD cN).post [.loc p,.d d] M x M'->Q x M')/\∀cls fs M',(B7 cD cN).xpost [.loc p,.d d] M cls fs M'->DX cls fs M':=
 ⟨rfl,⟨p,ts,d,rfl,m,ha⟩,λx M' h=>(by obtain⟨D,a,rfl,rfl⟩:=h p ts d rfl m;exact q D a),λcls fs M' h=>by obtain⟨C,rfl,a,rfl⟩:=h p ts d rfl m;exact q2 C fs a⟩
theorem EL {w w':List Th}{d d':PyData}(e:[DS.d (wD w),.d d]=[.d (wD w'),.d d']):w=w'/\d=d':=by simp only[List.cons.injEq,DS.d.injEq,and_true] at e;exact⟨IH e.1,e.2⟩
theorem RW {p p':Addr}{ts cj:List Th}{d d':PyData}{M:Own}(e:[DS.loc p,.d d]=[.loc p',.d d']) (m:M p=some (tsO ts)) (m':M p'=some (tsO cj)):p=p'/\ts=cj/\d=d':=by simp only[List.cons.injEq,DS.loc.injEq,DS.d.injEq,and_true] at e;obtain⟨rfl,rfl⟩:=e;exact⟨rfl,LS (Option.some.inj (m.symm.trans m')),rfl⟩
theorem QE (h:D.real):¬aZ D.d:=λn=>by have:=Y6 h;rw[n.1] at this;cases this
theorem OJ {P:Program}{w:World}{K:Frg}{mg:Str->Option Value}{base:Heap}{k:Nat}{ps:List Str}(h:HasX P w K mg base "refuse_undoable" k ps (B7 cD cN)):Has P w K mg base "refuse_undoable" k ps C8:=
 h.calm λxs M ⟨p,ts,D,e,m,hr,ha⟩=>⟨⟨p,ts,D.d,e,m,.inl ⟨D,rfl,hr⟩⟩,λy M' q=>(by obtain⟨_,_,h1,h2⟩:=q p ts D.d e m;exact⟨h1,h2⟩),λcls fs M' q=>by
   obtain⟨C,_,h1,_⟩:=q p ts D.d e m;rcases h1 with ⟨E,z,e1,_,e2,_⟩ | ⟨h2,_⟩
   . rw[<-C9 e1,ha] at e2;cases e2
   . exact QE hr h2⟩
def DW (cD cN:Addr):FSpX:=⟨λxs M=>∃(w:List Th) (d:PyData),xs=[.d (wD w),.d d]/\J5 w/\QD d,
 λxs M y M'=>∀(w:List Th) (d:PyData),xs=[.d (wD w),.d d]->∃D,RV (w.map (·.1)) d D/\y = .d (B2 w D).d/\M'=M,
 λxs M cls fs M'=>∀(w:List Th) (d:PyData),xs=[.d (wD w),.d d]->∃C,cls = .ref C/\YS (w.map (·.1)) d cD cN C fs/\M'=M⟩
theorem UY (hc:J5 w) (ha:QD d) (q:∀D,RV (w.map (·.1)) d D->Q (.d (B2 w D).d) M) (q2:∀C fs,YS (w.map (·.1)) d cD cN C fs->DX (.ref C) fs M) :
   [DS.d (wD w),.d d].length=2/\(DW cD cN).pre [.d (wD w),.d d] M/\(∀x M',(DW cD cN).post [.d (wD w),.d d] M x M'->Q x M')/\∀cls fs M',(DW cD cN).xpost [.d (wD w),.d d] M cls fs M'->DX cls fs M':=
 ⟨rfl,⟨w,d,rfl,hc,ha⟩,λx M' h=>(by obtain⟨D,a,rfl,rfl⟩:=h w d rfl;exact q D a),λcls fs M' h=>by obtain⟨C,rfl,a,rfl⟩:=h w d rfl;exact q2 C fs a⟩
def KD (w:List Th) (ds:List PyData):List DS:=[.d (wD w),.d (.tuple ds)]
structure rowQ15 (w:List Th) (ds:List PyData):Prop where
 fine:EI w
 few:w.length+ds.length < 60
 ask:∀d∈ds,QD d
def BV (w:List Th) (ds:List PyData) (Ds:List Deed):Prop:=ds=Ds.map Deed.d/\G8 w Ds
def EY (w:List Th) (ds:List PyData) (i:Nat):Prop:=∃Ds:List Deed,Ds.length=i/\BV w (ds.take i) Ds/\∃d,ds[i]?=some d/\(aZ d\/∃D,d=D.d/\D.real/\¬AO ((CB w Ds).map (·.1)) D=none)
def KF (cR:Addr) (f:List Th->List Deed->PyData):FSpX:=⟨λxs M=>∃(w:List Th) (ds:List PyData),xs=KD w ds/\rowQ15 w ds,
 λxs M y M'=>∀(w:List Th) (ds:List PyData),xs=KD w ds->∃Ds,BV w ds Ds/\y = .d (f w Ds)/\M'=M,
 λxs M cls fs M'=>∀(w:List Th) (ds:List PyData),xs=KD w ds->∃i,EY w ds i/\cls = .ref cR/\fs=nrX i/\M'=M⟩
theorem HG {f:List Th->List Deed->PyData}(h:rowQ15 w ds) (q:∀Ds,BV w ds Ds->Q (.d (f w Ds)) M) (q2:∀i,EY w ds i->DX (.ref cR) (nrX i) M) : (KD w ds).length=2/\(KF cR f).pre (KD w ds) M/\(∀x M',(KF cR f).post (KD w ds) M x M'->Q x M')/\∀cls fs M',(KF cR f).xpost (KD w ds) M cls fs M'->DX cls fs M':=⟨rfl,⟨w,ds,rfl,h⟩,λx M' hh=>(by obtain⟨Ds,a,rfl,rfl⟩:=hh w ds rfl;exact q Ds a),λcls fs M' hh=>by obtain⟨i,a,rfl,rfl,rfl⟩:=hh w ds rfl;exact q2 i a⟩
theorem FJ {w':List Th}{ip:List PyData}(e:KD w ds=KD w' ip):w=w'/\ds=ip:=by simp only[KD,List.cons.injEq,DS.d.injEq,PyData.tuple.injEq,and_true] at e;exact⟨IH e.1,e.2⟩
theorem bA {As Bs:List Deed}(h1:BV w ds As) (h2:BV w ds Bs):As=Bs:=KW (a:=As) (b:=Bs) (by rw[<-h1.1,<-h2.1])
theorem KG {i j:Nat}{As:List Deed}(h1:EY w ds i) (hj:i < j) (h2:BV w (ds.take j) As):False:=by
 obtain⟨Ds,hl,hg,d,hd,hs⟩:=h1;have hd2:(ds.take j)[i]?=some d:=by rw[List.getElem?_take_of_lt hj];exact hd
 rw[h2.1,zF] at hd2;obtain⟨E,hE,rfl⟩:∃E,As[i]?=some E/\E.d=d:=by
   cases h:As[i]? with
   | none=>rw[h] at hd2;cases hd2
   | some E=>rw[h] at hd2;exact⟨E,rfl,by simpa using hd2⟩
 have e1:As.take i=Ds:=KW (a:=As.take i) (b:=Ds) (by rw[List.map_take,<-h2.1,List.take_take,Nat.min_eq_left (xT hj),hg.1]);have uj:=YO (i:=i) (j:=As.length) (by rw[a3J];exact h2.2) (yT.mp hE).1 hE;rcases hs with h | ⟨D,e,_,ha⟩
 . exact QE uj.2.1 h
 . obtain rfl:=C9 e;refine ha ?_;have:=uj.2.2;unfold wsF at this;rwa [e1] at this
theorem UZ {i j:Nat}(h1:EY w ds i) (h2:EY w ds j):i=j:=by
 rcases b7Q i j with q | q | q;. obtain⟨As,_,hg,_⟩:=h2;exact(KG h1 q hg).elim
 . exact q
 . obtain⟨As,_,hg,_⟩:=h1;exact(KG h2 q hg).elim
theorem QF {i:Nat}{As:List Deed}(h1:EY w ds i) (h2:BV w ds As):False:=by
 have hi:i < ds.length:=by obtain⟨_,_,_,d,hd,_⟩:=h1;exact(yT.mp hd).1
 exact KG h1 hi (by rw[a3J];exact h2)
end
end DL
namespace L2
open PySem PySem.Spec PyProof.Rows
structure Src (P:Program) (w:World) (K:Frg) (j:Addr) (st:Nat->Heap->Prop) (tw:Hp->Nat->Prop) (has:Hp->Nat->V->Prop) (out:Hp->Nat->Prop):Prop where
 obj:∀i h,st i h->∃o,h.get? j=some o/\∀v,o.data≠.cell v
 keep:∀i h h',st i h->(∀o,h.get? j=some o->h'.get? j=some o)->st i h'
 item:∀{X:Cx}{pins:List (Addr×Obj)}{σ:St}{H:Hp}{s:Shared}{i:Nat}{fp:List Addr},Inv X pins σ H s->X.K=K->(∀c∈fp,JW X pins H c)->tw H i->st i s.heap->j∈fp ->∃(x:V) (F:List Addr) (S S':Heap->Prop) (R:Value->Prop),has H i x/\(∀c∈F,c=j\/c∉fp)/\E2 F S/\E2 F S'/\(∀A,NxI P w A j S S' R)/\S s.heap/\(∀u,R u->RelV x u)/\∀h,S' h->st (i+1) h
 done:∀{X:Cx}{pins:List (Addr×Obj)}{σ:St}{H:Hp}{s:Shared}{i:Nat}{fp:List Addr},Inv X pins σ H s->X.K=K->(∀c∈fp,JW X pins H c)->out H i->st i s.heap->j∈fp ->∃(F:List Addr) (S:Heap->Prop),(∀c∈F,c=j\/c∉fp)/\E2 F S/\(∀A:Around,A.handled=none->NxE P w A j S)/\S s.heap
def Itg (c1 c2:Hp->Nat->Prop) (h1 h2:Hp->Nat->V->Prop) (o1 o2:Hp->Nat->Prop):It:=⟨λi H=>c1 H i/\c2 H i,λi H v H'=>∃p a b,H p=none/\v = .ref p/\H'=upd H p (.tup [a,b])/\h1 H i a/\h2 H i b,λi H=>o1 H i\/c1 H i/\o2 H i⟩
theorem bB {P:Program}{w:World}{K:Frg}{mz:List Expr}{kk:Nat}{kc:Pos}(z TI TO i1 i2:Addr) {s1 s2:Nat->Heap->Prop}{c1 c2:Hp->Nat->Prop}{h1 h2:Hp->Nat->V->Prop}{o1 o2:Hp->Nat->Prop}(A1:Src P w K i1 s1 c1 h1 o1) (A2:Src P w K i2 s2 c2 h2 o2) (d1:TI≠z) (d2:TO≠z) (d3:i1≠z) (d4:i2≠z) (d5:TI≠TO) (d6:TI≠i1) (d7:TI≠i2) (d8:TO≠i1) (d9:TO≠i2) (wG:i1≠i2) :
   Turn P w K (.Tuple mz kk kc) (Itg c1 c2 h1 h2 o1 o2) [z,TI,TO,i1,i2] z (λi h=>IsZip h z TI TO .none/\IsPair h TI (.ref i1) (.ref i2)/\(∃a b,IsPair h TO a b)/\s1 i h/\s2 i h) where
 mem:=by simp
 obj:=λi h ⟨a1,a2,⟨x,y,a3⟩,a4,a5⟩ b hb=>by
   simp only[yX,xX,or_false] at hb;rcases hb with rfl | rfl | rfl | rfl | rfl;. exact⟨_,a1,λv q=>by cases q⟩
   . exact⟨_,a2,λv q=>by cases q⟩
   . exact⟨_,a3,λv q=>by cases q⟩
   . exact A1.obj i h a4
   . exact A2.obj i h a5
 keep:=λi h h' ⟨a1,a2,⟨x,y,a3⟩,a4,a5⟩ k=>⟨k z (by simp) _ a1,k TI (by simp) _ a2,⟨x,y,k TO (by simp) _ a3⟩,A1.keep i h h' a4 λo e=>k i1 (by simp) o e,A2.keep i h h' a5 λo e=>k i2 (by simp) o e⟩
 item:=by
   intro X hP hw hK hc i pins s σ H E I hf ⟨a1,a2,⟨x0,y0,a3⟩,a4,a5⟩ ⟨hx,hy⟩;subst hP hw;obtain⟨x,F1,S1,tu,R1,qf,f1,t1,wa,n1,q1,r1,e1⟩:=A1.item I hK hf hx a4 (by simp);obtain⟨y,F2,S2,vq,R2,Jo,f2,t2,w8,n2,q2,r2,e2⟩:=A2.item I hK hf hy a5 (by simp);have D:ZAp z TI TO i1 i2 F1 F2:=⟨d2,d3,d4,d8,d9,wG,λc hc=>by
       rcases f1 c hc with rfl | hn;. exact⟨d3,d8.symm,wG⟩
       . simp only[yX,xX,or_false,not_or] at hn;exact⟨hn.1,hn.2.2.1,hn.2.2.2.2⟩,λc hc=>by
       rcases f2 c hc with rfl | hn;. exact⟨d4,d9.symm,wG.symm⟩
       . simp only[yX,xX,or_false,not_or] at hn;exact⟨hn.1,hn.2.2.1,hn.2.2.2.1⟩⟩
   refine ZR D t1 wa t2 w8 n1 n2 a1 a2 a3 q1 q2 (λh q=>let ⟨o,e,_⟩:=A1.obj _ h (e1 h q);zM e) (λh q=>let ⟨o,e,_⟩:=A2.obj _ h (e2 h q);zM e) λh' tk u1 u2 Jp Jq b1 b2 b3 b4 b5 b6 hk=>?_;refine⟨_,rfl,wpAny_letOwnedTupleGo_zip (s:={ s with heap:=h',toks:=tk }) b1 λh2 c1 sb=>?_⟩;have lt:∀{c o},s.heap.get? c=some o->s.heap.objs.size≠c:=λe=>a4J (zM e);have keep:∀b o,b∉[z,TO,i1,i2]->s.heap.get? b=some o->h2.get? b=some o:=λb o hb e=>by simp only[yX,xX,or_false,not_or] at hb;exact sb.extBut b o hb.1 (hk b o hb.1 hb.2.1 hb.2.2.1 hb.2.2.2 e)
   have sub:∀b∈[z,TO,i1,i2],b∈[z,TI,TO,i1,i2]:=λb hb=>by simp only[yX,xX,or_false] at hb ⊢;rcases hb with h | h | h | h <;> simp[h]
   have I1:Inv X pins σ (upd H s.heap.objs.size (.tup [x,y])) { s with heap:=h2,toks:=tk }:=I.turnedT (t':=tk) (ch:=[z,TO,i1,i2]) keep (λb hb=>(hf b (sub b hb)).1) (λb hb=>let q:=hf b (sub b hb);⟨q.2.2.2.1,q.2.1,q.2.2.2.2.1,q.2.2.2.2.2⟩) (zR _) ⟨by show 2<=sizeLine;decide,[u1,u2],.cons (r1 _ Jp) (.cons (r2 _ Jq) .nil),⟨_,sb.extBut _ _ (lt a1) b5,rfl,_,rfl⟩⟩;refine⟨.ref s.heap.objs.size,_,I1,rfl,⟨s.heap.objs.size,x,y,I.hok.fresh (zR _),rfl,rfl,qf,Jo⟩,⟨c1,keep _ _ (by simp[d1,d5,d6,d7]) a2,⟨_,_,sb.extBut _ _ d2 b2⟩,A1.keep _ _ _ (e1 _ b3) λo e=>sb.extBut _ _ d3 e,A2.keep _ _ _ (e2 _ b4) λo e=>sb.extBut _ _ d4 e⟩,λb hb=>?_⟩;rw[AG λe=>?_];. exact(hf b hb).1
   . obtain⟨o,q,_⟩:∃o,s.heap.get? b=some o/\True:=by
       simp only[yX,xX,or_false] at hb;rcases hb with rfl | rfl | rfl | rfl | rfl;. exact⟨_,a1,trivial⟩
       . exact⟨_,a2,trivial⟩
       . exact⟨_,a3,trivial⟩
       . obtain⟨o,e,_⟩:=A1.obj _ _ a4;exact⟨o,e,trivial⟩
       . obtain⟨o,e,_⟩:=A2.obj _ _ a5;exact⟨o,e,trivial⟩
     exact lt q e.symm
 done:=by
   intro X hP hw hK hc i pins s σ H E I hf ⟨a1,a2,⟨x0,y0,a3⟩,a4,a5⟩ hg;subst hP hw;have sub:∀b∈[z,TO,i1,i2],b∈[z,TI,TO,i1,i2]:=λb hb=>by simp only[yX,xX,or_false] at hb ⊢;rcases hb with h | h | h | h <;> simp[h]
   have mk:∀{F1 F2:List Addr},(∀c∈F1,c=i1\/c∉[z,TI,TO,i1,i2])->(∀c∈F2,c=i2\/c∉[z,TI,TO,i1,i2])->ZAp z TI TO i1 i2 F1 F2:=λf1 f2=>⟨d2,d3,d4,d8,d9,wG,λc hc=>by
       rcases f1 c hc with rfl | hn;. exact⟨d3,d8.symm,wG⟩
       . simp only[yX,xX,or_false,not_or] at hn;exact⟨hn.1,hn.2.2.1,hn.2.2.2.2⟩,λc hc=>by
       rcases f2 c hc with rfl | hn;. exact⟨d4,d9.symm,wG.symm⟩
       . simp only[yX,xX,or_false,not_or] at hn;exact⟨hn.1,hn.2.2.1,hn.2.2.2.1⟩⟩
   refine ZS (TI:=TI) (TO:=TO) (i1:=i1) (i2:=i2) (I.ok.hd hc) a1 (λQ' E' Dk A' Dl=>?_) λh' tk hk=>⟨rfl,I.turnedL (t':=tk) (ch:=[z,TO,i1,i2]) (λb o hb e=>?_) (λb hb=>(hf b (sub b hb)).1) λb hb=>let q:=hf b (sub b hb);⟨q.2.2.2.1,q.2.1,q.2.2.2.2.1,q.2.2.2.2.2⟩⟩
   . rcases hg with ho | ⟨hx,ho⟩
     . obtain⟨F1,S1,f1,t1,n1,q1⟩:=A1.done I hK hf ho a4 (by simp);exact ZP (F2:=[]) (mk f1 (by simp)) t1 (n1 A' Dl) a1 a2 a3 q1 Dk
     . obtain⟨x,F1,S1,tu,R1,_,f1,t1,wa,n1,q1,r1,e1⟩:=A1.item I hK hf hx a4 (by simp);obtain⟨F2,S2,f2,t2,n2,q2⟩:=A2.done I hK hf ho a5 (by simp);exact ZQ (mk f1 f2) t1 t2 (n1 A') (n2 A' Dl) a1 a2 a3 q1 q2 Dk
   . simp only[yX,xX,or_false,not_or] at hb;exact hk b o hb.1 hb.2.1 hb.2.2.1 hb.2.2.2 e
 self:=λ_ _ _ _ _ st h=>wpAny_pyIter_zip st.1 h
theorem lU {P:Program}{w:World}{K:Frg}(j l:Addr):Src P w K j (λi h=>h.IsTupleIter j l i) (λH i=>∃xs,SqT K H l xs/\i < xs.length) (λH i x=>∀xs,SqT K H l xs->xs[i]?=some x) (λH i=>∃xs,SqT K H l xs/\xs.length<=i) where
 obj:=λi h ⟨o,e,c,d⟩=>⟨o,e,λv q=>by rw[d] at q;cases q⟩
 keep:=λi h h' st k=>st.at k
 item:=by
   intro X pins σ H s i fp I hK hf ⟨xs,hx,lx⟩ st hj;subst hK;obtain⟨aa,rx,px,_⟩:=I.tuple hx;obtain⟨u,hu,ru⟩:=rx.get (zV lx);have ne:∀c∈fp,l≠c:=λc hc=>MY I (hf c hc) hx;have t:∀k,E2 [j,l] (λh=>h.IsTupleIter j l k/\h.IsTuple l aa.toArray):=λk h h' ⟨⟨o,e,r⟩,⟨o',e',r'⟩⟩ q=>⟨⟨o,q j (by simp) o e,r⟩,⟨o',q l (by simp) o' e',r'⟩⟩
   exact⟨_,[j,l],_,_,λv=>v=u,λys hy=>by rw[I.tuple_inj hy hx];exact zV lx,λc hc=>by
     rcases yX.mp hc with rfl | hc;. exact .inl rfl
     . have:c=l:=by simpa using hc
       subst this;exact .inr λq=>ne _ q rfl,t i,t (i+1),λA=>eI (ne j hj) (by simpa using hu),⟨st,px⟩,λv e=>e▸ru,λh q=>q.1⟩
 done:=by
   intro X pins σ H s i fp I hK hf ⟨xs,hx,ex⟩ st hj;subst hK;obtain⟨aa,rx,px,_⟩:=I.tuple hx;have ne:∀c∈fp,l≠c:=λc hc=>MY I (hf c hc) hx;have hn:aa.toArray[i]?=none:=b7W (by have:=rx.length;simp;omega);exact⟨[j,l],λh=>h.IsTupleIter j l i/\h.IsTuple l aa.toArray,λc hc=>by
     rcases yX.mp hc with rfl | hc;. exact .inl rfl
     . have:c=l:=by simpa using hc
       subst this;exact .inr λq=>ne _ q rfl,λh h' ⟨⟨o,e,r⟩,⟨o',e',r'⟩⟩ q=>⟨⟨o,q j (by simp) o e,r⟩,⟨o',q l (by simp) o' e',r'⟩⟩,λA hA=>aQ hA hn,⟨st,px⟩⟩
theorem lV {P:Program}{w:World}{K:Frg}(j:Addr) (x:Str) (t:Tok):Src P w K j (λi h=>h.IsStrIter j "str_ascii_iterator" x t i) (λH i=>i < x.cps.size) (λH i v=>∃c,x.cps[i]?=some c/\v = .str ⟨#[c]⟩) (λH i=>x.cps.size<=i) where
 obj:=λi h ⟨o,e,c,d⟩=>⟨o,e,λv q=>by rw[d] at q;cases q⟩
 keep:=λi h h' ⟨o,e,r⟩ k=>⟨o,k o e,r⟩
 item:=λI hK hf e st hj=>⟨_,[j],_,_,_,⟨_,b1J e,rfl⟩,λc hc=>.inl (by simpa using hc),λh h' ⟨o,e,r⟩ q=>⟨o,q j (by simp) o e,r⟩,λh h' ⟨o,e,r⟩ q=>⟨o,q j (by simp) o e,r⟩,λA=>eG (b1J e),st,λu r=>r,λh q=>q⟩
 done:=λI hK hf ho st hj=>⟨[j],_,λc hc=>.inl (by simpa using hc),λh h' ⟨o,e,r⟩ q=>⟨o,q j (by simp) o e,r⟩,λA hA=>ZT hA (b7W ho),st⟩
def lW (K:Frg) (H:Hp) (u:V) (tw:Hp->Nat->Prop) (has:Hp->Nat->V->Prop) (out:Hp->Nat->Prop):Prop:=(∃l,u = .ref l/\(∃xs,SqT K H l xs)/\(tw=λH i=>∃xs,SqT K H l xs/\i < xs.length)/\(has=λH i x=>∀xs,SqT K H l xs->xs[i]?=some x)/\out=λH i=>∃xs,SqT K H l xs/\xs.length<=i) \/∃x:Str,u = .str x/\x.cps.all (· < 128)=true/\(tw=λ_ i=>i < x.cps.size)/\(has=λ_ i v=>∃c,x.cps[i]?=some c/\v = .str ⟨#[c]⟩)/\out=λ_ i=>x.cps.size<=i
theorem V0 {X:Cx}{pins:List (Addr×Obj)}{σ:St}{H:Hp}{s:Shared}{u:V}{v:Value}{tw:Hp->Nat->Prop}{has:Hp->Nat->V->Prop}{out:Hp->Nat->Prop}(I:Inv X pins σ H s) (h:lW X.K H u tw has out) (r:RelV u v) : ∃(o:Obj) (Pre:Heap->Prop) (st:Addr->Nat->Heap->Prop),MX v o Pre/\(∀h o,Pre h->Pre (h.push o))/\o.isFreed=false/\Pre s.heap/\∀j,Src X.prog X.w X.K j (st j) tw has out/\∀h:Heap,h.get? j=some o->st j 0 h:=by
 rcases h with ⟨l,rfl,⟨xs,hx⟩,rfl,rfl,rfl⟩ | ⟨x,rfl,hx,rfl,rfl,rfl⟩
 . cases r;obtain⟨aa,rx,px,_⟩:=I.tuple hx;exact⟨_,_,λj i h=>h.IsTupleIter j l i,kL (items:=aa.toArray),λh o q=>q.push o,rfl,px,λj=>⟨lU j l,λh e=>⟨_,e,rfl,rfl⟩⟩⟩
 . obtain⟨t,rfl⟩:=r;exact⟨_,_,λj i h=>h.IsStrIter j "str_ascii_iterator" x t i,ZU hx,λh o q=>q,rfl,trivial,λj=>⟨lV j x t,λh e=>⟨_,e,rfl,rfl⟩⟩⟩
section
variable {X:Cx}{K:Frg}
def n8 (K:Frg) (ta:TA):TI:=λσ H R=>ta σ H λvs H1=>∃u v c1 c2 h1 h2 o1 o2,vs=[u,v]/\lW K H1 u c1 h1 o1/\lW K H1 v c2 h2 o2/\R (Itg c1 c2 h1 h2 o1 o2) H1
theorem tL {a b:Expr}{ta:TA}{p pos:Pos}{mz:List Expr}{kk:Nat}{kc:Pos}(h:X.K=K) (hg:Gl X "zip") (hm:X.mg "zip"=none) (ha:PA X [a,b] ta) (hs:starEach [a,b] X.env=[(false,eval a X.env),(false,eval b X.env)]:=by rfl) (Dm:starEach [b] X.env=[(false,eval b X.env)]:=by rfl) :
   PI X (.Tuple mz kk kc) (.Call (.Name "zip" p) [a,b] [] pos) (n8 K ta):=by
 subst h;intro pins s σ H R I h;refine Call_ (GG I hg hm boot_zip (xI (thn (ha pos pins s σ H _ I h) λus s1 ⟨vs,H1,I1,r1,q1⟩=>?_) (by rw[hs,Dm]) (by rw[Dm];rfl)));have ne:∀(m n:Nat),m≠n->s1.heap.objs.size+m≠s1.heap.objs.size+n:=λm n h e=>h (Nat.add_left_cancel e);obtain⟨u,v,c1,c2,h1,h2,o1,o2,rfl,z1,z2,q⟩:=q1;cases r1 with
 | cons r rr=>
   cases rr with
   | cons r' rr=>
     cases rr;obtain⟨p1,P1,t1,n1,ur,f1,g1,A1⟩:=V0 I1 z1 r;obtain⟨p2,P2,t2,n2,ik,f2,g2,A2⟩:=V0 I1 z2 r';refine ZV n1 n2 ik f1 f2 g1 g2 λh' b1 b2 b3 b4 b5 hk=>?_;refine wpAny_pyIter_zip (s:={ s1 with heap:=h' }) b1 ?_;refine⟨s1.heap.objs.size+4,[s1.heap.objs.size+4,s1.heap.objs.size+2,s1.heap.objs.size+3,s1.heap.objs.size,s1.heap.objs.size+1],_,_,H1,rfl,I1.kept (t':=s1.toks) hk,
       bB (s1.heap.objs.size+4) (s1.heap.objs.size+2) (s1.heap.objs.size+3) s1.heap.objs.size (s1.heap.objs.size+1) (A1 _).1 (A2 _).1 (ne 2 4 (by decide)) (ne 3 4 (by decide)) (ne 0 4 (by decide)) (ne 1 4 (by decide)) (ne 2 3 (by decide)) (ne 2 0 (by decide)) (ne 2 1 (by decide)) (ne 3 0 (by decide)) (ne 3 1 (by decide)) (ne 0 1 (by decide)),
       ⟨b1,b2,⟨_,_,b3⟩,(A1 _).2 _ b4,(A2 _).2 _ b5⟩,λb hb=>?_,q⟩;have hle:s1.heap.objs.size<=b:=by simp only[yX,xX,or_false] at hb;rcases hb with rfl | rfl | rfl | rfl | rfl <;> first | exact zR _ | exact Nat.le_add_right _ _
     exact I1.fpOk hle (I1.hok.fresh hle)
end
end L2
namespace DL
open PySem PySem.Spec L2
section
variable {K:Frg}{ρ:List (Option DS)}{M:Own}{QI:List PyData->Own->Prop}
def qW (d:PyData) (as:List PyData):Prop:=d = .tuple as\/∃z:Str,d = .str z/\z.cps.all (· < 128)=true/\as=BM z
theorem V1 {H:Hp}{M:Own}{d:PyData}{as:List PyData}{v:V}(hz:qW d as) (s:SI K H M (.d d) v):∃tw has out,lW K H v tw has out/\∀H' M',Step K M M' H H'->(∀i,i < as.length->tw H' i)/\(∀i,as.length<=i->out H' i)/\∀i x,has H' i x->∃e,as[i]?=some e/\DV K H' M'.W e x:=by
 rcases hz with rfl | ⟨z,rfl,ha,rfl⟩
 . unfold SI DV at s;obtain⟨a,vs,rfl,hl,hd⟩:=s;refine⟨_,_,_,.inl ⟨a,rfl,⟨vs,hl.sq⟩,rfl,rfl,rfl⟩,λH' M' st=>⟨λi hi=>⟨vs,(hl.grow st.grow).sq,by rw[hd.length];exact hi⟩,λi hi=>⟨vs,(hl.grow st.grow).sq,by rw[hd.length];exact hi⟩,λi x h=>?_⟩⟩;obtain⟨e,e1,e2⟩:=hd.get (h vs (hl.grow st.grow).sq);exact⟨e,e1,e2.grow st.grow⟩
 . have af:(BM z).length=z.cps.size:=by simp[BM]
   rw[show v = .str z by unfold SI DV at s;exact s];refine⟨_,_,_,.inr ⟨z,rfl,ha,rfl,rfl,rfl⟩,λH' M' st=>⟨λi hi=>by rw[af] at hi;exact hi,λi hi=>by rw[af] at hi;exact hi,?_⟩⟩;rintro i x ⟨c,e1,rfl⟩;exact⟨.str ⟨#[c]⟩,by unfold BM;rw[zF];simp[e1],by unfold DV;rfl⟩
theorem lX {ta:TA}(h:DA K ta ρ M λxs M1=>∃d e as bs,xs=[.d d,.d e]/\qW d as/\qW e bs/\QI (T6 as bs) M1):DI K (n8 K ta) ρ M QI:=λσ H R Rl k=>
 h σ H _ Rl λvs H1 xs M1 o1 s1 t1 ⟨d,e,as,bs,ex,z1,z2,q⟩=>by
   subst ex;obtain⟨v,r,rfl,h1,v2,r2,rfl,h2,h3⟩:=s1;cases h3;obtain⟨c1,g1,u1,y1,f1⟩:=V1 z1 h1;obtain⟨c2,g2,u2,y2,f2⟩:=V1 z2 h2;have af:(T6 as bs).length=min as.length bs.length:=by unfold T6;rw[zX,List.length_zip]
   refine⟨v,v2,c1,c2,g1,g2,u1,u2,rfl,y1,y2,k _ (T6 as bs) H1 M1 o1 t1 ⟨λi H' M' hi oa st=>?_,λH' M' oa st=>?_,λi H' M' x H2 oa st hi y=>?_⟩ q⟩;. rw[af] at hi;exact⟨(f1 H' M' st).1 i (by omega),(f2 H' M' st).1 i (by omega)⟩
   . rw[af];by_cases hle:as.length<=bs.length;. exact .inl ((f1 H' M' st).2.1 _ (by omega))
     . exact .inr ⟨(f1 H' M' st).1 _ (by omega),(f2 H' M' st).2.1 _ (by omega)⟩
   . obtain⟨p,xa,xb,hp,rfl,rfl,hx,hy⟩:=y;obtain⟨da,a1,a2⟩:=(f1 H' M' st).2.2 i xa hx;obtain⟨db,b1,b2⟩:=(f2 H' M' st).2.2 i xb hy;have gg:Grow K M'.W M'.W H' (upd H' p (.tup [xa,xb])):=AM _ hp;refine⟨oa.new hp,⟨gg⟩,.tuple [da,db],?_,?_⟩;. unfold T6;rw[zF,show(as.zip bs)[i]?=some (da,db) by rw[a8Q];exact⟨a1,b1⟩];rfl
     . unfold DV;exact⟨p,_,rfl,.inl ⟨λw=>w (oa.none hp),.inl AF⟩,DVs.cons (a2.grow gg) (DVs.cons (b2.grow gg) DVs.nil)⟩
end
end DL
namespace DL
open PySem PySem.Spec L2 XC
section
variable {M:Own}{Q:DS->Own->Prop}{ys:List Str}{w u v:List Th}{D:Deed}{Ds:List Deed}{ds:List PyData}{d:PyData}{p a:Addr}{x:DS}{k i:Nat}{s:Int}{b:Bool}{cR:Addr}
theorem i8 (hQ:rowQ15 w ds) (hl:Ds.length=k) (hg:BV w (ds.take k) Ds) (ha:Alk v (CB w Ds)) (hd:ds[k]?=some D.d) (hv:goD v D):BV w (ds.take (k+1)) (Ds++[D])/\Alk (doT v D) (CB w (Ds++[D]))/\goD (CB w Ds) D:=by
 have hk:=(yT.mp hd).1;have qh:=hQ.few;have hP:rowP w Ds:=⟨hQ.fine,hg.2,by lia⟩
 obtain⟨f1,f2⟩:=UR hP;have hu:goD (CB w Ds) D:=⟨⟨f1.1.nodup,by lia⟩,hv.2.1,by rw[<-ha.amiss];exact hv.2.2⟩
 refine⟨⟨by rw[b0K,hd,hg.1,xJ];rfl,NN.mpr ⟨hg.2,hu,trivial⟩⟩,?_,hu⟩;rw[RU];exact ha.step hv hu
theorem NS (hQ:rowQ15 w ds) (hl:Ds.length=k) (hg:BV w (ds.take k) Ds) (hk:k<=ds.length):EI (CB w Ds)/\J5 (CB w Ds):=by
 have qh:=hQ.few;have hP:rowP w Ds:=⟨hQ.fine,hg.2,by lia⟩
 obtain⟨f1,f2⟩:=UR hP;exact⟨f1,f1.1.nodup,by lia⟩
structure Due15 (ys:List Str) (w:List Th) (ds:List PyData) (s:Int):Prop where
 th:There ys w
 few:ys.length < 40
 row:rowQ15 w ds
 els:∀(k:Nat) (d:PyData),ds[k]?=some d->((k:Int)=s/\aZ d)\/(¬(k:Int)=s/\∃D,d=D.d/\BU ys D)
def duX (w:List Th) (ds:List PyData) (s:Int):List DS:=[.d (wD w),.d (.tuple ds),.d (.int s)]
theorem lY {w':List Th}{ip:List PyData}{s':Int}(e:duX w ds s=duX w' ip s'):w=w'/\ds=ip:=by simp only[duX,List.cons.injEq,DS.d.injEq,PyData.tuple.injEq,and_true] at e;exact⟨IH e.1,e.2.1⟩
def i9 (w:List Th) (ds:List PyData) (y:PyData):Prop:=(∃i:Nat,EY w ds i/\y = .tuple [.int i,.none])\/∃Ds,BV w ds Ds/\y = .tuple [.none,wD (CB w Ds)]
def JG:FSp:=⟨λxs M=>∃(ys:List Str) (w:List Th) (ds:List PyData) (s:Int),xs=duX w ds s/\Due15 ys w ds s,λxs M y M'=>∀(w:List Th) (ds:List PyData) (s:Int),xs=duX w ds s->(∃d,y = .d d/\i9 w ds d)/\M'=M⟩
theorem WZ (h:Due15 ys w ds s) (q:∀d,i9 w ds d->Q (.d d) M):(duX w ds s).length=3/\JG.pre (duX w ds s) M/\∀y M',JG.post (duX w ds s) M y M'->Q y M':=⟨rfl,⟨ys,w,ds,s,rfl,h⟩,λy M' hh=>by obtain⟨⟨d,rfl,h1⟩,rfl⟩:=hh w ds s rfl;exact q d h1⟩
def aqX (w:List Th) (ds:List PyData) (b:Bool):List DS:=[.d (wD w),.d (.tuple ds),.d (.bool b)]
theorem LZ {w':List Th}{ip:List PyData}{b':Bool}(e:aqX w ds b=aqX w' ip b'):w=w'/\ds=ip/\b=b':=by simp only[aqX,List.cons.injEq,DS.d.injEq,PyData.tuple.injEq,PyData.bool.injEq,and_true] at e;exact⟨IH e.1,e.2.1,e.2.2⟩
def qX (b:Bool) (w:List Th) (Ds:List Deed):PyData:=if b then NR w Ds else YQ w Ds
def DY (cR:Addr):FSp:=⟨λxs M=>∃(w:List Th) (ds:List PyData) (b:Bool),xs=aqX w ds b/\rowQ15 w ds,λxs M y M'=>∀(w:List Th) (ds:List PyData) (b:Bool),xs=aqX w ds b->(∃Ds,BV w ds Ds/\y = .d (.tuple [qX b w Ds,.none])/\M'=M)\/∃(i:Nat) (a:Addr),EY w ds i/\M a=none/\y = .tl [.none] a/\M'=M.put a (.x cR (nrX i))⟩
theorem NT (h:rowQ15 w ds) (hg:BV w ds Ds) (q:Q (.d (.tuple [qX b w Ds,.none])) M):(aqX w ds b).length=3/\(DY cR).pre (aqX w ds b) M/\∀y M',(DY cR).post (aqX w ds b) M y M'->Q y M':=⟨rfl,⟨w,ds,b,rfl,h⟩,λy M' hh=>by
   rcases hh w ds b rfl with ⟨Es,h1,rfl,rfl⟩ | ⟨i,a,h1,_⟩
   . rw[bA h1 hg];exact q
   . exact(QF h1 hg).elim⟩
theorem NU (h:rowQ15 w ds) (hs:EY w ds i) (q:∀a,M a=none->Q (.tl [.none] a) (M.put a (.x cR (nrX i)))):(aqX w ds b).length=3/\(DY cR).pre (aqX w ds b) M/\∀y M',(DY cR).post (aqX w ds b) M y M'->Q y M':=⟨rfl,⟨w,ds,b,rfl,h⟩,λy M' hh=>by
   rcases hh w ds b rfl with ⟨Es,h1,_⟩ | ⟨j,a,h1,h2,rfl,rfl⟩
   . exact(QF hs h1).elim
   . rw[UZ h1 hs];exact q a h2⟩
def EM (cR:Addr):FSp:=⟨λxs M=>∃(a:Addr) (i:Nat),xs=[.loc a,.d (.int i)]/\M a=some (.x cR (nrX i)),λxs M y M'=>y = .d (.bool true)/\M'=M⟩
theorem GR (m:M a=some (.x cR (nrX i))) (q:Q (.d (.bool true)) M):[DS.loc a,.d (.int i)].length=2/\(EM cR).pre [.loc a,.d (.int i)] M/\∀y M',(EM cR).post [.loc a,.d (.int i)] M y M'->Q y M':=⟨rfl,⟨a,i,rfl,m⟩,λy M' hh=>by obtain⟨rfl,rfl⟩:=hh;exact q⟩
def sL (s:String):PyData:=.str (a0Q s)
def qY:List PyData:=[.tuple [],.tuple [sL "put", sL "a", .int 1],.tuple [sL "take", sL "A"],.tuple [sL "move", sL "a", .int 1000],.tuple [sL "name", sL "b", sL "b"],.tuple [sL "count", sL "a", .bool true]]
def qZ:List PyData:=[.tuple [sL "go", sL "a"],.tuple [sL "split", sL "a", sL "b", .int 1],.tuple [sL "join", sL "a"],.tuple [sL "take", sL ""],.tuple [sL "put", sL "a", .bool true,.int 1]]
def r6:List PyData:=[.none,.int 7,sL "take a", .list [sL "take", sL "a"],.tuple [sL "take", sL "a", sL "b"],.tuple [sL "move", sL "a", .int (-1)],.tuple [sL "split", sL "a", sL "a", .int 1,.int 1]]
def NV:List PyData:=qY++qZ++r6
theorem tM {s:Str}(h:(decide (s.cps.size<=5000)&&s.cps.toList.all (λc=>decide (c < 128)))=true):okD (.str s):=by rw[a0V,decide_eq_true_iff,a4Z] at h;exact⟨h.1,λc hc=>of_decide_eq_true (h.2 c hc)⟩
def tN:PyData->Bool | .str s=>decide (s.cps.size<=5000)&&s.cps.toList.all (λc=>decide (c < 128)) | _=>true
def r8:PyData->Bool | .tuple ds=>decide (ds.length<=5000)&&ds.all tN | _=>true
theorem lZ {d:PyData}(h:tN d=true):okD d:=by cases d <;> first | trivial | exact tM h
theorem m5 {d:PyData}(h:r8 d=true):okP d:=by
 cases d
 case tuple ds=> unfold r8 at h;rw[a0V,decide_eq_true_iff,a4Z] at h;exact⟨h.1,λd hd=>lZ (h.2 d hd)⟩
 all_goals trivial
theorem iA:∀d∈NV,aZ d:=λd hd=>by
 have h:(NV.all λd=>!LR d&&r8 d)=true:=by decide +kernel
 rw[a4Z] at h;have:=h d hd;rw[a0V,Bool.not_eq_true'] at this;exact⟨this.1,m5 this.2⟩
def M0:FSp:=⟨λxs M=>xs=[],λxs M y M'=>y = .d (.list NV)/\M'=M⟩
theorem X0 (q:Q (.d (.list NV)) M):([]:List DS).length=0/\M0.pre [] M/\∀y M',M0.post [] M y M'->Q y M':=⟨rfl,rfl,λy M' hh=>by obtain⟨rfl,rfl⟩:=hh;exact q⟩
theorem OK {ds:List PyData}(h:zH (.tuple ds)=true):zH (.list ds)=true:=h
theorem tP {n j:Nat}(h:j < n):ixN n (j:Int)=some j:=by unfold ixN;rw[if_pos (Int.natCast_nonneg j),if_pos (Int.ofNat_lt.mpr h)];rfl
end
end DL
namespace DL
open PySem PySem.Spec L2
def FnIn (K:Frg) (n:Str) (st:Stmt):Prop:=∃(f:Addr) (oc:Value) (od:Option Addr) (kV dc pm:Value) (an:Option Addr) (cd ct:Value) (sl:Array (Option Value)),a0Z K mainGlobals n=some (some (.ref f)) /\
 K.lookup f=some ⟨oc,od,.func (a3V n n (BY st) (B1 st) (AC st) .none kV dc pm an cd ct),sl⟩/\a8K K cd n=true/\a2K K (.ref f)=true
theorem m7 {K:Frg}{n:Str}{st:Stmt}{f:Addr}{oc:Value}{od:Option Addr}{kV dc pm:Value}{an:Option Addr}{cd ct:Value}{sl:Array (Option Value)}(a:a0Z K mainGlobals n=some (some (.ref f))) (l:K.lookup f=some ⟨oc,od,.func (a3V n n (BY st) (B1 st) (AC st) .none kV dc pm an cd ct),sl⟩) (c:a8K K cd n=true) (k:a2K K (.ref f)=true):FnIn K n st:=⟨f,oc,od,kV,dc,pm,an,cd,ct,sl,a,l,c,k⟩
structure FnAt (K:Frg) (mg:Str->Option Value) (n:Str) (st:Stmt) (f:Addr) (fd:FuncData):Prop where
 fn:Fun K n n st f fd
 mg_:mg n=some (.ref f)
 kp:a2K K (.ref f)=true
theorem FnIn.at {K:Frg}{n:Str}{st:Stmt}{h:Heap}{mg:Str->Option Value}(b:FnIn K n st) (X:K.In h) (G:h.Ns mainGlobals mg):∃f fd,FnAt K mg n st f fd:=
 let ⟨f,_,_,_,_,_,_,_,_,_,a,l,c,k⟩:=b
 ⟨f,_,VT l c k,a1X X G a,k⟩
section
variable {P:Program}{w:World}{K:Frg}{mg:Str->Option Value}{base:Heap}{n:Str}{st:Stmt}{f:Addr}{fd:FuncData}{k:Nat}{ps:List Str}
abbrev iB (n:Str) (st:Stmt) (ps:List Str):Prop:=∀(kV doc pm:Value) (an:Option Addr) (cdv ct:Value) (us:List Value),us.length=ps.length->bindArgs (a3V n n (BY st) (B1 st) (AC st) .none kV doc pm an cdv ct) ⟨us,[]⟩=pure (ps.zip us)
theorem FnAt.has {S:FSp}(a:FnAt K mg n st f fd) (h:FnOk P w K mg base CX0 k f fd ps (spD K ps.length S)) (b:iB n st ps):Has P w K mg base n k ps S:=⟨f,fd,h,a.mg_,a.kp,a.fn.binds b⟩
theorem FnAt.hasX {S:FSpX}(a:FnAt K mg n st f fd) (h:FnOk P w K mg base (XC.CXE P w) k f fd ps (spX K ps.length S)) (b:iB n st ps):HasX P w K mg base n k ps S:=⟨f,fd,h,a.mg_,a.kp,a.fn.binds b⟩
end
end DL
namespace DL
open PySem PySem.Spec L2 XC
abbrev EN:Stmt:=_root_.sT 44
abbrev CC:Stmt:=_root_.sT 45
abbrev CD:Stmt:=_root_.sT 46
abbrev DJ:Stmt:=_root_.sT 48
abbrev CQ:Stmt:=_root_.sT 47
abbrev EO:Stmt:=_root_.sT 50
abbrev DK:Stmt:=_root_.sT 49
abbrev DN:Stmt:=_root_.sT 56
abbrev CS:Stmt:=_root_.sT 52
abbrev EQ:Stmt:=_root_.sT 53
abbrev E7:Stmt:=_root_.sT 54
abbrev ER:Stmt:=_root_.sT 55
abbrev BX:Stmt:=_root_.sT 51
abbrev FY:Stmt:=_root_.sT 58
abbrev FZ:Stmt:=_root_.sT 4
abbrev ES:Stmt:=_root_.sT 6
abbrev G0:Stmt:=_root_.sT 7
abbrev FK:Stmt:=_root_.sT 5
abbrev HH:Stmt:=_root_.sT 10
abbrev RX:Stmt:=_root_.sT 12
abbrev G1:Stmt:=_root_.sT 13
abbrev FL:Stmt:=_root_.sT 11
abbrev HI:Stmt:=_root_.sT 14
abbrev E8:Stmt:=_root_.sT 31
abbrev B5:Stmt:=_root_.sT 32
abbrev ET:Stmt:=_root_.sT 38
abbrev BA:Stmt:=YC 0 (_root_.sT 19)
abbrev BB:Stmt:=_root_.sT 36
abbrev JH:Stmt:=_root_.sT 37
abbrev RY:Stmt:=_root_.sT 34
abbrev EU:Stmt:=_root_.sT 35
abbrev B8:Stmt:=YC 0 (_root_.sT 20)
abbrev JI:Stmt:=_root_.sT 42
abbrev RZ:Stmt:=_root_.sT 40
abbrev M8:Stmt:=_root_.sT 41
abbrev D3:Stmt:=_root_.sT 57
abbrev G2:Stmt:=_root_.sT 59
abbrev DO:Stmt:=_root_.sT 61
abbrev BC:Stmt:=_root_.sT 60
abbrev CF:Stmt:=_root_.sT 62
abbrev DQ:Stmt:=_root_.sT 63
abbrev YT:Stmt:=_root_.sT 64
abbrev vS (x:String) (t:Tok):Value:=.str (a0Q x) t
abbrev eS (P:Params) (x:String) (t:Tok) (v:Value):DictEntry:=⟨a8V P (a0Q x),.str (a0Q x) t,v⟩
abbrev hs (i:Nat):Stmt:=PySem.Challenge.pw_struckdeeds_k15_rows_gone.main.body.getD i (.Pass ⟨0,0,0,0⟩)
abbrev fO (n q:String) (st:Stmt) (doc pm:Value) (c:Nat):Obj:=⟨.type "function", none,.func (a3V (a0Q n) (a0Q q) (BY st) (B1 st) (AC st) .none .none doc pm none (.ref c) .none),#[]⟩
abbrev gO (n q:String) (st:Stmt):Obj:=⟨.none,none,.func (.mk (a0Q n) (a0Q q) (BY st) (.stmts (B1 st)) (AC st) 0 [] .none .none .none .none none .none .none 0),#[]⟩
abbrev tO (vs:Array Value):Obj:=⟨.type "tuple", none,.seq vs 0,#[]⟩
abbrev kO (n q:String) (a b c:Tok) (l k f:Nat) (x1:Value) (t:Nat) (x2 x3 x4 x5:Value) (u l2:Nat) (d:Tok):Obj:=⟨.type "code", none,.fields #[vS n a,vS q b,vS "/claim/cut.py" c,.int l 0,.int k 0,.int 0 0,.int 0 0,.int f 0,x1,.bool true,.int t 0,x2,.none,x3,x4,x5,.int u 0,.int l2 0,vS "/claim/cut.py" d],#[]⟩
abbrev fP (n:String) (st:Stmt) (doc pm:Value) (c:Nat):Obj:=fO n n st doc pm c
abbrev gP (n:String) (st:Stmt):Obj:=gO n n st
abbrev kPz (n:String) (a b c:Tok) (l k f:Nat) (x1:Value) (t:Nat) (x2 x3 x4 x5:Value) (u l2:Nat) (d:Tok):Obj:=kO n n a b c l k f x1 t x2 x3 x4 x5 u l2 d
abbrev nF (vs:Array Value):Obj:=⟨.none,none,.fields vs,#[]⟩
abbrev lF (l:List (Nat×Nat×Nat)):Obj:=nF (l.flatMap λt=>[.int t.1 0,.int t.2.1 0,.ref t.2.2]).toArray
def hV:Program:={ PySem.Challenge.pw_struckdeeds_k15_rows_gone with main:={ PySem.Challenge.pw_struckdeeds_k15_rows_gone.main with body:=([1,2,3,4,5,6,7,9,10,11,12,13,14,16,17,18,19,20,21,22,23,24,25,26,27,28,29,31,32,34,35,36,37,38,40,41,42,44,45,46,47,48,49,50,51,52,53,54,55,56,57,58,59,60,61,62,63,64]:List Nat).map hs } }
abbrev hB:List Stmt:=PySem.W.behindTheImports PySem.Challenge.pw_struckdeeds_k15_rows_gone
def hN:Env:={ scope:=PySem.Challenge.pw_struckdeeds_k15_rows_gone.main.scope,locals:=mainNs,globals:=mainNs,cells:=[],code:=a0X 13,frame:=some 14 }
abbrev hC:Code:=.body hB hN
abbrev hF:List Frame:=[PySem.W.topFrame { line:=0,col:=0,endLine:=0,endCol:=0 }]
abbrev hI (t:PySem.W.BT) (l:List (Nat×Obj)):PySem.W.BT:=l.foldl (λt x=>t.ins x.1 x.2) t
noncomputable def hT0:Params->PySem.W.BT:=λP=>hI .nil [(0,PySem.W.boot_o_0 P),(1,PySem.W.boot_o_1 P),(2,PySem.W.boot_o_2 P),(3,PySem.W.boot_o_3 P),(4,PySem.W.boot_o_4 P),(5,PySem.W.boot_o_5 P),(6,PySem.W.boot_o_6 P),(7,PySem.W.boot_o_7 P),(8,PySem.W.boot_o_8 P),(9,PySem.W.boot_o_9 P),(10,PySem.W.boot_o_10 P)]
def qA (a t:Nat) (n:String) (k ln ar fl:Nat) (ns:List String) (m:String) (s:Tok):List (Nat×Obj):=[(a,tO #[]),(a+1,nF #[]),(a+2,tO (ns.zipIdx.map λp=>vS p.1 (t+3+p.2)).toArray),(a+3,tO #[]),(a+4,gP n (hs k)),(a+5,kPz n t (t+1) (t+2) ln ar fl (.ref a) 181 (.ref (a+1)) (.ref (a+2)) (.ref (a+3)) (.ref (a+4)) (t+3+ns.length) ln (t+4+ns.length)),(a+6,fP n (hs k) .none (vS m s) (a+5))]
def qB (a t:Nat) (n:String) (k ln ar fl:Nat) (m:String) (s:Tok):List (Nat×Obj):=[(a,tO #[]),(a+1,nF #[]),(a+2,gP n (hs k)),(a+3,kPz n t (t+1) (t+2) ln ar fl (.ref a) 181 (.ref (a+1)) .none .none (.ref (a+2)) (t+3) ln (t+4)),(a+4,fP n (hs k) .none (vS m s) (a+3))]
def qC (P:Params) (a t:Nat) (n u f:String) (l k q:Nat) (m:String) (s:Tok):List (Nat×Obj):=[(a,tO #[(.ref q)]),(a+1,(⟨(.type "builtin_function_or_method"),none,(.fields #[(.builtin "type.__prepare__"),(.type "type")]),#[]⟩:Obj)),(a+2,(⟨(.type "dict"),none,(.dict #[eS P "__module__" (t+7) (vS m s),eS P "__qualname__" (t+9) (vS n (t+8)),eS P "__firstlineno__" (t+11) (.int l (t+10)),eS P "__init__" (t+19) (.ref (a+13)),eS P "__static_attributes__" (t+21) (.ref (a+14))] 5),#[]⟩:Obj)),(a+3,tO #[]),(a+4,lF [((l+2),4,(a+12))]),(a+5,(⟨(.type "code"),none,(.fields #[(vS n (t+2)),(vS n (t+3)),(vS "/claim/cut.py" (t+4)),(.int l 0),(.int 0 0),(.int 0 0),(.int 0 0),(.int 0 0),(.ref (a+3)),(.bool false),(.int 181 0),(.ref (a+4)),.none,.none,.none,.none,(.int (t+5) 0),(.int l 0),(vS "/claim/cut.py" (t+6))]),#[]⟩:Obj)),(a+6,(⟨(.type "frame"),none,.plain,#[(some (.ref (a+5))),(some (.ref 3)),(some (.ref (a+2))),none,(some (vS m s)),none,(some (.ref 0))]⟩:Obj)),(a+7,tO #[]),(a+8,nF #[]),(a+9,tO #[(vS "self" (t+15)),(vS f (t+16))]),(a+10,tO #[]),(a+11,gO "__init__" u (YC 0 (hs k))),(a+12,kO "__init__" u (t+12) (t+13) (t+14) (l+2) 2 3 (.ref (a+7)) 181 (.ref (a+8)) (.ref (a+9)) (.ref (a+10)) (.ref (a+11)) (t+17) (l+2) (t+18)),(a+13,fO "__init__" u (YC 0 (hs k)) .none (vS m s) (a+12)),(a+14,tO #[(vS f (t+20))]),(a+15,(⟨(.type "dict"),none,(.dict #[eS P "__module__" (t+7) (vS m s),eS P "__firstlineno__" (t+11) (.int l (t+10)),eS P "__init__" (t+19) (.ref (a+13)),eS P "__static_attributes__" (t+21) (.ref (a+14)),eS P "__doc__" (t+22) .none] 2),#[]⟩:Obj)),(a+16,(⟨(.type "type"),none,(.cls (.mk n [(.ref q)] [(.ref (a+16)),(.ref q),(.type "ValueError"),(.type "Exception"),(.type "BaseException"),(.type "object")] (a+15) n true [] [] false none false)),#[(some (.ref a)),none,(some (vS n t)),(some (vS n (t+8))),(some (.builtin "ValueError.__new__")),(some (.bool true))]⟩:Obj)),(a+17,(⟨(.type "super"),none,(.fields #[(.ref (a+16)),(.ref (a+16)),(.ref (a+16))]),#[]⟩:Obj)),(a+18,(⟨(.type "builtin_function_or_method"),none,(.fields #[(.builtin "object.__init_subclass__"),(.ref (a+16))]),#[]⟩:Obj))]
noncomputable def hT1:Params->PySem.W.BT:=λP=>hI (hT0 P) ((11,tO #[]) :: (12,nF #[]) :: (13,(⟨(.type "code"),none,(.fields #[(vS "<module>" 182),(vS "<module>" 183),(vS "/claim/cut.py" 184),(.int 1 0),(.int 0 0),(.int 0 0),(.int 0 0),(.int 0 0),(.ref 11),(.bool false),(.int 181 0),(.ref 12),.none,.none,.none,.none,(.int 185 0),(.int 1 0),(vS "/claim/cut.py" 186)]),#[]⟩:Obj)) :: (14,(⟨(.type "frame"),none,.plain,#[(some (.ref 13)),(some (.ref 3)),(some (.ref 3)),none,(some (vS "__main__" 164)),none,(some (.ref 0))]⟩:Obj)) ::
 [])
noncomputable abbrev hX1 (w:World) (os:OsState):PySem.W.SharedT:=⟨hT1 w.params,15,{ },⟨[]⟩,{ },187,os⟩
noncomputable abbrev hX2 (w:World) (os:OsState):PySem.W.SharedT:=⟨hT1 w.params,15,{ },⟨[]⟩,{ },187,os⟩
def hD3:Params->List DictEntry:=λP=>[eS P "__name__" 165 (vS "struckdeeds.errors" 283),eS P "__doc__" 166 .none,eS P "__package__" 167 .none,eS P "__loader__" 168 (.builtin "__main__.__loader__#opaque"),eS P "__spec__" 169 .none,eS P "__annotations__" 170 (.ref 6),eS P "__builtins__" 171 (.ref 4),eS P "__file__" 173 (vS "/claim/cut.py" 172),eS P "__cached__" 174 .none,eS P "LETTERS" 190 (vS "abcdefghijklmnopqrstuvwxyz" 189),eS P "LONGEST_NAME" 192 (.int 8 191),eS P "LAST_PLACE" 194 (.int 999 193),eS P "is_whole" 201 (.ref 21),eS P "is_name" 207 (.ref 26),eS P "is_within" 216 (.ref 33),eS P "is_place" 223 (.ref 40),eS P "FORMS" 247 (.ref 41),eS P "form_of" 254 (.ref 48),eS P "is_deed" 260 (.ref 53),eS P "fits" 268 (.ref 60),eS P "names_in" 275 (.ref 67),eS P "made_by" 282 (.ref 74),eS P "StrikeError" 302 (.ref 84)]
noncomputable def hT3:Params->PySem.W.BT:=λP=>hI (hT1 P) ((3,(⟨.type "dict", none,.dict (hD3 P).toArray 23,#[]⟩:Obj)) :: (12,lF [(5,0,20),(7,0,25),(11,0,32),(13,0,39),(17,0,47),(19,0,52),(29,0,59),(35,0,66),(37,0,73),(44,0,80)]) ::
 qA 15 195 "is_whole" 4 5 1 3 ["thing"] "struckdeeds.words" 187 ++
 (qB 22 202 "is_name" 5 7 1 3 "struckdeeds.words" 187 ++
 (qA 27 208 "is_within" 6 11 3 3 ["thing", "low", "high"] "struckdeeds.words" 187 ++
 (qA 34 217 "is_place" 7 13 1 3 ["thing"] "struckdeeds.words" 187 ++
 ((41,(⟨(.type "dict"),none,(.dict #[eS P "put" 226 (vS "npk" 227),eS P "take" 228 (vS "n" 229),eS P "move" 230 (vS "np" 231),eS P "count" 232 (vS "nk" 233),eS P "name" 234 (vS "nn" 235),eS P "split" 236 (vS "nnpk" 237),eS P "join" 238 (vS "nn" 239)] 7),#[]⟩:Obj)) ::
 qA 42 248 "form_of" 10 17 1 3 ["word"] "struckdeeds.deeds" 224 ++
 (qB 49 255 "is_deed" 11 19 1 3 "struckdeeds.deeds" 224 ++
 (qA 54 261 "fits" 12 29 2 3 ["sign", "part"] "struckdeeds.deeds" 224 ++
 (qA 61 269 "names_in" 13 35 1 3 ["deed"] "struckdeeds.deeds" 224 ++
 (qA 68 276 "made_by" 14 37 1 3 ["deed"] "struckdeeds.deeds" 224 ++
 ((75,tO #[(.type "ValueError")]) ::
 (76,(⟨(.type "builtin_function_or_method"),none,(.fields #[(.builtin "type.__prepare__"),(.type "type")]),#[]⟩:Obj)) ::
 (77,(⟨(.type "dict"),none,(.dict #[eS P "__module__" 292 (vS "struckdeeds.errors" 283),eS P "__qualname__" 294 (vS "StrikeError" 293),eS P "__firstlineno__" 296 (.int 44 295),eS P "__static_attributes__" 297 (.ref 82)] 4),#[]⟩:Obj)) ::
 (78,tO #[]) ::
 (79,nF #[]) ::
 (80,(⟨(.type "code"),none,(.fields #[(vS "StrikeError" 287),(vS "StrikeError" 288),(vS "/claim/cut.py" 289),(.int 44 0),(.int 0 0),(.int 0 0),(.int 0 0),(.int 0 0),(.ref 78),(.bool false),(.int 181 0),(.ref 79),.none,.none,.none,.none,(.int 290 0),(.int 44 0),(vS "/claim/cut.py" 291)]),#[]⟩:Obj)) ::
 (81,(⟨(.type "frame"),none,.plain,#[(some (.ref 80)),(some (.ref 3)),(some (.ref 77)),none,(some (vS "struckdeeds.errors" 283)),none,(some (.ref 0))]⟩:Obj)) ::
 (82,tO #[]) ::
 (83,(⟨(.type "dict"),none,(.dict #[eS P "__module__" 292 (vS "struckdeeds.errors" 283),eS P "__firstlineno__" 296 (.int 44 295),eS P "__static_attributes__" 297 (.ref 82),eS P "__weakref__" 299 (.ref 85),eS P "__doc__" 300 .none] 3),#[]⟩:Obj)) ::
 (84,(⟨(.type "type"),none,(.cls (.mk "StrikeError" [(.type "ValueError")] [(.ref 84),(.type "ValueError"),(.type "Exception"),(.type "BaseException"),(.type "object")] 83 "StrikeError" true [] [] false none false)),#[(some (.ref 75)),none,(some (vS "StrikeError" 285)),(some (vS "StrikeError" 293)),(some (.builtin "ValueError.__new__")),(some (.bool true))]⟩:Obj)) ::
 (85,(⟨(.type "getset_descriptor"),none,(.fields #[(vS "__weakref__" 298),(.ref 84),(.builtin "ExceptionGroup.__weakref__"),.none]),#[]⟩:Obj)) ::
 (86,(⟨(.type "super"),none,(.fields #[(.ref 84),(.ref 84),(.ref 84)]),#[]⟩:Obj)) ::
 (87,(⟨(.type "builtin_function_or_method"),none,(.fields #[(.builtin "object.__init_subclass__"),(.ref 84)]),#[]⟩:Obj)) ::
 []))))))))))
noncomputable abbrev hX3 (w:World) (os:OsState):PySem.W.SharedT:=⟨hT3 w.params,88,{ },⟨[]⟩,{ },303,os⟩
def hD4:Params->List DictEntry:=λP=>hD3 P++[eS P "NoText" 327 (.ref 104),eS P "NoDeed" 343 (.ref 116),eS P "NotNow" 368 (.ref 135)]
noncomputable def hT4:Params->PySem.W.BT:=λP=>hI (hT3 P) ((3,(⟨.type "dict", none,.dict (hD4 P).toArray 26,#[]⟩:Obj)) :: (12,lF [(5,0,20),(7,0,25),(11,0,32),(13,0,39),(17,0,47),(19,0,52),(29,0,59),(35,0,66),(37,0,73),(44,0,80),(46,0,93),(50,0,112),(52,0,124)]) :: (84,(⟨(.type "type"),none,(.cls (.mk "StrikeError" [(.type "ValueError")] [(.ref 84),(.type "ValueError"),(.type "Exception"),(.type "BaseException"),(.type "object")] 83 "StrikeError" true [] [(.ref 104),(.ref 116),(.ref 135)] false none false)),#[(some (.ref 75)),none,(some (vS "StrikeError" 285)),(some (vS "StrikeError" 293)),(some (.builtin "ValueError.__new__")),(some (.bool true))]⟩:Obj)) ::
 qC P 88 303 "NoText" "NoText.__init__" "part" 46 17 84 "struckdeeds.errors" 283 ++
 ((107,tO #[(.ref 84)]) ::
 (108,(⟨(.type "builtin_function_or_method"),none,(.fields #[(.builtin "type.__prepare__"),(.type "type")]),#[]⟩:Obj)) ::
 (109,(⟨(.type "dict"),none,(.dict #[eS P "__module__" 335 (vS "struckdeeds.errors" 283),eS P "__qualname__" 337 (vS "NoDeed" 336),eS P "__firstlineno__" 339 (.int 50 338),eS P "__static_attributes__" 340 (.ref 114)] 4),#[]⟩:Obj)) ::
 (110,tO #[]) ::
 (111,nF #[]) ::
 (112,(⟨(.type "code"),none,(.fields #[(vS "NoDeed" 330),(vS "NoDeed" 331),(vS "/claim/cut.py" 332),(.int 50 0),(.int 0 0),(.int 0 0),(.int 0 0),(.int 0 0),(.ref 110),(.bool false),(.int 181 0),(.ref 111),.none,.none,.none,.none,(.int 333 0),(.int 50 0),(vS "/claim/cut.py" 334)]),#[]⟩:Obj)) ::
 (113,(⟨(.type "frame"),none,.plain,#[(some (.ref 112)),(some (.ref 3)),(some (.ref 109)),none,(some (vS "struckdeeds.errors" 283)),none,(some (.ref 0))]⟩:Obj)) ::
 (114,tO #[]) ::
 (115,(⟨(.type "dict"),none,(.dict #[eS P "__module__" 335 (vS "struckdeeds.errors" 283),eS P "__firstlineno__" 339 (.int 50 338),eS P "__static_attributes__" 340 (.ref 114),eS P "__doc__" 341 .none] 2),#[]⟩:Obj)) ::
 (116,(⟨(.type "type"),none,(.cls (.mk "NoDeed" [(.ref 84)] [(.ref 116),(.ref 84),(.type "ValueError"),(.type "Exception"),(.type "BaseException"),(.type "object")] 115 "NoDeed" true [] [] false none false)),#[(some (.ref 107)),none,(some (vS "NoDeed" 328)),(some (vS "NoDeed" 336)),(some (.builtin "ValueError.__new__")),(some (.bool true))]⟩:Obj)) ::
 (117,(⟨(.type "super"),none,(.fields #[(.ref 116),(.ref 116),(.ref 116)]),#[]⟩:Obj)) ::
 (118,(⟨(.type "builtin_function_or_method"),none,(.fields #[(.builtin "object.__init_subclass__"),(.ref 116)]),#[]⟩:Obj)) ::
 qC P 119 344 "NotNow" "NotNow.__init__" "name" 52 19 84 "struckdeeds.errors" 283 ++
 ([])))
noncomputable abbrev hX4 (w:World) (os:OsState):PySem.W.SharedT:=⟨hT4 w.params,138,{ },⟨[]⟩,{ },369,os⟩
def hD5:Params->List DictEntry:=λP=>hD4 P++[eS P "NoRow" 393 (.ref 154),eS P "NoBook" 418 (.ref 173),eS P "NoLine" 443 (.ref 192)]
noncomputable def hT5:Params->PySem.W.BT:=λP=>hI (hT4 P) ((3,(⟨.type "dict", none,.dict (hD5 P).toArray 29,#[]⟩:Obj)) :: (12,lF [(5,0,20),(7,0,25),(11,0,32),(13,0,39),(17,0,47),(19,0,52),(29,0,59),(35,0,66),(37,0,73),(44,0,80),(46,0,93),(50,0,112),(52,0,124),(56,0,143),(60,0,162),(64,0,181)]) :: (84,(⟨(.type "type"),none,(.cls (.mk "StrikeError" [(.type "ValueError")] [(.ref 84),(.type "ValueError"),(.type "Exception"),(.type "BaseException"),(.type "object")] 83 "StrikeError" true [] [(.ref 104),(.ref 116),(.ref 135),(.ref 154),(.ref 173),(.ref 192)] false none false)),#[(some (.ref 75)),none,(some (vS "StrikeError" 285)),(some (vS "StrikeError" 293)),(some (.builtin "ValueError.__new__")),(some (.bool true))]⟩:Obj)) ::
 qC P 138 369 "NoRow" "NoRow.__init__" "number" 56 20 84 "struckdeeds.errors" 283 ++
 (qC P 157 394 "NoBook" "NoBook.__init__" "number" 60 21 84 "struckdeeds.errors" 283 ++
 (qC P 176 419 "NoLine" "NoLine.__init__" "line" 64 22 84 "struckdeeds.errors" 283 ++
 ([]))))
noncomputable abbrev hX5 (w:World) (os:OsState):PySem.W.SharedT:=⟨hT5 w.params,195,{ },⟨[]⟩,{ },444,os⟩
def hD6:Params->List DictEntry:=λP=>hD5 P++[eS P "NoStand" 459 (.ref 204),eS P "NoName" 484 (.ref 223),eS P "NoNeed" 509 (.ref 242)]
noncomputable def hT6:Params->PySem.W.BT:=λP=>hI (hT5 P) ((3,(⟨.type "dict", none,.dict (hD6 P).toArray 32,#[]⟩:Obj)) :: (12,lF [(5,0,20),(7,0,25),(11,0,32),(13,0,39),(17,0,47),(19,0,52),(29,0,59),(35,0,66),(37,0,73),(44,0,80),(46,0,93),(50,0,112),(52,0,124),(56,0,143),(60,0,162),(64,0,181),(68,0,200),(70,0,212),(74,0,231)]) :: (84,(⟨(.type "type"),none,(.cls (.mk "StrikeError" [(.type "ValueError")] [(.ref 84),(.type "ValueError"),(.type "Exception"),(.type "BaseException"),(.type "object")] 83 "StrikeError" true [] [(.ref 104),(.ref 116),(.ref 135),(.ref 154),(.ref 173),(.ref 192),(.ref 204),(.ref 223),(.ref 242)] false none false)),#[(some (.ref 75)),none,(some (vS "StrikeError" 285)),(some (vS "StrikeError" 293)),(some (.builtin "ValueError.__new__")),(some (.bool true))]⟩:Obj)) :: (195,tO #[(.ref 84)]) :: (196,(⟨(.type "builtin_function_or_method"),none,(.fields #[(.builtin "type.__prepare__"),(.type "type")]),#[]⟩:Obj)) :: (197,(⟨(.type "dict"),none,(.dict #[eS P "__module__" 451 (vS "struckdeeds.errors" 283),eS P "__qualname__" 453 (vS "NoStand" 452),eS P "__firstlineno__" 455 (.int 68 454),eS P "__static_attributes__" 456 (.ref 202)] 4),#[]⟩:Obj)) :: (198,tO #[]) :: (199,nF #[]) :: (200,(⟨(.type "code"),none,(.fields #[(vS "NoStand" 446),(vS "NoStand" 447),(vS "/claim/cut.py" 448),(.int 68 0),(.int 0 0),(.int 0 0),(.int 0 0),(.int 0 0),(.ref 198),(.bool false),(.int 181 0),(.ref 199),.none,.none,.none,.none,(.int 449 0),(.int 68 0),(vS "/claim/cut.py" 450)]),#[]⟩:Obj)) :: (201,(⟨(.type "frame"),none,.plain,#[(some (.ref 200)),(some (.ref 3)),(some (.ref 197)),none,(some (vS "struckdeeds.errors" 283)),none,(some (.ref 0))]⟩:Obj)) :: (202,tO #[]) :: (203,(⟨(.type "dict"),none,(.dict #[eS P "__module__" 451 (vS "struckdeeds.errors" 283),eS P "__firstlineno__" 455 (.int 68 454),eS P "__static_attributes__" 456 (.ref 202),eS P "__doc__" 457 .none] 2),#[]⟩:Obj)) :: (204,(⟨(.type "type"),none,(.cls (.mk "NoStand" [(.ref 84)] [(.ref 204),(.ref 84),(.type "ValueError"),(.type "Exception"),(.type "BaseException"),(.type "object")] 203 "NoStand" true [] [] false none false)),#[(some (.ref 195)),none,(some (vS "NoStand" 444)),(some (vS "NoStand" 452)),(some (.builtin "ValueError.__new__")),(some (.bool true))]⟩:Obj)) :: (205,(⟨(.type "super"),none,(.fields #[(.ref 204),(.ref 204),(.ref 204)]),#[]⟩:Obj)) :: (206,(⟨(.type "builtin_function_or_method"),none,(.fields #[(.builtin "object.__init_subclass__"),(.ref 204)]),#[]⟩:Obj)) ::
 qC P 207 460 "NoName" "NoName.__init__" "name" 70 24 84 "struckdeeds.errors" 283 ++
 (qC P 226 485 "NoNeed" "NoNeed.__init__" "line" 74 25 84 "struckdeeds.errors" 283 ++
 ([])))
noncomputable abbrev hX6 (w:World) (os:OsState):PySem.W.SharedT:=⟨hT6 w.params,245,{ },⟨[]⟩,{ },510,os⟩
def hD7:Params->List DictEntry:=λP=>hD6 P++[eS P "NoMark" 534 (.ref 261),eS P "NoJoin" 550 (.ref 273),eS P "NoCall" 575 (.ref 292)]
noncomputable def hT7:Params->PySem.W.BT:=λP=>hI (hT6 P) ((3,(⟨.type "dict", none,.dict (hD7 P).toArray 35,#[]⟩:Obj)) :: (12,lF [(5,0,20),(7,0,25),(11,0,32),(13,0,39),(17,0,47),(19,0,52),(29,0,59),(35,0,66),(37,0,73),(44,0,80),(46,0,93),(50,0,112),(52,0,124),(56,0,143),(60,0,162),(64,0,181),(68,0,200),(70,0,212),(74,0,231),(78,0,250),(82,0,269),(84,0,281)]) :: (84,(⟨(.type "type"),none,(.cls (.mk "StrikeError" [(.type "ValueError")] [(.ref 84),(.type "ValueError"),(.type "Exception"),(.type "BaseException"),(.type "object")] 83 "StrikeError" true [] [(.ref 104),(.ref 116),(.ref 135),(.ref 154),(.ref 173),(.ref 192),(.ref 204),(.ref 223),(.ref 242),(.ref 261),(.ref 273),(.ref 292)] false none false)),#[(some (.ref 75)),none,(some (vS "StrikeError" 285)),(some (vS "StrikeError" 293)),(some (.builtin "ValueError.__new__")),(some (.bool true))]⟩:Obj)) ::
 qC P 245 510 "NoMark" "NoMark.__init__" "name" 78 26 84 "struckdeeds.errors" 283 ++
 ((264,tO #[(.ref 84)]) ::
 (265,(⟨(.type "builtin_function_or_method"),none,(.fields #[(.builtin "type.__prepare__"),(.type "type")]),#[]⟩:Obj)) ::
 (266,(⟨(.type "dict"),none,(.dict #[eS P "__module__" 542 (vS "struckdeeds.errors" 283),eS P "__qualname__" 544 (vS "NoJoin" 543),eS P "__firstlineno__" 546 (.int 82 545),eS P "__static_attributes__" 547 (.ref 271)] 4),#[]⟩:Obj)) ::
 (267,tO #[]) ::
 (268,nF #[]) ::
 (269,(⟨(.type "code"),none,(.fields #[(vS "NoJoin" 537),(vS "NoJoin" 538),(vS "/claim/cut.py" 539),(.int 82 0),(.int 0 0),(.int 0 0),(.int 0 0),(.int 0 0),(.ref 267),(.bool false),(.int 181 0),(.ref 268),.none,.none,.none,.none,(.int 540 0),(.int 82 0),(vS "/claim/cut.py" 541)]),#[]⟩:Obj)) ::
 (270,(⟨(.type "frame"),none,.plain,#[(some (.ref 269)),(some (.ref 3)),(some (.ref 266)),none,(some (vS "struckdeeds.errors" 283)),none,(some (.ref 0))]⟩:Obj)) ::
 (271,tO #[]) ::
 (272,(⟨(.type "dict"),none,(.dict #[eS P "__module__" 542 (vS "struckdeeds.errors" 283),eS P "__firstlineno__" 546 (.int 82 545),eS P "__static_attributes__" 547 (.ref 271),eS P "__doc__" 548 .none] 2),#[]⟩:Obj)) ::
 (273,(⟨(.type "type"),none,(.cls (.mk "NoJoin" [(.ref 84)] [(.ref 273),(.ref 84),(.type "ValueError"),(.type "Exception"),(.type "BaseException"),(.type "object")] 272 "NoJoin" true [] [] false none false)),#[(some (.ref 264)),none,(some (vS "NoJoin" 535)),(some (vS "NoJoin" 543)),(some (.builtin "ValueError.__new__")),(some (.bool true))]⟩:Obj)) ::
 (274,(⟨(.type "super"),none,(.fields #[(.ref 273),(.ref 273),(.ref 273)]),#[]⟩:Obj)) ::
 (275,(⟨(.type "builtin_function_or_method"),none,(.fields #[(.builtin "object.__init_subclass__"),(.ref 273)]),#[]⟩:Obj)) ::
 qC P 276 551 "NoCall" "NoCall.__init__" "row" 84 28 84 "struckdeeds.errors" 283 ++
 ([])))
noncomputable abbrev hX7 (w:World) (os:OsState):PySem.W.SharedT:=⟨hT7 w.params,295,{ },⟨[]⟩,{ },576,os⟩
def hD8:Params->List DictEntry:=λP=>(hD7 P).set 0 (eS P "__name__" 165 (vS "law_struckdeeds_k15_rows_gone" 698))++[eS P "NoLog" 600 (.ref 311),eS P "by_names" 608 (.ref 318),eS P "rising_by_names" 614 (.ref 323),eS P "done" 625 (.ref 330),eS P "back_deed" 636 (.ref 337),eS P "refuse_undoable" 646 (.ref 344),eS P "change" 656 (.ref 351),eS P "add_count" 667 (.ref 358),eS P "gone" 677 (.ref 365),eS P "backs" 685 (.ref 372),eS P "walked" 697 (.ref 379),eS P "_law_cell" 707 (.ref 386),eS P "_law_stirred" 720 (.ref 393),eS P "_law_names" 726 (.ref 398),eS P "_law_number" 733 (.ref 405),eS P "_law_place" 740 (.ref 412)]
noncomputable def hT8:Params->PySem.W.BT:=λP=>hI (hT7 P) ((3,(⟨.type "dict", none,.dict (hD8 P).toArray 51,#[]⟩:Obj)) :: (12,lF [(5,0,20),(7,0,25),(11,0,32),(13,0,39),(17,0,47),(19,0,52),(29,0,59),(35,0,66),(37,0,73),(44,0,80),(46,0,93),(50,0,112),(52,0,124),(56,0,143),(60,0,162),(64,0,181),(68,0,200),(70,0,212),(74,0,231),(78,0,250),(82,0,269),(84,0,281),(88,0,300),(93,0,317),(95,0,322),(98,0,329),(103,0,336),(120,0,343),(127,0,350),(145,0,357),(149,0,364),(151,0,371),(153,0,378),(164,0,385),(168,0,392),(181,0,397),(193,0,404),(195,0,411)]) :: (84,(⟨(.type "type"),none,(.cls (.mk "StrikeError" [(.type "ValueError")] [(.ref 84),(.type "ValueError"),(.type "Exception"),(.type "BaseException"),(.type "object")] 83 "StrikeError" true [] [(.ref 104),(.ref 116),(.ref 135),(.ref 154),(.ref 173),(.ref 192),(.ref 204),(.ref 223),(.ref 242),(.ref 261),(.ref 273),(.ref 292),(.ref 311)] false none false)),#[(some (.ref 75)),none,(some (vS "StrikeError" 285)),(some (vS "StrikeError" 293)),(some (.builtin "ValueError.__new__")),(some (.bool true))]⟩:Obj)) ::
 qC P 295 576 "NoLog" "NoLog.__init__" "name" 88 29 84 "struckdeeds.errors" 283 ++
 (qB 314 603 "by_names" 31 93 1 3 "struckdeeds.worlds" 601 ++
 (qB 319 609 "rising_by_names" 32 95 1 3 "struckdeeds.worlds" 601 ++
 (qA 324 617 "done" 34 98 2 3 ["world", "deed", "things"] "struckdeeds.doings" 615 ++
 (qA 331 626 "back_deed" 35 103 2 3 ["world", "deed", "things", "word", "name"] "struckdeeds.doings" 615 ++
 (qA 338 637 "refuse_undoable" 36 120 2 3 ["things", "deed", "made", "name"] "struckdeeds.doings" 615 ++
 (qA 345 647 "change" 37 127 2 3 ["things", "deed", "word", "name"] "struckdeeds.doings" 615 ++
 (qA 352 657 "add_count" 38 145 3 3 ["things", "name", "more", "place", "count"] "struckdeeds.doings" 615 ++
 (qA 359 670 "gone" 40 149 2 3 ["world", "row"] "struckdeeds.rows" 668 ++
 (qA 366 678 "backs" 41 151 2 3 ["world", "row"] "struckdeeds.rows" 668 ++
 (qA 373 686 "walked" 42 153 2 3 ["world", "row", "here", "back", "number", "deed"] "struckdeeds.rows" 668 ++
 (qA 380 700 "_law_cell" 44 164 2 3 ["_law_script", "_law_k"] "law_struckdeeds_k15_rows_gone" 698 ++
 (qA 387 708 "_law_stirred" 45 168 2 3 ["_law_cell_here", "_law_size", "_law_one", "_law_other", "_law_found", "_law_k", "_law_number_here"] "law_struckdeeds_k15_rows_gone" 698 ++
 (qB 394 721 "_law_names" 46 181 3 3 "law_struckdeeds_k15_rows_gone" 698 ++
 (qA 399 727 "_law_number" 47 193 1 3 ["_law_x"] "law_struckdeeds_k15_rows_gone" 698 ++
 (qA 406 734 "_law_place" 48 195 1 3 ["_law_x"] "law_struckdeeds_k15_rows_gone" 698 ++
 ([])))))))))))))))))
noncomputable abbrev hX8 (w:World) (os:OsState):PySem.W.SharedT:=⟨hT8 w.params,413,{ },⟨[]⟩,{ },741,os⟩
def hD9:Params->List DictEntry:=λP=>hD8 P++[eS P "_law_world" 751 (.ref 419),eS P "_law_pick" 759 (.ref 426),eS P "_law_deed" 765 (.ref 431),eS P "_law_wanted" 772 (.ref 438),eS P "_law_made" 779 (.ref 445),eS P "_law_can" 785 (.ref 450),eS P "_law_step" 796 (.ref 457),eS P "_law_there" 807 (.ref 464),eS P "_law_told" 813 (.ref 469),eS P "_law_row" 827 (.ref 476),eS P "_law_due" 838 (.ref 483),eS P "_law_odd_things" 845 (.ref 490),eS P "_law_asked" 857 (.ref 497),eS P "_law_refused" 865 (.ref 504),eS P "_law_right" 882 (.ref 511),eS P "law" 890 (.ref 518)]
noncomputable def hT9:Params->PySem.W.BT:=λP=>hI (hT8 P) ((3,(⟨.type "dict", none,.dict (hD9 P).toArray 67,#[]⟩:Obj)) :: (12,lF [(5,0,20),(7,0,25),(11,0,32),(13,0,39),(17,0,47),(19,0,52),(29,0,59),(35,0,66),(37,0,73),(44,0,80),(46,0,93),(50,0,112),(52,0,124),(56,0,143),(60,0,162),(64,0,181),(68,0,200),(70,0,212),(74,0,231),(78,0,250),(82,0,269),(84,0,281),(88,0,300),(93,0,317),(95,0,322),(98,0,329),(103,0,336),(120,0,343),(127,0,350),(145,0,357),(149,0,364),(151,0,371),(153,0,378),(164,0,385),(168,0,392),(181,0,397),(193,0,404),(195,0,411),(197,0,418),(203,0,425),(205,0,430),(233,0,437),(239,0,444),(245,0,449),(249,0,456),(270,0,463),(275,0,468),(277,0,475),(285,0,482),(292,0,489),(296,0,496),(307,0,503),(315,0,510),(331,0,517)]) ::
 qA 413 741 "_law_world" 49 197 3 3 ["_law_xs", "_law_at", "_law_names_here", "_law_found", "_law_k"] "law_struckdeeds_k15_rows_gone" 698 ++
 (qA 420 752 "_law_pick" 50 203 2 3 ["_law_some", "_law_x"] "law_struckdeeds_k15_rows_gone" 698 ++
 (qB 427 760 "_law_deed" 51 205 4 3 "law_struckdeeds_k15_rows_gone" 698 ++
 (qA 432 766 "_law_wanted" 52 233 1 3 ["_law_deed_here"] "law_struckdeeds_k15_rows_gone" 698 ++
 (qA 439 773 "_law_made" 53 239 1 3 ["_law_deed_here"] "law_struckdeeds_k15_rows_gone" 698 ++
 (qB 446 780 "_law_can" 54 245 2 3 "law_struckdeeds_k15_rows_gone" 698 ++
 (qA 451 786 "_law_step" 55 249 2 3 ["_law_there_here", "_law_deed_here", "_law_found", "_law_word", "_law_name"] "law_struckdeeds_k15_rows_gone" 698 ++
 (qA 458 797 "_law_there" 56 270 1 3 ["_law_world_here", "_law_found", "_law_name", "_law_place_here", "_law_count"] "law_struckdeeds_k15_rows_gone" 698 ++
 (qB 465 808 "_law_told" 57 275 1 3 "law_struckdeeds_k15_rows_gone" 698 ++
 (qA 470 814 "_law_row" 58 277 5 3 ["_law_xs", "_law_at", "_law_size", "_law_names_here", "_law_there_here", "_law_row_here", "_law_k", "_law_deed_here"] "law_struckdeeds_k15_rows_gone" 698 ++
 (qA 477 828 "_law_due" 59 285 3 3 ["_law_world_here", "_law_row_here", "_law_spoilt", "_law_there_here", "_law_k"] "law_struckdeeds_k15_rows_gone" 698 ++
 (qA 484 839 "_law_odd_things" 60 292 0 3 ["_law_some"] "law_struckdeeds_k15_rows_gone" 698 ++
 (qA 491 846 "_law_asked" 61 296 3 3 ["_law_world_here", "_law_row_here", "_law_deeds_back", "_law_found", "_law_caught", "e"] "law_struckdeeds_k15_rows_gone" 698 ++
 (qA 498 858 "_law_refused" 62 307 2 3 ["_law_caught", "_law_number_here"] "law_struckdeeds_k15_rows_gone" 698 ++
 (qA 505 866 "_law_right" 63 315 1 3 ["_law_cell_here", "_law_xs", "_law_names_here", "_law_world_here", "_law_row_here", "_law_spoilt", "_law_odd", "_law_number_here", "_law_due_here", "_law_found", "_law_caught"] "law_struckdeeds_k15_rows_gone" 698 ++
 (qA 512 883 "law" 64 331 1 3 ["_law_script", "_law_cell_here"] "law_struckdeeds_k15_rows_gone" 698 ++
 ([])))))))))))))))))
noncomputable abbrev hX9 (w:World) (os:OsState):PySem.W.SharedT:=⟨hT9 w.params,519,{ },⟨[]⟩,{ },891,os⟩
noncomputable abbrev G3 (w:World) (os:OsState):PySem.W.SharedT:=⟨hT9 w.params,519,{ },⟨[]⟩,{ },891,os⟩
noncomputable def hg (P:Params) (a:Nat):Obj:=((hT9 P).get a).getD default
noncomputable def hK:Params->PySem.W.Frag:=λP=>
 (nat_lit 2,hg P 2) ::
 (nat_lit 3,hg P 3) ::
 (nat_lit 20,hg P 20) ::
 (nat_lit 21,fP "is_whole" FZ .none (vS "struckdeeds.words" 187) 20) ::
 (nat_lit 25,hg P 25) ::
 (nat_lit 26,fP "is_name" FK .none (vS "struckdeeds.words" 187) 25) ::
 (nat_lit 32,hg P 32) ::
 (nat_lit 33,fP "is_within" ES .none (vS "struckdeeds.words" 187) 32) ::
 (nat_lit 39,hg P 39) ::
 (nat_lit 40,fP "is_place" G0 .none (vS "struckdeeds.words" 187) 39) ::
 (nat_lit 41,(⟨(.type "dict"),none,(.dict #[eS P "put" 226 (vS "npk" 227),eS P "take" 228 (vS "n" 229),eS P "move" 230 (vS "np" 231),eS P "count" 232 (vS "nk" 233),eS P "name" 234 (vS "nn" 235),eS P "split" 236 (vS "nnpk" 237),eS P "join" 238 (vS "nn" 239)] 7),#[]⟩:Obj)) ::
 (nat_lit 47,hg P 47) ::
 (nat_lit 48,fP "form_of" HH .none (vS "struckdeeds.deeds" 224) 47) ::
 (nat_lit 52,hg P 52) ::
 (nat_lit 53,fP "is_deed" FL .none (vS "struckdeeds.deeds" 224) 52) ::
 (nat_lit 59,hg P 59) ::
 (nat_lit 60,fP "fits" RX .none (vS "struckdeeds.deeds" 224) 59) ::
 (nat_lit 66,hg P 66) ::
 (nat_lit 67,fP "names_in" G1 .none (vS "struckdeeds.deeds" 224) 66) ::
 (nat_lit 73,hg P 73) ::
 (nat_lit 74,fP "made_by" HI .none (vS "struckdeeds.deeds" 224) 73) ::
 (nat_lit 83,hg P 83) ::
 (nat_lit 84,(⟨(.type "type"),none,(.cls (.mk "StrikeError" [(.type "ValueError")] [(.ref 84),(.type "ValueError"),(.type "Exception"),(.type "BaseException"),(.type "object")] 83 "StrikeError" true [] [(.ref 104),(.ref 116),(.ref 135),(.ref 154),(.ref 173),(.ref 192),(.ref 204),(.ref 223),(.ref 242),(.ref 261),(.ref 273),(.ref 292),(.ref 311)] false none false)),#[(some (.ref 75)),none,(some (vS "StrikeError" 285)),(some (vS "StrikeError" 293)),(some (.builtin "ValueError.__new__")),(some (.bool true))]⟩:Obj)) ::
 (nat_lit 85,hg P 85) ::
 (nat_lit 103,hg P 103) ::
 (nat_lit 104,hg P 104) ::
 (nat_lit 115,hg P 115) ::
 (nat_lit 116,(⟨(.type "type"),none,(.cls (.mk "NoDeed" [(.ref 84)] [(.ref 116),(.ref 84),(.type "ValueError"),(.type "Exception"),(.type "BaseException"),(.type "object")] 115 "NoDeed" true [] [] false none false)),#[(some (.ref 107)),none,(some (vS "NoDeed" 328)),(some (vS "NoDeed" 336)),(some (.builtin "ValueError.__new__")),(some (.bool true))]⟩:Obj)) ::
 (nat_lit 131,hg P 131) ::
 (nat_lit 132,fO "__init__" "NotNow.__init__" BA .none (vS "struckdeeds.errors" 283) 131) ::
 (nat_lit 134,hg P 134) ::
 (nat_lit 135,(⟨(.type "type"),none,(.cls (.mk "NotNow" [(.ref 84)] [(.ref 135),(.ref 84),(.type "ValueError"),(.type "Exception"),(.type "BaseException"),(.type "object")] 134 "NotNow" true [] [] false none false)),#[(some (.ref 119)),none,(some (vS "NotNow" 344)),(some (vS "NotNow" 352)),(some (.builtin "ValueError.__new__")),(some (.bool true))]⟩:Obj)) ::
 (nat_lit 150,hg P 150) ::
 (nat_lit 151,fO "__init__" "NoRow.__init__" B8 .none (vS "struckdeeds.errors" 283) 150) ::
 (nat_lit 153,hg P 153) ::
 (nat_lit 154,(⟨(.type "type"),none,(.cls (.mk "NoRow" [(.ref 84)] [(.ref 154),(.ref 84),(.type "ValueError"),(.type "Exception"),(.type "BaseException"),(.type "object")] 153 "NoRow" true [] [] false none false)),#[(some (.ref 138)),none,(some (vS "NoRow" 369)),(some (vS "NoRow" 377)),(some (.builtin "ValueError.__new__")),(some (.bool true))]⟩:Obj)) ::
 (nat_lit 172,hg P 172) ::
 (nat_lit 173,hg P 173) ::
 (nat_lit 191,hg P 191) ::
 (nat_lit 192,hg P 192) ::
 (nat_lit 203,hg P 203) ::
 (nat_lit 204,hg P 204) ::
 (nat_lit 222,hg P 222) ::
 (nat_lit 223,hg P 223) ::
 (nat_lit 241,hg P 241) ::
 (nat_lit 242,hg P 242) ::
 (nat_lit 260,hg P 260) ::
 (nat_lit 261,hg P 261) ::
 (nat_lit 272,hg P 272) ::
 (nat_lit 273,hg P 273) ::
 (nat_lit 291,hg P 291) ::
 (nat_lit 292,hg P 292) ::
 (nat_lit 310,hg P 310) ::
 (nat_lit 311,hg P 311) ::
 (nat_lit 317,hg P 317) ::
 (nat_lit 318,fP "by_names" E8 .none (vS "struckdeeds.worlds" 601) 317) ::
 (nat_lit 322,hg P 322) ::
 (nat_lit 323,fP "rising_by_names" B5 .none (vS "struckdeeds.worlds" 601) 322) ::
 (nat_lit 329,hg P 329) ::
 (nat_lit 330,fP "done" RY .none (vS "struckdeeds.doings" 615) 329) ::
 (nat_lit 336,hg P 336) ::
 (nat_lit 337,fP "back_deed" EU .none (vS "struckdeeds.doings" 615) 336) ::
 (nat_lit 343,hg P 343) ::
 (nat_lit 344,fP "refuse_undoable" BB .none (vS "struckdeeds.doings" 615) 343) ::
 (nat_lit 350,hg P 350) ::
 (nat_lit 351,fP "change" JH .none (vS "struckdeeds.doings" 615) 350) ::
 (nat_lit 357,hg P 357) ::
 (nat_lit 358,fP "add_count" ET .none (vS "struckdeeds.doings" 615) 357) ::
 (nat_lit 364,hg P 364) ::
 (nat_lit 365,fP "gone" RZ .none (vS "struckdeeds.rows" 668) 364) ::
 (nat_lit 371,hg P 371) ::
 (nat_lit 372,fP "backs" M8 .none (vS "struckdeeds.rows" 668) 371) ::
 (nat_lit 378,hg P 378) ::
 (nat_lit 379,fP "walked" JI .none (vS "struckdeeds.rows" 668) 378) ::
 (nat_lit 385,hg P 385) ::
 (nat_lit 386,fP "_law_cell" EN .none (vS "law_struckdeeds_k15_rows_gone" 698) 385) ::
 (nat_lit 392,hg P 392) ::
 (nat_lit 393,fP "_law_stirred" CC .none (vS "law_struckdeeds_k15_rows_gone" 698) 392) ::
 (nat_lit 397,hg P 397) ::
 (nat_lit 398,fP "_law_names" CD .none (vS "law_struckdeeds_k15_rows_gone" 698) 397) ::
 (nat_lit 404,hg P 404) ::
 (nat_lit 405,fP "_law_number" CQ .none (vS "law_struckdeeds_k15_rows_gone" 698) 404) ::
 (nat_lit 411,hg P 411) ::
 (nat_lit 412,fP "_law_place" DJ .none (vS "law_struckdeeds_k15_rows_gone" 698) 411) ::
 (nat_lit 418,hg P 418) ::
 (nat_lit 419,fP "_law_world" DK .none (vS "law_struckdeeds_k15_rows_gone" 698) 418) ::
 (nat_lit 425,hg P 425) ::
 (nat_lit 426,fP "_law_pick" EO .none (vS "law_struckdeeds_k15_rows_gone" 698) 425) ::
 (nat_lit 430,hg P 430) ::
 (nat_lit 431,fP "_law_deed" BX .none (vS "law_struckdeeds_k15_rows_gone" 698) 430) ::
 (nat_lit 437,hg P 437) ::
 (nat_lit 438,fP "_law_wanted" CS .none (vS "law_struckdeeds_k15_rows_gone" 698) 437) ::
 (nat_lit 444,hg P 444) ::
 (nat_lit 445,fP "_law_made" EQ .none (vS "law_struckdeeds_k15_rows_gone" 698) 444) ::
 (nat_lit 449,hg P 449) ::
 (nat_lit 450,fP "_law_can" E7 .none (vS "law_struckdeeds_k15_rows_gone" 698) 449) ::
 (nat_lit 456,hg P 456) ::
 (nat_lit 457,fP "_law_step" ER .none (vS "law_struckdeeds_k15_rows_gone" 698) 456) ::
 (nat_lit 463,hg P 463) ::
 (nat_lit 464,fP "_law_there" DN .none (vS "law_struckdeeds_k15_rows_gone" 698) 463) ::
 (nat_lit 468,hg P 468) ::
 (nat_lit 469,fP "_law_told" D3 .none (vS "law_struckdeeds_k15_rows_gone" 698) 468) ::
 (nat_lit 475,hg P 475) ::
 (nat_lit 476,fP "_law_row" FY .none (vS "law_struckdeeds_k15_rows_gone" 698) 475) ::
 (nat_lit 482,hg P 482) ::
 (nat_lit 483,fP "_law_due" G2 .none (vS "law_struckdeeds_k15_rows_gone" 698) 482) ::
 (nat_lit 489,hg P 489) ::
 (nat_lit 490,fP "_law_odd_things" BC .none (vS "law_struckdeeds_k15_rows_gone" 698) 489) ::
 (nat_lit 496,hg P 496) ::
 (nat_lit 497,fP "_law_asked" DO .none (vS "law_struckdeeds_k15_rows_gone" 698) 496) ::
 (nat_lit 503,hg P 503) ::
 (nat_lit 504,fP "_law_refused" CF .none (vS "law_struckdeeds_k15_rows_gone" 698) 503) ::
 (nat_lit 510,hg P 510) ::
 (nat_lit 511,fP "_law_right" DQ .none (vS "law_struckdeeds_k15_rows_gone" 698) 510) ::
 (nat_lit 517,hg P 517) ::
 (nat_lit 518,fP "law" YT .none (vS "law_struckdeeds_k15_rows_gone" 698) 517)::[]
def hA:List Addr:=[2,3,20,21,25,26,32,33,39,40,41,47,48,52,53,59,60,66,67,73,74,83,84,85,103,104,115,116,131,132,134,135,150,151,153,154,172,173,191,192,203,204,222,223,241,242,260,261,272,273,291,292,310,311,317,318,322,323,329,330,336,337,343,344,350,351,357,358,364,365,371,372,378,379,385,386,392,393,397,398,404,405,411,412,418,419,425,426,430,431,437,438,444,445,449,450,456,457,463,464,468,469,475,476,482,483,489,490,496,497,503,504,510,511,517,518]
theorem hE:∀P,hA=(hK P).map (·.1):=λ_=>by kernel_rfl
theorem hp1 (w:World):(λos=>PySem.W.topGo treeTable PySem.Challenge.pw_struckdeeds_k15_rows_gone w 11 (a1W (a0X 6)) 12 ⟨a4K w.params,⟨[]⟩,b4J,b5Z,os⟩ (PySem.W.topStub PySem.Challenge.pw_struckdeeds_k15_rows_gone))=λos=>some ((hX1 w os).abs,⟨denote treeTable hC,hC,{ line:=0,col:=0,endLine:=0,endCol:=0 },hF⟩):=by kernel_rfl
theorem hp2 (w:World):(λos=>a5K treeTable PySem.Challenge.pw_struckdeeds_k15_rows_gone w 11 (a1W (a0X 6)) 1 1 (hX1 w os) (PySem.W.blockOf hB hN hC { line:=0,col:=0,endLine:=0,endCol:=0 } hF))=λos=>some (.next,hX2 w os,hC,{ line:=0,col:=0,endLine:=0,endCol:=0 }):=by kernel_rfl
def hQ3:List Stmt:=(hB.drop 0).take 17
abbrev uI (w:World):Prop:=(λos=>a5K treeTable PySem.Challenge.pw_struckdeeds_k15_rows_gone w 11 (a1W (a0X 6)) 1 614 (hX2 w os) (a6Q hQ3 hN hC { line:=0,col:=0,endLine:=0,endCol:=0 } hF))=λos=>some (.next,hX3 w os,hC,{ line:=44,col:=0,endLine:=45,endCol:=8 })
theorem bC (w:World):(λos=>a5K treeTable PySem.Challenge.pw_struckdeeds_k15_rows_gone (w.withFollow "special-get-raises" false) 11 (a1W (a0X 6)) 1 614 (hX2 (w.withFollow "special-get-raises" false) os) (a6Q hQ3 hN hC { line:=0,col:=0,endLine:=0,endCol:=0 } hF))=λos=>some (.next,hX3 (w.withFollow "special-get-raises" false) os,hC,{ line:=44,col:=0,endLine:=45,endCol:=8 }):=by kernel_rfl
theorem iC (w:World):(λos=>a5K treeTable PySem.Challenge.pw_struckdeeds_k15_rows_gone (w.withFollow "special-get-raises" true) 11 (a1W (a0X 6)) 1 614 (hX2 (w.withFollow "special-get-raises" true) os) (a6Q hQ3 hN hC { line:=0,col:=0,endLine:=0,endCol:=0 } hF))=λos=>some (.next,hX3 (w.withFollow "special-get-raises" true) os,hC,{ line:=44,col:=0,endLine:=45,endCol:=8 }):=by kernel_rfl
theorem hp3:∀w:World,uI w:=PySem.W.byRow2 "special-get-raises" bC iC
def hQ4:List Stmt:=(hB.drop 17).take 3
theorem hp4 (w:World):(λos=>a5K treeTable PySem.Challenge.pw_struckdeeds_k15_rows_gone w 11 (a1W (a0X 6)) 1 704 (hX3 w os) (a6Q hQ4 hN hC { line:=44,col:=0,endLine:=45,endCol:=8 } hF))=λos=>some (.next,hX4 w os,hC,{ line:=52,col:=0,endLine:=55,endCol:=24 }):=by kernel_rfl
def hQ5:List Stmt:=(hB.drop 20).take 3
theorem hp5 (w:World):(λos=>a5K treeTable PySem.Challenge.pw_struckdeeds_k15_rows_gone w 11 (a1W (a0X 6)) 1 736 (hX4 w os) (a6Q hQ5 hN hC { line:=52,col:=0,endLine:=55,endCol:=24 } hF))=λos=>some (.next,hX5 w os,hC,{ line:=64,col:=0,endLine:=67,endCol:=24 }):=by kernel_rfl
def hQ6:List Stmt:=(hB.drop 23).take 3
theorem hp6 (w:World):(λos=>a5K treeTable PySem.Challenge.pw_struckdeeds_k15_rows_gone w 11 (a1W (a0X 6)) 1 704 (hX5 w os) (a6Q hQ6 hN hC { line:=64,col:=0,endLine:=67,endCol:=24 } hF))=λos=>some (.next,hX6 w os,hC,{ line:=74,col:=0,endLine:=77,endCol:=24 }):=by kernel_rfl
def hQ7:List Stmt:=(hB.drop 26).take 3
theorem hp7 (w:World):(λos=>a5K treeTable PySem.Challenge.pw_struckdeeds_k15_rows_gone w 11 (a1W (a0X 6)) 1 704 (hX6 w os) (a6Q hQ7 hN hC { line:=74,col:=0,endLine:=77,endCol:=24 } hF))=λos=>some (.next,hX7 w os,hC,{ line:=84,col:=0,endLine:=87,endCol:=22 }):=by kernel_rfl
def hQ8:List Stmt:=(hB.drop 29).take 20
theorem hp8 (w:World):(λos=>a5K treeTable PySem.Challenge.pw_struckdeeds_k15_rows_gone w 11 (a1W (a0X 6)) 1 738 (hX7 w os) (a6Q hQ8 hN hC { line:=84,col:=0,endLine:=87,endCol:=22 } hF))=λos=>some (.next,hX8 w os,hC,{ line:=195,col:=0,endLine:=196,endCol:=65 }):=by kernel_rfl
def hQ9:List Stmt:=(hB.drop 49).take 16
theorem hp9 (w:World):(λos=>a5K treeTable PySem.Challenge.pw_struckdeeds_k15_rows_gone w 11 (a1W (a0X 6)) 1 497 (hX8 w os) (a6Q hQ9 hN hC { line:=195,col:=0,endLine:=196,endCol:=65 } hF))=λos=>some (.next,hX9 w os,hC,{ line:=331,col:=0,endLine:=335,endCol:=15 }):=by kernel_rfl
theorem uJ (w:World):(λos=>a3K treeTable PySem.Challenge.pw_struckdeeds_k15_rows_gone w 11 (a1W (a0X 6)) 2 (hX9 w os).abs (a7Z [] hN hC { line:=331,col:=0,endLine:=335,endCol:=15 } hF))=λos=>some (G3 w os).abs:=by kernel_rfl
theorem hR1:hB=(hQ3++(hQ4++(hQ5++(hQ6++(hQ7++(hQ8++(hQ9++[]))))))):=by kernel_rfl
theorem uK (w:World) (os:OsState):a3K treeTable PySem.Challenge.pw_struckdeeds_k15_rows_gone w 11 (a1W (a0X 6)) 2 (hX9 w os).abs (a7Z [] hN hC { line:=331,col:=0,endLine:=335,endCol:=15 } hF)=some (G3 w os).abs:=congrFun (uJ w) os
theorem hr9 (w:World) (os:OsState):a3K treeTable PySem.Challenge.pw_struckdeeds_k15_rows_gone w 11 (a1W (a0X 6)) (497+2) (hX8 w os).abs (a7Z (hQ9++[]) hN hC { line:=195,col:=0,endLine:=196,endCol:=65 } hF)=some (G3 w os).abs:=a8X (n:=497) (N:=2) (s:=(hX8 w os).abs) (s':=(hX9 w os).abs) (r:=(G3 w os).abs) (l:=hQ9) (rest:=[]) (c:=hC) (pos:={ line:=195,col:=0,endLine:=196,endCol:=65 }) (p':={ line:=331,col:=0,endLine:=335,endCol:=15 }) (env:=hN) (q:={ line:=0,col:=0,endLine:=0,endCol:=0 }) (a6W (congrFun (hp9 w) os)) (uK w os)
theorem hr8 (w:World) (os:OsState):a3K treeTable PySem.Challenge.pw_struckdeeds_k15_rows_gone w 11 (a1W (a0X 6)) (738+(497+2)) (hX7 w os).abs (a7Z (hQ8++(hQ9++[])) hN hC { line:=84,col:=0,endLine:=87,endCol:=22 } hF)=some (G3 w os).abs:=a8X (n:=738) (N:=(497+2)) (s:=(hX7 w os).abs) (s':=(hX8 w os).abs) (r:=(G3 w os).abs) (l:=hQ8) (rest:=(hQ9++[])) (c:=hC) (pos:={ line:=84,col:=0,endLine:=87,endCol:=22 }) (p':={ line:=195,col:=0,endLine:=196,endCol:=65 }) (env:=hN) (q:={ line:=0,col:=0,endLine:=0,endCol:=0 }) (a6W (congrFun (hp8 w) os)) (hr9 w os)
theorem hr7 (w:World) (os:OsState):a3K treeTable PySem.Challenge.pw_struckdeeds_k15_rows_gone w 11 (a1W (a0X 6)) (704+(738+(497+2))) (hX6 w os).abs (a7Z (hQ7++(hQ8++(hQ9++[]))) hN hC { line:=74,col:=0,endLine:=77,endCol:=24 } hF)=some (G3 w os).abs:=a8X (n:=704) (N:=(738+(497+2))) (s:=(hX6 w os).abs) (s':=(hX7 w os).abs) (r:=(G3 w os).abs) (l:=hQ7) (rest:=(hQ8++(hQ9++[]))) (c:=hC) (pos:={ line:=74,col:=0,endLine:=77,endCol:=24 }) (p':={ line:=84,col:=0,endLine:=87,endCol:=22 }) (env:=hN) (q:={ line:=0,col:=0,endLine:=0,endCol:=0 }) (a6W (congrFun (hp7 w) os)) (hr8 w os)
theorem hr6 (w:World) (os:OsState):a3K treeTable PySem.Challenge.pw_struckdeeds_k15_rows_gone w 11 (a1W (a0X 6)) (704+(704+(738+(497+2)))) (hX5 w os).abs (a7Z (hQ6++(hQ7++(hQ8++(hQ9++[])))) hN hC { line:=64,col:=0,endLine:=67,endCol:=24 } hF)=some (G3 w os).abs:=a8X (n:=704) (N:=(704+(738+(497+2)))) (s:=(hX5 w os).abs) (s':=(hX6 w os).abs) (r:=(G3 w os).abs) (l:=hQ6) (rest:=(hQ7++(hQ8++(hQ9++[])))) (c:=hC) (pos:={ line:=64,col:=0,endLine:=67,endCol:=24 }) (p':={ line:=74,col:=0,endLine:=77,endCol:=24 }) (env:=hN) (q:={ line:=0,col:=0,endLine:=0,endCol:=0 }) (a6W (congrFun (hp6 w) os)) (hr7 w os)
theorem hr5 (w:World) (os:OsState):a3K treeTable PySem.Challenge.pw_struckdeeds_k15_rows_gone w 11 (a1W (a0X 6)) (736+(704+(704+(738+(497+2))))) (hX4 w os).abs (a7Z (hQ5++(hQ6++(hQ7++(hQ8++(hQ9++[]))))) hN hC { line:=52,col:=0,endLine:=55,endCol:=24 } hF)=some (G3 w os).abs:=a8X (n:=736) (N:=(704+(704+(738+(497+2))))) (s:=(hX4 w os).abs) (s':=(hX5 w os).abs) (r:=(G3 w os).abs) (l:=hQ5) (rest:=(hQ6++(hQ7++(hQ8++(hQ9++[]))))) (c:=hC) (pos:={ line:=52,col:=0,endLine:=55,endCol:=24 }) (p':={ line:=64,col:=0,endLine:=67,endCol:=24 }) (env:=hN) (q:={ line:=0,col:=0,endLine:=0,endCol:=0 }) (a6W (congrFun (hp5 w) os)) (hr6 w os)
theorem hr4 (w:World) (os:OsState):a3K treeTable PySem.Challenge.pw_struckdeeds_k15_rows_gone w 11 (a1W (a0X 6)) (704+(736+(704+(704+(738+(497+2)))))) (hX3 w os).abs (a7Z (hQ4++(hQ5++(hQ6++(hQ7++(hQ8++(hQ9++[])))))) hN hC { line:=44,col:=0,endLine:=45,endCol:=8 } hF)=some (G3 w os).abs:=a8X (n:=704) (N:=(736+(704+(704+(738+(497+2)))))) (s:=(hX3 w os).abs) (s':=(hX4 w os).abs) (r:=(G3 w os).abs) (l:=hQ4) (rest:=(hQ5++(hQ6++(hQ7++(hQ8++(hQ9++[])))))) (c:=hC) (pos:={ line:=44,col:=0,endLine:=45,endCol:=8 }) (p':={ line:=52,col:=0,endLine:=55,endCol:=24 }) (env:=hN) (q:={ line:=0,col:=0,endLine:=0,endCol:=0 }) (a6W (congrFun (hp4 w) os)) (hr5 w os)
theorem hr3 (w:World) (os:OsState):a3K treeTable PySem.Challenge.pw_struckdeeds_k15_rows_gone w 11 (a1W (a0X 6)) (614+(704+(736+(704+(704+(738+(497+2))))))) (hX2 w os).abs (a7Z (hQ3++(hQ4++(hQ5++(hQ6++(hQ7++(hQ8++(hQ9++[]))))))) hN hC { line:=0,col:=0,endLine:=0,endCol:=0 } hF)=some (G3 w os).abs:=a8X (n:=614) (N:=(704+(736+(704+(704+(738+(497+2))))))) (s:=(hX2 w os).abs) (s':=(hX3 w os).abs) (r:=(G3 w os).abs) (l:=hQ3) (rest:=(hQ4++(hQ5++(hQ6++(hQ7++(hQ8++(hQ9++[]))))))) (c:=hC) (pos:={ line:=0,col:=0,endLine:=0,endCol:=0 }) (p':={ line:=44,col:=0,endLine:=45,endCol:=8 }) (env:=hN) (q:={ line:=0,col:=0,endLine:=0,endCol:=0 }) (a6W (congrFun (hp3 w) os)) (hr4 w os)
theorem hr2 (w:World) (os:OsState):a3K treeTable PySem.Challenge.pw_struckdeeds_k15_rows_gone w 11 (a1W (a0X 6)) (1+(614+(704+(736+(704+(704+(738+(497+2)))))))) (hX1 w os).abs ⟨denote treeTable hC,hC,{ line:=0,col:=0,endLine:=0,endCol:=0 },hF⟩=some (G3 w os).abs:=PySem.W.piece_block (n:=1) (N:=(614+(704+(736+(704+(704+(738+(497+2)))))))) (s:=(hX1 w os).abs) (s':=(hX2 w os).abs) (r:=(G3 w os).abs) (b:=hB) (env:=hN) (c:=hC) (pos:={ line:=0,col:=0,endLine:=0,endCol:=0 }) (p':={ line:=0,col:=0,endLine:=0,endCol:=0 }) (q:={ line:=0,col:=0,endLine:=0,endCol:=0 }) (a6W (congrFun (hp2 w) os)) (by rw[hR1];exact hr3 w os)
noncomputable def hH:Params->Heap:=λP=>PySem.W.absHeap (hT9 P) 519 { }
theorem hr1 (w:World) (os:OsState):a3K treeTable PySem.Challenge.pw_struckdeeds_k15_rows_gone w 11 (a1W (a0X 6)) (12+(1+(614+(704+(736+(704+(704+(738+(497+2))))))))) ⟨a4K w.params,⟨[]⟩,b4J,b5Z,os⟩ (PySem.W.topStub PySem.Challenge.pw_struckdeeds_k15_rows_gone)=some (G3 w os).abs:=PySem.W.go_top (n:=12) (N:=(1+(614+(704+(736+(704+(704+(738+(497+2))))))))) (s':=(hX1 w os).abs) (t':=⟨denote treeTable hC,hC,{ line:=0,col:=0,endLine:=0,endCol:=0 },hF⟩) (congrFun (hp1 w) os) (hr2 w os)
theorem hR (w:World) (os:OsState):a3K treeTable PySem.Challenge.pw_struckdeeds_k15_rows_gone w 11 (a1W (a0X 6)) (12+(1+(614+(704+(736+(704+(704+(738+(497+2))))))))) ⟨a4K w.params,⟨[]⟩,b4J,b5Z,os⟩ (PySem.W.topStub PySem.Challenge.pw_struckdeeds_k15_rows_gone)=some ⟨hH w.params,⟨[]⟩,{ },891,os⟩:=(hr1 w os).trans (by kernel_rfl)
theorem hZ (w:World):(λos=>((PySem.W.staticsOk (PySem.importedModules PySem.Challenge.pw_struckdeeds_k15_rows_gone.main.body) (a4K w.params) (hH w.params)&&PySem.W.namesBound PySem.Challenge.pw_struckdeeds_k15_rows_gone (hH w.params)&&PySem.W.gensDone ⟨hH w.params,⟨[]⟩,{ },891,os⟩&&PySem.W.laidKept (a4K w.params) (hH w.params)),PySem.W.openSeen hV [a0Q "FORMS"] (PySem.importedModules PySem.Challenge.pw_struckdeeds_k15_rows_gone.main.body) (λs=>PySem.W.xlAt hV [] s&&PySem.W.recOk (b2W (b1X (b2V PySem.Challenge.rw_struckdeeds_k15_rows_gone))) s) true ⟨hH w.params,⟨[]⟩,{ },891,os⟩,b4W (a6J hK hA hE) ⟨hH w.params,⟨[]⟩,{ },891,os⟩))=λ_=>(true,PySem.W.openGood hV [a0Q "FORMS"],b4K (a6J hK hA hE) w):=by kernel_rfl
theorem hO:PySem.W.opening PySem.Challenge.pw_struckdeeds_k15_rows_gone=PySem.W.plainProg PySem.Challenge.pw_struckdeeds_k15_rows_gone.main.scope.names:=by kernel_rfl
theorem hG (w:World):((a4K w.params).isNs mainGlobals&&(⟨[]⟩:Array GenState).size==0,(a4K w.params).objs.size,(a4K w.params).nsMap mainGlobals (a0Q "__annotations__"))=(true,11,a1W (a0X 6)):=by kernel_rfl
theorem hJ (s:Shared):PySem.fenceModules? PySem.Challenge.pw_struckdeeds_k15_rows_gone s=some s:=by kernel_rfl
theorem hL:PySem.W.LeftO PySem.Challenge.pw_struckdeeds_k15_rows_gone hV [a0Q "FORMS"] (λs=>PySem.W.xlAt hV [] s&&PySem.W.recOk (b2W (b1X (b2V PySem.Challenge.rw_struckdeeds_k15_rows_gone))) s) (b4W (a6J hK hA hE)) (b4K (a6J hK hA hE)) 9506:=
 @PySem.W.LeftO.of_pieces PySem.Challenge.pw_struckdeeds_k15_rows_gone hV [a0Q "FORMS"] (λs=>PySem.W.xlAt hV [] s&&PySem.W.recOk (b2W (b1X (b2V PySem.Challenge.rw_struckdeeds_k15_rows_gone))) s) _ (b4W (a6J hK hA hE)) (b4K (a6J hK hA hE)) 9506 true a4K hH ⟨[]⟩ ⟨[]⟩ b4J { } b5Z 891 11 (a1W (a0X 6)) (12+(1+(614+(704+(736+(704+(704+(738+(497+2))))))))) (PySem.W.boot_open hO (by decide) hJ) hG hR (by decide) hZ
theorem hS:PySem.W.OpenLaw.wellSaid PySem.Challenge.rw_struckdeeds_k15_rows_gone=true:=by kernel_rfl
theorem uL (P:Params):XKit (hK P) 154:=⟨by kernel_rfl,by kernel_rfl,by kernel_rfl,by kernel_rfl,by kernel_rfl,by kernel_rfl,by kernel_rfl,by kernel_rfl⟩
theorem tQ (P:Params):JX (hK P) 154 "number" := (by kernel_rfl:a5Q (hK P) (.ref 154) "number"=some none)
theorem tR (P:Params):a3W (hK P) (.ref 154) (.ref 154)=some true:=by kernel_rfl
theorem tS (P:Params):a3W (hK P) (.ref 154) (.type "ValueError")=some true:=by kernel_rfl
theorem tT (P:Params):a7J (hK P) (.ref 154) (b7Z a0X [173,292,116,273,192,311])=some false:=by kernel_rfl
theorem tU (P:Params):a7J (hK P) (.ref 154) (b7Z a0X [261,223,242,204,104,135])=some false:=by kernel_rfl
set_option hygiene false
local macro_rules | `(tactic| walk_at "lc")=>`(tactic| first | exact Or.inl rfl | exact Or.inr rfl | exact Or.inr (Or.inl rfl) | exact Or.inr (Or.inr rfl))
local macro_rules | `(tactic| walk_at "or")=>`(tactic| first | exact .inl rfl | exact .inr rfl | assumption)
local macro_rules | `(tactic| walk_at "q")=>`(tactic| first | ((with_reducible show PSs _ [] _);exact @iJ _) | ((with_reducible show PSs _ [_] _);exact @LL _ _ _ (by walk_at "s")) | ((with_reducible show PSs _ (_::_) _);exact @SQ _ _ _ _ _ (by walk_at "s") (by walk_at "q")))
local macro_rules | `(tactic| walk_at "s")=>`(tactic| first | ((with_reducible show PS _ (.Assign [.Name ..] (.ListComp ..) _) _);exact @jC _ _ _ _ _ _ _ _ _ _ _ _ _ _ _ _ _ rfl (by assumption) (RH (by rfl)) (by walk_at "lc") (by walk_at "cs") (by walk_at "n") (λC s' H' zg vW=>⟨(by walk_at "g"),(by walk_at "u"),(by walk_at "e")⟩) rfl (by walk_at "or") (by intro _;rfl)) | ((with_reducible show PS _ (.Assign [.Name ..] ..) _);exact @nR _ _ _ _ _ _ _ (by assumption) (RH (by rfl)) (by walk_at "lc") (by walk_at "e") (by rfl) (by walk_at "or")) | ((with_reducible show PS _ (.If ..) _);first | walk_at "z" | exact @rK _ _ _ _ _ _ _ _ (by walk_at "t") (by walk_at "q") (by walk_at "q")) | ((with_reducible show PS _ (.Return (some _) _) _);exact @nN _ _ _ _ (by walk_at "e")) | ((with_reducible show PS _ (.For ..) _);first | exact @bR _ _ _ _ _ _ _ _ PassesOwn.never rfl (by walk_at "n") (by walk_at "g") (by walk_at "q") (by intro _;rfl) | exact @bR _ _ _ _ _ _ _ _ (@WL _ _ rfl rfl) rfl (by walk_at "n") (by walk_at "g") (by walk_at "q") (by intro _;rfl)) | ((with_reducible show PS _ (.Expr ..) _);exact @iK _ _ _ _ (by walk_at "e") (by rfl)) | ((with_reducible show PS _ (.Raise ..) _);first | ((with_reducible show PS _ (.Raise (some (.Call _ [_] ..)) ..) _);exact @l7 P w K mg base _ _ _ _ _ _ _ _ _ _ _ rfl rfl rfl rfl rfl (by with_reducible assumption) (hr.mono (by decide)) rfl (by walk_at "a") (by decide) (by rfl)) | ((with_reducible show PS _ (.Raise (some (.Call _ [] ..)) ..) _);exact @l9 K mg _ _ _ _ _ _ _ _ rfl rfl (by with_reducible assumption) hr.hd rfl (by decide))) | walk_at "x")
local macro_rules | `(tactic| walk_at "e")=>`(tactic| first | ((with_reducible show PE _ (.Name ..) _);first | exact @pvx _ _ _ _ (by rfl) (by walk_at "lc") (by decide) (by decide) | exact @jZ _ _ _ _ (by rfl) (by assumption) (by decide) | exact @jY _ _ _ _ (by rfl) (by assumption) (by decide) | exact @FM _ _ (.ty "int") _ _ (by rfl) (by assumption) PyProof.Rows.boot_int rfl (by decide) (by decide) | exact @FM _ _ (.ty "str") _ _ (by rfl) (by assumption) PyProof.Rows.boot_str rfl (by decide) (by decide) | exact @FM _ _ (.ty "bool") _ _ (by rfl) (by assumption) PyProof.Rows.boot_bool rfl (by decide) (by decide) | exact @FM _ _ (.ty "list") _ _ (by rfl) (by assumption) PyProof.Rows.boot_list rfl (by decide) (by decide) | exact @FM _ _ (.ty "tuple") _ _ (by rfl) (by assumption) PyProof.Rows.boot_tuple rfl (by decide) (by decide) | exact @FM _ _ (.ty "dict") _ _ (by rfl) (by assumption) PyProof.Rows.boot_dict rfl (by decide) (by decide) | exact @FM _ _ (.ty "ValueError") _ _ (by rfl) (by assumption) PyProof.Rows.boot_ValueError rfl (by decide) (by decide)) | ((with_reducible show PE _ (.ListComp ..) _);exact @jB _ _ _ _ _ _ _ _ _ _ _ _ _ rfl (by walk_at "cs") (by walk_at "n") (λC s' H' zg vW=>⟨(by walk_at "g"),(by walk_at "u"),(by walk_at "e")⟩) (by intro _;rfl)) | ((with_reducible show PE _ (.DictComp ..) _);exact @eQ _ _ _ _ _ _ _ _ _ _ _ _ _ _ _ rfl fq (by walk_at "cs") (by walk_at "n") (λC s' H' zg vW=>⟨(by walk_at "g"),(by walk_at "u"),(by walk_at "e"),(by walk_at "e")⟩) (by intro _;rfl)) | ((with_reducible show PE _ (.Constant ..) _);first | ((with_reducible show PE _ (.Constant (.int _) ..) _);exact @nD _ _ _ _) | ((with_reducible show PE _ (.Constant (.str _) ..) _);exact @nG _ _ _ _) | ((with_reducible show PE _ (.Constant (.bool _) ..) _);exact @rE _ _ _ _) | ((with_reducible show PE _ (.Constant .none ..) _);exact @nE _ _ _)) | ((with_reducible show PE _ (.Call ..) _);first | walk_at "y" | ((with_reducible show PE _ (.Call (.Name (a0Q "len") _) ..) _);exact @CU _ _ _ _ _ _ _ _ _ (@u7 _ K rfl) (by rfl) (by assumption) PySem.boot_len (by walk_at "a") (by decide) (by decide) (by rfl) (by rfl)) | ((with_reducible show PE _ (.Call (.Name (a0Q "isinstance") _) ..) _);exact @CU _ _ _ _ _ _ _ _ _ (@uA _ K rfl) (by rfl) (by assumption) a8Z (by walk_at "a") (by decide) (by decide) (by rfl) (by rfl)) | ((with_reducible show PE _ (.Call (.Name (a0Q "all") _) ..) _);exact @CU _ _ _ _ _ _ _ _ _ (@u8 _ K rfl rfl) (by rfl) (by assumption) PyProof.Rows.boot_all (by walk_at "a") (by decide) (by decide) (by rfl) (by rfl)) | ((with_reducible show PE _ (.Call (.Name (a0Q "any") _) ..) _);exact @CU _ _ _ _ _ _ _ _ _ (@u9 _ K rfl rfl) (by rfl) (by assumption) PyProof.Rows.boot_any (by walk_at "a") (by decide) (by decide) (by rfl) (by rfl)) | ((with_reducible show PE _ (.Call (.Name (a0Q "sorted") _) ..) _);exact @CU _ _ _ _ _ _ _ _ _ (@qF _ K rfl rfl) (by rfl) (by assumption) PyProof.Rows.boot_sorted (by walk_at "a") (by decide) (by decide) (by rfl) (by rfl)) | ((with_reducible show PE _ (.Call (.Name (a0Q "tuple") _) ..) _);exact @JY _ _ _ _ _ _ _ _ _ (@pU _ K rfl) (by rfl) (by assumption) PyProof.Rows.boot_tuple (by walk_at "a") (by decide) (by decide) (by rfl) (by rfl)) | ((with_reducible show PE _ (.Call (.Name ..) ..) _);exact @mW _ K P w mg base _ _ _ _ _ _ _ _ _ rfl rfl rfl rfl rfl (by with_reducible assumption) (hr.mono (by decide)) rfl (by walk_at "a") (by decide) (by rfl) (by rfl)) | ((with_reducible show PE _ (.Call (.Name ..) ..) _);exact @qL P w K mg base _ _ _ _ _ _ _ _ _ _ _ rfl rfl rfl rfl rfl (by with_reducible assumption) (hr.mono (by decide)) rfl (by walk_at "a") (by decide) (by rfl) (by rfl)) | ((with_reducible show PE _ (.Call (.Attribute _ (a0Q "append") _) ..) _);exact @kBm _ K _ _ _ _ _ _ _ _ _ _ _ rfl PySem.F.plainAttrs_list PySem.F.slot_list_append PySem.F.type_list_append (@e8 _) (by walk_at "e") (by walk_at "a") (by rfl) (by rfl) (by rfl) (by rfl) (by rfl)) | walk_at "x") | ((with_reducible show PE _ (.BinOp ..) _);first | ((with_reducible show PE _ (.BinOp _ .Add ..) _);exact @HL _ _ _ _ _ _ _ _ (@sV _ K rfl) (by walk_at "e") (by walk_at "e")) | ((with_reducible show PE _ (.BinOp _ .Sub ..) _);exact @HL _ _ _ _ _ _ _ _ (@nX _) (by walk_at "e") (by walk_at "e")) | ((with_reducible show PE _ (.BinOp _ .Mod ..) _);exact @HL _ _ _ _ _ _ _ _ (@nY _) (by walk_at "e") (by walk_at "e")) | ((with_reducible show PE _ (.BinOp _ .FloorDiv ..) _);exact @HL _ _ _ _ _ _ _ _ (@cJ _) (by walk_at "e") (by walk_at "e")) | ((with_reducible show PE _ (.BinOp _ .Pow ..) _);exact @HL _ _ _ _ _ _ _ _ (@nZ _) (by walk_at "e") (by walk_at "e")) | ((with_reducible show PE _ (.BinOp _ .LShift ..) _);exact @HL _ _ _ _ _ _ _ _ (@o0 _) (by walk_at "e") (by walk_at "e"))) | ((with_reducible show PE _ (.Compare ..) _);first | walk_at "y" | ((with_reducible show PE _ (.Compare _ [.Eq] ..) _);exact @FO _ _ _ _ _ _ _ _ (@kEq _ K rfl hu) (by walk_at "e") (by walk_at "e") (@D6 _ _ (by decide) (by decide))) | ((with_reducible show PE _ (.Compare _ [.NotEq] ..) _);exact @FO _ _ _ _ _ _ _ _ (@kNe _ K rfl hu) (by walk_at "e") (by walk_at "e") (@D6 _ _ (by decide) (by decide))) | ((with_reducible show PE _ (.Compare _ [.Lt] ..) _);exact @FO _ _ _ _ _ _ _ _ (@cU _) (by walk_at "e") (by walk_at "e") (@D6 _ _ (by decide) (by decide))) | ((with_reducible show PE _ (.Compare _ [.Is] ..) _);exact @FO _ _ _ _ _ _ _ _ (@eJ _) (by walk_at "e") (by walk_at "e") (@D6 _ _ (by decide) (by decide))) | ((with_reducible show PE _ (.Compare _ [.IsNot] ..) _);exact @FO _ _ _ _ _ _ _ _ (@XZ _) (by walk_at "e") (by walk_at "e") (@D6 _ _ (by decide) (by decide))) | ((with_reducible show PE _ (.Compare _ [.GtE] ..) _);exact @FO _ _ _ _ _ _ _ _ (@mK _) (by walk_at "e") (by walk_at "e") (@D6 _ _ (by decide) (by decide)))) | ((with_reducible show PE _ (.Subscript ..) _);first | ((with_reducible show PE _ (.Subscript _ (.Slice _ _ none _) _) _);exact @c7 _ _ _ _ _ _ _ _ _ _ (@uB _ K rfl) (by walk_at "e") (by walk_at "o") (by walk_at "o")) | walk_at "y" | exact @rS _ _ _ _ _ _ _ (@kIx _ K rfl) (by walk_at "e") (by walk_at "e") (λ_ _=>rfl)) | ((with_reducible show PE _ (.Tuple ..) _);exact @QM _ _ _ _ _ (by walk_at "a")) | ((with_reducible show PE _ (.List ..) _);exact @oE _ _ _ _ (by walk_at "a")) | ((with_reducible show PE _ (.IfExp ..) _);exact @bL _ _ _ _ _ _ _ _ (by walk_at "t") (by walk_at "e") (by walk_at "e")) | ((with_reducible show PE _ (.BoolOp ..) _);first | ((with_reducible show PE _ (.BoolOp _ [_] _) _);exact @nJ _ _ _ _ _ (by walk_at "e")) | ((with_reducible show PE _ (.BoolOp .Or ..) _);exact @rJ _ _ _ _ _ _ _ (by walk_at "e") (by walk_at "e")) | exact @nK _ _ _ _ _ _ _ (by walk_at "e") (by walk_at "e")) | ((with_reducible show PE _ (.UnaryOp ..) _);first | ((with_reducible show PE _ (.UnaryOp .Not ..) _);exact @nL _ _ _ _ (by walk_at "e")) | exact @rO _ _ _ _ _ _ (@o8 _) (by walk_at "e")) | walk_at "x")
local macro_rules | `(tactic| walk_at "t")=>`(tactic| first | ((with_reducible show PT _ (.Compare ..) _);first | walk_at "y" | ((with_reducible show PT _ (.Compare _ [.Eq] ..) _);exact @EE _ _ _ _ _ _ _ _ (@kEq _ K rfl hu) (by walk_at "e") (by walk_at "e") (@D6 _ _ (by decide) (by decide))) | ((with_reducible show PT _ (.Compare _ [.NotEq] ..) _);exact @EE _ _ _ _ _ _ _ _ (@kNe _ K rfl hu) (by walk_at "e") (by walk_at "e") (@D6 _ _ (by decide) (by decide))) | ((with_reducible show PT _ (.Compare _ [.Lt] ..) _);exact @EE _ _ _ _ _ _ _ _ (@cU _) (by walk_at "e") (by walk_at "e") (@D6 _ _ (by decide) (by decide))) | ((with_reducible show PT _ (.Compare _ [.Is] ..) _);exact @EE _ _ _ _ _ _ _ _ (@eJ _) (by walk_at "e") (by walk_at "e") (@D6 _ _ (by decide) (by decide))) | ((with_reducible show PT _ (.Compare _ [.IsNot] ..) _);exact @EE _ _ _ _ _ _ _ _ (@XZ _) (by walk_at "e") (by walk_at "e") (@D6 _ _ (by decide) (by decide))) | ((with_reducible show PT _ (.Compare _ [.GtE] ..) _);exact @EE _ _ _ _ _ _ _ _ (@mK _) (by walk_at "e") (by walk_at "e") (@D6 _ _ (by decide) (by decide))) | walk_at "x") | ((with_reducible show PT _ (.BoolOp ..) _);exact @L2.PW.pt _ _ _ (by walk_at "w")) | ((with_reducible show PT _ (.UnaryOp .Not ..) _);exact @nI _ _ _ _ (by walk_at "t")) | exact @nH _ _ _ (by walk_at "e") (by intro _;rfl))
local macro_rules | `(tactic| walk_at "w")=>`(tactic| first | ((with_reducible show PW _ (.BoolOp .Or ..) _);first | ((with_reducible show PW _ (.BoolOp _ [_] _) _);exact @pw_or1 _ _ _ _ (by walk_at "t")) | exact @pw_or _ _ _ _ _ _ _ (by walk_at "t") (by walk_at "w")) | ((with_reducible show PW _ (.BoolOp _ [_] _) _);exact @pw_and1 _ _ _ _ (by walk_at "t")) | exact @pw_and _ _ _ _ _ _ _ (by walk_at "t") (by walk_at "w"))
local macro_rules | `(tactic| walk_at "a")=>`(tactic| first | ((with_reducible show PA _ [] _);exact @GH _) | exact @AR _ _ _ _ _ (by walk_at "e") (by walk_at "a") (by rfl))
local macro_rules | `(tactic| walk_at "o")=>`(tactic| first | ((with_reducible show PO _ none _);exact @iS _) | exact @iT _ _ _ (by walk_at "e"))
local macro_rules | `(tactic| walk_at "u")=>`(tactic| first | ((with_reducible show PTs _ [] _);exact @j9 _) | exact @jA _ _ _ (by walk_at "t"))
local macro_rules | `(tactic| walk_at "n")=>`(tactic| first | ((with_reducible show PI _ _ (.Call ..) _);first | ((with_reducible show PI _ _ (.Call (.Name (a0Q "range") _) [_] ..) _);exact @Z2 _ _ _ _ _ _ rfl (by assumption) (by walk_at "a") (by rfl)) | walk_at "x") | walk_at "y" | exact @sS _ K _ _ _ rfl (by walk_at "e"))
local macro_rules | `(tactic| walk_at "g")=>`(tactic| first | ((with_reducible show PG _ (.Name ..) _);exact @X8 _ _ _ _ (by assumption) (RH (by rfl)) (by walk_at "lc") (by walk_at "or")) | walk_at "x")
local macro_rules | `(tactic| walk_at "j")=>`(tactic| first | ((with_reducible show PGs _ [] _);exact @iM _) | exact @bN _ _ _ _ _ (by walk_at "g") (by walk_at "j") (by rfl))
local macro_rules | `(tactic| walk_at "b1")=>`(tactic| exact @LL _ _ _ (by walk_at "s"))
local macro_rules | `(tactic| walk_at "b2")=>`(tactic| exact @SQ _ _ _ _ _ (by walk_at "s") (by walk_at "q"))
local macro_rules | `(tactic| walk_at "dl")=>`(tactic| first
 | (with_reducible first | refine cP ?_ | refine fX ?_ | refine cO ?_ | refine XS ?_ | refine cM ?_ | refine sM ?_ | refine XR ?_ | refine XQ ?_ | refine ML ?_ | refine f7 ?_ | refine n4 ?_ | refine aH ?_ | refine aG ?_ | refine YB (CY ?_) | refine WN (CY ?_) | refine WM (CY ?_) | refine DH (cO ?_) | refine DH (XS ?_) | refine DH (cM ?_) | refine DH (XR ?_) | refine DH (XQ ?_) | refine DH (ML ?_) | refine DH (f7 ?_))
 | ((with_reducible apply p6);exact rfl)
 | (with_reducible first | refine p7 ?_ | refine sC ?_ | refine p9 ?_ | refine pA ?_ | refine sD ?_ | refine sE ?_ | refine sF ?_ | refine cK ?_ | refine jF ?_ | refine u5 ?_ | refine pB ?_ | refine sG ?_ | refine pC ?_ | refine pD ?_ | refine pE ?_ | refine sH ?_ | refine pF ?_ | refine sI ?_ | refine cL ?_ | refine jG ?_ | refine sJ ?_ | refine pG ?_ | refine sK ?_ | refine jI ?_ | refine jJ ?_ | refine jR ?_ | refine dJ ?_ | refine k8 ?_)
 | ((with_reducible refine pY ?_ ?_);exact rfl)
 | ((with_reducible refine kN ?_ ?_);exact rfl)
 | (with_reducible first | refine sO ?_ | refine sP ?_ | refine u6 ?_ | refine dP ?_ | refine jU ?_)
 | ((with_reducible refine T3 ?_ ?_);(first
     | ((with_reducible show CMul _ _);first | exact dS (by decide) (by decide) | exact R8 (by decide) (by decide) | exact R8 (by lia) (by lia))
     | ((with_reducible show mT _ _);first | exact⟨by decide,by decide⟩ | exact⟨by assumption,by assumption⟩)
     | ((with_reducible show nV _ _);exact⟨by decide,by decide,by decide⟩)
     | (show(0:Int) < _;first | decide | assumption | lia)))
 | ((with_reducible apply d2A_ixo);(first | assumption | exact zU);exact rfl)
 | ((with_reducible apply setq);(first | assumption | exact zU);exact rfl)
 | ((with_reducible refine eB ?_ ?_);(first | exact CMul.ok (dS (by decide) (by decide)) | exact CMul.ok (R8 (by decide) (by decide))))
 | (with_reducible first | refine d2_isB ?_ | refine d2_notB ?_ | refine rd_max ?_ | refine rd_min ?_ | refine rd_intb ?_ | refine dgs_item ?_ | refine rd_abs ?_)
 | ((with_reducible refine dE (b:=true) ?_ ?_);exact rfl)
 | ((with_reducible refine dE (b:=false) ?_ ?_);exact rfl)
 | with_reducible refine jH ?_
 | ((with_reducible apply uC);exact rfl;exact yD rfl)
 | (with_reducible refine Exists.intro _ (And.intro rfl ?_))
 | (with_reducible refine L2.j6 ?_)
 | (with_reducible refine L2.j4 ?_)
 | (refine L2.j6 ?_)
 | (refine L2.j4 ?_))
local macro_rules | `(tactic| walk_at "r")=>`(tactic| repeat walk_at "dl")
local macro_rules | `(tactic| walk_at "wkd")=>`(tactic| repeat (first | walk_at "dl" | refine GK ?_ | refine de_dnew ?_))
local macro_rules | `(tactic| walk_at "wks")=>`(tactic| repeat ((fail_if_success (with_reducible show DSt _ _ _ _ _));(first | walk_at "dl" | refine GK ?_ | refine de_dnew ?_)))
section
variable {P:Program}{w:World}{K:Frg}{mg:Str->Option Value}{base:Heap}
def S0:List Str:=["_law_script", "_law_k"]
theorem JJ:FnScope S0 ["_law_script", "_law_k"] (AC EN):=⟨rfl,rfl,rfl,by decide +kernel,rfl,by decide +kernel,by decide +kernel⟩
theorem S3 {f:Addr}{fd:FuncData}(F:Fun K "_law_cell" "_law_cell" EN f fd) (bi:mg "len"=none):FnOk P w K mg base CX0 1 f fd ["_law_script", "_law_k"] (spD K 2 JB):=by
 refine fnD F JJ λcdv A outer s H E hr=>?_;have hu:=hr.units;have nd:=JJ.nd;refine⟨_,by walk_at "b2", ?_⟩;clear nd;rintro xs M hl ⟨ns,k,rfl⟩;walk_at "r";refine LN ?_;walk_at "r";rw[zX];cases hk:decide ((k:Int) < (ns.length:Int)) with
 | true=>
   have xA:k < ns.length:=by have:=of_decide_eq_true hk;lia
   walk_at "r";refine AK (d:=.int ns[k]) (AA (by rw[zF,zV xA];rfl)) ?_;exact⟨M,zT M,rfl,_,rfl⟩
 | false=> walk_at "r";exact⟨M,zT M,rfl,_,rfl⟩
def LG:List Str:=["_law_cell_here", "_law_size", "_law_one", "_law_other", "_law_found", "_law_k", "_law_number_here"]
theorem G9:FnScope LG ["_law_cell_here", "_law_size"] (AC CC):=⟨rfl,rfl,rfl,by decide +kernel,rfl,by decide +kernel,by decide +kernel⟩
section
local macro_rules | `(tactic| walk_at "x")=>`(tactic| first | ((with_reducible show PE _ (.BinOp _ .Mult ..) _);exact @HL _ _ _ _ _ _ _ _ (@kK _ K rfl) (by walk_at "e") (by walk_at "e")))
theorem LH {f:Addr}{fd:FuncData}(F:Fun K "_law_stirred" "_law_stirred" CC f fd) (ay:mg "range"=none):FnOk P w K mg base CX0 1 f fd ["_law_cell_here", "_law_size"] (spD K 2 EK):=by
 refine fnD F G9 λcdv A outer s H E hr=>?_;have hu:=hr.units;have nd:=G9.nd;refine⟨_,by walk_at "b2", ?_⟩;clear nd;rintro xs M hl ⟨c,n,rfl,hn⟩;walk_at "r";refine IX ?_;walk_at "r";intro A hA;walk_at "r";refine IC ?_;refine H0 ?_;walk_at "r";refine⟨by lia,by lia,?_⟩;refine⟨λk ρ1 M1=>∃(c' a b:Int) (acc:List Int) (x5 x6:Option DS),acc.length=k/\okX acc/\0<=a/\a < 2147483629/\0<=b/\b < 2147483549/\M1=M.put A (.l (acc.map .int))/\ρ1=[some (.d (.int c')),some (.d (.int n)),some (.d (.int a)),some (.d (.int b)),some (.loc A),x5,x6],⟨c,_,_,[],_,_,rfl,(λx hx=>nomatch hx),(by lia:0<=c % 2147483579+13),by lia,(by lia:0<=c/1013 % 1999999871+31),by lia,rfl,rfl⟩,?_,?_⟩
 . rintro k d ρ1 M1 hd ⟨c',a,b,acc,x5,x6,hk,hok,a0,a1,b0,b1,rfl,rfl⟩;obtain⟨wt,rfl⟩:=HB hd;walk_at "r";refine eB (CMul.ok (R8 (by lia) (by lia))) ?_;walk_at "r";generalize ea:(a*48271+b+43*(k:Int)) % 2147483629=a2;have Dp:0<=a2:=by lia
   have Dq:a2 < 2147483629:=by lia
   generalize eb:(b*39373+7*a2+(k:Int)*(k:Int)) % 2147483549=b2;have xY:0<=b2:=by rw[<-eb];exact a4Q _ (by decide)
   have ya:b2 < 2147483549:=by rw[<-eb];exact a7W _ (by decide)
   cases hc:decide ((10:Int) ^ Int.toNat 18<=c') with
   | true=>
     walk_at "r";refine KK ?_;walk_at "dl";refine⟨FP (ds:=acc.map .int) zU,?_⟩;walk_at "r";refine CJ (ds:=acc.map .int) zU (by rw[zX];exact zP (show _ < 201 by lia) (by decide)) ?_;rw[yI,show(10:Int) ^ Int.toNat 9=1000000000 by decide];refine⟨_,a2,b2,acc++[c' % 1000000000],_,_,by rw[yY,hk];rfl,λv hv=>?_,Dp,Dq,xY,ya,by rw[xJ];rfl,rfl⟩;rcases yW.mp hv with h | h;. exact hok v h
     . rw[List.mem_singleton.mp h];lia
   | false=>
     walk_at "r";refine KK ?_;walk_at "dl";refine⟨FP (ds:=acc.map .int) zU,?_⟩;walk_at "r";refine CJ (ds:=acc.map .int) zU (by rw[zX];exact zP (show _ < 201 by lia) (by decide)) ?_;rw[yI];refine⟨_,a2,b2,acc++[(a2+13*b2) % 999999883],_,_,by rw[yY,hk];rfl,λv hv=>?_,Dp,Dq,xY,ya,by rw[xJ];rfl,rfl⟩;rcases yW.mp hv with h | h;. exact hok v h
     . rw[List.mem_singleton.mp h];lia
 . rintro ρ1 M1 ⟨c',a,b,acc,x5,x6,hk,hok,a0,a1,b0,b1,rfl,rfl⟩;rw[GN] at hk;refine F6 (i:=4) (a:=A) rfl zU ?_;rw[yG hA];walk_at "r";refine⟨M,zT M,λc2 n2 e=>⟨rfl,acc,rfl,?_,hok⟩⟩;simp only[List.cons.injEq,DS.d.injEq,PyData.int.injEq,and_true] at e;lia
end
def HR:List Str:=["_law_xs", "_law_at", "_law_size", "_law_letters", "_law_word", "_law_x", "_law_found", "_law_k", "_law_name", "_law_first"]
def GA:List Str:=["_law_k", "_law_letters", "_law_xs", "_law_at"]
def GB:List (Option Nat):=[none,some 3,some 0,some 1]
theorem LI:GA.Nodup:=by decide +kernel
theorem HS:FnScope HR ["_law_xs", "_law_at", "_law_size"] (AC CD):=⟨rfl,rfl,rfl,by decide +kernel,rfl,by decide +kernel,by decide +kernel⟩
section
local macro_rules | `(tactic| walk_at "cs")=>`(tactic| first | exact @RI _ _ GA GB (AC CD) HR (by decide +kernel) (by decide +kernel) rfl rfl)
local macro_rules | `(tactic| walk_at "x")=>`(tactic| first | ((with_reducible show PE _ (.Call (.Attribute _ (a0Q "join") _) ..) _);exact @kBm _ K _ _ _ _ _ _ _ _ _ _ _ rfl PySem.F.plainAttrs_str PySem.F.slot_str_join PySem.F.type_str_join (@sR _ K rfl) (by walk_at "e") (by walk_at "a") (by rfl) (by rfl) (by rfl) (by rfl) (by rfl)) | ((with_reducible show PE _ (.BinOp _ .Mult ..) _);exact @HL _ _ _ _ _ _ _ _ (@kK _ K rfl) (by walk_at "e") (by walk_at "e")))
theorem OL {f:Addr}{fd:FuncData}(F:Fun K "_law_names" "_law_names" CD f fd) (ay:mg "range"=none):FnOk P w K mg base CX0 1 f fd ["_law_xs", "_law_at", "_law_size"] (spD K 3 HC):=by
 refine fnD F HS λcdv A outer s H E hr=>?_;have hu:=hr.units;have nd:=HS.nd;have n0:=LI;refine⟨_,by walk_at "b2", ?_⟩;clear nd n0;rintro xs M hl ⟨L,a,n,rfl,hL,ha,hn,iu⟩;unfold nxX;have la:(L.map b5W)[a]?=some (.int L[a]):=by rw[zF,zV (by lia)];rfl
 have lb:(L.map b5W)[a+1]?=some (.int L[a+1]):=by rw[zF,zV (by lia)];rfl
 have xn:=hL _ (a4X (l:=L) (n:=a) (by lia));have An:=hL _ (a4X (l:=L) (n:=a+1) (by lia));generalize L[a]=u at la xn;generalize L[a+1]=x at lb An;walk_at "r";refine KK ?_;walk_at "dl";refine⟨XT,?_⟩;walk_at "dl";refine BG (C0 0) (by simp[GB]) ?_;refine H0 ?_;walk_at "r";refine⟨by decide,by decide,?_⟩;refine⟨by decide,λ_=>true,tG u,?_,?_⟩;. intro d hd M';obtain⟨k,hk,rfl⟩:=gK (n:=8) hd;walk_at "dl";refine⟨rfl,?_⟩;walk_at "dl";refine⟨rfl,rfl,λ_=>?_⟩;walk_at "r";refine AK (AA la) ?_;walk_at "r";refine T3 ⟨by lia,by lia⟩ ?_;walk_at "r";refine XW (by rw[KM];decide) (gM _) ?_;exact⟨rfl,rfl⟩
 have hw:((F8 0 (Int.toNat 8)).filter λ_=>true).map (tG u)=((FX u).map λc=>(⟨#[c]⟩:Str)).map .str:=rfl;rw[hw];walk_at "r";refine jP (by rw[PN,IK];show 8+_*0<=_;lia) ?_;rw[W1,show(⟨(FX u).toArray⟩:Str)=z18 u from rfl];walk_at "r";refine AK (AA (j:=a+1) lb) ?_;walk_at "r";refine IX ?_;walk_at "r";intro A hA;walk_at "r";refine IC ?_;refine H0 ?_;walk_at "r";refine⟨by lia,by lia,?_⟩;refine⟨λk ρ1 M1=>M1=M.put A (.l (((a1V k).map (FF u x)).map .str))/\∃x7 x8 x9:Option DS,ρ1=[some (.d (.list (L.map .int))),some (.d (.int a)),some (.d (.int n)),some (.d (.str (a0Q "abcdefghijklmnopqrstuvwxyz"))),some (.d (.str (z18 u))),some (.d (.int x)),some (.loc A),x7,x8,x9],⟨rfl,_,_,_,rfl⟩,?_,?_⟩
 . rintro k d ρ1 M1 hd ⟨rfl,x7,x8,x9,rfl⟩;obtain⟨wt,rfl⟩:=HB hd;walk_at "r";refine T8 (by rw[NJ];decide) ?_;walk_at "r";refine B0 rfl rfl ?_;rw[if_neg nft,JA];have l8:∀m:Int,(b0J (z18 u) none (some m)).length<=8:=λm=>ZJ _ _ _ (by rw[NJ];exact zR _);have fin:∀{x7 x8 x9:Option DS},(M.put A (.l ((((a1V k).map (FF u x)).map .str)++[.str (FF u x k)])))=M.put A (.l (((a1V (k+1)).map (FF u x)).map .str)):=λ{_ _ _}=>by rw[List.range_succ,xJ,xJ];rfl
   cases hc:decide (x/8 % 2=0) with
   | true=> have tq:=of_decide_eq_true hc;walk_at "r";refine XW (by rw[KM];decide) (gM _) ?_;walk_at "r";refine T8 (by rw[NJ];decide) ?_;walk_at "r";refine dQ (by have:=l8 (x/16 % 8);exact zN (show _<=9 by show 1+_<=9;lia) (by decide)) ?_;rw[show(⟨#[HP (x/16+(k:Int))]⟩:Str)++b0J (z18 u) none (some (x/16 % 8))=FF u x k by unfold FF;rw[if_pos tq]];walk_at "r";refine KK ?_;walk_at "dl";refine⟨FP (ds:=((a1V k).map (FF u x)).map .str) zU,?_⟩;walk_at "r";refine CJ (ds:=((a1V k).map (FF u x)).map .str) zU (by simp only[zX,xZ];exact zP (show k < 7 by lia) (by decide)) ?_;rw[yI];exact⟨fin (x7:=none) (x8:=none) (x9:=none),_,_,_,rfl⟩
   | false=> have tq:=of_decide_eq_false hc;rw[show b0J (z18 u) none (some (1+(x+(k:Int)) % 8))=FF u x k by unfold FF;rw[if_neg tq]];walk_at "r";refine KK ?_;walk_at "dl";refine⟨FP (ds:=((a1V k).map (FF u x)).map .str) zU,?_⟩;walk_at "r";refine CJ (ds:=((a1V k).map (FF u x)).map .str) zU (by simp only[zX,xZ];exact zP (show k < 7 by lia) (by decide)) ?_;rw[yI];exact⟨fin (x7:=none) (x8:=none) (x9:=none),_,_,_,rfl⟩
 . rintro ρ1 M1 ⟨rfl,x7,x8,x9,rfl⟩;rw[GN];refine F6 (i:=6) (a:=A) rfl zU ?_;rw[yG hA];walk_at "r";refine⟨M,zT M,λL' a' n' e=>⟨rfl,_,rfl,lH u x hn,?_⟩⟩;simp only[nxX,List.cons.injEq,DS.d.injEq,PyData.int.injEq,and_true] at e;rw[zX,xZ];lia
end
def OM:List Str:=["_law_x"]
theorem HU:FnScope OM ["_law_x"] (AC DJ):=⟨rfl,rfl,rfl,by decide +kernel,rfl,by decide +kernel,by decide +kernel⟩
theorem OO {f:Addr}{fd:FuncData}(F:Fun K "_law_place" "_law_place" DJ f fd):FnOk P w K mg base CX0 1 f fd ["_law_x"] (spD K 1 FG):=by
 refine fnD F HU λcdv A outer s H E hr=>?_;have hu:=hr.units;have nd:=HU.nd;refine⟨_,by walk_at "b1", ?_⟩;clear nd;rintro xs M hl ⟨x,rfl,h0,h1⟩;walk_at "wkd";obtain h | h | h:x % 3=0\/x % 3=1\/x % 3=2:=by lia
 all_goals
   rw[h];refine AK rfl ?_;exact⟨M,zT M,rfl,_,rfl,by lia,by lia⟩
def NW:List Str:=["_law_x"]
theorem GS:FnScope NW ["_law_x"] (AC CQ):=⟨rfl,rfl,rfl,by decide +kernel,rfl,by decide +kernel,by decide +kernel⟩
section
local macro_rules | `(tactic| walk_at "x")=>`(tactic| first | ((with_reducible show PE _ (.BinOp _ .Mult ..) _);exact @HL _ _ _ _ _ _ _ _ (@kK _ K rfl) (by walk_at "e") (by walk_at "e")))
theorem NX {f:Addr}{fd:FuncData}(F:Fun K "_law_number" "_law_number" CQ f fd):FnOk P w K mg base CX0 1 f fd ["_law_x"] (spD K 1 E6):=by
 refine fnD F GS λcdv A outer s H E hr=>?_;have hu:=hr.units;have nd:=GS.nd;refine⟨_,by walk_at "b1", ?_⟩;clear nd;rintro xs M hl ⟨x,rfl,h0,h1⟩;walk_at "wkd";rw[show(10:Int) ^ Int.toNat 6=1000000 by decide,show(10:Int) ^ Int.toNat 8=100000000 by decide];obtain h | h | h | h:x % 4=0\/x % 4=1\/x % 4=2\/x % 4=3:=by lia
 all_goals
   rw[h];refine AK rfl ?_;exact⟨M,zT M,rfl,_,rfl,by lia,by lia⟩
end
def S4:List Str:=["_law_some", "_law_x"]
theorem JK:FnScope S4 ["_law_some", "_law_x"] (AC EO):=⟨rfl,rfl,rfl,by decide +kernel,rfl,by decide +kernel,by decide +kernel⟩
theorem S5 {f:Addr}{fd:FuncData}(F:Fun K "_law_pick" "_law_pick" EO f fd) (bi:mg "len"=none):FnOk P w K mg base CX0 1 f fd ["_law_some", "_law_x"] (spD K 2 JD):=by
 refine fnD F JK λcdv A outer s H E hr=>?_;have hu:=hr.units;have nd:=JK.nd;refine⟨_,by walk_at "b1", ?_⟩;clear nd;rintro xs M hl ⟨ys,x,rfl,h,Jr⟩;rw[show CH ys = .list (ys.map .str) from rfl];have lh:0 < ys.length:=List.length_pos_iff.mpr h;walk_at "r";refine LN ?_;rw[zX];have hp2:(0:Int) < (ys.length:Int):=by lia
 walk_at "r";obtain⟨z,e1,e2⟩:=Y5 (ys:=ys) (v:=x % (ys.length:Int)) (a4Q _ (by lia)) (a7W _ hp2);refine AK e1 ?_;refine⟨M,zT M,λci x' e=>⟨rfl,z,rfl,?_⟩⟩;simp only[CH,List.cons.injEq,DS.d.injEq,PyData.list.injEq,and_true] at e;rw[<-KN e.1];exact e2
def OP:List Str:=["_law_xs", "_law_at", "_law_names_here", "_law_found", "_law_k"]
theorem HV:FnScope OP ["_law_xs", "_law_at", "_law_names_here"] (AC DK):=⟨rfl,rfl,rfl,by decide +kernel,rfl,by decide +kernel,by decide +kernel⟩
theorem OQ {f:Addr}{fd:FuncData}(F:Fun K "_law_world" "_law_world" DK f fd) (bi:mg "len"=none) (ay:mg "range"=none) (bp:mg "sorted"=none) (ao:mg "tuple"=none) (a_:Has P w K mg base "_law_number" 1 ["_law_x"] E6) (ba:Has P w K mg base "_law_place" 1 ["_law_x"] FG):FnOk P w K mg base CX0 2 f fd ["_law_xs", "_law_at", "_law_names_here"] (spD K 3 HD):=by
 refine fnD F HV λcdv A outer s H E hr=>?_;have hu:=hr.units;have nd:=HV.nd;refine⟨_,by walk_at "b2", ?_⟩;clear nd;rintro xs M hl ⟨L,a,ys,rfl,hL,ha,iu,hn,h6⟩;unfold NK;have lx:∀i,i < L.length->(L.map b5W)[i]?=some (.int (L.getD i 0)):=λi hi=>by rw[zF,yU,zV hi];rfl
 have hx:∀i,i < L.length->0<=L.getD i 0/\L.getD i 0 < 1000000000:=λi hi=>by rw[yU,zV hi];exact hL _ (a4X hi)
 walk_at "r";refine IX ?_;walk_at "r";intro A hA;walk_at "r";refine IC ?_;refine H0 ?_;walk_at "r";refine LN ?_;rw[zX];walk_at "r";refine⟨by lia,by lia,?_⟩;refine⟨λk ρ1 M1=>k<=ys.length/\∃(w:List Th) (x4:Option DS),(w.map (·.1)).Sublist (ys.take k)/\(∀t∈w,0<=t.2.1/\t.2.1<=999/\-1000000000000<=t.2.2/\t.2.2<=1000000000000)/\M1=M.put A (.l (w.map thD))/\ρ1=[some (.d (.list (L.map .int))),some (.d (.int a)),some (.d (CH ys)),some (.loc A),x4],⟨xU _,[],_,List.nil_sublist _,(λt ht=>nomatch ht),rfl,rfl⟩,?_,?_⟩
 . rintro k d ρ1 M1 hd ⟨hk,w,x4,cf,hb,rfl,rfl⟩;obtain⟨wt,rfl⟩:=HB hd;have Az:w.length<=6:=by have:=cf.length_le;rw[zX,a2Q] at this;lia
   have Js:(ys.map a2W)[k]?=some (.str ys[k]):=by rw[zF,zV wt];rfl
   have htk:ys.take (k+1)=ys.take k++[ys[k]]:=by rw[b0K,zV wt];rfl
   walk_at "r";refine AK (AA (lx a (by lia))) ?_;walk_at "r";refine T3 ⟨by lia,by lia⟩ ?_;obtain⟨b,Jt,wF,eb⟩:∃b:Int,0 < b/\b < 2 ^ 64/\(1:Int)*2 ^ ((k:Int).toNat)=b:=by
     rw[a8J];have Ju:k < 6:=by lia
     match k,Ju with
     | 0,_=>exact⟨_,by decide,by decide,rfl⟩
     | 1,_=>exact⟨_,by decide,by decide,rfl⟩
     | 2,_=>exact⟨_,by decide,by decide,rfl⟩
     | 3,_=>exact⟨_,by decide,by decide,rfl⟩
     | 4,_=>exact⟨_,by decide,by decide,rfl⟩
     | 5,_=>exact⟨_,by decide,by decide,rfl⟩
   rw[eb];refine T3 ⟨Jt,wF⟩ ?_;walk_at "r";refine B0 rfl rfl ?_;rw[if_neg nft,JA];cases decide (L.getD a 0/b % 2=1) with
   | false=> walk_at "r";exact⟨by lia,w,_,cf.trans (by rw[htk];exact List.sublist_append_left _ _),hb,rfl,rfl⟩
   | true=>
     walk_at "r";refine KK ?_;walk_at "dl";refine⟨FP (ds:=w.map thD) zU,?_⟩;walk_at "r";refine AK (AA Js) ?_;walk_at "r";refine AK (AA (j:=a+1+k) (lx _ (by lia))) ?_;walk_at "r";refine JC (hx _ (by lia)) λv1 p0 p1=>?_;walk_at "r";refine AK (AA (j:=a+1+k) (lx _ (by lia))) ?_;walk_at "r";refine HQ (by have:=hx (a+1+k) (by lia);lia) λv2 q0 q1=>?_;walk_at "r";refine CJ (ds:=w.map thD) zU (by rw[zX];exact zQ Az (by decide)) ?_;rw[yI];refine⟨by lia,w++[(ys[k],v1,v2)],_,by rw[xJ,htk];exact List.Sublist.append cf (List.Sublist.refl _),λt ht=>?_,by rw[xJ];rfl,rfl⟩;rcases yW.mp ht with h | h;. exact hb t h
     . rw[List.mem_singleton.mp h];exact⟨p0,p1,q0,q1⟩
 . rintro ρ1 M1 ⟨hk,w,x4,cf,hb,rfl,rfl⟩;rw[GN,a3J] at cf;have Jv:(w.map (·.1)).Nodup:=hn.2.1.sublist cf;have Az:w.length<=6:=by have:=cf.length_le;rw[zX] at this;lia
   refine F6 (i:=3) (a:=A) rfl zU ?_;rw[yG hA];walk_at "r";rw[<-fK];refine eY (by rw[zD];exact Jv) (by rw[zX];lia) λcj hp dj=>?_;obtain⟨u1,u2,u3⟩:=fL hp;rw[u2];walk_at "r";refine LO ?_;refine⟨M,zT _,λL' a' ci e=>⟨rfl,cj.map unB,rfl,⟨by rw[u3];exact WJ dj,λt ht=>?_⟩,λt ht=>?_⟩⟩;. have ht:=u1.mem_iff.mp ht;exact⟨hn.1 _ (cf.subset (zL.mpr ⟨t,ht,rfl⟩)),hb t ht⟩
   . have ht:=u1.mem_iff.mp ht;simp only[NK,List.cons.injEq,DS.d.injEq,and_true] at e;rw[<-ND e.2.2];exact cf.subset (zL.mpr ⟨t,ht,rfl⟩)
def OR:List Str:=["_law_world_here", "_law_found", "_law_name", "_law_place_here", "_law_count"]
theorem HW:FnScope OR ["_law_world_here"] (AC DN):=⟨rfl,rfl,rfl,by decide +kernel,rfl,by decide +kernel,by decide +kernel⟩
section
local macro_rules | `(tactic| walk_at "x")=>`(tactic| first | ((with_reducible show PE _ (.Dict ..) _);exact @cB _ _) | ((with_reducible show PG _ (.Tuple ..) _);exact @kC _ K _ _ _ _ (3) rfl rfl (by walk_at "j") (by rfl) (by rfl)) | ((with_reducible show PS _ (.Assign [.Subscript ..] ..) _);exact @LM _ _ _ _ _ _ _ _ _ fq (by walk_at "e") (by walk_at "e") (by walk_at "e") (by rfl)))
theorem OS {f:Addr}{fd:FuncData}(F:Fun K "_law_there" "_law_there" DN f fd):FnOk P w K mg base CX0 1 f fd ["_law_world_here"] (spD K 1 FH):=by
 refine fnD F HW λcdv A outer s H E hr=>?_;have hu:=hr.units;have fq:=zQ (a2V (show 1<=64 by decide) _) hu;have nd:=HW.nd;refine⟨_,by walk_at "b2", ?_⟩;clear nd;rintro xs M hl ⟨w,rfl,xG,Jw⟩;walk_at "r";refine gL λp hp=>?_;walk_at "r";refine IC ?_;refine R6 ?_;walk_at "r";refine⟨λk ρ1 M1=>k<=w.length/\M1=M.put p (tsO (w.take k))/\∃x2 x3 x4:Option DS,ρ1=[some (.d (wD w)),some (.loc p),x2,x3,x4],⟨xU _,rfl,_,_,_,rfl⟩,?_,?_⟩
 . rintro k d ρ1 M1 hd ⟨hk,rfl,x2,x3,x4,rfl⟩;have wj:k < w.length:=by have:=(yT.mp hd).1;rw[zX] at this;exact this
   obtain rfl:thD w[k]=d:=by rw[zF,zV wj] at hd;simpa using hd
   generalize hwk:w[k]=t;rw[show thD t = .tuple [.str t.1,.int t.2.1,.int t.2.2] from rfl];walk_at "r";refine BI ?_;walk_at "r";refine⟨p,tsD (w.take k),t.1,pcD t.2.1 t.2.2,rfl,rfl,rfl,zU,BP (by rw[a2Q];lia),?_⟩;rw[yI,BJ];refine⟨by lia,?_,_,_,_,rfl⟩;rw[gR xG (by rw[zV wj,hwk])]
 . rintro ρ1 M1 ⟨hk,rfl,x2,x3,x4,rfl⟩;rw[zX,a3J];walk_at "r";refine⟨_,zT _,λw' e=>?_⟩;simp only[List.cons.injEq,DS.d.injEq,and_true] at e;rw[<-IH e];exact⟨p,hp,rfl,rfl⟩
end
def NY:List Str:=["_law_deed_here"]
theorem GU:FnScope NY ["_law_deed_here"] (AC CS):=⟨rfl,rfl,rfl,by decide +kernel,rfl,by decide +kernel,by decide +kernel⟩
theorem NZ {f:Addr}{fd:FuncData}(F:Fun K "_law_wanted" "_law_wanted" CS f fd):FnOk P w K mg base CX0 1 f fd ["_law_deed_here"] (spD K 1 CZ):=by
 refine fnD F GU λcdv A outer s H E hr=>?_;have hu:=hr.units;have nd:=GU.nd;refine⟨_,by walk_at "b2", ?_⟩;clear nd;rintro xs M hl ⟨D,rfl,hr⟩;have Jx:=hr.2.1;have fin:∀{y:DS}{ms:List Str},D.must=ms->y = .d (CH ms)->∃M2:Own,M2.Sub M/\CZ.post [.d D.d] M y M2:=λe1 e2=>⟨M,zT M,λD' e=>by simp only[List.cons.injEq,DS.d.injEq,and_true] at e;obtain rfl:=C9 e;rw[e1];exact⟨e2,rfl⟩⟩
 rw[D.d_eq] at *;walk_at "r";refine AB (d:=.str D.word) (AA (j:=0) rfl) ?_;walk_at "r";refine B0 D.word_ok (by decide +kernel) ?_;rw[if_neg nft,BO];cases h1:(D.word==a0Q "put") with
 | true=>
   walk_at "r";refine GK ?_;walk_at "r";cases D <;> first | (exfalso;simp only[Deed.word] at h1;revert h1;decide +kernel) | skip
   exact fin (ms:=[]) (by simp[Deed.must,Deed.names,Deed.made,Deed.fst,Deed.rest]) rfl
 | false=>
   walk_at "r";refine AB (d:=.str D.word) (AA (j:=0) rfl) ?_;walk_at "r";refine B0 D.word_ok (by decide +kernel) ?_;rw[if_neg nft,BO];cases h2:(D.word==a0Q "join") with
   | true=>
     walk_at "r";refine GK ?_;walk_at "r";cases D <;> first | (exfalso;simp only[Deed.word] at h2;revert h2;decide +kernel) | skip
     refine AB (d:=_) rfl ?_;walk_at "r";refine AB (d:=_) rfl ?_;walk_at "r";exact fin (ms:=[_,_]) (by simp[Deed.must,Deed.names,Deed.made,Deed.fst,Deed.rest]) rfl
   | false=>
     walk_at "r";refine GK ?_;walk_at "r";cases D <;> first | (exfalso;simp only[Deed.word] at h1;revert h1;decide +kernel) | (exfalso;simp only[Deed.word] at h2;revert h2;decide +kernel) | skip
     all_goals
       refine AB (d:=_) rfl ?_;walk_at "r";exact fin (ms:=[_]) (by first | (simp[Deed.must,Deed.names,Deed.made,Deed.fst,Deed.rest];done) | (simp[Deed.must,Deed.names,Deed.made,Deed.fst,Deed.rest,a5V Jx];done)) rfl
def S6:List Str:=["_law_deed_here"]
theorem JL:FnScope S6 ["_law_deed_here"] (AC EQ):=⟨rfl,rfl,rfl,by decide +kernel,rfl,by decide +kernel,by decide +kernel⟩
section
local macro_rules | `(tactic| walk_at "x")=>`(tactic| first | ((with_reducible show PT _ (.Compare _ [.In] ..) _);exact @EE _ _ _ _ _ _ _ _ (@kIn _ K rfl) (by walk_at "e") (by walk_at "e") (by with_unfolding_all rfl)))
theorem S7 {f:Addr}{fd:FuncData}(F:Fun K "_law_made" "_law_made" EQ f fd):FnOk P w K mg base CX0 1 f fd ["_law_deed_here"] (spD K 1 GO):=by
 refine fnD F JL λcdv A outer s H E hr=>?_;have hu:=hr.units;have nd:=JL.nd;refine⟨_,by walk_at "b2", ?_⟩;clear nd;rintro xs M hl ⟨D,rfl,hr⟩;have fin:∀{l:List Str},D.made.toList=l->∃M2:Own,M2.Sub M/\GO.post [.d D.d] M (.d (CH l)) M2:=λe2=>⟨M,zT M,λD' e=>by simp only[List.cons.injEq,DS.d.injEq,and_true] at e;obtain rfl:=C9 e;rw[e2];exact⟨rfl,rfl⟩⟩
 rw[D.d_eq] at *;walk_at "r";refine AB (d:=.str D.word) (AA (j:=0) rfl) ?_;walk_at "r";refine B0 D.word_ok (by decide +kernel) ?_;rw[if_neg nft,BO];cases h1:(D.word==a0Q "put") with
 | true=>
   walk_at "r";refine GK ?_;walk_at "r";refine AB (d:=.str D.fst) (AA (j:=1) rfl) ?_;walk_at "r";cases D <;> first | (exfalso;simp only[Deed.word] at h1;revert h1;decide +kernel) | skip
   exact fin (l:=[_]) rfl
 | false=>
   walk_at "r";refine AB (d:=.str D.word) (AA (j:=0) rfl) ?_;walk_at "wkd";refine jW (ys:=[a0Q "name", a0Q "split"]) ?_;rw[show decide (D.word∈[a0Q "name", a0Q "split"])=(D.word==a0Q "name" || D.word==a0Q "split") by rw[a3X];simp];cases h2:(D.word==a0Q "name" || D.word==a0Q "split") with
   | true=>
     walk_at "r";refine GK ?_;walk_at "r";cases D <;> first | (exfalso;simp only[Deed.word] at h2;revert h2;decide +kernel) | skip
     all_goals
       refine AB (d:=_) rfl ?_;walk_at "r";exact fin (l:=[_]) rfl
   | false=> walk_at "wkd";cases D <;> first | (exfalso;simp only[Deed.word] at h1;revert h1;decide +kernel) | (exfalso;simp only[Deed.word] at h2;revert h2;decide +kernel) | exact fin (l:=[]) rfl
end
def KZ:List Str:=["_law_there_here", "_law_deed_here"]
def HX:List Str:=["_law_name", "_law_there_here"]
def EZ:List (Option Nat):=[none,some 0]
theorem OT:HX.Nodup:=by decide +kernel
theorem L4:FnScope KZ ["_law_there_here", "_law_deed_here"] (AC E7):=⟨rfl,rfl,rfl,by decide +kernel,rfl,by decide +kernel,by decide +kernel⟩
section
local macro_rules | `(tactic| walk_at "cs")=>`(tactic| first | exact @RI _ _ HX EZ (AC E7) KZ (by decide +kernel) (by decide +kernel) rfl rfl)
local macro_rules | `(tactic| walk_at "x")=>`(tactic| first | ((with_reducible show PE _ (.Compare _ [.In] ..) _);exact @bJ _ _ _ _ _ _ (@VS _ _ _ _ _ fq (by walk_at "e") (by walk_at "e")) (by with_unfolding_all rfl)))
theorem V2 {f:Addr}{fd:FuncData}(F:Fun K "_law_can" "_law_can" E7 f fd) (jo:mg "all"=none) (vN:mg "any"=none) (h_:Has P w K mg base "_law_made" 1 ["_law_deed_here"] GO) (dk:Has P w K mg base "_law_wanted" 1 ["_law_deed_here"] CZ):FnOk P w K mg base CX0 2 f fd ["_law_there_here", "_law_deed_here"] (spD K 2 HF):=by
 refine fnD F L4 λcdv A outer s H E hr=>?_;have hu:=hr.units;have fq:=zQ (a2V (show 1<=64 by decide) _) hu;have nd:=L4.nd;have n0:=OT;refine⟨_,by walk_at "b2", ?_⟩;clear nd n0;rintro xs M hl ⟨dx,w,D,rfl,m,hr⟩;unfold tdW;have af:∀l:List Str,l.length<=2->(l.map a2W).length < sizeLine:=λl h=>by rw[zX];exact zQ h (by decide)
 have wA:D.must.length<=2:=zN (yJ _ _) (by cases D <;> simp[Deed.names]);have Jy:D.made.toList.length<=2:=by cases D.made <;> simp
 have wB:∀(z:Str),(CV (tsD w) z).isSome=decide (z∈w.map (·.1)):=λz=>by rw[AI,a6V,a3X,decide_eq_true_iff,FD]
 walk_at "r";refine BH (C0 0) (by simp[EZ]) ?_;refine BN ?_;walk_at "r";refine aN hr ?_;refine⟨_,rfl,?_⟩;refine⟨af _ wA,λ_=>true,inT (w.map (·.1)),?_,?_⟩;. rintro d hd A acc M' hA rfl;obtain⟨z,hz,rfl⟩:=zL.mp hd;walk_at "dl";refine⟨rfl,?_⟩;walk_at "dl";refine⟨rfl,rfl,λ_=>?_⟩;refine YH ?_;walk_at "r";refine⟨tsD w,z,m.put hA,rfl,?_⟩;rw[wB];exact⟨rfl,rfl⟩
 rw[a6,UI];walk_at "r";refine VX ?_;walk_at "r";have fin:∀{b:Bool},b=decide (AO (w.map (·.1)) D=none)->∃M2:Own,M2.Sub M/\HF.post (tdW dx D) M (.d (.bool b)) M2:=λ{b} e=>⟨M,zT M,λp' w' D' e' m' _=>by simp only[tdW,List.cons.injEq,DS.d.injEq,and_true] at e';obtain⟨rfl,e2⟩:=e';obtain rfl:=C9 e2;obtain rfl:=m.inj m';rw[e];exact⟨rfl,rfl⟩⟩
 rw[tH] at fin;cases ha:(D.must.map λz=>decide (z∈w.map (·.1))).all id with
 | false=> walk_at "r";exact fin (by rw[ha];rfl)
 | true=>
   walk_at "r";refine BH (C0 0) (by simp[EZ]) ?_;refine BN ?_;walk_at "r";refine UN hr ?_;refine⟨_,rfl,?_⟩;refine⟨af _ Jy,λ_=>true,inT (w.map (·.1)),?_,?_⟩;. rintro d hd A acc M' hA rfl;obtain⟨z,hz,rfl⟩:=zL.mp hd;walk_at "dl";refine⟨rfl,?_⟩;walk_at "dl";refine⟨rfl,rfl,λ_=>?_⟩;refine YH ?_;walk_at "r";refine⟨tsD w,z,m.put hA,rfl,?_⟩;rw[wB];exact⟨rfl,rfl⟩
   rw[a6,UI];walk_at "r";refine pT ?_;walk_at "r";exact fin (by rw[ha];rfl)
end
def S8:List Str:=["_law_there_here", "_law_deed_here", "_law_found", "_law_word", "_law_name"]
theorem JM:FnScope S8 ["_law_there_here", "_law_deed_here"] (AC ER):=⟨rfl,rfl,rfl,by decide +kernel,rfl,by decide +kernel,by decide +kernel⟩
section
local macro_rules | `(tactic| walk_at "x")=>`(tactic| first | ((with_reducible show PS _ (.Assign [.Subscript ..] ..) _);exact @LM _ _ _ _ _ _ _ _ _ fq (by walk_at "e") (by walk_at "e") (by walk_at "e") (by rfl)) | ((with_reducible show PE _ (.Call (.Attribute _ (a0Q "pop") _) ..) _);exact @SY _ _ _ _ _ _ _ (by walk_at "e") (by walk_at "e") (@L2.M1.mk _ _ _ _ _ _ rfl rfl rfl rfl)))
local macro_rules | `(tactic| walk_at "y")=>`(tactic| first | ((with_reducible show PE _ (.Call (.Name (a0Q "dict") _) ..) _);exact @JY _ _ _ _ _ _ _ _ _ (@qP _ K rfl) (by rfl) nc PyProof.Rows.boot_dict (by walk_at "a") (by decide) (by decide) (by rfl) (by rfl)) | ((with_reducible show PE _ (.Subscript ..) _);exact @DC _ _ _ _ _ _ fq (@pv _ 0 _ _ (by rfl) (by walk_at "lc") (by decide) (by decide)) (@pv _ 4 _ _ (by rfl) (by walk_at "lc") (by decide) (by decide)) (λ_ _=>rfl)) | ((with_reducible show PE _ (.Subscript ..) _);exact @DC _ _ _ _ _ _ fq (@pv _ 0 _ _ (by rfl) (by walk_at "lc") (by decide) (by decide)) (by walk_at "e") (λ_ _=>rfl)))
theorem S9 {f:Addr}{fd:FuncData}(F:Fun K "_law_step" "_law_step" ER f fd) (nc:mg "dict"=none):FnOk P w K mg base CX0 1 f fd ["_law_there_here", "_law_deed_here"] (spD K 2 FI):=by
 refine fnD F JM λcdv A outer s H E hr=>?_;have hu:=hr.units;have fq:=zQ (a2V (show 1<=64 by decide) _) hu;have nd:=JM.nd;refine⟨_,by walk_at "b2", ?_⟩;clear nd;rintro xs M hl ⟨dx,w,D,rfl,m,hg,Jw⟩;unfold tdW;have fin:∀{w2:List Th}{q:Addr}{hq:M q=none},doT w D=w2->∃M2:Own,M2.Sub (M.put q (tsO w2))/\FI.post (tdW dx D) M (.loc q) M2:=λ{w2 q hq} e=>⟨_,zT _,λp' w' D' e' m'=>by simp only[tdW,List.cons.injEq,DS.d.injEq,and_true] at e';obtain⟨rfl,e2⟩:=e';obtain rfl:=C9 e2;obtain rfl:=m.inj m';rw[<-e];exact⟨q,hq,rfl,rfl⟩⟩
 walk_at "r";refine gY m λq hq=>?_;have fin:=λ(w2:List Th)=>fin (w2:=w2) (q:=q) (hq:=hq);have mq:∀o:MO,isTD (M.put q o) dx (tsD w):=λo=>m.put hq;cases D with
 | put x pl k=> rw[show(Deed.put x pl k).d = .tuple [.str (a0Q "put"),.str x,.int pl,.int k] from rfl];walk_at "r";refine AB (d:=.str (a0Q "put")) (AA (j:=0) rfl) ?_;walk_at "r";refine AB (d:=.str x) (AA (j:=1) rfl) ?_;walk_at "r";refine AD (t:=true) (by decide +kernel) ?_;walk_at "r";refine BI ?_;walk_at "r";refine AB (d:=.int pl) (AA (j:=2) rfl) ?_;walk_at "r";refine AB (d:=.int k) (AA (j:=3) rfl) ?_;walk_at "r";refine⟨q,tsD (w),x,pcD (pl) (k),rfl,rfl,rfl,zU,BP (by lia),?_⟩;rw[yI,BJ];walk_at "r";exact fin _ rfl
 | take x=> rw[show(Deed.take x).d = .tuple [.str (a0Q "take"),.str x] from rfl];obtain⟨v,hv⟩:=here hg (n:=x) (by simp[Deed.names]) (by simp[Deed.made]);walk_at "r";refine AB (d:=.str (a0Q "take")) (AA (j:=0) rfl) ?_;walk_at "r";refine AB (d:=.str x) (AA (j:=1) rfl) ?_;walk_at "r";refine AD (t:=false) (by decide +kernel) ?_;walk_at "r";refine AD (t:=true) (by decide +kernel) ?_;walk_at "r";refine LQ ?_;walk_at "r";refine⟨q,tsD (w),rfl,zU,?_⟩;walk_at "r";refine⟨tsD (w),x,pcD v.1 v.2,rfl,zU,by rw[AI,hv];rfl,?_⟩;rw[yI,FA];walk_at "r";exact fin _ rfl
 | move x pl=> rw[show(Deed.move x pl).d = .tuple [.str (a0Q "move"),.str x,.int pl] from rfl];obtain⟨v,hv⟩:=here hg (n:=x) (by simp[Deed.names]) (by simp[Deed.made]);walk_at "r";refine AB (d:=.str (a0Q "move")) (AA (j:=0) rfl) ?_;walk_at "r";refine AB (d:=.str x) (AA (j:=1) rfl) ?_;walk_at "r";refine AD (t:=false) (by decide +kernel) ?_;walk_at "r";refine AD (t:=false) (by decide +kernel) ?_;walk_at "r";refine AD (t:=true) (by decide +kernel) ?_;walk_at "r";refine BI ?_;walk_at "r";refine AB (d:=.int pl) (AA (j:=2) rfl) ?_;walk_at "r";refine D0 ?_;walk_at "r";refine⟨tsD w,x,pcD v.1 v.2,mq _,rfl,by rw[AI,hv];rfl,?_⟩;rw[show pcD v.1 v.2 = .tuple [.int v.1,.int v.2] from rfl];walk_at "r";refine AB (ds:=[.int v.1,.int v.2]) (d:=.int v.2) (AA (j:=1) rfl) ?_;walk_at "r";refine⟨q,tsD (w),x,pcD (pl) (v.2),rfl,rfl,rfl,zU,BP (by lia),?_⟩;rw[yI,BJ];walk_at "r";exact fin _ (by simp only[doT,hv])
 | count x k=> rw[show(Deed.count x k).d = .tuple [.str (a0Q "count"),.str x,.int k] from rfl];obtain⟨v,hv⟩:=here hg (n:=x) (by simp[Deed.names]) (by simp[Deed.made]);walk_at "r";refine AB (d:=.str (a0Q "count")) (AA (j:=0) rfl) ?_;walk_at "r";refine AB (d:=.str x) (AA (j:=1) rfl) ?_;walk_at "r";refine AD (t:=false) (by decide +kernel) ?_;walk_at "r";refine AD (t:=false) (by decide +kernel) ?_;walk_at "r";refine AD (t:=false) (by decide +kernel) ?_;walk_at "r";refine AD (t:=true) (by decide +kernel) ?_;walk_at "r";refine BI ?_;walk_at "r";refine D0 ?_;walk_at "r";refine⟨tsD w,x,pcD v.1 v.2,mq _,rfl,by rw[AI,hv];rfl,?_⟩;rw[show pcD v.1 v.2 = .tuple [.int v.1,.int v.2] from rfl];walk_at "r";refine AB (ds:=[.int v.1,.int v.2]) (d:=.int v.1) (AA (j:=0) rfl) ?_;walk_at "r";refine D0 ?_;walk_at "r";refine⟨tsD w,x,pcD v.1 v.2,mq _,rfl,by rw[AI,hv];rfl,?_⟩;rw[show pcD v.1 v.2 = .tuple [.int v.1,.int v.2] from rfl];walk_at "r";refine AB (ds:=[.int v.1,.int v.2]) (d:=.int v.2) (AA (j:=1) rfl) ?_;walk_at "r";refine AB (d:=.int k) (AA (j:=2) rfl) ?_;walk_at "r";refine⟨q,tsD (w),x,pcD (v.1) (v.2+k),rfl,rfl,rfl,zU,BP (by lia),?_⟩;rw[yI,BJ];walk_at "r";exact fin _ (by simp only[doT,FU,hv])
 | name x y=> rw[show(Deed.name x y).d = .tuple [.str (a0Q "name"),.str x,.str y] from rfl];obtain⟨v,hv⟩:=here hg (n:=x) (by simp[Deed.names]) (by simp only[Deed.made,ne_eq,Option.some.injEq];exact a5V hg.2.1.2.1);walk_at "r";refine AB (d:=.str (a0Q "name")) (AA (j:=0) rfl) ?_;walk_at "r";refine AB (d:=.str x) (AA (j:=1) rfl) ?_;walk_at "r";refine AD (t:=false) (by decide +kernel) ?_;walk_at "r";refine AD (t:=false) (by decide +kernel) ?_;walk_at "r";refine AD (t:=false) (by decide +kernel) ?_;walk_at "r";refine AD (t:=false) (by decide +kernel) ?_;walk_at "r";refine AD (t:=true) (by decide +kernel) ?_;walk_at "r";refine BI ?_;refine LQ ?_;walk_at "r";refine⟨q,tsD (w),rfl,zU,?_⟩;walk_at "r";refine⟨tsD (w),x,pcD v.1 v.2,rfl,zU,by rw[AI,hv];rfl,?_⟩;rw[yI,FA];walk_at "r";refine AB (d:=.str y) (AA (j:=2) rfl) ?_;walk_at "r";refine⟨q,tsD (G7 w x),y,pcD (v.1) (v.2),rfl,rfl,rfl,zU,BP (zQ (yJ _ _) (by lia)),?_⟩;rw[yI,BJ];walk_at "r";exact fin _ (by simp only[doT,hv])
 | split x y pl k=> rw[show(Deed.split x y pl k).d = .tuple [.str (a0Q "split"),.str x,.str y,.int pl,.int k] from rfl];obtain⟨v,hv⟩:=here hg (n:=x) (by simp[Deed.names]) (by simp only[Deed.made,ne_eq,Option.some.injEq];exact a5V hg.2.1.2.1);walk_at "r";refine AB (d:=.str (a0Q "split")) (AA (j:=0) rfl) ?_;walk_at "r";refine AB (d:=.str x) (AA (j:=1) rfl) ?_;walk_at "r";refine AD (t:=false) (by decide +kernel) ?_;walk_at "r";refine AD (t:=false) (by decide +kernel) ?_;walk_at "r";refine AD (t:=false) (by decide +kernel) ?_;walk_at "r";refine AD (t:=false) (by decide +kernel) ?_;walk_at "r";refine AD (t:=false) (by decide +kernel) ?_;walk_at "r";refine AD (t:=true) (by decide +kernel) ?_;walk_at "r";refine BI ?_;walk_at "r";refine D0 ?_;walk_at "r";refine⟨tsD w,x,pcD v.1 v.2,mq _,rfl,by rw[AI,hv];rfl,?_⟩;rw[show pcD v.1 v.2 = .tuple [.int v.1,.int v.2] from rfl];walk_at "r";refine AB (ds:=[.int v.1,.int v.2]) (d:=.int v.1) (AA (j:=0) rfl) ?_;walk_at "r";refine D0 ?_;walk_at "r";refine⟨tsD w,x,pcD v.1 v.2,mq _,rfl,by rw[AI,hv];rfl,?_⟩;rw[show pcD v.1 v.2 = .tuple [.int v.1,.int v.2] from rfl];walk_at "r";refine AB (ds:=[.int v.1,.int v.2]) (d:=.int v.2) (AA (j:=1) rfl) ?_;walk_at "r";refine AB (d:=.int k) (AA (j:=4) rfl) ?_;walk_at "r";refine⟨q,tsD (w),x,pcD (v.1) (v.2 - k),rfl,rfl,rfl,zU,BP (by lia),?_⟩;rw[yI,BJ];walk_at "r";refine BI ?_;walk_at "r";refine AB (d:=.int pl) (AA (j:=3) rfl) ?_;walk_at "r";refine AB (d:=.int k) (AA (j:=4) rfl) ?_;walk_at "r";refine AB (d:=.str y) (AA (j:=2) rfl) ?_;walk_at "r";refine⟨q,tsD (DF w x v.1 (v.2 - k)),y,pcD (pl) (k),rfl,rfl,rfl,zU,BP (by have:=aS (ts:=w) (x:=x) (p:=v.1) (c:=v.2 - k);lia),?_⟩;rw[yI,BJ];walk_at "r";exact fin _ (by simp only[doT,FU,hv,Int.sub_eq_add_neg])
 | join x y=> rw[show(Deed.join x y).d = .tuple [.str (a0Q "join"),.str x,.str y] from rfl];obtain⟨v,hv⟩:=here hg (n:=x) (by simp[Deed.names]) (by simp[Deed.made]);obtain⟨u,hu⟩:=here hg (n:=y) (by simp[Deed.names]) (by simp[Deed.made]);walk_at "r";refine AB (d:=.str (a0Q "join")) (AA (j:=0) rfl) ?_;walk_at "r";refine AB (d:=.str x) (AA (j:=1) rfl) ?_;walk_at "r";refine AD (t:=false) (by decide +kernel) ?_;walk_at "r";refine AD (t:=false) (by decide +kernel) ?_;walk_at "r";refine AD (t:=false) (by decide +kernel) ?_;walk_at "r";refine AD (t:=false) (by decide +kernel) ?_;walk_at "r";refine AD (t:=false) (by decide +kernel) ?_;walk_at "r";refine AD (t:=false) (by decide +kernel) ?_;walk_at "r";refine BI ?_;walk_at "r";refine D0 ?_;walk_at "r";refine⟨tsD w,x,pcD v.1 v.2,mq _,rfl,by rw[AI,hv];rfl,?_⟩;rw[show pcD v.1 v.2 = .tuple [.int v.1,.int v.2] from rfl];walk_at "r";refine AB (ds:=[.int v.1,.int v.2]) (d:=.int v.1) (AA (j:=0) rfl) ?_;walk_at "r";refine D0 ?_;walk_at "r";refine⟨tsD w,x,pcD v.1 v.2,mq _,rfl,by rw[AI,hv];rfl,?_⟩;rw[show pcD v.1 v.2 = .tuple [.int v.1,.int v.2] from rfl];walk_at "r";refine AB (ds:=[.int v.1,.int v.2]) (d:=.int v.2) (AA (j:=1) rfl) ?_;walk_at "r";refine D0 ?_;walk_at "r";refine AB (d:=.str y) (AA (j:=2) rfl) ?_;walk_at "r";refine⟨tsD w,y,pcD u.1 u.2,mq _,rfl,by rw[AI,hu];rfl,?_⟩;rw[show pcD u.1 u.2 = .tuple [.int u.1,.int u.2] from rfl];walk_at "r";refine AB (ds:=[.int u.1,.int u.2]) (d:=.int u.2) (AA (j:=1) rfl) ?_;walk_at "r";refine⟨q,tsD (w),x,pcD (v.1) (v.2+u.2),rfl,rfl,rfl,zU,BP (by lia),?_⟩;rw[yI,BJ];walk_at "r";refine LQ ?_;walk_at "r";refine⟨q,tsD (DF w x v.1 (v.2+u.2)),rfl,zU,?_⟩;walk_at "r";refine AB (d:=.str y) (AA (j:=2) rfl) ?_;walk_at "r";refine⟨tsD (DF w x v.1 (v.2+u.2)),y,pcD u.1 u.2,rfl,zU,by rw[AI,UJ (a5V hg.2.1.2.1),hu];rfl,?_⟩;rw[yI,FA];walk_at "r";exact fin _ (by simp only[doT,FU,hv,hu])
end
def G4:List Str:=["_law_xs", "_law_at", "_law_names_here", "_law_there_here", "_law_standing", "_law_others", "_law_word", "_law_one", "_law_place_here", "_law_number_here", "_law_second"]
def GV:List Str:=["_law_name", "_law_there_here"]
def E9:List (Option Nat):=[none,some 3]
theorem O0:GV.Nodup:=by decide +kernel
def GW:List Str:=["_law_name", "_law_one"]
def CG:List (Option Nat):=[none,some 7]
theorem O1:GW.Nodup:=by decide +kernel
theorem JN:FnScope G4 ["_law_xs", "_law_at", "_law_names_here", "_law_there_here"] (AC BX):=⟨rfl,rfl,rfl,by decide +kernel,rfl,by decide +kernel,by decide +kernel⟩
section
local macro_rules | `(tactic| walk_at "cs")=>`(tactic| first | exact @RI _ _ GV E9 (AC BX) G4 (by decide +kernel) (by decide +kernel) rfl rfl | exact @RI _ _ GW CG (AC BX) G4 (by decide +kernel) (by decide +kernel) rfl rfl)
local macro_rules | `(tactic| walk_at "x")=>`(tactic| first | ((with_reducible show PT _ (.Compare _ [.In] ..) _);exact @bK _ _ _ _ _ _ (@VS _ _ _ _ _ fq (by walk_at "e") (by walk_at "e")) (by with_unfolding_all rfl)) | ((with_reducible show PT _ (.Compare _ [.NotIn] ..) _);exact @bK _ _ _ _ _ _ (@ZC _ _ _ _ _ fq (by walk_at "e") (by walk_at "e")) (by with_unfolding_all rfl)))
theorem SA {f:Addr}{fd:FuncData}(F:Fun K "_law_deed" "_law_deed" BX f fd) (a_:Has P w K mg base "_law_number" 1 ["_law_x"] E6) (ia:Has P w K mg base "_law_pick" 1 ["_law_some", "_law_x"] JD) (ba:Has P w K mg base "_law_place" 1 ["_law_x"] FG):FnOk P w K mg base CX0 2 f fd ["_law_xs", "_law_at", "_law_names_here", "_law_there_here"] (spD K 4 GP):=by
 refine fnD F JN λcdv A outer s H E hr=>?_;have hu:=hr.units;have fq:=zQ (a2V (show 1<=64 by decide) _) hu;have nd:=JN.nd;have n0:=O0;have n1:=O1;refine⟨_,by walk_at "b2", ?_⟩;clear nd n0 n1;rintro xs M hl ⟨L,a,ys,p,w,rfl,hL,ha,iu,hn,h2,h6,m⟩;have lx:∀i,i < L.length->(L.map b5W)[i]?=some (.int (L.getD i 0)):=λi hi=>by rw[zF,yU,zV hi];rfl
 have hx:∀i,i < L.length->0<=L.getD i 0/\L.getD i 0 < 1000000000:=λi hi=>by rw[yU,zV hi];exact hL _ (a4X hi)
 have fin:∀{D:Deed},BU ys D->∃M2:Own,M2.Sub M/\GP.post (ddX L a ys p) M (.d D.d) M2:=λ{D} h=>⟨M,zT M,λL' a' ci p' e=>⟨rfl,D,rfl,by
   simp only[ddX,List.cons.injEq,DS.d.injEq,and_true] at e;rw[<-ND e.2.2.1];exact h⟩⟩
 have ue:∀z∈ys,zH (.str z)=true:=λz hz=>BR (hn.1 z hz);rw[show ddX L a ys p=[.d (.list (L.map .int)),.d (.int a),.d (CH ys),.loc p] from rfl];have yb:(ys.map a2W).length < sizeLine:=by rw[zX];exact zQ h6 (by decide)
 walk_at "r";refine BH (C0 0) (by simp[E9]) ?_;refine BN ?_;walk_at "r";refine⟨yb,stT (w.map (·.1)),id,?_,?_⟩
 . rintro d hd A acc M' hA rfl;obtain⟨z,hz,rfl⟩:=zL.mp hd;have vw:p≠A:=by rintro rfl;rw[m] at hA;cases hA
   walk_at "dl";refine⟨rfl,?_⟩;walk_at "r";refine Y3 ?_;walk_at "r";refine⟨p,tsD w,z,rfl,rfl,by rw[yH vw];exact m,?_⟩;refine⟨_,rfl,rfl,?_,λ_=>?_⟩;. rw[AI,a6V,a3X];unfold stT;rw[decide_eq_true_iff,FD]
   walk_at "r";exact⟨rfl,rfl⟩
 rw[gT];walk_at "r";refine BH (C0 0) (by simp[E9]) ?_;refine BN ?_;walk_at "r";refine⟨yb,frT (w.map (·.1)),id,?_,?_⟩
 . rintro d hd A acc M' hA rfl;obtain⟨z,hz,rfl⟩:=zL.mp hd;have vw:p≠A:=by rintro rfl;rw[m] at hA;cases hA
   walk_at "dl";refine⟨rfl,?_⟩;walk_at "r";refine gX ?_;walk_at "r";refine⟨p,tsD w,z,rfl,rfl,by rw[yH vw];exact m,?_⟩;refine⟨_,rfl,rfl,?_,λ_=>?_⟩;. unfold frT stT;congr 1;rw[AI,a6V,a3X,decide_eq_true_iff,FD]
   walk_at "r";exact⟨rfl,rfl⟩
 rw[gU];refine dR (λρ1 M1=>M1=M/\∃(so sp:List Str) (x6 x7 x8 x9 Dr:Option DS),(so≠[]/\so.length<=60/\∀z∈so,z∈ys)/\(sp≠[]/\sp.length<=60/\∀z∈sp,z∈ys)/\ρ1=[some (.d (.list (L.map .int))),some (.d (.int a)),some (.d (CH ys)),some (.loc p),some (.d (CH so)),some (.d (CH sp)),x6,x7,x8,x9,Dr]) ?_ ?_
 . have ur:∀z∈ys.filter (λz=>decide (z∈w.map (·.1))),z∈ys:=λz hz=>(yL.mp hz).1;have ik:∀z∈ys.filter (λz=>!decide (z∈w.map (·.1))),z∈ys:=λz hz=>(yL.mp hz).1;have l1:(ys.filter (λz=>decide (z∈w.map (·.1)))).length<=60:=zN (yJ _ _) (by lia);have l2:(ys.filter (λz=>!decide (z∈w.map (·.1)))).length<=60:=zN (yJ _ _) (by lia);generalize ys.filter (λz=>decide (z∈w.map (·.1)))=so at ur l1;generalize ys.filter (λz=>!decide (z∈w.map (·.1)))=sp at ik l2;have xj:ys≠[]:=by rintro rfl;simp at h2
   have whole:(ys≠[]/\ys.length<=60/\∀z∈ys,z∈ys):=⟨xj,by lia,λz hz=>hz⟩
   walk_at "r";refine AK (AA (j:=a) (lx _ (by lia))) ?_;walk_at "r";refine B0 rfl rfl ?_;rw[if_neg nft,JA];cases decide (L.getD a 0 % 8=7) with
   | true=> walk_at "r";exact⟨rfl,ys,ys,_,_,_,_,_,whole,whole,rfl⟩
   | false=>
     walk_at "wkd";refine B0 (KO λz hz=>E1 (hn.1 z (ur z hz))) rfl ?_;rw[if_neg nft,UK];cases h1:so.isEmpty with
     | true=> walk_at "r";exact⟨rfl,ys,ys,_,_,_,_,_,whole,whole,rfl⟩
     | false=>
       walk_at "wkd";refine B0 (KO λz hz=>E1 (hn.1 z (ik z hz))) rfl ?_;rw[if_neg nft,UK];cases h2:sp.isEmpty with
       | true=> walk_at "r";exact⟨rfl,ys,ys,_,_,_,_,_,whole,whole,rfl⟩
       | false=> walk_at "r";exact⟨rfl,so,sp,_,_,_,_,_,⟨UL h1,l1,ur⟩,⟨UL h2,l2,ik⟩,rfl⟩
 . rintro ρ1 M1 ⟨rfl,so,sp,x6,x7,x8,x9,Dr,⟨Dt,Du,Dv⟩,⟨zb,zc,A_⟩,rfl⟩;walk_at "wkd";refine AK (AA (j:=a) (lx _ (by lia))) ?_;walk_at "wkd";obtain⟨wd,Jz,Dw⟩:∃wd:Str,atI [a2W (a0Q "put"),.str (a0Q "take"),.str (a0Q "move"),.str (a0Q "count"),.str (a0Q "name"),.str (a0Q "split"),.str (a0Q "join")] (L.getD a 0/8 % 7)=some (.str wd)/\wd∈[a0Q "put", "take", "move", "count", "name", "split", "join"]:=Y5 (ys:=[a0Q "put", "take", "move", "count", "name", "split", "join"]) (by lia) (by show _ < (7:Int);lia);refine AK Jz ?_;walk_at "r";refine AK (AA (j:=a+1) (lx _ (by lia))) ?_;walk_at "r";refine B4 Dt Du λone iq=>?_;have iq:=Dv one iq;walk_at "r";refine AK (AA (j:=a+3) (lx _ (by lia))) ?_;walk_at "r";refine JC (hx _ (by lia)) λpl p0 p1=>?_;walk_at "r";refine AK (AA (j:=a+4) (lx _ (by lia))) ?_;walk_at "r";refine HQ (hx _ (by lia)) λnum q0 q1=>?_;walk_at "r";have p_:=λ(z:Str) (hz:z∈ys)=>lI (num:=num) hn p0 p1 hz;have jp:=λ(y:Str) (hy:y∈ys) (au:y≠one)=>lJ (num:=num) hn p0 p1 iq hy au;simp only[yX,xX,or_false] at Dw;rcases Dw with rfl | rfl | rfl | rfl | rfl | rfl | rfl
   . skip
     refine AD (t:=true) (by decide +kernel) ?_;walk_at "r";refine AK (AA (j:=a+1) (lx _ (by lia))) ?_;walk_at "r";refine B4 zb zc λz hz=>?_;walk_at "r";exact fin (p_ z (A_ z hz)).1
   . skip
     refine AD (t:=false) (by decide +kernel) ?_;walk_at "r";refine AD (t:=true) (by decide +kernel) ?_;walk_at "r";exact fin (p_ one iq).2.1
   . skip
     refine AD (t:=false) (by decide +kernel) ?_;walk_at "r";refine AD (t:=false) (by decide +kernel) ?_;walk_at "r";refine AD (t:=true) (by decide +kernel) ?_;walk_at "r";exact fin (p_ one iq).2.2.1
   . skip
     refine AD (t:=false) (by decide +kernel) ?_;walk_at "r";refine AD (t:=false) (by decide +kernel) ?_;walk_at "r";refine AD (t:=false) (by decide +kernel) ?_;walk_at "r";refine AD (t:=true) (by decide +kernel) ?_;walk_at "r";exact fin (p_ one iq).2.2.2
   . skip
     refine AD (t:=false) (by decide +kernel) ?_;walk_at "r";refine AD (t:=false) (by decide +kernel) ?_;walk_at "r";refine AD (t:=false) (by decide +kernel) ?_;walk_at "r";refine AD (t:=false) (by decide +kernel) ?_;walk_at "r";refine AK (AA (j:=a+2) (lx _ (by lia))) ?_;walk_at "r";refine B4 zb zc λy0 ku=>?_;walk_at "r";refine AD (t:=false) (by decide +kernel) ?_;walk_at "r";have ku:=A_ y0 ku;refine B0 (ue y0 ku) (ue one iq) ?_;rw[if_neg nft,BO];cases he:(y0==one) with
     | false=>
       have au:y0≠one:=λe=>by rw[e] at he;simp at he
       walk_at "r";refine AD (t:=true) (by decide +kernel) ?_;walk_at "r";exact fin (jp y0 ku au).1
     | true=>
       walk_at "r";refine BG (C0 0) (by simp[CG]) ?_;refine BN ?_;walk_at "r";refine⟨yb,neT one,id,?_,?_⟩
       . intro d hd M';obtain⟨z,hz,rfl⟩:=zL.mp hd;walk_at "dl";refine⟨rfl,?_⟩;walk_at "r";refine B0 (ue z hz) (ue one iq) ?_;rw[if_pos rfl,BO];refine⟨_,rfl,rfl,?_,λ_=>?_⟩;. rw[a3X];unfold neT;simp
         walk_at "r";exact⟨rfl,rfl⟩
       rw[NL];walk_at "r";refine AK (AA (j:=a+2) (lx _ (by lia))) ?_;walk_at "r";refine B4 (RS hn h2 one) (zN (yJ _ _) (by lia)) λy1 uu=>?_;obtain⟨uu,au⟩:=yL.mp uu;have au:y1≠one:=by simpa using au
       walk_at "r";refine AD (t:=true) (by decide +kernel) ?_;walk_at "r";exact fin (jp y1 uu au).1
   . skip
     refine AD (t:=false) (by decide +kernel) ?_;walk_at "r";refine AD (t:=false) (by decide +kernel) ?_;walk_at "r";refine AD (t:=false) (by decide +kernel) ?_;walk_at "r";refine AD (t:=false) (by decide +kernel) ?_;walk_at "r";refine AK (AA (j:=a+2) (lx _ (by lia))) ?_;walk_at "r";refine B4 zb zc λy0 ku=>?_;walk_at "r";refine AD (t:=false) (by decide +kernel) ?_;walk_at "r";have ku:=A_ y0 ku;refine B0 (ue y0 ku) (ue one iq) ?_;rw[if_neg nft,BO];cases he:(y0==one) with
     | false=>
       have au:y0≠one:=λe=>by rw[e] at he;simp at he
       walk_at "r";refine AD (t:=false) (by decide +kernel) ?_;walk_at "r";refine AD (t:=false) (by decide +kernel) ?_;walk_at "r";exact fin (jp y0 ku au).2.1
     | true=>
       walk_at "r";refine BG (C0 0) (by simp[CG]) ?_;refine BN ?_;walk_at "r";refine⟨yb,neT one,id,?_,?_⟩
       . intro d hd M';obtain⟨z,hz,rfl⟩:=zL.mp hd;walk_at "dl";refine⟨rfl,?_⟩;walk_at "r";refine B0 (ue z hz) (ue one iq) ?_;rw[if_pos rfl,BO];refine⟨_,rfl,rfl,?_,λ_=>?_⟩;. rw[a3X];unfold neT;simp
         walk_at "r";exact⟨rfl,rfl⟩
       rw[NL];walk_at "r";refine AK (AA (j:=a+2) (lx _ (by lia))) ?_;walk_at "r";refine B4 (RS hn h2 one) (zN (yJ _ _) (by lia)) λy1 uu=>?_;obtain⟨uu,au⟩:=yL.mp uu;have au:y1≠one:=by simpa using au
       walk_at "r";refine AD (t:=false) (by decide +kernel) ?_;walk_at "r";refine AD (t:=false) (by decide +kernel) ?_;walk_at "r";exact fin (jp y1 uu au).2.1
   . skip
     refine AD (t:=false) (by decide +kernel) ?_;walk_at "r";refine AD (t:=false) (by decide +kernel) ?_;walk_at "r";refine AD (t:=false) (by decide +kernel) ?_;walk_at "r";refine AD (t:=false) (by decide +kernel) ?_;walk_at "r";refine AK (AA (j:=a+2) (lx _ (by lia))) ?_;walk_at "r";refine B4 zb zc λy0 ku=>?_;walk_at "r";refine AD (t:=true) (by decide +kernel) ?_;walk_at "r";refine AK (AA (j:=a+2) (lx _ (by lia))) ?_;walk_at "r";refine B4 Dt Du λy0 ku=>?_;have ku:=Dv y0 ku;walk_at "r";refine B0 (ue y0 ku) (ue one iq) ?_;rw[if_neg nft,BO];cases he:(y0==one) with
     | false=>
       have au:y0≠one:=λe=>by rw[e] at he;simp at he
       walk_at "r";refine AD (t:=false) (by decide +kernel) ?_;walk_at "r";refine AD (t:=true) (by decide +kernel) ?_;walk_at "r";exact fin (jp y0 ku au).2.2
     | true=>
       walk_at "r";refine BG (C0 0) (by simp[CG]) ?_;refine BN ?_;walk_at "r";refine⟨yb,neT one,id,?_,?_⟩
       . intro d hd M';obtain⟨z,hz,rfl⟩:=zL.mp hd;walk_at "dl";refine⟨rfl,?_⟩;walk_at "r";refine B0 (ue z hz) (ue one iq) ?_;rw[if_pos rfl,BO];refine⟨_,rfl,rfl,?_,λ_=>?_⟩;. rw[a3X];unfold neT;simp
         walk_at "r";exact⟨rfl,rfl⟩
       rw[NL];walk_at "r";refine AK (AA (j:=a+2) (lx _ (by lia))) ?_;walk_at "r";refine B4 (RS hn h2 one) (zN (yJ _ _) (by lia)) λy1 uu=>?_;obtain⟨uu,au⟩:=yL.mp uu;have au:y1≠one:=by simpa using au
       walk_at "r";refine AD (t:=false) (by decide +kernel) ?_;walk_at "r";refine AD (t:=true) (by decide +kernel) ?_;walk_at "r";exact fin (jp y1 uu au).2.2
end
def V3:List Str:=["_law_xs", "_law_at", "_law_size", "_law_names_here", "_law_there_here", "_law_row_here", "_law_k", "_law_deed_here"]
theorem L5:FnScope V3 ["_law_xs", "_law_at", "_law_size", "_law_names_here", "_law_there_here"] (AC FY):=⟨rfl,rfl,rfl,by decide +kernel,rfl,by decide +kernel,by decide +kernel⟩
section
local macro_rules | `(tactic| walk_at "x")=>`(tactic| first | ((with_reducible show PE _ (.BinOp _ .Mult ..) _);exact @HL _ _ _ _ _ _ _ _ (@kK _ K rfl) (by walk_at "e") (by walk_at "e")))
theorem V4 {f:Addr}{fd:FuncData}(F:Fun K "_law_row" "_law_row" FY f fd) (ay:mg "range"=none) (ao:mg "tuple"=none) (bt:Has P w K mg base "_law_can" 2 ["_law_there_here", "_law_deed_here"] HF) (ib:Has P w K mg base "_law_deed" 2 ["_law_xs", "_law_at", "_law_names_here", "_law_there_here"] GP) (bj:Has P w K mg base "_law_step" 1 ["_law_there_here", "_law_deed_here"] FI):FnOk P w K mg base CX0 3 f fd ["_law_xs", "_law_at", "_law_size", "_law_names_here", "_law_there_here"] (spD K 5 LY):=by
 refine fnD F L5 λcdv A outer s H E hr=>?_;have hu:=hr.units;have nd:=L5.nd;refine⟨_,by walk_at "b2", ?_⟩;clear nd;rintro xs M hl ⟨L,a,n,ys,p,w,rfl,hL,ha,iu,xR,hn,h2,h6,m,ht⟩;unfold rwX;walk_at "r";refine IX ?_;walk_at "r";intro A hA;have vw:p≠A:=by rintro rfl;rw[m] at hA;cases hA
 walk_at "r";refine IC ?_;refine H0 ?_;walk_at "r";refine⟨by lia,by lia,?_⟩;refine⟨λk ρ1 M1=>∃(Ds:List Deed) (q:Addr) (w:List Th) (x6 x7:Option DS),Ds.length=k/\(∀D∈Ds,BU ys D)/\q≠A/\There ys w/\M1 q=some (tsO w)/\M.Sub (M1.del A)/\M1 A=some (.l (Ds.map Deed.d))/\ρ1=[some (.d (.list (L.map .int))),some (.d (.int a)),some (.d (.int n)),some (.d (CH ys)),some (.loc q),some (.loc A),x6,x7],⟨[],p,w,_,_,rfl,(λD hD=>nomatch hD),vw,ht,by rw[yH vw];exact m,by rw[yG hA];exact zT M,zU,rfl⟩,?_,?_⟩
 . rintro k d ρ1 M1 hd ⟨Ds,q,w,x6,x7,hk,Ba,yc,hw,mq,cf,mA,rfl⟩;obtain⟨wt,rfl⟩:=HB hd;have Az:w.length<=6:=zN hw.few h6;walk_at "r";refine UO (a:=a+5*k) hL (by lia) iu hn h2 h6 mq λD hD=>?_;walk_at "r";refine KK ?_;walk_at "dl";refine⟨FP mA,?_⟩;walk_at "r";refine CJ mA (by rw[zX];exact zQ (show _<=12 by lia) (by decide)) ?_;have e1:Ds.map Deed.d++[D.d]=(Ds++[D]).map Deed.d:=by rw[xJ];rfl
   have yd:∀E∈Ds++[D],BU ys E:=λE hE=>by
     rcases yW.mp hE with h | h;. exact Ba E h
     . rw[List.mem_singleton.mp h];exact hD
   rw[e1];walk_at "r";refine NM (isTD.o (by rw[yH yc];exact mq)) hD.1 ?_;cases hc:decide (AO (w.map (·.1)) D=none) with
   | false=> walk_at "r";exact⟨Ds++[D],q,w,_,_,by rw[yY,hk];rfl,yd,yc,hw,by rw[yH yc];exact mq,by rw[JF];exact cf,zU,rfl⟩
   | true=>
     have uj:goD w D:=⟨⟨hw.nd,by lia⟩,hD.1,of_decide_eq_true hc⟩
     walk_at "r";refine KY (isTD.o (by rw[yH yc];exact mq)) uj (by lia) λr hr=>?_;have wo:r≠A:=by rintro rfl;rw[zU] at hr;cases hr
     walk_at "r";exact⟨Ds++[D],r,doT w D,_,_,by rw[yY,hk];rfl,yd,wo,UP hw uj hD.2,zU,(by rw[Own.del_put_ne wo,JF];exact cf.put (gV cf (by rw[qO wo];rw[yH wo] at hr;exact hr))),by rw[yH wo.symm];exact zU,rfl⟩
 . rintro ρ1 M1 ⟨Ds,q,w,x6,x7,hk,Ba,yc,hw,mq,cf,mA,rfl⟩;rw[GN] at hk;refine F6 (i:=5) (a:=A) rfl mA ?_;walk_at "r";refine LO ?_;refine⟨M,cf,λL' a' n' ci p' e=>⟨rfl,Ds,rfl,?_,λD hD=>?_⟩⟩;. simp only[rwX,List.cons.injEq,DS.d.injEq,PyData.int.injEq,and_true] at e;lia
   . simp only[rwX,List.cons.injEq,DS.d.injEq,and_true] at e;rw[<-ND e.2.2.2.1];exact Ba D hD
end
def V5:List Str:=["thing"]
theorem L6:FnScope V5 ["thing"] (AC FZ):=⟨rfl,rfl,rfl,by decide +kernel,rfl,by decide +kernel,by decide +kernel⟩
theorem V6 {f:Addr}{fd:FuncData}(F:Fun K "is_whole" "is_whole" FZ f fd) (kd:mg "bool"=none) (vO:mg "int"=none) (ae:mg "isinstance"=none):FnOk P w K mg base CX0 1 f fd ["thing"] (spD K 1 IE):=by
 refine fnD F L6 λcdv A outer s H E hr=>?_;have hu:=hr.units;have nd:=L6.nd;refine⟨_,by walk_at "b1", ?_⟩;clear nd;rintro xs M hl ⟨d,rfl,-⟩;walk_at "dl";walk_at "dl";walk_at "dl";cases d <;>
 . walk_at "r";exact⟨M,zT M,λd' e=>by cases e;exact⟨rfl,rfl⟩⟩
def SB:List Str:=["thing", "low", "high"]
theorem JO:FnScope SB ["thing", "low", "high"] (AC ES):=⟨rfl,rfl,rfl,by decide +kernel,rfl,by decide +kernel,by decide +kernel⟩
section
local macro_rules | `(tactic| walk_at "x")=>`(tactic| first | ((with_reducible show PE _ (.Compare _ [_,_] ..) _);exact @bT _ _ _ _ _ _ _ _ _ _ _ _ (@XA _) (@XA _) (by walk_at "e") (by walk_at "e") (by walk_at "e") (by with_unfolding_all rfl)))
theorem SD {f:Addr}{fd:FuncData}(F:Fun K "is_within" "is_within" ES f fd) (bu:Has P w K mg base "is_whole" 1 ["thing"] IE):FnOk P w K mg base CX0 2 f fd ["thing", "low", "high"] (spD K 3 EF):=by
 refine fnD F JO λcdv A outer s H E hr=>?_;have hu:=hr.units;have nd:=JO.nd;refine⟨_,by walk_at "b1", ?_⟩;clear nd;rintro xs M hl ⟨d,lo,hi,rfl⟩;walk_at "r";refine BE trivial ?_;cases d
 case int i=>
   walk_at "r";refine oU (λh=>?_) (λh=>?_);. walk_at "r";exact⟨M,zT M,λd' Dx hi' e=>by cases e;refine⟨?_,rfl⟩;simp only[J1];rw[h];rfl⟩
   . exact⟨M,zT M,λd' Dx hi' e=>by cases e;refine⟨?_,rfl⟩;simp only[J1];simp at h;simp;lia⟩
 all_goals
   walk_at "r";exact⟨M,zT M,λd' Dx hi' e=>by cases e;exact⟨rfl,rfl⟩⟩
end
def V7:List Str:=["thing"]
theorem L7:FnScope V7 ["thing"] (AC G0):=⟨rfl,rfl,rfl,by decide +kernel,rfl,by decide +kernel,by decide +kernel⟩
theorem V8 {f:Addr}{fd:FuncData}(F:Fun K "is_place" "is_place" G0 f fd) (du:∃t,mg "LAST_PLACE"=some (.int (999) t)) (ic:Has P w K mg base "is_within" 2 ["thing", "low", "high"] EF):FnOk P w K mg base CX0 3 f fd ["thing"] (spD K 1 MS):=by refine fnD F L7 λcdv A outer s H E hr=>?_;have hu:=hr.units;have nd:=L7.nd;refine⟨_,by walk_at "b1", ?_⟩;clear nd;rintro xs M hl ⟨d,rfl,-⟩;walk_at "r";refine T9 ?_;exact⟨M,zT M,λd' e=>by cases e;exact⟨by rw[R7],rfl⟩⟩
def O2:List Str:=["thing"]
def JP:List Str:=["sign"]
def JQ:List (Option Nat):=[none]
theorem SE:JP.Nodup:=by decide +kernel
theorem O3:FnScope O2 ["thing"] (AC FK):=⟨rfl,rfl,rfl,by decide +kernel,rfl,by decide +kernel,by decide +kernel⟩
section
local macro_rules | `(tactic| walk_at "cs")=>`(tactic| first | exact @RI _ _ JP JQ (AC FK) O2 (by decide +kernel) (by decide +kernel) rfl rfl)
local macro_rules | `(tactic| walk_at "x")=>`(tactic| first | ((with_reducible show PT _ (.Compare _ [_,_] ..) _);exact @bU _ _ _ _ _ _ _ _ _ _ _ _ (@XA _) (@XA _) (by walk_at "e") (by walk_at "e") (by walk_at "e") (by with_unfolding_all rfl)) | ((with_reducible show PE _ (.Compare _ [.In] ..) _);exact @FO _ _ _ _ _ _ _ _ (@kIn _ K rfl) (by walk_at "e") (by walk_at "e") (by with_unfolding_all rfl)))
theorem X1 {f:Addr}{fd:FuncData}(F:Fun K "is_name" "is_name" FK f fd) (jo:mg "all"=none) (ae:mg "isinstance"=none) (bi:mg "len"=none) (qa:mg "str"=none) (jq:∃t,mg "LETTERS"=some (.str ("abcdefghijklmnopqrstuvwxyz") t)) (cm:∃t,mg "LONGEST_NAME"=some (.int (8) t)):FnOk P w K mg base CX0 1 f fd ["thing"] (spD K 1 PM):=by
 refine fnD F O3 λcdv A outer s H E hr=>?_;have hu:=hr.units;have nd:=O3.nd;have n0:=SE;refine⟨_,by walk_at "b2", ?_⟩;clear nd n0;rintro xs M hl ⟨d,rfl,hd⟩;cases d
 case str z=>
   have hz:z.length<=sizeLine:=zN hd.1 (by decide);have af:(z.length:Int)=(z.cps.size:Int):=rfl;walk_at "r";refine XX hz ?_;walk_at "r";refine oU (λh1=>?_) (λh1=>?_)
   . walk_at "r";refine oU (λh2=>?_) (λh2=>?_);. walk_at "r";exact⟨M,zT M,λd' e=>by cases e;refine⟨?_,rfl⟩;simp only[BL];simp at h1 h2;rw[af] at h1 h2;simp;lia⟩
     . walk_at "r";refine BG (C0 0) (by simp[JQ]) ?_;refine jX ?_;walk_at "r";refine⟨by simp only[BM,zX,a5X];exact zQ hd.1 (by decide),λ_=>true,λd=>.bool (kD d),?_,?_⟩;. intro d mm M';obtain⟨c,hc,rfl⟩:=zL.mp mm;walk_at "dl";refine⟨rfl,?_⟩;walk_at "dl";refine⟨rfl,rfl,λ_=>?_⟩;walk_at "r";refine jV ?_;rw[VZ c (hd.2 c hc)];exact⟨by simp[kD],rfl⟩
       . walk_at "r";rw[ZH];refine VX ?_;rw[W0];exact⟨M,zT M,λd' e=>by cases e;refine⟨?_,rfl⟩;simp only[BL];simp at h1 h2;rw[af] at h1 h2;simp;lia⟩
   . walk_at "r";exact⟨M,zT M,λd' e=>by cases e;refine⟨?_,rfl⟩;simp only[BL];simp at h1;rw[af] at h1;simp;lia⟩
 all_goals
   walk_at "r";exact⟨M,zT M,λd' e=>by cases e;exact⟨rfl,rfl⟩⟩
end
def X2:List Str:=["word"]
theorem O4:FnScope X2 ["word"] (AC HH):=⟨rfl,rfl,rfl,by decide +kernel,rfl,by decide +kernel,by decide +kernel⟩
section
local macro_rules | `(tactic| walk_at "x")=>`(tactic| first | ((with_reducible show PE _ (.Call (.Attribute _ (a0Q "get") _) ..) _);exact @kG _ _ _ _ _ _ _ _ rfl ke (by walk_at "e") (@L2.M1.mk _ _ _ _ _ _ rfl rfl rfl rfl) (by decide)))
theorem X3 {f:Addr}{fd:FuncData}(F:Fun K "form_of" "form_of" HH f fd) (ae:mg "isinstance"=none) (qa:mg "str"=none) (ke:∃a,mg "FORMS"=some (.ref a)/\GDict w K a F9):FnOk P w K mg base CX0 1 f fd ["word"] (spD K 1 K6):=by
 refine fnD F O4 λcdv A outer s H E hr=>?_;have hu:=hr.units;have nd:=O4.nd;refine⟨_,by walk_at "b1", ?_⟩;clear nd;rintro xs M hl ⟨d,rfl,-⟩;cases d
 case str z=> walk_at "r";refine kH ?_;walk_at "r";exact⟨M,zT M,λd' e=>by cases e;exact⟨rfl,rfl⟩⟩
 all_goals
   walk_at "r";exact⟨M,zT M,λd' e=>by cases e;exact⟨rfl,rfl⟩⟩
end
def m8:List Str:=["sign", "part"]
theorem YU:FnScope m8 ["sign", "part"] (AC RX):=⟨rfl,rfl,rfl,by decide +kernel,rfl,by decide +kernel,by decide +kernel⟩
theorem m9 {f:Addr}{fd:FuncData}(F:Fun K "fits" "fits" RX f fd) (jr:Has P w K mg base "is_name" 1 ["thing"] PM) (iz:Has P w K mg base "is_place" 3 ["thing"] MS) (bu:Has P w K mg base "is_whole" 1 ["thing"] IE):FnOk P w K mg base CX0 4 f fd ["sign", "part"] (spD K 2 fC):=by
 refine fnD F YU λcdv A outer s H E hr=>?_;have hu:=hr.units;have nd:=YU.nd;refine⟨_,by walk_at "b2", ?_⟩;clear nd;rintro xs M hl ⟨a,b,rfl,c,rfl,hc,hb⟩;have yq:zH (.str ⟨#[c]⟩)=true:=CK (by show b7V _=true;simp[b7V];lia) (by simp[a9K]);walk_at "r";refine B0 yq (by decide +kernel) ?_;rw[if_neg nft,BO];cases h1:((⟨#[c]⟩:Str)==a0Q "n") with
 | true=> walk_at "r";refine BE hb ?_;exact⟨M,zT M,λa b e=>by cases e;exact⟨by simp only[J2,h1];rfl,rfl⟩⟩
 | false=>
   walk_at "r";refine B0 yq (by decide +kernel) ?_;rw[if_neg nft,BO];cases h2:((⟨#[c]⟩:Str)==a0Q "p") with
   | true=> walk_at "r";refine BE trivial ?_;exact⟨M,zT M,λa b e=>by cases e;exact⟨by simp only[J2,h1,h2];rfl,rfl⟩⟩
   | false=> walk_at "r";refine BE trivial ?_;exact⟨M,zT M,λa b e=>by cases e;exact⟨by simp only[J2,h1,h2];rfl,rfl⟩⟩
def V9:List Str:=["deed"]
theorem L8:FnScope V9 ["deed"] (AC G1):=⟨rfl,rfl,rfl,by decide +kernel,rfl,by decide +kernel,by decide +kernel⟩
section
local macro_rules | `(tactic| walk_at "x")=>`(tactic| first | ((with_reducible show PE _ (.Call (.Attribute _ (a0Q "startswith") _) ..) _);exact @kBm _ K _ _ _ _ _ _ _ _ _ _ _ rfl PySem.F.plainAttrs_str PySem.F.slot_str_startswith PySem.F.type_str_startswith (@TJ _ K rfl) (by walk_at "e") (by walk_at "a") (by rfl) (by rfl) (by rfl) (by rfl) (by rfl)))
theorem VA {f:Addr}{fd:FuncData}(F:Fun K "names_in" "names_in" G1 f fd) (df:Has P w K mg base "form_of" 1 ["word"] K6):FnOk P w K mg base CX0 2 f fd ["deed"] (spD K 1 IG):=by
 refine fnD F L8 λcdv A outer s H E hr=>?_;have hu:=hr.units;have nd:=L8.nd;refine⟨_,by walk_at "b1", ?_⟩;clear nd;rintro xs M hl ⟨d,rfl,w,f,r,rfl,hf⟩;obtain⟨fa,fs,fn,_,_⟩:=N7 hf;have uv:N5 (.str w) = .str f:=by show ZL (F9.lookup w)=_;rw[hf];rfl
 walk_at "r";refine KK ?_;walk_at "r";refine AB (d:=.str w) (AA (j:=0) rfl) ?_;walk_at "r";refine BE trivial ?_;rw[uv];refine⟨XT,?_⟩;walk_at "r";refine ZN ?_;rw[fn];cases htw:TZ w with
 | true=> walk_at "r";refine MR ?_;rw[show FQ (a2W w::r) (some 1) (some 3)=r.take 2 from R9 _ 1 3];exact⟨M,zT M,λd' e=>by cases e;refine⟨?_,rfl⟩;simp only[N6,htw];rfl⟩
 | false=> walk_at "r";refine MR ?_;rw[show FQ (a2W w::r) (some 1) (some 2)=r.take 1 from R9 _ 1 2];exact⟨M,zT M,λd' e=>by cases e;refine⟨?_,rfl⟩;simp only[N6,htw];rfl⟩
end
def O5:List Str:=["thing", "form", "names"]
def JR:List Str:=["sign", "part"]
def JS:List (Option Nat):=[none,none]
theorem SG:JR.Nodup:=by decide +kernel
theorem O6:FnScope O5 ["thing"] (AC FL):=⟨rfl,rfl,rfl,by decide +kernel,rfl,by decide +kernel,by decide +kernel⟩
section
local macro_rules | `(tactic| walk_at "cs")=>`(tactic| first | exact @RI _ _ JR JS (AC FL) O5 (by decide +kernel) (by decide +kernel) rfl rfl)
local macro_rules | `(tactic| walk_at "x")=>`(tactic| first | ((with_reducible show PI _ _ (.Call (.Name (a0Q "zip") _) ..) _);exact @tL _ K _ _ _ _ _ _ _ _ rfl rfl uw (by walk_at "a") (by rfl) (by rfl)) | ((with_reducible show PG _ (.Tuple ..) _);exact @kC _ K _ _ _ _ (2) rfl rfl (by walk_at "j") (by rfl) (by rfl)))
theorem X4 {f:Addr}{fd:FuncData}(F:Fun K "is_deed" "is_deed" FL f fd) (jo:mg "all"=none) (ae:mg "isinstance"=none) (bi:mg "len"=none) (ao:mg "tuple"=none) (uw:mg "zip"=none) (ux:Has P w K mg base "fits" 4 ["sign", "part"] fC) (df:Has P w K mg base "form_of" 1 ["word"] K6) (bw:Has P w K mg base "names_in" 2 ["deed"] IG):FnOk P w K mg base CX0 5 f fd ["thing"] (spD K 1 K7):=by
 refine fnD F O6 λcdv A outer s H E hr=>?_;have hu:=hr.units;have nd:=O6.nd;have n0:=SG;refine⟨_,by walk_at "b2", ?_⟩;clear nd n0;rintro xs M hl ⟨d,rfl,hd⟩;cases d
 case tuple ds=>
   have fin:∀b:Bool,AT ds=b->∃M2:Own,M2.Sub M/\K7.post [.d (.tuple ds)] M (.d (.bool b)) M2:=λb hb=>⟨M,zT M,λd' e=>by cases e;exact⟨by show DS.d (.bool b) = .d (.bool (AT ds));rw[hb],rfl⟩⟩
   walk_at "r";refine IY ?_;walk_at "r";refine B0 rfl rfl ?_;rw[if_neg nft]
   match ds,hd,fin with
   | [],_,fin=> walk_at "r";exact fin false rfl
   | a::r,hd,fin=>
     rw[show a1Z (.int ((a::r).length:Nat)) (.int 0)=false by simp[a1Z];lia];walk_at "r";refine AB (d:=a) (AA (j:=0) rfl) ?_;walk_at "r";refine BE trivial ?_;have ye:CP (N5 a)=true->AT (a::r)=false:=λh=>by
       cases a with
       | str w=>
         cases hf:F9.lookup w with
         | none=>simp only[AT,hf]
         | some f=>simp only[N5,hf,ZL,CP] at h;cases h
       | _=>rfl
     cases hn:CP (N5 a) with
     | true=> walk_at "r";refine RC ?_;rw[hn];walk_at "r";exact fin false (ye hn)
     | false=>
       have hw:∃w f,a = .str w/\F9.lookup w=some f:=by
         cases a with
         | str w=>
           cases hf:F9.lookup w with
           | none=>simp only[N5,hf,ZL,CP] at hn;cases hn
           | some f=>exact⟨w,f,rfl,hf⟩
         | _=>cases hn
       obtain⟨w,f,rfl,hf⟩:=hw;obtain⟨fa,fs,fn,ft,f1⟩:=N7 hf;have uv:N5 (.str w) = .str f:=by show ZL (F9.lookup w)=_;rw[hf];rfl
       have pw:AT (.str w::r)=((r.length==f.cps.size)&&FS f r&&(!TZ w||!a1Z (r.getD 0 .none) (r.getD 1 .none))):=by simp only[AT,hf]
       rw[uv];walk_at "r";refine RC ?_;walk_at "r";refine IY ?_;walk_at "r";refine XX (zN fs (by decide)) ?_;walk_at "r";refine B0 rfl rfl ?_;rw[if_pos rfl];have Bb:a1Z (.int ((a2W w::r).length:Nat)) (.int ((f.length:Int)+1))=(r.length==f.cps.size):=by show(((r.length+1:Nat):Int)==((f.cps.size:Int)+1))=_;rw[a3X,beq_iff_eq,beq_iff_eq];lia
       rw[Bb];cases af:(r.length==f.cps.size) with
       | false=> walk_at "r";exact fin false (by rw[pw,af];rfl)
       | true=>
         have kr:r.length=f.cps.size:=eq_of_beq af;have zd:r.length<=4:=by lia
         walk_at "r";refine BG (dM (IZ (IZ dL))) (by simp[JS]) ?_;refine lX ?_;walk_at "r";refine MR ?_;rw[show FQ (a2W w::r) (some 1) none=r from dY _ 1];walk_at "r";refine⟨_,_,_,_,rfl,.inr ⟨_,rfl,fa,rfl⟩,.inl rfl,?_,λ_=>true,t7,?_,?_⟩;. unfold T6;rw[zX,List.length_zip];exact zQ (show _<=4 by lia) (by decide)
         . intro d mm M';obtain⟨⟨s1,p1⟩,hm,rfl⟩:=zL.mp mm;have hs:s1∈BM f:=(b2X hm).1;have hp:p1∈r:=(b2X hm).2;obtain⟨c,hc,rfl⟩:=zL.mp hs;have yf:c < 128:=by have:=Array.all_eq_true'.mp fa c (by simpa using hc);simpa using this
           walk_at "r";refine⟨rfl,?_⟩;walk_at "dl";refine⟨rfl,rfl,λ_=>?_⟩;walk_at "r";refine dZ ⟨c,rfl,yf,hd.2 p1 (yV _ hp)⟩ ?_;exact⟨rfl,rfl⟩
         . rw[fD];walk_at "r";refine VX ?_;rw[show(((BM f).zip r).map λp=>J2 p.1 p.2).all id=FS f r by unfold FS;rw[List.all_map];rfl];cases hfit:FS f r with
           | false=> walk_at "r";exact fin false (by rw[pw,af,hfit];rfl)
           | true=>
             walk_at "r";refine BE ⟨w,f,r,rfl,hf⟩ ?_;rw[show N6 (.tuple (.str w::r)) = .tuple (r.take (if TZ w then 2 else 1)) from rfl];cases htw:TZ w with
             | false=>
               match r,kr,zd,pw,hfit,fin with
               | [],kr,_,_,_,_=>exact absurd kr (by show ¬(0=f.cps.size);lia)
               | x::r',kr,zd,pw,hfit,fin=> walk_at "r";refine IY ?_;walk_at "r";refine B0 rfl rfl ?_;walk_at "r";exact fin true (by rw[pw,af,hfit,htw];rfl)
             | true=>
               obtain⟨f2,g0,g1⟩:=ft htw
               match r,kr,zd,pw,hfit,fin with
               | [],kr,_,_,_,_=>exact absurd kr (by show ¬(0=f.cps.size);lia)
               | [_],kr,_,_,_,_=>exact absurd kr (by show ¬(1=f.cps.size);lia)
               | x::y::r',kr,zd,pw,hfit,fin=> obtain⟨nx,ny⟩:=fE g0 g1 hfit;obtain⟨zx,rfl,J_⟩:=PV nx;obtain⟨zy,rfl,J'⟩:=PV ny;walk_at "r";refine IY ?_;walk_at "r";refine B0 rfl rfl ?_;walk_at "r";refine AB (d:=.str zx) (AA (j:=0) rfl) ?_;walk_at "r";refine AB (d:=.str zy) (AA (j:=1) rfl) ?_;refine B0 (BR J_) (BR J') ?_;rw[if_pos rfl];exact fin _ (by rw[pw,af,hfit,htw];rfl)
 all_goals
   walk_at "r";exact⟨M,zT M,λd' e=>by cases e;exact⟨rfl,rfl⟩⟩
end
def X5:List Str:=["deed"]
theorem O7:FnScope X5 ["deed"] (AC HI):=⟨rfl,rfl,rfl,by decide +kernel,rfl,by decide +kernel,by decide +kernel⟩
section
local macro_rules | `(tactic| walk_at "x")=>`(tactic| first | ((with_reducible show PT _ (.Compare _ [.In] ..) _);exact @EE _ _ _ _ _ _ _ _ (@kIn _ K rfl) (by walk_at "e") (by walk_at "e") (by with_unfolding_all rfl)))
theorem X6 {f:Addr}{fd:FuncData}(F:Fun K "made_by" "made_by" HI f fd):FnOk P w K mg base CX0 1 f fd ["deed"] (spD K 1 Q2):=by
 refine fnD F O7 λcdv A outer s H E hr=>?_;have hu:=hr.units;have nd:=O7.nd;refine⟨_,by walk_at "b2", ?_⟩;clear nd;rintro xs M hl ⟨d,rfl,D,rfl,hD⟩;rw[D.d_eq];walk_at "r";refine AB (d:=.str D.word) (AA (j:=0) rfl) ?_;walk_at "r";refine B0 D.word_ok (by decide +kernel) ?_;rw[if_neg nft,BO,fF];cases hp:D.isPut with
 | true=> walk_at "r";refine AB (d:=.str D.fst) (AA (j:=1) rfl) ?_;refine⟨M,zT M,λd' e=>?_⟩;cases e;refine⟨?_,rfl⟩;cases D <;> first | rfl | cases hp
 | false=>
   walk_at "r";refine AB (d:=.str D.word) (AA (j:=0) rfl) ?_;walk_at "r";refine kI (ys:=[a0Q "name", a0Q "split"]) ?_;rw[uF,kQ];cases hn:D.isNS with
   | true=>
     have h2:∃y t,D.rest = .str y::t:=by cases D <;> first | exact⟨_,_,rfl⟩ | cases hn
     obtain⟨y,t,h2⟩:=h2;walk_at "r";refine AB (d:=.str y) (AA (j:=2) (by rw[h2];rfl)) ?_;refine⟨M,zT M,λd' e=>?_⟩;cases e;refine⟨?_,rfl⟩;cases D <;> first | (cases hn;done) | (simp only[Deed.rest] at h2;injection h2 with h3 h4;injection h3 with h3;subst h3;rfl)
   | false=> walk_at "r";refine⟨M,zT M,λd' e=>?_⟩;cases e;refine⟨?_,rfl⟩;cases D <;> first | rfl | (cases hn;done) | (cases hp;done)
end
def L9:List Str:=["world"]
def HY:List Str:=["name", "place", "count"]
def HZ:List (Option Nat):=[none,none,none]
theorem OU:HY.Nodup:=by decide +kernel
theorem LA:FnScope L9 ["world"] (AC E8):=⟨rfl,rfl,rfl,by decide +kernel,rfl,by decide +kernel,by decide +kernel⟩
section
local macro_rules | `(tactic| walk_at "cs")=>`(tactic| first | exact @RI _ _ HY HZ (AC E8) L9 (by decide +kernel) (by decide +kernel) rfl rfl)
local macro_rules | `(tactic| walk_at "x")=>`(tactic| first | ((with_reducible show PG _ (.Tuple ..) _);exact @kC _ K _ _ _ _ (3) rfl rfl (by walk_at "j") (by rfl) (by rfl)))
theorem VB {f:Addr}{fd:FuncData}(F:Fun K "by_names" "by_names" E8 f fd):FnOk P w K mg base CX0 1 f fd ["world"] (spD K 1 CM):=by
 refine fnD F LA λcdv A outer s H E hr=>?_;have hu:=hr.units;have fq:=zQ (a2V (show 1<=64 by decide) _) hu;have nd:=LA.nd;have n0:=OU;refine⟨_,by walk_at "b1", ?_⟩;clear nd n0;rintro xs M hl ⟨w,rfl,nd,af⟩;have hz:w.length < sizeLine:=zP af (by decide);walk_at "r";refine f6 (dM (IZ (IZ (IZ dL)))) (by simp[HZ]) ?_;refine R6 ?_;walk_at "r";have ek:(w.map thD).map nm0=w.map (·.1):=kF w;refine⟨by rw[zX];exact hz,λ_=>true,nm0,uG,by rw[a6,ek];exact nd,?_,?_⟩;. intro d hd M';obtain⟨t,ht,rfl⟩:=zL.mp hd;rw[show thD t = .tuple [.str t.1,.int t.2.1,.int t.2.2] from rfl];walk_at "r";refine⟨rfl,?_⟩;walk_at "dl";refine⟨rfl,rfl,λ_=>?_⟩;walk_at "r";refine⟨rfl,rfl,?_⟩;walk_at "r";exact⟨rfl,rfl⟩
 . intro p hp;rw[a6,zD];refine⟨_,zT _,λw' e=>⟨p,hp,rfl,?_⟩⟩;have e:=IH (show wD w=wD w' by simpa using e);subst e;rfl
end
def EA:List Str:=["things"]
def D4:List Str:=["name", "things"]
def D5:List (Option Nat):=[none,some 0]
theorem GX:D4.Nodup:=by decide +kernel
theorem EB:FnScope EA ["things"] (AC B5):=⟨rfl,rfl,rfl,by decide +kernel,rfl,by decide +kernel,by decide +kernel⟩
section
local macro_rules | `(tactic| walk_at "cs")=>`(tactic| first | exact @RI _ _ D4 D5 (AC B5) EA (by decide +kernel) (by decide +kernel) rfl rfl)
local macro_rules | `(tactic| walk_at "y")=>`(tactic| first | ((with_reducible show PE _ (.Subscript ..) _);exact @DC _ _ _ _ _ _ fq (@pv _ 1 _ _ (by rfl) (by walk_at "lc") (by decide) (by decide)) (@pv _ 0 _ _ (by rfl) (by walk_at "lc") (by decide) (by decide)) (λ_ _=>rfl)))
theorem IL {f:Addr}{fd:FuncData}(F:Fun K "rising_by_names" "rising_by_names" B5 f fd) (bp:mg "sorted"=none) (ao:mg "tuple"=none):FnOk P w K mg base CX0 1 f fd ["things"] (spD K 1 B3):=by
 refine fnD F EB λcdv A outer s H E hr=>?_;have hu:=hr.units;have fq:=zQ (a2V (show 1<=64 by decide) _) hu;have nd:=EB.nd;have n0:=GX;refine⟨_,by walk_at "b1", ?_⟩;clear nd n0;rintro xs M hl ⟨p,ts,rfl,m,nd,de⟩;walk_at "r";refine BH (C0 0) (by simp[D5]) ?_;refine BN ?_;walk_at "r";refine eV m (by unfold tsD;rw[zX];exact de) λss hp hs=>?_;rw[show(tsD ts).map (·.1)=ts.map (·.1) by unfold tsD;rw[zD];rfl] at hp;have af:ss.length=ts.length:=by have:=hp.length_eq;simpa using this
 refine⟨_,rfl,by rw[zX,af];exact zP de (by decide),λ_=>true,Q5 ts,?_,?_⟩
 . rintro d hd A acc M' hA rfl;obtain⟨s,Bc,rfl⟩:=zL.mp hd;obtain⟨t,ht,et⟩:=zL.mp (hp.mem_iff.mp Bc);have li:AE ts s=some t.2:=by rw[<-et];exact C7 nd ht
   have vw:p≠A:=λe=>by rw[e] at m;rw[hA] at m;cases m
   walk_at "r";refine⟨rfl,?_⟩;walk_at "dl";refine⟨rfl,rfl,λ_=>?_⟩;walk_at "r";refine E3 ?_;walk_at "r";refine⟨p,tsD ts,s,pcD t.2.1 t.2.2,rfl,rfl,by rw[yH vw];exact m,by rw[AI,li];rfl,?_⟩;refine J0 (yD rfl) ?_;refine⟨?_,rfl⟩;simp only[Q5,li];rfl
 . rw[a6,Q6 nd hp hs];walk_at "r";refine LO ?_;refine⟨M,zT M,λp' cj e m' Kz=>?_⟩;cases e;have e:=LS (Option.some.inj (m.symm.trans m'));subst e;exact⟨rfl,rfl⟩
end
def SH:List Str:=["things", "name", "more", "place", "count"]
theorem JT:FnScope SH ["things", "name", "more"] (AC ET):=⟨rfl,rfl,rfl,by decide +kernel,rfl,by decide +kernel,by decide +kernel⟩
section
local macro_rules | `(tactic| walk_at "x")=>`(tactic| first | ((with_reducible show PS _ (.Assign [.Tuple ..] ..) _);exact @VI _ _ _ _ _ _ (by walk_at "e") (by walk_at "g") (by rfl) (by rfl) (by rfl)) | ((with_reducible show PG _ (.Tuple ..) _);exact @n3 _ K _ _ _ _ (2) rfl rfl (by walk_at "j") (by rfl) (by rfl)) | ((with_reducible show PS _ (.Assign [.Subscript ..] ..) _);exact @LM _ _ _ _ _ _ _ _ _ fq (by walk_at "e") (by walk_at "e") (by walk_at "e") (by rfl)))
local macro_rules | `(tactic| walk_at "y")=>`(tactic| first | ((with_reducible show PE _ (.Subscript ..) _);exact @DC _ _ _ _ _ _ fq (@pv _ 0 _ _ (by rfl) (by walk_at "lc") (by decide) (by decide)) (@pv _ 1 _ _ (by rfl) (by walk_at "lc") (by decide) (by decide)) (λ_ _=>rfl)))
theorem SJ {f:Addr}{fd:FuncData}(F:Fun K "add_count" "add_count" ET f fd):FnOk P w K mg base CX0 1 f fd ["things", "name", "more"] (spD K 3 EG):=by refine fnD F JT λcdv A outer s H E hr=>?_;have hu:=hr.units;have fq:=zQ (a2V (show 1<=64 by decide) _) hu;have nd:=JT.nd;refine⟨_,by walk_at "b2", ?_⟩;clear nd;rintro xs M hl ⟨p,ts,x,k,v,rfl,m,Dy,de⟩;walk_at "dl";refine W6 ?_;refine E3 ?_;walk_at "r";refine⟨p,tsD ts,x,pcD v.1 v.2,rfl,rfl,m,by rw[AI,Dy];rfl,?_⟩;rw[show pcD v.1 v.2 = .tuple [.int v.1,.int v.2] from rfl];walk_at "r";refine BI ?_;walk_at "r";refine⟨p,tsD ts,x,pcD v.1 (v.2+k),rfl,rfl,rfl,m,by unfold tsD;rw[zX];exact zP de (by decide),?_⟩;refine⟨_,zT _,λp' cj x' k' e m'=>?_⟩;cases e;have e:=LS (Option.some.inj (m.symm.trans m'));subst e;refine⟨rfl,?_⟩;rw[BJ];unfold FU;rw[Dy]
end
theorem VC {f C S:Addr}{fd:FuncData}(F:Fun K "__init__" "NotNow.__init__" BA f fd) (c:XCls K C S (.ref f)) (cs:XSet K C "name"):FnOk P w K mg base CX0 1 f fd ["self", "name"] (D8 C "name"):=
 YD F ⟨rfl,rfl,rfl,by decide +kernel,rfl,by decide +kernel,by decide +kernel⟩ rfl c cs (by decide) (λ_=>rfl) (λX hN hS=>pv 0 (by rw[hN];rfl) (by rw[hS];exact Or.inl rfl)) (λX hN hS=>pv 1 (by rw[hN];rfl) (by rw[hS];exact Or.inl rfl))
def IM:List Str:=["things", "deed", "made", "name"]
theorem EC:FnScope IM ["things", "deed"] (AC BB):=⟨rfl,rfl,rfl,by decide +kernel,rfl,by decide +kernel,by decide +kernel⟩
section
local macro_rules | `(tactic| walk_at "x")=>`(tactic| first | ((with_reducible show PE _ (.Compare _ [.In] ..) _);exact @bJ _ _ _ _ _ _ (@VS _ _ _ _ _ fq (by walk_at "e") (by walk_at "e")) (by with_unfolding_all rfl)))
theorem IN {f:Addr}{fd:FuncData}{uy aj ak:Addr}(F:Fun K "refuse_undoable" "refuse_undoable" BB f fd) (cn:HasN K mg "NoDeed" aj uy) (cq:HasR P w K mg base "NotNow" "name" ak uy) (jt:Has P w K mg base "is_deed" 5 ["thing"] K7) (ju:Has P w K mg base "made_by" 1 ["deed"] Q2) (bw:Has P w K mg base "names_in" 2 ["deed"] IG):FnOk P w K mg base (CXE P w) 6 f fd ["things", "deed"] (spX K 2 (B7 aj ak)):=by
 refine fZ F EC λcdv A outer s H E hr=>?_;have hu:=hr.units;have fq:=zQ (a2V (show 1<=64 by decide) _) hu;have nd:=EC.nd;refine⟨_,by walk_at "b2", ?_⟩;clear nd;rintro xs M hl ⟨p,ts,d,rfl,m,⟨D,rfl,hr⟩ | hn⟩
 rotate_left
 . walk_at "r";refine BE hn.2 ?_;rw[hn.1];walk_at "r";refine⟨M,zT M,λp' cj d' e m'=>?_⟩;obtain⟨rfl,rfl,rfl⟩:=RW e m m';exact⟨_,rfl,.inr ⟨hn,rfl,rfl⟩,rfl⟩
 have iD:WH D.d:=U3 hr;walk_at "r";refine BE (kZ hr.1) ?_;rw[Y6 hr];walk_at "r";refine BE iD ?_;walk_at "r";refine fY ?_;refine R6 ?_;walk_at "r";refine BE (fA D) ?_;rw[fB];walk_at "r";refine⟨λk ρ' M'=>M'=M/\(∀x∈D.names.take k,amB (ts.map (·.1)) D x=false)/\∃x:Option DS,ρ'=[some (.loc p),some (.d D.d),some (.d (U0 D.d)),x],⟨rfl,by simp,_,rfl⟩,?_,?_⟩
 . rintro k d ρ' M' hd ⟨rfl,hk,x,rfl⟩;rw[zF] at hd;cases hsk:D.names[k]? with
   | none=>rw[hsk] at hd;cases hd
   | some n=>
     rw[hsk] at hd;cases hd;have hn:n∈D.names:=yN hsk;have hz:DZ n:=hr.1 n hn;walk_at "r";refine Y3 ?_;walk_at "r";refine⟨p,tsD ts,n,rfl,rfl,m,?_⟩;walk_at "r";refine B0 (BR hz) (kR hr.1) ?_;rw[if_neg nft,l0];refine B0 rfl rfl ?_;rw[if_neg nft,a7,AI,a6V,FT];have eb:(decide (n∈ts.map (·.1))==decide (D.made=some n))=amB (ts.map (·.1)) D n:=rfl;rw[eb];cases hb:amB (ts.map (·.1)) D n with
     | true=> walk_at "r";refine⟨_,zT _,λp' cj d' e m'=>?_⟩;obtain⟨rfl,rfl,rfl⟩:=RW e m m';exact⟨_,rfl,.inl ⟨D,n,rfl,hr,UT hk hsk hb,rfl,rfl⟩,rfl⟩
     | false=>
       walk_at "r";refine⟨rfl,λy hy=>?_,_,rfl⟩;rw[b0K,hsk] at hy;rcases yW.mp hy with h | h;. exact hk y h
       . have:y=n:=by simpa using h
         rw[this];exact hb
 . rintro ρ' M' ⟨rfl,hk,x,rfl⟩;rw[zX,a3J] at hk;refine⟨_,zT _,λp' cj d' e m'=>?_⟩;obtain⟨rfl,rfl,rfl⟩:=RW e m m';exact⟨D,⟨rfl,hr,i5 hk⟩,rfl,rfl⟩
end
def bD:List Str:=["things", "deed", "word", "name"]
theorem KH:FnScope bD ["things", "deed"] (AC JH):=⟨rfl,rfl,rfl,by decide +kernel,rfl,by decide +kernel,by decide +kernel⟩
section
local macro_rules | `(tactic| walk_at "x")=>`(tactic| first | ((with_reducible show PS _ (.Assign [.Tuple ..] (.Tuple ..) _) _);exact @bP _ _ (2) (3) _ _ _ _ _ _ _ _ _ _ _ rfl KH.nd rfl rfl (by decide) rfl rfl (by walk_at "a") rfl (by rfl)) | ((with_reducible show PS _ (.Assign [.Subscript ..] ..) _);exact @LM _ _ _ _ _ _ _ _ _ fq (by walk_at "e") (by walk_at "e") (by walk_at "e") (by rfl)) | ((with_reducible show PS _ (.Delete ..) _);exact @iZ _ _ _ _ _ _ _ (by walk_at "e") (by walk_at "e")) | ((with_reducible show PE _ (.Call (.Attribute _ (a0Q "pop") _) ..) _);exact @SY _ _ _ _ _ _ _ (by walk_at "e") (by walk_at "e") (@L2.M1.mk _ _ _ _ _ _ rfl rfl rfl rfl)))
local macro_rules | `(tactic| walk_at "y")=>`(tactic| first | ((with_reducible show PE _ (.Subscript ..) _);exact @DC _ _ _ _ _ _ fq (@pv _ 0 _ _ (by rfl) (by walk_at "lc") (by decide) (by decide)) (@pv _ 3 _ _ (by rfl) (by walk_at "lc") (by decide) (by decide)) (λ_ _=>rfl)) | ((with_reducible show PE _ (.Subscript ..) _);exact @DC _ _ _ _ _ _ fq (@pv _ 0 _ _ (by rfl) (by walk_at "lc") (by decide) (by decide)) (by walk_at "e") (λ_ _=>rfl)))
theorem bE {f:Addr}{fd:FuncData}(F:Fun K "change" "change" JH f fd) (ie:Has P w K mg base "add_count" 1 ["things", "name", "more"] EG):FnOk P w K mg base CX0 2 f fd ["things", "deed"] (spD K 2 J6):=by
 refine fnD F KH λcdv A outer s H E hr=>?_;have hu:=hr.units;have fq:=zQ (a2V (show 1<=64 by decide) _) hu;have nd:=KH.nd;refine⟨_,by walk_at "b2", ?_⟩;clear nd;rintro xs M hl ⟨p,ts,D,rfl,m,⟨nd,af⟩,hr,ha⟩;have de:ts.length < 64:=b7X af;have c_:=CW ha;cases D with
 | put x pl k=> have hx:x∉ts.map (·.1):=λq=>(c_ x (by simp[Deed.names])).mp q rfl;rw[show Deed.d (Deed.put x pl k) = .tuple [.str (a0Q "put"),.str x,.int pl,.int k] from rfl];walk_at "r";refine AB (d:=.str (a0Q "put")) (AA (j:=0) rfl) ?_;walk_at "r";refine AB (d:=.str x) (AA (j:=1) rfl) ?_;walk_at "r";refine⟨_,_,rfl,?_⟩;walk_at "r";refine AD (t:=true) (by decide +kernel) ?_;walk_at "r";refine BI ?_;walk_at "r";refine AB (d:=.int pl) (AA (j:=2) rfl) ?_;walk_at "r";refine AB (d:=.int k) (AA (j:=3) rfl) ?_;walk_at "r";refine⟨p,tsD ts,x,pcD pl k,rfl,rfl,rfl,m,BP de,?_⟩;refine⟨_,zT _,λp' cj D' e m'=>?_⟩;obtain⟨rfl,rfl,rfl⟩:=FV (D:=Deed.put x pl k) m e m';refine⟨rfl,?_⟩;rw[BJ];rfl
 | take x=> obtain⟨v,hv⟩:=AZ ((c_ x (by simp[Deed.names])).mpr (by simp[Deed.made]));rw[show Deed.d (Deed.take x) = .tuple [.str (a0Q "take"),.str x] from rfl];walk_at "r";refine AB (d:=.str (a0Q "take")) (AA (j:=0) rfl) ?_;walk_at "r";refine AB (d:=.str x) (AA (j:=1) rfl) ?_;walk_at "r";refine⟨_,_,rfl,?_⟩;walk_at "r";refine AD (t:=false) (by decide +kernel) ?_;walk_at "r";refine AD (t:=true) (by decide +kernel) ?_;walk_at "r";refine Y4 ?_;walk_at "r";refine⟨p,tsD ts,x,rfl,rfl,m,by rw[AI,hv];rfl,?_⟩;refine⟨_,zT _,λp' cj D' e m'=>?_⟩;obtain⟨rfl,rfl,rfl⟩:=FV (D:=Deed.take x) m e m';refine⟨rfl,?_⟩;rw[FA];rfl
 | move x pl=> obtain⟨v,hv⟩:=AZ ((c_ x (by simp[Deed.names])).mpr (by simp[Deed.made]));rw[show Deed.d (Deed.move x pl) = .tuple [.str (a0Q "move"),.str x,.int pl] from rfl];walk_at "r";refine AB (d:=.str (a0Q "move")) (AA (j:=0) rfl) ?_;walk_at "r";refine AB (d:=.str x) (AA (j:=1) rfl) ?_;walk_at "r";refine⟨_,_,rfl,?_⟩;walk_at "r";refine AD (t:=false) (by decide +kernel) ?_;walk_at "r";refine AD (t:=false) (by decide +kernel) ?_;walk_at "r";refine AD (t:=true) (by decide +kernel) ?_;walk_at "r";refine BI ?_;walk_at "r";refine AB (d:=.int pl) (AA (j:=2) rfl) ?_;walk_at "r";refine E3 ?_;walk_at "r";refine⟨p,tsD ts,x,pcD v.1 v.2,rfl,rfl,m,by rw[AI,hv];rfl,?_⟩;walk_at "r";refine AB (ds:=[.int v.1,.int v.2]) (d:=.int v.2) (AA (j:=1) rfl) ?_;walk_at "r";refine⟨p,tsD ts,x,pcD pl v.2,rfl,rfl,rfl,m,BP de,?_⟩;refine⟨_,zT _,λp' cj D' e m'=>?_⟩;obtain⟨rfl,rfl,rfl⟩:=FV (D:=Deed.move x pl) m e m';refine⟨rfl,?_⟩;rw[BJ];simp only[doT,hv]
 | count x k=> obtain⟨v,hv⟩:=AZ ((c_ x (by simp[Deed.names])).mpr (by simp[Deed.made]));rw[show Deed.d (Deed.count x k) = .tuple [.str (a0Q "count"),.str x,.int k] from rfl];walk_at "r";refine AB (d:=.str (a0Q "count")) (AA (j:=0) rfl) ?_;walk_at "r";refine AB (d:=.str x) (AA (j:=1) rfl) ?_;walk_at "r";refine⟨_,_,rfl,?_⟩;walk_at "r";refine AD (t:=false) (by decide +kernel) ?_;walk_at "r";refine AD (t:=false) (by decide +kernel) ?_;walk_at "r";refine AD (t:=false) (by decide +kernel) ?_;walk_at "r";refine AD (t:=true) (by decide +kernel) ?_;walk_at "r";refine AB (d:=.int k) (AA (j:=2) rfl) ?_;walk_at "r";refine N8 m hv de ?_;walk_at "r";refine⟨_,zT _,λp' cj D' e m'=>?_⟩;obtain⟨rfl,rfl,rfl⟩:=FV (D:=Deed.count x k) m e m';refine⟨rfl,?_⟩;rfl
 | name x y=> obtain⟨v,hv⟩:=AZ ((c_ x (by simp[Deed.names])).mpr (by simp[Deed.made,hr.2.1.symm]));rw[show Deed.d (Deed.name x y) = .tuple [.str (a0Q "name"),.str x,.str y] from rfl];walk_at "r";refine AB (d:=.str (a0Q "name")) (AA (j:=0) rfl) ?_;walk_at "r";refine AB (d:=.str x) (AA (j:=1) rfl) ?_;walk_at "r";refine⟨_,_,rfl,?_⟩;walk_at "r";refine AD (t:=false) (by decide +kernel) ?_;walk_at "r";refine AD (t:=false) (by decide +kernel) ?_;walk_at "r";refine AD (t:=false) (by decide +kernel) ?_;walk_at "r";refine AD (t:=false) (by decide +kernel) ?_;walk_at "r";refine AD (t:=true) (by decide +kernel) ?_;walk_at "r";refine BI ?_;refine LQ ?_;walk_at "r";refine⟨p,tsD ts,rfl,m,?_⟩;walk_at "r";refine⟨tsD ts,x,pcD v.1 v.2,rfl,m,by rw[AI,hv];rfl,?_⟩;rw[FA];walk_at "r";refine AB (d:=.str y) (AA (j:=2) rfl) ?_;refine⟨p,tsD (G7 ts x),y,pcD v.1 v.2,rfl,rfl,rfl,zU,BP (zQ (yJ _ _) de),?_⟩;rw[yI];refine⟨_,zT _,λp' cj D' e m'=>?_⟩;obtain⟨rfl,rfl,rfl⟩:=FV (D:=Deed.name x y) m e m';refine⟨rfl,?_⟩;rw[BJ];simp only[doT,hv]
 | split x y pl k=> obtain⟨v,hv⟩:=AZ ((c_ x (by simp[Deed.names])).mpr (by simp[Deed.made,hr.2.1.symm]));rw[show Deed.d (Deed.split x y pl k) = .tuple [.str (a0Q "split"),.str x,.str y,.int pl,.int k] from rfl];walk_at "r";refine AB (d:=.str (a0Q "split")) (AA (j:=0) rfl) ?_;walk_at "r";refine AB (d:=.str x) (AA (j:=1) rfl) ?_;walk_at "r";refine⟨_,_,rfl,?_⟩;walk_at "r";refine AD (t:=false) (by decide +kernel) ?_;walk_at "r";refine AD (t:=false) (by decide +kernel) ?_;walk_at "r";refine AD (t:=false) (by decide +kernel) ?_;walk_at "r";refine AD (t:=false) (by decide +kernel) ?_;walk_at "r";refine AD (t:=false) (by decide +kernel) ?_;walk_at "r";refine AD (t:=true) (by decide +kernel) ?_;walk_at "r";refine AB (d:=.int k) (AA (j:=4) rfl) ?_;walk_at "r";refine N8 m hv de ?_;walk_at "r";refine BI ?_;walk_at "r";refine AB (d:=.int pl) (AA (j:=3) rfl) ?_;walk_at "r";refine AB (d:=.int k) (AA (j:=4) rfl) ?_;walk_at "r";refine AB (d:=.str y) (AA (j:=2) rfl) ?_;refine⟨p,tsD (FU ts x (-k)),y,pcD pl k,rfl,rfl,rfl,zU,BP (by rw[fI];exact de),?_⟩;rw[yI];refine⟨_,zT _,λp' cj D' e m'=>?_⟩;obtain⟨rfl,rfl,rfl⟩:=FV (D:=Deed.split x y pl k) m e m';refine⟨rfl,?_⟩;rw[BJ];rfl
 | join x y=> obtain⟨v,hv⟩:=AZ ((c_ x (by simp[Deed.names])).mpr (by simp[Deed.made]));obtain⟨u,wH⟩:=AZ ((c_ y (by simp[Deed.names])).mpr (by simp[Deed.made]));rw[show Deed.d (Deed.join x y) = .tuple [.str (a0Q "join"),.str x,.str y] from rfl];walk_at "r";refine AB (d:=.str (a0Q "join")) (AA (j:=0) rfl) ?_;walk_at "r";refine AB (d:=.str x) (AA (j:=1) rfl) ?_;walk_at "r";refine⟨_,_,rfl,?_⟩;walk_at "r";refine AD (t:=false) (by decide +kernel) ?_;walk_at "r";refine AD (t:=false) (by decide +kernel) ?_;walk_at "r";refine AD (t:=false) (by decide +kernel) ?_;walk_at "r";refine AD (t:=false) (by decide +kernel) ?_;walk_at "r";refine AD (t:=false) (by decide +kernel) ?_;walk_at "r";refine AD (t:=false) (by decide +kernel) ?_;walk_at "r";refine E3 ?_;walk_at "r";refine AB (d:=.str y) (AA (j:=2) rfl) ?_;refine⟨p,tsD ts,y,pcD u.1 u.2,rfl,rfl,m,by rw[AI,wH];rfl,?_⟩;walk_at "r";refine AB (ds:=[.int u.1,.int u.2]) (d:=.int u.2) (AA (j:=1) rfl) ?_;walk_at "r";refine N8 m hv de ?_;walk_at "r";refine Y4 ?_;walk_at "r";refine AB (d:=.str y) (AA (j:=2) rfl) ?_;refine⟨p,tsD (FU ts x u.2),y,rfl,rfl,zU,by rw[AI,a6V,FT,CN,<-FT,wH];rfl,?_⟩;rw[yI];refine⟨_,zT _,λp' cj D' e m'=>?_⟩;obtain⟨rfl,rfl,rfl⟩:=FV (D:=Deed.join x y) m e m';refine⟨rfl,?_⟩;rw[FA];simp only[doT,wH]
end
def mB:List Str:=["world", "deed", "things"]
theorem YV:FnScope mB ["world", "deed"] (AC RY):=⟨rfl,rfl,rfl,by decide +kernel,rfl,by decide +kernel,by decide +kernel⟩
section
local macro_rules | `(tactic| walk_at "x")=>`(tactic| first | ((with_reducible show PE _ (.Call (.Name (a0Q "refuse_undoable") _) ..) _);exact @mW _ K P w mg base _ _ _ _ _ _ _ _ _ rfl rfl rfl rfl rfl (OJ ai) (hr.mono (by decide)) rfl (by walk_at "a") (by decide) (by rfl) (by rfl)))
theorem mD {f:Addr}{fd:FuncData}{aj ak:Addr}(F:Fun K "done" "done" RY f fd) (ai:HasX P w K mg base "refuse_undoable" 6 ["things", "deed"] (B7 aj ak)) (ax:Has P w K mg base "by_names" 1 ["world"] CM) (lj:Has P w K mg base "change" 2 ["things", "deed"] J6) (aq:Has P w K mg base "rising_by_names" 1 ["things"] B3):FnOk P w K mg base CX0 7 f fd ["world", "deed"] (spD K 2 RE):=by refine fnD F YV λcdv A outer s H E hr=>?_;have hu:=hr.units;have nd:=YV.nd;refine⟨_,by walk_at "b2", ?_⟩;clear nd;rintro xs M hl ⟨w,D,rfl,hg⟩;obtain⟨n1,n2⟩:=KA hg;obtain⟨hc,hr,ha⟩:=hg;walk_at "r";refine EX hc λp hp=>?_;walk_at "r";refine U4 zU hr ha ?_;walk_at "r";refine U5 zU hc hr ha ?_;rw[yI];walk_at "r";refine KQ zU n1 n2 ?_;refine⟨M,(zT M).put hp,λw' D' e=>?_⟩;obtain⟨rfl,rfl⟩:=qI e;exact⟨rfl,rfl⟩
end
def SK:List Str:=["world", "deed", "things", "word", "name"]
theorem G5:FnScope SK ["world", "deed"] (AC EU):=⟨rfl,rfl,rfl,by decide +kernel,rfl,by decide +kernel,by decide +kernel⟩
section
local macro_rules | `(tactic| walk_at "x")=>`(tactic| first | ((with_reducible show PS _ (.Assign [.Tuple ..] (.Tuple ..) _) _);exact @bP _ _ (3) (4) _ _ _ _ _ _ _ _ _ _ _ rfl G5.nd rfl rfl (by decide) rfl rfl (by walk_at "a") rfl (by rfl)))
local macro_rules | `(tactic| walk_at "y")=>`(tactic| first | ((with_reducible show PE _ (.Subscript ..) _);exact @DC _ _ _ _ _ _ fq (@pv _ 2 _ _ (by rfl) (by walk_at "lc") (by decide) (by decide)) (@pv _ 4 _ _ (by rfl) (by walk_at "lc") (by decide) (by decide)) (λ_ _=>rfl)) | ((with_reducible show PE _ (.Subscript ..) _);exact @DC _ _ _ _ _ _ fq (@pv _ 2 _ _ (by rfl) (by walk_at "lc") (by decide) (by decide)) (by walk_at "e") (λ_ _=>rfl)))
theorem SL {f:Addr}{fd:FuncData}{aj ak:Addr}(F:Fun K "back_deed" "back_deed" EU f fd) (ai:HasX P w K mg base "refuse_undoable" 6 ["things", "deed"] (B7 aj ak)) (ax:Has P w K mg base "by_names" 1 ["world"] CM):FnOk P w K mg base (CXE P w) 7 f fd ["world", "deed"] (spX K 2 (DW aj ak)):=by
 refine fZ F G5 λcdv A outer s H E hr=>?_;have hu:=hr.units;have fq:=zQ (a2V (show 1<=64 by decide) _) hu;have nd:=G5.nd;refine⟨_,by walk_at "b2", ?_⟩;clear nd;rintro xs M hl ⟨w,d,rfl,hc,ha⟩;walk_at "r";refine EX hc λp hp=>?_;walk_at "r";refine OI zU ha (λD g=>?_) λC fs hf=>?_
 rotate_left
 . refine⟨M,(zT M).put hp,λw' d' e=>?_⟩;obtain⟨rfl,rfl⟩:=EL e;exact⟨C,rfl,hf,rfl⟩
 obtain⟨rfl,hr,hn⟩:=id g;have c_:=CW hn;cases D with
 | put x pl k=> rw[show Deed.d (Deed.put x pl k) = .tuple [.str (a0Q "put"),.str x,.int pl,.int k] from rfl];walk_at "r";refine AB (d:=.str (a0Q "put")) (AA (j:=0) rfl) ?_;walk_at "r";refine AB (d:=.str x) (AA (j:=1) rfl) ?_;walk_at "r";refine⟨_,_,rfl,?_⟩;walk_at "r";refine AD (t:=true) (by decide +kernel) ?_;walk_at "r";refine⟨M,(zT M).put hp,λw' d' e=>?_⟩;obtain⟨rfl,rfl⟩:=EL e;refine⟨_,g,?_⟩;exact⟨rfl,rfl⟩
 | take x=> obtain⟨v,hv⟩:=AZ ((c_ x (by simp[Deed.names])).mpr (by simp[Deed.made]));rw[show Deed.d (Deed.take x) = .tuple [.str (a0Q "take"),.str x] from rfl];walk_at "r";refine AB (d:=.str (a0Q "take")) (AA (j:=0) rfl) ?_;walk_at "r";refine AB (d:=.str x) (AA (j:=1) rfl) ?_;walk_at "r";refine⟨_,_,rfl,?_⟩;walk_at "r";refine AD (t:=false) (by decide +kernel) ?_;walk_at "r";refine AD (t:=true) (by decide +kernel) ?_;walk_at "r";refine E3 ?_;walk_at "r";refine⟨p,tsD w,x,pcD v.1 v.2,rfl,rfl,zU,by rw[AI,hv];rfl,?_⟩;refine J0 (yD rfl) ?_;refine⟨M,(zT M).put hp,λw' d' e=>?_⟩;obtain⟨rfl,rfl⟩:=EL e;refine⟨_,g,?_⟩;exact⟨by simp only[B2,hv];rfl,rfl⟩
 | move x pl=> obtain⟨v,hv⟩:=AZ ((c_ x (by simp[Deed.names])).mpr (by simp[Deed.made]));rw[show Deed.d (Deed.move x pl) = .tuple [.str (a0Q "move"),.str x,.int pl] from rfl];walk_at "r";refine AB (d:=.str (a0Q "move")) (AA (j:=0) rfl) ?_;walk_at "r";refine AB (d:=.str x) (AA (j:=1) rfl) ?_;walk_at "r";refine⟨_,_,rfl,?_⟩;walk_at "r";refine AD (t:=false) (by decide +kernel) ?_;walk_at "r";refine AD (t:=false) (by decide +kernel) ?_;walk_at "r";refine AD (t:=true) (by decide +kernel) ?_;walk_at "r";refine E3 ?_;walk_at "r";refine⟨p,tsD w,x,pcD v.1 v.2,rfl,rfl,zU,by rw[AI,hv];rfl,?_⟩;walk_at "r";refine AB (ds:=[.int v.1,.int v.2]) (d:=.int v.1) (AA (j:=0) rfl) ?_;walk_at "r";refine⟨M,(zT M).put hp,λw' d' e=>?_⟩;obtain⟨rfl,rfl⟩:=EL e;refine⟨_,g,?_⟩;exact⟨by simp only[B2,hv];rfl,rfl⟩
 | count x k=> rw[show Deed.d (Deed.count x k) = .tuple [.str (a0Q "count"),.str x,.int k] from rfl];walk_at "r";refine AB (d:=.str (a0Q "count")) (AA (j:=0) rfl) ?_;walk_at "r";refine AB (d:=.str x) (AA (j:=1) rfl) ?_;walk_at "r";refine⟨_,_,rfl,?_⟩;walk_at "r";refine AD (t:=false) (by decide +kernel) ?_;walk_at "r";refine AD (t:=false) (by decide +kernel) ?_;walk_at "r";refine AD (t:=false) (by decide +kernel) ?_;walk_at "r";refine AD (t:=true) (by decide +kernel) ?_;walk_at "r";refine AB (d:=.int k) (AA (j:=2) rfl) ?_;walk_at "r";refine⟨M,(zT M).put hp,λw' d' e=>?_⟩;obtain⟨rfl,rfl⟩:=EL e;refine⟨_,g,?_⟩;exact⟨rfl,rfl⟩
 | name x y=> rw[show Deed.d (Deed.name x y) = .tuple [.str (a0Q "name"),.str x,.str y] from rfl];walk_at "r";refine AB (d:=.str (a0Q "name")) (AA (j:=0) rfl) ?_;walk_at "r";refine AB (d:=.str x) (AA (j:=1) rfl) ?_;walk_at "r";refine⟨_,_,rfl,?_⟩;walk_at "r";refine AD (t:=false) (by decide +kernel) ?_;walk_at "r";refine AD (t:=false) (by decide +kernel) ?_;walk_at "r";refine AD (t:=false) (by decide +kernel) ?_;walk_at "r";refine AD (t:=false) (by decide +kernel) ?_;walk_at "r";refine AD (t:=true) (by decide +kernel) ?_;walk_at "r";refine AB (d:=.str y) (AA (j:=2) rfl) ?_;walk_at "r";refine⟨M,(zT M).put hp,λw' d' e=>?_⟩;obtain⟨rfl,rfl⟩:=EL e;refine⟨_,g,?_⟩;exact⟨rfl,rfl⟩
 | split x y pl k=> rw[show Deed.d (Deed.split x y pl k) = .tuple [.str (a0Q "split"),.str x,.str y,.int pl,.int k] from rfl];walk_at "r";refine AB (d:=.str (a0Q "split")) (AA (j:=0) rfl) ?_;walk_at "r";refine AB (d:=.str x) (AA (j:=1) rfl) ?_;walk_at "r";refine⟨_,_,rfl,?_⟩;walk_at "r";refine AD (t:=false) (by decide +kernel) ?_;walk_at "r";refine AD (t:=false) (by decide +kernel) ?_;walk_at "r";refine AD (t:=false) (by decide +kernel) ?_;walk_at "r";refine AD (t:=false) (by decide +kernel) ?_;walk_at "r";refine AD (t:=false) (by decide +kernel) ?_;walk_at "r";refine AD (t:=true) (by decide +kernel) ?_;walk_at "r";refine AB (d:=.str y) (AA (j:=2) rfl) ?_;walk_at "r";refine⟨M,(zT M).put hp,λw' d' e=>?_⟩;obtain⟨rfl,rfl⟩:=EL e;refine⟨_,g,?_⟩;exact⟨rfl,rfl⟩
 | join x y=> obtain⟨u,wH⟩:=AZ ((c_ y (by simp[Deed.names])).mpr (by simp[Deed.made]));rw[show Deed.d (Deed.join x y) = .tuple [.str (a0Q "join"),.str x,.str y] from rfl];walk_at "r";refine AB (d:=.str (a0Q "join")) (AA (j:=0) rfl) ?_;walk_at "r";refine AB (d:=.str x) (AA (j:=1) rfl) ?_;walk_at "r";refine⟨_,_,rfl,?_⟩;walk_at "r";refine AD (t:=false) (by decide +kernel) ?_;walk_at "r";refine AD (t:=false) (by decide +kernel) ?_;walk_at "r";refine AD (t:=false) (by decide +kernel) ?_;walk_at "r";refine AD (t:=false) (by decide +kernel) ?_;walk_at "r";refine AD (t:=false) (by decide +kernel) ?_;walk_at "r";refine AD (t:=false) (by decide +kernel) ?_;walk_at "r";refine AB (d:=.str y) (AA (j:=2) rfl) ?_;walk_at "r";refine E3 ?_;walk_at "r";refine AB (d:=.str y) (AA (j:=2) rfl) ?_;refine⟨p,tsD w,y,pcD u.1 u.2,rfl,rfl,zU,by rw[AI,wH];rfl,?_⟩;refine J0 (yD rfl) ?_;refine⟨M,(zT M).put hp,λw' d' e=>?_⟩;obtain⟨rfl,rfl⟩:=EL e;refine⟨_,g,?_⟩;exact⟨by simp only[B2,wH];rfl,rfl⟩
end
theorem X7 {f C S:Addr}{fd:FuncData}(F:Fun K "__init__" "NoRow.__init__" B8 f fd) (c:XCls K C S (.ref f)) (cs:XSet K C "number"):FnOk P w K mg base CX0 1 f fd ["self", "number"] (D8 C "number"):=
 YD F ⟨rfl,rfl,rfl,by decide +kernel,rfl,by decide +kernel,by decide +kernel⟩ rfl c cs (by decide) (λ_=>rfl) (λX hN hS=>pv 0 (by rw[hN];rfl) (by rw[hS];exact Or.inl rfl)) (λX hN hS=>pv 1 (by rw[hN];rfl) (by rw[hS];exact Or.inl rfl))
def bF:List Str:=["world", "row", "here", "back", "number", "deed"]
theorem QG:FnScope bF ["world", "row"] (AC JI):=⟨rfl,rfl,rfl,by decide +kernel,rfl,by decide +kernel,by decide +kernel⟩
section
local macro_rules | `(tactic| walk_at "x")=>`(tactic| first | ((with_reducible show PI _ _ (.Call (.Name (a0Q "enumerate") _) ..) _);exact @qQ _ K _ _ _ _ _ _ _ rfl rfl cu (by walk_at "a") (by rfl)) | ((with_reducible show PG _ (.Tuple ..) _);exact @kC _ K _ _ _ _ (2) rfl rfl (by walk_at "j") (by rfl) (by rfl)) | ((with_reducible show PS _ (.Try ..) _);exact @tK _ _ _ _ _ _ _ _ _ _ _ _ _ _ _ _ _ _ _ _ _ _ _ _ _ _ _ _ _ _ _ rfl rfl rfl rfl rfl rfl rfl cn.cls cq.cls i_ (hr.mono (by decide)) rfl rfl rfl (λa=>(by walk_at "a")) (λpn R=>(by walk_at "q")) (by decide) (by decide) (by decide) (by rfl)))
theorem bG {f:Addr}{fd:FuncData}{uy aj ac ak:Addr}(F:Fun K "walked" "walked" JI f fd) (cu:mg "enumerate"=none) (i_:HasRA P w K mg base "NoRow" "number" ac uy) (cn:HasN K mg "NoDeed" aj uy) (qb:HasR P w K mg base "NoRow" "number" ac uy) (cq:HasR P w K mg base "NotNow" "name" ak uy) (ig:HasX P w K mg base "back_deed" 7 ["world", "deed"] (DW aj ak)) (ax:Has P w K mg base "by_names" 1 ["world"] CM) (uz:Has P w K mg base "done" 7 ["world", "deed"] RE) (aq:Has P w K mg base "rising_by_names" 1 ["things"] B3):FnOk P w K mg base (CXE P w) 8 f fd ["world", "row"] (spX K 2 (KF ac NQ)):=by
 refine fZ F QG λcdv A outer s H E hr=>?_;have hu:=hr.units;have nd:=QG.nd;refine⟨_,by walk_at "b2", ?_⟩;clear nd;rintro xs M hl ⟨w,ds,rfl,hP⟩;have hw:=hP.fine;have af:=hP.few;unfold KD;walk_at "r";refine EX ⟨hw.1.nodup,by lia⟩ λp hp=>?_;walk_at "r";refine KQ zU hw.1.nodup (by lia) ?_;rw[ZY hw.1];walk_at "r";refine IX ?_;walk_at "r";intro A hA;have vw:p≠A:=by rintro rfl;rw[zU] at hA;cases hA
 have Ka:M A=none:=by rw[yH vw.symm] at hA;exact hA
 walk_at "wks";refine fY ?_;refine h8 ?_;walk_at "r";have hle:(KU ds).length=ds.length:=by unfold KU;rw[zX,List.length_zipIdx]
 refine⟨λk ρ1 M1=>∃(Ds:List Deed) (x1 x2:Option DS),k<=ds.length/\Ds.length=k/\BV w (ds.take k) Ds/\M1=(M.put p (tsO w)).put A (.l ((bkS w Ds).map Deed.d))/\ρ1=[some (.d (wD w)),some (.d (.tuple ds)),some (.d (wD (CB w Ds))),some (.loc A),x1,x2],⟨[],_,_,xU _,rfl,⟨rfl,trivial⟩,rfl,rfl⟩,?_,?_⟩
 . rintro k d ρ1 M1 hd ⟨Ds,x1,x2,hk,iu,hb,rfl,rfl⟩;have wj:k < ds.length:=by rw[<-hle];exact(yT.mp hd).1
   have hD:ds[k]?=some ds[k]:=zV wj;obtain rfl:d = .tuple [.int (k:Nat),ds[k]]:=by unfold KU at hd;rw[zF,List.getElem?_zipIdx,hD] at hd;simpa using hd.symm
   obtain⟨f1,f2⟩:=NS hP iu hb hk;have ha:=hP.ask _ (a4X wj);generalize ds[k]=d at hD ha;walk_at "r";refine lQ λR'=>?_;refine fX (YB (qU ?_));walk_at "dl";refine⟨FP zU,?_⟩;refine g9 (CY ?_);walk_at "r";refine UY f2 ha (λD g=>?_) λC fs hf=>?_
   . obtain⟨rfl,hr,hn⟩:=id g;have hg:goD (CB w Ds) D:=⟨f2,hr,hn⟩
     refine g6 (cL ?_);refine CJ zU (by rw[zX,YL];exact zP (show _ < 60 by lia) (by decide)) ?_;refine DH ?_;walk_at "r";refine ZZ hg ?_;refine⟨Ds++[D],some (.d (.int (k:Nat))),some (.d D.d),by lia,by rw[yY,iu];rfl,⟨by rw[b0K,hD,hb.1,xJ];rfl,NN.mpr ⟨hb.2,hg,trivial⟩⟩,?_,?_⟩;. rw[yI,YK,xJ];rfl
     . rw[RU];rfl
   . have c_:EY w ds k:=by
       rcases hf with ⟨E,z,rfl,hr,hz,_⟩ | ⟨hn,_⟩
       . exact⟨Ds,iu,hb,_,hD,.inr ⟨E,rfl,hr,by rw[hz];exact Option.some_ne_none z⟩⟩
       . exact⟨Ds,iu,hb,_,hD,.inl hn⟩
     have vE:∀z',fs≠[(a0Q "number", z')]:=by
       rcases hf with ⟨E,z,_,_,_,_,rfl⟩ | ⟨_,_,rfl⟩
       . intro z' e;unfold nnX at e;injection e with e;injection e with e;exact absurd e (by decide +kernel)
       . intro z' e;cases e
     refine⟨by rcases hf with ⟨_,_,_,_,_,rfl,_⟩ | ⟨_,rfl,_⟩;exact .inr rfl;exact .inl rfl,vE,?_⟩;walk_at "r";refine⟨M,((zT M).put hp).put Ka,λw' ip e=>?_⟩;obtain⟨rfl,rfl⟩:=FJ e;exact⟨k,c_,rfl,rfl,rfl⟩
 . rintro ρ1 M1 ⟨Ds,x1,x2,hk,iu,hb,rfl,rfl⟩;rw[hle] at hb iu;rw[a3J] at hb;refine DH ?_;refine F6 (i:=3) (a:=A) rfl zU ?_;rw[yG hA];walk_at "r";refine⟨M,(zT M).put hp,λw' ip e=>?_⟩;obtain⟨rfl,rfl⟩:=FJ e;refine⟨Ds,hb,?_,rfl⟩;unfold NQ;rw[hU]
end
def mE:List Str:=["world", "row"]
theorem YW:FnScope mE ["world", "row"] (AC RZ):=⟨rfl,rfl,rfl,by decide +kernel,rfl,by decide +kernel,by decide +kernel⟩
theorem mF {f:Addr}{fd:FuncData}{ac:Addr}(F:Fun K "gone" "gone" RZ f fd) (dw:HasX P w K mg base "walked" 8 ["world", "row"] (KF ac NQ)):FnOk P w K mg base (CXE P w) 9 f fd ["world", "row"] (spX K 2 (KF ac YQ)):=by
 refine fZ F YW λcdv A outer s H E hr=>?_;have hu:=hr.units;have nd:=YW.nd;refine⟨_,by walk_at "b1", ?_⟩;clear nd;rintro xs M hl ⟨w,ds,rfl,hP⟩;unfold KD;refine WM (i4 (CY ?_));walk_at "r";refine HG hP (λDs hb=>?_) λi hi=>?_;. walk_at "r";unfold NQ;refine AB (d:=wD (CB w Ds)) rfl ?_;refine⟨M,zT M,λw' ip e=>?_⟩;obtain⟨rfl,rfl⟩:=FJ e;exact⟨Ds,hb,rfl,rfl⟩
 . refine⟨M,zT M,λw' ip e=>?_⟩;obtain⟨rfl,rfl⟩:=FJ e;exact⟨i,hi,rfl,rfl,rfl⟩
def iE:List Str:=["world", "row"]
theorem VD:FnScope iE ["world", "row"] (AC M8):=⟨rfl,rfl,rfl,by decide +kernel,rfl,by decide +kernel,by decide +kernel⟩
section
local macro_rules | `(tactic| walk_at "x")=>`(tactic| first | ((with_reducible show PE _ (.Call (.Name (a0Q "tuple") _) [.Call ..] ..) _);exact @aV _ K _ _ _ _ _ _ rfl (by walk_at "e") hr.hd rfl dm rfl ao (by rfl) (by rfl)))
theorem iF {f:Addr}{fd:FuncData}{ac:Addr}(F:Fun K "backs" "backs" M8 f fd) (dm:mg "reversed"=none) (ao:mg "tuple"=none) (dw:HasX P w K mg base "walked" 8 ["world", "row"] (KF ac NQ)):FnOk P w K mg base (CXE P w) 9 f fd ["world", "row"] (spX K 2 (KF ac NR)):=by
 refine fZ F VD λcdv A outer s H E hr=>?_;have hu:=hr.units;have nd:=VD.nd;refine⟨_,by walk_at "b1", ?_⟩;clear nd;rintro xs M hl ⟨w,ds,rfl,hP⟩;unfold KD;refine WM (WY (i4 (CY ?_)));walk_at "r";refine HG hP (λDs hb=>?_) λi hi=>?_;. walk_at "r";unfold NQ;refine AB (d:=.list (bkL w Ds Ds.length)) rfl ?_;refine⟨_,rfl,?_⟩;refine⟨M,zT M,λw' ip e=>?_⟩;obtain⟨rfl,rfl⟩:=FJ e;unfold NR;rw[hU,<-List.map_reverse];exact⟨Ds,hb,rfl,rfl⟩
 . refine⟨M,zT M,λw' ip e=>?_⟩;obtain⟨rfl,rfl⟩:=FJ e;exact⟨i,hi,rfl,rfl,rfl⟩
end
def JU:List Str:=["_law_there_here"]
def GY:List Str:=["_law_name", "_law_there_here"]
def GZ:List (Option Nat):=[none,some 0]
theorem O8:GY.Nodup:=by decide +kernel
theorem JV:FnScope JU ["_law_there_here"] (AC D3):=⟨rfl,rfl,rfl,by decide +kernel,rfl,by decide +kernel,by decide +kernel⟩
section
local macro_rules | `(tactic| walk_at "cs")=>`(tactic| first | exact @RI _ _ GY GZ (AC D3) JU (by decide +kernel) (by decide +kernel) rfl rfl)
local macro_rules | `(tactic| walk_at "y")=>`(tactic| first | ((with_reducible show PE _ (.Subscript ..) _);exact @DC _ _ _ _ _ _ fq (@pv _ 1 _ _ (by rfl) (by walk_at "lc") (by decide) (by decide)) (@pv _ 0 _ _ (by rfl) (by walk_at "lc") (by decide) (by decide)) (λ_ _=>rfl)))
theorem SM {f:Addr}{fd:FuncData}(F:Fun K "_law_told" "_law_told" D3 f fd) (bp:mg "sorted"=none) (ao:mg "tuple"=none):FnOk P w K mg base CX0 1 f fd ["_law_there_here"] (spD K 1 GQ):=by
 refine fnD F JV λcdv A outer s H E hr=>?_;have hu:=hr.units;have fq:=zQ (a2V (show 1<=64 by decide) _) hu;have nd:=JV.nd;have n0:=O8;refine⟨_,by walk_at "b1", ?_⟩;clear nd n0;rintro xs M hl ⟨v,rfl,nd,Kb⟩;have fin:∀{d:PyData},d=wD (AW v)->∃M2:Own,M2.Sub M/\GQ.post [.d (wQ v)] M (.d d) M2:=λ{d} h=>⟨M,zT M,λv' e=>by simp only[List.cons.injEq,DS.d.injEq,and_true] at e;obtain rfl:=gZ e;rw[h];exact⟨rfl,rfl⟩⟩
 walk_at "r";refine BH (C0 0) (by simp[GZ]) ?_;refine BN ?_;walk_at "r";unfold wQ;refine i7 (by unfold tsD;rw[zX];lia) λss hp hs=>?_;rw[show(tsD v).map (·.1)=v.map (·.1) by unfold tsD;rw[zD];rfl] at hp;have af:ss.length=v.length:=by have:=hp.length_eq;simpa using this
 refine⟨_,rfl,by rw[zX,af];exact zP Kb (by decide),λ_=>true,Q5 v,?_,?_⟩
 . rintro d hd A acc M' hA rfl;obtain⟨s,Bc,rfl⟩:=zL.mp hd;obtain⟨t,ht,et⟩:=zL.mp (hp.mem_iff.mp Bc);have li:AE v s=some t.2:=by rw[<-et];exact C7 nd ht
   walk_at "r";refine⟨rfl,?_⟩;walk_at "dl";refine⟨rfl,rfl,λ_=>?_⟩;walk_at "r";refine eU ?_;walk_at "r";refine⟨tsD v,s,pcD t.2.1 t.2.2,rfl,rfl,by rw[AI,li];rfl,?_⟩;refine J0 (yD rfl) ?_;refine⟨?_,rfl⟩;simp only[Q5,li];rfl
 . rw[a6,Q6 nd hp hs];walk_at "r";refine LO ?_;exact fin rfl
end
def VE:List Str:=["_law_world_here", "_law_row_here", "_law_spoilt", "_law_there_here", "_law_k"]
theorem LB:FnScope VE ["_law_world_here", "_law_row_here", "_law_spoilt"] (AC G2):=⟨rfl,rfl,rfl,by decide +kernel,rfl,by decide +kernel,by decide +kernel⟩
theorem VF {f:Addr}{fd:FuncData}(F:Fun K "_law_due" "_law_due" G2 f fd) (bi:mg "len"=none) (ay:mg "range"=none) (bt:Has P w K mg base "_law_can" 2 ["_law_there_here", "_law_deed_here"] HF) (bj:Has P w K mg base "_law_step" 1 ["_law_there_here", "_law_deed_here"] FI) (bb:Has P w K mg base "_law_there" 1 ["_law_world_here"] FH) (ii:Has P w K mg base "_law_told" 1 ["_law_there_here"] GQ):FnOk P w K mg base CX0 3 f fd ["_law_world_here", "_law_row_here", "_law_spoilt"] (spD K 3 JG):=by
 refine fnD F LB λcdv A outer s H E hr=>?_;have hu:=hr.units;have nd:=LB.nd;refine⟨_,by walk_at "b2", ?_⟩;clear nd;rintro xs M hl ⟨ys,w,ds,s,rfl,h⟩;have vy:=h.th;have qh:=h.few;have wu:=h.row;have Kc:=wu.few;have wN:=vy.few;unfold duX;have fin:∀{d:PyData},i9 w ds d->∃M2:Own,M2.Sub M/\JG.post (duX w ds s) M (.d d) M2:=λ{d} hd=>⟨M,zT M,λw' ip s' e=>by obtain⟨rfl,rfl⟩:=lY e;exact⟨⟨d,rfl,hd⟩,rfl⟩⟩
 walk_at "r";refine JE vy.nd (by lia) λp hp=>?_;walk_at "r";refine IC ?_;refine H0 ?_;walk_at "r";refine IY ?_;walk_at "r";refine⟨by lia,by lia,?_⟩;refine⟨λk ρ1 M1=>∃(Ds:List Deed) (w2:List Th) (x:DS) (x4:Option DS),Ds.length=k/\BV w (ds.take k) Ds/\Alk w2 (CB w Ds)/\There ys w2/\tI M M1 x w2/\ρ1=[some (.d (wD w)),some (.d (.tuple ds)),some (.d (.int s)),some x,x4],⟨[],w,_,_,rfl,⟨rfl,trivial⟩,⟨vy.nd,λ_=>rfl⟩,vy,.inr ⟨p,hp,rfl,rfl⟩,rfl⟩,?_,?_⟩
 . rintro k d ρ1 M1 hd ⟨Ds,w2,x,x4,iu,hg,yg,ql,ha,rfl⟩;obtain⟨wt,rfl⟩:=HB hd;have hk:ds[k]?=some ds[k]:=zV wt;have he:=h.els k _ hk;generalize ds[k]=d at hk he;have Bd:=ql.few;walk_at "dl";refine QC (i:=3) ha rfl ?_;walk_at "r";refine B0 rfl rfl ?_;rw[if_neg nft,JA];rcases he with ⟨e1,hn⟩ | ⟨e1,D,rfl,hD⟩
   . rw[decide_eq_true e1];walk_at "r";exact fin (.inl ⟨k,⟨Ds,iu,hg,_,hk,.inl hn⟩,rfl⟩)
   . rw[decide_eq_false e1];walk_at "r";refine AB (AA hk) ?_;walk_at "r";refine NM (w:=w2) isTD.d hD.1 ?_;cases hc:decide (AO (w2.map (·.1)) D=none) with
     | false=> walk_at "r";exact fin (.inl ⟨k,⟨Ds,iu,hg,_,hk,.inr ⟨D,rfl,hD.1,by rw[<-yg.amiss];exact of_decide_eq_false hc⟩⟩,rfl⟩)
     | true=>
       have hc:=of_decide_eq_true hc;have uj:goD w2 D:=⟨⟨ql.nd,by lia⟩,hD.1,hc⟩
       obtain⟨g1,g2,g3⟩:=i8 wu iu hg yg hk uj;walk_at "r";refine AB (AA hk) ?_;walk_at "r";refine KY (w:=w2) isTD.d uj (by lia) λr vX=>?_;walk_at "r";exact⟨Ds++[D],doT w2 D,.loc r,_,by rw[yY,iu];rfl,g1,g2,UP ql uj hD.2,.inr ⟨r,vX,rfl,rfl⟩,rfl⟩
 . rintro ρ1 M1 ⟨Ds,w2,x,x4,iu,hg,yg,ql,ha,rfl⟩;rw[GN] at iu hg;have hf:=(NS wu iu hg (zR _)).1;rw[a3J] at hg;have Bd:=ql.few;refine QC (i:=3) ha rfl ?_;walk_at "r";refine UX ql.nd (by lia) ?_;rw[Q7 yg.nd hf.1 yg.lk];walk_at "r";exact fin (.inr ⟨Ds,hg,rfl⟩)
def OV:List Str:=["_law_world_here", "_law_row_here", "_law_deeds_back", "_law_found", "_law_caught", "e"]
theorem F0:FnScope OV ["_law_world_here", "_law_row_here", "_law_deeds_back"] (AC DO):=⟨rfl,rfl,rfl,by decide +kernel,rfl,by decide +kernel,by decide +kernel⟩
section
local macro_rules | `(tactic| walk_at "x")=>`(tactic| first | ((with_reducible show PS _ (.Try ..) _);exact @qN _ _ _ (5) _ _ _ _ _ _ _ _ _ _ rfl rfl rfl F0.nd rfl rfl rfl Be (λpn R=>(by walk_at "q")) (λa=>(by walk_at "q")) (by decide)))
theorem OW {f:Addr}{fd:FuncData}{uy ac:Addr}(F:Fun K "_law_asked" "_law_asked" DO f fd) (Be:mg "StrikeError"=some (.ref uy)) (Bf:XTop K uy) (ze:XM K ac uy) (qc:HasX P w K mg base "backs" 9 ["world", "row"] (KF ac NR)) (u_:HasX P w K mg base "gone" 9 ["world", "row"] (KF ac YQ)):FnOk P w K mg base CX0 10 f fd ["_law_world_here", "_law_row_here", "_law_deeds_back"] (spD K 3 (DY ac)):=by
 refine fnD F F0 λcdv A outer s H E hr=>?_;have hu:=hr.units;have nd:=F0.nd;refine⟨_,by walk_at "b2", ?_⟩;clear nd;rintro xs M hl ⟨w,ds,b,rfl,hQ⟩;unfold aqX;walk_at "r";refine gC λR=>?_;refine n4 ?_;walk_at "r";cases b
 . rw[if_neg nft];refine WN (CY ?_);walk_at "r";refine HG hQ (λDs hg=>?_) λi hi=>⟨ac,rfl,ze,λa ha=>?_⟩
   . walk_at "r";refine⟨M,zT M,λw' ip b' e=>?_⟩;obtain⟨rfl,rfl,rfl⟩:=LZ (b:=_) e;exact .inl ⟨Ds,hg,rfl,rfl⟩
   . repeat first | (with_reducible refine YJ ?_) | walk_at "dl"
     refine⟨[.none],a,rfl,by show 1 < sizeLine;decide,?_⟩;refine⟨_,zT _,λw' ip b' e=>?_⟩;obtain⟨rfl,rfl,rfl⟩:=LZ (b:=_) e;exact .inr ⟨i,a,hi,ha,rfl,rfl⟩
 . rw[if_pos rfl];refine WN (CY ?_);walk_at "r";refine HG hQ (λDs hg=>?_) λi hi=>⟨ac,rfl,ze,λa ha=>?_⟩
   . walk_at "r";refine⟨M,zT M,λw' ip b' e=>?_⟩;obtain⟨rfl,rfl,rfl⟩:=LZ (b:=_) e;exact .inl ⟨Ds,hg,rfl,rfl⟩
   . repeat first | (with_reducible refine YJ ?_) | walk_at "dl"
     refine⟨[.none],a,rfl,by show 1 < sizeLine;decide,?_⟩;refine⟨_,zT _,λw' ip b' e=>?_⟩;obtain⟨rfl,rfl,rfl⟩:=LZ (b:=_) e;exact .inr ⟨i,a,hi,ha,rfl,rfl⟩
end
def IP:List Str:=["_law_some"]
theorem ED:FnScope IP [] (AC BC):=⟨rfl,rfl,rfl,by decide +kernel,rfl,by decide +kernel,by decide +kernel⟩
theorem IQ {f:Addr}{fd:FuncData}(F:Fun K "_law_odd_things" "_law_odd_things" BC f fd):FnOk P w K mg base CX0 1 f fd [] (spD K 0 M0):=by refine fnD F ED λcdv A outer s H E hr=>?_;have hu:=hr.units;have nd:=ED.nd;refine⟨_,by walk_at "b2", ?_⟩;clear nd;rintro xs M hl rfl;walk_at "wkd";refine MQ (by show 11<=sizeLine;decide) ?_;walk_at "wkd";refine MQ (by show 18<=sizeLine;decide) ?_;exact⟨M,zT M,rfl,rfl⟩
def LJ:List Str:=["_law_caught", "_law_number_here"]
theorem GC:FnScope LJ ["_law_caught", "_law_number_here"] (AC CF):=⟨rfl,rfl,rfl,by decide +kernel,rfl,by decide +kernel,by decide +kernel⟩
section
local macro_rules | `(tactic| walk_at "x")=>`(tactic| first | ((with_reducible show PE _ (.Name ..) _);exact @AL _ _ _ _ rfl dy (by decide)) | ((with_reducible show PE _ (.Name ..) _);exact @AL _ _ _ _ rfl dz (by decide)) | ((with_reducible show PE _ (.Name ..) _);exact @AL _ _ _ _ rfl d_ (by decide)) | ((with_reducible show PE _ (.Name ..) _);exact @AL _ _ _ _ rfl bq (by decide)) | ((with_reducible show PE _ (.Name ..) _);exact @AL _ _ _ _ rfl ee (by decide)) | ((with_reducible show PE _ (.Name ..) _);exact @AL _ _ _ _ rfl ef (by decide)) | ((with_reducible show PE _ (.Name ..) _);exact @AL _ _ _ _ rfl iw (by decide)) | ((with_reducible show PE _ (.Name ..) _);exact @AL _ _ _ _ rfl eh (by decide)) | ((with_reducible show PE _ (.Name ..) _);exact @AL _ _ _ _ rfl er (by decide)) | ((with_reducible show PE _ (.Name ..) _);exact @AL _ _ _ _ rfl eu (by decide)) | ((with_reducible show PE _ (.Name ..) _);exact @AL _ _ _ _ rfl dg (by decide)) | ((with_reducible show PE _ (.Name ..) _);exact @AL _ _ _ _ rfl e_ (by decide)) | ((with_reducible show PE _ (.Name ..) _);exact @AL _ _ _ _ rfl br (by decide)) | ((with_reducible show PE _ (.Attribute ..) _);exact @tF _ K _ _ _ _ rfl (by walk_at "e") rfl))
local macro_rules | `(tactic| walk_at "y")=>`(tactic| first | ((with_reducible show PE _ (.Call (.Name (a0Q "isinstance") _) [_,.Name ..] ..) _);exact @CU _ _ _ _ _ _ _ _ _ (@tE _ K rfl) (by rfl) ae a8Z (@AR _ _ _ _ _ (@pv _ 0 _ _ (by rfl) (by walk_at "lc") (by decide) (by decide)) (@AR _ _ _ _ _ (by walk_at "e") (@GH _) (by rfl)) (by rfl)) (by decide) (by decide) (by rfl) (by rfl)) | ((with_reducible show PE _ (.Call (.Name (a0Q "isinstance") _) [_,.Tuple ..] ..) _);exact @CU _ _ _ _ _ _ _ _ _ (@n6 _ K rfl) (by rfl) ae a8Z (@AR _ _ _ _ _ (@pv _ 0 _ _ (by rfl) (by walk_at "lc") (by decide) (by decide)) (@AR _ _ _ _ _ (@QM _ _ _ _ _ (@AR _ _ _ _ _ (@AL _ _ _ _ rfl dz (by decide)) (@AR _ _ _ _ _ (@AL _ _ _ _ rfl d_ (by decide)) (@AR _ _ _ _ _ (@AL _ _ _ _ rfl bq (by decide)) (@AR _ _ _ _ _ (@AL _ _ _ _ rfl ee (by decide)) (@AR _ _ _ _ _ (@AL _ _ _ _ rfl ef (by decide)) (@AR _ _ _ _ _ (@AL _ _ _ _ rfl iw (by decide)) (@GH _) (by rfl)) (by rfl)) (by rfl)) (by rfl)) (by rfl)) (by rfl))) (@GH _) (by rfl)) (by rfl)) (by decide) (by decide) (by rfl) (by rfl)) | ((with_reducible show PE _ (.Call (.Name (a0Q "isinstance") _) [_,.Tuple ..] ..) _);exact @CU _ _ _ _ _ _ _ _ _ (@n6 _ K rfl) (by rfl) ae a8Z (@AR _ _ _ _ _ (@pv _ 0 _ _ (by rfl) (by walk_at "lc") (by decide) (by decide)) (@AR _ _ _ _ _ (@QM _ _ _ _ _ (@AR _ _ _ _ _ (@AL _ _ _ _ rfl eh (by decide)) (@AR _ _ _ _ _ (@AL _ _ _ _ rfl er (by decide)) (@AR _ _ _ _ _ (@AL _ _ _ _ rfl eu (by decide)) (@AR _ _ _ _ _ (@AL _ _ _ _ rfl dg (by decide)) (@AR _ _ _ _ _ (@AL _ _ _ _ rfl e_ (by decide)) (@AR _ _ _ _ _ (@AL _ _ _ _ rfl br (by decide)) (@GH _) (by rfl)) (by rfl)) (by rfl)) (by rfl)) (by rfl)) (by rfl))) (@GH _) (by rfl)) (by rfl)) (by decide) (by decide) (by rfl) (by rfl)))
theorem LK {f:Addr}{fd:FuncData}{ll lm aj lp lq qd lr lu lz ac jv l_ ak:Addr}(F:Fun K "_law_refused" "_law_refused" CF f fd) (fb:mg "ValueError"=none) (kd:mg "bool"=none) (ae:mg "isinstance"=none) (dz:mg "NoBook"=some (.ref ll)) (d_:mg "NoCall"=some (.ref lm)) (bq:mg "NoDeed"=some (.ref aj)) (ee:mg "NoJoin"=some (.ref lp)) (ef:mg "NoLine"=some (.ref lq)) (iw:mg "NoLog"=some (.ref qd)) (eh:mg "NoMark"=some (.ref lr)) (er:mg "NoName"=some (.ref lu)) (eu:mg "NoNeed"=some (.ref lz)) (dy:mg "NoRow"=some (.ref ac)) (dg:mg "NoStand"=some (.ref jv)) (e_:mg "NoText"=some (.ref l_)) (br:mg "NotNow"=some (.ref ak)) (vz:XKit K ac) (qm:JX K ac "number") (uN:a3W K (.ref ac) (.ref ac)=some true) (uO:a3W K (.ref ac) (.type "ValueError")=some true) (uP:a7J K (.ref ac) (b7Z a0X [ll,lm,aj,lp,lq,qd])=some false) (uQ:a7J K (.ref ac) (b7Z a0X [lr,lu,lz,jv,l_,ak])=some false):FnOk P w K mg base CX0 1 f fd ["_law_caught", "_law_number_here"] (spD K 2 (EM ac)):=by
 refine fnD F GC λcdv A outer s H E hr=>?_;have hu:=hr.units;have nd:=GC.nd;refine⟨_,by walk_at "b2", ?_⟩;clear nd;rintro xs M hl ⟨a,i,rfl,m⟩;repeat first | (with_reducible refine lG ?_) | walk_at "dl"
 refine lE m vz uN ?_;walk_at "r";refine gI m vz uO ?_;repeat first | (with_reducible refine UW ?_) | walk_at "dl"
 refine⟨a,ac,_,false,rfl,m,vz,uP,?_⟩;repeat first | (with_reducible refine UW ?_) | walk_at "dl"
 refine⟨a,ac,_,false,rfl,m,vz,uQ,?_⟩;walk_at "r";refine YF ?_;walk_at "r";refine⟨a,ac,.int i,rfl,m,vz,qm,?_⟩;walk_at "r";refine B0 rfl rfl ?_;rw[if_neg nft,NI (d:=.int i) rfl];walk_at "r";refine YF ?_;walk_at "r";refine⟨a,ac,.int i,rfl,m,vz,qm,?_⟩;walk_at "r";exact⟨M,zT M,rfl,rfl⟩
end
def OX:List Str:=["_law_cell_here", "_law_xs", "_law_names_here", "_law_world_here", "_law_row_here", "_law_spoilt", "_law_odd", "_law_number_here", "_law_due_here", "_law_found", "_law_caught"]
theorem IA:FnScope OX ["_law_cell_here"] (AC DQ):=⟨rfl,rfl,rfl,by decide +kernel,rfl,by decide +kernel,by decide +kernel⟩
section
local macro_rules | `(tactic| walk_at "x")=>`(tactic| first | ((with_reducible show PE _ (.Call (.Name (a0Q "_law_odd_things") _) ..) _);exact @qV K _ P w mg base _ _ _ _ _ rfl rfl rfl rfl rfl av (hr.mono (by decide)) rfl (by decide)) | ((with_reducible show PS _ (.Assign [.Subscript ..] ..) _);exact @VI _ _ _ _ _ _ (by walk_at "e") (by walk_at "g") (by rfl) (by rfl) (by rfl)) | ((with_reducible show PG _ (.Subscript ..) _);exact @nQ _ _ _ _ _ _ _ (by walk_at "e") (by walk_at "e") (@c8 _) (by intro _;rfl)) | ((with_reducible show PS _ (.Assign [.Tuple ..] ..) _);exact @VI _ _ _ _ _ _ (by walk_at "e") (by walk_at "g") (by rfl) (by rfl) (by rfl)) | ((with_reducible show PG _ (.Tuple ..) _);exact @n3 _ K _ _ _ _ (2) rfl rfl (by walk_at "j") (by rfl) (by rfl)))
local macro_rules | `(tactic| walk_at "y")=>`(tactic| first | ((with_reducible show PE _ (.Call (.Name (a0Q "list") _) ..) _);exact @JY _ _ _ _ _ _ _ _ _ (@sU _ K rfl) (by rfl) ng PyProof.Rows.boot_list (by walk_at "a") (by decide) (by decide) (by rfl) (by rfl)))
theorem OY {f:Addr}{fd:FuncData}(F:Fun K "_law_right" "_law_right" DQ f fd) (ae:mg "isinstance"=none) (bi:mg "len"=none) (ng:mg "list"=none) (ao:mg "tuple"=none) (fe:Has P w K mg base "_law_asked" 10 ["_law_world_here", "_law_row_here", "_law_deeds_back"] (DY ac)) (ja:Has P w K mg base "_law_due" 3 ["_law_world_here", "_law_row_here", "_law_spoilt"] JG) (ff:Has P w K mg base "_law_names" 1 ["_law_xs", "_law_at", "_law_size"] HC) (av:Has P w K mg base "_law_odd_things" 1 [] M0) (cv:Has P w K mg base "_law_refused" 1 ["_law_caught", "_law_number_here"] (EM ac)) (jb:Has P w K mg base "_law_row" 3 ["_law_xs", "_law_at", "_law_size", "_law_names_here", "_law_there_here"] LY) (cw:Has P w K mg base "_law_stirred" 1 ["_law_cell_here", "_law_size"] EK) (bb:Has P w K mg base "_law_there" 1 ["_law_world_here"] FH) (fg:Has P w K mg base "_law_world" 2 ["_law_xs", "_law_at", "_law_names_here"] HD):FnOk P w K mg base CX0 11 f fd ["_law_cell_here"] (spD K 1 HE):=by
 refine fnD F IA λcdv A outer s H E hr=>?_;have hu:=hr.units;have nd:=IA.nd;refine⟨_,by walk_at "b2", ?_⟩;clear nd;rintro xs M hl ⟨c,rfl⟩;walk_at "r";refine RP (n:=74) (by decide) λL hL hok=>?_;have lx:∀i,i < L.length->(L.map b5W)[i]?=some (.int (L.getD i 0)):=λi hi=>by rw[zF,yU,zV hi];rfl
 have nat:∀(i:Nat) (m:Int),0 < m->∃k:Nat,L.getD i 0 % m=(k:Int)/\(k:Int) < m:=λi m hm=>⟨(L.getD i 0 % m).toNat,by have:=a4Q (L.getD i 0) (Int.ne_of_gt hm);lia,by have:=a4Q (L.getD i 0) (Int.ne_of_gt hm);have:=a7W (L.getD i 0) hm;lia⟩
 walk_at "r";refine RQ (a:=0) (n:=6) hok (by lia) (by decide) (by lia) λys hn K_=>?_;walk_at "r";refine RR (a:=2) hok (by lia) (by lia) hn (by lia) λw hw=>?_;have vy:There ys w:=⟨hw.1.1.nodup,hw.2⟩
 have wN:=vy.few;have vP:EI w:=⟨hw.1.1,λt ht=>⟨(hw.1.2 t ht).1,(hw.1.2 t ht).2.1,(hw.1.2 t ht).2.2.1⟩⟩
 walk_at "r";refine AK (AA (j:=72) (lx _ (by lia))) ?_;walk_at "r";obtain⟨n1,e1,K'⟩:=nat 72 13 (by decide);rw[e1];refine JE vy.nd (by lia) λp hp=>?_;walk_at "r";refine WR (a:=10) hok (by lia) (by lia) (by lia) hn (by lia) (by lia) zU vy λA La hA=>?_;walk_at "r";refine aY λq hq=>?_;have Kd:q≠p:=by rintro rfl;rw[zU] at hq;cases hq
 have Dz:M q=none:=by rw[yH Kd] at hq;exact hq
 walk_at "wks";walk_at "dl";walk_at "dl";walk_at "wks";have yh:w.length+A.length < 60:=by lia
 have yi:∀d∈A.map Deed.d,QD d:=λd hd=>by obtain⟨D,hD,rfl⟩:=zL.mp hd;exact .inl ⟨D,rfl,(hA D hD).1⟩
 refine dR (λρ1 M1=>∃(ds:List PyData) (s:Int) (x6:Option DS),M1=(M.put p (tsO w)).put q (.l ds)/\Due15 ys w ds s/\ρ1=[some (.d (.int c)),some (.d (.list (L.map .int))),some (.d (CH ys)),some (.d (wD w)),some (.loc q),some (.d (.int s)),x6,none,none,none,none]) ?_ ?_
 . have Bg:Due15 ys w (A.map Deed.d) (-1):=⟨vy,by lia,⟨vP,by rw[zX];exact yh,yi⟩,λk d hd=>.inr ⟨by lia,by
     rw[zF] at hd;cases e:A[k]? with
     | none=>rw[e] at hd;cases hd
     | some D=>rw[e] at hd;cases hd;exact⟨D,rfl,hA D (yN e)⟩⟩⟩
   walk_at "r";refine AK (AA (j:=73) (lx _ (by lia))) ?_;walk_at "r";obtain⟨n2,e2,Ck⟩:=nat 73 8 (by decide);rw[e2];refine B0 rfl rfl ?_;rw[if_neg nft,JA];cases decide ((n2:Int)=1) with
   | false=> walk_at "r";exact⟨_,_,none,rfl,Bg,rfl⟩
   | true=>
     walk_at "r";walk_at "wkd";refine pW zU (b:=.list []) (OK (WW λD hD=>(hA D hD).1)) (by decide) ?_;rw[if_pos rfl];by_cases hA0:A=[];. subst hA0;rw[show(!a1Z (.list (b7Z Deed.d [])) (.list []))=false from rfl];walk_at "r";exact⟨_,_,none,rfl,Bg,rfl⟩
     . have Lb:0 < A.length:=List.length_pos_iff.mpr hA0;rw[show(!a1Z (.list (A.map Deed.d)) (.list []))=true by(cases A with | nil=>exact absurd rfl hA0 | cons D B=>rfl)];have yj:∀(x m:Int),0 < m->∃k:Nat,x % m=(k:Int)/\(k:Int) < m:=λx m hm=>⟨(x % m).toNat,by have:=a4Q x (Int.ne_of_gt hm);lia,by have:=a4Q x (Int.ne_of_gt hm);have:=a7W x hm;lia⟩
       walk_at "r";refine X0 ?_;walk_at "r";refine AK (AA (j:=73) (lx _ (by lia))) ?_;walk_at "r";refine k6 zU ?_;walk_at "r";rw[zX];obtain⟨j,ej,hj⟩:=yj (L.getD 73 0/8) A.length (by lia);refine T3 (by lia) ?_;rw[ej];walk_at "r";refine AK (AA (j:=73) (lx _ (by lia))) ?_;walk_at "r";refine LN ?_;walk_at "r";obtain⟨j2,Ke,Lc⟩:=yj (L.getD 73 0/128) NV.length (by decide);rw[Ke];have D_:j2 < NV.length:=by lia
       have Ea:j < A.length:=by lia
       refine AK (AA (zV D_)) ?_;have ww:=iA _ (a4X D_);generalize NV[j2]=od at ww;refine⟨_,rfl,?_⟩;walk_at "r";refine⟨q,_,_,j,rfl,rfl,zU,by rw[zX];exact tP Ea,?_⟩;rw[yI];refine⟨(A.map Deed.d).set j od,(j:Int),_,rfl,⟨vy,by lia,⟨vP,by rw[b0Q,zX];exact yh,λd hd=>?_⟩,λk d hd=>?_⟩,rfl⟩
       . rcases List.mem_or_eq_of_mem_set hd with h | rfl;. exact yi d h
         . exact .inr ww
       . rw[b0W] at hd;by_cases vB:j=k;. subst vB;rw[if_pos rfl,if_pos (by rw[zX];exact Ea)] at hd;cases hd;exact .inl ⟨rfl,ww⟩
         . rw[if_neg vB] at hd;refine .inr ⟨λh=>vB (by lia),?_⟩;rcases Bg.els k d hd with ⟨h,_⟩ | ⟨_,h⟩
           . lia
           . exact h
 . rintro ρ1 M1 ⟨ds,s,x6,rfl,hD,rfl⟩;walk_at "r";refine fM zU ?_;walk_at "r";refine W6 ?_;walk_at "r";refine WZ hD λd hd=>?_;rcases hd with ⟨i,c_,rfl⟩ | ⟨Ds,hg,rfl⟩
   . walk_at "r";refine lL ?_;walk_at "r";refine NU hD.row c_ λa ha=>?_;refine⟨_,_,rfl,rfl,h9 (lK ?_)⟩;walk_at "r";refine TK ?_;walk_at "r";refine GR zU ?_;walk_at "r";refine NU (b:=true) hD.row c_ λa2 ud=>?_;walk_at "r";refine lS rfl ?_;walk_at "r";refine GR zU ?_;have h1:a≠q:=by rintro rfl;rw[zU] at ha;cases ha
     rw[yH h1] at ha;have h2:a≠p:=by rintro rfl;rw[zU] at ha;cases ha
     rw[yH h2] at ha;have h3:a2≠a:=by rintro rfl;rw[zU] at ud;cases ud
     rw[yH h3] at ud;have h4:a2≠q:=by rintro rfl;rw[zU] at ud;cases ud
     rw[yH h4] at ud;have h5:a2≠p:=by rintro rfl;rw[zU] at ud;cases ud
     rw[yH h5] at ud;exact⟨M,((((zT M).put hp).put Dz).put ha).put ud,rfl,rfl⟩
   . have wI:zH (wD (CB w Ds))=true:=aO (NS hD.row rfl (by rw[<-zX (f:=Deed.d),<-hg.1,a3J];exact hg) (by rw[hg.1,zX];exact zR _)).1;have ea:qX false w Ds=wD (CB w Ds):=rfl;walk_at "r";refine W6 ?_;walk_at "r";refine NT hD.row hg ?_;rw[ea];walk_at "r";refine TK ?_;walk_at "r";refine RC ?_;walk_at "r";refine B0 wI wI ?_;rw[if_neg nft,NI wI];walk_at "r";refine NT hD.row hg ?_;rw[ea];walk_at "r";refine AB (d:=wD (CB w Ds)) rfl ?_;walk_at "r";refine B0 wI wI ?_;rw[if_neg nft,NI wI];exact⟨M,((zT M).put hp).put Dz,rfl,rfl⟩
end
def r9:List Str:=["_law_script", "_law_cell_here"]
theorem iG:FnScope r9 ["_law_script"] (AC YT):=⟨rfl,rfl,rfl,by decide +kernel,rfl,by decide +kernel,by decide +kernel⟩
theorem rA {f:Addr}{fd:FuncData}(F:Fun K "law" "law" YT f fd) (ij:Has P w K mg base "_law_cell" 1 ["_law_script", "_law_k"] JB) (fh:Has P w K mg base "_law_right" 11 ["_law_cell_here"] HE):FnOk P w K mg base CX0 12 f fd ["_law_script"] (spD K 1 Q1):=by
 refine fnD F iG λcdv A outer s H E hr=>?_;have hu:=hr.units;have nd:=iG.nd;refine⟨_,by walk_at "b2", ?_⟩;clear nd;rintro xs M hl ⟨ns,rfl,wO,vJ⟩;have fin:∀{M1:Own},M.Sub M1->∃M2:Own,M2.Sub M1/\Q1.post [.d (.list (ns.map .int))] M (.d (.bool true)) M2:=λh=>⟨M,h,rfl⟩
 walk_at "r";refine IC ?_;refine BN ?_;walk_at "r";refine GK ?_;walk_at "r";refine UM (k:=0) λc0=>?_;walk_at "r";refine ZG ?_;rw[show FQ (ns.map b5W) (some 1) (some 10)=((ns.take 10).drop 1).map .int from(R9 _ 1 10).trans (by rw[List.map_drop,List.map_take])];refine MQ (by rw[zX];exact zN (show _<=200 by rw[b3W,a2Q];simp;lia) (by decide)) ?_;refine⟨_,rfl,λk ρ1 M1=>M1=M/\∃x1:Option DS,ρ1=[some (.d (.list (ns.map .int))),x1],⟨rfl,_,rfl⟩,?_,?_⟩
 . rintro k d ρ1 M1 hd ⟨rfl,x1,rfl⟩;obtain⟨c,rfl⟩:∃c:Int,d = .int c:=by
     rcases yW.mp (yN hd) with h | h;. exact⟨c0,List.mem_singleton.mp h⟩
     . obtain⟨c,_,rfl⟩:=zL.mp h;exact⟨c,rfl⟩
   walk_at "r";refine RT ?_;walk_at "r";exact⟨rfl,_,rfl⟩
 . rintro ρ1 M1 ⟨rfl,x1,rfl⟩;walk_at "r";exact fin (zT _)
end
end DL
namespace DL
open PySem PySem.Spec L2 XC
theorem VG {P:Program}{w:World}{K:Frg}{mg:Str->Option Value}{base:Heap}{f C S:Addr}{fd:FuncData}(F:Fun K "__init__" "NoRow.__init__" B8 f fd) (c:XCls K C S (.ref f)) (cs:XSet K C "number"):FnOkA P w K mg base 1 f fd ["self", "number"] (D8 C "number"):=
 hX F ⟨rfl,rfl,rfl,by decide +kernel,rfl,by decide +kernel,by decide +kernel⟩ rfl c cs (by decide) (λ_=>rfl) (λX hN hS=>pv 0 (by rw[hN];rfl) (by rw[hS];exact Or.inl rfl)) (λX hN hS=>pv 1 (by rw[hN];rfl) (by rw[hS];exact Or.inl rfl))
local macro_rules | `(tactic| walk_at "b0")=>`(tactic| exact λ_ _ _ _ _ _ us hl=>match us,hl with | [],_=>rfl)
local macro_rules | `(tactic| walk_at "b1")=>`(tactic| exact λ_ _ _ _ _ _ us hl=>match us,hl with | [_],_=>rfl)
local macro_rules | `(tactic| walk_at "b2")=>`(tactic| exact λ_ _ _ _ _ _ us hl=>match us,hl with | [_,_],_=>rfl)
local macro_rules | `(tactic| walk_at "b3")=>`(tactic| exact λ_ _ _ _ _ _ us hl=>match us,hl with | [_,_,_],_=>rfl)
local macro_rules | `(tactic| walk_at "b4")=>`(tactic| exact λ_ _ _ _ _ _ us hl=>match us,hl with | [_,_,_,_],_=>rfl)
local macro_rules | `(tactic| walk_at "b5")=>`(tactic| exact λ_ _ _ _ _ _ us hl=>match us,hl with | [_,_,_,_,_],_=>rfl)
set_option hygiene false in
local macro_rules | `(`hhh)=>`(Has l.prog w K mg base _ _ _ _)
theorem rB {l:PySem.W.OpenLaw}{w:World}{K:Frg}{h:Heap}{mg:Str->Option Value}{fa:Addr}{qo:Addr}{kf:Addr}{uR:Nat}{nh ni:Tok}{nj nq:Tok}{nr nu:Tok}{nv nz:Tok}{n_ og:Tok}{oh oi:Tok}{oj om:Tok}{kg:Tok}{qp:Tok}{jc:Tok}{aw uS:Addr}{qr bq:Str}{qt qu:List Value}{qv:List Str}{qw:Bool}{qx:Option Bool}{qy:Option Addr}{qz q_ rb rf rg:Option Value}{ag vF:Addr}{uT dy:Str}{uU uV:List Value}{uW:List Str}{uX:Bool}{uY:Option Bool}{uZ:Option Addr}{vb vc vd ve vf:Option Value}{bg:Addr}{rh rk:Option Addr}{rl:Array (Option Value)}{rm rn rq rz jw r_:Value}{ap vg:Addr}{sd br:Str}{se sf:List Value}{sg:List Str}{sh:Bool}{sj:Option Bool}{sk:Option Addr}{sr su s_ tf tm:Option Value}{be:Addr}{oo oq:Option Addr}{ot:Array (Option Value)}{ou ow oy oz jd o_:Value}{l':Addr}{ma:Addr}{md:Addr}{me:Addr}{qe:Addr}{mf:Addr}{mh:Addr}{mi:Addr}{jx:Addr}{mj:Addr}{Bh Kf:Str}{Kg:Addr}{Bi Bj:List Value}{Bk:List Str}{Bl:Bool}{Bm:Option Bool}{Bn:Option Addr}{Bo Bp Bq Br Bt:Option Value} (X:K.In h) (G:h.Ns mainGlobals mg) (Kh:mg "law"=some (.ref fa)) (b0:FnIn K "_law_cell" EN) (b1:FnIn K "_law_stirred" CC) (b2:FnIn K "_law_names" CD) (b3:FnIn K "_law_place" DJ) (b4:FnIn K "_law_number" CQ) (b5:FnIn K "_law_pick" EO) (b6:FnIn K "_law_world" DK) (b7:FnIn K "_law_there" DN) (b8:FnIn K "_law_wanted" CS) (b9:FnIn K "_law_made" EQ) (Eb:FnIn K "_law_can" E7) (Ec:FnIn K "_law_step" ER) (Ed:FnIn K "_law_deed" BX) (Ee:FnIn K "_law_row" FY) (Ef:FnIn K "is_whole" FZ) (Eg:FnIn K "is_name" FK) (Eh:FnIn K "is_within" ES) (Ei:FnIn K "is_place" G0) (Ej:FnIn K "form_of" HH) (Ek:FnIn K "fits" RX) (xY:FnIn K "names_in" G1) (ya:FnIn K "is_deed" FL) (El:FnIn K "made_by" HI) (Em:FnIn K "by_names" E8) (En:FnIn K "rising_by_names" B5) (Eo:FnIn K "add_count" ET) (Ep:FnIn K "refuse_undoable" BB) (Er:FnIn K "change" JH) (Et:FnIn K "done" RY) (Eu:FnIn K "back_deed" EU) (Ew:FnIn K "walked" JI) (Ex:FnIn K "gone" RZ) (Ey:FnIn K "backs" M8) (Ez:FnIn K "_law_told" D3) (E_:FnIn K "_law_due" G2) (Fb:FnIn K "_law_asked" DO) (Fc:FnIn K "_law_odd_things" BC) (Fd:FnIn K "_law_refused" CF) (Fe:FnIn K "_law_right" DQ) (Ff:FnIn K "law" YT) (b_:a0Z K mainGlobals "ValueError"=some none) (vh:a0Z K mainGlobals "all"=some none) (vi:a0Z K mainGlobals "any"=some none) (pb:a0Z K mainGlobals "bool"=some none) (pd:a0Z K mainGlobals "dict"=some none) (cx:a0Z K mainGlobals "enumerate"=some none) (vj:a0Z K mainGlobals "int"=some none) (cb:a0Z K mainGlobals "isinstance"=some none) (vk:a0Z K mainGlobals "len"=some none) (pf:a0Z K mainGlobals "list"=some none) (kh:a0Z K mainGlobals "range"=some none) (dn:a0Z K mainGlobals "reversed"=some none) (je:a0Z K mainGlobals "sorted"=some none) (vm:a0Z K mainGlobals "str"=some none) (ki:a0Z K mainGlobals "tuple"=some none) (vn:a0Z K mainGlobals "zip"=some none) (kj:a0Z K mainGlobals "FORMS"=some (some (.ref kf))) (kl:K.lookup kf=some { cls:=.type "dict", data:=.dict #[{ hash:=a8V w.params (a0Q "put"),key:=.str (a0Q "put") nh,val:=.str (a0Q "npk") ni },{ hash:=a8V w.params (a0Q "take"),key:=.str (a0Q "take") nj,val:=.str (a0Q "n") nq },{ hash:=a8V w.params (a0Q "move"),key:=.str (a0Q "move") nr,val:=.str (a0Q "np") nu },{ hash:=a8V w.params (a0Q "count"),key:=.str (a0Q "count") nv,val:=.str (a0Q "nk") nz },{ hash:=a8V w.params (a0Q "name"),key:=.str (a0Q "name") n_,val:=.str (a0Q "nn") og },{ hash:=a8V w.params (a0Q "split"),key:=.str (a0Q "split") oh,val:=.str (a0Q "nnpk") oi },{ hash:=a8V w.params (a0Q "join"),key:=.str (a0Q "join") oj,val:=.str (a0Q "nn") om }] uR }) (km:(kf==sysModules)=false) (cc:a0Z K mainGlobals "LAST_PLACE"=some (some (.int 999 kg))) (fz:a0Z K mainGlobals "LETTERS"=some (some (.str "abcdefghijklmnopqrstuvwxyz" qp))) (bh:a0Z K mainGlobals "LONGEST_NAME"=some (some (.int 8 jc))) (dh:a0Z K mainGlobals "NoDeed"=some (some (.ref aw))) (f_:K.lookup aw=some (excClassObj qr bq aw uS qt (.ref qo::XC.bmV) true qv qu qw qx qy qz q_ rb rf rg "ValueError.__new__")) (f':a2K K (.ref aw)=true) (gb:a5Q K (.ref aw) "__init__"=some (some (.builtin "ValueError.__init__"))) (cy:a0Z K mainGlobals "NoRow"=some (some (.ref ag))) (jf:K.lookup ag=some (excClassObj uT dy ag vF uU (.ref qo::XC.bmV) true uW uV uX uY uZ vb vc vd ve vf "ValueError.__new__")) (jg:a2K K (.ref ag)=true) (jh:a5Q K (.ref ag) "__init__"=some (some (.ref bg))) (ji:K.lookup bg=some ⟨rm,rh,.func (a3V "__init__" "NoRow.__init__" (BY B8) (B1 B8) (AC B8) .none rn rq rz rk jw r_),rl⟩) (jj:a8K K jw "NoRow.__init__"=true) (fi:b3Q K (.ref bg)=true) (jk:a2K K (.ref bg)=true) (fj:a5Q K (.ref ag) "__setattr__"=some (some (.builtin "object.__setattr__"))) (fm:PySem.W.takerIn K ag "number"=some none) (di:a0Z K mainGlobals "NotNow"=some (some (.ref ap))) (gd:K.lookup ap=some (excClassObj sd br ap vg se (.ref qo::XC.bmV) true sg sf sh sj sk sr su s_ tf tm "ValueError.__new__")) (gf:a2K K (.ref ap)=true) (gh:a5Q K (.ref ap) "__init__"=some (some (.ref be))) (gi:K.lookup be=some ⟨ou,oo,.func (a3V "__init__" "NotNow.__init__" (BY BA) (B1 BA) (AC BA) .none ow oy oz oq jd o_),ot⟩) (gj:a8K K jd "NotNow.__init__"=true) (gk:b3Q K (.ref be)=true) (gm:a2K K (.ref be)=true) (gn:a5Q K (.ref ap) "__setattr__"=some (some (.builtin "object.__setattr__"))) (gp:PySem.W.takerIn K ap "name"=some none) (gq:a0Z K mainGlobals "NoBook"=some (some (.ref l'))) (gr:a0Z K mainGlobals "NoCall"=some (some (.ref ma))) (gu:a0Z K mainGlobals "NoJoin"=some (some (.ref md))) (gv:a0Z K mainGlobals "NoLine"=some (some (.ref me))) (jl:a0Z K mainGlobals "NoLog"=some (some (.ref qe))) (gw:a0Z K mainGlobals "NoMark"=some (some (.ref mf))) (gx:a0Z K mainGlobals "NoName"=some (some (.ref mh))) (gy:a0Z K mainGlobals "NoNeed"=some (some (.ref mi))) (dq:a0Z K mainGlobals "NoStand"=some (some (.ref jx))) (gz:a0Z K mainGlobals "NoText"=some (some (.ref mj))) (wx:a0Z K mainGlobals "StrikeError"=some (some (.ref qo))) (wy:K.lookup qo=some (excClassObj Bh Kf qo Kg Bi XC.bmV true Bk Bj Bl Bm Bn Bo Bp Bq Br Bt "ValueError.__new__")) (vz:XKit K ag) (qm:JX K ag "number") (uN:a3W K (.ref ag) (.ref ag)=some true) (uO:a3W K (.ref ag) (.type "ValueError")=some true) (uP:a7J K (.ref ag) (b7Z a0X [l',ma,aw,md,me,qe])=some false) (uQ:a7J K (.ref ag) (b7Z a0X [mf,mh,mi,jx,mj,ap])=some false) : ∃fd:FuncData,(∀(s:Shared) (v:Value),BindsTo s fd ⟨[v],[]⟩ [("_law_script", v)])/\∀base:Heap,K.In base->base.Ns mainGlobals mg->FnOk l.prog w K mg base CX0 12 fa fd ["_law_script"] (spD K 1 Q1):=by
 obtain⟨_,_,A0⟩:=b0.at X G;obtain⟨_,_,A1⟩:=b1.at X G;obtain⟨_,_,A2⟩:=b2.at X G;obtain⟨_,_,A3⟩:=b3.at X G;obtain⟨_,_,A4⟩:=b4.at X G;obtain⟨_,_,A5⟩:=b5.at X G;obtain⟨_,_,A6⟩:=b6.at X G;obtain⟨_,_,A7⟩:=b7.at X G;obtain⟨_,_,A8⟩:=b8.at X G;obtain⟨_,_,A9⟩:=b9.at X G;obtain⟨_,_,Fg⟩:=Eb.at X G;obtain⟨_,_,Fh⟩:=Ec.at X G;obtain⟨_,_,Fi⟩:=Ed.at X G;obtain⟨_,_,Fj⟩:=Ee.at X G;obtain⟨_,_,Fk⟩:=Ef.at X G;obtain⟨_,_,Fl⟩:=Eg.at X G;obtain⟨_,_,Fm⟩:=Eh.at X G;obtain⟨_,_,Fn⟩:=Ei.at X G;obtain⟨_,_,Fo⟩:=Ej.at X G;obtain⟨_,_,Fp⟩:=Ek.at X G;obtain⟨_,_,Fq⟩:=xY.at X G;obtain⟨_,_,Fs⟩:=ya.at X G;obtain⟨_,_,Ft⟩:=El.at X G;obtain⟨_,_,Fu⟩:=Em.at X G;obtain⟨_,_,Fv⟩:=En.at X G;obtain⟨_,_,Fw⟩:=Eo.at X G;obtain⟨_,_,Fx⟩:=Ep.at X G;obtain⟨_,_,Fy⟩:=Er.at X G;obtain⟨_,_,Fz⟩:=Et.at X G;obtain⟨_,_,F_⟩:=Eu.at X G;obtain⟨_,_,F'⟩:=Ew.at X G;obtain⟨_,_,Ga⟩:=Ex.at X G;obtain⟨_,_,Gb⟩:=Ey.at X G;obtain⟨_,_,Gc⟩:=Ez.at X G;obtain⟨_,_,Gd⟩:=E_.at X G;obtain⟨_,_,Ge⟩:=Fb.at X G;obtain⟨_,_,Gf⟩:=Fc.at X G;obtain⟨_,_,Gg⟩:=Fd.at X G;obtain⟨_,_,Gh⟩:=Fe.at X G;obtain⟨Ld,Ki,Bu⟩:=Ff.at X G;have e:=Kh.symm.trans Bu.mg_;cases e;have fb:=a1Q X G b_;have jo:=a1Q X G vh;have vN:=a1Q X G vi;have kd:=a1Q X G pb;have nc:=a1Q X G pd;have cu:=a1Q X G cx;have vO:=a1Q X G vj;have ae:=a1Q X G cb;have bi:=a1Q X G vk;have ng:=a1Q X G pf;have ay:=a1Q X G kh;have dm:=a1Q X G dn;have bp:=a1Q X G je;have qa:=a1Q X G vm;have ao:=a1Q X G ki;have uw:=a1Q X G vn;have ke:∃a,mg "FORMS"=some (.ref a)/\GDict w K a F9:=⟨_,a1X X G kj,km,by decide +kernel,_,_,kl,rfl,⟨_,rfl⟩,⟨_,rfl⟩,rfl,⟨_,rfl⟩,⟨_,rfl⟩,rfl,⟨_,rfl⟩,⟨_,rfl⟩,rfl,⟨_,rfl⟩,⟨_,rfl⟩,rfl,⟨_,rfl⟩,⟨_,rfl⟩,rfl,⟨_,rfl⟩,⟨_,rfl⟩,rfl,⟨_,rfl⟩,⟨_,rfl⟩,trivial⟩
 have du:∃t,mg "LAST_PLACE"=some (.int 999 t):=⟨_,a1X X G cc⟩
 have jq:∃t,mg "LETTERS"=some (.str "abcdefghijklmnopqrstuvwxyz" t):=⟨_,a1X X G fz⟩
 have cm:∃t,mg "LONGEST_NAME"=some (.int 8 t):=⟨_,a1X X G bh⟩
 have cn:HasN K mg "NoDeed" aw qo:=⟨⟨⟨_,_,_,_,_,_,_,_,_,_,_,_,_,_,f_⟩,gb,f'⟩,a1X X G dh⟩
 have cz:XC.XCls K ag qo (.ref bg):=⟨⟨_,_,_,_,_,_,_,_,_,_,_,_,_,_,jf⟩,jh,jg⟩
 have fo:=VT (st:=B8) ji jj jk;have jy:XC.XCls K ap qo (.ref be):=⟨⟨_,_,_,_,_,_,_,_,_,_,_,_,_,_,gd⟩,gh,gf⟩
 have jz:=VT (st:=BA) gi gj gm;have dz:=a1X X G gq;have d_:=a1X X G gr;have ee:=a1X X G gu;have ef:=a1X X G gv;have iw:=a1X X G jl;have eh:=a1X X G gw;have er:=a1X X G gx;have eu:=a1X X G gy;have dg:=a1X X G dq;have e_:=a1X X G gz;have bq:=a1X X G dh;have dy:=a1X X G cy;have br:=a1X X G di;have Be:=a1X X G wx;have Bf:XC.XTop K qo:=⟨⟨_,_,_,_,_,_,_,_,_,_,_,_,_,_,wy⟩⟩
 refine⟨Ki,λs v=>?_,λbase _ _=>?_⟩;. obtain⟨oc,od,kV,doc,pm,an,cdv,ct,osl,e,_,_⟩:=Bu.fn.ex;subst e;exact .of_eq rfl
 have qb:HasR l.prog w K mg base "NoRow" "number" ag qo:=⟨bg,_,["self", "number"],cz,fi,X7 fo cz ⟨fj,fm⟩,fo.binds (ps:=["self", "number"]) λ_ _ _ _ _ _ us hl=>match us,hl with | [_,_],_=>rfl,a1X X G cy⟩
 have cq:HasR l.prog w K mg base "NotNow" "name" ap qo:=⟨be,_,["self", "name"],jy,gk,VC jz jy ⟨gn,gp⟩,jz.binds (ps:=["self", "name"]) λ_ _ _ _ _ _ us hl=>match us,hl with | [_,_],_=>rfl,a1X X G di⟩
 have i_:HasRA l.prog w K mg base "NoRow" "number" ag qo:=⟨bg,_,["self", "number"],cz,fi,VG fo cz ⟨fj,fm⟩,fo.binds (ps:=["self", "number"]) λ_ _ _ _ _ _ us hl=>match us,hl with | [_,_],_=>rfl,a1X X G cy⟩
 have ze:=XC.qK cz Bf;have ij:`hhh:=A0.has (S3 A0.fn bi) (by walk_at "b2");have cw:`hhh:=A1.has (LH A1.fn ay) (by walk_at "b2");have ff:`hhh:=A2.has (OL A2.fn ay) (by walk_at "b3");have ba:`hhh:=A3.has (OO A3.fn ) (by walk_at "b1");have a_:`hhh:=A4.has (NX A4.fn ) (by walk_at "b1");have ia:`hhh:=A5.has (S5 A5.fn bi) (by walk_at "b2");have fg:`hhh:=A6.has (OQ A6.fn bi ay bp ao a_ ba) (by walk_at "b3");have bb:`hhh:=A7.has (OS A7.fn ) (by walk_at "b1");have dk:`hhh:=A8.has (NZ A8.fn ) (by walk_at "b1");have h_:`hhh:=A9.has (S7 A9.fn ) (by walk_at "b1");have bt:`hhh:=Fg.has (V2 Fg.fn jo vN h_ dk) (by walk_at "b2");have bj:`hhh:=Fh.has (S9 Fh.fn nc) (by walk_at "b2");have ib:`hhh:=Fi.has (SA Fi.fn a_ ia ba) (by walk_at "b4");have jb:`hhh:=Fj.has (V4 Fj.fn ay ao bt ib bj) (by walk_at "b5");have bu:`hhh:=Fk.has (V6 Fk.fn kd vO ae) (by walk_at "b1");have jr:`hhh:=Fl.has (X1 Fl.fn jo ae bi qa jq cm) (by walk_at "b1");have ic:`hhh:=Fm.has (SD Fm.fn bu) (by walk_at "b3");have iz:`hhh:=Fn.has (V8 Fn.fn du ic) (by walk_at "b1");have df:`hhh:=Fo.has (X3 Fo.fn ae qa ke) (by walk_at "b1");have ux:`hhh:=Fp.has (m9 Fp.fn jr iz bu) (by walk_at "b2");have bw:`hhh:=Fq.has (VA Fq.fn df) (by walk_at "b1");have jt:`hhh:=Fs.has (X4 Fs.fn jo ae bi ao uw ux df bw) (by walk_at "b1");have ju:`hhh:=Ft.has (X6 Ft.fn ) (by walk_at "b1");have ax:`hhh:=Fu.has (VB Fu.fn ) (by walk_at "b1");have aq:`hhh:=Fv.has (IL Fv.fn bp ao) (by walk_at "b1");have ie:`hhh:=Fw.has (SJ Fw.fn ) (by walk_at "b3");have ai:HasX l.prog w K mg base "refuse_undoable" 6 ["things", "deed"] (B7 aw ap):=Fx.hasX (IN Fx.fn cn cq jt ju bw) (by walk_at "b2");have lj:`hhh:=Fy.has (bE Fy.fn ie) (by walk_at "b2");have uz:`hhh:=Fz.has (mD Fz.fn ai ax lj aq) (by walk_at "b2");have ig:HasX l.prog w K mg base "back_deed" 7 ["world", "deed"] (DW aw ap):=F_.hasX (SL F_.fn ai ax) (by walk_at "b2");have dw:HasX l.prog w K mg base "walked" 8 ["world", "row"] (KF ag NQ):=F'.hasX (bG F'.fn cu i_ cn qb cq ig ax uz aq) (by walk_at "b2");have u_:HasX l.prog w K mg base "gone" 9 ["world", "row"] (KF ag YQ):=Ga.hasX (mF Ga.fn dw) (by walk_at "b2");have qc:HasX l.prog w K mg base "backs" 9 ["world", "row"] (KF ag NR):=Gb.hasX (iF Gb.fn dm ao dw) (by walk_at "b2");have ii:`hhh:=Gc.has (SM Gc.fn bp ao) (by walk_at "b1");have ja:`hhh:=Gd.has (VF Gd.fn bi ay bt bj bb ii) (by walk_at "b3");have fe:`hhh:=Ge.has (OW Ge.fn Be Bf ze qc u_) (by walk_at "b3");have av:`hhh:=Gf.has (IQ Gf.fn ) (by walk_at "b0");have cv:`hhh:=Gg.has (LK Gg.fn fb kd ae dz d_ bq ee ef iw eh er eu dy dg e_ br vz qm uN uO uP uQ) (by walk_at "b2");have fh:`hhh:=Gh.has (OY Gh.fn ae bi ng ao fe ja ff av cv jb cw bb fg) (by walk_at "b1");exact rA Bu.fn ij fh
theorem rC {K:Frg}{H:Hp}{a:Addr}{ns:List Int}(hl:ns.length<=63) (hb:∀i∈ns,xL i<=2 ^ 20) (hS:SqL K H a (ns.map V.int)):spD K 1 Q1 [.ref a] H (λv _=>v = .bl true) λ_ _ _=>False:=by
 refine⟨[.d (.list (ns.map .int))],λ_=>none,rfl,(λa o e=>nomatch e),⟨.ref a,[],rfl,?_,rfl⟩,⟨ns,rfl,hl,hb⟩,λx M' v H' post st oa si=>?_⟩
 . unfold SI DV;refine⟨a,ns.map V.int,rfl,?_,KS⟩;rcases hS with h | h;. exact .inl ⟨λw=>w rfl,h⟩
   . exact .inr h
 . have e:x = .d (.bool true):=post;subst e;exact sN si
theorem uM {l:PySem.W.OpenLaw}{q:Program}{loose:List Str}{XP:(Str->Option Value)->Heap->Prop}{YP:World->Heap->Prop}{d:DefRec}{K:Params->Frg}(hn:l.most=some 63) (zS:d.params.defaults=[]) (hY:∀(w:World) (h:Heap),YP w h->(K w.params).In h) (F:∀(w:World) (mg:Str->Option Value) (fa:Addr) (h:Heap),(K w.params).In h->h.Ns mainGlobals mg->mg d.name=some (.ref fa) ->∃fd:FuncData,(∀(s:Shared) (u:Value),BindsTo s fd ⟨[u],[]⟩ [("_law_script", u)])/\∀base:Heap,(K w.params).In base->base.Ns mainGlobals mg->FnOk l.prog w (K w.params) mg base CX0 12 fa fd ["_law_script"] (spD (K w.params) 1 Q1)) :
   PySem.W.WalkO q loose XP YP l.row.toRowW d [] (λf vs=>PySem.call f vs):=
 L2.eD (n:=63) (k:=12) (x:= "_law_script") (CX:=λ_=>CX0) (sp:=λw=>spD (K w.params) 1 Q1) hn (by decide) zS ⟨rfl,by decide,by decide⟩ hY F (λ_ _ a ns hl hb _ hS=>rC hl hb hS) λ_ _ _ _ _ z=>z
end DL
open PySem PySem.W PyProof.Rows
set_option maxRecDepth 100000 in
set_option maxHeartbeats 0 in
theorem PySem.Challenge.cw_struckdeeds_k15_rows_gone_holds : PySem.Challenge.rw_struckdeeds_k15_rows_gone.Holds := by
 w_on
 refine PySem.W.holds_law DL.hS λBv=>?_;refine PySem.W.holds_open (q:=DL.hV) (loose:=[a0Q "FORMS"]) (Xt:=(λs=>PySem.W.xlAt DL.hV [] s&&PySem.W.recOk (b2W (b1X (b2V PySem.Challenge.rw_struckdeeds_k15_rows_gone))) s)) (XP:=PySem.W.XL DL.hV []) (Yf:=b4W (a6J DL.hK DL.hA DL.hE)) (Ya:=b4K (a6J DL.hK DL.hA DL.hE)) (YP:=PySem.W.Hook.says (a6J DL.hK DL.hA DL.hE)) (N:=9506) DL.hL (PySem.W.Hook.of (a6J DL.hK DL.hA DL.hE)) (PySem.W.Hook.keeps (a6J DL.hK DL.hA DL.hE)) (λs e=>PySem.W.xl_of s (Bool.and_eq_true_iff.mp e).1) PySem.W.XL.keeps (by rfl) (by rfl) (by rfl) (λs e=>PySem.W.recFacts_of (Bool.and_eq_true_iff.mp e).2) rfl Bv (by decide +kernel) ⟨rfl,rfl,rfl,rfl,rfl,by decide +kernel⟩ ?hw ?hc
 (case hw=>w_witness2)
 k_fill
 refine DL.uM (l:=PySem.Challenge.rw_struckdeeds_k15_rows_gone) rfl rfl (λw h Y=>PySem.W.kIn_of Y) ?F
 case F=>
   intro w mg fa h KX G mr;refine' DL.rB KX G mr ?b0 ?b1 ?b2 ?b3 ?b4 ?b5 ?b6 ?b7 ?b8 ?b9 ?Eb ?Ec ?Ed ?Ee ?Ef ?Eg ?Eh ?Ei ?Ej ?Ek ?xY ?ya ?El ?Em ?En ?Eo ?Ep ?Er ?Et ?Eu ?Ew ?Ex ?Ey ?Ez ?E_ ?Fb ?Fc ?Fd ?Fe ?Ff ?b_ ?vh ?vi ?pb ?pd ?cx ?vj ?cb ?vk ?pf ?kh ?dn ?je ?vm ?ki ?vn ?kj ?kl ?km ?cc ?fz ?bh ?dh ?f_ ?f' ?gb ?cy ?jf ?jg ?jh ?ji ?jj ?fi ?jk ?fj ?fm ?di ?gd ?gf ?gh ?gi ?gj ?gk ?gm ?gn ?gp ?gq ?gr ?gu ?gv ?jl ?gw ?gx ?gy ?dq ?gz ?wx ?wy ?vz ?qm ?uN ?uO ?uP ?uQ;all_goals (first | (refine' DL.m7 ?fa ?fl ?fc ?fk;(case fa=>k_is);(case fl=>k_is);(case fc=>k_is);(case fk=>k_is)) | skip)
   (case b_=>k_is)
   (case vh=>k_is)
   (case vi=>k_is)
   (case pb=>k_is)
   (case pd=>k_is)
   (case cx=>k_is)
   (case vj=>k_is)
   (case cb=>k_is)
   (case vk=>k_is)
   (case pf=>k_is)
   (case kh=>k_is)
   (case dn=>k_is)
   (case je=>k_is)
   (case vm=>k_is)
   (case ki=>k_is)
   (case vn=>k_is)
   (case kj=>k_is)
   (case kl=>k_is)
   (case km=>decide)
   (case cc=>k_is)
   (case fz=>k_is)
   (case bh=>k_is)
   (case dh=>k_is)
   (case f_=>k_is)
   (case f'=>k_is)
   (case gb=>k_is)
   (case cy=>k_is)
   (case jf=>k_is)
   (case jg=>k_is)
   (case jh=>k_is)
   (case ji=>k_is)
   (case jj=>k_is)
   (case fi=>k_is)
   (case jk=>k_is)
   (case fj=>k_is)
   (case fm=>k_is)
   (case di=>k_is)
   (case gd=>k_is)
   (case gf=>k_is)
   (case gh=>k_is)
   (case gi=>k_is)
   (case gj=>k_is)
   (case gk=>k_is)
   (case gm=>k_is)
   (case gn=>k_is)
   (case gp=>k_is)
   (case gq=>k_is)
   (case gr=>k_is)
   (case gu=>k_is)
   (case gv=>k_is)
   (case jl=>k_is)
   (case gw=>k_is)
   (case gx=>k_is)
   (case gy=>k_is)
   (case dq=>k_is)
   (case gz=>k_is)
   (case wx=>k_is)
   (case wy=>k_is)
   (case vz=>exact DL.uL _)
   (case qm=>exact DL.tQ _)
   (case uN=>exact DL.tR _)
   (case uO=>exact DL.tS _)
   (case uP=>exact DL.tT _)
   (case uQ=>exact DL.tU _)
#print axioms PySem.Challenge.cw_struckdeeds_k15_rows_gone_holds
