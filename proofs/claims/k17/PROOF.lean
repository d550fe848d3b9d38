import PyProof.Rows.All
import Wide.All
import OpenK.AllK
import Wide.FinOn
import Lean
import PyProof.EqAt
import PyProof.EqKinds
import PyProof.TupleCall
import PyProof.ListRange
import PyProof.TupleOfSeq
import PyProof.WalksS
import PyProof.CollectWalk
import KE.KRevIter
import PyProof.P3In
import PyProof.SumAnyB
import PyProof.NeKinds
import KE.KEqDict
import PyProof.RulesAssignMore
import PyProof.SetRoads
import PyProof.Rows.SetFrom
import KE.KDictOf
import PySem.Challenge.RW_struckdeeds_k17_effects_by_worlds
set_option Elab.async false
set_option linter.all false
set_option maxRecDepth 100000
set_option compiler.extract_closed false
set_option maxHeartbeats 4000000
open PySem.Str renaming ofString->a0Q
open PySem.Value renaming ref->a0X,none->a5Q,type->b4W,str->b6V
open List renaming range->a0Z,getElem_mem->a0K,length_take->a0V,take_add_one->a1Q,mem_cons_self->a1X,take_length->a1J,getElem?_eq_none->a2J,append_nil->a2K,lookup_cons->a2V,filter_sublist->a3Z,foldl_append->a3V,filter_cons->a6Z,zip_cons_cons->a6J,filterMap_cons->a7J,any_eq_true->a7W,filter_append->a8Q,map_id->a8J,pairwise_map->a9Z,nodup_append->a9J,flatMap_cons->a9K,ext_getElem?->a9W,all_eq_true->b0K,sum_cons->b1X,find?_cons->b1Z,any_cons->b1J,getElem?_set_ne->b2K,flatMap_append->b3X,perm_ext_iff_of_nodup->b3W,map_nil->b4Q,replicate->b4K,take_sublist->b5Q,any_eq_false->b5X,filter_cons_of_pos->b5W,filter_cons_of_neg->b5V,not_mem_nil->b6X,length_drop->b6Z,getElem_map->b6J
open PySem.PyData renaming str->a0J,depth->a2W,eqv->a4W,depthAll->a5X,int->b2J,canLayAll0->b4Z
open PySem.SetTable renaming below->a0W,grown->a9Q,has->b2W
open Bool renaming and_eq_true->a1Z,eq_iff_iff->a2Q,false_eq_true->b4X,true_and->b6Q
open Sum renaming inr->a1K
open PySem.W renaming mg_none_of->a1W,kia_one->a2X,nsIn->a3Q,boot_heap->a3K,kHook->a4J,fnOf->a7X,topRun->a9V,keepIn->b0Q,boot_drawn->b3Q,codeIn->b3Z,boot_toks->b3V
open Nat renaming add_le_add_left->a1V,ne_of_gt->a6K,le_succ->a6V,lt_trichotomy->b1V,lt_succ_of_lt->b2Q,lt_succ_self->b6W
open Array renaming getElem?_eq_getElem->a2Z,length_toList->a3X,getElem?_toList->a4Q,getD->a8V,getD_eq_getD_getElem?->b2V,getElem?_eq_none->b6K
open Ne renaming symm->a3J
open PySem renaming mem_of_lookup->a3W,strKind->b5Z
open PySem.F renaming args_tuple_add_2->a4X,entry_tuple_add->a4K,slot_tuple_add->a5Z
open PySem.Obj renaming mapSeq->a4Z
open Option renaming isSome_map->a4V,some->a5J,toList_some->a6X,none->b4V
open Int renaming toNat_natCast->a5K,emod_nonneg->a5W,emod_lt_of_pos->a8X,toNat->b5J
open PySem.NameKind renaming free->a5V
open PyProof.Rows renaming slot_tuple_getitem->a6Q,boot_sorted->a8W
open PySem.Builtin.Frozenset renaming updateFrom->a6W
open True renaming intro->a7Q
open PySem.Builtin.List renaming listExtendWith->a7Z
open List.Pairwise renaming nil->a7K
open PySem.Builtin.Slice renaming slicePlaces->a7V,sliceAdjust->b2Z
open PySem.Builtin.Tuple renaming tupleExact->a8Z
open PySem.Txt renaming slice->a8K
open PySem.Around renaming under_plainId->a9X
open PySem.W.OpenRow renaming toRowW->b0X
open PySem.Calls renaming call_function_entry->b0Z
open PySem.Builtin.Str renaming occurrences->b0J
open ForInStep renaming yield->b0W
open False renaming elim->b0V
open PySem.Spec renaming ltCps->b1Q
open PySem.W.RowW renaming records->b1K
open PySem.W.OpenLaw renaming row->b1W
open PySem.Heap renaming get?_update_self->b2X,size_push->b4J
open PySem.W.Hook renaming val->b3J,obs->b3K
open PySem.Heap.SameBut renaming update->b5K
open PyProof.Rows.F renaming plain_set_update_loop->b7Q
open PySem renaming wpAny_bind->zZ,wpAny_pure->zY,wpAny_newObj_type->xM
open List renaming length_map->zX,getElem?_eq_getElem->zV,mem_map->zL,size_toArray->zJ,map_cons->zI,getElem?_map->zF,map_map->zD,mem_append_right->zB,mem_append_left->zA,length_append->yY,mem_cons->yX,mem_append->yW,mem_cons_of_mem->yV,getD_eq_getElem?_getD->yU,getElem?_eq_some_iff->yT,length_cons->yR,getElem?_append_left->yQ,mem_of_getElem?->yN,map_congr_left->yM,mem_filter->yL,length_filter_le->yJ,getElem?_range->yA,length_range->xZ,nodup_cons->xV,filter_map->xU,map_append->xI
open PySem.Heap renaming get?_push_of_some->zW,lt_size->zM,get?_push_size->yZ,get?_update_other->yC
open Nat renaming le_refl->zR,lt_of_le_of_lt->zQ,lt_of_lt_of_le->zP,le_trans->zN,ne_of_lt->zC,lt_irrefl->yF,zero_le->xT,le_of_lt->xR,lt_trans->xQ
open PySem.SeqAt renaming shaped->zH,canLay_of_shaped->zG
open Option renaming isSome_iff_exists->xY
open PySem.Builtin.Int renaming intBits->xJ
open PyProof.Rows renaming callWith_type1->xH,sortedS->xG
abbrev sT (n:Nat):PySem.Stmt:=PySem.Challenge.pw_struckdeeds_k17_effects_by_worlds.main.body.getD n (.Pass ⟨0,0,0,0⟩)
abbrev Frg:=PySem.W.Frag
theorem nft:¬(false=true):=Bool.false_ne_true
namespace L2
open PySem PySem.Spec PyProof.Rows
abbrev Key:=Sum Int Str
def LV:Key->Value->Bool
 | .inl k,v=>Value.isInt k v
 | .inr x,v=>Value.isStrOf x v
def pB (w:World):Key->Int
 | .inl k=>hashInt k
 | .inr x=>hashStr w x
theorem B4:∀{k:Key}{v:Value},LV k v=true->(∃i t,k=Sum.inl i/\v=Value.int i t)\/(∃x t,k=a1K x/\v=b6V x t)
 | .inl i,v,h=>by obtain⟨t,e⟩:=Value.isInt_shape (k:=i) (v:=v) h;exact .inl ⟨i,t,rfl,e⟩
 | .inr x,v,h=>by obtain⟨t,e⟩:=Value.isStrOf_shape (x:=x) (v:=v) h;exact .inr ⟨x,t,rfl,e⟩
theorem Y2 (i:Int) (t:Tok):LV (.inl i) (.int i t)=true:=by simp[LV,Value.isInt]
theorem Y3 (x:Str) (t:Tok):LV (.inr x) (.str x t)=true:=by simp[LV,Value.isStrOf]
theorem jB (a b:Int):decide ((Sum.inl a:Key)=Sum.inl b)=(a==b):=by
 by_cases e:a=b;. subst e;simp
 . have h:¬(Sum.inl a:Key)=Sum.inl b:=λq=>e (Sum.inl.inj q);rw[decide_eq_false h];exact(beq_eq_false_iff_ne.mpr e).symm
theorem jC (a b:Str):decide ((a1K a:Key)=a1K b)=decide (a=b):=by
 by_cases e:a=b;. subst e;simp
 . have h:¬(a1K a:Key)=a1K b:=λq=>e (Sum.inr.inj q);rw[decide_eq_false h,decide_eq_false e]
theorem jD (a:Int) (b:Str):decide ((Sum.inl a:Key)=a1K b)=false:=decide_eq_false (λq=>nomatch q)
theorem jE (a:Str) (b:Int):decide ((a1K a:Key)=Sum.inl b)=false:=decide_eq_false (λq=>nomatch q)
def B0 (prog:Program) (w:World):PySem.KeyKind prog w Key where
 is:=LV
 hash:=pB w
 inj:=λv a b ha hb=>by
   rcases B4 ha with ⟨i,t,rfl,rfl⟩ | ⟨x,t,rfl,rfl⟩
   . rcases B4 hb with ⟨j,u,rfl,e⟩ | ⟨y,u,rfl,e⟩
     . injection e with e1 _;rw[e1]
     . exact nomatch e
   . rcases B4 hb with ⟨j,u,rfl,e⟩ | ⟨y,u,rfl,e⟩
     . exact nomatch e
     . injection e with e1 _;rw[e1]
 byValue:=λk v h=>by rcases B4 h with ⟨i,t,rfl,rfl⟩ | ⟨x,t,rfl,rfl⟩ <;> rfl
 pyHash:=λhv h=>by
   rcases B4 hv with ⟨i,t,rfl,rfl⟩ | ⟨x,t,rfl,rfl⟩
   . exact wpAny_pyHash_int h
   . exact wpAny_pyHash_str h
 eqBool:=λhu hv h=>by
   rcases B4 hu with ⟨i,t,rfl,rfl⟩ | ⟨x,t,rfl,rfl⟩
   . rcases B4 hv with ⟨j,u,rfl,rfl⟩ | ⟨y,u,rfl,rfl⟩
     . rw[jB] at h;exact wpAny_eqBool_int h
     . rw[jD] at h;exact SeqAt.EqAt.int_str i t y u _ _ _ _ h
   . rcases B4 hv with ⟨j,u,rfl,rfl⟩ | ⟨y,u,rfl,rfl⟩
     . rw[jE] at h;exact SeqAt.EqAt.str_int x t j u _ _ _ _ h
     . rw[jC] at h;exact wpAny_eqBool_str h
 «strs»:=λk x t v h=>by
   rcases B4 h with ⟨i,u,rfl,e⟩ | ⟨y,u,rfl,e⟩
   . exact nomatch e
   . injection e with e1 _;subst e1;cases v <;> rfl
theorem SK (prog:Program) (w:World) (i:Int) (t:Tok):(B0 prog w).is (.inl i) (.int i t)=true:=Y2 i t
theorem SL (prog:Program) (w:World) (x:Str) (t:Tok):(B0 prog w).is (.inr x) (.str x t)=true:=Y3 x t
inductive V where
 | non | bl (b:Bool) | int (i:Int) | str (x:Str) | byt (b:Array UInt8) | flt (b:UInt64) | ref (a:Addr) | ty (n:String)
 deriving DecidableEq
def RelV:V->Value->Prop
 | .non,u=>u=a5Q
 | .bl b,u=>u=Value.bool b
 | .int i,u=>∃t,u=Value.int i t
 | .str x,u=>∃t,u=b6V x t
 | .byt b,u=>∃t,u=Value.bytes b t
 | .flt b,u=>∃t,u=Value.float b t
 | .ref a,u=>u=a0X a
 | .ty n,u=>u=b4W n
abbrev Vals:List V->List Value->Prop:=Paired RelV
theorem Vals.length {xs:List V}{us:List Value}(r:Vals xs us):xs.length=us.length:=Paired.length r
theorem Vals.get:∀{xs:List V}{us:List Value}{i:Nat}{x:V},Vals xs us->xs[i]?=some x->∃u,us[i]?=some u/\RelV x u
 | _,_,_,_,.nil,e=>by simp at e
 | _,_,0,_,.cons r _,e=>by simp at e;subst e;exact⟨_,rfl,r⟩
 | _,_,i+1,x,.cons _ t,e=>by obtain⟨u,h1,h2⟩:=Vals.get (i:=i) (x:=x) t (by simpa using e);exact⟨u,by simpa using h1,h2⟩
theorem Vals.append:∀{xs ys:List V}{us ws:List Value},Vals xs us->Vals ys ws->Vals (xs++ys) (us++ws)
 | _,_,_,_,.nil,s=>s
 | _,_,_,_,.cons r t,s=>.cons r (Vals.append t s)
theorem Vals.take:∀{xs:List V}{us:List Value}(n:Nat),Vals xs us->Vals (xs.take n) (us.take n)
 | _,_,0,_=>.nil
 | _,_,_+1,.nil=>.nil
 | _,_,n+1,.cons r t=>.cons r (Vals.take n t)
theorem Vals.drop:∀{xs:List V}{us:List Value}(n:Nat),Vals xs us->Vals (xs.drop n) (us.drop n)
 | _,_,0,r=>r
 | _,_,_+1,.nil=>.nil
 | _,_,n+1,.cons _ t=>Vals.drop n t
def RelO:Option V->Option Value->Prop
 | some v,some u=>RelV v u
 | none,none=>True
 | _,_=>False
def KV {κ:Type}:List (κ×V)->List (κ×Value)->Prop:=Paired λ(p:κ×V) (q:κ×Value)=>p.1=q.1/\RelV p.2 q.2
def kV:Key->V
 | .inl i=>.int i
 | .inr x=>.str x
inductive HO where
 | lst (xs:List V)
 | tup (xs:List V)
 | dK (kvs:List (Key×V)) | dT (kvs:List (List Key×V))
 | set (S:Int->Bool) (n:Nat)
 | ins (C dx:Addr) (fs:List (Str×V))
 | own (x:Addr)
 | xd (fs:List (Str×V))
 | met (f x:Addr)
 | rng (lo hi:Int)
 | frz (o:Obj) (u:HO)
 | tbl (ps:Array Value)
 | ext (φ:Heap->Prop)
abbrev Hp:=Addr->Option HO
def upd (H:Hp) (a:Addr) (o:HO):Hp:=λb=>if b=a then some o else H b
theorem AN {H:Hp}{a:Addr}{o:HO}:upd H a o a=some o:=by unfold upd;rw[if_pos rfl]
theorem AS {H:Hp}{a b:Addr}{o:HO}(h:b≠a):upd H a o b=H b:=by unfold upd;rw[if_neg h]
theorem mT {H:Hp}{a b:Addr}{o u:HO}(h:H a=some o) (h':H b=some u) (d:o≠u):a≠b:=by intro e;subst e;rw[h] at h';exact d (Option.some.inj h')
theorem BX {H:Hp}{a b:Addr}{o:HO}(h:H a=some o) (h':H b=none):a≠b:=by intro e;subst e;rw[h] at h';cases h'
section
variable (P:Program) (w:World)
def ObjOk (H:Hp) (h:Heap) (a:Addr):HO->Prop
 | .lst xs=>xs.length<=sizeLine/\∃(aa:List Value) (n:Nat),Vals xs aa/\h.get? a=some { cls:=.type "list", data:=.seq aa.toArray n }
 | .tup xs=>xs.length<=sizeLine/\∃aa:List Value,Vals xs aa/\IsTup h a aa.toArray
 | .dK kvs=>kvs.length<=sizeLine/\(a==sysModules)=false/\∃vs,KV kvs vs/\h.DictOf (B0 P w) a vs
 | .dT kvs=>kvs.length<=sizeLine/\(a==sysModules)=false/\∃xs:List (List Key×Addr×Value),
     Paired (λ(p:List Key×V) (q:List Key×Addr×Value)=>p.1=q.1/\H q.2.1=some (.tup (p.1.map kV))/\RelV p.2 q.2.2) kvs xs /\
     ∃o es ep,h.get? a=some o/\o.ExactDict/\o.data = .dict es ep/\es.toList=xs.map (entryOfKey (tupleKind (B0 P w)))/\(xs.map (·.1)).Nodup
 | .set S n=>h.SetOf (intKind P w) a S n
 | .ins C dx fs=>H dx=some (.own a)/\fs.length<=1000/\dx≠a/\h.get? a=some (PySem.W.instObj C dx) /\∃mA,h.Ns1 dx mA/\(∀f,RelO (fs.lookup f) (mA f))/\PySem.Within mA (fs.map (·.1))
 | .own _=>∃o,h.get? a=some o
 | .xd fs=>∃mA,h.Ns1 a mA/\∀f,RelO (fs.lookup f) (mA f)
 | .rng lo hi=>∃t u v,h.get? a=some { cls:=.type "range", data:=.fields #[.int lo t,.int hi u,.int 1 v] }
 | .frz o u=>h.get? a=some o/\ObjOk H h a u
 | .tbl ps=>h.get? a=some { cls:=.none,data:=.fields ps }
 | .met f x=>h.get? a=some (PySem.W.methodObj (.ref f) (.ref x))
 | .ext φ=>φ h/\(∃o,h.get? a=some o)/\∀h1 h2:Heap,φ h1->(∀o,h1.get? a=some o->h2.get? a=some o)->φ h2
def HOk (H:Hp) (h:Heap):Prop:=∀a o,H a=some o->ObjOk P w H h a o
end
section
variable {P:Program}{w:World}{H H':Hp}{h h':Heap}{a:Addr}{o:HO}
theorem ObjOk.lt (x:ObjOk P w H h a o):a < h.objs.size:=by
 cases o with
 | lst xs=>obtain⟨_,_,_,_,e⟩:=x;exact zM e
 | tup xs=>obtain⟨_,_,_,p⟩:=x;exact p.lt
 | dK kvs=>obtain⟨_,_,_,_,o,_,_,e,_⟩:=x;exact zM e
 | dT kvs=>obtain⟨_,_,_,_,o,_,_,e,_⟩:=x;exact zM e
 | set S n=>obtain⟨o,_,_,_,e,_⟩:=x;exact zM e
 | ins C dx fs=>obtain⟨_,_,_,e,_⟩:=x;exact zM e
 | own y=>obtain⟨_,e⟩:=x;exact zM e
 | xd fs=>obtain⟨_,⟨_,_,_,e,_⟩,_⟩:=x;exact zM e
 | rng lo hi=>obtain⟨_,_,_,e⟩:=x;exact zM e
 | frz ob u=>obtain⟨e,_⟩:=x;exact zM e
 | tbl ps=>exact zM (show h.get? a=some _ from x)
 | met f y=>exact zM (show h.get? a=some _ from x)
 | ext φ=>obtain⟨_,⟨_,e⟩,_⟩:=x;exact zM e
theorem Paired.mapP {α β:Type}{F G:α->β->Prop}:∀{l₁:List α}{l₂:List β},Paired F l₁ l₂->(∀a b,F a b->G a b)->Paired G l₁ l₂
 | _,_,.nil,_=>.nil
 | _,_,.cons r t,f=>.cons (f _ _ r) (Paired.mapP t f)
theorem ObjOk.stay (x:ObjOk P w H h a o) (k:∀b u,(b=a\/H b=some (.own a))->h.get? b=some u->h'.get? b=some u) (ho:∀b,H b=some (.own a)->H' b=some (.own a)) (ht:∀b xs,H b=some (.tup xs)->H' b=some (.tup xs)):ObjOk P w H' h' a o:=by
 induction o with
 | lst xs=>obtain⟨z,aa,n,r,e⟩:=x;exact⟨z,aa,n,r,k _ _ (.inl rfl) e⟩
 | tup xs=>obtain⟨z,aa,r,ob,e,c⟩:=x;exact⟨z,aa,r,ob,k _ _ (.inl rfl) e,c⟩
 | dK kvs=>obtain⟨z,y,vs,r,ob,es,ep,e,c⟩:=x;exact⟨z,y,vs,r,ob,es,ep,k _ _ (.inl rfl) e,c⟩
 | dT kvs=> obtain⟨z,y,xs,r,ob,es,ep,e,c⟩:=x;exact⟨z,y,xs,Paired.mapP r λp q z=>⟨z.1,ht _ _ z.2.1,z.2.2⟩,ob,es,ep,k _ _ (.inl rfl) e,c⟩
 | set S n=>obtain⟨ob,es,ep,t,e,c⟩:=x;exact⟨ob,es,ep,t,k _ _ (.inl rfl) e,c⟩
 | ins C dx fs=> obtain⟨d,z,ne,e,mA,⟨od,es,ep,e2,c⟩,r⟩:=x;exact⟨ho _ d,z,ne,k _ _ (.inl rfl) e,mA,⟨od,es,ep,k _ _ (.inr d) e2,c⟩,r⟩
 | own y=>obtain⟨ob,e⟩:=x;exact⟨ob,k _ _ (.inl rfl) e⟩
 | xd fs=>obtain⟨mA,⟨od,es,ep,e,c⟩,r⟩:=x;exact⟨mA,⟨od,es,ep,k _ _ (.inl rfl) e,c⟩,r⟩
 | rng lo hi=>obtain⟨t,u,v,e⟩:=x;exact⟨t,u,v,k _ _ (.inl rfl) e⟩
 | frz ob u ih=>obtain⟨e,q⟩:=x;exact⟨k _ _ (.inl rfl) e,ih q⟩
 | tbl ps=> have e:h.get? a=some { cls:=.none,data:=.fields ps }:=x;show h'.get? a=some { cls:=.none,data:=.fields ps };exact k a _ (.inl rfl) e
 | met f y=> have e:h.get? a=some (PySem.W.methodObj (.ref f) (.ref y)):=x;show h'.get? a=some (PySem.W.methodObj (.ref f) (.ref y));exact k a _ (.inl rfl) e
 | ext φ=>obtain⟨p,⟨o,e⟩,st⟩:=x;exact⟨st _ _ p λo q=>k _ _ (.inl rfl) q,⟨o,k _ _ (.inl rfl) e⟩,st⟩
theorem HOk.lt (x:HOk P w H h) (e:H a=some o):a < h.objs.size:=(x a o e).lt
theorem HOk.fresh (x:HOk P w H h) (e:h.objs.size<=a):H a=none:=by
 cases q:H a with
 | none=>rfl
 | some u=>exact absurd (zP (x.lt q) e) (yF _)
theorem HOk.kept (x:HOk P w H h) (k:∀b u,h.get? b=some u->h'.get? b=some u):HOk P w H h':=λa o e=>
 (x a o e).stay (λb u _ q=>k b u q) (λ_ q=>q) λ_ _ q=>q
theorem HOk.laid (x:HOk P w H h) (k:∀b u,h.get? b=some u->h'.get? b=some u) (hp:h.objs.size<=a) (new:ObjOk P w (upd H a o) h' a o):HOk P w (upd H a o) h':=λb u e=>by
 have hn:=x.fresh hp;by_cases hb:b=a;. subst hb;rw[AN] at e;cases e;exact new
 . rw[AS hb] at e;exact(x b u e).stay (λc v _ q=>k c v q) (λc q=>by rw[AS (BX q hn)];exact q) λc xs q=>by rw[AS (BX q hn)];exact q
end
def Rd (H:Hp) (a:Addr) (u:HO):Prop:=H a=some u\/∃o,H a=some (.frz o u)
theorem Rd.ok {P:Program}{w:World}{H:Hp}{h:Heap}{a:Addr}{u:HO}(r:Rd H a u) (x:HOk P w H h):ObjOk P w H h a u:=by
 rcases r with r | ⟨o,r⟩
 . exact x a u r
 . obtain⟨_,q⟩:=x a _ r;exact q
def Mut:Option HO->Prop
 | some (.lst _)=>True
 | some (.dK _)=>True
 | some (.dT _)=>True
 | some (.set _ _)=>True
 | some (.ins _ _ _)=>True
 | some (.ext _)=>True
 | _=>False
section
variable {P:Program}{w:World}{H:Hp}{h h':Heap}{x e:Addr}{o':HO}
theorem HOk.write (ok:HOk P w H h) (mu:Mut (H x)) (he:e=x\/H e=some (.own x)) (k:∀b u,b≠e->h.get? b=some u->h'.get? b=some u) (kg:∃u,h'.get? e=some u) (new:ObjOk P w (upd H x o') h' x o'):HOk P w (upd H x o') h':=λb u q=>by
 have kz:∀c y,H c=some (.own y)->c≠x:=λc y r z=>by subst z;rw[r] at mu;exact mu
 have qp:∀c xs,H c=some (.tup xs)->c≠x:=λc xs r z=>by subst z;rw[r] at mu;exact mu
 by_cases hb:b=x;. subst hb;rw[AN] at q;cases q;exact new
 . rw[AS hb] at q;by_cases hbe:b=e
   . have q':H b=some (.own x):=by
       rcases he with z | z;. exact absurd (hbe.trans z) hb
       . rw[hbe];exact z
     rw[q] at q';cases q';obtain⟨v,hv⟩:=kg;exact⟨v,by rw[hbe];exact hv⟩
   . refine(ok b u q).stay (λc v hc r=>k c v ?_ r) (λc r=>by rw[AS (kz c b r)];exact r) λc xs r=>by rw[AS (qp c xs r)];exact r
     rcases hc with rfl | hc;. exact hbe
     . rintro rfl;rcases he with z | z;. exact kz c b hc z
       . rw[hc] at z;cases z;exact hb rfl
end
structure Un (fs ex:List Addr) (H H':Hp) (h h':Heap):Prop where
 keep:∀b o,h.get? b=some o->H b=none->b∉fs->b∉ex->h'.get? b=some o
 slot:∀b o,h.get? b=some o->H b=none->b∈fs->b∉ex->∃sl,h'.get? b=some { o with slots:=sl }
 free:∀b o,h.get? b=some o->H b=none->b∉ex->H' b=none
 there:∀b o,h.get? b=some o->b∉ex->∃o',h'.get? b=some o'
 tups:∀b xs,H b=some (.tup xs)->H' b=some (.tup xs)
 frzs:∀b o u,H b=some (.frz o u)->H' b=some (.frz o u)
 tbls:∀b ps,H b=some (.tbl ps)->∃more,H' b=some (.tbl (ps++more))
section
variable {fs ud ex pb:List Addr}{H H1 H2:Hp}{h h1 h2 h':Heap}{a x e:Addr}{o:HO}
theorem Un.any (u:Un fs ex H H1 h h1) {b:Addr}{ob:Obj}(q:h.get? b=some ob) (n:H b=none) (hx:b∉ex):∃sl,h1.get? b=some { ob with slots:=sl }:=by
 by_cases hb:b∈fs;. exact u.slot b ob q n hb hx
 . exact⟨ob.slots,u.keep b ob q n hb hx⟩
theorem Un.kept (k:∀b u,h.get? b=some u->h'.get? b=some u):Un fs ex H H h h':=⟨λb ob q _ _ _=>k b ob q,λb ob q _ _ _=>⟨ob.slots,k b ob q⟩,λ_ _ _ n _=>n,λb ob q _=>⟨ob,k b ob q⟩,λ_ _ q=>q,λ_ _ _ q=>q,λ_ ps q=>⟨#[],by rw[q];simp⟩⟩
theorem Un.refl:Un fs ex H H h h:=Un.kept λ_ _ q=>q
theorem Un.laid (k:∀b u,h.get? b=some u->h'.get? b=some u) (hp:h.objs.size<=a) (hn:H a=none):Un fs ex H (upd H a o) h h' where
 keep:=λb u q _ _ _=>k b u q
 slot:=λb u q _ _ _=>⟨u.slots,k b u q⟩
 free:=λb u q n _=>by rw[AS (zC (zP (zM q) hp))];exact n
 there:=λb u q _=>⟨u,k b u q⟩
 tups:=λb xs q=>by rw[AS (BX q hn)];exact q
 frzs:=λb u xs q=>by rw[AS (BX q hn)];exact q
 tbls:=λb ps q=>⟨#[],by rw[AS (BX q hn),q];simp⟩
theorem Un.write (mu:Mut (H x)) (he:e=x\/H e=some (.own x)) (k:∀b u,b≠e->h.get? b=some u->h'.get? b=some u) (kg:∃u,h'.get? e=some u):Un fs ex H (upd H x o) h h':=by
 have hx:∀b,H b=none->b≠x:=λb n z=>by subst z;rw[n] at mu;exact mu
 have hb:∀b,H b=none->b≠e:=λb n z=>by
   subst z;rcases he with r | r;. exact hx b n r
   . rw[n] at r;cases r
 have hm:∀b u,H b=some u->¬Mut (some u)->b≠x:=λb u q nm z=>by subst z;rw[q] at mu;exact nm mu
 refine⟨λb u q n _ _=>k b u (hb b n) q,λb u q n _ _=>⟨u.slots,k b u (hb b n) q⟩,λb u q n _=>by rw[AS (hx b n)];exact n,λb u q _=>?_,
   λb xs q=>by rw[AS (hm b _ q λz=>z)];exact q,λb u xs q=>by rw[AS (hm b _ q λz=>z)];exact q,λb ps q=>⟨#[],by rw[AS (hm b _ q λz=>z),q];simp⟩⟩;by_cases hbe:b=e
 . subst hbe;exact kg
 . exact⟨u,k b u hbe q⟩
end
def trk (h:Heap) (H:Hp):List Addr:=(a0Z h.objs.size).filter λa=>(H a).isSome
def QU (h:Heap) (H:Hp):Heap:=PySem.W.hideAll h (trk h H)
theorem Y4 (h:Heap) (H:Hp):(QU h H).objs.size=h.objs.size:=PySem.W.hideAll_size _ _
theorem ZS {h:Heap}{H:Hp}{b:Addr}{o:Obj}(e:h.get? b=some o) (n:H b=none):(QU h H).get? b=some o:=
 PySem.W.hideAll_get _ e λhm=>by have q:(H b).isSome=true:=(yL.mp hm).2;rw[n] at q;simp at q
theorem eF {h:Heap}{H:Hp}{b:Addr}{o:Obj}(e:(QU h H).get? b=some o):h.get? b=some o/\H b=none:=by
 have e':h.get? b=some o:=PySem.W.of_hideAll (trk h H) e;refine⟨e',?_⟩;cases q:H b with
 | none=>rfl
 | some x=> have hm:b∈trk h H:=yL.mpr ⟨List.mem_range.mpr (zM e'),by simp[q]⟩;have z:(QU h H).get? b=none:=PySem.W.hideAll_none (trk h H) hm;rw[z] at e;cases e
structure Mod (K:Frg) (mg:Str->Option Value) (base:Heap):Prop where
 kin:K.In base
 glob:base.Ns mainGlobals mg
 blt:∃mb,base.Ns builtinsNs mb/\∀x:Str,x ≠ "__name__" -> mb x=bootBuiltins x
 nolimit:base.NoLimit
structure Cx where
 prog:Program
 w:World
 K:Frg
 mg:Str->Option Value
 base:Heap
 A:Around
 N:List Str
 s₀:Shared
 H₀:Hp
 env:Env
 outer:List Env
 stack:List Env
 ex:List Addr
 fn:Str->Bool
 calm:Bool
 pn:List (Addr×Obj)
 xe:Value->Shared->Prop
def frs (l:List Env):List Addr:=l.filterMap (·.frame)
abbrev Cx.fs (X:Cx):List Addr:=frs X.outer
def Vis (sc:Scope) (x:Str):Prop:=sc.names.lookup x=some .local\/sc.names.lookup x=some .cell\/sc.names.lookup x=some .free
def Loc (sc:Scope) (x:Str):Prop:=sc.names.lookup x=some .local\/sc.names.lookup x=some .cell
def pC (env:Env) (h:Heap) (m:Str->Option Value) (x:Str) (u:Value):Prop:=(env.kindOf x=some .local/\m x=some u)\/((env.kindOf x=some .cell\/env.kindOf x=some .free)/\∃c,env.cells.lookup x=some c/\h.IsCell c (some u))
structure Cx.Ok (X:Cx):Prop where
 mod:Mod X.K X.mg X.base
 kind:X.env.scope.kind = .function
 glob:X.env.globals=mainGlobals
 blt:X.env.builtins=builtinsNs
 above:X.s₀.heap.objs.size<=X.env.locals
 inj:∀x y c,X.env.cells.lookup x=some c->X.env.cells.lookup y=some c->x=y
 has:∀x,(X.env.kindOf x=some .cell\/X.env.kindOf x=some .free)->∃c,X.env.cells.lookup x=some c
 cab:∀x c,X.fn x=true->X.env.cells.lookup x=some c->X.s₀.heap.objs.size<=c
 hd:X.calm=true->X.A.handled=none
 frames:X.A.frames=some X.stack
 stk:X.stack=X.outer\/(X.stack=X.env::X.outer/\X.env.frame=some X.env.locals)
 exf:∀b∈X.ex,b≠X.env.locals/\∀x c,X.env.cells.lookup x=some c->c≠b
 bs:∀b o,X.base.get? b=some o->X.s₀.heap.get? b=some o/\X.H₀ b=none
 bsz:X.base.objs.size<=X.s₀.heap.objs.size
 noex:∀b o,X.base.get? b=some o->b∉X.ex
 exfs:∀b∈X.ex,b∉X.fs
 funs:X.s₀.heap.FunFrames X.base X.outer
 frf:∀b∈X.fs,X.H₀ b=none
structure Inv (X:Cx) (pins:List (Addr×Obj)) (σ:List (Option V)) (H:Hp) (s:Shared):Prop where
 ok:X.Ok
 os:s.os=X.s₀.os
 bare:AllBare s.gens
 base:Un X.fs X.ex X.H₀ H X.s₀.heap s.heap
 loc:∃m,s.heap.Ns X.env.locals m/\∀(i:Nat) (x:Str) (v:V),X.N[i]?=some x->σ[i]?=some (some v)->Vis X.env.scope x->∃u,RelV v u/\pC X.env s.heap m x u
 cell:∀x c,X.env.cells.lookup x=some c->∃v,s.heap.IsCell c v
 free:H X.env.locals=none
 freeC:∀x c,X.env.cells.lookup x=some c->H c=none
 pin:∀p∈X.pn++pins,s.heap.get? p.1=some p.2/\H p.1=none/\p.1≠X.env.locals/\p.1∉X.fs/\∀v,p.2.data≠.cell v
 hok:HOk X.prog X.w H s.heap
 len:σ.length=X.N.length
section
variable {X:Cx}{pins:List (Addr×Obj)}{σ:List (Option V)}{H H':Hp}{s:Shared}{h':Heap}
theorem Cx.Ok.nofr (ok:X.Ok) {b:Addr}{o:Obj}(e:X.base.get? b=some o):b∉X.fs:=λhb=>by have:=(ok.funs.mem hb).1;rw[e] at this;cases this
theorem Inv.bs (I:Inv X pins σ H s):∀b o,X.base.get? b=some o->s.heap.get? b=some o/\H b=none:=λb o e=>
 ⟨I.base.keep b o (I.ok.bs b o e).1 (I.ok.bs b o e).2 (I.ok.nofr e) (I.ok.noex b o e),I.base.free b o (I.ok.bs b o e).1 (I.ok.bs b o e).2 (I.ok.noex b o e)⟩
theorem Inv.bk (I:Inv X pins σ H s):∀b o,X.base.get? b=some o->s.heap.get? b=some o:=λb o e=>(I.bs b o e).1
theorem Inv.mod (I:Inv X pins σ H s):Mod X.K X.mg X.base:=I.ok.mod
theorem Inv.kIn (I:Inv X pins σ H s):X.K.In s.heap:=I.ok.mod.kin.keeps I.bk
theorem Inv.lt (I:Inv X pins σ H s):X.env.locals < s.heap.objs.size:=let ⟨_,hn,_⟩:=I.loc;hn.lt
theorem Inv.sz (I:Inv X pins σ H s):X.s₀.heap.objs.size<=s.heap.objs.size:=zN I.ok.above (xR I.lt)
theorem Inv.nofs (I:Inv X pins σ H s) {a:Addr}(h:s.heap.objs.size<=a):a∉X.fs:=λhb=>by obtain⟨_,o,ho,_⟩:=I.ok.funs.mem hb;exact absurd (zP (zM ho) (zN I.sz h)) (yF _)
theorem Inv.cne (I:Inv X pins σ H s):∀x c,X.env.cells.lookup x=some c->c≠X.env.locals:=λx c e z=>by obtain⟨v,o,ho,hd⟩:=I.cell x c e;obtain⟨m,⟨o',es,ep,cu,jr,_⟩,_⟩:=I.loc;rw[z,cu] at ho;cases ho;rw[jr] at hd;cases hd
theorem Inv.funs (I:Inv X pins σ H s):s.heap.FunFrames X.base X.outer:=by
 have all:∀(l:List Env),(∀b∈frs l,b∈X.fs)->X.s₀.heap.FunFrames X.base l->s.heap.FunFrames X.base l:=by
   intro l;induction l with
   | nil=>intro _ _;trivial
   | cons env r ih=> intro hs hl;obtain⟨hk,⟨L,o,hf,hn,ho,hd⟩,hr⟩:=hl;have hL:L∈X.fs:=hs L (by unfold frs;rw[a7J,hf];exact a1X);obtain⟨sl,e⟩:=I.base.slot L o ho (I.ok.frf L hL) hL λz=>I.ok.exfs L z hL;exact⟨hk,⟨L,_,hf,hn,e,hd⟩,ih (λb hb=>hs b (by unfold frs;rw[a7J,hf];exact yV _ hb)) hr⟩
 exact all X.outer (λ_ hb=>hb) I.ok.funs
theorem Inv.stack (I:Inv X pins σ H s):s.heap.FunFrames X.base X.stack:=by
 rcases I.ok.stk with e | ⟨e,hf⟩
 . rw[e];exact I.funs
 . rw[e];obtain⟨m,hn,_⟩:=I.loc;refine .cons (by rw[I.ok.kind];decide) hf hn ?_ I.funs;exact Heap.get?_none_of_le (zN I.ok.bsz I.ok.above)
theorem Inv.stkSub (I:Inv X pins σ H s):∀b∈frs X.stack,b∈X.env.locals::X.fs:=λb hb=>by
 rcases I.ok.stk with e | ⟨e,hf⟩
 . rw[e] at hb;exact yV _ hb
 . rw[e] at hb;unfold frs at hb;rw[a7J,hf] at hb;exact hb
theorem Inv.stkFree (I:Inv X pins σ H s):∀b∈frs X.stack,H b=none:=λb hb=>by
 rcases yX.mp (I.stkSub b hb) with e | hb;. rw[e];exact I.free
 . obtain⟨_,o,ho,_⟩:=I.ok.funs.mem hb;exact I.base.free b o ho (I.ok.frf b hb) λz=>I.ok.exfs b z hb
theorem Inv.step {g':Array GenState}{t':Nat}{d':Drawn}{ch:List Addr}(I:Inv X pins σ H s) (ic:∀b∈ch,(b∈X.ex\/X.s₀.heap.objs.size<=b)/\b≠X.env.locals/\(∀x c,X.env.cells.lookup x=some c->c≠b)/\∀p∈X.pn++pins,p.1≠b) (keep:∀b o,b≠X.env.locals->b∉X.fs->b∉ch->s.heap.get? b=some o->H b=none->h'.get? b=some o) (slot:∀b o,b≠X.env.locals->b∈X.fs->b∉ch->s.heap.get? b=some o->H b=none->∃sl,h'.get? b=some { o with slots:=sl }) (free:∀b o,b∉ch->s.heap.get? b=some o->H b=none->H' b=none) (there:∀b o,b∉ch->s.heap.get? b=some o->∃o',h'.get? b=some o') (tups:∀b xs,H b=some (.tup xs)->H' b=some (.tup xs)) (frzs:∀b o u,H b=some (.frz o u)->H' b=some (.frz o u)) (tbls:∀b ps,H b=some (.tbl ps)->∃more,H' b=some (.tbl (ps++more))) (ns:∀m,s.heap.Ns X.env.locals m->h'.Ns X.env.locals m) (hok:HOk X.prog X.w H' h') (hg:AllBare g') :
   Inv X pins σ H' { s with heap:=h',gens:=g',drawn:=d',toks:=t' }:=by
 have rQ:∀b o,X.s₀.heap.get? b=some o->b≠X.env.locals:=λb o e=>zC (zP (zM e) I.ok.above);have pd:∀b o,X.s₀.heap.get? b=some o->b∉X.ex->b∉ch:=λb o e hx hb=>by
   rcases (ic b hb).1 with z | z;. exact hx z
   . exact absurd (zP (zM e) z) (yF _)
 have cellK:∀x c,X.env.cells.lookup x=some c->∀v,s.heap.IsCell c v->h'.IsCell c v:=λx c e v ⟨o,ho,hd⟩=>by
   have k_:c∉ch:=λz=>(ic c z).2.2.1 x c e rfl;by_cases hc:c∈X.fs;. obtain⟨sl,q⟩:=slot c o (I.cne x c e) hc k_ ho (I.freeC x c e);exact⟨_,q,hd⟩
   . exact⟨o,keep c o (I.cne x c e) hc k_ ho (I.freeC x c e),hd⟩
 refine⟨I.ok,I.os,hg,⟨λb o e n hb hx=>?_,λb o e n hb hx=>?_,λb o e n hx=>?_,λb o e hx=>?_,λb xs e=>tups b xs (I.base.tups b xs e),λb o xs e=>frzs b o xs (I.base.frzs b o xs e),λb ps e=>?_⟩,?_,λx c e=>?_,?_,λx c e=>?_,λp hp=>?_,hok,I.len⟩;. exact keep b o (rQ b o e) hb (pd b o e hx) (I.base.keep b o e n hb hx) (I.base.free b o e n hx)
 . obtain⟨sl,e1⟩:=I.base.slot b o e n hb hx;obtain⟨ue,e2⟩:=slot b _ (rQ b o e) hb (pd b o e hx) e1 (I.base.free b o e n hx);exact⟨ue,e2⟩
 . obtain⟨o',e1⟩:=I.base.there b o e hx;exact free b o' (pd b o e hx) e1 (I.base.free b o e n hx)
 . obtain⟨o',e1⟩:=I.base.there b o e hx;exact there b o' (pd b o e hx) e1
 . obtain⟨m1,e1⟩:=I.base.tbls b ps e;obtain⟨m2,e2⟩:=tbls b _ e1;exact⟨m1++m2,by rw[e2,Array.append_assoc]⟩
 . obtain⟨m,hn,hl⟩:=I.loc;refine⟨m,ns m hn,λi x v e1 e2 e3=>?_⟩;obtain⟨u,r,l⟩:=hl i x v e1 e2 e3;refine⟨u,r,?_⟩;rcases l with l | ⟨k,c,e,z⟩
   . exact .inl l
   . exact .inr ⟨k,c,e,cellK x c e _ z⟩
 . obtain⟨v,z⟩:=I.cell x c e;exact⟨v,cellK x c e v z⟩
 . obtain⟨m,⟨o,_,_,ho,_⟩,_⟩:=I.loc;exact free _ o (λz=>(ic _ z).2.1 rfl) ho I.free
 . obtain⟨v,o,ho,hd⟩:=I.cell x c e;exact free c o (λz=>(ic c z).2.2.1 x c e rfl) ho (I.freeC x c e)
 . obtain⟨e,n,ne,nf,d⟩:=I.pin p hp;have k_:p.1∉ch:=λz=>(ic p.1 z).2.2.2 p hp rfl;exact⟨keep p.1 p.2 ne nf k_ e n,free p.1 p.2 k_ e n,ne,nf,d⟩
theorem Inv.un {t':Nat}(I:Inv X pins σ H s) (u:Un X.fs [] H H' s.heap h') (hok:HOk X.prog X.w H' h'):Inv X pins σ H' { s with heap:=h',toks:=t' }:=by obtain⟨m,⟨o,es,ep,ho,r⟩,_⟩:=id I.loc;obtain⟨sl,hL⟩:=u.any ho I.free (by simp);exact I.step (g':=s.gens) (d':=s.drawn) (ch:=[]) (λ_ z=>nomatch z) (λb o _ hb _ e n=>u.keep b o e n hb (by simp)) (λb o _ hb _ e n=>u.slot b o e n hb (by simp)) (λb o _ e n=>u.free b o e n (by simp)) (λb o _ e=>u.there b o e (by simp)) u.tups u.frzs u.tbls (λm' hm=>by obtain⟨o',aw,ff,cu,r'⟩:=hm;rw[ho] at cu;cases cu;exact⟨_,aw,ff,hL,r'⟩) hok I.bare
theorem Inv.call {g':Array GenState}{t':Nat}{d':Drawn}{ch:List Addr}(I:Inv X pins σ H s) (u:Un (frs X.stack) ch H H' s.heap h') (hok:HOk X.prog X.w H' h') (hg:AllBare g') (ic:∀b∈ch,(b∈X.ex\/X.s₀.heap.objs.size<=b)/\b≠X.env.locals/\(∀x c,X.env.cells.lookup x=some c->c≠b)/\∀p∈X.pn++pins,p.1≠b) :
   Inv X pins σ H' { s with heap:=h',gens:=g',drawn:=d',toks:=t' }:=by obtain⟨m,⟨o,es,ep,ho,r⟩,_⟩:=id I.loc;obtain⟨sl,hL⟩:=u.any ho I.free λz=>(ic _ z).2.1 rfl;exact I.step (ch:=ch) ic (λb o hL hb hc e n=>u.keep b o e n (λz=>(yX.mp (I.stkSub b z)).elim hL hb) hc) (λb o _ _ hc e n=>u.any e n hc) (λb o hc e n=>u.free b o e n hc) (λb o hc e=>u.there b o e hc) u.tups u.frzs u.tbls (λm' hm=>by obtain⟨o',aw,ff,cu,r'⟩:=hm;rw[ho] at cu;cases cu;exact⟨_,aw,ff,hL,r'⟩) hok hg
theorem Inv.turned {t':Nat}{it:Addr}(I:Inv X pins σ H s) (k:∀b o,b≠it->s.heap.get? b=some o->h'.get? b=some o) (hn:H it=none) (hL:it≠X.env.locals) (h1:it∈X.ex\/X.s₀.heap.objs.size<=it) (h2:∀x c,X.env.cells.lookup x=some c->c≠it) (h3:∀p∈X.pn++pins,p.1≠it):Inv X pins σ H { s with heap:=h',toks:=t' }:=by
 have rR:∀b u,H b=some u->b≠it:=λb u e z=>by rw[z,hn] at e;cases e
 refine I.step (g':=s.gens) (d':=s.drawn) (ch:=[it]) (λb hb=>?_) (λb o _ _ hc e _=>k b o (λz=>hc (by simp[z])) e) (λb o _ _ hc e _=>⟨o.slots,k b o (λz=>hc (by simp[z])) e⟩) (λ_ _ _ _ n=>n)
   (λb o hc e=>⟨o,k b o (λz=>hc (by simp[z])) e⟩) (λ_ _ e=>e) (λ_ _ _ e=>e) (λb ps e=>⟨#[],by rw[e];simp⟩) (λm hm=>?_) (λb u e=>?_) I.bare
 . have e:b=it:=by simpa using hb
   subst e;exact⟨h1,hL,h2,h3⟩
 . obtain⟨o,es,ep,ho,r⟩:=hm;exact⟨o,es,ep,k _ o (a3J hL) ho,r⟩
 . refine(I.hok b u e).stay (λc v hc q=>k c v ?_ q) (λ_ q=>q) λ_ _ q=>q;rcases hc with z | z;. rw[z];exact rR b u e
   . exact rR c _ z
theorem Inv.tok (I:Inv X pins σ H s) (t:Nat):Inv X pins σ H { s with toks:=t }:=I.un (h':=s.heap) (t':=t) Un.refl I.hok
theorem Inv.kept {t':Nat}(I:Inv X pins σ H s) (k:∀b u,s.heap.get? b=some u->h'.get? b=some u):Inv X pins σ H { s with heap:=h',toks:=t' }:=I.un (Un.kept k) (I.hok.kept k)
theorem Inv.laid {a:Addr}{o:HO}{t':Nat}(I:Inv X pins σ H s) (k:∀b u,s.heap.get? b=some u->h'.get? b=some u) (hp:s.heap.objs.size<=a) (new:ObjOk X.prog X.w (upd H a o) h' a o) :
   Inv X pins σ (upd H a o) { s with heap:=h',toks:=t' }:=I.un (Un.laid k hp (I.hok.fresh hp)) (I.hok.laid k hp new)
theorem Inv.write {x e:Addr}{o:HO}{t':Nat}(I:Inv X pins σ H s) (mu:Mut (H x)) (he:e=x\/H e=some (.own x)) (k:∀b u,b≠e->s.heap.get? b=some u->h'.get? b=some u) (kg:∃u,h'.get? e=some u) (new:ObjOk X.prog X.w (upd H x o) h' x o):Inv X pins σ (upd H x o) { s with heap:=h',toks:=t' }:=I.un (Un.write mu he k kg) (I.hok.write mu he k kg new)
theorem Inv.weak {σ':List (Option V)}(I:Inv X pins σ H s) (hl:σ'.length=σ.length) (w:∀(i:Nat) v,σ'[i]?=some (some v)->σ[i]?=some (some v)):Inv X pins σ' H s:=⟨I.ok,I.os,I.bare,I.base,let ⟨m,hn,qq⟩:=I.loc;⟨m,hn,λi x v e1 e2 e3=>qq i x v e1 (w i v e2) e3⟩,I.cell,I.free,I.freeC,I.pin,I.hok,hl.trans I.len⟩
theorem Inv.pins_of {gg:List (Addr×Obj)}(I:Inv X pins σ H s) (h:∀p∈gg,s.heap.get? p.1=some p.2/\H p.1=none/\p.1≠X.env.locals/\p.1∉X.fs/\∀v,p.2.data≠.cell v):Inv X gg σ H s:=⟨I.ok,I.os,I.bare,I.base,I.loc,I.cell,I.free,I.freeC,λp hp=>(yW.mp hp).elim (λz=>I.pin p (zA _ z)) (h p),I.hok,I.len⟩
theorem SM {N:List Str}(hN:N.Nodup) {i j:Nat}{x:Str}(a:N[i]?=some x) (b:N[j]?=some x):i=j:=by obtain⟨h1,e1⟩:=yT.mp a;obtain⟨h2,e2⟩:=yT.mp b;exact(List.getElem_inj hN).mp (e1.trans e2.symm)
theorem Y5 {M:Model}{A:Around}{E:Value->Shared->Prop}{i:Nat}{x:Str}{v:V}{u:Value}{Q:Unit->Shared->Prop}(I:Inv X pins σ H s) (hN:X.N.Nodup) (hi:X.N[i]?=some x) (hx:Loc X.env.scope x) (r:RelV v u) (h:∀s',Inv X pins (σ.set i (some v)) H s'->(∃a,Heap.SameBut a s.heap s'.heap/\(a=X.env.locals\/X.env.cells.lookup x=some a))->Q () s') (hf:X.fn x=true\/X.env.scope.names.lookup x=some .local:=by first | exact .inl rfl | exact .inr rfl | assumption):wpAny M A (storeName X.env x u) Q E s:=by
 obtain⟨m,hn,hl⟩:=id I.loc;have qr:(X.env.scope.kind==.class||(X.env.scope.kind==.module&&X.env.locals != X.env.globals))=false:=by rw[I.ok.kind];rfl
 have rS:i < σ.length:=by rw[I.len];exact(yT.mp hi).1
 have cne:=I.cne;have tracked:∀{a:Addr}{h':Heap},(∃o,s.heap.get? a=some o/\H a=none)->Heap.SameBut a s.heap h'->HOk X.prog X.w H h':=λ{a h'} ha hs b ob e=>by
   obtain⟨_,_,jc⟩:=ha;refine(I.hok b ob e).stay (λc w' hc q=>(hs.2 c ?_).trans q) (λ_ q=>q) λ_ _ q=>q;rintro rfl;rcases hc with rfl | hc;. rw[jc] at e;cases e
   . rw[jc] at hc;cases hc
 rcases hx with hk | hk
 . refine wpAny_storeName_local hk hn (λh' az hs=>?_) qr;obtain⟨oL,_,_,d_,_⟩:=id hn;refine h _ ⟨I.ok,I.os,I.bare,⟨λb o e n hb hx=>?_,λb o e n hb hx=>?_,I.base.free,λb o e hx=>?_,I.base.tups,I.base.frzs,I.base.tbls⟩,⟨_,az,λj y v' e1 e2 e3=>?_⟩,λy c e=>?_,I.free,I.freeC,λp hp=>?_,tracked ⟨oL,d_,I.free⟩ hs,by simpa using I.len⟩ ⟨_,hs,.inl rfl⟩;. exact(hs.2 b (zC (zP (zM e) I.ok.above))).trans (I.base.keep b o e n hb hx)
   . obtain⟨sl,e1⟩:=I.base.slot b o e n hb hx;exact⟨sl,(hs.2 b (zC (zP (zM e) I.ok.above))).trans e1⟩
   . obtain⟨o',e1⟩:=I.base.there b o e hx;exact⟨o',(hs.2 b (zC (zP (zM e) I.ok.above))).trans e1⟩
   . by_cases hj:j=i;. subst hj;rw[hi] at e1;cases e1;rw[List.getElem?_set_self rS] at e2;cases e2;exact⟨u,r,.inl ⟨hk,by simp⟩⟩
     . rw[b2K (a3J hj)] at e2;obtain⟨u',r',q⟩:=hl j y v' e1 e2 e3;refine⟨u',r',?_⟩;rcases q with ⟨k,e⟩ | ⟨k,c,e,z⟩
       . refine .inl ⟨k,?_⟩;have:y≠x:=λe=>hj (SM hN e1 (e▸hi));simp[this,e]
       . exact .inr ⟨k,c,e,z.sameBut hs (cne y c e)⟩
   . obtain⟨w',z⟩:=I.cell y c e;exact⟨w',z.sameBut hs (cne y c e)⟩
   . obtain⟨e,n,ne,nf,d⟩:=I.pin p hp;exact⟨(hs.2 p.1 ne).trans e,n,ne,nf,d⟩
 . have qt:X.fn x=true:=by
     rcases hf with z | z;. exact z
     . rw[z] at hk;cases hk
   obtain⟨c,hc⟩:=I.ok.has x (.inl hk);obtain⟨w',z⟩:=I.cell x c hc;refine wpAny_storeName_cell I.ok.kind hk hc z (λh' fw hs=>?_);obtain⟨oc,rT,qu⟩:=id z;refine h { s with heap:=h' } ⟨I.ok,I.os,I.bare,⟨λb o e n hb hx=>?_,λb o e n hb hx=>?_,I.base.free,λb o e hx=>?_,I.base.tups,I.base.frzs,I.base.tbls⟩,⟨m,hn.sameBut hs (a3J (cne x c hc)),λj y v' e1 e2 e3=>?_⟩,λy c' e=>?_,I.free,I.freeC,λp hp=>?_,tracked ⟨oc,rT,I.freeC x c hc⟩ hs,by simpa using I.len⟩ ⟨c,hs,.inr hc⟩;. exact(hs.2 b (zC (zP (zM e) (I.ok.cab x c qt hc)))).trans (I.base.keep b o e n hb hx)
   . obtain⟨sl,e1⟩:=I.base.slot b o e n hb hx;exact⟨sl,(hs.2 b (zC (zP (zM e) (I.ok.cab x c qt hc)))).trans e1⟩
   . obtain⟨o',e1⟩:=I.base.there b o e hx;exact⟨o',(hs.2 b (zC (zP (zM e) (I.ok.cab x c qt hc)))).trans e1⟩
   . by_cases hj:j=i;. subst hj;rw[hi] at e1;cases e1;rw[List.getElem?_set_self rS] at e2;cases e2;exact⟨u,r,.inr ⟨.inl hk,c,hc,fw⟩⟩
     . rw[b2K (a3J hj)] at e2;obtain⟨u',r',q⟩:=hl j y v' e1 e2 e3;refine⟨u',r',?_⟩;rcases q with q | ⟨k,c',e,z'⟩
       . exact .inl q
       . refine .inr ⟨k,c',e,z'.sameBut hs ?_⟩;rintro rfl;exact hj (SM hN e1 (I.ok.inj _ _ _ e hc▸hi))
   . by_cases hcc:c'=c;. subst hcc;exact⟨_,fw⟩
     . obtain⟨w2,z2⟩:=I.cell y c' e;exact⟨w2,z2.sameBut hs hcc⟩
   . obtain⟨e,n,ne,nf,d⟩:=I.pin p hp;refine⟨(hs.2 p.1 ?_).trans e,n,ne,nf,d⟩;intro q;rw[q,rT] at e;have q':oc=p.2:=Option.some.inj e;exact d w' (by rw[<-q'];exact qu)
theorem HL {M:Model}{A:Around}{E:Value->Shared->Prop}{i:Nat}{x:Str}{v:V}{u:Value}{Q:Unit->Shared->Prop}(I:Inv X pins σ H s) (hN:X.N.Nodup) (hi:X.N[i]?=some x) (hx:Loc X.env.scope x) (r:RelV v u) (h:∀s',Inv X pins (σ.set i (some v)) H s'->Q () s') (hf:X.fn x=true\/X.env.scope.names.lookup x=some .local:=by first | exact .inl rfl | exact .inr rfl | assumption):wpAny M A (storeName X.env x u) Q E s:=
 Y5 I hN hi hx r (λs' I' _=>h s' I') hf
theorem Inv.call' {s':Shared}{ch:List Addr}(I:Inv X pins σ H s) (ho:s'.os=s.os) (u:Un (frs X.stack) ch H H' s.heap s'.heap) (hok:HOk X.prog X.w H' s'.heap) (hg:AllBare s'.gens) (ic:∀b∈ch,(b∈X.ex\/X.s₀.heap.objs.size<=b)/\b≠X.env.locals/\(∀x c,X.env.cells.lookup x=some c->c≠b)/\∀p∈X.pn++pins,p.1≠b):Inv X pins σ H' s':=by obtain⟨h',g',d',t',o'⟩:=s';have e:o'=s.os:=ho;subst e;exact I.call (g':=g') (t':=t') (d':=d') u hok hg ic
end
abbrev XK:=Value->Option Addr->Hp->Prop
abbrev St:=List (Option V)
abbrev VK:=V->Hp->Prop
abbrev TE:=St->Hp->VK->Prop
abbrev TT:=St->Hp->(Bool->Hp->Prop)->Prop
abbrev TA:=St->Hp->(List V->Hp->Prop)->Prop
structure Ends where
 nx:St->Hp->Prop
 rt:VK
 bk:St->Hp->Prop:=λ_ _=>False
 ct:St->Hp->Prop:=λ_ _=>False
abbrev TS:=Ends->St->Hp->Prop
def EP (X:Cx) (pins:List (Addr×Obj)) (σ:St) (Q:VK) (u:Value) (s':Shared):Prop:=∃v H',Inv X pins σ H' s'/\RelV v u/\Q v H'
def TP (X:Cx) (pins:List (Addr×Obj)) (σ:St) (Q:Bool->Hp->Prop) (b:Bool) (s':Shared):Prop:=∃H',Inv X pins σ H' s'/\Q b H'
def AP (X:Cx) (pins:List (Addr×Obj)) (σ:St) (Q:List V->Hp->Prop) (us:List Value) (s':Shared):Prop:=∃vs H',Inv X pins σ H' s'/\Vals vs us/\Q vs H'
def SP (X:Cx) (pins:List (Addr×Obj)) (D:Ends) (f:Flow) (s':Shared):Prop:=
 match f with
 | .next=>∃σ' H',Inv X pins σ' H' s'/\D.nx σ' H'
 | .brk=>∃σ' H',Inv X pins σ' H' s'/\D.bk σ' H'
 | .cont=>∃σ' H',Inv X pins σ' H' s'/\D.ct σ' H'
 | .ret u=>∃v σ' H',Inv X pins σ' H' s'/\RelV v u/\D.rt v H'
def PE (X:Cx) (e:Expr) (t:TE):Prop:=∀(pins:List (Addr×Obj)) (s:Shared) (σ:St) (H:Hp) (Q:VK),Inv X pins σ H s->t σ H Q->wpAny (model X.prog X.w) X.A (eval e X.env) (EP X pins σ Q) X.xe s
def PT (X:Cx) (e:Expr) (t:TT):Prop:=∀(pins:List (Addr×Obj)) (s:Shared) (σ:St) (H:Hp) (Q:Bool->Hp->Prop),Inv X pins σ H s->t σ H Q->wpAny (model X.prog X.w) X.A (isTrue e X.env (eval e X.env)) (TP X pins σ Q) X.xe s
def PW (X:Cx) (e:Expr) (t:TT):Prop:=∀(whole:Sem Value) (pins:List (Addr×Obj)) (s:Shared) (σ:St) (H:Hp) (Q:Bool->Hp->Prop),Inv X pins σ H s->t σ H Q->wpAny (model X.prog X.w) X.A (isTrue e X.env whole) (TP X pins σ Q) X.xe s
theorem PW.pt {X:Cx}{e:Expr}{t:TT}(h:PW X e t):PT X e t:=h _
def PA (X:Cx) (es:List Expr) (t:TA):Prop:=∀(pos:Pos) (pins:List (Addr×Obj)) (s:Shared) (σ:St) (H:Hp) (Q:List V->Hp->Prop),Inv X pins σ H s->t σ H Q->wpAny (model X.prog X.w) X.A (spliced (backTo pos (starEach es X.env))) (AP X pins σ Q) X.xe s
def PS (X:Cx) (st:Stmt) (t:TS):Prop:=∀(pins:List (Addr×Obj)) (s:Shared) (σ:St) (H:Hp) (D:Ends),Inv X pins σ H s->t D σ H->wpAny (model X.prog X.w) X.A (exec st X.env) (SP X pins D) X.xe s
def PSs (X:Cx) (st:List Stmt) (t:TS):Prop:=∀(pins:List (Addr×Obj)) (s:Shared) (σ:St) (H:Hp) (D:Ends),Inv X pins σ H s->t D σ H->wpAny (model X.prog X.w) X.A (execs st X.env) (SP X pins D) X.xe s
theorem thn {α:Type}{t:Sem α}{Q Q':α->Shared->Prop}{M:Model}{A:Around}{E:Value->Shared->Prop}{s:Shared}(h:wpAny M A t Q E s) (hQ:∀a s,Q a s->Q' a s):wpAny M A t Q' E s:=wpAny_mono h hQ λ_ _ x=>x
section
variable {X:Cx}
def eG (i:Nat):TE:=λσ H Q=>∃v,σ[i]?=some (some v)/\Q v H
def tC (v:V):TE:=λ_ H Q=>Q v H
theorem ZT {i:Nat}{x:Str}{pos:Pos}(hN:X.N[i]?=some x) (hv:Vis X.env.scope x) (hd:(x==("__debug__":Str))=false:=by decide) (gh:(x==("__classdict__":Str))=false:=by decide):PE X (.Name x pos) (eG i):=by
 intro pins s σ H Q I h;obtain⟨v,e,h⟩:=h;obtain⟨m,hn,hl⟩:=I.loc;obtain⟨u,r,l⟩:=hl i x v hN e hv;have fin:EP X pins σ Q u s:=⟨v,H,I,r,h⟩
 rcases l with ⟨hk,hm⟩ | ⟨hk,c,hc,df⟩
 . exact wpAny_Name (wpAny_loadName_local I.ok.kind hk hn hm fin) hd
 . rcases hk with hk | hk;. exact wpAny_Name (wpAny_loadName_cell I.ok.kind hk hc df fin) hd
   . exact wpAny_Name (wpAny_loadName_free I.ok.kind hk hc df fin gh) hd
theorem jF {i j pos}:PE X (.Constant (.int i) j pos) (tC (.int i)):=λ_ _ _ H _ I h=>wpAny_Constant_int ⟨.int i,H,I.tok _,⟨_,rfl⟩,h⟩
theorem mU {b j pos}:PE X (.Constant (.bool b) j pos) (tC (.bl b)):=λ_ _ _ H _ I h=>Constant_bool ⟨.bl b,H,I,rfl,h⟩
theorem jG {j pos}:PE X (.Constant .none j pos) (tC .non):=λ_ _ _ H _ I h=>Constant_none ⟨.non,H,I,rfl,h⟩
theorem jH {x j pos}:PE X (.Constant (.str x) j pos) (tC (.str x)):=λ_ _ _ H _ I h=>Calls.Constant_str ⟨.str x,H,I.tok _,⟨_,rfl⟩,h⟩
def Gl (X:Cx) (x:Str):Prop:=X.env.kindOf x=some .globalImplicit
theorem eI {E:Value->Shared->Prop}{pins:List (Addr×Obj)}{s:Shared}{σ:St}{H:Hp}{x:Str}{u:Value}{pos:Pos}{Q:Value->Shared->Prop}(I:Inv X pins σ H s) (hg:Gl X x) (hm:X.mg x=some u) (h:Q u s) (hd:(x==("__debug__":Str))=false:=by decide):wpAny (model X.prog X.w) X.A (eval (.Name x pos) X.env) Q E s:=
 Calls.Name_function_global I.ok.kind hg (Calls.loadGlobal_global (by rw[I.ok.glob];exact I.mod.glob.keeps I.bk) hm h) hd
theorem L6 {E:Value->Shared->Prop}{pins:List (Addr×Obj)}{s:Shared}{σ:St}{H:Hp}{x:Str}{u:Value}{pos:Pos}{Q:Value->Shared->Prop}(I:Inv X pins σ H s) (hg:Gl X x) (hm:X.mg x=none) (hv:bootBuiltins x=some u) (h:Q u s) (hn:x ≠ "__name__" := by decide) (hd:(x==("__debug__":Str))=false:=by decide):wpAny (model X.prog X.w) X.A (eval (.Name x pos) X.env) Q E s:=by obtain⟨mb,h1,h2⟩:=I.mod.blt;exact Calls.Name_function_global I.ok.kind hg (Calls.loadGlobal_builtin (by rw[I.ok.glob];exact I.mod.glob.keeps I.bk) hm (by rw[I.ok.blt];exact h1.keeps I.bk) ((h2 x hn).trans hv) h) hd
theorem GI {x:Str}{v:V}{u:Value}{pos:Pos}(hg:Gl X x) (hm:X.mg x=none) (hv:bootBuiltins x=some u) (r:RelV v u) (hn:x ≠ "__name__" := by decide) (hd:(x==("__debug__":Str))=false:=by decide):PE X (.Name x pos) (tC v):=
 λ_ _ _ H _ I h=>L6 I hg hm hv ⟨v,H,I,r,h⟩ hn hd
variable {a b:Expr}{ta tb:TE}{pos:Pos}
def PC (X:Cx) (op:CmpOp) (a b:Expr) (t:TE):Prop:=∀(pins:List (Addr×Obj)) (s:Shared) (σ:St) (H:Hp) (Q:VK),Inv X pins σ H s->t σ H Q ->
   wpAny (model X.prog X.w) X.A (eval a X.env) (λv s₁=>wpAny (model X.prog X.w) X.A (eval b X.env) (λu s₂=>wpAny (model X.prog X.w) X.A (compareOp op v u) (EP X pins σ Q) X.xe s₂) X.xe s₁) X.xe s
def tB (t:TE):TT:=λσ H Q=>t σ H λx H1=>∃c,x = .bl c/\Q c H1
theorem ZU {op:CmpOp}{t:TE}(h:PC X op a b t) (h1:behindInMarks op b=false:=by first | exact nobehind _ (by decide) (by decide) | rfl):PE X (.Compare a [op] [b] pos) t:=λpins s σ H Q I hw=>wpAny_Compare1 (h pins s σ H Q I hw) h1
theorem QV {op:CmpOp}{t:TE}(h:PC X op a b t) (h1:behindInMarks op b=false:=by first | exact nobehind _ (by decide) (by decide) | rfl):PT X (.Compare a [op] [b] pos) (tB t):=by intro pins s σ H Q I hw;refine wpAny_isTrue_Compare1 (thn (h pins s σ H _ I hw) λv s1 h1=>thn h1 λu s2 h2=>thn h2 λc s3 ⟨x,H1,I1,r1,q1⟩=>?_) h1;obtain⟨d,rfl,q⟩:=q1;cases r1;exact wpAny_truthy_bool ⟨H1,I1,q⟩
theorem jI {e:Expr}{t:TE}(h:PE X e t) (he:∀whole,isTrue e X.env whole=(do let v <- whole;standAt e.pos;holding [v] (truthy v)):=by intro _;rfl):PT X e (tB t):=by intro pins s σ H Q I hw;refine isTrue_plain (thn (h pins s σ H _ I hw) λv s1 ⟨x,H1,I1,r1,q1⟩=>?_) (he _);obtain⟨d,rfl,q⟩:=q1;cases r1;exact wpAny_truthy_bool ⟨H1,I1,q⟩
variable {tA ie:TT}{rest:List Expr}
def mV (t u:TT):TT:=λσ H Q=>t σ H λc H1=>if c=true then u σ H1 Q else Q false H1
def tOr (t u:TT):TT:=λσ H Q=>t σ H λc H1=>if c=true then Q true H1 else u σ H1 Q
def mW (t:TT):TT:=λσ H Q=>t σ H λc H1=>Q (!c) H1
theorem pw_and1 (ha:PT X a tA):PW X (.BoolOp .And [a] pos) tA:=by
 intro wh pins s σ H Q I h;refine isTrue_and (thn (ha pins s σ H Q I h) λc s1 e=>?_);cases c with
 | true=>exact isTrue_and_nil e
 | false=>exact e
theorem pw_or1 (ha:PT X a tA):PW X (.BoolOp .Or [a] pos) tA:=by
 intro wh pins s σ H Q I h;refine isTrue_or (thn (ha pins s σ H Q I h) λc s1 e=>?_);cases c with
 | false=>exact isTrue_or_nil e
 | true=>exact e
theorem pw_and (ha:PT X a tA) (hb:PW X (.BoolOp .And (b::rest) pos) ie):PW X (.BoolOp .And (a::b::rest) pos) (mV tA ie):=by
 intro wh pins s σ H Q I h;refine isTrue_and (thn (ha pins s σ H _ I h) λc s1 ⟨H1,I1,q1⟩=>?_);cases c with
 | true=>exact hb wh pins s1 σ H1 Q I1 q1
 | false=>exact⟨H1,I1,q1⟩
theorem pw_or (ha:PT X a tA) (hb:PW X (.BoolOp .Or (b::rest) pos) ie):PW X (.BoolOp .Or (a::b::rest) pos) (tOr tA ie):=by
 intro wh pins s σ H Q I h;refine isTrue_or (thn (ha pins s σ H _ I h) λc s1 ⟨H1,I1,q1⟩=>?_);cases c with
 | true=>exact⟨H1,I1,q1⟩
 | false=>exact hb wh pins s1 σ H1 Q I1 q1
theorem jJ (ha:PT X a tA):PT X (.UnaryOp .Not a pos) (mW tA):=by intro pins s σ H Q I h;exact isTrue_not (ha pins s σ H (λc H1=>Q (!c) H1) I h)
def mX (ta tb:TE):TE:=λσ H Q=>ta σ H λx H1=>∃c,x = .bl c/\if c=true then Q (.bl true) H1 else tb σ H1 Q
def iM (ta:TE):TE:=λσ H Q=>ta σ H λx H1=>∃c,x = .bl c/\Q (.bl (!c)) H1
theorem jK {op} {t:TE}(h:PE X a t):PE X (.BoolOp op [a] pos) t:=λpins s σ H Q I hw=>BoolOp_one (h pins s σ H Q I hw)
theorem mY (ha:PE X a ta) (hb:PE X (.BoolOp .Or (b::rest) pos) tb):PE X (.BoolOp .Or (a::b::rest) pos) (mX ta tb):=by
 intro pins s σ H Q I h;refine BoolOp_or (thn (ha pins s σ H _ I h) λv s1 ⟨x,H1,I1,r1,q1⟩=>?_);obtain⟨c,rfl,q1⟩:=q1;cases r1;refine wpAny_truthy_bool ?_;cases c with
 | false=>exact hb pins s1 σ H1 Q I1 q1
 | true=>exact⟨.bl true,H1,I1,rfl,q1⟩
theorem jL (ha:PE X a ta):PE X (.UnaryOp .Not a pos) (iM ta):=by intro pins s σ H Q I h;refine UnaryOp_ (thn (ha pins s σ H _ I h) λv s1 ⟨x,H1,I1,r1,q1⟩=>?_);obtain⟨c,rfl,q1⟩:=q1;cases r1;exact not_of (wpAny_truthy_bool ⟨.bl (!c),H1,I1,rfl,q1⟩)
end
def SqL (K:Frg) (H:Hp) (a:Addr) (xs:List V):Prop:=
 Rd H a (.lst xs) \/∃(o:Obj) (aa:Array Value) (n:Nat),K.lookup a=some o/\o.cls = .type "list" /\ o.dict=none/\o.data = .seq aa n/\aa.size<=sizeLine/\Vals xs aa.toList
def SqT (K:Frg) (H:Hp) (a:Addr) (xs:List V):Prop:=
 Rd H a (.tup xs) \/∃(o:Obj) (aa:Array Value) (n:Nat),K.lookup a=some o/\o.cls = .type "tuple" /\ o.data = .seq aa n/\aa.size<=sizeLine/\Vals xs aa.toList
def pD:Value->Option V
 | .none=>some .non
 | .bool b=>some (.bl b)
 | .int i _=>some (.int i)
 | .str x _=>some (.str x)
 | .bytes b _=>some (.byt b)
 | .float b _=>some (.flt b)
 | .ref a=>some (.ref a)
 | .type n=>some (.ty n)
 | _=>none
theorem RelV.abs {x:V}{u:Value}(r:RelV x u):pD u=some x:=by
 cases x with
 | non=>cases r;rfl
 | bl _=>cases r;rfl
 | int _=>obtain⟨t,rfl⟩:=r;rfl
 | str _=>obtain⟨t,rfl⟩:=r;rfl
 | byt _=>obtain⟨t,rfl⟩:=r;rfl
 | flt _=>obtain⟨t,rfl⟩:=r;rfl
 | ref _=>cases r;rfl
 | ty _=>cases r;rfl
theorem RelV.inj {x y:V}{u:Value}(r:RelV x u) (q:RelV y u):x=y:=Option.some.inj (r.abs.symm.trans q.abs)
theorem Vals.inj:∀{xs ys:List V}{us:List Value},Vals xs us->Vals ys us->xs=ys
 | _,_,_,.nil,.nil=>rfl
 | _,_,_,.cons r t,.cons r' t'=>by rw[r.inj r',Vals.inj t t']
section
variable {X:Cx}{pins:List (Addr×Obj)}{σ:St}{H:Hp}{s:Shared}{a:Addr}{xs ys:List V}
theorem SqL.of {K:Frg}(h:H a=some (.lst xs)):SqL K H a xs:=.inl (.inl h)
theorem Inv.list (I:Inv X pins σ H s) (h:SqL X.K H a xs):∃aa:List Value,Vals xs aa/\PlainL s.heap a aa.toArray/\xs.length<=sizeLine:=by
 rcases h with h | ⟨o,aa,n,hk,hc,hd,hs,hz,r⟩
 . obtain⟨z,aa,n,r,e⟩:=h.ok I.hok;exact⟨aa,r,⟨_,n,e,rfl,rfl,rfl⟩,z⟩
 . refine⟨aa.toList,r,⟨o,n,I.kIn a o hk,hc,hd,by simpa using hs⟩,?_⟩;have e:=r.length;simp only[a3X] at e;lia
theorem Inv.tuple (I:Inv X pins σ H s) (h:SqT X.K H a xs):∃aa:List Value,Vals xs aa/\IsTup s.heap a aa.toArray/\xs.length<=sizeLine:=by
 rcases h with h | ⟨o,aa,n,hk,hc,hs,hz,r⟩
 . obtain⟨z,aa,r,p⟩:=h.ok I.hok;exact⟨aa,r,p,z⟩
 . refine⟨aa.toList,r,⟨o,I.kIn a o hk,hc,n,by simpa using hs⟩,?_⟩;have e:=r.length;simp only[a3X] at e;lia
theorem Inv.list_inj (I:Inv X pins σ H s) (h:SqL X.K H a xs) (h':SqL X.K H a ys):xs=ys:=by
 obtain⟨aa,r,⟨o,n,e,_,_,d⟩,_⟩:=I.list h;obtain⟨its',r',⟨o',n',e',_,_,d'⟩,_⟩:=I.list h';rw[e] at e';cases e';rw[d] at d';injection d' with d1 _;have:aa=its':=by simpa using congrArg Array.toList d1
 subst this;exact r.inj r'
theorem Inv.tuple_inj (I:Inv X pins σ H s) (h:SqT X.K H a xs) (h':SqT X.K H a ys):xs=ys:=by
 obtain⟨aa,r,⟨o,e,_,n,d⟩,_⟩:=I.tuple h;obtain⟨its',r',⟨o',e',_,n',d'⟩,_⟩:=I.tuple h';rw[e] at e';cases e';rw[d] at d';injection d' with d1 _;have:aa=its':=by simpa using congrArg Array.toList d1
 subst this;exact r.inj r'
end
abbrev Cx.wish (X:Cx) (E:Value->Shared->Prop):Cx:={ X with xe:=E }
abbrev Cx.nox (X:Cx):Cx:=X.wish λ_ _=>False
theorem Cx.Ok.wish {X:Cx}(ok:X.Ok) (E:Value->Shared->Prop):(X.wish E).Ok:=⟨ok.mod,ok.kind,ok.glob,ok.blt,ok.above,ok.inj,ok.has,ok.cab,ok.hd,ok.frames,ok.stk,ok.exf,ok.bs,ok.bsz,ok.noex,ok.exfs,ok.funs,ok.frf⟩
theorem Cx.Ok.unwish {X:Cx}{E:Value->Shared->Prop}(ok:(X.wish E).Ok):X.Ok:=⟨ok.mod,ok.kind,ok.glob,ok.blt,ok.above,ok.inj,ok.has,ok.cab,ok.hd,ok.frames,ok.stk,ok.exf,ok.bs,ok.bsz,ok.noex,ok.exfs,ok.funs,ok.frf⟩
section
variable {X:Cx}{pins:List (Addr×Obj)}{σ:St}{H:Hp}{s:Shared}{E:Value->Shared->Prop}
theorem Inv.wish (I:Inv X pins σ H s) (E:Value->Shared->Prop):Inv (X.wish E) pins σ H s:=⟨I.ok.wish E,I.os,I.bare,I.base,I.loc,I.cell,I.free,I.freeC,I.pin,I.hok,I.len⟩
theorem Inv.unwish (I:Inv (X.wish E) pins σ H s):Inv X pins σ H s:=⟨I.ok.unwish,I.os,I.bare,I.base,I.loc,I.cell,I.free,I.freeC,I.pin,I.hok,I.len⟩
theorem SP.unwish {D:Ends}{f:Flow}{s':Shared}(h:SP (X.wish E) pins D f s'):SP X pins D f s':=by
 cases f with
 | next=>obtain⟨σ',H',I,q⟩:=h;exact⟨σ',H',I.unwish,q⟩
 | brk=>obtain⟨σ',H',I,q⟩:=h;exact⟨σ',H',I.unwish,q⟩
 | cont=>obtain⟨σ',H',I,q⟩:=h;exact⟨σ',H',I.unwish,q⟩
 | ret u=>obtain⟨v,σ',H',I,r,q⟩:=h;exact⟨v,σ',H',I.unwish,r,q⟩
theorem PSs.nox {st:List Stmt}{t:TS}(h:PSs X.nox st t):PSs X st t:=λpins s σ H D I hw=>
 wpAny_mono (h pins s σ H D (I.wish _) hw) (λ_ _ q=>q.unwish) λ_ _ z=>b0V z
end
section
variable {X:Cx}{st:Stmt}{rest:List Stmt}{t u:TS}{e:Expr}{te:TE}{pos:Pos}
def iN:TS:=λD σ H=>D.nx σ H
def jM (t u:TS):TS:=λD σ H=>t { D with nx:=u D } σ H
theorem eJ:PSs X [] iN:=λ_ _ σ H _ I h=>wpAny_execs_nil ⟨σ,H,I,h⟩
theorem SN (h1:PS X st t) (h2:PSs X rest u):PSs X (st::rest) (jM t u):=by
 intro pins s σ H D I h;refine wpAny_execs_cons (thn (h1 pins s σ H { D with nx:=u D } I h) λf s1 q=>?_);cases f with
 | next=> obtain⟨σ',H',I',q⟩:=q;exact h2 pins s1 σ' H' D I' q
 | ret v=>exact q
 | brk=>exact q
 | cont=>exact q
theorem WN (h1:PS X st t):PSs X [st] t:=by
 intro pins s σ H D I h;refine wpAny_execs_cons (thn (h1 pins s σ H D I h) λf s1 q=>?_);cases f with
 | next=>exact wpAny_execs_nil q
 | ret v=>exact q
 | brk=>exact q
 | cont=>exact q
theorem Inv.quiet {pins:List (Addr×Obj)}{σ:St}{H:Hp}{s:Shared}(I:Inv X pins σ H s):interactive X.env=false:=by simp[interactive,I.ok.kind]
def iO (te:TE):TS:=λD σ H=>te σ H λ_ H1=>D.nx σ H1
theorem eL (he:PE X e te) (hs:swapsWith e none pos.line X.env=pure false:=by rfl):PS X (.Expr e pos) (iO te):=by intro pins s σ H D I h;exact wpAny_Expr_any (thn (he pins s σ H _ I h) λv s1 ⟨x,H1,I1,r1,q1⟩=>⟨σ,H1,I1,q1⟩) I.quiet hs
def mZ (te:TE):TS:=λD σ H=>te σ H D.rt
theorem jN (he:PE X e te):PS X (.Return (some e) pos) (mZ te):=by intro pins s σ H D I h;exact wpAny_Return_some (thn (he pins s σ H _ I h) λv s1 ⟨x,H1,I1,r1,q1⟩=>⟨x,σ,H1,I1,r1,q1⟩)
def n4 (c:TT) (t u:TS):TS:=λD σ H=>c σ H λb H1=>if b=true then t D σ H1 else u D σ H1
theorem n5 {c:Expr}{a b:List Stmt}{tc:TT}(hc:PT X c tc) (ha:PSs X a t) (hb:PSs X b u):PS X (.If c a b pos) (n4 tc t u):=by
 intro pins s σ H D I h;refine wpAny_If (thn (hc pins s σ H _ I h) λd s1 ⟨H1,I1,q1⟩=>?_);cases d with
 | true=>exact ha pins s1 σ H1 D I1 q1
 | false=>exact hb pins s1 σ H1 D I1 q1
end
abbrev TG:=V->St->Hp->(St->Hp->Prop)->Prop
abbrev TGs:=List V->St->Hp->(St->Hp->Prop)->Prop
def PG (X:Cx) (target:Expr) (t:TG):Prop:=∀(pins:List (Addr×Obj)) (s:Shared) (σ:St) (H:Hp) (v:V) (u:Value) (Q:St->Hp->Prop),Inv X pins σ H s->RelV v u->t v σ H Q ->
   wpAny (model X.prog X.w) X.A (assign target X.env u) (λ_ s'=>∃σ' H',Inv X pins σ' H' s'/\Q σ' H') X.xe s
def PGs (X:Cx) (ts:List Expr) (t:TGs):Prop:=∀(pins:List (Addr×Obj)) (s:Shared) (σ:St) (H:Hp) (vs:List V) (us:List Value) (Q:St->Hp->Prop),Inv X pins σ H s->Vals vs us->t vs σ H Q ->
   wpAny (model X.prog X.w) X.A (assignInOrder ((assignEach ts X.env).map (·.2)) us) (λ_ s'=>∃σ' H',Inv X pins σ' H' s'/\Q σ' H') X.xe s
abbrev TIp:=V->V->Hp->VK->Prop
def PIp (X:Cx) (op:Operator) (t:TIp):Prop:=∀(pins:List (Addr×Obj)) (s:Shared) (σ:St) (H:Hp) (x y:V) (v u:Value) (Q:VK),Inv X pins σ H s->RelV x v->RelV y u->t x y H Q ->
   wpAny (model X.prog X.w) X.A (inplaceOp op v u) (EP X pins σ Q) X.xe s
section
variable {X:Cx}{pos:Pos}
def N3 (i:Nat):TG:=λv σ H Q=>Q (σ.set i (some v)) H
theorem QW {i:Nat}{x:Str}(hN:X.N.Nodup) (hi:X.N[i]?=some x) (hx:Loc X.env.scope x) (hf:X.fn x=true\/X.env.scope.names.lookup x=some .local:=by first | exact .inl rfl | exact .inr rfl | assumption):PG X (.Name x pos) (N3 i):=by intro pins s σ H v u Q I r h;exact wpAny_assign_Name (HL I hN hi hx r (λs' I'=>⟨_,H,I',h⟩) hf)
def jO:TGs:=λvs σ H Q=>vs=[]/\Q σ H
def ZV (t:TG) (u:TGs):TGs:=λvs σ H Q=>∃v r,vs=v::r/\t v σ H λσ' H'=>u r σ' H' Q
theorem eO:PGs X [] jO:=by intro pins s σ H vs us Q I r h;obtain⟨e,h⟩:=h;subst e;cases r;exact assignInOrder_nil ⟨σ,H,I,h⟩
theorem ZW {e:Expr}{es:List Expr}{t:TG}{u:TGs}(h1:PG X e t) (h2:PGs X es u) (hs:(assignEach (e::es) X.env).map (·.2)=assign e X.env::(assignEach es X.env).map (·.2):=by rfl):PGs X (e::es) (ZV t u):=by
 intro pins s σ H vs us Q I r h;obtain⟨v,vr,e1,h⟩:=h;subst e1;cases r with
 | cons r rr=> rw[hs];refine assignInOrder_cons (thn (h1 pins s σ H _ _ _ I r h) λ_ s1 ⟨σ1,H1,I1,q1⟩=>?_);exact h2 pins s1 σ1 H1 _ _ Q I1 rr q1
def eQ (K:Frg) (n:Nat) (t:TGs):TG:=λv σ H Q=>∃a xs,v = .ref a/\SqT K H a xs/\xs.length=n/\t xs σ H Q
theorem ZX {es:List Expr}{k:Nat}{t:TGs}{n:Nat}(hc:X.calm=true) (h:PGs X es t) (hn:(assignEach es X.env).length=n:=by rfl) (di:(assignEach es X.env).findIdx? (·.1)=none:=by rfl):PG X (.Tuple es k pos) (eQ X.K n t):=by intro pins s σ H v u Q I r hw;obtain⟨a,xs,e1,hq,hl,hw⟩:=hw;subst e1;cases r;obtain⟨aa,rv,ht,hz⟩:=I.tuple hq;refine assign_Tuple_tuple (I.ok.hd hc) ht (by simp[hn,<-hl,rv.length]) di λh' hx=>?_;have I1:Inv X pins σ H { s with heap:=h' }:=I.kept (t':=s.toks) λb o e=>hx b o (zC (zM e)) e;exact h pins _ σ H xs _ Q I1 (by simpa using rv) hw
def eR (te:TE) (g:TG):TS:=λD σ H=>te σ H λx H1=>g x σ H1 D.nx
theorem V3 {tg e:Expr}{te:TE}{g:TG}(he:PE X e te) (hg:PG X tg g) (hs:swapsWithSole [tg] e pos.line X.env=pure false:=by rfl) (hw:swappedStores [tg] e X.env=pure none:=by rfl)
   (h1:(assignEach [tg] X.env).map (·.2)=[assign tg X.env]:=by rfl):PS X (.Assign [tg] e pos) (eR te g):=by intro pins s σ H D I h;refine wpAny_Assign_stores (thn (he pins s σ H _ I h) λv s1 ⟨x,H1,I1,r1,q1⟩=>?_) hs hw;rw[h1];exact thn (hg pins s1 σ H1 x v _ I1 r1 q1) λ_ s2 q=>q
theorem jP {i:Nat}{x:Str}{e:Expr}{te:TE}{pos':Pos}(hN:X.N.Nodup) (hi:X.N[i]?=some x) (hx:Loc X.env.scope x) (he:PE X e te) (hs:swapsWith e (some (.Name x pos')) pos.line X.env=pure false:=by rfl) (hf:X.fn x=true\/X.env.scope.names.lookup x=some .local:=by first | exact .inl rfl | exact .inr rfl | assumption) :
   PS X (.Assign [.Name x pos'] e pos) (eR te (N3 i)):=by intro pins s σ H D I h;refine wpAny_Assign_Name (thn (he pins s σ H _ I h) λv s1 ⟨y,H1,I1,r1,q1⟩=>?_) hs;exact HL I1 hN hi hx r1 (λs2 I2=>⟨_,H1,I2,q1⟩) hf
def n8 (i j:Nat) (ta:TA):TS:=λD σ H=>ta σ H λvs H1=>∃v w,vs=[v,w]/\D.nx ((σ.set i (some v)).set j (some w)) H1
theorem jQ {i j:Nat}{x y:Str}{a b:Expr}{ta:TA}{px py pt:Pos}{kt k2 pt2} (hc:X.calm=true) (hN:X.N.Nodup) (hi:X.N[i]?=some x) (hj:X.N[j]?=some y) (au:i≠j) (hx:X.env.scope.names.lookup x=some .local) (hy:X.env.scope.names.lookup y=some .local) (ha:PA X [a,b] ta) (hw:swappedStores [.Tuple [.Name x px,.Name y py] kt pt] (.Tuple [a,b] k2 pt2) X.env=pure (some [x,y])) (hs:swapsWithSole [.Tuple [.Name x px,.Name y py] kt pt] (.Tuple [a,b] k2 pt2) pos.line X.env=pure false:=by rfl) :
   PS X (.Assign [.Tuple [.Name x px,.Name y py] kt pt] (.Tuple [a,b] k2 pt2) pos) (n8 i j ta):=by
 intro pins s σ H D I h;rw[exec_Assign_arm];refine zZ (wpAny_standAt ?_);rw[hs];refine zZ (zY ?_);rw[if_neg (by decide)];refine zZ (Tuple_ (thn (ha _ pins s σ H _ I h) λus s1 ⟨vs,H1,I1,r1,q1⟩=>?_));obtain⟨v,w,e1,q1⟩:=q1;subst e1;obtain⟨u1,u2,rfl,rv,ef⟩:∃u1 u2,us=[u1,u2]/\RelV v u1/\RelV w u2:=by
   cases r1 with
   | cons p q=>
     cases q with
     | cons p' q'=> cases q';exact⟨_,_,rfl,p,p'⟩
 refine xM ?_ (by show 2<=sizeLine;decide);have I2:Inv X pins σ H1 { s1 with heap:=s1.heap.push { cls:=.type "tuple", data:=.seq [u1,u2].toArray } }:=I1.kept (t':=s1.toks) λb o e=>zW _ e;rw[hw];refine zZ (zY ?_);show wpAny (model X.prog X.w) X.A (do rule "assign.swapped-stores";let items <- unpackItems (.ref s1.heap.objs.size) 2 none;assignInOrder [λv=>bindName X.env y v,λv=>bindName X.env x v] items.reverse;pure Flow.next) _ _ _;refine zZ (wpAny_rule (zZ (unpackItems_tuple (items:=#[u1,u2]) (I.ok.hd hc) (IsTup.new s1.heap _) λh' qv=>?_)));have I3:=I2.kept (h':=h') (t':=s1.toks) λb o e=>qv b o (zC (zM e)) e;show wpAny _ _ (assignInOrder [λv=>bindName X.env y v,λv=>bindName X.env x v] [u2,u1] >>= λ_=>pure Flow.next) _ _ _;refine zZ (assignInOrder_cons (wpAny_bindName (HL I3 hN hj (.inl hy) ef (λs2 I4=>?_) (.inr hy))));refine assignInOrder_cons (wpAny_bindName (HL I4 hN hi (.inl hx) rv (λs3 I5=>assignInOrder_nil (zY ?_)) (.inr hx)));rw[List.set_comm _ _ (a3J au)] at I5;exact⟨_,H1,I5,q1⟩
def n9 (i:Nat) (te:TE) (ti:TIp):TS:=λD σ H=>∃x,σ[i]?=some (some x)/\te σ H λy H1=>ti x y H1 λz H2=>D.nx (σ.set i (some z)) H2
theorem ZY {i:Nat}{x:Str}{e:Expr}{te:TE}{op:Operator}{ti:TIp}{pos':Pos}(hN:X.N.Nodup) (hi:X.N[i]?=some x) (hx:Loc X.env.scope x) (he:PE X e te) (ho:PIp X op ti) (hf:X.fn x=true\/X.env.scope.names.lookup x=some .local:=by first | exact .inl rfl | exact .inr rfl | assumption) :
   PS X (.AugAssign (.Name x pos') op e pos) (n9 i te ti):=by
 intro pins s σ H D I h;obtain⟨v,e1,h⟩:=h;obtain⟨m,hn,hl⟩:=I.loc;have uf:Vis X.env.scope x:=by rcases hx with k | k;exact .inl k;exact .inr (.inl k)
 obtain⟨u,r,l⟩:=hl i x v hi e1 uf;refine wpAny_AugAssign_Name ?_;have go:wpAny (model X.prog X.w) X.A (eval e X.env) (λw s₂=>wpAny (model X.prog X.w) X.A (inplaceOp op u w) (λr s₃=>wpAny (model X.prog X.w) X.A (storeName X.env x r) (λ_=>SP X pins D .next) X.xe s₃) X.xe s₂) X.xe s:=by refine thn (he pins s σ H _ I h) λw s1 ⟨y,H1,I1,r1,q1⟩=>?_;refine thn (ho pins s1 σ H1 v y u w _ I1 r r1 q1) λz s2 ⟨zv,H2,I2,r2,q2⟩=>?_;exact HL I2 hN hi hx r2 (λs3 I3=>⟨_,H2,I3,q2⟩) hf
 rcases l with ⟨hk,hm⟩ | ⟨hk,c,hc,df⟩
 . exact wpAny_loadName_local I.ok.kind hk hn hm go
 . rcases hk with hk | hk;. exact wpAny_loadName_cell I.ok.kind hk hc df go
   . rcases hx with k | k;. have:X.env.scope.names.lookup x=some .free:=hk;rw[k] at this;cases this
     . have:X.env.scope.names.lookup x=some .free:=hk;rw[k] at this;cases this
def ipI (f:Int->Int->Int):TIp:=λx y H Q=>∃i j,x = .int i/\y = .int j/\Q (.int (f i j)) H
theorem jR:PIp X .Add (ipI λi j=>i+j):=by intro pins s σ H x y v u Q I r1 r2 h;obtain⟨i,j,e1,e2,q⟩:=h;subst e1;subst e2;obtain⟨t,rfl⟩:=r1;obtain⟨t',rfl⟩:=r2;exact iadd_int ⟨.int _,H,I.tok _,⟨_,rfl⟩,q⟩
end
structure It where
 go:Nat->Hp->Prop
 yld:Nat->Hp->V->Hp->Prop
 stop:Nat->Hp->Prop
def OY (X:Cx) (pins:List (Addr×Obj)) (H:Hp) (b:Addr):Prop:=
 H b=none/\b≠X.env.locals/\b∉X.fs/\(b∈X.ex\/X.s₀.heap.objs.size<=b)/\(∀x c,X.env.cells.lookup x=some c->c≠b)/\∀p∈X.pn++pins,p.1≠b
theorem Inv.fpOk {X:Cx}{pins:List (Addr×Obj)}{σ:St}{H H':Hp}{s:Shared}{b:Addr}(I:Inv X pins σ H s) (hb:s.heap.objs.size<=b) (hn:H' b=none):OY X pins H' b:=by
 refine⟨hn,a6K (zP I.lt hb),I.nofs hb,.inr (zN I.sz hb),λx c e z=>?_,λp hp z=>?_⟩;. obtain⟨v,q⟩:=I.cell x c e;exact absurd (zP q.lt (by rw[z];exact hb)) (yF _)
 . exact absurd (zP (zM (I.pin p hp).1) (by rw[z];exact hb)) (yF _)
structure Turn (P:Program) (w:World) (K:Frg) (tg:Expr) (J:It) (fp:List Addr) (it:Addr) (tn:Nat->Heap->Prop):Prop where
 mem:it∈fp
 obj:∀i h,tn i h->∀b∈fp,∃o,h.get? b=some o/\∀v,o.data≠.cell v
 keep:∀i h h',tn i h->(∀b∈fp,∀o,h.get? b=some o->h'.get? b=some o)->tn i h'
 item:∀(X:Cx),X.prog=P->X.w=w->X.K=K->X.calm=true->∀(i:Nat) (pins:List (Addr×Obj)) (s:Shared) (σ:St) (H:Hp) (E:Value->Shared->Prop),Inv X pins σ H s->(∀b∈fp,OY X pins H b)->tn i s.heap->J.go i H ->
   wpAny (model P w) X.A (pyNext (.ref it)) (λr s1=>∃u,r=some u /\
     wpAny (model P w) X.A (letOwnedTupleGo tg (.ref it) u) (λ_ s2=>∃x H',Inv X pins σ H' s2/\RelV x u/\J.yld i H x H'/\tn (i+1) s2.heap/\∀b∈fp,H' b=none) E s1) E s
 done:∀(X:Cx),X.prog=P->X.w=w->X.K=K->X.calm=true->∀(i:Nat) (pins:List (Addr×Obj)) (s:Shared) (σ:St) (H:Hp) (E:Value->Shared->Prop),Inv X pins σ H s->(∀b∈fp,OY X pins H b)->tn i s.heap->J.stop i H ->
   wpAny (model P w) X.A (pyNext (.ref it)) (λr s1=>r=none/\Inv X pins σ H s1) E s
 self:∀(A:Around) (i:Nat) (s:Shared) (Q:Value->Shared->Prop) (E:Value->Shared->Prop),tn i s.heap->Q (.ref it) s->wpAny (model P w) A (pyIter (.ref it)) Q E s
abbrev TI:=St->Hp->(It->Hp->Prop)->Prop
def PIE (X:Cx) (pins:List (Addr×Obj)) (σ:St) (tg:Expr) (R:It->Hp->Prop) (qw:Value) (s2:Shared):Prop:=∃(it:Addr) (fp:List Addr) (tn:Nat->Heap->Prop) (J:It) (H':Hp),qw = .ref it/\Inv X pins σ H' s2/\Turn X.prog X.w X.K tg J fp it tn/\tn 0 s2.heap/\(∀b∈fp,OY X pins H' b)/\R J H'
def PI (X:Cx) (tg iter:Expr) (wi:TI):Prop:=∀(pins:List (Addr×Obj)) (s:Shared) (σ:St) (H:Hp) (R:It->Hp->Prop),Inv X pins σ H s->wi σ H R ->
   wpAny (model X.prog X.w) X.A (eval iter X.env) (λv s1=>wpAny (model X.prog X.w) X.A (pyIter v) (PIE X pins σ tg R) X.xe s1) X.xe s
theorem WO {M:Model}{A:Around}{E:Value->Shared->Prop}{s:Shared}{tg:Expr}{it:Addr}{u:Value}{o:Obj}{n:String}{vs:Array Value}{Q:Unit->Shared->Prop}(ho:s.heap.get? it=some o) (hc:o.cls = .type n) (hd:o.data = .fields vs) (hn:["enumerate", "zip", "dict_itemiterator", "dict_reverseitemiterator", "odict_iterator", "itertools.zip_longest", "itertools.pairwise"].contains n=false) (hQ:Q () s):wpAny M A (letOwnedTupleGo tg (.ref it) u) Q E s:=by
 unfold letOwnedTupleGo;cases tg <;> first
   | exact zY hQ
   | (cases u <;> first
       | exact zY hQ
       | (refine zZ (wpAny_load ho ?_)
          rw[hc,hd];show wpAny M A (if (["enumerate", "zip", "dict_itemiterator", "dict_reverseitemiterator", "odict_iterator", "itertools.zip_longest", "itertools.pairwise"].contains n&&vs[0]?==some (rawInt _))=true then _ else _) Q E s;rw[if_neg (by intro h;rw[hn,Bool.false_and] at h;cases h)];exact zY hQ))
def Itl (K:Frg) (a:Addr):It:=⟨λi H=>∃xs x,SqL K H a xs/\xs[i]?=some x,λi H x H'=>H'=H/\∀xs,SqL K H a xs->xs[i]?=some x,λi H=>∃xs,SqL K H a xs/\xs.length<=i⟩
def Itt (K:Frg) (a:Addr):It:=⟨λi H=>∃xs x,SqT K H a xs/\xs[i]?=some x,λi H x H'=>H'=H/\∀xs,SqT K H a xs->xs[i]?=some x,λi H=>∃xs,SqT K H a xs/\xs.length<=i⟩
def Itr (lo:Int) (n:Nat):It:=⟨λi _=>i < n,λi H x H'=>H'=H/\x = .int (lo+i),λi _=>n<=i⟩
theorem Y6 {P:Program}{w:World}{K:Frg}{tg:Expr}(a it:Addr):Turn P w K tg (Itl K a) [it] it (λi h=>h.IsListIter it a i) where
 mem:=by simp
 obj:=λi h st b hb=>by
   have e:b=it:=by simpa using hb
   subst e;obtain⟨o,e,c,d⟩:=st;exact⟨o,e,λv z=>by rw[d] at z;cases z⟩
 keep:=λi h h' st k=>st.at λo e=>k it (by simp) o e
 item:=by intro X hP hw hK hc i pins s σ H E I hf st hg;subst hP hw hK;obtain⟨xs,x,hq,hx⟩:=hg;obtain⟨aa,rv,p,hz⟩:=I.list hq;obtain⟨u,hu,ru⟩:=rv.get hx;obtain⟨f0,f1,f2,f3,f4,f5⟩:=hf it (by simp);refine wpAny_pyNext_list_item st p.isList (x:=u) (by simpa using hu) λh' ci sb=>?_;have I1:Inv X pins σ H { s with heap:=h' }:=I.turned (t':=s.toks) (λb o hb e=>(sb.2 b hb).trans e) f0 f1 f3 f4 f5;obtain⟨o,e,c,d⟩:=id ci;exact⟨u,rfl,WO (s:={ s with heap:=h' }) e c d (by decide) ⟨x,H,I1,ru,⟨rfl,λys hy=>by rw[I.list_inj hy hq];exact hx⟩,ci,λb hb=>(hf b hb).1⟩⟩
 done:=by intro X hP hw hK hc i pins s σ H E I hf st hg;subst hP hw hK;obtain⟨xs,hq,hx⟩:=hg;obtain⟨aa,rv,p,hz⟩:=I.list hq;obtain⟨f0,f1,f2,f3,f4,f5⟩:=hf it (by simp);have hl:=rv.length;exact wpAny_pyNext_list_end (I.ok.hd hc) st p.isList (by simp;lia) λh' eb=>⟨rfl,I.turned (t':=s.toks) (λb o hb e=>eb b o hb e) f0 f1 f3 f4 f5⟩
 self:=λ_ _ _ _ _ st h=>wpAny_pyIter_listiter st h
theorem V4 {P:Program}{w:World}{K:Frg}{tg:Expr}(a it:Addr):Turn P w K tg (Itt K a) [it] it (λi h=>h.IsTupleIter it a i) where
 mem:=by simp
 obj:=λi h st b hb=>by
   have e:b=it:=by simpa using hb
   subst e;obtain⟨o,e,c,d⟩:=st;exact⟨o,e,λv z=>by rw[d] at z;cases z⟩
 keep:=λi h h' st k=>st.at λo e=>k it (by simp) o e
 item:=by intro X hP hw hK hc i pins s σ H E I hf st hg;subst hP hw hK;obtain⟨xs,x,hq,hx⟩:=hg;obtain⟨aa,rv,p,hz⟩:=I.tuple hq;obtain⟨u,hu,ru⟩:=rv.get hx;obtain⟨f0,f1,f2,f3,f4,f5⟩:=hf it (by simp);refine wpAny_pyNext_tuple_item st (show s.heap.IsTuple a aa.toArray from p) (x:=u) (by simpa using hu) λh' ci sb=>?_;have I1:Inv X pins σ H { s with heap:=h' }:=I.turned (t':=s.toks) (λb o hb e=>(sb.2 b hb).trans e) f0 f1 f3 f4 f5;obtain⟨o,e,c,d⟩:=id ci;exact⟨u,rfl,WO (s:={ s with heap:=h' }) e c d (by decide) ⟨x,H,I1,ru,⟨rfl,λys hy=>by rw[I.tuple_inj hy hq];exact hx⟩,ci,λb hb=>(hf b hb).1⟩⟩
 done:=by intro X hP hw hK hc i pins s σ H E I hf st hg;subst hP hw hK;obtain⟨xs,hq,hx⟩:=hg;obtain⟨aa,rv,p,hz⟩:=I.tuple hq;obtain⟨f0,f1,f2,f3,f4,f5⟩:=hf it (by simp);have hl:=rv.length;exact wpAny_pyNext_tuple_end (I.ok.hd hc) st (show s.heap.IsTuple a aa.toArray from p) (by simp;lia) λh' eb=>⟨rfl,I.turned (t':=s.toks) (λb o hb e=>eb b o hb e) f0 f1 f3 f4 f5⟩
 self:=λ_ _ _ _ _ st h=>wpAny_pyIter_tupleiter st h
theorem V5 {P:Program}{w:World}{K:Frg}{tg:Expr}(it:Addr) (lo:Int) (n:Nat):Turn P w K tg (Itr lo n) [it] it (λi h=>IsRangeIter h it (lo+(i:Nat)*1) ((n:Int) - (i:Nat)) 1) where
 mem:=by simp
 obj:=λi h st b hb=>by
   have e:b=it:=by simpa using hb
   subst e;exact⟨_,st,λv z=>by have z':Data.fields _=Data.cell v:=z;cases z'⟩
 keep:=λi h h' st k=>k it (by simp) _ st
 item:=by intro X hP hw hK hc i pins s σ H E I hf st hg;subst hP hw hK;obtain⟨f0,f1,f2,f3,f4,f5⟩:=hf it (by simp);have W:=Walks.range (prog:=X.prog) (w:=X.w) (I.ok.hd hc) it lo 1 n;refine W.item i s _ _ hg st λv h' tk hv ci kk=>?_;obtain⟨t,rfl⟩:=hv;have I1:Inv X pins σ H { s with heap:=h',toks:=tk }:=I.turned (λb o hb e=>kk b o (by simpa using hb) e) f0 f1 f3 f4 f5;refine⟨_,rfl,WO (s:={ s with heap:=h',toks:=tk }) (n:= "range_iterator") ci rfl rfl (by decide) ⟨.int (lo+i),H,I1,⟨t,?_⟩,⟨rfl,rfl⟩,ci,λb hb=>(hf b hb).1⟩⟩;rw[Int.mul_one]
 done:=by intro X hP hw hK hc i pins s σ H E I hf st hg;subst hP hw hK;obtain⟨f0,f1,f2,f3,f4,f5⟩:=hf it (by simp);exact wpAny_pyNext_range_end (I.ok.hd hc) st (by have:n<=i:=hg;lia) λh' eb=>⟨rfl,I.turned (t':=s.toks) (λb o hb e=>eb b o hb e) f0 f1 f3 f4 f5⟩
 self:=λ_ _ _ _ _ st h=>wpAny_pyIter_rangeiter st h
section
variable {X:Cx}{tg:Expr}
theorem ZZ {pins:List (Addr×Obj)}{σ:St}{H:Hp}{s:Shared}{R:It->Hp->Prop}{E:Value->Shared->Prop}{lo hi:Int}{t u v:Tok}{tk:Nat}(I:Inv X pins σ H s) (h1 : -(2 ^ 62)<=lo) (h2:lo < 2 ^ 62) (h3 : -(2 ^ 62)<=hi) (h4:hi < 2 ^ 62) (q:R (Itr lo (hi - lo).toNat) H):wpAny (model X.prog X.w) X.A (pyIter (.ref s.heap.objs.size)) (PIE X pins σ tg R) E { s with heap:=s.heap.push { cls:=.type "range", data:=.fields #[.int lo t,.int hi u,.int 1 v] },toks:=tk }:=by
 refine wpAny_pyIter_range (IsRange.new ..) (small_one h1 h2 h3 h4) ?_;have I1:Inv X pins σ H { s with heap:=s.heap.push { cls:=.type "range", data:=.fields #[.int lo t,.int hi u,.int 1 v] },toks:=tk }:=I.kept λb o e=>zW _ e;refine⟨(s.heap.push { cls:=.type "range", data:=.fields #[.int lo t,.int hi u,.int 1 v] }).objs.size,[(s.heap.push { cls:=.type "range", data:=.fields #[.int lo t,.int hi u,.int 1 v] }).objs.size],_,_,H,rfl,
   I1.kept (t':=tk) λb o e=>zW _ e,V5 _ lo (hi - lo).toNat,?_,λb hb=>?_,q⟩
 . have e1:lo+((0:Nat):Int)*1=lo:=by simp
   have e2:(((hi - lo).toNat:Nat):Int) - ((0:Nat):Int)=Builtin.Range.rangeSize lo hi 1:=by rw[rangeSize_one];split <;> lia
   show IsRangeIter _ _ (lo+((0:Nat):Int)*1) ((((hi - lo).toNat:Nat):Int) - ((0:Nat):Int)) 1;rw[e1,e2];exact yZ _ rfl
 . have e:b=(s.heap.push { cls:=.type "range", data:=.fields #[.int lo t,.int hi u,.int 1 v] }).objs.size:=by simpa using hb
   subst e;exact I1.fpOk (zR _) (I1.hok.fresh (zR _))
def iP (ta:TA):TI:=λσ H R=>ta σ H λvs H1=>∃j:Int,vs=[.int j]/\-(2 ^ 62)<=j/\j < 2 ^ 62/\R (Itr 0 j.toNat) H1
theorem Y7 {a:Expr}{ta:TA}{p pos:Pos}(hg:Gl X "range") (hm:X.mg "range"=none) (ha:PA X [a] ta) (hs:starEach [a] X.env=[(false,eval a X.env)]:=by rfl):PI X tg (.Call (.Name "range" p) [a] [] pos) (iP ta):=by
 intro pins s σ H R I h;refine Call_ (L6 I hg hm boot_range (xH (thn (ha pos pins s σ H _ I h) λus s1 ⟨vs,H1,I1,r1,q1⟩=>?_) hs rfl));obtain⟨j,e,q1,q2,q⟩:=q1;subst e;cases r1 with
 | cons r rr=> cases rr;obtain⟨t,rfl⟩:=r;exact call_range_1 (ZZ I1 (by lia) (by lia) q1 q2 (by simpa using q))
def nA (wi:TI) (g:TG) (tb:TS):TS:=λD σ H=>wi σ H λJ H1=>∃W:Nat->Nat->St->Hp->Prop,(∃m,W 0 m σ H1)/\∀i m σ H,W i m σ H ->(J.stop i H/\D.nx σ H)\/(J.go i H/\∃N:St->Hp->Prop,(∀σ' H',N σ' H'->∃m',m' < m/\W (i+1) m' σ' H')/\∀x H',J.yld i H x H'->g x σ H' λσ2 H2=>tb { D with nx:=N,ct:=N,bk:=D.nx } σ2 H2)
def N4 (fp:List Addr) (h:Heap):List (Addr×Obj):=fp.filterMap λb=>(h.get? b).map λo=>(b,o)
theorem GJ {fp:List Addr}{h:Heap}{b:Addr}{o:Obj}(hb:b∈fp) (e:h.get? b=some o):(b,o)∈N4 fp h:=List.mem_filterMap.mpr ⟨b,hb,by rw[e];rfl⟩
theorem Y8 {fp:List Addr}{h:Heap}{p:Addr×Obj}(hp:p∈N4 fp h):p.1∈fp/\h.get? p.1=some p.2:=by
 obtain⟨b,hb,e⟩:=List.mem_filterMap.mp hp;cases q:h.get? b with
 | none=>rw[q] at e;cases e
 | some o=> rw[q] at e;have e':(b,o)=p:=Option.some.inj e;subst e';exact⟨hb,q⟩
theorem Inv.pinned {pins:List (Addr×Obj)}{σ:St}{H:Hp}{s:Shared}{fp:List Addr}(I:Inv X pins σ H s) (hf:∀b∈fp,OY X pins H b) (ho:∀b∈fp,∃o,s.heap.get? b=some o/\∀v,o.data≠.cell v):Inv X (pins++N4 fp s.heap) σ H s:=
 I.pins_of λp hp=>(yW.mp hp).elim (λz=>I.pin p (zB _ z)) λz=>by obtain⟨hb,e⟩:=Y8 z;obtain⟨f0,f1,f2,_⟩:=hf p.1 hb;obtain⟨o,e',d⟩:=ho p.1 hb;rw[e] at e';cases e';exact⟨e,f0,f1,f2,d⟩
theorem Inv.unpinned {pins pl:List (Addr×Obj)}{σ:St}{H:Hp}{s:Shared}(I:Inv X (pins++pl) σ H s):Inv X pins σ H s:=I.pins_of λp hp=>I.pin p (zB _ (zA _ hp))
theorem jS {iter:Expr}{body:List Stmt}{wi:TI}{g:TG}{tb:TS}{pos:Pos}(hp:PassesOwn (model X.prog X.w) X.A X.env X.xe) (hc:X.calm=true) (hi:PI X tg iter wi) (hg:PG X tg g) (hb:PSs X body tb) (hs:∀x,foldedSetIterable iter X.env x=pure x:=by intro _;rfl):PS X (.For tg iter body [] pos) (nA wi g tb):=by
 intro pins s σ H D I h;refine wpAny_For (thn (hi pins s σ H _ I h) λv s1 h1=>thn h1 λqw s2 h2=>?_) hs;obtain⟨it,fp,tn,J,H2,e,I2,T,dr,f2,W,⟨m0,w0⟩,turn⟩:=h2;subst e;have stat:∀{H':Hp},(∀b∈fp,H' b=none)->∀b∈fp,OY X pins H' b:=λhn b hb=>⟨hn b hb,(f2 b hb).2⟩
 refine codeAny_forLoop_any (λn s'=>∃i σ' H',Inv X pins σ' H' s'/\tn i s'.heap/\(∀b∈fp,H' b=none)/\W i n σ' H') ?_ m0 ⟨0,σ,H2,I2,dr,λb hb=>(f2 b hb).1,w0⟩;rintro n s3 ⟨i,σ3,H3,I3,fg,rV,w3⟩;rcases turn i n σ3 H3 w3 with ⟨stop,qn⟩ | ⟨go,N,hN,step⟩
 . refine wpAny_passesOwn hp (thn (T.done X rfl rfl rfl hc i pins s3 σ3 H3 X.xe I3 (stat rV) fg stop) λr s4 ⟨hr,I4⟩=>?_);subst hr;exact wpAny_execs_nil ⟨σ3,H3,I4,qn⟩
 . refine wpAny_passesOwn hp (thn (T.item X rfl rfl rfl hc i pins s3 σ3 H3 X.xe I3 (stat rV) fg go) λr s4 ⟨u,hr,h4⟩=>?_);subst hr;refine wpAny_passesOwn hp (thn h4 λ_ s5 ⟨x,H5,I5,r5,y5,fq,pf⟩=>?_);have ug:=I5.pinned (stat pf) (T.obj _ _ fq);refine wpAny_passesOwn hp (thn (hg _ s5 σ3 H5 x u _ ug r5 (step x H5 y5)) λ_ s6 ⟨σ6,H6,I6,q6⟩=>?_);refine wpAny_passesOwn hp (thn (hb _ s6 σ6 H6 _ I6 q6) λf s7 q7=>?_);have again:∀{σ7:St}{H7:Hp},Inv X (pins++N4 fp s5.heap) σ7 H7 s7->N σ7 H7->∃m,m < n/\∃i σ' H',Inv X pins σ' H' s7/\tn i s7.heap/\(∀b∈fp,H' b=none)/\W i m σ' H':=λ{σ7 H7} I7 n7=>by obtain⟨m',hm,w7⟩:=hN σ7 H7 n7;refine⟨m',hm,i+1,σ7,H7,I7.unpinned,T.keep _ _ _ fq λb hb o e=>(I7.pin (b,o) (zB _ (zB _ (GJ hb e)))).1,λb hb=>?_,w7⟩;obtain⟨o,e,d⟩:=T.obj _ _ fq b hb;exact(I7.pin (b,o) (zB _ (zB _ (GJ hb e)))).2.1
   cases f with
   | next=>obtain⟨σ7,H7,I7,n7⟩:=q7;exact again I7 n7
   | cont=>obtain⟨σ7,H7,I7,n7⟩:=q7;exact again I7 n7
   | brk=>obtain⟨σ7,H7,I7,q7⟩:=q7;exact⟨σ7,H7,I7.unpinned,q7⟩
   | ret v=>obtain⟨x7,σ7,H7,I7,r7,q7⟩:=q7;exact⟨x7,σ7,H7,I7.unpinned,r7,q7⟩
end
abbrev R2:=V->V->Hp->VK->Prop
def OpR (X:Cx) (f:Value->Value->Sem Value) (r:R2):Prop:=∀(pins:List (Addr×Obj)) (s:Shared) (σ:St) (H:Hp) (x y:V) (v u:Value) (Q:VK),Inv X pins σ H s->RelV x v->RelV y u->r x y H Q ->
   wpAny (model X.prog X.w) X.A (f v u) (EP X pins σ Q) X.xe s
def UnR (X:Cx) (f:Value->Sem Value) (r:V->Hp->VK->Prop):Prop:=∀(pins:List (Addr×Obj)) (s:Shared) (σ:St) (H:Hp) (x:V) (v:Value) (Q:VK),Inv X pins σ H s->RelV x v->r x H Q ->
   wpAny (model X.prog X.w) X.A (f v) (EP X pins σ Q) X.xe s
def BO (X:Cx) (f:Value) (r:List V->Hp->VK->Prop):Prop:=∀(pins:List (Addr×Obj)) (s:Shared) (σ:St) (H:Hp) (xs:List V) (us:List Value) (Q:VK),Inv X pins σ H s->Vals xs us->r xs H Q ->
   wpAny (model X.prog X.w) X.A (call f us) (EP X pins σ Q) X.xe s
def tOp (r:R2) (ta tb:TE):TE:=λσ H Q=>ta σ H λx H1=>tb σ H1 λy H2=>r x y H2 Q
def tUn (r:V->Hp->VK->Prop) (ta:TE):TE:=λσ H Q=>ta σ H λx H1=>r x H1 Q
def rI (C:Int->Int->Prop) (g:Int->Int->V):R2:=λx y H Q=>∃i j,x = .int i/\y = .int j/\C i j/\Q (g i j) H
def rI0 (g:Int->Int->V):R2:=λx y H Q=>∃i j,x = .int i/\y = .int j/\Q (g i j) H
def rU (g:Int->V):V->Hp->VK->Prop:=λx H Q=>∃i,x = .int i/\Q (g i) H
section
variable {X:Cx}{a b c:Expr}{ta tb tc:TE}{pos:Pos}
theorem jT (ha:PE X a ta) (hb:PE X b tb) {pins:List (Addr×Obj)}{s:Shared}{σ:St}{H:Hp}{R:V->V->Hp->Prop}(I:Inv X pins σ H s) (h:ta σ H λx H1=>tb σ H1 λy H2=>R x y H2) {Q:Value->Shared->Prop}{f:Value->Value->Sem Value} (hf:∀v u s2 x y H2,Inv X pins σ H2 s2->RelV x v->RelV y u->R x y H2->wpAny (model X.prog X.w) X.A (f v u) Q X.xe s2) :
   wpAny (model X.prog X.w) X.A (eval a X.env) (λv s₁=>wpAny (model X.prog X.w) X.A (eval b X.env) (λu s₂=>wpAny (model X.prog X.w) X.A (f v u) Q X.xe s₂) X.xe s₁) X.xe s:=by refine thn (ha pins s σ H _ I h) λv s1 ⟨x,H1,I1,r1,q1⟩=>?_;refine thn (hb pins s1 σ H1 _ I1 q1) λu s2 ⟨y,H2,I2,r2,q2⟩=>?_;exact hf v u s2 x y H2 I2 r1 r2 q2
theorem HM {op:Operator}{r:R2}(ho:OpR X (binaryOp op) r) (ha:PE X a ta) (hb:PE X b tb):PE X (.BinOp a op b pos) (tOp r ta tb):=by intro pins s σ H Q I h;exact wpAny_BinOp (jT ha hb I h λv u s2 x y H2 I2 rx ry q=>ho pins s2 σ H2 x y v u Q I2 rx ry q)
theorem nB {op:UnaryOp}{r:V->Hp->VK->Prop}(ho:UnR X (unaryOp op) r) (ha:PE X a ta):PE X (.UnaryOp op a pos) (tUn r ta):=by intro pins s σ H Q I h;exact UnaryOp_ (thn (ha pins s σ H _ I h) λv s1 ⟨x,H1,I1,r1,q1⟩=>ho pins s1 σ H1 x v Q I1 r1 q1)
theorem opI {f:Value->Value->Sem Value}{C:Int->Int->Prop}{g:Int->Int->Int} (rule:∀(i j:Int) (t u:Tok) (s:Shared) (Q:Value->Shared->Prop) (E:Value->Shared->Prop),C i j->Q (.int (g i j) s.toks) { s with toks:=s.toks+1 }->wpAny (model X.prog X.w) X.A (f (.int i t) (.int j u)) Q E s) :
   OpR X f (rI C λi j=>.int (g i j)):=by intro pins s σ H x y v u Q I rx ry h;obtain⟨i,j,rfl,rfl,hc,q⟩:=h;obtain⟨t,rfl⟩:=rx;obtain⟨t',rfl⟩:=ry;exact rule i j t t' s _ _ hc ⟨.int (g i j),H,I.tok _,⟨_,rfl⟩,q⟩
theorem nC {f:Value->Value->Sem Value}{g:Int->Int->Int} (rule:∀(i j:Int) (t u:Tok) (s:Shared) (Q:Value->Shared->Prop) (E:Value->Shared->Prop),Q (.int (g i j) s.toks) { s with toks:=s.toks+1 }->wpAny (model X.prog X.w) X.A (f (.int i t) (.int j u)) Q E s) :
   OpR X f (rI0 λi j=>.int (g i j)):=by intro pins s σ H x y v u Q I rx ry h;obtain⟨i,j,rfl,rfl,q⟩:=h;obtain⟨t,rfl⟩:=rx;obtain⟨t',rfl⟩:=ry;exact rule i j t t' s _ _ ⟨.int (g i j),H,I.tok _,⟨_,rfl⟩,q⟩
theorem jU {f:Value->Value->Sem Value}{g:Int->Int->Bool} (rule:∀(i j:Int) (t u:Tok) (s:Shared) (Q:Value->Shared->Prop) (E:Value->Shared->Prop),Q (.bool (g i j)) s->wpAny (model X.prog X.w) X.A (f (.int i t) (.int j u)) Q E s) :
   OpR X f (rI0 λi j=>.bl (g i j)):=by intro pins s σ H x y v u Q I rx ry h;obtain⟨i,j,rfl,rfl,q⟩:=h;obtain⟨t,rfl⟩:=rx;obtain⟨t',rfl⟩:=ry;exact rule i j t t' s _ _ ⟨.bl (g i j),H,I,rfl,q⟩
def jV (i j:Int):Prop:=0<=j/\j<=1000000/\i.natAbs < 2 ^ 64
def CMul (i j:Int):Prop:=(-(2 ^ 64) < i/\i < 2 ^ 64)\/(-(2 ^ 64) < j/\j < 2 ^ 64)
theorem CMul.ok {i j:Int}(h:CMul i j):IntMulOk i j:=by
 rcases h with ⟨h1,h2⟩ | ⟨h1,h2⟩
 . exact .of_left (intBits_le_64 h1 h2)
 . exact .of_right (intBits_le_64 h1 h2)
theorem jW:OpR X (binaryOp .Add) (rI0 λi j=>.int (i+j)):=nC λ_ _ _ _ _ _ _ q=>add_int q
theorem jX:OpR X (binaryOp .Sub) (rI0 λi j=>.int (i - j)):=nC λ_ _ _ _ _ _ _ q=>sub_int q
theorem jY:OpR X (binaryOp .Mod) (rI (λ_ j=>0 < j) λi j=>.int (i % j)):=opI λi j _ _ _ _ _ hc q=>by have h1:(0:Int) < j:=hc;exact mod_int' (by lia) (by rw[Int.fmod_eq_emod_of_nonneg i (by lia)];exact q)
theorem jZ:OpR X (binaryOp .Pow) (rI jV λi j=>.int (i ^ j.toNat)):=opI λ_ _ _ _ _ _ _ hc q=>pow_int_small hc.1 hc.2.1 hc.2.2 q
theorem k5:OpR X (binaryOp .LShift) (rI jV λi j=>.int (i*2 ^ j.toNat)):=opI λ_ _ _ _ _ _ _ hc q=>lshift_int_small hc.1 hc.2.1 hc.2.2 q
theorem unI {f:Value->Sem Value}{g:Int->Int} (rule:∀(i:Int) (t:Tok) (s:Shared) (Q:Value->Shared->Prop) (E:Value->Shared->Prop),Q (.int (g i) s.toks) { s with toks:=s.toks+1 }->wpAny (model X.prog X.w) X.A (f (.int i t)) Q E s) :
   UnR X f (rU λi=>.int (g i)):=by intro pins s σ H x v Q I rx h;obtain⟨i,rfl,q⟩:=h;obtain⟨t,rfl⟩:=rx;exact rule i t s _ _ ⟨.int (g i),H,I.tok _,⟨_,rfl⟩,q⟩
theorem k6:UnR X (unaryOp .USub) (rU λi=>.int (-i)):=unI λ_ _ _ _ _ q=>neg_int q
theorem N5 {pins:List (Addr×Obj)}{σ:St}{H:Hp}{s:Shared}{Q:VK}{k k':Bool}(I:Inv X pins σ H s) (q:Q (.bl k) H) (e:k=k'):EP X pins σ Q (.bool k') s:=by subst e;exact⟨.bl k,H,I,rfl,q⟩
theorem nD:OpR X (compareOp .Lt) (rI0 λi j=>.bl (decide (i < j))):=jU λ_ _ _ _ _ _ _ q=>lt_int q
theorem iQ:OpR X (compareOp .Gt) (rI0 λi j=>.bl (decide (j < i))):=jU λ_ _ _ _ _ _ _ q=>gt_int q
theorem iR:OpR X (compareOp .GtE) (rI0 λi j=>.bl (decide (j<=i))):=jU λ_ _ _ _ _ _ _ q=>ge_int q
theorem Y9:OpR X (compareOp .Lt) (λx y H Q=>∃i j,x = .str i/\y = .str j/\Q (.bl (decide (i.cps.toList < j.cps.toList))) H):=by intro pins s σ H x y v u Q I rx ry h;obtain⟨i,j,rfl,rfl,q⟩:=h;obtain⟨t,rfl⟩:=rx;obtain⟨t',rfl⟩:=ry;exact lt_str (N5 I q rfl)
theorem YA:OpR X (compareOp .In) (λx y H Q=>∃i j,x = .str i/\y = .str j/\Q (.bl (!(b0J j i 0 j.length 1).isEmpty)) H):=by intro pins s σ H x y v u Q I rx ry h;obtain⟨i,j,rfl,rfl,q⟩:=h;obtain⟨t,rfl⟩:=rx;obtain⟨t',rfl⟩:=ry;exact in_str (N5 I q rfl)
theorem k7:OpR X (compareOp .Is) (λx y H Q=>y = .non/\Q (.bl (decide (x = .non))) H):=by
 intro pins s σ H x y v u Q I rx ry h;obtain⟨rfl,q⟩:=h;cases ry;refine is_none_gen (N5 I q ?_);cases x <;> first
   | (cases rx;rfl)
   | (obtain⟨t,rfl⟩:=rx;rfl)
theorem eT:OpR X (compareOp .IsNot) (λx y H Q=>y = .non/\Q (.bl (!decide (x = .non))) H):=by
 intro pins s σ H x y v u Q I rx ry h;obtain⟨rfl,q⟩:=h;cases ry;refine isnot_none_gen (N5 I q ?_);cases x <;> first
   | (cases rx;rfl)
   | (obtain⟨t,rfl⟩:=rx;rfl)
theorem QX:OpR X (compareOp .NotIn) (λx y H Q=>∃i j,x = .str i/\y = .str j/\Q (.bl (!(!(b0J j i 0 j.length 1).isEmpty))) H):=by intro pins s σ H x y v u Q I rx ry h;obtain⟨i,j,rfl,rfl,q⟩:=h;obtain⟨t,rfl⟩:=rx;obtain⟨t',rfl⟩:=ry;exact notIn_str (N5 I q rfl)
theorem OpR.or {f:Value->Value->Sem Value}{r r':R2}(h:OpR X f r) (h':OpR X f r'):OpR X f (λx y H Q=>r x y H Q\/r' x y H Q):=by
 intro pins s σ H x y v u Q I rx ry q;rcases q with q | q;. exact h pins s σ H x y v u Q I rx ry q
 . exact h' pins s σ H x y v u Q I rx ry q
theorem CD (b:Expr) {op:CmpOp}(h:op≠.In:=by decide) (h2:op≠.NotIn:=by decide):behindInMarks op b=false:=by
 have e1:(op==CmpOp.In)=false:=by cases op <;> first | rfl | exact absurd rfl h
 have e2:(op==CmpOp.NotIn)=false:=by cases op <;> first | rfl | exact absurd rfl h2
 cases b <;> simp[behindInMarks,e1,e2]
theorem E7 {op:CmpOp}{r:R2}(ho:OpR X (compareOp op) r) (ha:PE X a ta) (hb:PE X b tb) (hm:behindInMarks op b=false):PE X (.Compare a [op] [b] pos) (tOp r ta tb):=by intro pins s σ H Q I h;exact wpAny_Compare1 (jT ha hb I h λv u s2 x y H2 I2 rx ry q=>ho pins s2 σ H2 x y v u Q I2 rx ry q) hm
def iS (t:TE):TT:=λσ H Q=>t σ H λx H'=>∃k,x = .bl k/\Q k H'
theorem C8 {op:CmpOp}{r:R2}(ho:OpR X (compareOp op) r) (ha:PE X a ta) (hb:PE X b tb) (hm:behindInMarks op b=false):PT X (.Compare a [op] [b] pos) (iS (tOp r ta tb)):=by
 intro pins s σ H Q I h;refine wpAny_isTrue_Compare1 (thn (ha pins s σ H _ I h) λv s1 ⟨x,H1,I1,r1,q1⟩=>thn (hb pins s1 σ H1 _ I1 q1) λu s2 ⟨y,H2,I2,r2,q2⟩=>
   thn (ho pins s2 σ H2 x y v u _ I2 r1 r2 q2) λc s3 ⟨z,H3,I3,r3,k,e,q3⟩=>?_) hm;subst e;cases r3;exact wpAny_truthy_bool ⟨H3,I3,q3⟩
theorem QY:(sizeLine:Nat) < 2 ^ 63:=by rw[sizeLine_eq];decide
theorem V6:OpR X (binaryOp .Add) (λx y H Q=>∃i j,x = .str i/\y = .str j/\i.length+j.length<=sizeLine/\Q (.str (i++j)) H):=by intro pins s σ H x y v u Q I rx ry h;obtain⟨i,j,rfl,rfl,hz,q⟩:=h;obtain⟨t,rfl⟩:=rx;obtain⟨t',rfl⟩:=ry;exact add_str (λt' tk=>⟨.str (i++j),H,I.tok _,⟨_,rfl⟩,q⟩) hz
theorem FR {x:V}{us:List Value}(r:Vals [x] us):∃u,us=[u]/\RelV x u:=by
 cases r with
 | cons r1 r2=>cases r2;exact⟨_,rfl,r1⟩
theorem nE {x y:V}{us:List Value}(r:Vals [x,y] us):∃u w',us=[u,w']/\RelV x u/\RelV y w':=by
 cases r with
 | cons r1 r2=>
   cases r2 with
   | cons r3 r4=>cases r4;exact⟨_,_,rfl,r1,r3⟩
def eU (K:Frg) (x:V) (H:Hp) (n:Nat):Prop:=
 match x with
 | .str y=>y.length<=sizeLine/\n=y.length
 | .byt y=>y.size<=sizeLine/\n=y.size
 | .ref p=>(∃xs,SqL K H p xs/\n=xs.length)\/∃xs,SqT K H p xs/\n=xs.length
 | _=>False
theorem a6:BO X (.builtin "len") (λxs H Q=>∃x n,xs=[x]/\eU X.K x H n/\Q (.int n) H):=by
 intro pins s σ H xs us Q I r h;obtain⟨x,n,rfl,e,q⟩:=h;obtain⟨u,rfl,rx⟩:=FR r;have hl:=QY;have hs:sizeLine=16777216:=sizeLine_eq;cases x with
 | str y=> obtain⟨t,rfl⟩:=rx;obtain⟨hy,e'⟩:y.length<=sizeLine/\n=y.length:=e;subst e';exact len_str (by lia) ⟨.int _,H,I.tok _,⟨_,rfl⟩,q⟩
 | byt y=> obtain⟨t,rfl⟩:=rx;obtain⟨hy,e'⟩:y.size<=sizeLine/\n=y.size:=e;subst e';exact PySem.W.len_bytes (by lia) ⟨.int _,H,I.tok _,⟨_,rfl⟩,q⟩
 | ref p=>
   cases rx;have e':(∃xs,SqL X.K H p xs/\n=xs.length)\/∃xs,SqT X.K H p xs/\n=xs.length:=e;rcases e' with ⟨xs,hx,e'⟩ | ⟨xs,hx,e'⟩
   . subst e';obtain⟨aa,r',pl,hz⟩:=I.list hx;have ab:=r'.length;exact Calls.call_len_list pl.isList (by simp only[zJ];lia) ⟨.int xs.length,H,I.tok _,⟨_,by simp only[zJ];rw[ab]⟩,q⟩
   . subst e';obtain⟨aa,r',pl,hz⟩:=I.tuple hx;have ab:=r'.length;exact len_tuple pl (by simp only[zJ];lia) ⟨.int xs.length,H,I.tok _,⟨_,by simp only[zJ];rw[ab]⟩,q⟩
 | _=>exact(show False from e).elim
end
structure ObjM (h:Heap) (x dx C:Addr) (mA:Str->Option Value):Prop where
 obj:h.get? x=some (PySem.W.instObj C dx)
 ns:h.Ns1 dx mA
 ne:dx≠x
theorem YB {h:Heap}{dx:Addr}{mA:Str->Option Value}(n:h.Ns1 dx mA):∃od,h.get? dx=some od/\∀name,PySem.W.lookIn name od=some (mA name):=by
 obtain⟨o,es,ep,ho,hd,hk,_,hm⟩:=n;refine⟨o,ho,λname=>?_⟩;have e:=hm name;unfold nsFind findBy at e;rw[<-Array.find?_toList] at e;unfold PySem.W.lookIn;rw[hd];dsimp only;split;. rename_i y q;rw[q] at e;exact congrArg some e
 . rename_i q;rw[q] at e;have a:es.toList.any (·.refKey)=false:=by rw[b5X];intro y hy;obtain⟨z,t,eh⟩:=hk y (Array.mem_toList_iff.mp hy);simp[DictEntry.refKey,eh]
   have a':¬es.toList.any (·.refKey)=true:=by rw[a];exact nft
   rw[if_neg a'];exact congrArg some e
theorem ObjM.look {h:Heap}{x dx C:Addr}{mA:Str->Option Value}(I:ObjM h x dx C mA):∃od,PySem.W.InstAt h x (PySem.W.instObj C dx) C (some od)/\∀name,PySem.W.lookIn name od=some (mA name):=
 let ⟨od,ho,hl⟩:=YB I.ns
 ⟨od,⟨I.obj,rfl,rfl,ho⟩,hl⟩
theorem RelO.some_of {v:V}{o:Option Value}(r:RelO (some v) o):∃u,o=some u/\RelV v u:=by
 cases o with
 | none=>exact(show False from r).elim
 | some u=>exact⟨u,rfl,r⟩
section
variable {P:Program}{w:World}{H H':Hp}{h h':Heap}{a C dx:Addr}{fs ud:List (Str×V)}
theorem eV (hok:HOk P w H h) (e:H a=some (.ins C dx fs)):∃mA,ObjM h a dx C mA/\(∀f,RelO (fs.lookup f) (mA f))/\PySem.Within mA (fs.map (·.1))/\fs.length<=1000/\H dx=some (.own a):=by
 obtain⟨d,z,ne,ob,mA,n,r,q⟩:=(show ObjOk P w H h a (.ins C dx fs) from hok a _ e)
 exact⟨mA,⟨ob,n,ne⟩,r,q,z,d⟩
end
structure Cls (K:Frg) (C:Addr):Prop where
 pg:PySem.W.plainGet K C Str.empty=true
 hd:PySem.W.hasDictIn K C=true
 po:PySem.W.plainOver K C=true
 sa:PySem.W.findIn K (.ref C) "__setattr__"=some (some (.builtin "object.__setattr__"))
theorem Cls.get {K:Frg}{C:Addr}(c:Cls K C) (f:Str):PySem.W.plainGet K C f=true:=c.pg
section
variable {X:Cx}{pins:List (Addr×Obj)}{σ:St}{H:Hp}{s:Shared}{A:Around}{E:Value->Shared->Prop}{Q:Value->Shared->Prop}{c:Value}{b:Bool}
inductive TyOf (K:Frg) (H:Hp):V->Value->Prop where
 | non:TyOf K H .non (.type "NoneType")
 | bl (x:Bool):TyOf K H (.bl x) (.type "bool")
 | int (i:Int):TyOf K H (.int i) (.type "int")
 | str (x:Str):TyOf K H (.str x) (.type "str")
 | flt (x:UInt64):TyOf K H (.flt x) (.type "float")
 | lst {a:Addr}{xs:List V}(e:H a=some (.lst xs)):TyOf K H (.ref a) (.type "list")
 | frz {a:Addr}{o:Obj}{xs:List V}(e:H a=some (.frz o (.lst xs))):TyOf K H (.ref a) (.type "list")
 | tup {a:Addr}{xs:List V}(e:H a=some (.tup xs)):TyOf K H (.ref a) (.type "tuple")
 | dK {a:Addr}{kvs:List (Key×V)}(e:H a=some (.dK kvs)):TyOf K H (.ref a) (.type "dict")
 | dT {a:Addr}{kvs:List (List Key×V)}(e:H a=some (.dT kvs)):TyOf K H (.ref a) (.type "dict")
 | ins {a C dx:Addr}{fs:List (Str×V)}(e:H a=some (.ins C dx fs)) (cl:Cls K C) (ha:PySem.W.findIn K (.ref C) "__class__"=some (some (.builtin "object.__class__"))) (hn:PySem.W.specialIn K (.builtin "object.__class__") "__get__"=some (some (.builtin "getset_descriptor.__get__"))) (htk:PySem.W.takesIn K (.builtin "object.__class__")=some true) (hm:PySem.W.mroIn K C (.type "object")=some true):TyOf K H (.ref a) (.ref C)
theorem FS {x:V}{u t:Value}(I:Inv X pins σ H s) (rx:RelV x u) (ty:TyOf X.K H x t) (e:PySem.W.kitOne X.K t c=some b) (h:∀tk,Q (.bool b) { s with toks:=tk }) :
   wpAny (model X.prog X.w) A (call (.builtin "isinstance") [u,c]) Q E s:=by
 cases ty with
 | non=>cases (show u=a5Q from rx);exact a2X PySem.W.kitx_none I.kIn a7Q e (λz=>nomatch z) h
 | bl y=>cases (show u=Value.bool y from rx);exact a2X PySem.W.kitx_bool I.kIn a7Q e (λz=>nomatch z) h
 | int i=>obtain⟨t,q⟩:=(show ∃t,u=Value.int i t from rx);cases q;exact a2X PySem.W.kitx_int I.kIn a7Q e (λz=>nomatch z) h
 | str y=>obtain⟨t,q⟩:=(show ∃t,u=b6V y t from rx);cases q;exact a2X PySem.W.kitx_str I.kIn a7Q e (λz=>nomatch z) h
 | flt y=>obtain⟨t,q⟩:=(show ∃t,u=Value.float y t from rx);cases q;exact a2X PySem.W.kitx_float I.kIn a7Q e (λz=>nomatch z) h
 | @lst a xs ea=>
   cases (show u=a0X a from rx);obtain⟨_,_,n,_,h1⟩:=(show ObjOk X.prog X.w H s.heap a (.lst xs) from I.hok a _ ea)
   exact a2X PySem.W.kitx_list I.kIn ⟨_,h1,rfl⟩ e (λz=>nomatch z) h
 | @frz a ob xs ea=>
   cases (show u=a0X a from rx);obtain⟨_,_,_,n,_,h1⟩:=(show ObjOk X.prog X.w H s.heap a (.frz ob (.lst xs)) from I.hok a _ ea)
   exact a2X PySem.W.kitx_list I.kIn ⟨_,h1,rfl⟩ e (λz=>nomatch z) h
 | @tup a xs ea=>
   cases (show u=a0X a from rx);obtain⟨_,_,_,p⟩:=(show ObjOk X.prog X.w H s.heap a (.tup xs) from I.hok a _ ea)
   obtain⟨o,h1,h2,_⟩:=p;exact a2X PySem.W.kitx_tuple I.kIn ⟨o,h1,h2⟩ e (λz=>nomatch z) h
 | @dK a kvs ea=>
   cases (show u=a0X a from rx);obtain⟨_,_,vs,_,p⟩:=(show ObjOk X.prog X.w H s.heap a (.dK kvs) from I.hok a _ ea)
   obtain⟨o,es,ep,h1,h2,_⟩:=p;exact a2X PySem.W.kitx_dict I.kIn ⟨o,h1,h2.1⟩ e (λz=>nomatch z) h
 | @dT a kvs ea=>
   cases (show u=a0X a from rx);obtain⟨_,_,xs,_,o,es,ep,h1,h2,_⟩:=(show ObjOk X.prog X.w H s.heap a (.dT kvs) from I.hok a _ ea)
   exact a2X PySem.W.kitx_dict I.kIn ⟨o,h1,h2.1⟩ e (λz=>nomatch z) h
 | @ins a C dx fs ea cl ha hn htk hm=> cases (show u=a0X a from rx);obtain⟨mA,O,_⟩:=eV I.hok ea;obtain⟨od,J,_⟩:=O.look;exact a2X (PySem.W.kitx_own (cl.get _) cl.hd ha hn htk hm) I.kIn J e (λz=>nomatch z) h
end
structure Room (k:Nat) (A:Around):Prop where
 hd:A.handled=none
 dp:A.depth+3*k+5 < recursionLimit
 un:A.units+16*k+200 < cLine
theorem Room.mono {j k:Nat}{A:Around}(r:Room k A) (h:j<=k):Room j A:=⟨r.hd,by have:=r.dp;lia,by have:=r.un;lia⟩
theorem Room.deeper {k:Nat}{A:Around}(r:Room (k+1) A) (env:Env):Room k (A.deeper env):=⟨r.hd,by have:=r.dp;show A.depth+1+3*k+5 < _;lia,by have:=r.un;show A.units+3+16*k+200 < _;lia⟩
theorem Room.depth {k:Nat}{A:Around}(r:Room k A):A.depth < recursionLimit:=by have:=r.dp;lia
theorem Room.units {k:Nat}{A:Around}(r:Room k A):A.units+64 < cLine:=by have:=r.un;lia
def nG:TA:=λ_ H Q=>Q [] H
def iT (ta:TE) (tr:TA):TA:=λσ H Q=>ta σ H λx H1=>tr σ H1 λxs H2=>Q (x::xs) H2
section
variable {X:Cx}{e:Expr}{es:List Expr}{te:TE}{t:TA}{pos:Pos}
theorem k8:PA X [] nG:=λ_ _ _ _ H Q I h=>Calls.spliced_nil ⟨[],H,I,.nil,h⟩
theorem eY (ha:PE X e te) (hr:PA X es t) (hs:starEach (e::es) X.env=(false,eval e X.env)::starEach es X.env:=by rfl):PA X (e::es) (iT te t):=by intro pos pins s σ H Q I h;rw[hs];show wpAny _ _ (spliced ((false,eval e X.env)::backTo pos (starEach es X.env))) _ _ s;refine Calls.spliced_cons (thn (ha pins s σ H _ I h) λu s1 ⟨x,H1,I1,r1,q1⟩=>?_);exact thn (hr pos pins s1 σ H1 _ I1 q1) λus s2 ⟨xs,H2,I2,r2,q2⟩=>⟨x::xs,H2,I2,.cons r1 r2,q2⟩
def nH (t:TA):TE:=λσ H Q=>t σ H λxs H1=>xs.length<=sizeLine/\∀p,H1 p=none->Q (.ref p) (upd H1 p (.tup xs))
def k9 (t:TA):TE:=λσ H Q=>t σ H λxs H1=>xs.length<=sizeLine/\∀p,H1 p=none->Q (.ref p) (upd H1 p (.lst xs))
theorem kA {x1} (h:PA X es t):PE X (.Tuple es x1 pos) (nH t):=by intro pins s σ H Q I hq;refine wpAny_Tuple_spliced (thn (h pos pins s σ H _ I hq) λus s1 ⟨xs,H1,I1,r,z,q⟩=>⟨by rw[<-r.length];exact z,?_⟩);have hf:H1 s1.heap.objs.size=none:=I1.hok.fresh (zR _);refine⟨.ref s1.heap.objs.size,upd H1 s1.heap.objs.size (.tup xs),I1.laid (t':=s1.toks) (λb u e=>zW _ e) (zR _) ?_,rfl,q _ hf⟩;exact⟨z,us,r,⟨_,yZ _ rfl,rfl,_,rfl⟩⟩
theorem kB (h:PA X es t):PE X (.List es pos) (k9 t):=by intro pins s σ H Q I hq;refine wpAny_List_spliced (thn (h pos pins s σ H _ I hq) λus s1 ⟨xs,H1,I1,r,z,q⟩=>⟨by rw[<-r.length];exact z,?_⟩);have hf:H1 s1.heap.objs.size=none:=I1.hok.fresh (zR _);refine⟨.ref s1.heap.objs.size,upd H1 s1.heap.objs.size (.lst xs),I1.laid (t':=s1.toks) (λb u e=>zW _ e) (zR _) ?_,rfl,q _ hf⟩;exact⟨z,us,0,r,yZ _ rfl⟩
end
abbrev Sp:=List V->Hp->VK->XK->Prop
abbrev CXT:=List Env->Hp->Shared->XK->Value->Shared->Prop
structure Env0 (P:Program) (w:World) (K:Frg) (mg:Str->Option Value) (base:Heap) (A:Around) (outer:List Env) (s:Shared) (H:Hp):Prop where
 frames:A.frames=some outer
 mod:Mod K mg base
 bs:∀b o,base.get? b=some o->s.heap.get? b=some o/\H b=none
 bsz:base.objs.size<=s.heap.objs.size
 funs:s.heap.FunFrames base outer
 frf:∀b∈frs outer,H b=none
 hok:HOk P w H s.heap
 bare:AllBare s.gens
def CE (outer:List Env) (P:Program) (w:World) (H:Hp) (s:Shared) (Q:VK) (u:Value) (s':Shared):Prop:=∃v H',s'.os=s.os/\AllBare s'.gens/\Un (frs outer) [] H H' s.heap s'.heap/\HOk P w H' s'.heap/\RelV v u/\Q v H'
def CR (CX:CXT) (outer:List Env) (P:Program) (w:World) (H:Hp) (s:Shared) (Q:VK) (E:XK) (r:Result) (s':Shared):Prop:=
 match r with
 | .ok (.ret u)=>CE outer P w H s Q u s'
 | .ok _=>False
 | .error e=>CX outer H s E e s'
structure FnOk (P:Program) (w:World) (K:Frg) (mg:Str->Option Value) (base:Heap) (CX:CXT) (k:Nat) (f:Addr) (fd:FuncData) (ps:List Str) (sp:Sp):Prop where
 len:∀vs H Q E,sp vs H Q E->vs.length=ps.length
 run:∀(A:Around) (outer:List Env) (s:Shared) (H:Hp) (args:Args) (us:List Value) (vs:List V) (Q:VK) (E:XK),Room k A->Env0 P w K mg base A outer s H->BindsTo s fd args (ps.zip us)->Vals vs us->sp vs H Q E ->
   codeAny (model P w) A (.call (.ref f) args) (CR CX outer P w H s Q E) s
section
variable {X:Cx}{pins:List (Addr×Obj)}{σ:St}{H:Hp}{s s':Shared}
theorem Inv.env0 (I:Inv X pins σ H s):Env0 X.prog X.w X.K X.mg X.base X.A X.stack s H:=⟨I.ok.frames,I.ok.mod,I.bs,zN I.ok.bsz I.sz,I.stack,I.stkFree,I.hok,I.bare⟩
theorem Inv.after {Q:VK}{u:Value}(I:Inv X pins σ H s) (h:CE X.stack X.prog X.w H s Q u s'):EP X pins σ Q u s':=by obtain⟨v,H',os,bare,un,hok,r,q⟩:=h;obtain⟨hh,g,d,t,qx⟩:=s';obtain rfl:qx=s.os:=os;exact⟨v,H',I.call (h':=hh) (g':=g) (d':=d) (t':=t) (ch:=[]) un hok bare (λb z=>absurd z (by simp)),r,q⟩
end
def WP (sp:Sp) (jd:List V) (E:XK) (t:TA):TE:=λσ H Q=>t σ H λvs H1=>sp (vs++jd) H1 Q E
def Binds (K:Frg) (fd:FuncData) (ps:List Str) (ds:List Value):Prop:=∀(s:Shared) (us:List Value),K.In s.heap->(us++ds).length=ps.length->BindsTo s fd ⟨us,[]⟩ (ps.zip (us++ds))
theorem Binds.all {K:Frg}{fd:FuncData}{ps:List Str}(h:∀us:List Value,us.length=ps.length->bindArgs fd ⟨us,[]⟩=pure (ps.zip us)):Binds K fd ps []:=λs us _ hl=>by rw[a2K] at hl ⊢;exact .of_eq (h us hl)
def V7 (CX:CXT) (X:Cx) (E:XK):Prop:=∀(pins:List (Addr×Obj)) (σ:St) (H:Hp) (s:Shared) (e:Value) (s':Shared),Inv X pins σ H s->CX X.stack H s E e s'->X.xe e s'
section
variable {X:Cx}{CX:CXT}{k:Nat}{f C:Addr}{fd:FuncData}{ps:List Str}{sp:Sp}{jd:List V}{ds:List Value}{E:XK}{x m:Str}{p pos apos:Pos}{e o:Expr}{es:List Expr}{ta:TE}{t:TA}
theorem kC {pins:List (Addr×Obj)}{σ:St}{H:Hp}{s:Shared}{Q:VK}{us:List Value}{vs:List V}(F:FnOk X.prog X.w X.K X.mg X.base CX k f fd ps sp) (hr:Room k X.A) (hb:Binds X.K fd ps ds) (hd:Vals jd ds) (hx:V7 CX X E) (I:Inv X pins σ H s) (r:Vals vs us) (h:sp (vs++jd) H Q E):wpAny (model X.prog X.w) X.A (call (.ref f) us) (EP X pins σ Q) X.xe s:=by
 have r2:Vals (vs++jd) (us++ds):=r.append hd;have hl:(us++ds).length=ps.length:=by rw[<-r2.length];exact F.len _ _ _ _ h
 refine wpAny_call (codeAny_mono (F.run X.A X.stack s H ⟨us,[]⟩ (us++ds) (vs++jd) Q E hr I.env0 (hb s us I.kIn hl) r2 h) λr s' hq=>?_);cases r with
 | error e=>exact hx pins σ H s e s' I hq
 | ok fl=>
   cases fl with
   | ret u=>exact I.after hq
   | next=>exact b0V hq
   | brk=>exact b0V hq
   | cont=>exact b0V hq
theorem eZ (F:FnOk X.prog X.w X.K X.mg X.base CX k f fd ps sp) (hr:Room k X.A) (hg:Gl X x) (hm:X.mg x=some (.ref f)) (hk:b0Q X.K (.ref f)=true) (hb:Binds X.K fd ps ds) (hd:Vals jd ds) (hx:V7 CX X E) (ha:PA X (e::es) t) (ig:(x==("__debug__":Str))=false:=by decide) (he:starEach (e::es) X.env=(false,eval e X.env)::starEach es X.env:=by rfl) (dz:(backTo pos (starEach es X.env)).any (·.1)=false:=by rfl) :
   PE X (.Call (.Name x p) (e::es) [] pos) (WP sp jd E t):=by intro pins s σ H Q I h;refine wpAny_Call_Name_kw (eI I hg hm ?_ ig);refine PySem.W.callWith_K (h₀:=X.base) I.ok.mod.kin hk (thn (ha pos pins s σ H _ I h) λus s1 ⟨vs,H1,I1,r,q⟩=>⟨I1.kIn,?_⟩) he dz;exact kC F hr hb hd hx I1 r q
end
structure FnScope (N P:List Str) (sc:Scope):Prop where
 kind:sc.kind = .function
 co:sc.isCoroutine=false
 gen:sc.isGenerator=false
 nd:N.Nodup
 pre:N.take P.length=P
 par:∀x∈P,sc.names.lookup x=some .local\/sc.names.lookup x=some .cell
 nofree:∀y∈sc.names,y.2≠.free
theorem PM {kindOf:Str->Option NameKind}{x:Str}:∀{binds:List (Str×Value)}{m:Str->Option Value},(∀v,(x,v)∉binds)->bindL kindOf binds m x=m x
 | [],_,_=>rfl
 | (n,v)::r,m,h=>by
   unfold bindL;rw[PM λw hw=>h w (yV _ hw)];split
   . have:x≠n:=by rintro rfl;exact h v a1X
     simp[this]
   . rfl
theorem PN {kindOf:Str->Option NameKind}{x:Str}:∀{binds:List (Str×Value)}{m:Str->Option Value},(∀v,(x,v)∉binds)->bindC kindOf binds m x=m x
 | [],_,_=>rfl
 | (n,v)::r,m,h=>by
   unfold bindC;rw[PN λw hw=>h w (yV _ hw)];split;. rfl
   . have:x≠n:=by rintro rfl;exact h v a1X
     simp[this]
theorem PP {kindOf:Str->Option NameKind}{x:Str}{v:Value}:∀{P:List Str}{vs:List Value}{i:Nat}{m:Str->Option Value},P.Nodup->P[i]?=some x->vs[i]?=some v->kindOf x=some .local ->
   bindL kindOf (P.zip vs) m x=some v
 | [],_,_,_,_,h,_,_=>by simp at h
 | _::_,[],_,_,_,_,h,_=>by simp at h
 | p::P,w::vs,0,m,nd,h1,h2,hk=>by simp at h1 h2;subst h1;subst h2;show bindL kindOf ((p,w)::P.zip vs) m p=_;unfold bindL;rw[PM λv hv=>(xV.mp nd).1 (List.of_mem_zip hv).1,if_pos hk];simp
 | p::P,w::vs,i+1,m,nd,h1,h2,hk=>by show bindL kindOf ((p,w)::P.zip vs) m x=_;unfold bindL;exact PP (i:=i) (xV.mp nd).2 (by simpa using h1) (by simpa using h2) hk
theorem PQ {kindOf:Str->Option NameKind}{x:Str}{v:Value}:∀{P:List Str}{vs:List Value}{i:Nat}{m:Str->Option Value},P.Nodup->P[i]?=some x->vs[i]?=some v->kindOf x≠some .local ->
   bindC kindOf (P.zip vs) m x=some v
 | [],_,_,_,_,h,_,_=>by simp at h
 | _::_,[],_,_,_,_,h,_=>by simp at h
 | p::P,w::vs,0,m,nd,h1,h2,hk=>by simp at h1 h2;subst h1;subst h2;show bindC kindOf ((p,w)::P.zip vs) m p=_;unfold bindC;rw[PN λv hv=>(xV.mp nd).1 (List.of_mem_zip hv).1,if_neg hk];simp
 | p::P,w::vs,i+1,m,nd,h1,h2,hk=>by show bindC kindOf ((p,w)::P.zip vs) m x=_;unfold bindC;exact PQ (i:=i) (xV.mp nd).2 (by simpa using h1) (by simpa using h2) hk
def GY (N:List Str) (vs:List V):St:=vs.map some++b4K (N.length - vs.length) none
def V8 (CX:CXT) (P:Program) (w:World) (K:Frg) (mg:Str->Option Value) (base:Heap) (N:List Str) (qual:Str) (scope:Scope) (f:Addr) (cd:Value) (A:Around) (outer:List Env) (s:Shared) (H:Hp) (E:XK):Cx where
 prog:=P
 w:=w
 K:=K
 mg:=mg
 base:=base
 A:=A.deeper (envOfC qual scope s.heap.objs.size f cd)
 N:=N
 s₀:=s
 H₀:=H
 env:=envOfC qual scope s.heap.objs.size f cd
 outer:=outer
 stack:=envOfC qual scope s.heap.objs.size f cd::outer
 ex:=[]
 calm:=true
 fn:=λ_=>true
 pn:=[]
 xe:=λe s'=>wpAny (model P w) (A.deeper (envOfC qual scope s.heap.objs.size f cd)) (leaving (envOfC qual scope s.heap.objs.size f cd) e) (λ_ ii=>CX outer H s E e ii) (λe' ii=>CX outer H s E e' ii) s'
theorem SO {sc:Scope}{n:Nat}{x:Str}(h:sc.names.lookup x=some .cell):∃c,(cellsFrom n sc.names []).lookup x=some c:=by have q:=PySem.W.cellsFrom_some sc.names n [] (.inl h);exact xY.mp q
theorem YC {CX:CXT}{P:Program}{w:World}{K:Frg}{mg:Str->Option Value}{base:Heap}{N ps:List Str}{qual:Str}{scope:Scope}{f:Addr}{cd:Value}{A:Around}{outer:List Env}{s s1:Shared}{H:Hp}{E:XK}{us:List Value}{vs:List V} (S:FnScope N ps scope) (hd:A.handled=none) (e0:Env0 P w K mg base A outer s H) (hl:vs.length=ps.length) (r:Vals vs us) (x:InCallC s s.heap.objs.size (bindL (envOfC qual scope s.heap.objs.size f cd).kindOf (ps.zip us) λ_=>none) (cellsFrom (s.heap.objs.size+1) scope.names []) (bindC (envOfC qual scope s.heap.objs.size f cd).kindOf (ps.zip us) λ_=>none) s1) :
   Inv (V8 CX P w K mg base N qual scope f cd A outer s H E) [] (GY N vs) H s1:=by
 have dz:ps.length<=N.length:=by have:=congrArg List.length S.pre;rw[a0V] at this;lia
 obtain⟨h1,tk,rfl,hk⟩:=x.done;have lg:∀b:Addr,b∉(V8 CX P w K mg base N qual scope f cd A outer s H E).ex:=λb z=>absurd (show b∈([]:List Addr) from z) (by simp);refine⟨⟨e0.mod,S.kind,rfl,rfl,zR _,λy z c h1 h2=>?_,λy hy=>?_,λy c _ h=>?_,λ_=>hd,Around.frames_deeper e0.frames,.inr ⟨rfl,rfl⟩,λb z=>absurd z (lg b),e0.bs,e0.bsz,λb _ _=>lg b,λb z=>absurd z (lg b),e0.funs,e0.frf⟩,
   rfl,e0.bare,Un.kept hk,⟨_,x.toInCall.ns,λi y v h1 h2 h3=>?_⟩,λy c h=>⟨_,x.cell y c h⟩,e0.hok.fresh (zR _),λy c h=>?_,λp hp=>absurd (show p∈([]:List (Addr×Obj)) from hp) (by simp),e0.hok.kept hk,?_⟩
 . exact name_of_addr x.apart (a3W h1) (a3W h2)
 . have hy:scope.names.lookup y=some .cell\/scope.names.lookup y=some .free:=hy;rcases hy with hy | hy;. exact SO hy
   . exact absurd rfl (S.nofree _ (a3W hy))
 . exact xR (x.above y c (a3W h))
 . have hi:i < vs.length:=by
     unfold GY at h2;by_cases hi:i < vs.length;. exact hi
     . rw[List.getElem?_append_right (by simpa using hi)] at h2;rw[List.getElem?_replicate] at h2;split at h2 <;> cases h2
   have ha:vs[i]?=some v:=by
     unfold GY at h2;rw[yQ (by simpa using hi),zF] at h2;cases e:vs[i]? with
     | none=>rw[e] at h2;cases h2
     | some a=>rw[e] at h2;cases h2;rfl
   obtain⟨u,hu,rv⟩:=r.get ha;have hp:ps[i]?=some y:=by rw[<-S.pre,List.getElem?_take_of_lt (by lia)];exact h1
   have rW:ps.Nodup:=by rw[<-S.pre];exact S.nd.sublist (b5Q _ _)
   refine⟨u,rv,?_⟩;rcases S.par y (yN hp) with k | k;. exact .inl ⟨k,PP rW hp hu k⟩
   . obtain⟨c,e⟩:=SO (n:=s.heap.objs.size+1) k;refine .inr ⟨.inl k,c,e,?_⟩;have q:=x.cell y c e;rw[PQ rW hp hu (by show scope.names.lookup y≠_;rw[k];decide)] at q;exact q
 . exact e0.hok.fresh (xR (x.above y c (a3W h)))
 . unfold GY;show _=N.length;rw[yY,zX,List.length_replicate];lia
theorem nI {CX:CXT}{P:Program}{w:World}{K:Frg}{mg:Str->Option Value}{base:Heap}{k:Nat}{f:Addr}{name qual:Str}{params:Arguments}{body:List Stmt}{scope:Scope}{dV kV doc pm cdv ct oc:Value}{an od:Option Addr} {osl:Array (Option Value)}{N ps:List Str}{sp:Sp}(lk:K.lookup f=some ⟨oc,od,.func (a7X name qual params body scope dV kV doc pm an cdv ct),osl⟩) (gh:b3Z K cdv qual=true) (S:FnScope N ps scope) (len:∀vs H Q E,sp vs H Q E->vs.length=ps.length) (du:∀(A:Around) (outer:List Env) (s:Shared) (H:Hp) (vs:List V) (Q:VK) (E:XK),Room k (A.deeper (envOfC qual scope s.heap.objs.size f cdv))->sp vs H Q E ->∃t,PSs (V8 CX P w K mg base N qual scope f cdv A outer s H E) body t/\t { nx:=λ_ H'=>Q .non H',rt:=Q } (GY N vs) H) :
   FnOk P w K mg base CX (k+1) f (a7X name qual params body scope dV kV doc pm an cdv ct) ps sp:=by
 refine⟨len,λA outer s H args us vs Q E hr e0 hb r je=>?_⟩;have hl:=len _ _ _ _ je;have KX:K.In s.heap:=e0.mod.kin.keeps λb o e=>(e0.bs b o e).1;have lim:s.heap.NoLimit:=e0.mod.nolimit.keeps λb o e=>(e0.bs b o e).1;have lh:∀y∈ps.zip us,scope.names.lookup y.1=some .local\/(scope.names.lookup y.1=some .cell/\((cellsFrom (s.heap.objs.size+1) scope.names []).lookup y.1).isSome=true):=λ⟨n,v⟩ hy=>by
   rcases S.par n (List.of_mem_zip hy).1 with q | q;. exact .inl q
   . exact .inr ⟨q,PySem.W.cellsFrom_some _ _ _ (.inl q)⟩
 refine codeAny_call_function hr.depth (KX _ _ lk) rfl S.co S.gen rfl (PySem.W.codeRec_of KX gh) (hb _ _ _ _ ?_);refine wpAny_newFunctionEnv_cells S.kind lh λenv he s1 x=>?_;subst he;refine⟨lim.keeps x.toInCall.keep,codeAny_func ?_⟩;obtain⟨t,ht,hq⟩:=du A outer s H vs Q E (hr.deeper _) je;have I:Inv (V8 CX P w K mg base N qual scope f cdv A outer s H E) [] (GY N vs) H s1:=YC S hr.hd e0 hl r x;refine wpAny_mono (ht [] s1 (GY N vs) H _ I hq) (λfl s' hs=>?_) λe s' hs=>hs;have fin:∀{σ':St}{H':Hp}{v:V}{u:Value},Inv (V8 CX P w K mg base N qual scope f cdv A outer s H E) [] σ' H' s'->RelV v u->Q v H'->CE outer P w H s Q u s':=
   λ{σ' H' v u} J rv q=>⟨v,H',J.os,J.bare,J.base,J.hok,rv,q⟩
 cases fl with
 | ret u=> obtain⟨v,σ',H',J,rv,q⟩:=hs;exact fin J rv q
 | next=> obtain⟨σ',H',J,q⟩:=hs;exact fin (v:=V.non) (u:=a5Q) J rfl q
 | brk=> obtain⟨_,_,_,q⟩:=hs;exact b0V q
 | cont=> obtain⟨_,_,_,q⟩:=hs;exact b0V q
section
variable {X:Cx}{x:Str}{p pos:Pos}{e:Expr}{es:List Expr}{t:TA}{id T:String}{r:List V->Hp->VK->Prop}
def tCB (r:List V->Hp->VK->Prop) (t:TA):TE:=λσ H Q=>t σ H λvs H1=>r vs H1 Q
theorem DQ (hc:BO X (.builtin id) r) (hg:Gl X x) (hm:X.mg x=none) (hv:bootBuiltins x=some (.builtin id)) (ha:PA X (e::es) t) (hn:x ≠ "__name__" := by decide) (ig:(x==("__debug__":Str))=false:=by decide)
   (he:starEach (e::es) X.env=(false,eval e X.env)::starEach es X.env:=by rfl) (dz:(backTo pos (starEach es X.env)).any (·.1)=false:=by rfl):PE X (.Call (.Name x p) (e::es) [] pos) (tCB r t):=by intro pins s σ H Q I h;refine wpAny_Call_Name_kw (L6 I hg hm hv ?_ hn ig);exact PyProof.Rows.callWith_builtin1 (thn (ha pos pins s σ H _ I h) λus s1 ⟨vs,H1,I1,r1,q1⟩=>hc pins s1 σ H1 vs us Q I1 r1 q1) he dz
theorem L7 (hc:BO X (.type T) r) (hg:Gl X x) (hm:X.mg x=none) (hv:bootBuiltins x=some (.type T)) (ha:PA X (e::es) t) (hn:x ≠ "__name__" := by decide) (ig:(x==("__debug__":Str))=false:=by decide)
   (he:starEach (e::es) X.env=(false,eval e X.env)::starEach es X.env:=by rfl) (dz:(backTo pos (starEach es X.env)).any (·.1)=false:=by rfl):PE X (.Call (.Name x p) (e::es) [] pos) (tCB r t):=by intro pins s σ H Q I h;refine wpAny_Call_Name_kw (L6 I hg hm hv ?_ hn ig);exact xH (thn (ha pos pins s σ H _ I h) λus s1 ⟨vs,H1,I1,r1,q1⟩=>hc pins s1 σ H1 vs us Q I1 r1 q1) he dz
end
end L2
namespace HT
open PySem PyProof.Rows
section
variable {prog:Program}{w:World}{A:Around}{E:Value->Shared->Prop}{s:Shared}
def sIx (n d:Nat):Option Int->Nat
 | none=>d
 | some v=>if v < 0 then (v+(n:Int)).toNat else min v.toNat n
theorem sIx_nat (n d k:Nat):sIx n d (some (k:Int))=min k n:=by show(if (k:Int) < 0 then ((k:Int)+(n:Int)).toNat else min (k:Int).toNat n)=min k n;rw[if_neg (by lia),a5K]
theorem kD (n d:Nat) (hd:d<=n) (o:Option Int):sIx n d o<=n:=by
 cases o with
 | none=>exact hd
 | some v=>
   show(if v < 0 then (v+(n:Int)).toNat else min v.toNat n)<=n;by_cases hv:v < 0;. rw[if_pos hv];lia
   . rw[if_neg hv];exact Nat.min_le_right _ _
theorem WQ (v:Int) (n d:Nat):(if v < 0 then max (v+(n:Int)) 0 else min v (n:Int))=((sIx n d (some v):Nat):Int):=by
 show(if v < 0 then max (v+(n:Int)) 0 else min v (n:Int))=(((if v < 0 then (v+(n:Int)).toNat else min v.toNat n):Nat):Int);by_cases hv:v < 0;. simp only[if_pos hv];lia
 . simp only[if_neg hv];lia
theorem V9 (lo hi:Option Int) (n:Nat):b2Z lo hi 1 (n:Int)=(((sIx n 0 lo:Nat):Int),((sIx n n hi:Nat):Int)):=by
 have h1:¬((1:Int) < 0):=by lia
 unfold b2Z;simp only[h1,if_false];refine Prod.ext ?_ ?_
 . cases lo with
   | none=>rfl
   | some v=>exact WQ v n 0
 . cases hi with
   | none=>rfl
   | some v=>exact WQ v n n
theorem VA (i j:Nat):a7V (i:Int) (j:Int) 1=j - i:=by
 unfold a7V;have h1:(1:Int) > 0:=by lia
 simp only[h1,if_true,Int.ediv_one];split <;> lia
theorem N6 {v:Value}{o:Option Int}{Q:Option Int->Shared->Prop}(p:IsPart v o) (h:Q o s):wpAny (model prog w) A (Builtin.Slice.slicePartIndex v) Q E s:=by
 cases p with
 | none=>exact slicePart_none h
 | int i t=>exact slicePart_int h
theorem FT {sl:Addr}{vl vu:Value}{lo hi:Option Int}{n:Nat}{Q:Int×Int×Nat->Shared->Prop}(hs:s.heap.IsSliceOf sl vl vu .none) (pl:IsPart vl lo) (pu:IsPart vu hi) (h:Q (((sIx n 0 lo:Nat):Int),1,sIx n n hi - sIx n 0 lo) s):wpAny (model prog w) A (Builtin.Slice.sliceApplied (.ref sl) (pure (n:Int))) Q E s:=by obtain⟨os,jt,ph,li⟩:=id hs;unfold Builtin.Slice.sliceApplied Builtin.Slice.sliceFields;refine zZ (zZ (wpAny_field jt li (x:=vl) rfl (zZ (wpAny_field jt li (x:=vu) rfl (zZ (wpAny_field jt li (x:=.none) rfl (zY ?_)))))));refine zZ (slicePart_none ?_);show wpAny _ _ (if ((1:Int)==0)=true then _ else _) _ _ s;rw[if_neg (by decide)];refine zZ (N6 pl (zZ (N6 pu (zZ (zY ?_)))));show wpAny _ _ (match b2Z lo hi 1 (n:Int) with | (lo,hi)=>pure (lo,(1:Int),a7V lo hi 1)) _ _ s;rw[V9 lo hi n];show wpAny _ _ (pure (((sIx n 0 lo:Nat):Int),(1:Int),a7V ((sIx n 0 lo:Nat):Int) ((sIx n n hi:Nat):Int) 1)) _ _ s;rw[VA];exact zY h
theorem a7 (xs:Array Value) (i k:Nat):((a0Z k).filterMap λ(m:Nat)=>xs[((i:Int)+(m:Int)*1).toNat]?).toArray=((xs.toList.drop i).take k).toArray:=by
 have e:(λ(m:Nat)=>xs[((i:Int)+(m:Int)*1).toNat]?)=λm=>xs[i+m]?:=by
   funext m;have:((i:Int)+(m:Int)*1).toNat=i+m:=by lia
   rw[this]
 rw[e];have:=pick_run xs i k;rw[List.filterMap_map] at this;have e2:((λx=>xs[x]?)∘λx=>i+x)=λm=>xs[i+m]?:=rfl;rw[e2] at this;rw[this]
theorem getItem_tuple_cut {t sl:Addr}{items:Array Value}{vl vu:Value}{lo hi:Option Int}{Q:Value->Shared->Prop}(ht:IsTup s.heap t items) (hs:s.heap.IsSliceOf sl vl vu .none) (pl:IsPart vl lo) (pu:IsPart vu hi) (hw:¬(sIx items.size 0 lo=0/\sIx items.size items.size hi=items.size)) (h:Q (.ref s.heap.objs.size) { s with heap:=s.heap.push { cls:=.type "tuple", data:=.seq ((items.toList.drop (sIx items.size 0 lo)).take (sIx items.size items.size hi - sIx items.size 0 lo)).toArray } }) (hsz:items.size<=sizeLine):wpAny (model prog w) A (getItem (.ref t) (.ref sl)) Q E s:=by
 have fh:sizeOk (.seq ((items.toList.drop (sIx items.size 0 lo)).take (sIx items.size items.size hi - sIx items.size 0 lo)).toArray):=by show((items.toList.drop (sIx items.size 0 lo)).take (sIx items.size items.size hi - sIx items.size 0 lo)).toArray.size<=sizeLine;rw[zJ,a0V,b6Z,a3X];lia
 have hj:sIx items.size items.size hi<=items.size:=kD _ _ (zR _) hi;obtain⟨os,jt,ph,li⟩:=id hs;have qy:s.TypeIs (.ref sl) "slice" := ⟨os,jt,ph⟩
 unfold getItem;try with_reducible refine wpAny_holding ?_
 first | refine zZ (zY ?_) | skip
 refine zZ (wpAny_sequenceKey ht.typeIs (by decide) ?_);refine zZ (wpAny_callSpecial?_slot (name:=a0Q "__getitem__") ht.typeIs a6Q (wpAny_call_entry a6Q ht.typeIs entry_tuple_getitem ?_ (args_tuple_getitem _ _)));show wpAny _ _ (Builtin.Tuple.tupleItemsOf (.ref t) >>= _) _ _ s;refine zZ (tupleItemsOf_ ht ?_);refine zZ (wpAny_typeOf qy ?_);rw[if_pos (by decide)];refine zZ (FT hs pl pu ?_);have ij:¬((((sIx items.size 0 lo:Nat):Int)==0&&(1:Int)==1&&(sIx items.size items.size hi - sIx items.size 0 lo)==items.size)=true):=by intro q;rw[a1Z,a1Z] at q;have q1:((sIx items.size 0 lo:Nat):Int)=0:=eq_of_beq q.1.1;have q2:sIx items.size items.size hi - sIx items.size 0 lo=items.size:=eq_of_beq q.2;exact hw ⟨by lia,by lia⟩
 show wpAny _ _ (if (((sIx items.size 0 lo:Nat):Int)==0&&(1:Int)==1&&(sIx items.size items.size hi - sIx items.size 0 lo)==items.size)=true then _ else _) _ _ s;rw[if_neg ij,a7];first
   | exact zZ (m:=a8Z _) (xM (zY ⟨_,rfl,zY h⟩) fh)
   | exact zZ (m:=a8Z _) (xM (zZ (zY (zY ⟨_,rfl,zY h⟩))) fh)
   | exact zZ (zZ (m:=a8Z _) (xM (zY (zY ⟨_,rfl,zY h⟩)) fh))
   | exact zZ (zZ (m:=a8Z _) (xM (zY ⟨_,rfl,zY h⟩) fh))
end
end HT
namespace L2
open PySem PySem.Spec PyProof.Rows
abbrev TO:=St->Hp->(Option Int->Hp->Prop)->Prop
def PO (X:Cx) (e:Option Expr) (t:TO):Prop:=∀(pins:List (Addr×Obj)) (s:Shared) (σ:St) (H:Hp) (Q:Option Int->Hp->Prop),Inv X pins σ H s->t σ H Q ->
   wpAny (model X.prog X.w) X.A (evalPart e X.env) (λu s'=>∃o H',Inv X pins σ H' s'/\IsPart u o/\Q o H') X.xe s
def WR:TO:=λ_ H Q=>Q none H
def iU (t:TE):TO:=λσ H Q=>t σ H λx H1=>∃i,x = .int i/\Q (some i) H1
section
variable {X:Cx}{e:Expr}{te:TE}{lo hi:Option Expr}{tl th:TO}{pos p2:Pos}
theorem f6:PO X none WR:=by intro pins s σ H Q I h;rw[evalPart_none];exact zY ⟨none,H,I,.none,h⟩
theorem f7 (h:PE X e te):PO X (some e) (iU te):=by intro pins s σ H Q I hw;rw[evalPart_some];refine thn (h pins s σ H _ I hw) λu s1 ⟨x,H1,I1,r1,q1⟩=>?_;obtain⟨i,rfl,q⟩:=q1;obtain⟨t,rfl⟩:=r1;exact⟨some i,H1,I1,.int i t,q⟩
def SlR (X:Cx) (r:V->Option Int->Option Int->Hp->VK->Prop):Prop:=∀(pins:List (Addr×Obj)) (s:Shared) (σ:St) (H:Hp) (x:V) (v vl vu:Value) (lo hi:Option Int) (sl:Addr) (Q:VK),Inv X pins σ H s->RelV x v->s.heap.IsSliceOf sl vl vu .none->IsPart vl lo->IsPart vu hi->r x lo hi H Q ->∃T id,typeLookup (.type T) "__getitem__"=pure (some (.builtin id))/\s.TypeIs v T/\wpAny (model X.prog X.w) X.A (getItem v (.ref sl)) (EP X pins σ Q) X.xe s
theorem SlR.or {r r':V->Option Int->Option Int->Hp->VK->Prop}(h:SlR X r) (h':SlR X r'):SlR X (λx lo hi H Q=>r x lo hi H Q\/r' x lo hi H Q):=by
 intro pins s σ H x v vl vu lo hi sl Q I rx hs pl pu q;rcases q with q | q;. exact h pins s σ H x v vl vu lo hi sl Q I rx hs pl pu q
 . exact h' pins s σ H x v vl vu lo hi sl Q I rx hs pl pu q
def tSl (r:V->Option Int->Option Int->Hp->VK->Prop) (te:TE) (tl th:TO):TE:=λσ H Q=>te σ H λx H1=>tl σ H1 λl H2=>th σ H2 λu H3=>r x l u H3 Q
theorem a8 {r:V->Option Int->Option Int->Hp->VK->Prop}(hr:SlR X r) (he:PE X e te) (hl:PO X lo tl) (hu:PO X hi th):PE X (.Subscript e (.Slice lo hi none p2) pos) (tSl r te tl th):=by intro pins s σ H Q I h;refine Subscript_ (thn (he pins s σ H _ I h) λv s1 ⟨x,H1,I1,r1,q1⟩=>?_);refine wpAny_Slice (thn (hl pins s1 σ H1 _ I1 q1) λvl s2 ⟨l,H2,I2,pl,q2⟩=>thn (hu pins s2 σ H2 _ I2 q2) λvu s3 ⟨u,H3,I3,pu,q3⟩=>?_);rw[evalPart_none];refine zY ?_;have I4:Inv X pins σ H3 { s3 with heap:=s3.heap.push { cls:=.type "slice", data:=.fields #[vl,vu,.none] } }:=I3.kept (t':=s3.toks) λb ob q=>zW _ q;obtain⟨T,id,hT,ht,hg⟩:=hr pins { s3 with heap:=s3.heap.push { cls:=.type "slice", data:=.fields #[vl,vu,.none] } } σ H3 x v vl vu l u s3.heap.objs.size Q I4 r1 (Heap.IsSliceOf.new ..) pl pu q3;show wpAny (model X.prog X.w) X.A (subscriptTail e (.Slice lo hi none p2) v (.ref s3.heap.objs.size)) (EP X pins σ Q) X.xe { s3 with heap:=s3.heap.push { cls:=.type "slice", data:=.fields #[vl,vu,.none] } };exact tail_any (ops:=[.ref s3.heap.objs.size,v]) ht hT hg (by with_unfolding_all rfl)
def ML (xs:List V) (lo hi:Option Int):List V:=(xs.drop (HT.sIx xs.length 0 lo)).take (HT.sIx xs.length xs.length hi - HT.sIx xs.length 0 lo)
theorem LX (xs:List V) (lo hi:Option Int):(ML xs lo hi).length<=xs.length:=by unfold ML;rw[a0V,b6Z];lia
def pE (K:Frg):V->Option Int->Option Int->Hp->VK->Prop:=λx lo hi H Q=>∃a xs,x = .ref a/\SqT K H a xs /\
 ¬(HT.sIx xs.length 0 lo=0/\HT.sIx xs.length xs.length hi=xs.length)/\∀p,H p=none->Q (.ref p) (upd H p (.tup (ML xs lo hi)))
theorem kE:SlR X (pE X.K):=by
 intro pins s σ H x v vl vu lo hi sl Q I rx hs pl pu h;obtain⟨a,xs,rfl,hx,hw,q⟩:=h;cases rx;obtain⟨aa,r,ht,hz⟩:=I.tuple hx;have ab:aa.toArray.size=xs.length:=by rw[zJ];exact r.length.symm
 refine⟨"tuple", _,PyProof.Rows.slot_tuple_getitem.lookup,ht.typeIs,?_⟩;refine HT.getItem_tuple_cut ht hs pl pu (by rw[ab];exact hw) ?_ (by rw[ab];exact hz);rw[ab];refine⟨.ref s.heap.objs.size,_,I.laid (t':=s.toks) (o:=.tup (ML xs lo hi)) (λb ob q=>zW _ q) (zR _) ?_,rfl,q _ (I.hok.fresh (zR _))⟩;exact⟨zN (LX xs lo hi) hz,_,(r.drop (HT.sIx xs.length 0 lo)).take (HT.sIx xs.length xs.length hi - HT.sIx xs.length 0 lo),IsTup.new _ _⟩
end
def ixN (n:Nat) (i:Int):Option Nat:=if 0<=i then (if i < n then some i.toNat else none) else if -(n:Int)<=i then some (i+n).toNat else none
def atI {α:Type}(xs:List α) (i:Int):Option α:=(ixN xs.length i).bind λj=>xs[j]?
theorem f8 {n:Nat}{i:Int}{j:Nat}(h:ixN n i=some j):seqIndex? i n=some j/\j < n/\-(n:Int)<=i/\i < n:=by
 unfold ixN at h;by_cases h0:0<=i
 . rw[if_pos h0] at h;by_cases h1:i < n;. rw[if_pos h1] at h;have e:i.toNat=j:=Option.some.inj h;exact⟨by rw[seqIndex_of h0 h1,e],by lia,by lia,h1⟩
   . rw[if_neg h1] at h;cases h
 . rw[if_neg h0] at h;by_cases h1 : -(n:Int)<=i;. rw[if_pos h1] at h;have e:(i+n).toNat=j:=Option.some.inj h;exact⟨by rw[seqIndex_neg (by lia) h1,e],by lia,h1,by lia⟩
   . rw[if_neg h1] at h;cases h
theorem QZ {α:Type}{xs:List α}{i:Int}{v:α}(h:atI xs i=some v):∃j,seqIndex? i xs.length=some j/\xs[j]?=some v/\j < xs.length/\-(xs.length:Int)<=i/\i < xs.length:=by
 unfold atI at h;cases e:ixN xs.length i with
 | none=>rw[e] at h;cases h
 | some j=> rw[e] at h;obtain⟨h1,h2,h3,h4⟩:=f8 e;exact⟨j,h1,h,h2,h3,h4⟩
theorem AA {α:Type}{xs:List α}{j:Nat}{v:α}(h:xs[j]?=some v):atI xs (j:Int)=some v:=by
 have hj:j < xs.length:=(yT.mp h).1;have e:ixN xs.length (j:Int)=some j:=by unfold ixN;rw[if_pos (by lia),if_pos (by lia)];simp
 unfold atI;rw[e];exact h
def f9 (b:Expr):Prop:=∀o i,subscripted b false o i=operate [o,i] (getItem o i)
def IxR (X:Cx) (r:R2):Prop:=∀(value slice:Expr) (pins:List (Addr×Obj)) (s:Shared) (σ:St) (H:Hp) (x y:V) (v u:Value) (Q:VK),Inv X pins σ H s->RelV x v->RelV y u->r x y H Q ->
   subscripted slice false v u=operate [v,u] (getItem v u)->wpAny (model X.prog X.w) X.A (subscriptTail value slice v u) (EP X pins σ Q) X.xe s
def MtR (X:Cx) (id:String) (r:V->List V->Hp->VK->Prop):Prop:=∀(pins:List (Addr×Obj)) (s:Shared) (σ:St) (H:Hp) (x:V) (xs:List V) (v:Value) (us:List Value) (Q:VK),Inv X pins σ H s->RelV x v->Vals xs us->r x xs H Q ->
   wpAny (model X.prog X.w) X.A (call (.builtin id) (v::us)) (EP X pins σ Q) X.xe s
section
variable {X:Cx}{a b:Expr}{ta tb:TE}{pos:Pos}
theorem IxR.or {r r':R2}(h:IxR X r) (h':IxR X r'):IxR X (λx y H Q=>r x y H Q\/r' x y H Q):=by
 intro value slice pins s σ H x y v u Q I rx ry q hs;rcases q with q | q;. exact h value slice pins s σ H x y v u Q I rx ry q hs
 . exact h' value slice pins s σ H x y v u Q I rx ry q hs
theorem nJ {r:R2}(hr:IxR X r) (ha:PE X a ta) (hb:PE X b tb) (hs:f9 b):PE X (.Subscript a b pos) (tOp r ta tb):=by intro pins s σ H Q I h;exact Subscript_ (jT ha hb I h λv u s2 x y H2 I2 rx ry q=>hr a b pins s2 σ H2 x y v u Q I2 rx ry q (hs _ _))
def kF (K:Frg):R2:=λx y H Q=>∃p xs i v,x = .ref p/\y = .int i/\SqL K H p xs/\atI xs i=some v/\Q v H
def kG (K:Frg):R2:=λx y H Q=>∃p xs i v,x = .ref p/\y = .int i/\SqT K H p xs/\atI xs i=some v/\Q v H
def kH:R2:=λx y H Q=>∃z i c,x = .str z/\y = .int i/\z.length<=sizeLine/\atI z.cps.toList i=some c/\Q (.str ⟨#[c]⟩) H
theorem fA:IxR X (kF X.K):=by
 intro value slice pins s σ H x y v u Q I rx ry h hs;obtain⟨p,xs,i,z,rfl,rfl,hq,he,q⟩:=h;cases rx;obtain⟨t,rfl⟩:=ry;obtain⟨aa,r,pl,hz⟩:=I.list hq;obtain⟨j,h1,h2,h3,h4,h5⟩:=QZ he;obtain⟨w,ew,ef⟩:=r.get h2;have hl:=r.length;have hn:=QY;have fin:EP X pins σ Q w s:=⟨z,H,I,ef,q⟩
 by_cases h0:0<=i
 . have hj:i.toNat=j:=by rw[seqIndex_of h0 h5] at h1;exact Option.some.inj h1
   exact item_listR pl.isList h0 (by lia) (by rw[hj];simpa using ew) fin hs
 . have hj:(i+(aa.toArray.size:Int)).toNat=j:=by rw[seqIndex_neg (by lia) h4] at h1;rw[zJ,<-hl];exact Option.some.inj h1
   exact subscriptTail_builtinR (x:=w) pl.isList.typeIs slot_list_getitem.lookup (wpAny_getItem_list_neg (Q:=λr s'=>r=w/\EP X pins σ Q r s') pl.isList (by lia) (by rw[zJ] <;> lia) (by lia) (by rw[hj];simpa using ew) ⟨rfl,fin⟩) hs
theorem kI:IxR X (kG X.K):=by
 intro value slice pins s σ H x y v u Q I rx ry h hs;obtain⟨p,xs,i,z,rfl,rfl,hq,he,q⟩:=h;cases rx;obtain⟨t,rfl⟩:=ry;obtain⟨aa,r,pl,hz⟩:=I.tuple hq;obtain⟨j,h1,h2,h3,h4,h5⟩:=QZ he;obtain⟨w,ew,ef⟩:=r.get h2;have hl:=r.length;have hn:=QY;have fin:EP X pins σ Q w s:=⟨z,H,I,ef,q⟩
 exact subscriptTail_builtinR (x:=w) pl.typeIs slot_tuple_getitem.lookup (getItem_tuple (j:=j) (Q:=λr s'=>r=w/\EP X pins σ Q r s') pl (by lia) (by lia) (by rw[zJ,<-hl];exact h1) (by simpa using ew) ⟨rfl,fin⟩) hs
theorem kJ:IxR X kH:=by
 intro value slice pins s σ H x y v u Q I rx ry h hs;obtain⟨z,i,c,rfl,rfl,hz,he,q⟩:=h;obtain⟨t,rfl⟩:=rx;obtain⟨t',rfl⟩:=ry;obtain⟨j,h1,h2,h3,h4,h5⟩:=QZ he;have hl:z.cps.toList.length=z.length:=by simp[Str.length]
 rw[hl] at h1 h4 h5;have hn:=QY;exact tail_any (typeIs_str s z t) slot_str_getitem.lookup (getItem_str (c:=c) (by
   have e1:decide (i < -(2 ^ 63:Int))=false:=decide_eq_false (by lia);have e2:decide (i≥2 ^ 63)=false:=decide_eq_false (by lia);rw[e1,e2,Bool.or_false]) (by rw[h1];simpa using h2) ⟨.str ⟨#[c]⟩,H,I.tok _,⟨_,rfl⟩,q⟩) hs
theorem R0 (lo hi:Option Int) (n:Nat):(sliceBounds lo hi none n).1=((HT.sIx n 0 lo:Nat):Int)/\(sliceBounds lo hi none n).2.1=((HT.sIx n n hi:Nat):Int)/\(sliceBounds lo hi none n).2.2=1:=by
 refine⟨?_,?_,rfl⟩
 . cases lo with
   | none=>simp[sliceBounds,HT.sIx]
   | some i=>
     simp only[sliceBounds,HT.sIx,Option.getD_none,show(1:Int) > 0 by decide,if_true];by_cases h:i < 0;. simp only[h,if_true] <;> lia
     . simp only[h,if_false] <;> lia
 . cases hi with
   | none=>simp[sliceBounds,HT.sIx]
   | some i=>
     simp only[sliceBounds,HT.sIx,Option.getD_none,show(1:Int) > 0 by decide,if_true];by_cases h:i < 0;. simp only[h,if_true] <;> lia
     . simp only[h,if_false] <;> lia
theorem OZ (aa:List Value) (lo hi:Option Int):slicePick aa.toArray lo hi none=((aa.drop (HT.sIx aa.length 0 lo)).take (HT.sIx aa.length aa.length hi - HT.sIx aa.length 0 lo)).toArray:=by obtain⟨h1,h2,h3⟩:=R0 lo hi aa.toArray.size;unfold slicePick;rw[h1,h2,h3];simp only[sliceRange_one,pick_run,zJ] <;> rfl
def kK (K:Frg):V->Option Int->Option Int->Hp->VK->Prop:=λx lo hi H Q=>∃a xs,x = .ref a/\SqL K H a xs/\∀p,H p=none->Q (.ref p) (upd H p (.lst (ML xs lo hi)))
theorem fB:SlR X (kK X.K):=by intro pins s σ H x v vl vu lo hi sl Q I rx hs pl pu h;obtain⟨a,xs,rfl,hx,q⟩:=h;cases rx;obtain⟨aa,r,ht,hz⟩:=I.list hx;have ab:=r.length;refine⟨"list", _,slot_list_getitem.lookup,ht.isList.typeIs,?_⟩;refine wpAny_getItem_list_slice ht.isList hs pl pu .none (by simp) ?_ (by rw[zJ] <;> lia);rw[OZ,<-ab];refine⟨.ref s.heap.objs.size,_,I.laid (t':=s.toks) (o:=.lst (ML xs lo hi)) (λb ob q=>zW _ q) (zR _) ?_,rfl,q _ (I.hok.fresh (zR _))⟩;exact⟨zN (LX xs lo hi) hz,_,0,(r.drop (HT.sIx xs.length 0 lo)).take (HT.sIx xs.length xs.length hi - HT.sIx xs.length 0 lo),yZ _ rfl⟩
def J9:V->Bool
 | .non=>true
 | .bl _=>true
 | .int _=>true
 | .str _=>true
 | _=>false
def eqV:V->V->Bool
 | .non,.non=>true
 | .bl a,.bl b=>a==b
 | .bl a,.int b=>(if a then 1 else 0)==b
 | .int a,.bl b=>a==(if b then 1 else 0)
 | .int a,.int b=>a==b
 | .str a,.str b=>a==b
 | _,_=>false
theorem kL {A:Around}{s:Shared}{y x:V}{u v:Value}(ry:RelV y u) (rx:RelV x v) (fy:J9 y=true) (fx:J9 x=true):SeqAt.EqAt A s u v (eqV y x):=by
 cases y with
 | non=>
   cases ry;cases x with
   | non=>cases rx;exact SeqAt.EqAt.same _
   | bl b=>cases rx;exact SeqAt.EqAt.none_bool b
   | int b=>obtain⟨t,rfl⟩:=rx;exact SeqAt.EqAt.none_int b t
   | str b=>obtain⟨t,rfl⟩:=rx;exact SeqAt.EqAt.none_str b t
   | _=>exact absurd (show false=true from fx) nft
 | bl a=>
   cases ry;cases x with
   | non=>cases rx;exact SeqAt.EqAt.bool_none a
   | bl b=>cases rx;exact SeqAt.EqAt.bool_bool a b
   | int b=>obtain⟨t,rfl⟩:=rx;exact SeqAt.EqAt.bool_int a b t
   | str b=>obtain⟨t,rfl⟩:=rx;exact SeqAt.EqAt.bool_str a b t
   | _=>exact absurd (show false=true from fx) nft
 | int a=>
   obtain⟨t',rfl⟩:=ry;cases x with
   | non=>cases rx;exact SeqAt.EqAt.int_none a t'
   | bl b=>cases rx;exact SeqAt.EqAt.int_bool a t' b
   | int b=>obtain⟨t,rfl⟩:=rx;exact SeqAt.EqAt.int_int a t' b t
   | str b=>obtain⟨t,rfl⟩:=rx;exact SeqAt.EqAt.int_str a t' b t
   | _=>exact absurd (show false=true from fx) nft
 | str a=>
   obtain⟨t',rfl⟩:=ry;cases x with
   | non=>cases rx;exact SeqAt.EqAt.str_none a t'
   | bl b=>cases rx;exact SeqAt.EqAt.str_bool a t' b
   | int b=>obtain⟨t,rfl⟩:=rx;exact SeqAt.EqAt.str_int a t' b t
   | str b=>obtain⟨t,rfl⟩:=rx;exact SeqAt.EqAt.str_str a t' b t
   | _=>exact absurd (show false=true from fx) nft
 | _=>exact absurd (show false=true from fy) nft
def eqU (x:V) (u:Value):Bool:=match u with
 | .none=>eqV .non x
 | .bool b=>eqV (.bl b) x
 | .int i _=>eqV (.int i) x
 | .str z _=>eqV (.str z) x
 | _=>false
theorem a9 {x y:V}{u:Value}(r:RelV y u) (f:J9 y=true):eqU x u=eqV y x:=by
 cases y with
 | non=>cases r;rfl
 | bl b=>cases r;rfl
 | int i=>obtain⟨t,rfl⟩:=r;rfl
 | str z=>obtain⟨t,rfl⟩:=r;rfl
 | _=>exact absurd (show false=true from f) nft
theorem JY {x:V}:∀{xs:List V}{us:List Value},Vals xs us->xs.all J9=true->us.any (eqU x)=xs.any λy=>eqV y x
 | _,_,.nil,_=>rfl
 | y::xs,u::us,.cons r t,f=>by rw[List.all_cons,a1Z] at f;rw[b1J,b1J,a9 r f.1,JY t f.2]
theorem HN {A:Around}{s:Shared}{x:V}{v:Value}(rx:RelV x v) (fx:J9 x=true):∀{xs:List V}{us:List Value},Vals xs us->xs.all J9=true->∀u∈us,SeqAt.EqAt A s u v (eqU x u)
 | _,_,.nil,_=>λu hu=>by cases hu
 | y::xs,u::us,.cons r t,f=>λu' hu=>by
   rw[List.all_cons,a1Z] at f;rcases yX.mp hu with rfl | hu;. rw[a9 r f.1];exact kL r rx f.1 fx
   . exact HN rx fx t f.2 u' hu
def inV (x:V) (xs:List V):Bool:=xs.any λy=>eqV y x
def rIn (K:Frg) (neg:Bool):R2:=λx y H Q=>∃p xs,y = .ref p/\(SqL K H p xs\/SqT K H p xs)/\J9 x=true/\xs.all J9=true/\Q (.bl (if neg then !inV x xs else inV x xs)) H
theorem YD:OpR X (compareOp .In) (rIn X.K false):=by
 intro pins s σ H x y v u Q I rx ry h;obtain⟨p,xs,rfl,hq,fx,fs,q⟩:=h;cases ry;rcases hq with hq | hq;. obtain⟨aa,r,pl,hz⟩:=I.list hq;refine SeqAt.in_listAt (eqU x) pl.isList (λw hw=>HN rx fx r fs w (by simpa using hw)) ⟨.bl _,H,I,rfl,?_⟩;rw[show aa.toArray.any (eqU x)=aa.any (eqU x) by simp,JY r fs];exact q
 . obtain⟨aa,r,pl,hz⟩:=I.tuple hq;refine SeqAt.in_tupleAt (eqU x) pl (λw hw=>HN rx fx r fs w (by simpa using hw)) ⟨.bl _,H,I,rfl,?_⟩;rw[show aa.toArray.any (eqU x)=aa.any (eqU x) by simp,JY r fs];exact q
theorem R5:OpR X (compareOp .NotIn) (rIn X.K true):=by
 intro pins s σ H x y v u Q I rx ry h;obtain⟨p,xs,rfl,hq,fx,fs,q⟩:=h;cases ry;rcases hq with hq | hq;. obtain⟨aa,r,pl,hz⟩:=I.list hq;refine SeqAt.notIn_listAt (eqU x) pl.isList (λw hw=>HN rx fx r fs w (by simpa using hw)) ⟨.bl _,H,I,rfl,?_⟩;rw[show aa.toArray.any (eqU x)=aa.any (eqU x) by simp,JY r fs];exact q
 . obtain⟨aa,r,pl,hz⟩:=I.tuple hq;refine SeqAt.notIn_tupleAt (eqU x) pl (λw hw=>HN rx fx r fs w (by simpa using hw)) ⟨.bl _,H,I,rfl,?_⟩;rw[show aa.toArray.any (eqU x)=aa.any (eqU x) by simp,JY r fs];exact q
theorem R6:BO X (.type "list") (λxs H Q=>∃p ys,xs=[.ref p]/\(SqL X.K H p ys\/SqT X.K H p ys)/\∀l,H l=none->Q (.ref l) (upd H l (.lst ys))):=by
 intro pins s σ H xs us Q I r h;obtain⟨p,ys,rfl,hq,q⟩:=h;obtain⟨u,rfl,rx⟩:=FR r;cases rx;have fin:∀(aa:List Value),Vals ys aa->ys.length<=sizeLine->∀(h':Heap) (c':Nat),(∀b o',s.heap.get? b=some o'->h'.get? b=some o') ->
     h'.get? s.heap.objs.size=some { cls:=.type "list", dict:=none,data:=.seq aa.toArray c',slots:=#[] }->EP X pins σ Q (.ref s.heap.objs.size) { s with heap:=h' }:=λaa r' hz h' c' kp e=>
   ⟨.ref s.heap.objs.size,_,I.laid (t':=s.toks) kp (zR _) (show ObjOk X.prog X.w _ h' _ (.lst ys) from ⟨hz,aa,c',r',e⟩),rfl,q _ (I.hok.fresh (zR _))⟩
 rcases hq with hq | hq;. obtain⟨aa,r',pl,hz⟩:=I.list hq;have ab:=r'.length;obtain⟨o,ho,hc,n,hd⟩:=pl.isList;exact call_list_seq p (.inl rfl) ho hc hd (λh' c' kp e=>fin aa r' hz h' c' kp e) (by simp only[zJ] <;> lia)
 . obtain⟨aa,r',pl,hz⟩:=I.tuple hq;have ab:=r'.length;obtain⟨o,ho,hc,n,hd⟩:=pl;exact call_list_seq p (.inr rfl) ho hc hd (λh' c' kp e=>fin aa r' hz h' c' kp e) (by simp only[zJ] <;> lia)
theorem P0:BO X (.type "tuple") (λxs H Q=>∃p ys,xs=[.ref p]/\((SqL X.K H p ys/\∀l,H l=none->Q (.ref l) (upd H l (.tup ys)))\/(SqT X.K H p ys/\Q (.ref p) H))):=by
 intro pins s σ H xs us Q I r h;obtain⟨p,ys,rfl,h⟩:=h;obtain⟨u,rfl,rx⟩:=FR r;cases rx;rcases h with ⟨hq,q⟩ | ⟨hq,q⟩
 . obtain⟨aa,r',pl,hz⟩:=I.list hq;have ab:=r'.length;refine call_tuple_list pl.isList (λh' kp=>?_) (by simp only[zJ] <;> lia);have I1:Inv X pins σ H { s with heap:=h' }:=I.kept (t':=s.toks) kp;have I2:Inv X pins σ (upd H h'.objs.size (.tup ys)) { s with heap:=h'.push { cls:=.type "tuple", data:=.seq aa.toArray } }:=
     I1.laid (t':=s.toks) (λb o e=>zW _ e) (zR _) (show ObjOk X.prog X.w _ _ _ (.tup ys) from ⟨hz,aa,r',IsTup.new _ _⟩);exact⟨.ref h'.objs.size,_,I2,rfl,q _ (I1.hok.fresh (zR _))⟩
 . obtain⟨aa,r',pl,hz⟩:=I.tuple hq;exact call_tuple_same pl ⟨.ref p,H,I,rfl,q⟩
def tyV (K:Frg) (T:String) (x:V) (H:Hp):Prop:=match x with
 | .str _=>T = "str"
 | .int _=>T = "int"
 | .ref p=>(T = "list" /\ ∃xs,SqL K H p xs)\/(T = "tuple" /\ ∃o,K.lookup p=some o/\o.cls = .type "tuple" /\ o.dict=none) \/(T = "dict" /\ ((∃kvs,H p=some (.dK kvs))\/∃kvs,H p=some (.dT kvs)))\/(T = "set" /\ ∃S n,H p=some (.set S n))
 | _=>False
theorem kM {pins:List (Addr×Obj)}{σ:St}{H:Hp}{s:Shared}{T:String}{x:V}{v:Value}(I:Inv X pins σ H s) (r:RelV x v) (ty:tyV X.K T x H) :
   s.TypeIs v T/\∀a,v = .ref a->∃ob,s.heap.get? a=some ob/\ob.dict=none:=by
 cases x with
 | str z=> obtain⟨t,rfl⟩:=r;cases (show T = "str" from ty);exact⟨typeIs_str s z t,λ_ e=>nomatch e⟩
 | int i=> obtain⟨t,rfl⟩:=r;cases (show T = "int" from ty);exact⟨typeIs_int s i t,λ_ e=>nomatch e⟩
 | ref p=>
   cases r;rcases ty with ⟨rfl,xs,hq⟩ | ⟨rfl,o,hk,hc,hd⟩ | ⟨rfl,hk⟩ | ⟨rfl,S,n,hk⟩
   . obtain⟨aa,_,pl,_⟩:=I.list hq;refine⟨pl.isList.typeIs,λa e=>?_⟩;cases e;obtain⟨o,n,e,c,hd,_⟩:=pl;exact⟨o,e,hd⟩
   . refine⟨⟨o,I.kIn p o hk,hc⟩,λa e=>?_⟩;cases e;exact⟨o,I.kIn _ o hk,hd⟩
   . have z:∃o,s.heap.get? p=some o/\o.ExactDict:=by
       rcases hk with ⟨kvs,hk⟩ | ⟨kvs,hk⟩
       . obtain⟨_,_,_,_,o,_,_,e,ex,_⟩:=I.hok p _ hk;exact⟨o,e,ex⟩
       . obtain⟨_,_,_,_,o,_,_,e,ex,_⟩:=I.hok p _ hk;exact⟨o,e,ex⟩
     obtain⟨o,e,ex⟩:=z;refine⟨⟨o,e,ex.1⟩,λa e2=>?_⟩;cases e2;exact⟨o,e,ex.2.1⟩
   . obtain⟨o,_,_,_,e,ex,_⟩:=I.hok p _ hk;refine⟨⟨o,e,ex.1⟩,λa e2=>?_⟩;cases e2;exact⟨o,e,ex.2.1⟩
 | _=>exact b0V ty
def tBM (K:Frg) (T:String) (r:V->List V->Hp->VK->Prop) (to:TE) (t:TA):TE:=λσ H Q=>to σ H λx H1=>tyV K T x H1/\t σ H1 λxs H2=>r x xs H2 Q
variable {o e:Expr}{es:List Expr}{to:TE}{t:TA}{name:Str}{apos aj:Pos}{T id:String}{r:V->List V->Hp->VK->Prop}
theorem nK (pa:PlainAttrs T) (slot:Slot T name id) (lj:typeOf (.builtin id)=pure (.type "method_descriptor")) (hm:MtR X id r) (ho:PE X o to) (ha:PA X (e::es) t) (gi:attributeBase o name X.env (eval o X.env)=eval o X.env:=by rfl)
   (ju:((backTo aj (starEach (e::es) X.env)).all (λx=>!x.1)&&(backToKw aj (keywordEach [] X.env)).all (λx=>x.1.isSome)
     && decide ((e::es).length+([]:List Keyword).length+(if ([]:List Keyword).isEmpty then 0 else 1) < 30))=true:=by rfl)
   (gj:(apos.endLine==aj.line)=true:=by rfl) (hs:starEach (e::es) X.env=(false,eval e X.env)::starEach es X.env:=by rfl) (ej:(backTo aj (starEach es X.env)).any (·.1)=false:=by rfl) :
   PE X (.Call (.Attribute o name apos) (e::es) [] aj) (tBM X.K T r to t):=by intro pins s σ H Q I h;refine wpAny_Call_method_late gi ju gj rfl (thn (ho pins s σ H _ I h) λv s1 ⟨x,H1,I1,r1,ty,q1⟩=>?_);obtain⟨h1,h2⟩:=kM I1 r1 ty;refine⟨T,id,pa,slot,lj,h1,h2,?_⟩;have hA:=ha aj pins s1 σ H1 _ I1 q1;rw[hs] at hA ⊢;refine Calls.callWith_builtin (by show(false||(backTo aj (starEach es X.env)).any (·.1))=false;rw[ej] <;> rfl) (Calls.evalArgs_plain ?_);exact thn hA λus s2 ⟨vs,H2,I2,r2,q2⟩=>hm pins s2 σ H2 x vs v us Q I2 r1 r2 q2
end
def MtM (X:Cx) (id:String) (r:V->List V->Hp->VK->Prop):Prop:=∀(pins:List (Addr×Obj)) (s:Shared) (σ:St) (H:Hp) (x:V) (xs:List V) (v:Value) (us:List Value) (Q:VK),Inv X pins σ H s->RelV x v->Vals xs us->r x xs H Q ->
   wpAny (model X.prog X.w) X.A (call (.builtin id) (v::us)) (EP X pins σ Q) X.xe s
theorem Vals.one:∀{x:V}{us:List Value},Vals [x] us->∃u,us=[u]/\RelV x u
 | _,_,.cons r .nil=>⟨_,rfl,r⟩
section
variable {X:Cx}{pins:List (Addr×Obj)}{σ:St}{H:Hp}{s:Shared}{l b:Addr}{xs ys zs:List V}
theorem Inv.lset {aa its':List Value}{n:Nat}{f:Array Value->Array Value}{t':Nat}(I:Inv X pins σ H s) (hH:H l=some (.lst xs)) (e:s.heap.get? l=some { cls:=.type "list", data:=.seq aa.toArray n }) (hf:f aa.toArray=its'.toArray) (hv:Vals ys its') (hz:ys.length<=sizeLine) :
   Inv X pins σ (upd H l (.lst ys)) { s with heap:=s.heap.update l (a4Z f),toks:=t' }:=by have q:=PySem.IsL.update e f;rw[hf] at q;refine I.write (x:=l) (e:=l) (by rw[hH];exact trivial) (.inl rfl) (λb' u hb hu=>(yC s.heap (a4Z f) (a3J hb)).trans hu) ⟨_,q⟩ ?_;exact⟨hz,its',_,hv,q⟩
theorem Inv.lnew {aa:List Value}{t':Nat}(I:Inv X pins σ H s) (hv:Vals ys aa) (hz:ys.length<=sizeLine) :
   Inv X pins σ (upd H s.heap.objs.size (.lst ys)) { s with heap:=s.heap.push { cls:=.type "list", data:=.seq aa.toArray },toks:=t' }:=
 I.laid (λ_ _ q=>zW _ q) (zR _) ⟨hz,aa,0,hv,yZ _ rfl⟩
theorem Inv.fresh (I:Inv X pins σ H s):H s.heap.objs.size=none:=I.hok.fresh (zR _)
theorem Inv.lstM (I:Inv X pins σ H s) (hH:H l=some (.lst xs)):xs.length<=sizeLine/\∃(aa:List Value) (n:Nat),Vals xs aa/\xs.length=aa.length/\s.heap.get? l=some { cls:=.type "list", data:=.seq aa.toArray n }:=by obtain⟨z,aa,n,r,e⟩:=I.hok l _ hH;exact⟨z,aa,n,r,r.length,e⟩
end
section
variable {X:Cx}
def R7:V->List V->Hp->VK->Prop:=λx vs H Q=>∃l xs y,x = .ref l/\vs=[y]/\H l=some (.lst xs)/\xs.length < sizeLine/\Q .non (upd H l (.lst (xs++[y])))
theorem PR:MtM X "list.append" R7:=by intro pins s σ H x vs v us Q I rx rv h;obtain⟨l,xs,y,rfl,rfl,hH,hz,q⟩:=h;cases rx;obtain⟨u,rfl,ru⟩:=rv.one;obtain⟨z,aa,n,r,hl,e⟩:=I.lstM hH;refine call_meets F.slot_list_append ⟨_,e,rfl⟩ F.entry_list_append (F.args_list_append_2 _ _) (PySem.list_append l aa.toArray n u (by rw[zJ];lia)) ⟨e,?_⟩;refine⟨.non,_,I.lset (its':=aa++[u]) hH e (by simp) (r.append (.cons ru .nil)) ?_,rfl,q⟩;rw[yY,List.length_singleton];lia
end
section
variable {κ:Type}[DecidableEq κ]
def HP (kvs:List (κ×V)) (k:κ):Option V:=(kvs.find? λkv=>decide (kv.1=k)).map (·.2)
def E3 (kvs:List (κ×V)) (k:κ) (v:V):List (κ×V):=
 if (kvs.any λkv=>decide (kv.1=k))=true then kvs.map (λkv=>if kv.1=k then (kv.1,v) else kv) else kvs++[(k,v)]
def N7 (kvs:List (κ×V)) (k:κ):List (κ×V):=kvs.filter λkv=>decide (kv.1≠k)
theorem JZ {p:κ×V}{r:List (κ×V)}{k:κ}(e:p.1=k):HP (p::r) k=some p.2:=by simp[HP,b1Z,e]
theorem HQ {p:κ×V}{r:List (κ×V)}{k:κ}(e:¬p.1=k):HP (p::r) k=HP r k:=by simp[HP,b1Z,e]
theorem SQ (k:κ):∀kvs:List (κ×V),(kvs.any λkv=>decide (kv.1=k))=(HP kvs k).isSome
 | []=>rfl
 | p::r=>by
   rw[b1J];by_cases e:p.1=k;. simp only[JZ e,decide_eq_true e,Bool.true_or,Option.isSome_some]
   . rw[HQ e,decide_eq_false e,Bool.false_or];exact SQ k r
theorem F7 (kvs:List (κ×V)) (k:κ) (v:V):(E3 kvs k v).length<=kvs.length+1:=by
 unfold E3;split;. rw[zX];lia
 . rw[yY,yR,List.length_nil];lia
theorem RelO.isSome_eq {o:Option V}{u:Option Value}(r:RelO o u):o.isSome=u.isSome:=by
 cases o with
 | none=>cases u with
   | none=>rfl
   | some _=>exact(show False from r).elim
 | some _=>cases u with
   | none=>exact(show False from r).elim
   | some _=>rfl
theorem KV.val {kvs:List (κ×V)}{vs:List (κ×Value)}(r:KV kvs vs) (k:κ):RelO (HP kvs k) (valueAt vs k):=by
 unfold KV at r;induction r with
 | nil=>exact a7Q
 | @cons p q ps qs h t ih=>
   obtain⟨h1,h2⟩:=h;by_cases e:p.1=k
   . have e':q.1=k:=h1.symm.trans e;have b:valueAt (q::qs) k=some q.2:=by simp[valueAt,b1Z,e']
     rw[JZ e,b];exact h2
   . have e':¬q.1=k:=λz=>e (h1.trans z);have b:valueAt (q::qs) k=valueAt qs k:=by simp[valueAt,b1Z,e']
     rw[HQ e,b];exact ih
theorem KV.any {kvs:List (κ×V)}{vs:List (κ×Value)}(r:KV kvs vs) (k:κ):(kvs.any λkv=>decide (kv.1=k))=vs.any λkv=>decide (kv.1=k):=by
 unfold KV at r;induction r with
 | nil=>rfl
 | cons h t ih=>rw[b1J,b1J,ih,h.1]
theorem KV.repl {kvs:List (κ×V)}{vs:List (κ×Value)}(r:KV kvs vs) (k:κ) {y:V}{u:Value}(ry:RelV y u) :
   KV (kvs.map λkv=>if kv.1=k then (kv.1,y) else kv) (vs.map λkv=>if kv.1=k then (kv.1,u) else kv):=by
 unfold KV at r ⊢;induction r with
 | nil=>exact .nil
 | @cons p q ps qs h t ih=>
   rw[zI,zI];refine .cons ?_ ih;obtain⟨h1,h2⟩:=h;by_cases e:p.1=k;. rw[if_pos e,if_pos (h1.symm.trans e)];exact⟨h1,ry⟩
   . rw[if_neg e,if_neg (λz=>e (h1.trans z))];exact⟨h1,h2⟩
theorem KV.put {kvs:List (κ×V)}{vs:List (κ×Value)}(r:KV kvs vs) (k:κ) {y:V}{u:Value}(ry:RelV y u):KV (E3 kvs k y) (stored vs k u):=by
 unfold E3 stored;rw[r.any k];by_cases e:(vs.any λkv=>decide (kv.1=k))=true;. rw[if_pos e,if_pos e];exact r.repl k ry
 . rw[if_neg e,if_neg e];exact Paired.snoc r ⟨rfl,ry⟩
theorem KV.drop {kvs:List (κ×V)}{vs:List (κ×Value)}(r:KV kvs vs) (k:κ):KV (N7 kvs k) (without vs k):=by
 unfold KV at r ⊢;unfold N7 without;induction r with
 | nil=>exact .nil
 | @cons p q ps qs h t ih=>
   obtain⟨h1,h2⟩:=h;rw[a6Z,a6Z];by_cases e:p.1=k
   . have a:¬decide (p.1≠k)=true:=by simp[e]
     have b:¬decide (q.1≠k)=true:=by simp[h1.symm.trans e]
     rw[if_neg a,if_neg b];exact ih
   . have e':¬q.1=k:=λz=>e (h1.trans z);have a:decide (p.1≠k)=true:=by simp[e]
     have b:decide (q.1≠k)=true:=by simp[e']
     rw[if_pos a,if_pos b];exact .cons ⟨h1,h2⟩ ih
theorem KV.length {kvs:List (κ×V)}{vs:List (κ×Value)}(r:KV kvs vs):kvs.length=vs.length:=Paired.length r
theorem aA (kvs:List (κ×V)) (k:κ):(N7 kvs k).length<=kvs.length:=yJ _ _
end
theorem LY {P:Program}{w:World}{k:Key}{u:Value}(r:RelV (kV k) u):(B0 P w).is k u=true:=by
 cases k with
 | inl i=>obtain⟨t,e⟩:=(show ∃t,u=Value.int i t from r);subst e;exact SK P w i t
 | inr x=>obtain⟨t,e⟩:=(show ∃t,u=b6V x t from r);subst e;exact SL P w x t
theorem PU {P:Program}{w:World}:∀{ks:List Key}{us:List Value},Vals (ks.map kV) us->ItemsAre (B0 P w) ks us
 | [],_,r=>by rw[b4Q] at r;cases r;exact .nil
 | k::ks,_,r=>by
   rw[zI] at r;cases r with
   | cons h t=>exact .cons (LY h) (PU t)
abbrev KT (H:Hp):List (List Key×V)->List (List Key×Addr×Value)->Prop:=Paired λp q=>p.1=q.1/\H q.2.1=some (.tup (p.1.map kV))/\RelV p.2 q.2.2
theorem KT.val {H:Hp}{kvs:List (List Key×V)}{xs:List (List Key×Addr×Value)}(r:KT H kvs xs) (k:List Key):RelO (HP kvs k) ((atKey xs k).map (·.2)):=by
 induction r with
 | nil=>exact a7Q
 | @cons p q ps qs h t ih=>
   obtain⟨h1,_,h2⟩:=h;by_cases e:p.1=k
   . have e':q.1=k:=h1.symm.trans e;have b:atKey (q::qs) k=some q.2:=by simp[atKey,b1Z,e']
     rw[JZ e,b];exact h2
   . have e':¬q.1=k:=λz=>e (h1.trans z);have b:atKey (q::qs) k=atKey qs k:=by simp[atKey,b1Z,e']
     rw[HQ e,b];exact ih
theorem KT.repl {H:Hp}{kvs:List (List Key×V)}{xs:List (List Key×Addr×Value)}(r:KT H kvs xs) (k:List Key) {y:V}{u:Value}(ry:RelV y u) :
   KT H (kvs.map λkv=>if kv.1=k then (kv.1,y) else kv) (xs.map (putAt k u)):=by
 induction r with
 | nil=>exact .nil
 | @cons p q ps qs h t ih=>
   rw[zI,zI];refine .cons ?_ ih;obtain⟨h1,h2,h3⟩:=h;unfold putAt;by_cases e:p.1=k;. rw[if_pos e,if_pos (h1.symm.trans e)];exact⟨h1,h2,ry⟩
   . rw[if_neg e,if_neg (λz=>e (h1.trans z))];exact⟨h1,h2,h3⟩
theorem KT.put {H:Hp}{kvs:List (List Key×V)}{xs:List (List Key×Addr×Value)}(r:KT H kvs xs) (k:List Key) {b:Addr}{y:V}{u:Value}(hb:H b=some (.tup (k.map kV))) (ry:RelV y u) :
   KT H (E3 kvs k y) (storedH xs k b u):=by
 have e:(kvs.any λkv=>decide (kv.1=k))=(atKey xs k).isSome:=by rw[SQ,(r.val k).isSome_eq,a4V]
 unfold E3 storedH;rw[e];by_cases q:(atKey xs k).isSome=true;. rw[if_pos q,if_pos q];exact r.repl k ry
 . rw[if_neg q,if_neg q];exact Paired.snoc r ⟨rfl,hb,ry⟩
theorem KT.keeps {H H':Hp}{kvs:List (List Key×V)}{xs:List (List Key×Addr×Value)}(r:KT H kvs xs) (ht:∀b ys,H b=some (.tup ys)->H' b=some (.tup ys)):KT H' kvs xs:=
 Paired.mapP r λ_ _ z=>⟨z.1,ht _ _ z.2.1,z.2.2⟩
section
variable {P:Program}{w:World}{H:Hp}{h:Heap}{a:Addr}
theorem iV {u:HO}(ok:HOk P w H h) (e:Rd H a u):ObjOk P w H h a u:=e.ok ok
theorem FU {kvs:List (Key×V)}(ok:HOk P w H h) (e:Rd H a (.dK kvs)):kvs.length<=sizeLine/\(a==sysModules)=false/\∃vs,KV kvs vs/\h.DictOf (B0 P w) a vs:=
 show ObjOk P w H h a (.dK kvs) from iV ok e
theorem WS {kvs:List (Key×V)}(ok:HOk P w H h) (e:H a=some (.dK kvs)):kvs.length<=sizeLine/\(a==sysModules)=false/\∃vs,KV kvs vs/\h.DictOf (B0 P w) a vs:=FU ok (.inl e)
theorem N8 {ks:List Key}(ok:HOk P w H h) (e:H a=some (.tup (ks.map kV))):(tupleKind (B0 P w)).is h ks a:=by
 obtain⟨_,aa,r,o,h1,h2,n,h3⟩:=(show ObjOk P w H h a (.tup (ks.map kV)) from ok a _ e)
 exact⟨o,aa.toArray,n,h1,h2,h3,by simpa using PU r⟩
theorem PV {kvs:List (List Key×V)}(ok:HOk P w H h) (e:Rd H a (.dT kvs)):kvs.length<=sizeLine/\(a==sysModules)=false /\∃xs,KT H kvs xs/\h.DictOfH (tupleKind (B0 P w)) a xs:=by
 obtain⟨z,y,xs,r,o,es,ep,h1,h2,h3,h4,h5⟩:=(show ObjOk P w H h a (.dT kvs) from iV ok e)
 refine⟨z,y,xs,r,o,es,ep,h1,h2,h3,h4,λx hx=>?_,h5⟩;have all:∀{l:List (List Key×V)}{m:List (List Key×Addr×Value)},KT H l m->∀x∈m,(tupleKind (B0 P w)).is h x.1 x.2.1:=by
   intro l m q;induction q with
   | nil=>intro x hx;exact nomatch hx
   | @cons p q ps qs hq t ih=>
     intro x hx;rcases yX.mp hx with e | hx;. subst e;exact N8 ok (by rw[<-hq.1];exact hq.2.1)
     . exact ih x hx
 exact all r x hx
theorem nL {kvs:List (List Key×V)}(ok:HOk P w H h) (e:H a=some (.dT kvs)):kvs.length<=sizeLine/\(a==sysModules)=false /\∃xs,KT H kvs xs/\h.DictOfH (tupleKind (B0 P w)) a xs:=PV ok (.inl e)
end
def VB (H:Hp) (a:Addr) (y:V) (r:Option V):Prop:=(∃kvs k,Rd H a (.dK kvs)/\y=kV k/\r=HP kvs k)\/∃kvs k b,Rd H a (.dT kvs)/\y = .ref b/\H b=some (.tup (k.map kV))/\r=HP kvs k
def nM (H:Hp) (a:Addr) (y v:V) (H':Hp):Prop:=(∃kvs k,H a=some (.dK kvs)/\y=kV k/\kvs.length < sizeLine/\H'=upd H a (.dK (E3 kvs k v))) \/∃kvs k b,H a=some (.dT kvs)/\y = .ref b/\H b=some (.tup (k.map kV))/\kvs.length < sizeLine/\H'=upd H a (.dT (E3 kvs k v))
section
variable {X:Cx}{pins:List (Addr×Obj)}{σ:St}{H:Hp}{s:Shared}{a:Addr}{y v:V}{u r:Value}{o:Option V}{A:Around}{E:Value->Shared->Prop}
theorem Inv.big (I:Inv X pins σ H s):sysModules < s.heap.objs.size:=by have h:mainGlobals < s.heap.objs.size:=(I.mod.glob.keeps I.bk).lt;exact xQ (by decide) h
theorem YE {Q:Value->Shared->Prop}(hu:A.units+1 < cLine) (I:Inv X pins σ H s) (g:VB H a y (some v)) (ry:RelV y u) (h:∀w' s',Inv X pins σ H s'->RelV v w'->Q w' s') :
   wpAny (model X.prog X.w) A (getItem (.ref a) u) Q E s:=by
 rcases g with ⟨kvs,k,e,ey,l⟩ | ⟨kvs,k,b,e,ey,eb,l⟩
 . subst ey;obtain⟨z,hd,vs,rel,dd⟩:=FU I.hok e;obtain⟨w',hw,ef⟩:=RelO.some_of (v:=v) (o:=valueAt vs k) (by rw[l];exact rel.val k);exact wpAny_getItem_of (LY ry) dd.mapOf hw (h w' _ (I.tok _) ef)
 . subst ey;cases (show u=a0X b from ry);obtain⟨z,hd,xs,rel,dd⟩:=PV I.hok e;obtain⟨w',hw,ef⟩:=RelO.some_of (v:=v) (o:=(atKey xs k).map (·.2)) (by rw[l];exact rel.val k);obtain⟨p,hp,hp2⟩:=Option.map_eq_some_iff.mp hw;refine wpAny_getItem_heap (tupleKind_room_in1 hu) (N8 I.hok eb) dd hp ?_;rw[hp2];exact h w' _ (I.tok _) ef
theorem pG {Q:Value->Shared->Prop}(hu:A.units+1 < cLine) (I:Inv X pins σ H s) (g:VB H a y o) (ry:RelV y u) (h:∀s',Inv X pins σ H s'->Q (.bool o.isSome) s') :
   wpAny (model X.prog X.w) A (compareOp .In u (.ref a)) Q E s:=by
 rcases g with ⟨kvs,k,e,ey,l⟩ | ⟨kvs,k,b,e,ey,eb,l⟩
 . subst ey;obtain⟨z,hd,vs,rel,dd⟩:=FU I.hok e;refine wpAny_in_of (LY ry) hd dd.mapOf ?_;rw[<-(rel.val k).isSome_eq,<-l];exact h _ (I.tok _)
 . subst ey;cases (show u=a0X b from ry);obtain⟨z,hd,xs,rel,dd⟩:=PV I.hok e;refine wpAny_in_heap (tupleKind_room_in1 hu) (N8 I.hok eb) hd dd ?_;have q:=(rel.val k).isSome_eq;rw[a4V] at q;rw[<-q,<-l];exact h _ (I.tok _)
theorem fC {Q:Value->Shared->Prop}(hu:A.units+1 < cLine) (I:Inv X pins σ H s) (g:VB H a y o) (ry:RelV y u) (h:∀s',Inv X pins σ H s'->Q (.bool (!o.isSome)) s') :
   wpAny (model X.prog X.w) A (compareOp .NotIn u (.ref a)) Q E s:=by
 rcases g with ⟨kvs,k,e,ey,l⟩ | ⟨kvs,k,b,e,ey,eb,l⟩
 . subst ey;obtain⟨z,hd,vs,rel,dd⟩:=FU I.hok e;refine wpAny_notIn_of (LY ry) hd dd.mapOf ?_;rw[<-(rel.val k).isSome_eq,<-l];exact h _ (I.tok _)
 . subst ey;cases (show u=a0X b from ry);obtain⟨z,hd,xs,rel,dd⟩:=PV I.hok e;refine wpAny_notIn_heap (tupleKind_room_in1 hu) (N8 I.hok eb) hd dd ?_;have q:=(rel.val k).isSome_eq;rw[a4V] at q;rw[<-q,<-l];exact h _ (I.tok _)
theorem K0 {h':Heap}{t':Nat}{ob:HO}(I:Inv X pins σ H s) (mu:Mut (H a)) (hs:Heap.SameBut a s.heap h') (he:∃q,h'.get? a=some q) (new:ObjOk X.prog X.w (upd H a ob) h' a ob) :
   Inv X pins σ (upd H a ob) { s with heap:=h',toks:=t' }:=
 I.write (x:=a) (e:=a) mu (.inl rfl) (λb q hb z=>(hs.2 b hb).trans z) he new
theorem N9 {P:Program}{w:World}{H':Hp}{h':Heap}{kvs:List (Key×V)}{vs:List (Key×Value)}(z:kvs.length<=sizeLine) (hd:(a==sysModules)=false) (rel:KV kvs vs) (dd:h'.DictOf (B0 P w) a vs) :
   ObjOk P w H' h' a (.dK kvs):=⟨z,hd,vs,rel,dd⟩
theorem YF {H':Hp}{Q:Unit->Shared->Prop}(hu:A.units+1 < cLine) (I:Inv X pins σ H s) (g:nM H a y v H') (ry:RelV y u) (rv:RelV v r) (h:∀s',Inv X pins σ H' s'->Q () s') :
   wpAny (model X.prog X.w) A (setItem (.ref a) u r) Q E s:=by
 rcases g with ⟨kvs,k,e,ey,l,eH⟩ | ⟨kvs,k,b,e,ey,eb,l,eH⟩
 . subst ey eH;obtain⟨z,hd,vs,rel,dd⟩:=WS I.hok e;have hz:vs.length<=sizeLine:=by rw[<-rel.length];exact z
   have hl:(E3 kvs k v).length<=sizeLine:=by have:=F7 kvs k v;lia
   refine wpAny_setItem_pairs (hsz:=hz) (LY ry) dd λh' ft hs=>h _ ?_;have he:∃q,h'.get? a=some q:=let ⟨q,_,_,hq,_⟩:=ft;⟨q,hq⟩;exact K0 I (by rw[e];exact a7Q) hs he (N9 hl hd (rel.put k rv) ft)
 . subst ey eH;cases (show u=a0X b from ry);obtain⟨z,hd,xs,rel,dd⟩:=nL I.hok e;have hz:xs.length<=sizeLine:=by rw[<-Paired.length rel];exact z
   have hl:(E3 kvs k v).length<=sizeLine:=by have:=F7 kvs k v;lia
   refine wpAny_setItem_heap (hsz:=hz) (tupleKind_room_in1 hu) (N8 I.hok eb) dd λh' ft hs=>h _ ?_;obtain⟨q,es,ep,hq,h2,h3,h4,_,h5⟩:=ft;refine K0 I (by rw[e];exact a7Q) hs ⟨q,hq⟩ ⟨hl,hd,_,(rel.put k eb rv).keeps λc ys ec=>?_,q,es,ep,hq,h2,h3,h4,h5⟩;rw[AS (mT ec e (λz=>nomatch z))];exact ec
end
section
variable {X:Cx}{pins:List (Addr×Obj)}{σ:St}{H:Hp}{s:Shared}{a:Addr}{kvs:List (Key×V)}{k:Key}{u:Value}{A:Around}{E:Value->Shared->Prop}
theorem nN {v:V}{more:List Value}{Q:Value->Shared->Prop}(I:Inv X pins σ H s) (e:H a=some (.dK kvs)) (ry:RelV (kV k) u) (l:HP kvs k=some v) (hm:more=[]\/∃x,more=[x]) (h:∀w' s',Inv X pins σ (upd H a (.dK (N7 kvs k))) s'->RelV v w'->Q w' s'):wpAny (model X.prog X.w) A (call (.builtin "dict.pop") (.ref a::u::more)) Q E s:=by
 obtain⟨z,hd,vs,rel,dd⟩:=WS I.hok e;obtain⟨w',hw,ef⟩:=RelO.some_of (v:=v) (o:=valueAt vs k) (by rw[<-l];exact rel.val k);have hp:(keyPart u).isSome=true:=by
   cases k with
   | inl i=>obtain⟨t,q⟩:=(show ∃t,u=Value.int i t from ry);subst q;rfl
   | inr x=>obtain⟨t,q⟩:=(show ∃t,u=b6V x t from ry);subst q;rfl
 have ha:argsOk "dict.pop" ⟨.ref a::u::more,[]⟩:=by
   rcases hm with q | ⟨x,q⟩
   . subst q;exact PySem.F.args_dict_pop_2 _ _
   . subst q;exact PySem.F.args_dict_pop_3 _ _ _
 refine call_meetsIn PySem.F.slot_dict_pop dd.typeIs PySem.F.entry_dict_pop ha (meets_dict_pop_there (B0 X.prog X.w) a (LY ry) more hm hp) ⟨vs,w',dd,by rw[<-rel.length];exact z,hw,λh' ft hs=>h w' _ ?_ ef⟩;have he:∃q,h'.get? a=some q:=let ⟨q,_,_,hq,_⟩:=ft;⟨q,hq⟩;exact K0 I (by rw[e];exact a7Q) hs he (N9 (zN (aA kvs k) z) hd (rel.drop k) ft)
end
def nO (i:Expr):Prop:=∀ov iv,subscripted i false ov iv=operate [ov,iv] (getItem ov iv)
theorem fD {prog:Program}{w:World}{A:Around}{E:Value->Shared->Prop}{s:Shared}{env:Env}{value slice:Expr}{pos:Pos}{T id:String}{Q:Value->Shared->Prop} (hl:typeLookup (.type T) "__getitem__"=pure (some (.builtin id))) (hs:nO slice) (h:wpAny (model prog w) A (eval value env) (λo s₁=>wpAny (model prog w) A (eval slice env) (λi s₂=>s₂.TypeIs o T/\wpAny (model prog w) A (getItem o i) Q E s₂) E s₁) E s) :
   wpAny (model prog w) A (eval (.Subscript value slice pos) env) Q E s:=by
 refine Subscript_ (wpAny_mono h (λo s₁ h₁=>wpAny_mono h₁ (λi s₂ h₂=>?_) λ_ _ x=>x) λ_ _ x=>x);obtain⟨hT,h₂⟩:=h₂;unfold subscriptTail;refine zZ ?_;rw[getitemInPython_of_ne hT.not_modules];refine zZ (wpAny_specialOf hT hl ?_);have fin:wpAny (model prog w) A (subscripted slice false o i) (λr s₃=>wpAny (model prog w) A (letTemporaryGo value o r >>= λ_=>pure r) Q E s₃) E s₂:=by rw[hs o i];exact wpAny_operating (wpAny_mono h₂ (λr s₃ h₃=>zZ (wpAny_letTemporaryGo (zY h₃))) λ_ _ x=>x)
 first
   | exact zY (zZ fin)
   | exact zZ (zY (zZ fin))
   | exact zZ fin
theorem SR {X:Cx}{pins:List (Addr×Obj)}{σ:St}{H:Hp}{s:Shared}{a:Addr}{y:V}{o:Option V}(I:Inv X pins σ H s) (g:VB H a y o):s.TypeIs (.ref a) "dict" := by
 rcases g with ⟨kvs,k,e,_,_⟩ | ⟨kvs,k,b,e,_,_,_⟩
 . obtain⟨_,_,vs,_,dd⟩:=FU I.hok e;exact dd.typeIs
 . obtain⟨_,_,xs,_,dd⟩:=PV I.hok e;exact dd.typeIs
def WT (td ty:TE):TE:=λσ H Q=>td σ H λx H1=>ty σ H1 λy H2=>∃a v,x = .ref a/\VB H2 a y (some v)/\Q v H2
def kN (ty td:TE):TE:=λσ H Q=>ty σ H λy H1=>td σ H1 λx H2=>∃a o,x = .ref a/\VB H2 a y o/\Q (.bl o.isSome) H2
def WU (ty td:TE):TE:=λσ H Q=>ty σ H λy H1=>td σ H1 λx H2=>∃a o,x = .ref a/\VB H2 a y o/\Q (.bl (!o.isSome)) H2
def iW (td ty tv:TE):TS:=λD σ H=>tv σ H λv H1=>td σ H1 λx H2=>ty σ H2 λy H3=>∃a H4,x = .ref a/\nM H3 a y v H4/\D.nx σ H4
section
variable {X:Cx}{o i e value:Expr}{pos pos' uh:Pos}{td ty tv:TE}
theorem E8 (hu:X.A.units+1 < cLine) (ho:PE X o td) (hi:PE X i ty) (hs:nO i):PE X (.Subscript o i pos) (WT td ty):=by intro pins s σ H Q I h;refine fD PySem.F.slot_dict_getitem.lookup hs (thn (ho pins s σ H _ I h) λu s1 ⟨x,H1,I1,rx,q1⟩=>thn (hi pins s1 σ H1 _ I1 q1) λiv s2 ⟨y,H2,I2,ry,a,v,ex,g,q2⟩=>?_);subst ex;obtain rfl:u=a0X a:=rx;exact⟨SR I2 g,YE hu I2 g ry λw' s3 I3 ef=>⟨v,H2,I3,ef,q2⟩⟩
theorem R8 (hu:X.A.units+1 < cLine) (hi:PE X i ty) (ho:PE X o td):PC X .In i o (kN ty td):=by intro pins s σ H Q I h;refine thn (hi pins s σ H _ I h) λiv s1 ⟨y,H1,I1,ry,q1⟩=>thn (ho pins s1 σ H1 _ I1 q1) λu s2 ⟨x,H2,I2,rx,a,ov,ex,g,q2⟩=>?_;subst ex;obtain rfl:u=a0X a:=rx;exact pG hu I2 g ry λs3 I3=>⟨.bl ov.isSome,H2,I3,rfl,q2⟩
theorem PX (hu:X.A.units+1 < cLine) (hi:PE X i ty) (ho:PE X o td):PC X .NotIn i o (WU ty td):=by intro pins s σ H Q I h;refine thn (hi pins s σ H _ I h) λiv s1 ⟨y,H1,I1,ry,q1⟩=>thn (ho pins s1 σ H1 _ I1 q1) λu s2 ⟨x,H2,I2,rx,a,ov,ex,g,q2⟩=>?_;subst ex;obtain rfl:u=a0X a:=rx;exact fC hu I2 g ry λs3 I3=>⟨.bl (!ov.isSome),H2,I3,rfl,q2⟩
theorem IP (hu:X.A.units+1 < cLine) (ho:PE X o td) (hi:PE X i ty) (hv:PE X value tv) (hs:swapsWith value (some (.Subscript o i pos')) pos.line X.env=pure false) :
   PS X (.Assign [.Subscript o i pos'] value pos) (iW td ty tv):=by intro pins s σ H D I h;refine wpAny_Assign_Subscript (thn (hv pins s σ H _ I h) λr s1 ⟨v,H1,I1,rv,q1⟩=>thn (ho pins s1 σ H1 _ I1 q1) λu s2 ⟨x,H2,I2,rx,q2⟩=>thn (hi pins s2 σ H2 _ I2 q2) λiv s3 ⟨y,H3,I3,ry,a,H4,ex,g,q3⟩=>?_) hs;subst ex;obtain rfl:u=a0X a:=rx;exact YF hu I3 g ry rv λs4 I4=>⟨σ,H4,I4,q3⟩
end
theorem NA {P:Program}{w:World}{H:Hp}(h:Heap) (hb:sysModules < h.objs.size):ObjOk P w H (h.push { cls:=.type "dict", data:=.dict #[] }) h.objs.size (.dK []):=⟨xT _,beq_eq_false_iff_ne.mpr (a3J (zC hb)),[],.nil,Heap.DictOf.new h⟩
def aB:TE:=λ_ H Q=>∀p,H p=none->Q (.ref p) (upd H p (.dK []))
section
variable {X:Cx}{pos:Pos}
theorem NB:PE X (.Dict [] [] pos) aB:=λpins s σ H Q I h=>
 wpAny_Dict_empty ⟨.ref s.heap.objs.size,_,I.laid (a:=s.heap.objs.size) (o:=.dK []) (t':=s.toks) (λ_ _ q=>zW _ q) (zR _) (NA s.heap I.big),rfl,h _ (I.hok.fresh (zR _))⟩
end
def R9:List (TE×TE)->St->Hp->(List (V×V)->Hp->Prop)->Prop
 | [],_,H,Q=>Q [] H
 | (tk,tv)::r,σ,H,Q=>tk σ H λx H1=>tv σ H1 λy H2=>R9 r σ H2 λps H3=>Q ((x,y)::ps) H3
abbrev VV:List (V×V)->List (Value×Value)->Prop:=Paired λp q=>RelV p.1 q.1/\RelV p.2 q.2
def PPs (X:Cx) (pos:Pos) (keys:List (Option Expr)) (values:List Expr) (dw:List (TE×TE)):Prop:=∀(pins:List (Addr×Obj)) (s:Shared) (σ:St) (H:Hp) (Q:List (V×V)->Hp->Prop),Inv X pins σ H s->R9 dw σ H Q ->
   wpAny (model X.prog X.w) X.A (evalPairs (pairTrees keys values X.env pos)) (λvs s'=>∃ps H',Inv X pins σ H' s'/\VV ps vs/\Q ps H') X.xe s
theorem fE {X:Cx}{pos:Pos}:PPs X pos [] [] []:=λpins s σ H Q I h=>pairTrees_nil_walk ⟨[],H,I,.nil,h⟩
theorem SS {X:Cx}{pos:Pos}{k v:Expr}{ks:List (Option Expr)}{vs:List Expr}{tk tv:TE}{dw:List (TE×TE)}(hk:PE X k tk) (hv:PE X v tv) (hr:PPs X pos ks vs dw) :
   PPs X pos (some k::ks) (v::vs) ((tk,tv)::dw):=λpins s σ H Q I h=>
 pairTrees_cons_walk (thn (hk pins s σ H _ I h) λu s1 ⟨x,H1,I1,rx,q1⟩=>thn (hv pins s1 σ H1 _ I1 q1) λw2 s2 ⟨y,H2,I2,ry,q2⟩=>
   thn (hr pins s2 σ H2 _ I2 q2) λws s3 ⟨ps,H3,I3,rel,q3⟩=>⟨(x,y)::ps,H3,I3,.cons ⟨rx,ry⟩ rel,q3⟩)
def HR (kvs more:List (Key×V)):List (Key×V):=more.foldl (λacc kv=>E3 acc kv.1 kv.2) kvs
theorem KV.merge:∀{more:List (Key×V)}{rs:List (Key×Value)}{kvs:List (Key×V)}{vs:List (Key×Value)},KV more rs->KV kvs vs->KV (HR kvs more) (merged vs rs):=by
 intro more rs kvs vs r;unfold KV at r;induction r generalizing kvs vs with
 | nil=>intro q;exact q
 | @cons p q ps qs h t ih=>
   intro r0;have e:KV (E3 kvs p.1 p.2) (stored vs q.1 q.2):=by have:=r0.put p.1 h.2;rw[<-h.1];exact this
   exact ih e
theorem JA:∀(more kvs:List (Key×V)),(HR kvs more).length<=kvs.length+more.length
 | [],kvs=>by show kvs.length<=kvs.length+0;lia
 | p::r,kvs=>by have h1:=JA r (E3 kvs p.1 p.2);have h2:=F7 kvs p.1 p.2;show(HR (E3 kvs p.1 p.2) r).length<=_;rw[yR];lia
theorem ND {P:Program}{w:World}:∀{kvs:List (Key×V)}{ws:List (Value×Value)},VV (kvs.map λkv=>(kV kv.1,kv.2)) ws->∃rs,Carries (B0 P w) ws rs/\KV kvs rs
 | [],_,r=>by rw[b4Q] at r;cases r;exact⟨[],a7Q,.nil⟩
 | p::kvs,_,r=>by
   rw[zI] at r;cases r with
   | @cons a b as bs h t=> obtain⟨rs,c,q⟩:=ND (P:=P) (w:=w) t;obtain⟨b1,b2⟩:=b;exact⟨(p.1,b2)::rs,⟨LY h.1,rfl,c⟩,.cons ⟨rfl,h.2⟩ q⟩
def iX (dw:List (TE×TE)):TE:=λσ H Q=>∀p,H p=none->R9 dw σ (upd H p (.dK [])) λps H2=>H2 p=some (.dK [])/\∃kvs:List (Key×V),ps=kvs.map (λkv=>(kV kv.1,kv.2))/\kvs.length<=15/\Q (.ref p) (upd H2 p (.dK (HR [] kvs)))
theorem fF {X:Cx}{pos:Pos}{keys:List (Option Expr)}{values:List Expr}{dw:List (TE×TE)}(h:PPs X pos keys values dw) (jv:keys.all (·.isSome)=true) (hl:keys.length=values.length) (h0:keys≠[]) (ui:keys.length<=15):PE X (.Dict keys values pos) (iX dw):=by
 intro pins s σ H Q I q;have hn:=I.hok.fresh (zR s.heap.objs.size);have I1:=I.laid (a:=s.heap.objs.size) (o:=.dK []) (h':=s.heap.push { cls:=.type "dict", data:=.dict #[] }) (t':=s.toks) (λ_ _ q=>zW _ q) (zR _) (NA s.heap I.big);refine wpAny_Dict_walk (knd:=B0 X.prog X.w) jv hl h0 ui (thn (h pins _ σ _ _ I1 (q _ hn)) λws s2 ⟨ps,H2,I2,rel,e,kvs,ep,lk,q2⟩=>?_);subst ep;obtain⟨rs,c,rk⟩:=ND (P:=X.prog) (w:=X.w) rel;obtain⟨z,hd,v5,r0,dd⟩:=WS I2.hok e;cases r0;refine⟨rs,c,dd,λh' ft hs=>⟨.ref s.heap.objs.size,_,?_,rfl,q2⟩⟩;have hz:(HR [] kvs).length<=sizeLine:=by have h1:=JA kvs [];rw[List.length_nil] at h1;rw[sizeLine_eq];lia
 have he:∃q,h'.get? s.heap.objs.size=some q:=let ⟨q,_,_,hq,_⟩:=ft;⟨q,hq⟩;exact K0 I2 (by rw[e];exact a7Q) hs he (N9 hz hd (rk.merge .nil) ft)
structure M1 (X:Cx) (o:Expr) (m:Str) (apos:Pos) (e:Expr) (aj:Pos):Prop where
 base:attributeBase o m X.env (eval o X.env)=eval o X.env
 few:((backTo aj (starEach [e] X.env)).all (λx=>!x.1)&&(backToKw aj (keywordEach [] X.env)).all (λx=>x.1.isSome)
   && decide (([e]:List Expr).length+([]:List Keyword).length+(if ([]:List Keyword).isEmpty then 0 else 1) < 30))=true
 line:(apos.endLine==aj.line)=true
 trees:backTo aj (starEach [e] X.env)=[(false,eval e X.env)]
def IsD (H:Hp) (a:Addr):Prop:=(∃kvs,Rd H a (.dK kvs))\/∃kvs,Rd H a (.dT kvs)
theorem kP {X:Cx}{pins:List (Addr×Obj)}{σ:St}{H:Hp}{s:Shared}{a:Addr}(I:Inv X pins σ H s) (d:IsD H a) :
   s.TypeIs (.ref a) "dict" /\ (∀b,a0X a = .ref b->∃ob,s.heap.get? b=some ob/\ob.dict=none)/\(a==sysModules)=false:=by
 rcases d with ⟨kvs,e⟩ | ⟨kvs,e⟩
 . obtain⟨_,hd,vs,_,dd⟩:=FU I.hok e;refine⟨dd.typeIs,λb q=>?_,hd⟩;cases q;obtain⟨ob,_,_,h1,h2,_⟩:=dd;exact⟨ob,h1,h2.2.1⟩
 . obtain⟨_,hd,xs,_,dd⟩:=PV I.hok e;refine⟨dd.typeIs,λb q=>?_,hd⟩;cases q;obtain⟨ob,_,_,h1,h2,_⟩:=dd;exact⟨ob,h1,h2.2.1⟩
def aC (td ty:TE):TE:=λσ H Q=>td σ H λx H1=>∃a,x = .ref a/\IsD H1 a/\ty σ H1 λy H2=>∃kvs k v,H2 a=some (.dK kvs)/\y=kV k/\HP kvs k=some v/\Q v (upd H2 a (.dK (N7 kvs k)))
section
variable {X:Cx}{o e f:Expr}{apos aj:Pos}{td ty tx:TE}
theorem aD (ho:PE X o td) (he:PE X e ty) (m:M1 X o "pop" apos e aj):PE X (.Call (.Attribute o "pop" apos) [e] [] aj) (aC td ty):=by intro pins s σ H Q I h;refine wpAny_Call_method m.base m.few m.line PySem.F.plainAttrs_dict PySem.F.slot_dict_pop PySem.F.type_dict_pop (thn (ho pins s σ H _ I h) λu s1 ⟨x,H1,I1,rx,a,ex,d,q1⟩=>?_);subst ex;obtain rfl:u=a0X a:=rx;obtain⟨t1,t2,_⟩:=kP I1 d;refine⟨t1,t2,?_⟩;rw[m.trees];refine Calls.callWith_builtin rfl (Calls.evalArgs_plain (Calls.spliced_cons (thn (he pins s1 σ H1 _ I1 q1) λiv s2 ⟨y,H2,I2,ry,kvs,k,v,ea,ey,l,q2⟩=>Calls.spliced_nil ?_)));subst ey;exact nN I2 ea ry l (.inl rfl) λw' s3 I3 ef=>⟨v,_,I3,ef,q2⟩
end
end L2
namespace Att
open PySem PySem.W PySem.Calls PyProof.Rows
theorem MM {P:Params}{h:Heap}:∀(ns:List Int) (vs:List Value),WellAll P h vs (ns.map WData.int)->IntsAre vs ns:=by
 intro ns;induction ns with
 | nil=> intro vs w;rw[b4Q] at w;cases w;exact .nil
 | cons n ns ih=>
   intro vs w;rw[zI] at w;cases w with
   | cons a b=> cases a;exact .cons _ _ (ih _ b)
theorem script_of {l:OpenLaw}{n:Nat}(hn:l.most=some n) {P:Params}{h:Heap}{args:List WData}{vals:List Value} (il:l.row.toRowW.claim.pre args=true) (pj:WellAll P h vals args) : ∃a vs ns,vals=[a0X a]/\args=[WData.list (ns.map WData.int)]/\h.get? a=some { cls:=.type "list", data:=.seq vs.toArray }/\IntsAre vs ns/\ns.length<=n:=by
 have uj:WShape.hasAll [] args [.list .int]=true:=(pre_splitW il).1;have hc:l.pre.holds [] { args:=args }=true:=(pre_splitW il).2;obtain⟨d,r,rfl,h1,h2⟩:=hasAllW_cons uj;obtain rfl:=hasAllW_nil h2;obtain⟨xs,rfl,h3⟩:=hasW_list h1;obtain⟨ns,rfl⟩:=items_int h3;have ab:ns.length<=n:=by
   unfold OpenLaw.pre at hc;have h4:(WTm.not (.lt (.lit (.int (n:Int))) (.len (.arg 0)))).holds [] { args:=[.list (ns.map .int)] }=true:=by have h4:=(holds_andW hc).1;rw[hn] at h4;exact h4
   have h5:=condW_of h4 (w_not (w_lt w_lit (w_len_list (w_arg rfl))));rw[zX] at h5;refine Nat.le_of_not_lt λq=>?_;have q':(n:Int) < ((ns.length:Nat):Int):=by lia
   first
     | (rw[decide_eq_true q'] at h5;exact absurd h5 (by decide))
     | (simp at h5;lia)
 cases pj with
 | cons w1 w2=>
   cases w2;cases w1 with
   | list ho jv=>exact⟨_,_,ns,rfl,rfl,ho,MM ns _ jv,ab⟩
theorem post_true (l:OpenLaw) (args:List WData):l.row.toRowW.claim.post args (.bool true) args=true:=
 postW_of (r:=l.row.toRowW) (X:=(true==true)) (show WShape.has [] (.bool true) .bool=true by first | rfl | decide | simp[WShape.has,WShape.arms,WShape.armsAll])
   (show(WTm.eq .res (.lit (.bool true))).value [] { args:=args,res:=some (.bool true),after:=args }=some (.bool (true==true)) from w_eq_bool (w_res rfl) w_lit) rfl
end Att
namespace L2
open PySem PySem.Spec PyProof.Rows
theorem PY:∀{vs:List Value}{ns:List Int},IntsAre vs ns->Vals (ns.map V.int) vs
 | _,_,.nil=>.nil
 | _,_,.cons n t h=>.cons ⟨t,rfl⟩ (PY h)
def kQ (H:Hp):Prop:=∀b,H b=none\/∃o xs,H b=some (.frz o (.lst xs))
theorem aE {P:Program}{w:World}{K:Frg}{mg mb:Str->Option Value}{CX:CXT}{k:Nat}{fa a:Addr}{fd:FuncData}{x:Str}{sp:Sp}{s₁:Shared}{vs:List Value}{ns:List Int} (KX:K.In s₁.heap) (lm:s₁.heap.Ns mainGlobals mg) (hb:s₁.heap.Ns builtinsNs mb) (uk:∀x:Str,x ≠ "__name__" -> mb x=bootBuiltins x) (qz:s₁.heap.NoLimit) (hg:s₁.gens=#[]) (ha:s₁.heap.get? a=some { cls:=.type "list", data:=.seq vs.toArray }) (hi:IntsAre vs ns) (hl:ns.length<=sizeLine) (hr:Room k callerA) (F:∀base:Heap,K.In base->base.Ns mainGlobals mg->FnOk P w K mg base CX k fa fd [x] sp) (lp:∀(s:Shared) (u:Value),BindsTo s fd ⟨[u],[]⟩ [(x,u)]) (je:∀H:Hp,kQ H->SqL K H a (ns.map V.int)->sp [.ref a] H (λv _=>v = .bl true) λ_ _ _=>False) (q_:∀H e s',CX [] H s₁ (λ_ _ _=>False) e s'->False) :
   codeAny (model P w) callerA (.call (.ref fa) ⟨[.ref a],[]⟩) (λr s'=>r = .ok (.ret (.bool true))/\OldK s₁.heap s'.heap/\s'.os=s₁.os/\AllBare s'.gens) s₁:=by
 have rv:=PY hi;have qC:=hi.length;have core:∀H:Hp,kQ H->SqL K H a (ns.map V.int)->HOk P w H s₁.heap->(∀b,H b≠none->b=a)->(H a≠none->K.lookup a=none) ->
     codeAny (model P w) callerA (.call (.ref fa) ⟨[.ref a],[]⟩) (λr s'=>r = .ok (.ret (.bool true))/\OldK s₁.heap s'.heap/\s'.os=s₁.os/\AllBare s'.gens) s₁:=by
   intro H hO hS hok hA hK;have fi:∀{b:Addr}{o:Obj},s₁.heap.get? b=some o->H b=none->(QU s₁.heap H).get? b=some o:=λe n=>ZS e n;have lg:∀{b:Addr}{o:Obj}{es:Array DictEntry}{ep:Nat},s₁.heap.get? b=some o->o.data = .dict es ep->H b=none:=λ{b o es ep} e d=>by
     cases q:H b with
     | none=>rfl
     | some u=> have e':b=a:=hA b (by rw[q];simp);subst e';rw[ha] at e;cases e;have d':Data.seq vs.toArray _=Data.dict es ep:=d;cases d'
   have pq:∀{b:Addr}{m:Str->Option Value},s₁.heap.Ns b m->(QU s₁.heap H).Ns b m:=λ{b m} ⟨o,es,ep,e,d,r⟩=>⟨o,es,ep,fi e (lg e d),d,r⟩
   have rX:K.In (QU s₁.heap H):=λb o e=>fi (KX b o e) (by
     cases q:H b with
     | none=>rfl
     | some u=> have e':b=a:=hA b (by rw[q];simp);subst e';rw[hK (by rw[q];simp)] at e;cases e);have hM:Mod K mg (QU s₁.heap H):=⟨rX,pq lm,⟨mb,pq hb,uk⟩,let ⟨mc,h1,h2⟩:=qz;⟨mc,pq h1,h2⟩⟩
   have e0:Env0 P w K mg (QU s₁.heap H) callerA [] s₁ H:=⟨rfl,hM,λb o e=>eF e,Nat.le_of_eq (Y4 _ _),trivial,λb hb=>absurd (show b∈([]:List Addr) from hb) (by simp),hok,.of_eq hg⟩
   refine codeAny_mono ((F _ rX (pq lm)).run callerA [] s₁ H ⟨[.ref a],[]⟩ [.ref a] [.ref a] _ _ hr e0 (lp s₁ (.ref a)) (.cons rfl .nil) (je H hO hS)) λr s' h=>?_;cases r with
   | error e=>exact(q_ H e s' h).elim
   | ok fl=>
     cases fl with
     | next=>exact b0V h
     | brk=>exact b0V h
     | cont=>exact b0V h
     | ret u=>
       obtain⟨v,H',os,bare,un,jw,r',q⟩:=h;have q':v = .bl true:=q;subst q';obtain rfl:u=Value.bool true:=r';refine⟨rfl,OldK.of_keep λb o e=>?_,os,bare⟩;cases q:H b with
       | none=>exact un.keep b o e q (by intro z;exact absurd (show b∈([]:List Addr) from z) (by simp)) (by simp)
       | some u=>
         rcases hO b with z | ⟨ob,xs,z⟩
         . rw[q] at z;cases z
         . have z2:=un.frzs b ob _ z;obtain⟨e1,_⟩:=hok b _ z;obtain⟨e2,_⟩:=jw b _ z2;rw[e] at e1;cases e1;exact e2
 cases hk:K.lookup a with
 | some o=> have e:=KX a o hk;rw[ha] at e;cases e;refine core (λ_=>none) (λ_=>.inl rfl) (.inr ⟨_,vs.toArray,_,hk,rfl,rfl,rfl,by rw[zJ,qC];exact hl,by simpa using rv⟩) (λb u z=>by have z':(none:Option HO)=some u:=z;cases z') (λb z=>absurd rfl z) λz=>absurd rfl z
 | none=>
   refine core (λb=>if b=a then some (.frz { cls:=.type "list", data:=.seq vs.toArray } (.lst (ns.map V.int))) else none) (λb=>?_) (.inl (.inr ⟨{ cls:=.type "list", data:=.seq vs.toArray },if_pos rfl⟩)) (λb u z=>?_) (λb z=>?_) λ_=>hk
   . by_cases hb:b=a;. exact .inr ⟨_,_,if_pos hb⟩
     . exact .inl (if_neg hb)
   . by_cases hb:b=a;. have z':=(if_pos hb).symm.trans z;cases z';subst hb;exact⟨ha,by rw[zX];exact hl,vs,_,rv,ha⟩
     . have z':=(if_neg hb).symm.trans z;cases z'
   . by_cases hb:b=a;. exact hb
     . exact absurd (if_neg hb) z
def E9 (s:Stmt):Arguments:=match s with
 | .FunctionDef _ a _ _ _ _ _ _ _ _=>a
 | _=>{ posonlyargs:=[],args:=[],vararg:=none,kwonlyargs:=[],kw_defaults:=[],kwarg:=none,defaults:=[] }
def CS (s:Stmt):List Stmt:=match s with
 | .FunctionDef _ _ b _ _ _ _ _ _ _=>b
 | _=>[]
def AC (s:Stmt):Scope:=match s with
 | .FunctionDef _ _ _ _ _ _ sc _ _ _=>sc
 | _=>{ kind:=.function,names:=[],isGenerator:=false,isCoroutine:=false }
abbrev CX0:CXT:=λ_ _ _ _ _ _=>False
abbrev E0:XK:=λ_ _ _=>False
theorem nP {X:Cx}:V7 CX0 X E0:=λ_ _ _ _ _ _ _ h=>h.elim
structure Fun (K:Frg) (x qual:Str) (st:Stmt) (f:Addr) (fd:FuncData):Prop where
 ex:∃(oc:Value) (od:Option Addr) (kV doc pm:Value) (an:Option Addr) (cdv ct:Value) (osl:Array (Option Value)),
   fd=a7X x qual (E9 st) (CS st) (AC st) .none kV doc pm an cdv ct/\K.lookup f=some ⟨oc,od,.func fd,osl⟩/\b3Z K cdv qual=true
 kp:b0Q K (.ref f)=true
section
variable {P:Program}{w:World}{K:Frg}{mg:Str->Option Value}{base:Heap}
theorem Fun.ok {x qual:Str}{st:Stmt}{f:Addr}{fd:FuncData}{N ps:List Str}{k:Nat}{sp:Sp}(F:Fun K x qual st f fd) (S:FnScope N ps (AC st)) (len:∀vs H Q E,sp vs H Q E->vs.length=ps.length) (du:∀(cdv:Value) (A:Around) (outer:List Env) (s:Shared) (H:Hp) (vs:List V) (Q:VK) (E:XK),Room k (A.deeper (envOfC qual (AC st) s.heap.objs.size f cdv))->sp vs H Q E ->∃t,PSs (V8 CX0 P w K mg base N qual (AC st) f cdv A outer s H E).nox (CS st) t/\t { nx:=λ_ H'=>Q .non H',rt:=Q } (GY N vs) H):FnOk P w K mg base CX0 (k+1) f fd ps sp:=by obtain⟨oc,od,kV,doc,pm,an,cdv,ct,osl,rfl,lk,gh⟩:=F.ex;refine nI lk gh S len λA outer s H vs Q E hr je=>?_;obtain⟨t,h,q⟩:=du cdv A outer s H vs Q E hr je;exact⟨t,h.nox,q⟩
theorem Fun.binds {x qual:Str}{st:Stmt}{f:Addr}{fd:FuncData}{ps:List Str}(F:Fun K x qual st f fd) (h:∀(kV doc pm:Value) (an:Option Addr) (cdv ct:Value) (us:List Value),us.length=ps.length->bindArgs (a7X x qual (E9 st) (CS st) (AC st) .none kV doc pm an cdv ct) ⟨us,[]⟩=pure (ps.zip us)):Binds K fd ps []:=by obtain⟨oc,od,kV,doc,pm,an,cdv,ct,osl,rfl,lk,gh⟩:=F.ex;exact .all (h kV doc pm an cdv ct)
theorem kR {x qual:Str}{st:Stmt}{f:Addr}{oc:Value}{od an:Option Addr}{osl:Array (Option Value)}{kV doc pm cdv ct:Value}(l:K.lookup f=some ⟨oc,od,.func (a7X x qual (E9 st) (CS st) (AC st) .none kV doc pm an cdv ct),osl⟩) (c:b3Z K cdv qual=true) (k:b0Q K (.ref f)=true):Fun K x qual st f (a7X x qual (E9 st) (CS st) (AC st) .none kV doc pm an cdv ct):=⟨⟨oc,od,kV,doc,pm,an,cdv,ct,osl,rfl,l,c⟩,k⟩
end
section
variable {X:Cx}
theorem pv (i:Nat) {x:Str}{pos:Pos}(hN:X.N[i]?=some x:=by rfl) (hv:Vis X.env.scope x:=by first | exact Or.inl rfl | exact Or.inr (Or.inl rfl) | exact Or.inr (Or.inr rfl)) (hd:(x==("__debug__":Str))=false:=by decide)
   (gh:(x==("__classdict__":Str))=false:=by decide):PE X (.Name x pos) (eG i):=ZT hN hv hd gh
end
theorem fG {A B:Prop}(h:B):if false=true then A else B:=by rw[if_neg nft];exact h
theorem fH {A B:Prop}(h:A):if true=true then A else B:=by rw[if_pos rfl];exact h
end L2
namespace L2
open PySem PySem.Spec PyProof.Rows
def L8 (cells:List (Str×Addr)):List (Str×NameKind)->List (Str×Addr)->List (Str×Addr)
 | [],cs=>cs
 | (n,k)::r,cs=>L8 cells r (if k==.free then (match cells.lookup n with | some c=>(n,c)::cs | none=>cs) else cs)
theorem RA (env:Env):∀(names:List (Str×NameKind)) (cs:List (Str×Addr)),(∀y∈names,y.2 = .free->∃c,env.cells.lookup y.1=some c) ->(forIn (m:=Sem) names cs λx r=>do
     let (name,kind):=x
     if (kind==.free)=true then do let c <- cellOf env name;pure (b0W ((name,c)::r)) else pure (b0W r))=pure (L8 env.cells names cs)
 | [],cs,_=>rfl
 | (n,k)::r,cs,h=>by
   have hr:∀y∈r,y.2 = .free->∃c,env.cells.lookup y.1=some c:=λy hy=>h y (yV _ hy);rw[List.forIn_cons];by_cases hk:(k==a5V)=true;. obtain⟨c,hc⟩:=h (n,k) a1X (by simpa using hk);have fw:env.cells.lookup n=some c:=hc;simp only[hk,if_true,cellOf,fw,L8];exact RA env r _ hr
   . simp only[hk,if_false,L8];exact RA env r _ hr
theorem fI {scope:Scope}{env:Env}(h:∀y∈scope.names,y.2 = .free->∃c,env.cells.lookup y.1=some c):closureFor scope env=pure (L8 env.cells scope.names []):=by
 have e:=RA env scope.names [] h;have e2:closureFor scope env=((forIn (m:=Sem) scope.names ([]:List (Str×Addr)) λx r=>do
     let (name,kind):=x
     if (kind==.free)=true then do let c <- cellOf env name;pure (b0W ((name,c)::r)) else pure (b0W r)) >>= λr=>pure r):=rfl;rw[e2,e];rfl
theorem SU {cells:List (Str×Addr)}:∀{names:List (Str×NameKind)}{cs:List (Str×Addr)},(∀p∈cs,cells.lookup p.1=some p.2)->∀p∈L8 cells names cs,cells.lookup p.1=some p.2
 | [],_,h=>h
 | (n,k)::r,cs,h=>by
   refine SU (names:=r) ?_;split
   . cases e:cells.lookup n with
     | none=>exact h
     | some c=>
       intro p hp;rcases yX.mp hp with rfl | hp;. exact e
       . exact h p hp
   . exact h
theorem PZ {cells:List (Str×Addr)}:∀{names:List (Str×NameKind)}{cs:List (Str×Addr)}{p:Str×Addr},p∈cs->p∈L8 cells names cs
 | [],_,_,h=>h
 | (n,k)::r,cs,p,h=>by
   refine PZ (names:=r) ?_;split
   . cases e:cells.lookup n with
     | none=>exact h
     | some c=>exact yV _ h
   . exact h
theorem SV {cells:List (Str×Addr)}{x:Str}{c:Addr}(hc:cells.lookup x=some c):∀{names:List (Str×NameKind)}{cs:List (Str×Addr)},(x,a5V)∈names->(x,c)∈L8 cells names cs
 | [],_,h=>absurd h (by simp)
 | (n,k)::r,cs,h=>by
   rcases yX.mp h with e | h;. cases e;refine PZ (names:=r) ?_;simp[hc]
   . exact SV hc (names:=r) h
theorem NE {α:Type}:∀{l:List (Str×α)}{x:Str}{c:α},(x,c)∈l->∃c',l.lookup x=some c'
 | [],_,_,h=>absurd h (by simp)
 | (n,k)::r,x,c,h=>by
   rw[a2V];cases e:x==n with
   | true=>exact⟨k,rfl⟩
   | false=>
     rcases yX.mp h with e' | h;. cases e';simp at e
     . exact NE h
theorem BY {cells:List (Str×Addr)}{names:List (Str×NameKind)}{x:Str}{c:Addr}(h:(L8 cells names []).lookup x=some c):cells.lookup x=some c:=
 SU (names:=names) (cs:=[]) (by simp) (x,c) (a3W h)
structure CSc (X:Cx) (scope:Scope) (NC:List Str) (fr:List (Option Nat)):Prop where
 kind:scope.kind = .function
 nocell:∀y∈scope.names,y.2≠.cell
 names:∀y∈scope.names,y.2 = .local->scope.names.lookup y.1=some .local
 free:∀y∈scope.names,y.2 = .free->X.env.kindOf y.1=some .cell\/X.env.kindOf y.1=some .free
 len:fr.length=NC.length
 slot:∀(i j:Nat) (x:Str),NC[i]?=some x->fr[i]?=some (some j)->X.N[j]?=some x/\scope.names.lookup x=some .free/\Vis X.env.scope x/\X.env.kindOf x≠some .local
def capt (fr:List (Option Nat)) (σ:St):St:=fr.map λo=>o.bind λj=>(σ[j]?).join
def AX (X:Cx) (scope:Scope) (NC:List Str) (C:Addr) (s:Shared) (H:Hp) (ex:List Addr) (pn:List (Addr×Obj)):Cx where
 prog:=X.prog
 w:=X.w
 K:=X.K
 mg:=X.mg
 base:=X.base
 A:=X.A
 N:=NC
 s₀:=s
 H₀:=H
 env:=compEnvC scope (L8 X.env.cells scope.names []) C X.env
 outer:=X.stack
 stack:=X.stack
 ex:=ex
 fn:=λ_=>false
 calm:=X.calm
 pn:=pn
 xe:=λ_ _=>False
theorem JB {scope:Scope}{env:Env}{x:Str}:∀{names:List (Str×NameKind)},((names.map λ(n,k)=>if (k==a5V&&env.scope.kind==.function&&env.kindOf n==some .cell) then (n,NameKind.cell) else (n,k)).lookup x=some .cell \/(names.map λ(n,k)=>if (k==a5V&&env.scope.kind==.function&&env.kindOf n==some .cell) then (n,NameKind.cell) else (n,k)).lookup x=some .free) ->(∀y∈names,y.2≠.cell)->(x,a5V)∈names
 | [],h,_=>by simp at h
 | (n,k)::r,h,hn=>by
   have ih:=@JB scope env x r;have az:∀y∈r,y.2≠.cell:=λy hy=>hn y (yV _ hy);have hk:=hn (n,k) a1X;simp only[zI] at h;by_cases hc:(k==a5V&&env.scope.kind==.function&&env.kindOf n==some .cell)=true
   . simp only[hc,if_true,a2V] at h;cases hx:x==n with
     | true=>
       have e:x=n:=by simpa using hx
       have e2:k = .free:=by simp at hc;exact hc.1.1
       subst e e2;exact a1X
     | false=> simp only[hx] at h;exact yV _ (ih h az)
   . simp only[hc,a2V] at h;cases hx:x==n with
     | true=>
       have e:x=n:=by simpa using hx
       subst e;simp[a2V] at h;rcases h with h | h;. exact absurd h hk
       . subst h;exact a1X
     | false=> simp[a2V,hx] at h;exact yV _ (ih (by simpa using h) az)
section
variable {X:Cx}{scope:Scope}{NC:List Str}{fr:List (Option Nat)}{pins:List (Addr×Obj)}{σ:St}{H:Hp}{s:Shared}
theorem CSc.has (S:CSc X scope NC fr) (ok:X.Ok):∀y∈scope.names,y.2 = .free->∃c,X.env.cells.lookup y.1=some c:=λy hy hf=>ok.has y.1 (S.free y hy hf)
theorem CSc.cells (S:CSc X scope NC fr) (ok:X.Ok) {x:Str}(h:(x,a5V)∈scope.names):∃c,(L8 X.env.cells scope.names []).lookup x=some c/\X.env.cells.lookup x=some c:=by obtain⟨c,hc⟩:=S.has ok _ h rfl;have fw:X.env.cells.lookup x=some c:=hc;obtain⟨c',h'⟩:=NE (SV fw h (cs:=[]));have:=BY h';rw[fw] at this;cases this;exact⟨_,h',fw⟩
theorem RB {env:Env}{x:Str}{scope:Scope}(hn:∀y∈scope.names,y.2 = .local->scope.names.lookup y.1=some .local) (h:(x,a5V)∈scope.names) (hl:scope.names.lookup x≠some .free->False):(relabel scope env).names.lookup x=some .cell\/(relabel scope env).names.lookup x=some .free:=by
 have hf:scope.names.lookup x=some .free:=by
   cases e:scope.names.lookup x with
   | none=>exact(hl (by rw[e];intro z;cases z)).elim
   | some k=>
     cases k <;> first
       | rfl
       | exact(hl (by rw[e];intro z;cases z)).elim
 have go:∀(names:List (Str×NameKind)),names.lookup x=some .free ->((names.map λ(n,k)=>if (k==a5V&&env.scope.kind==.function&&env.kindOf n==some .cell) then (n,NameKind.cell) else (n,k)).lookup x=some .cell \/(names.map λ(n,k)=>if (k==a5V&&env.scope.kind==.function&&env.kindOf n==some .cell) then (n,NameKind.cell) else (n,k)).lookup x=some .free):=by
   intro names;induction names with
   | nil=>intro h;simp at h
   | cons y r ih=>
     obtain⟨n,k⟩:=y;intro h;rw[a2V] at h;simp only[zI];cases hx:x==n with
     | true=>
       simp only[hx] at h;cases h;split;. left;simp[a2V,hx]
       . right;simp[a2V,hx]
     | false=>
       simp only[hx] at h;have:=ih h;split;. simpa [a2V,hx] using this
       . simpa [a2V,hx] using this
 exact go scope.names hf
end
end L2
namespace L2
open PySem PySem.Spec PyProof.Rows
theorem B1 {α:Type}{t:Sem α}{Q:α->Shared->Prop}{M:Model}{A:Around}{E:Value->Shared->Prop}{s:Shared}(h:wpAny M A t Q (λ_ _=>False) s):wpAny M A t Q E s:=
 wpAny_mono h (λ_ _ q=>q) λ_ _ f=>f.elim
def NF (ifs:List Expr) (env:Env):Sem Bool:=forIn ifs true λc r=>if r=true then do let ok <- isTrue c env (eval c env);pure (b0W ok) else pure (b0W r)
def VC (prog:Program) (w:World) (A:Around) (cE target:Expr) (ifs:List Expr) (tl:Env->Addr->(Shared->Prop)->Shared->Prop):Prop:=∀(it D:Addr) (env:Env) (R:Result->Shared->Prop) (I:Nat->Shared->Prop),(∀n s,I n s->wpAny (model prog w) A (pyNext (.ref it)) (λr s₁=>match r with
     | none=>R (.ok .next) s₁
     | some v=>wpAny (model prog w) A (letOwnedTupleGo target (.ref it) v) (λ_ s₀=>wpAny (model prog w) A (assign target env v) (λ_ s₂=>
         wpAny (model prog w) A (NF ifs env) (λok s₃=>if ok=true then tl env D (λs'=>∃m,m < n/\I m s') s₃ else ∃m,m < n/\I m s₃) (λ_ _=>False) s₂) (λ_ _=>False) s₀) (λ_ _=>False) s₁) (λ_ _=>False) s) ->
   ∀n s,I n s->codeAny (model prog w) A (.compLoop cE 0 (.ref it) (.ref D) env) R s
def tlL (prog:Program) (w:World) (A:Around) (elt:Expr):Env->Addr->(Shared->Prop)->Shared->Prop:=λenv D P s=>wpAny (model prog w) A (eval elt env) (λx s₄=>wpAny (model prog w) A (call (.builtin "list.append") [.ref D,x]) (λ_ s₅=>P s₅) (λ_ _=>False) s₄) (λ_ _=>False) s
theorem fJ {prog:Program}{w:World}{A:Around}{elt target iter:Expr}{ifs:List Expr}{scope:Scope}{pos:Pos}:VC prog w A (.ListComp elt [⟨target,iter,ifs,0⟩] scope pos) target ifs (tlL prog w A elt):=by
 intro it D env R I turn n s h;refine codeAny_loop rfl I (λn s hI=>?_) n h;show wpAny _ A ((compTurn (.ListComp elt [⟨target,iter,ifs,0⟩] scope pos) 0 (.ref it) (.ref D) env).onRaise (λx=>do noteFrame x env;theTreesLotGoes x)) _ _ s;refine wpAny_noted ?_;rw[compTurn_list];refine zZ (wpAny_standAt (zZ (wpAny_mono (B1 (turn n s hI)) (λr s₁ h₁=>?_) λ_ _ h'=>h')));cases r with
 | none=>exact zY h₁
 | some v=>
   refine zZ (wpAny_mono (B1 h₁) (λ_ s₀ h₀=>?_) λ_ _ h'=>h');refine zZ (wpAny_mono (B1 h₀) (λ_ s₂ h₂=>zZ (wpAny_mono (B1 h₂) (λok s₃ h₃=>?_) λ_ _ h'=>h')) λ_ _ h'=>h');cases ok with
   | false=>exact zY ⟨rfl,h₃⟩
   | true=> exact zZ (zZ (wpAny_mono (B1 h₃) (λx s₄ h₄=>zZ (wpAny_mono (B1 h₄) (λ_ s₅ h₅=>zY (zY ⟨rfl,h₅⟩)) λ_ _ h'=>h')) λ_ _ h'=>h'))
def PTs (X:Cx) (ifs:List Expr) (t:TT):Prop:=∀(pins:List (Addr×Obj)) (s:Shared) (σ:St) (H:Hp) (Q:Bool->Hp->Prop),Inv X pins σ H s->t σ H Q->wpAny (model X.prog X.w) X.A (NF ifs X.env) (TP X pins σ Q) X.xe s
def nQ:TT:=λ_ H Q=>Q true H
theorem fK {X:Cx}:PTs X [] nQ:=λ_ _ _ H _ I h=>wpAny_tests_nil ⟨H,I,h⟩
theorem fL {X:Cx}{c:Expr}{t:TT}(h:PT X c t):PTs X [c] t:=λpins s σ H Q I q=>wpAny_tests_one (h pins s σ H Q I q)
def Q0 (fr:List (Option Nat)) (wi:TI) (g:TG) (tt:TT) (te:TE):TE:=λσ H Q=>wi σ H λJ H1=>∀D,H1 D=none->∃W:Nat->Nat->List V->Hp->Prop,(∃m,W 0 m [] (upd H1 D (.lst []))) /\∀i m ys H2,W i m ys H2->H2 D=some (.lst ys)/\((J.stop i H2/\Q (.ref D) H2)\/(J.go i H2/\∀x H3,J.yld i H2 x H3->g x (capt fr σ) H3 λσ2 H4=>
   (∀(i:Nat) v,(capt fr σ)[i]?=some (some v)->σ2[i]?=some (some v))/\tt σ2 H4 λc H5=>if c=true then te σ2 H5 λy H6=>∃bp,H6 D=some (.lst bp)/\bp.length < sizeLine/\∃m',m' < m/\W (i+1) m' (bp++[y]) (upd H6 D (.lst (bp++[y])))
     else ∃bp m',m' < m/\W (i+1) m' bp H5))
section
variable {X:Cx}{scope:Scope}{NC:List Str}{fr:List (Option Nat)}{pins:List (Addr×Obj)}{σ:St}{H:Hp}{s:Shared}
theorem VD {fp:List Addr}{h1:Heap}{m:Str->Option Value}{tk:Nat}(S:CSc X scope NC fr) (I:Inv X pins σ H s) (kh:∀b∈fp,OY X pins H b) (bb:∀b∈fp,b < s.heap.objs.size) (lm:h1.Ns s.heap.objs.size m) (hk:∀b o,s.heap.get? b=some o->h1.get? b=some o) :
   Inv (AX X scope NC s.heap.objs.size s H fp (X.pn++pins)) [] (capt fr σ) H { s with heap:=h1,toks:=tk }:=by
 have I4:Inv X pins σ H { s with heap:=h1,toks:=tk }:=I.kept hk;have lq:∀b,b≠X.env.locals->b∉X.fs->b∉frs X.stack:=λb h1 h2 z=>(yX.mp (I.stkSub b z)).elim h1 h2;refine⟨⟨I.ok.mod,S.kind,I.ok.glob,I.ok.blt,zR _,λx y c h1 h2=>I.ok.inj x y c (BY h1) (BY h2),λx hx=>?_,λx c h=>absurd h (by intro z;cases z),I.ok.hd,I.ok.frames,.inl rfl,λb hb=>?_,I.bs,zN I.ok.bsz I.sz,λb o e hb=>?_,λb hb=>?_,I.stack,I.stkFree⟩,
   rfl,I.bare,Un.kept hk,⟨m,lm,λi x v e1 e2 e3=>?_⟩,λx c e=>I4.cell x c (BY e),I.hok.fresh (zR _),λx c e=>I4.freeC x c (BY e),λp hp=>?_,I4.hok,?_⟩
 . have qv:=JB (scope:=scope) (env:=X.env) (x:=x) (names:=scope.names) hx S.nocell;obtain⟨c,h,_⟩:=S.cells I.ok qv;exact⟨c,h⟩
 . exact⟨zC (bb b hb),λx c e=>(kh b hb).2.2.2.2.1 x c (BY e)⟩
 . rcases (kh b hb).2.2.2.1 with z | z;. exact I.ok.noex b o e z
   . exact absurd (zP (zM e) (zN I.ok.bsz z)) (yF _)
 . exact lq b (kh b hb).2.1 (kh b hb).2.2.1
 . have ul:∃j,fr[i]?=some (some j)/\σ[j]?=some (some v):=by
     unfold capt at e2;rw[zF] at e2;cases hf:fr[i]? with
     | none=>rw[hf] at e2;cases e2
     | some o=>
       rw[hf] at e2;cases o with
       | none=>cases e2
       | some j=>
         refine⟨j,rfl,?_⟩;have e2:((σ[j]?).join)=some v:=Option.some.inj e2;cases hs:σ[j]? with
         | none=>rw[hs] at e2;cases e2
         | some q=>rw[hs] at e2;cases q with
           | none=>cases e2
           | some v'=>cases e2;rfl
   obtain⟨j,f1,f2⟩:=ul;obtain⟨g1,g2,g3,g4⟩:=S.slot i j x e1 f1;obtain⟨m',az,qq⟩:=I4.loc;obtain⟨u,r,l⟩:=qq j x v g1 f2 g3;rcases l with ⟨k,_⟩ | ⟨k,c,hc,df⟩
   . exact absurd k g4
   . obtain⟨c',q1,q2⟩:=S.cells I.ok (a3W g2);rw[hc] at q2;cases q2;exact⟨u,r,.inr ⟨RB S.names (a3W g2) (λz=>z g2),c,q1,df⟩⟩
 . have jf:p∈X.pn++pins:=by rw[a2K] at hp;exact hp
   obtain⟨p1,p2,p3,p4,p5⟩:=I4.pin p jf;exact⟨p1,p2,zC (zM (I.pin p jf).1),lq _ p3 p4,p5⟩
 . unfold capt;rw[zX];exact S.len
def nR (fr:List (Option Nat)) (wi:TI) (g:TG) (tt:TT) {Y:Type}(y0:Y) (at_:Y->HO) (el:Addr->Nat->(Nat->Y->Hp->Prop)->St->Hp->Prop):TE:=λσ H Q=>wi σ H λJ H1=>∀D,H1 D=none->∃W:Nat->Nat->Y->Hp->Prop,(∃m,W 0 m y0 (upd H1 D (at_ y0))) /\∀i m ys H2,W i m ys H2->H2 D=some (at_ ys)/\((J.stop i H2/\Q (.ref D) H2)\/(J.go i H2/\∀x H3,J.yld i H2 x H3->g x (capt fr σ) H3 λσ2 H4=>
   (∀(i:Nat) v,(capt fr σ)[i]?=some (some v)->σ2[i]?=some (some v))/\tt σ2 H4 λc H5=>if c=true then el D m (W (i+1)) σ2 H5 else ∃bp m',m' < m/\W (i+1) m' bp H5))
def kS (X:Cx) (pins:List (Addr×Obj)) (σ:St) (use:Option (Value->Sem Unit)) (Q:VK) (QQ:Value->Shared->Prop):Prop:=∀(D C:Addr) (H':Hp) (s':Shared) (m:Str->Option Value) (oC:Obj),Inv X (pins++[(C,oC)]) σ H' s'->s'.heap.Ns C m->Q (.ref D) H' ->(∀(gg:List (Addr×Obj)) (σ2:St) (H2:Hp) (s2:Shared) (h2:Heap),Inv X (pins++[(C,oC)]) σ2 H2 s2->Heap.SameBut C s2.heap h2->Inv X pins σ2 H2 { s2 with heap:=h2 }) ->
     s'.heap.get? C=some oC ->
     match use with
     | none=>∀h',Heap.SameBut C s'.heap h'->QQ (.ref D) { s' with heap:=h' }
     | some u=>wpAny (model X.prog X.w) X.A (u (.ref D)) (λ_ ii=>∃m,ii.heap.Ns C m/\∀h',Heap.SameBut C ii.heap h'->QQ .none { ii with heap:=h' }) X.xe s'
theorem Q1 {cE iter tg:Expr}{ifs:List Expr}{aj:Pos}{wi:TI}{g:TG}{tt:TT}{Y:Type}{y0:Y}{at_:Y->HO}{Ty:String}{dt:Data}{mk:Sem Value}{tl:Env->Addr->(Shared->Prop)->Shared->Prop}{el:Addr->Nat->(Nat->Y->Hp->Prop)->St->Hp->Prop}{use:Option (Value->Sem Unit)}{Q:VK}{QQ:Value->Shared->Prop} {gs:List Comprehension}(um:clausesOf cE=⟨tg,iter,ifs,0⟩::gs) (ki:mk=newObj (.type Ty) dt none) (hsz:sizeOk dt) (uo:∀(H:Hp) (h:Heap),sysModules < h.objs.size->ObjOk X.prog X.w H (h.push { cls:=.type Ty,dict:=none,data:=dt }) h.objs.size (at_ y0)) (jx:VC X.prog X.w X.A cE tg ifs tl) (di:∀{it acc:Value}{env:Env}{R:Result->Shared->Prop}{s:Shared},codeAny (model X.prog X.w) X.A (.compLoop cE 0 it acc env) R s->wpAny (model X.prog X.w) X.A (pyIter it) (λuq s'=>codeAny (model X.prog X.w) X.A (.compLoop cE 0 uq acc env) R s') (notedBy (model X.prog X.w) X.A env λx s'=>R (.error x) s') s->codeAny (model X.prog X.w) X.A (.compStart cE 0 it acc env) R s) (hc:X.calm=true) (S:CSc X scope NC fr) (hi:PI X tg iter wi) (hb:∀(C:Addr) (s:Shared) (H:Hp) (ex:List Addr) (pn:List (Addr×Obj)),PG (AX X scope NC C s H ex pn) tg g/\PTs (AX X scope NC C s H ex pn) ifs tt/\∀(jg:List (Addr×Obj)) (s':Shared) (σ:St) (H':Hp) (D:Addr) (n:Nat) (W:Nat->Y->Hp->Prop) (P:Shared->Prop),Inv (AX X scope NC C s H ex pn) jg σ H' s'->el D n W σ H'->(∀m y H2 s2,m < n->W m y H2->Inv (AX X scope NC C s H ex pn) jg σ H2 s2->P s2)->tl (AX X scope NC C s H ex pn).env D P s') (I:Inv X pins σ H s) (h:nR fr wi g tt y0 at_ el σ H Q) (fin:kS X pins σ use Q QQ) (hs:∀x,foldedSetIterable iter X.env x=pure x) :
   wpAny (model X.prog X.w) X.A (comprehension cE scope X.env aj mk false (eval iter X.env) use) QQ X.xe s:=by
 refine wpAny_comprehension_free (use:=use) um hs (fI (S.has I.ok)) S.kind S.names (thn (hi pins s σ H _ I h) λv s1 h1=>thn h1 λqw s2 h2=>?_);obtain⟨it,fp,tn,J,H2,e,I2,T,dr,f2,hq⟩:=h2;subst e;have ur:H2 s2.heap.objs.size=none:=I2.hok.fresh (zR _);obtain⟨W,⟨m0,w0⟩,turn⟩:=hq s2.heap.objs.size ur;rw[ki];refine xM (hd:=hsz) (wpAny_newFunctionEnv S.nocell (by intro y hy;simp at hy) (λh₁ ip iq=>?_) S.kind);dsimp only at ip iq ⊢;generalize hs3:({ s2 with heap:=s2.heap.push { cls:=.type Ty,dict:=none,data:=dt } }:Shared)=s3;have pw:s2.heap.push { cls:=.type Ty,dict:=none,data:=dt }=s3.heap:=by rw[<-hs3]
 have I3:Inv X pins σ (upd H2 s2.heap.objs.size (at_ y0)) s3:=by rw[<-hs3];refine I2.laid (t':=s2.toks) (λb u e=>zW _ e) (zR _) ?_;exact uo _ _ I2.big
 rw[pw] at ip iq ⊢;have uu:s3.heap.objs.size=s2.heap.objs.size+1:=by rw[<-pw,b4J]
 have rY:∀b∈fp,b < s2.heap.objs.size:=λb hb=>by obtain⟨o,e,_⟩:=T.obj _ _ dr b hb;exact zM e
 have rZ:∀b∈fp,b < s3.heap.objs.size:=λb hb=>by rw[uu];exact b2Q (rY b hb)
 have f3:∀b∈fp,OY X pins (upd H2 s2.heap.objs.size (at_ y0)) b:=λb hb=>⟨by rw[AS (zC (rY b hb))];exact(f2 b hb).1,(f2 b hb).2⟩
 have gk:∀b o,s3.heap.get? b=some o->h₁.get? b=some o:=λb o e=>iq.extBut b o (zC (zM e)) (zW _ e);generalize hC:s3.heap.objs.size=C at ip iq ⊢;have I0:Inv (AX X scope NC C s3 (upd H2 s2.heap.objs.size (at_ y0)) fp (X.pn++pins)) [] (capt fr σ) (upd H2 s2.heap.objs.size (at_ y0)) { s2 with heap:=h₁,toks:=s2.toks+([]:List (Str×Value)).length }:=by have:=VD (tk:=s2.toks+([]:List (Str×Value)).length) (h1:=h₁) S I3 f3 rZ (hC▸ip) gk;rw[hC] at this;rw[<-hs3] at this;rw[<-hs3];exact this
 obtain⟨sd,se,sf⟩:=hb C s3 (upd H2 s2.heap.objs.size (at_ y0)) fp (X.pn++pins);generalize hX':AX X scope NC C s3 (upd H2 s2.heap.objs.size (at_ y0)) fp (X.pn++pins)=X' at I0 sd se sf;have eP:X'.prog=X.prog:=by rw[<-hX'];rfl
 have eW:X'.w=X.w:=by rw[<-hX'];rfl
 have eK:X'.K=X.K:=by rw[<-hX'];rfl
 have eA:X'.A=X.A:=by rw[<-hX'];rfl
 have eE:X'.env=compEnvC scope (L8 X.env.cells scope.names []) C X.env:=by rw[<-hX'];rfl
 have eX:X'.xe=λ_ _=>False:=by rw[<-hX'];rfl
 have ec:X'.calm=true:=by rw[<-hX'];exact hc
 have stat:∀{H':Hp},(∀b∈fp,H' b=none)->∀b∈fp,OY X' [] H' b:=λ{H'} hn b hb=>by obtain⟨q1,q2,q3,q4,q5,q6⟩:=f3 b hb;rw[<-hX'];exact⟨hn b hb,by show b≠C;rw[<-hC];exact zC (rZ b hb),λz=>(yX.mp (I3.stkSub b z)).elim q2 q3,.inl hb,λx c e=>q5 x c (BY e),λp hp=>q6 p (by rw[a2K] at hp;exact hp)⟩
 have ends:∀(i m:Nat) (ys:Y) (H':Hp) (s':Shared),Inv X' [] (capt fr σ) H' s'->Q (.ref s2.heap.objs.size) H' ->
     compPost (model X.prog X.w) X.A X.xe use QQ (.ref s2.heap.objs.size) C (.ok .next) s':=by
   intro i m ys H' s' I' q';have eC:X'.env.locals=C:=by rw[eE];rfl
   obtain⟨mC,p_,_⟩:=I'.loc;rw[eC] at p_;have uv:H' C=none:=by have:=I'.free;rw[eC] at this;exact this
   have un:Un (frs X.stack) fp (upd H2 s2.heap.objs.size (at_ y0)) H' s3.heap s'.heap:=by have:=I'.base;rw[<-hX'] at this;exact this
   have qx:s'.os=s3.os:=by have:=I'.os;rw[<-hX'] at this;exact this
   have jw:HOk X.prog X.w H' s'.heap:=by have:=I'.hok;rw[eP,eW] at this;exact this
   have lr:Inv X pins σ H' s':=I3.call' (ch:=fp) qx un jw I'.bare λb hb=>⟨(f3 b hb).2.2.2.1,(f3 b hb).2.1,(f3 b hb).2.2.2.2.1,(f3 b hb).2.2.2.2.2⟩
   have C1:C≠X.env.locals:=by rw[<-hC];exact a6K I3.lt
   have C2:C∉X.fs:=by rw[<-hC];exact I3.nofs (zR _)
   have C3:X.s₀.heap.objs.size<=C:=by rw[<-hC];exact I3.sz
   have C4:∀x c,X.env.cells.lookup x=some c->c≠C:=λx c e z=>by obtain⟨v,q⟩:=I3.cell x c e;rw[z,<-hC] at q;exact absurd q.lt (yF _)
   have C5:∀p∈X.pn++pins,p.1≠C:=λp hp z=>by have:=zM (I3.pin p hp).1;rw[z,<-hC] at this;exact absurd this (yF _)
   obtain⟨oC,v7,v8,kj,uw,v9⟩:=id p_;have qD:Inv X (pins++[(C,oC)]) σ H' s':=lr.pins_of λp hp=>(yW.mp hp).elim (λz=>lr.pin p (zB _ z)) λz=>by
     have e:p=(C,oC):=by simpa using z
     subst e;exact⟨kj,uv,C1,C2,λv z=>by rw[uw] at z;cases z⟩
   have res:=fin s2.heap.objs.size C H' s' mC oC qD p_ q' (λ_ σ2 H3 s4 h4 I4 sb=>by have J4:Inv X pins σ2 H3 s4:=I4.unpinned;have ux:H3 C=none:=(I4.pin (C,oC) (zB _ (zB _ (by simp)))).2.1;exact J4.turned (t':=s4.toks) (it:=C) (λb o hb e=>sb.extBut b o hb e) ux C1 (.inr C3) C4 C5) kj;cases use with
   | none=>exact⟨mC,p_,res⟩
   | some u=>exact res
 have loop:∀s':Shared,s'={ s2 with heap:=h₁,toks:=s2.toks+([]:List (Str×Value)).length } ->
     codeAny (model X.prog X.w) X.A (.compLoop cE 0 (.ref it) (.ref s2.heap.objs.size) (compEnvC scope (L8 X.env.cells scope.names []) C X.env)) (compPost (model X.prog X.w) X.A X.xe use QQ (.ref s2.heap.objs.size) C) s':=by
   rintro s' rfl;refine jx _ _ _ _ (λn s'=>∃i ys H',Inv X' [] (capt fr σ) H' s'/\tn i s'.heap/\(∀b∈fp,H' b=none)/\W i n ys H') ?_ m0 _ ⟨0,y0,_,I0,T.keep _ _ _ dr (λb hb o e=>gk b o (by rw[<-pw];exact zW _ e)),λb hb=>(f3 b hb).1,w0⟩;rintro n s5 ⟨i,ys,H5,I5,fq,pf,w5⟩;obtain⟨vA,lu⟩:=turn i n ys H5 w5;rcases lu with ⟨stop,qn⟩ | ⟨go,step⟩
   . have:=T.done X' eP eW eK ec i [] s5 (capt fr σ) H5 (λ_ _=>False) I5 (stat pf) fq stop;rw[eA] at this;refine thn this λr s6 ⟨hr,I6⟩=>?_;subst hr;exact ends i n ys H5 s6 I6 qn
   . have:=T.item X' eP eW eK ec i [] s5 (capt fr σ) H5 (λ_ _=>False) I5 (stat pf) fq go;rw[eA] at this;refine thn this λr s6 ⟨u,hr,h6⟩=>?_;subst hr;refine thn h6 λ_ s7 ⟨x,H7,I7,r7,y7,ly,uy⟩=>?_;have uz:=I7.pinned (stat uy) (T.obj _ _ ly);have sg:=sd _ s7 (capt fr σ) H7 x u _ uz r7 (step x H7 y7);rw[eP,eW,eA,eE,eX] at sg;refine thn sg λ_ s8 ⟨σ8,H8,I8,qE,q8⟩=>?_;have sj:=se _ s8 σ8 H8 _ I8 q8;rw[eP,eW,eA,eE,eX] at sj;refine thn sj λok s9 ⟨H9,I9,q9⟩=>?_;have weak:∀{H':Hp}{s':Shared},Inv X' ([]++N4 fp s7.heap) σ8 H' s'->Inv X' [] (capt fr σ) H' s'/\tn (i+1) s'.heap/\∀b∈fp,H' b=none:=λ{H' s'} I'=>by refine⟨I'.unpinned.weak (by rw[I'.len];rw[I0.len]) qE,T.keep _ _ _ ly λb hb o e=>(I'.pin (b,o) (zB _ (zB _ (GJ hb e)))).1,λb hb=>?_⟩;obtain⟨o,e,d⟩:=T.obj _ _ ly b hb;exact(I'.pin (b,o) (zB _ (zB _ (GJ hb e)))).2.1
     cases ok with
     | false=> rw[if_neg nft] at q9;obtain⟨bp,m',ir,w'⟩:=q9;obtain⟨a1,a2,a3⟩:=weak I9;exact⟨m',ir,i+1,bp,H9,a1,a2,a3,w'⟩
     | true=>
       rw[if_pos rfl] at q9;have pY:=sf _ s9 σ8 H9 _ n (W (i+1)) (λs'=>∃qF,qF < n/\∃i ys H',Inv X' [] (capt fr σ) H' s'/\tn i s'.heap/\(∀b∈fp,H' b=none)/\W i qF ys H') I9 q9 λm y H2 s2 hm w' I'=>by obtain⟨a1,a2,a3⟩:=weak I';exact⟨m,hm,i+1,y,H2,a1,a2,a3,w'⟩
       rw[eE] at pY;exact pY
 refine di (loop _ rfl) (T.self _ 0 _ _ _ ?_ (loop _ rfl));exact T.keep _ _ _ dr (λb hb o e=>gk b o (by rw[<-pw];exact zW _ e))
theorem SW {elt iter tg:Expr}{ifs:List Expr}{pos aj:Pos}{wi:TI}{g:TG}{tt:TT}{te:TE}{use:Option (Value->Sem Unit)}{Q:VK}{QQ:Value->Shared->Prop}(hc:X.calm=true) (S:CSc X scope NC fr) (hi:PI X tg iter wi) (hb:∀(C:Addr) (s:Shared) (H:Hp) (ex:List Addr) (pn:List (Addr×Obj)),PG (AX X scope NC C s H ex pn) tg g/\PTs (AX X scope NC C s H ex pn) ifs tt/\PE (AX X scope NC C s H ex pn) elt te) (I:Inv X pins σ H s) (h:Q0 fr wi g tt te σ H Q) (fin:kS X pins σ use Q QQ) (hs:∀x,foldedSetIterable iter X.env x=pure x) :
   wpAny (model X.prog X.w) X.A (comprehension (.ListComp elt [⟨tg,iter,ifs,0⟩] scope pos) scope X.env aj (newList []) false (eval iter X.env) use) QQ X.xe s:=by refine Q1 (y0:=[]) (at_:=.lst) (Ty:= "list") (dt:=.seq #[]) (tl:=tlL X.prog X.w X.A elt) (el:=λD m W σ2 H5=>te σ2 H5 λy H6=>∃bp,H6 D=some (.lst bp)/\bp.length < sizeLine/\∃m',m' < m/\W m' (bp++[y]) (upd H6 D (.lst (bp++[y])))) rfl rfl (by size_fits) (λH h _=>⟨xT _,[],0,.nil,yZ _ rfl⟩) fJ codeAny_compStart_list hc S hi (λC s H ex pn=>⟨(hb C s H ex pn).1,(hb C s H ex pn).2.1,λjg s' σ H' D n W P I q k=>?_⟩) I h fin hs;refine thn ((hb C s H ex pn).2.2 _ s' σ H' _ I q) λy qG ⟨yv,qH,qI,qJ,bp,hD,hsz,m',ir,w'⟩=>?_;exact thn (PR _ qG σ qH (.ref D) [yv] (.ref D) [y] (λ_ H'=>∃m',m' < n/\W m' (bp++[yv]) H') qI rfl (.cons qJ .nil) ⟨_,bp,yv,rfl,rfl,hD,hsz,m',ir,w'⟩) λ_ u_ ⟨_,u0,qK,_,qF,qL,u4⟩=>k _ _ _ _ qL u4 qK
end
end L2
namespace L2
open PySem PySem.Spec PyProof.Rows
section
variable {X:Cx}{scope:Scope}{NC:List Str}{fr:List (Option Nat)}{elt iter tg:Expr}{ifs:List Expr}{pos:Pos}{wi:TI}{g:TG}{tt:TT}{te:TE}
theorem fM (hc:X.calm=true) (S:CSc X scope NC fr) (hi:PI X tg iter wi) (hb:∀(C:Addr) (s:Shared) (H:Hp) (ex:List Addr) (pn:List (Addr×Obj)),PG (AX X scope NC C s H ex pn) tg g/\PTs (AX X scope NC C s H ex pn) ifs tt/\PE (AX X scope NC C s H ex pn) elt te) (hs:∀x,foldedSetIterable iter X.env x=pure x:=by intro _;rfl):PE X (.ListComp elt [⟨tg,iter,ifs,0⟩] scope pos) (Q0 fr wi g tt te):=by intro pins s σ H Q I h;rw[eval_ListComp];refine SW (use:=none) (Q:=Q) hc S hi hb I h (λD C H' s' m oC I' hn q back _ h' sb=>?_) hs;exact⟨.ref D,H',back pins σ H' s' h' I' sb,rfl,q⟩
theorem fQ {i:Nat}{x:Str}{py gm:Pos}(hc:X.calm=true) (hN:X.N.Nodup) (qM:X.N[i]?=some x) (hx:Loc X.env.scope x) (S:CSc X scope NC fr) (hi:PI X tg iter wi) (hb:∀(C:Addr) (s:Shared) (H:Hp) (ex:List Addr) (pn:List (Addr×Obj)),PG (AX X scope NC C s H ex pn) tg g/\PTs (AX X scope NC C s H ex pn) ifs tt/\PE (AX X scope NC C s H ex pn) elt te) (qN:swapsWith (.ListComp elt [⟨tg,iter,ifs,0⟩] scope pos) (some (.Name x py)) gm.line X.env=pure true) (hf:X.fn x=true\/X.env.scope.names.lookup x=some .local:=by first | exact .inl rfl | exact .inr rfl | assumption)
   (hs:∀x,foldedSetIterable iter X.env x=pure x:=by intro _;rfl) :
   PS X (.Assign [.Name x py] (.ListComp elt [⟨tg,iter,ifs,0⟩] scope pos) gm) (λD σ H=>Q0 fr wi g tt te σ H λv H'=>D.nx (σ.set i (some v)) H'):=by intro pins s σ H D I h;rw[exec_Assign_Name_used _ _ _ _ qN];refine zZ (wpAny_standAt (zZ ?_));show wpAny _ X.A (do let _ <- comprehension (.ListComp elt [⟨tg,iter,ifs,0⟩] scope pos) scope X.env _ (newList []) false (eval iter X.env) (some (assign (.Name x py) X.env))) _ _ s;refine zZ (thn (SW (use:=some (assign (.Name x py) X.env)) (Q:=λv H'=>D.nx (σ.set i (some v)) H') (QQ:=λ_ s'=>∃σ' H',Inv X pins σ' H' s'/\D.nx σ' H') hc S hi hb I h (λA C H' s' m oC I' hn q back kj=>?_) hs) λ_ s' hq=>zY (zY hq));have di:=QW (X:=X) (pos:=py) hN qM hx hf (pins++[(C,oC)]) s' σ H' (.ref A) (.ref A) (λσ' H'=>D.nx σ' H') I' rfl q;refine thn di λ_ s2 ⟨σ2,H2,I2,q2⟩=>?_;have qO:s2.heap.get? C=some oC:=(I2.pin (C,oC) (zB _ (zB _ (by simp)))).1;obtain⟨o',es,ep,cu,jr,lz⟩:=hn;rw[kj] at cu;cases cu;exact⟨m,⟨_,es,ep,qO,jr,lz⟩,λh' sb=>⟨σ2,H2,back pins σ2 H2 s2 h' I2 sb,q2⟩⟩
end
def Its (x:Str):It:=⟨λi _=>i < x.cps.size,λi H v H'=>H'=H/\∃c,x.cps[i]?=some c/\v = .str ⟨#[c]⟩,λi _=>i=x.cps.size⟩
theorem SX {P:Program}{w:World}{K:Frg}{tg:Expr}(it:Addr) (ty:String) (x:Str) (t:Tok) (lj:["enumerate", "zip", "dict_itemiterator", "dict_reverseitemiterator", "odict_iterator", "itertools.zip_longest", "itertools.pairwise"].contains ty=false) (W:∀A:Around,A.handled=none->Walks P w A it [it] [it] x.cps.size (SignAt x) (λi h=>h.IsStrIter it ty x t i)) (l_:∀(A:Around) (i:Nat) (s:Shared) (Q:Value->Shared->Prop) (E:Value->Shared->Prop),s.heap.IsStrIter it ty x t i->Q (.ref it) s->wpAny (model P w) A (pyIter (.ref it)) Q E s) :
   Turn P w K tg (Its x) [it] it (λi h=>h.IsStrIter it ty x t i) where
 mem:=by simp
 obj:=λi h st b hb=>by
   have e:b=it:=by simpa using hb
   subst e;obtain⟨o,e,c,d⟩:=st;exact⟨o,e,λv z=>by rw[d] at z;cases z⟩
 keep:=λi h h' st k=>by obtain⟨o,e,r⟩:=st;exact⟨o,k it (by simp) o e,r⟩
 item:=by intro X hP hw hK hc i pins s σ H E I hf st hg;subst hP hw hK;obtain⟨f0,f1,f2,f3,f4,f5⟩:=hf it (by simp);refine(W X.A (I.ok.hd hc)).item i s _ _ hg st λv h' tk hv ci kk=>?_;obtain⟨c,u,qP,rfl⟩:=hv;have I1:Inv X pins σ H { s with heap:=h',toks:=tk }:=I.turned (λb o hb e=>kk b o (by simpa using hb) e) f0 f1 f3 f4 f5;obtain⟨o,e,c',d⟩:=id ci;exact⟨_,rfl,WO (s:={ s with heap:=h',toks:=tk }) e c' d lj ⟨.str ⟨#[c]⟩,H,I1,⟨u,rfl⟩,⟨rfl,c,qP,rfl⟩,ci,λb hb=>(hf b hb).1⟩⟩
 done:=by intro X hP hw hK hc i pins s σ H E I hf st hg;subst hP hw hK;obtain⟨f0,f1,f2,f3,f4,f5⟩:=hf it (by simp);have hi:i=x.cps.size:=hg;subst hi;refine(W X.A (I.ok.hd hc)).done s _ _ st λh' tk kk=>⟨rfl,I.turned (λb o hb e=>kk b o (by simpa using hb) e) f0 f1 f3 f4 f5⟩
 self:=l_
theorem RC (bs:List Bool):(a0Z bs.length).all (λi=>(bs[i]?).getD false)=bs.all id:=by
 rw[a2Q,b0K,b0K];constructor;. intro h b hb;obtain⟨i,hi,rfl⟩:=List.mem_iff_getElem.mp hb;have:=h i (by simpa using hi);simpa [hi] using this
 . intro h i hi;have hi:i < bs.length:=by simpa using hi
   have:=h bs[i] (a0K hi);simpa [hi] using this
theorem RD (bs:List Bool):(a0Z bs.length).any (λi=>(bs[i]?).getD false)=bs.any id:=by
 rw[a2Q,a7W,a7W];constructor
 . rintro⟨i,hi,h⟩;have hi:i < bs.length:=by simpa using hi
   exact⟨bs[i],a0K hi,by simpa [hi] using h⟩
 . rintro⟨b,hb,h⟩;obtain⟨i,hi,rfl⟩:=List.mem_iff_getElem.mp hb;exact⟨i,by simpa using hi,by simpa [hi] using h⟩
section
variable {X:Cx}
theorem WV {bs:List Bool}{aa:List Value}(r:Vals (bs.map V.bl) aa) {i:Nat}{v:Value}(h:aa.toArray[i]?=some v):v = .bool ((bs[i]?).getD false):=by
 have h':aa[i]?=some v:=by simpa using h
 have hl:i < aa.length:=(yT.mp h').1;have e:=r.length;rw[zX] at e;have hb:(bs.map V.bl)[i]?=some (V.bl bs[i]):=by rw[zF];simp[show i < bs.length by omega]
 obtain⟨u,hu,ru⟩:=r.get hb;rw[h'] at hu;cases hu;simp[show i < bs.length by omega];exact ru
def pH (X:Cx):List V->Hp->VK->Prop:=λxs H Q=>∃(p:Addr) (bs:List Bool),xs=[.ref p]/\SqL X.K H p (bs.map V.bl)/\Q (.bl (bs.all id)) H
theorem aF (hc:X.calm=true):BO X (.builtin "all") (pH X):=by
 intro pins s σ H xs us Q I r h;obtain⟨p,bs,rfl,hp,q⟩:=h;obtain⟨u,rfl,ru⟩:=FR r;cases ru;obtain⟨aa,rv,pl,hz⟩:=I.list hp;have ai:p≠s.heap.objs.size:=by obtain⟨o,n,e,_⟩:=pl;exact zC (zM e)
 have el:=rv.length;rw[zX] at el;refine call_all_walk (wpAny_pyIter_list pl.isList ?_);refine⟨s.heap.objs.size,_,_,_,_,_,λi=>(bs[i]?).getD false,rfl,Walks.list (show X.A.in1.handled=none from I.ok.hd hc) s.heap.objs.size p ai aa.toArray,⟨⟨_,yZ _ rfl,rfl,rfl⟩,?_⟩,λi v s' Q' E' hv hq=>?_,λh' tk hk=>?_⟩;. obtain⟨o,n,e,c,d,dd⟩:=pl;exact⟨o,zW _ e,c,n,dd⟩
 . rw[WV rv hv];exact wpAny_truthy_bool hq
 . refine⟨.bl (bs.all id),H,?_,?_,q⟩;. exact I.kept (t':=tk) λb o e=>hk b o (by simp;exact zC (zM e)) (zW _ e)
   . rw[zJ,<-el,RC];rfl
def pI (X:Cx):List V->Hp->VK->Prop:=λxs H Q=>∃(p:Addr) (bs:List Bool),xs=[.ref p]/\SqL X.K H p (bs.map V.bl)/\Q (.bl (bs.any id)) H
theorem aG (hc:X.calm=true):BO X (.builtin "any") (pI X):=by
 intro pins s σ H xs us Q I r h;obtain⟨p,bs,rfl,hp,q⟩:=h;obtain⟨u,rfl,ru⟩:=FR r;cases ru;obtain⟨aa,rv,pl,hz⟩:=I.list hp;have ai:p≠s.heap.objs.size:=by obtain⟨o,n,e,_⟩:=pl;exact zC (zM e)
 have el:=rv.length;rw[zX] at el;refine call_any_walk (wpAny_pyIter_list pl.isList ?_);refine⟨s.heap.objs.size,_,_,_,_,_,λi=>(bs[i]?).getD false,rfl,Walks.list (show X.A.in1.handled=none from I.ok.hd hc) s.heap.objs.size p ai aa.toArray,⟨⟨_,yZ _ rfl,rfl,rfl⟩,?_⟩,λi v s' Q' E' hv hq=>?_,λh' tk hk=>?_⟩;. obtain⟨o,n,e,c,d,dd⟩:=pl;exact⟨o,zW _ e,c,n,dd⟩
 . rw[WV rv hv];exact wpAny_truthy_bool hq
 . refine⟨.bl (bs.any id),H,?_,?_,q⟩;. exact I.kept (t':=tk) λb o e=>hk b o (by simp;exact zC (zM e)) (zW _ e)
   . rw[zJ,<-el,RD];rfl
def kT:V->Option Int->Option Int->Hp->VK->Prop:=λx lo hi H Q=>∃y,x = .str y/\y.length<=sizeLine/\Q (.str (a8K y lo hi)) H
theorem kU:SlR X kT:=by
 intro pins s σ H x v vl vu lo hi sl Q I rx hs pl pu h;obtain⟨y,rfl,hz,q⟩:=h;obtain⟨t,rfl⟩:=rx;refine⟨"str", _,F.slot_str_getitem.lookup,typeIs_str _ _ _,?_⟩;cases pl with
 | none=>
   cases pu with
   | none=>exact wpAny_getItem_str_slice (l:=none) (u:=none) (st:=none) hs rfl (post_val_or_str ⟨zN (Txt.slice_le y _ _) hz,λt' k=>⟨.str _,H,I.tok _,⟨_,rfl⟩,q⟩⟩)
   | int j tj=>exact wpAny_getItem_str_slice (l:=none) (u:=some (j,tj)) (st:=none) hs rfl (post_val_or_str ⟨zN (Txt.slice_le y _ _) hz,λt' k=>⟨.str _,H,I.tok _,⟨_,rfl⟩,q⟩⟩)
 | int i ti=>
   cases pu with
   | none=>exact wpAny_getItem_str_slice (l:=some (i,ti)) (u:=none) (st:=none) hs rfl (post_val_or_str ⟨zN (Txt.slice_le y _ _) hz,λt' k=>⟨.str _,H,I.tok _,⟨_,rfl⟩,q⟩⟩)
   | int j tj=>exact wpAny_getItem_str_slice (l:=some (i,ti)) (u:=some (j,tj)) (st:=none) hs rfl (post_val_or_str ⟨zN (Txt.slice_le y _ _) hz,λt' k=>⟨.str _,H,I.tok _,⟨_,rfl⟩,q⟩⟩)
theorem K1:∀{ys:List Str}{aa:List Value},Vals (ys.map V.str) aa->StrsAre aa ys
 | [],_,.nil=>.nil
 | y::r,_,.cons h t=>by obtain⟨tk,rfl⟩:=h;exact .cons y tk (K1 t)
def aH (K:Frg):V->List V->Hp->VK->Prop:=λx xs H Q=>∃(y:Str) (p:Addr) (ys:List Str),x = .str y/\xs=[.ref p]/\SqL K H p (ys.map V.str)/\(ys.map (·.length)).sum+ys.length*y.length<=16777216/\Q (.str (Txt.join y ys)) H
theorem fR:MtR X "str.join" (aH X.K):=by intro pins s σ H x xs v us Q I rx rv h;obtain⟨y,p,ys,rfl,rfl,hp,hz,q⟩:=h;obtain⟨t,rfl⟩:=rx;obtain⟨u,rfl,ru⟩:=FR rv;cases ru;obtain⟨aa,r,pl,_⟩:=I.list hp;exact join_list pl.isList (by simpa using K1 r) hz λt' k=>⟨.str _,H,I.tok _,⟨_,rfl⟩,q⟩
def iY (K:Frg):R2:=λx y H Q=>∃a b xs ys,x = .ref a/\y = .ref b/\SqL K H a xs/\SqL K H b ys/\xs.length+ys.length<=sizeLine/\∀p,H p=none->Q (.ref p) (upd H p (.lst (xs++ys)))
theorem fS:OpR X (binaryOp .Add) (iY X.K):=by
 intro pins s σ H x y v u Q I rx ry h;obtain⟨l,b,xs,zs,rfl,rfl,hH,hB,hz,q⟩:=h;cases rx;cases ry;obtain⟨aa,r,pl,hl⟩:=I.list hH;obtain⟨a_,r2,km,gn⟩:=I.list hB;have e1:=r.length;have e2:=r2.length;obtain⟨⟨cls,dd,data,sl⟩,n,ho,hc,_,hd⟩:=pl;obtain⟨⟨ma,iu,data2,iw⟩,n2,ho2,hc2,_,hd2⟩:=km;dsimp only at hc hd hc2 hd2;subst hc hd hc2 hd2;have ea:aa.toArray++a_.toArray=(aa++a_).toArray:=by simp
 have fin:EP X pins σ Q (.ref s.heap.objs.size) { s with heap:=s.heap.push { cls:=.type "list", data:=.seq (aa.toArray++a_.toArray) } }:=by rw[ea];exact⟨.ref _,_,I.lnew (t':=s.toks) (r.append r2) (by rw[yY];omega),rfl,q _ I.fresh⟩
 exact concat_meets ⟨_,ho,rfl⟩ ⟨_,ho2,rfl⟩ noFill_list_add seq_list_add PySem.F.slot_list_add PySem.F.entry_list_add (PySem.F.args_list_add_2 _ _) (list_addW l b aa.toArray a_.toArray n n2 dd iu sl iw (by rw[zJ,zJ];omega)) ⟨ho,ho2,fin⟩
def iZ (i j:Int):Prop:=0 < j/\j < 2 ^ 64
theorem aI:OpR X (binaryOp .FloorDiv) (rI iZ λi j=>.int (i/j)):=opI λi j _ _ _ _ _ hc q=>by
 have h1:(0:Int) < j:=hc.1;have h2:j.natAbs.log2 < 9000:=by
   have h0:j.natAbs≠0:=by omega
   have:j.natAbs < 2 ^ 64:=by have:=hc.2;omega
   exact zP ((Nat.log2_lt h0).mpr this) (by decide)
 exact floordiv_int (by omega) (by rw[Int.fdiv_eq_ediv_of_nonneg i (by omega)];exact q) (.inl (PyProof.noPylong_of_log2 h2))
end
end L2
namespace L2
open PySem PySem.Spec PyProof.Rows
def nS:Key->PyData
 | .inl i=>.int i
 | .inr x=>.str x
def LW (K:Frg) (H:Hp) (W:Addr->Prop) (a:Addr) (xs:List V):Prop:=(¬W a/\Rd H a (.lst xs))\/∃(o:Obj) (aa:Array Value) (n:Nat),K.lookup a=some o/\o.cls = .type "list" /\ o.dict=none/\o.data = .seq aa n/\aa.size<=sizeLine/\Vals xs aa.toList
def TW (K:Frg) (H:Hp) (W:Addr->Prop) (a:Addr) (xs:List V):Prop:=(¬W a/\Rd H a (.tup xs))\/∃(o:Obj) (aa:Array Value) (n:Nat),K.lookup a=some o/\o.cls = .type "tuple" /\ o.data = .seq aa n/\aa.size<=sizeLine/\Vals xs aa.toList
theorem LW.sq {K:Frg}{H:Hp}{W:Addr->Prop}{a:Addr}{xs:List V}(h:LW K H W a xs):SqL K H a xs:=h.elim (λz=>.inl z.2) .inr
theorem TW.sq {K:Frg}{H:Hp}{W:Addr->Prop}{a:Addr}{xs:List V}(h:TW K H W a xs):SqT K H a xs:=h.elim (λz=>.inl z.2) .inr
mutual
def DV (K:Frg) (H:Hp) (W:Addr->Prop):PyData->V->Prop
 | .none,v=>v = .non
 | .bool b,v=>v = .bl b
 | .int i,v=>v = .int i
 | .str x,v=>v = .str x
 | .list ds,v=>∃a vs,v = .ref a/\LW K H W a vs/\DVs K H W ds vs
 | .tuple ds,v=>∃a vs,v = .ref a/\TW K H W a vs/\DVs K H W ds vs
 | .dict kvs,v=>∃a md,v = .ref a/\¬W a/\Rd H a (.dK md)/\DKV K H W kvs md
def DVs (K:Frg) (H:Hp) (W:Addr->Prop):List PyData->List V->Prop
 | [],vs=>vs=[]
 | d::ds,vs=>∃v r,vs=v::r/\DV K H W d v/\DVs K H W ds r
def DKV (K:Frg) (H:Hp) (W:Addr->Prop):List (PyData×PyData)->List (Key×V)->Prop
 | [],vs=>vs=[]
 | (k,d)::ds,vs=>∃k' v r,vs=(k',v)::r/\k=nS k'/\DV K H W d v/\DKV K H W ds r
end
structure Grow (K:Frg) (W W':Addr->Prop) (H H':Hp):Prop where
 keep:∀b o,H b=some o->¬W b->H' b=some o\/∃ks ob,o = .dK ks/\H' b=some (.frz ob o)
 new:∀b,W' b->W b\/H b=none
theorem Grow.refl {K:Frg}{W:Addr->Prop}{H:Hp}:Grow K W W H H:=⟨λ_ _ h _=>.inl h,λ_ h=>.inl h⟩
section
variable {K:Frg}{W W' W2:Addr->Prop}{H H' H2:Hp}
theorem Rd.grow (g:Grow K W W' H H') {a:Addr}{o:HO}(nw:¬W a) (h:Rd H a o):Rd H' a o:=by
 rcases h with h | ⟨o',h⟩
 . rcases g.keep _ _ h nw with e | ⟨ks,ob,_,e⟩
   . exact .inl e
   . exact .inr ⟨ob,e⟩
 . rcases g.keep _ _ h nw with e | ⟨ks,ob,e,_⟩
   . exact .inr ⟨o',e⟩
   . cases e
theorem Grow.kept (g:Grow K W W' H H') {a:Addr}{o:HO}(h:H a=some o) (nw:¬W a) (n:∀ks,o≠.dK ks):H' a=some o:=(g.keep a o h nw).elim id λ⟨ks,_,e,_⟩=>absurd e (n ks)
theorem Rd.ne_none {H:Hp}{a:Addr}{o:HO}(h:Rd H a o):H a≠none:=by rcases h with h | ⟨o',h⟩ <;> rw[h] <;> simp
theorem Rd.nw (g:Grow K W W' H H') {a:Addr}{o:HO}(nw:¬W a) (h:Rd H a o):¬W' a:=λw=>by
 rcases g.new a w with z | z;. exact nw z
 . exact Rd.ne_none h z
theorem LW.grow (g:Grow K W W' H H') {a:Addr}{xs:List V}(h:LW K H W a xs):LW K H' W' a xs:=h.elim (λz=>.inl ⟨z.2.nw g z.1,z.2.grow g z.1⟩) .inr
theorem TW.grow (g:Grow K W W' H H') {a:Addr}{xs:List V}(h:TW K H W a xs):TW K H' W' a xs:=h.elim (λz=>.inl ⟨z.2.nw g z.1,z.2.grow g z.1⟩) .inr
mutual
theorem DV.grow (g:Grow K W W' H H'):∀{d:PyData}{v:V},DV K H W d v->DV K H' W' d v
 | .none,v,h=>by unfold DV at h ⊢;exact h
 | .bool b,v,h=>by unfold DV at h ⊢;exact h
 | .int i,v,h=>by unfold DV at h ⊢;exact h
 | .str x,v,h=>by unfold DV at h ⊢;exact h
 | .list ds,v,h=>by unfold DV at h ⊢;obtain⟨a,vs,e,hs,hd⟩:=h;exact⟨a,vs,e,hs.grow g,DVs.grow g hd⟩
 | .tuple ds,v,h=>by unfold DV at h ⊢;obtain⟨a,vs,e,hs,hd⟩:=h;exact⟨a,vs,e,hs.grow g,DVs.grow g hd⟩
 | .dict kvs,v,h=>by unfold DV at h ⊢;obtain⟨a,vs,e,nw,hs,hd⟩:=h;exact⟨a,vs,e,hs.nw g nw,hs.grow g nw,DKV.grow g hd⟩
theorem DVs.grow (g:Grow K W W' H H'):∀{ds:List PyData}{vs:List V},DVs K H W ds vs->DVs K H' W' ds vs
 | [],vs,h=>by unfold DVs at h ⊢;exact h
 | d::ds,vs,h=>by unfold DVs at h ⊢;obtain⟨v,r,e,h1,h2⟩:=h;exact⟨v,r,e,DV.grow g h1,DVs.grow g h2⟩
theorem DKV.grow (g:Grow K W W' H H'):∀{ds:List (PyData×PyData)}{vs:List (Key×V)},DKV K H W ds vs->DKV K H' W' ds vs
 | [],vs,h=>by unfold DKV at h ⊢;exact h
 | (k,d)::ds,vs,h=>by unfold DKV at h ⊢;obtain⟨k',v,r,e,e2,h1,h2⟩:=h;exact⟨k',v,r,e,e2,DV.grow g h1,DKV.grow g h2⟩
end
theorem Grow.trans (a:Grow K W W' H H') (b:Grow K W' W2 H' H2):Grow K W W2 H H2:=by
 refine⟨λx o h nw=>?_,λx w=>?_⟩
 . have sk:¬W' x:=λw=>by
     rcases a.new x w with z | z;. exact nw z
     . rw[h] at z;cases z
   rcases a.keep x o h nw with e | ⟨ks,ob,e1,e2⟩
   . exact b.keep x o e sk
   . exact .inr ⟨ks,ob,e1,b.kept e2 sk λ_ z=>nomatch z⟩
 . rcases b.new x w with z | z1;. exact a.new x z
   . by_cases hx:W x;. exact .inl hx
     . refine .inr ?_;cases e:H x with
       | none=>rfl
       | some o=> rcases a.keep x o e hx with q | ⟨_,_,_,q⟩ <;> (rw[q] at z1;cases z1)
theorem DVs.length:∀{ds:List PyData}{vs:List V},DVs K H W ds vs->vs.length=ds.length
 | [],vs,h=>by unfold DVs at h;subst h;rfl
 | d::ds,vs,h=>by unfold DVs at h;obtain⟨v,r,e,h1,h2⟩:=h;subst e;simp[DVs.length h2]
theorem DVs.get:∀{ds:List PyData}{vs:List V}{i:Nat}{v:V},DVs K H W ds vs->vs[i]?=some v->∃d,ds[i]?=some d/\DV K H W d v
 | [],vs,i,v,h,e=>by unfold DVs at h;subst h;simp at e
 | d::ds,vs,i,v,h,e=>by
   unfold DVs at h;obtain⟨u,r,e',h1,h2⟩:=h;subst e';cases i with
   | zero=>simp at e;subst e;exact⟨d,rfl,h1⟩
   | succ i=>simpa using DVs.get h2 (by simpa using e)
theorem DVs.get':∀{ds:List PyData}{vs:List V}{i:Nat}{d:PyData},DVs K H W ds vs->ds[i]?=some d->∃v,vs[i]?=some v/\DV K H W d v
 | [],vs,i,v,h,e=>by simp at e
 | d::ds,vs,i,v,h,e=>by
   unfold DVs at h;obtain⟨u,r,e',h1,h2⟩:=h;subst e';cases i with
   | zero=>simp at e;subst e;exact⟨u,rfl,h1⟩
   | succ i=>simpa using DVs.get' h2 (by simpa using e)
theorem DVs.nil:DVs K H W [] []:=by unfold DVs;rfl
theorem DVs.cons {d:PyData}{v:V}{ds:List PyData}{vs:List V}(h:DV K H W d v) (t:DVs K H W ds vs):DVs K H W (d::ds) (v::vs):=by unfold DVs;exact⟨v,vs,rfl,h,t⟩
theorem DVs.append:∀{ds es:List PyData}{vs us:List V},DVs K H W ds vs->DVs K H W es us->DVs K H W (ds++es) (vs++us)
 | [],es,vs,us,h,t=>by unfold DVs at h;subst h;exact t
 | d::ds,es,vs,us,h,t=>by unfold DVs at h;obtain⟨u,r,e',h1,h2⟩:=h;subst e';exact DVs.cons h1 (DVs.append h2 t)
theorem DVs.drop:∀{ds:List PyData}{vs:List V}(i:Nat),DVs K H W ds vs->DVs K H W (ds.drop i) (vs.drop i)
 | ds,vs,0,h=>h
 | [],vs,i+1,h=>by unfold DVs at h;subst h;exact DVs.nil
 | e::ds,vs,i+1,h=>by unfold DVs at h;obtain⟨u,r,e',h1,h2⟩:=h;subst e';exact DVs.drop i h2
theorem DVs.take:∀{ds:List PyData}{vs:List V}(i:Nat),DVs K H W ds vs->DVs K H W (ds.take i) (vs.take i)
 | ds,vs,0,h=>DVs.nil
 | [],vs,i+1,h=>by unfold DVs at h;subst h;exact DVs.nil
 | e::ds,vs,i+1,h=>by unfold DVs at h;obtain⟨u,r,e',h1,h2⟩:=h;subst e';exact DVs.cons h1 (DVs.take i h2)
theorem L9:∀{bs:List Bool}{vs:List V},DVs K H W (bs.map PyData.bool) vs->vs=bs.map V.bl
 | [],vs,h=>by unfold DVs at h;exact h
 | b::bs,vs,h=>by simp only[zI] at h;unfold DVs at h;obtain⟨u,r,e',h1,h2⟩:=h;unfold DV at h1;subst e' h1;rw[L9 h2];rfl
theorem EH:∀{bs:List Str}{vs:List V},DVs K H W (bs.map a0J) vs->vs=bs.map V.str
 | [],vs,h=>by unfold DVs at h;exact h
 | b::bs,vs,h=>by simp only[zI] at h;unfold DVs at h;obtain⟨u,r,e',h1,h2⟩:=h;unfold DV at h1;subst e' h1;rw[EH h2];rfl
end
section
variable {X:Cx}{pins:List (Addr×Obj)}{σ:St}{H:Hp}{s:Shared}{W:Addr->Prop}
mutual
theorem DV.reads (I:Inv X pins σ H s):∀{d:PyData}{v:V}{u:Value},d.canLay0=true->DV X.K H W d v->RelV v u->∃as,PySem.Reads s.heap u d as
 | .none,v,u,c,h,r=>by unfold DV at h;subst h;cases r;exact⟨_,.none⟩
 | .bool b,v,u,c,h,r=>by unfold DV at h;subst h;cases r;exact⟨_,.bool b⟩
 | .int i,v,u,c,h,r=>by unfold DV at h;subst h;obtain⟨t,rfl⟩:=r;exact⟨_,.int i t⟩
 | .str x,v,u,c,h,r=>by unfold DV at h;subst h;obtain⟨t,rfl⟩:=r;exact⟨_,.str x t⟩
 | .list ds,v,u,c,h,r=>by unfold DV at h;obtain⟨a,vs,rfl,hs,hd⟩:=h;cases r;obtain⟨aa,rv,⟨o,n,e,hc,_,dd⟩,_⟩:=I.list hs.sq;obtain⟨as,q⟩:=DVs.reads I (by simpa [PyData.canLay0] using c) hd rv;exact⟨_,.list e hc dd (by simpa using q)⟩
 | .tuple ds,v,u,c,h,r=>by unfold DV at h;obtain⟨a,vs,rfl,hs,hd⟩:=h;cases r;obtain⟨aa,rv,⟨o,e,hc,n,dd⟩,_⟩:=I.tuple hs.sq;obtain⟨as,q⟩:=DVs.reads I (by simpa [PyData.canLay0] using c) hd rv;exact⟨_,.tuple e hc dd (by simpa using q)⟩
 | .dict kvs,v,u,c,h,r=>by simp[PyData.canLay0] at c
theorem DVs.reads (I:Inv X pins σ H s):∀{ds:List PyData}{vs:List V}{us:List Value},b4Z ds=true->DVs X.K H W ds vs->Vals vs us->∃as,PySem.ReadsAll s.heap us ds as
 | [],vs,us,c,h,r=>by unfold DVs at h;subst h;cases r;exact⟨_,.nil⟩
 | d::ds,vs,us,c,h,r=>by
   unfold DVs at h;obtain⟨v,q,rfl,h1,h2⟩:=h;cases r with
   | cons r1 r2=> simp[b4Z] at c;obtain⟨as,q1⟩:=DV.reads I c.1 h1 r1;obtain⟨bs,q2⟩:=DVs.reads I c.2 h2 r2;exact⟨_,.cons q1 q2⟩
end
def P1 (K:Frg) (neg:Bool):R2:=λx y H Q=>∃(W:Addr->Prop) (da db:PyData),DV K H W da x/\DV K H W db y/\zH da=true/\zH db=true/\Q (.bl (if neg then !a4W da db else a4W da db)) H
theorem aJ (hu:X.A.units+64 < cLine):OpR X (compareOp .Eq) (P1 X.K false):=by intro pins s σ H x y v u Q I rx ry h;obtain⟨W,da,db,h1,h2,s1,s2,q⟩:=h;obtain⟨as,r1⟩:=h1.reads I (zG s1) rx;obtain⟨bs,r2⟩:=h2.reads I (zG s2) ry;exact PySem.SeqAt.compareEq_shaped r1 r2 s1 s2 hu ⟨.bl _,H,I,rfl,q⟩
theorem aK (hu:X.A.units+64 < cLine):OpR X (compareOp .NotEq) (P1 X.K true):=by intro pins s σ H x y v u Q I rx ry h;obtain⟨W,da,db,h1,h2,s1,s2,q⟩:=h;obtain⟨as,r1⟩:=h1.reads I (zG s1) rx;obtain⟨bs,r2⟩:=h2.reads I (zG s2) ry;exact PySem.SeqAt.compareNe_shaped r1 r2 s1 s2 hu ⟨.bl _,H,I,rfl,q⟩
end
end L2
namespace DL
open PySem PySem.Spec L2
abbrev St:=L2.St
inductive MO where
 | l (ds:List PyData)
 | d (kvs:List (PyData×PyData))
 | t (kvs:List (List Key×PyData))
 | x (C:Addr) (fs:List (Str×PyData))
abbrev Own:=Addr->Option MO
def Own.W (M:Own):Addr->Prop:=λa=>M a≠none
def Own.put (M:Own) (a:Addr) (o:MO):Own:=λb=>if b=a then some o else M b
def Own.del (M:Own) (a:Addr):Own:=λb=>if b=a then none else M b
def Own.Sub (M N:Own):Prop:=∀a o,M a=some o->N a=some o
theorem zU {M:Own}{a:Addr}{o:MO}:M.put a o a=some o:=by unfold Own.put;rw[if_pos rfl]
theorem yH {M:Own}{a b:Addr}{o:MO}(h:b≠a):M.put a o b=M b:=by unfold Own.put;rw[if_neg h]
theorem yI {M:Own}{a:Addr}{o o':MO}:(M.put a o).put a o'=M.put a o':=by funext b;unfold Own.put;by_cases h:b=a <;> simp[h]
theorem yG {M:Own}{a:Addr}{o:MO}(h:M a=none):(M.put a o).del a=M:=by
 funext b;unfold Own.put Own.del;by_cases e:b=a;. subst e;simp[h]
 . simp[e]
theorem Own.del_put_ne {M:Own}{a b:Addr}{o:MO}(h:a≠b):(M.put a o).del b=(M.del b).put a o:=by
 funext c;unfold Own.put Own.del;by_cases h1:c=b;. subst h1;simp[a3J h]
 . simp[h1]
theorem zT (M:Own):M.Sub M:=λ_ _ h=>h
theorem Own.Sub.put {M N:Own}{a:Addr}{o:MO}(h:M.Sub N) (n:M a=none):M.Sub (N.put a o):=λb x e=>by rw[yH (by rintro rfl;rw[n] at e;cases e)];exact h b x e
inductive DS where
 | d (x:PyData)
 | loc (a:Addr)
 | ty (n:String)
 | tl (ds:List PyData) (a:Addr)
def SI (K:Frg) (H:Hp) (M:Own):DS->V->Prop
 | .d x,v=>DV K H M.W x v
 | .loc a,v=>v = .ref a
 | .ty n,v=>v = .ty n
 | .tl ds a,v=>∃b vs,v = .ref b/\TW K H M.W b (vs++[.ref a])/\DVs K H M.W ds vs
def SIs (K:Frg) (H:Hp) (M:Own):List DS->List V->Prop
 | [],vs=>vs=[]
 | d::ds,vs=>∃v r,vs=v::r/\SI K H M d v/\SIs K H M ds r
def XI (K:Frg) (H:Hp) (W:Addr->Prop):Option Addr->List (Str×PyData)->Prop
 | none,[]=>True
 | some d,[(n,x)]=>∃v,¬W d/\H d=some (.xd [(n,v)])/\DV K H W x v
 | _,_=>False
theorem XI.grow {K:Frg}{W W':Addr->Prop}{H H':Hp}(g:Grow K W W' H H') {dd:Option Addr}{fs:List (Str×PyData)}(h:XI K H W dd fs):XI K H' W' dd fs:=by
 unfold XI at h ⊢;split at h;. trivial
 . obtain⟨v,nw,a,b⟩:=h;exact⟨v,λz=>(g.new _ z).elim nw λq=>by(rw[a] at q;cases q),g.kept a nw (λ_ z=>nomatch z),b.grow g⟩
 . exact h.elim
def exK (a C:Addr) (dd:Option Addr):HO:=.ext λh=>∃o vs,h.get? a=some o/\o.cls = .ref C/\o.dict=dd/\o.data = .fields vs
def DTV (K:Frg) (H:Hp) (W:Addr->Prop) (kvs:List (List Key×PyData)) (ks:List (List Key×V)):Prop:=ks.map (·.1)=kvs.map (·.1)/\DVs K H W (kvs.map (·.2)) (ks.map (·.2))
theorem DTV.grow {K:Frg}{W W':Addr->Prop}{H H':Hp}(g:Grow K W W' H H') {kvs:List (List Key×PyData)}{ks:List (List Key×V)}(h:DTV K H W kvs ks):DTV K H' W' kvs ks:=⟨h.1,h.2.grow g⟩
def OA1 (K:Frg) (H:Hp) (M:Own) (a:Addr):MO->Prop
 | .x C fs=>∃dd,H a=some (exK a C dd)/\XI K H M.W dd fs
 | .l ds=>∃vs,H a=some (.lst vs)/\DVs K H M.W ds vs
 | .d kvs=>∃ks,H a=some (.dK ks)/\DKV K H M.W kvs ks
 | .t kvs=>∃ks,H a=some (.dT ks)/\DTV K H M.W kvs ks
def OA (K:Frg) (H:Hp) (M:Own):Prop:=∀a o,M a=some o->OA1 K H M a o
structure Step (K:Frg) (M M':Own) (H H':Hp):Prop where
 grow:Grow K M.W M'.W H H'
structure Rel (K:Frg) (M:Own) (ρ:List (Option DS)) (σ:St) (H:Hp):Prop where
 own:OA K H M
 len:ρ.length=σ.length
 slot:∀(i:Nat) x,ρ[i]?=some (some x)->∃v,σ[i]?=some (some v)/\SI K H M x v
section
variable {K:Frg}{M M' M2:Own}{H H' H2:Hp}{ρ:List (Option DS)}{σ:St}
theorem Step.refl:Step K M M H H:=⟨Grow.refl⟩
theorem Step.trans (a:Step K M M' H H') (b:Step K M' M2 H' H2):Step K M M2 H H2:=⟨a.grow.trans b.grow⟩
theorem SI.step (st:Step K M M' H H'):∀{x:DS}{v:V},SI K H M x v->SI K H' M' x v
 | .d _,_,h=>DV.grow st.grow h
 | .loc _,_,h=>h
 | .ty _,_,h=>h
 | .tl _ _,_,⟨b,vs,e,h1,h2⟩=>⟨b,vs,e,h1.grow st.grow,h2.grow st.grow⟩
theorem Rel.step (R:Rel K M ρ σ H) (oa:OA K H' M') (st:Step K M M' H H'):Rel K M' ρ σ H':=⟨oa,R.len,λi x e=>let ⟨v,h1,h2⟩:=R.slot i x e;⟨v,h1,h2.step st⟩⟩
theorem Rel.set (R:Rel K M ρ σ H) {x:DS}{v:V}(h:SI K H M x v) (i:Nat):Rel K M (ρ.set i (some x)) (σ.set i (some v)) H:=by
 refine⟨R.own,by rw[List.length_set,List.length_set];exact R.len,λj y e=>?_⟩;rw[List.getElem?_set] at e ⊢;by_cases au:i=j
 . rw[if_pos au] at e ⊢;subst au;by_cases hl:i < ρ.length;. rw[if_pos hl] at e;cases e;rw[if_pos (by rw[<-R.len];exact hl)];exact⟨v,rfl,h⟩
   . rw[if_neg hl] at e;cases e
 . rw[if_neg au] at e ⊢;exact R.slot j y e
theorem OA.none (oa:OA K H M) {p:Addr}(h:H p=b4V):M p=b4V:=by
 cases e:M p with
 | none=>rfl
 | some o=> have:=oa p o e;cases o <;> (obtain⟨vs,q,_⟩:=this;rw[h] at q;cases q)
theorem BI {p:Addr}{o:HO}(W:Addr->Prop) (h:H p=b4V):Grow K W W H (upd H p o):=⟨λb u e _=>.inl (by rw[AS (BX e h)];exact e),λ_ w=>.inl w⟩
theorem OA.grow (oa:OA K H M) (g:Grow K M.W M.W H H') (hk:∀a o,M a=some o->H' a=H a):OA K H' M:=λa o e=>by have q:=oa a o e;cases o <;> (obtain⟨vs,q1,q2⟩:=q;exact⟨vs,by rw[hk a _ e];exact q1,q2.grow g⟩)
theorem OA.new {p:Addr}{o:HO}(oa:OA K H M) (h:H p=b4V):OA K (upd H p o) M:=oa.grow (BI _ h) λa x e=>by rw[AS (by rintro rfl;rw[oa.none h] at e;cases e)]
theorem WW {p:Addr}{vs:List V}{ds:List PyData}(oa:OA K H M) (h:H p=b4V) (hd:DVs K H M.W ds vs) :
   OA K (upd H p (.lst vs)) (M.put p (.l ds))/\Step K M (M.put p (.l ds)) H (upd H p (.lst vs)):=by
 have hM:=oa.none h;have g:Grow K M.W (M.put p (.l ds)).W H (upd H p (.lst vs)):=⟨λb u e _=>.inl (by rw[AS (BX e h)];exact e),λb w=>by
   by_cases hb:b=p;. subst hb;exact .inr h
   . left;unfold Own.W at w ⊢;rw[yH hb] at w;exact w⟩
 refine⟨λa o e=>?_,⟨g⟩⟩
 . by_cases ha:a=p;. subst ha;rw[zU] at e;cases e;exact⟨vs,AN,hd.grow g⟩
   . rw[yH ha] at e;have q:=oa a o e;cases o <;> (obtain⟨vs,q1,q2⟩:=q;exact⟨vs,by rw[AS ha];exact q1,q2.grow g⟩)
theorem Q2 {p:Addr}{ko:List V}{me:List PyData}{o:MO}(oa:OA K H M) (h:M p=some o) (hd:DVs K H M.W me ko) :
   OA K (upd H p (.lst ko)) (M.put p (.l me))/\Step K M (M.put p (.l me)) H (upd H p (.lst ko)):=by
 have hw:∀b,(M.put p (.l me)).W b->M.W b:=λb w=>by
   unfold Own.W at w ⊢;by_cases hb:b=p;. subst hb;rw[h];simp
   . rw[yH hb] at w;exact w
 have g:Grow K M.W (M.put p (.l me)).W H (upd H p (.lst ko)):=⟨λb u e nw=>.inl (by
   rw[AS (by rintro rfl;exact nw (by unfold Own.W;rw[h];simp))];exact e),λb w=>.inl (hw b w)⟩
 refine⟨λa o e=>?_,⟨g⟩⟩
 . by_cases ha:a=p;. subst ha;rw[zU] at e;cases e;exact⟨ko,AN,hd.grow g⟩
   . rw[yH ha] at e;have q:=oa a o e;cases o <;> (obtain⟨vs,q1,q2⟩:=q;exact⟨vs,by rw[AS ha];exact q1,q2.grow g⟩)
theorem BP (hs:M'.Sub M):Grow K M.W M'.W H H:=⟨λ_ _ e _=>.inl e,λb w=>.inl (by
 unfold Own.W at w ⊢;cases e:M' b with
 | none=>exact absurd e w
 | some o=>rw[hs b o e];simp)⟩
theorem OA.sub (oa:OA K H M) (hs:M'.Sub M):OA K H M':=λa o e=>by have q:=oa a o (hs a o e);cases o <;> (obtain⟨vs,q1,q2⟩:=q;exact⟨vs,q1,q2.grow (BP hs)⟩)
theorem SI.sub (hs:M'.Sub M):∀{x:DS}{v:V},SI K H M x v->SI K H M' x v
 | .d _,_,h=>DV.grow (BP hs) h
 | .loc _,_,h=>h
 | .ty _,_,h=>h
 | .tl _ _,_,⟨b,vs,e,h1,h2⟩=>⟨b,vs,e,h1.grow (BP hs),h2.grow (BP hs)⟩
end
def DE (K:Frg) (t:TE) (ρ:List (Option DS)) (M:Own) (Q:DS->Own->Prop):Prop:=∀(σ:St) (H:Hp) (QQ:VK),Rel K M ρ σ H->(∀v H' x M',OA K H' M'->SI K H' M' x v->Step K M M' H H'->Q x M'->QQ v H')->t σ H QQ
def DT (K:Frg) (t:TT) (ρ:List (Option DS)) (M:Own) (Q:Bool->Own->Prop):Prop:=∀(σ:St) (H:Hp) (QQ:Bool->Hp->Prop),Rel K M ρ σ H->(∀b H' M',OA K H' M'->Step K M M' H H'->Q b M'->QQ b H')->t σ H QQ
def DA (K:Frg) (t:TA) (ρ:List (Option DS)) (M:Own) (Q:List DS->Own->Prop):Prop:=∀(σ:St) (H:Hp) (QQ:List V->Hp->Prop),Rel K M ρ σ H->(∀vs H' xs M',OA K H' M'->SIs K H' M' xs vs->Step K M M' H H'->Q xs M'->QQ vs H')->t σ H QQ
def DP (K:Frg) (t:TO) (ρ:List (Option DS)) (M:Own) (Q:Option Int->Own->Prop):Prop:=∀(σ:St) (H:Hp) (QQ:Option Int->Hp->Prop),Rel K M ρ σ H->(∀b H' M',OA K H' M'->Step K M M' H H'->Q b M'->QQ b H')->t σ H QQ
structure EndsD where
 nx:List (Option DS)->Own->Prop
 rt:DS->Own->Prop
 bk:List (Option DS)->Own->Prop:=λ_ _=>False
 ct:List (Option DS)->Own->Prop:=λ_ _=>False
def DSt (K:Frg) (t:TS) (ρ:List (Option DS)) (M:Own) (D:EndsD):Prop:=∀(σ:St) (H:Hp) (E:Ends),Rel K M ρ σ H->(∀ρ' M' σ' H',Rel K M' ρ' σ' H'->Step K M M' H H'->D.nx ρ' M'->E.nx σ' H')->(∀v H' x M',OA K H' M'->SI K H' M' x v->Step K M M' H H'->D.rt x M'->E.rt v H') ->(∀ρ' M' σ' H',Rel K M' ρ' σ' H'->Step K M M' H H'->D.bk ρ' M'->E.bk σ' H')->(∀ρ' M' σ' H',Rel K M' ρ' σ' H'->Step K M M' H H'->D.ct ρ' M'->E.ct σ' H')->t E σ H
def D1 (K:Frg) (r:V->Hp->VK->Prop) (x:DS) (M:Own) (Q:DS->Own->Prop):Prop:=∀(H:Hp) (v:V) (QQ:VK),OA K H M->SI K H M x v->(∀w H' z M',OA K H' M'->SI K H' M' z w->Step K M M' H H'->Q z M'->QQ w H')->r v H QQ
def D2 (K:Frg) (r:R2) (x y:DS) (M:Own) (Q:DS->Own->Prop):Prop:=∀(H:Hp) (v u:V) (QQ:VK),OA K H M->SI K H M x v->SI K H M y u->(∀w H' z M',OA K H' M'->SI K H' M' z w->Step K M M' H H'->Q z M'->QQ w H')->r v u H QQ
def DR (K:Frg) (r:List V->Hp->VK->Prop) (xs:List DS) (M:Own) (Q:DS->Own->Prop):Prop:=∀(H:Hp) (vs:List V) (QQ:VK),OA K H M->SIs K H M xs vs->(∀w H' z M',OA K H' M'->SI K H' M' z w->Step K M M' H H'->Q z M'->QQ w H')->r vs H QQ
def DM (K:Frg) (r:V->List V->Hp->VK->Prop) (x:DS) (xs:List DS) (M:Own) (Q:DS->Own->Prop):Prop:=∀(H:Hp) (v:V) (vs:List V) (QQ:VK),OA K H M->SI K H M x v->SIs K H M xs vs->(∀w H' z M',OA K H' M'->SI K H' M' z w->Step K M M' H H'->Q z M'->QQ w H')->r v vs H QQ
def DSl (K:Frg) (r:V->Option Int->Option Int->Hp->VK->Prop) (x:DS) (lo hi:Option Int) (M:Own) (Q:DS->Own->Prop):Prop:=∀(H:Hp) (v:V) (QQ:VK),OA K H M->SI K H M x v->(∀w H' z M',OA K H' M'->SI K H' M' z w->Step K M M' H H'->Q z M'->QQ w H')->r v lo hi H QQ
def DTy (K:Frg) (T:String) (x:DS) (M:Own):Prop:=∀(H:Hp) (v:V),OA K H M->SI K H M x v->tyV K T v H
section
variable {K:Frg}{ρ:List (Option DS)}{M:Own}{Q:DS->Own->Prop}{QB:Bool->Own->Prop}{ta tb tc:TE}{tA ie:TT}{r r':R2}
theorem WX {t:TE}{Q':DS->Own->Prop}(h:DE K t ρ M Q) (hq:∀x M',Q x M'->Q' x M'):DE K t ρ M Q':=λσ H QQ R k=>h σ H QQ R λv H' x M' a b c q=>k v H' x M' a b c (hq x M' q)
theorem kW {i:Nat}{x:DS}(e:ρ[i]?=some (some x)) (h:Q x M):DE K (eG i) ρ M Q:=λσ H QQ R k=>by obtain⟨v,h1,h2⟩:=R.slot i x e;exact⟨v,h1,k v H x M R.own h2 Step.refl h⟩
theorem kX {i:Int}(h:Q (.d (.int i)) M):DE K (tC (.int i)) ρ M Q:=λσ H QQ R k=>k _ H (.d (.int i)) M R.own (by unfold SI DV;rfl) Step.refl h
theorem nT {i:Bool}(h:Q (.d (.bool i)) M):DE K (tC (.bl i)) ρ M Q:=λσ H QQ R k=>k _ H (.d (.bool i)) M R.own (by unfold SI DV;rfl) Step.refl h
theorem kY {i:Str}(h:Q (.d (.str i)) M):DE K (tC (.str i)) ρ M Q:=λσ H QQ R k=>k _ H (.d (.str i)) M R.own (by unfold SI DV;rfl) Step.refl h
theorem kZ (h:Q (.d .none) M):DE K (tC .non) ρ M Q:=λσ H QQ R k=>k _ H (.d .none) M R.own (by unfold SI DV;rfl) Step.refl h
theorem nU {n:String}(h:Q (.ty n) M):DE K (tC (.ty n)) ρ M Q:=λσ H QQ R k=>k _ H (.ty n) M R.own rfl Step.refl h
theorem nV (h:DE K ta ρ M λx M1=>DE K tb ρ M1 λy M2=>D2 K r x y M2 Q):DE K (tOp r ta tb) ρ M Q:=λσ H QQ R k=>
 h σ H _ R λv H1 x M1 o1 s1 t1 h1=>h1 σ H1 _ (R.step o1 t1) λu H2 y M2 o2 s2 t2 h2=>h2 H2 v u QQ o2 (s1.step t2) s2 λw H3 z M3 o3 s3 t3 q=>k w H3 z M3 o3 s3 ((t1.trans t2).trans t3) q
theorem nW {r:V->Hp->VK->Prop}(h:DE K ta ρ M λx M1=>D1 K r x M1 Q):DE K (tUn r ta) ρ M Q:=λσ H QQ R k=>
 h σ H _ R λv H1 x M1 o1 s1 t1 h1=>h1 H1 v QQ o1 s1 λw H3 z M3 o3 s3 t3 q=>k w H3 z M3 o3 s3 (t1.trans t3) q
theorem fT (h:DE K ta ρ M λx M1=>∃c,x = .d (.bool c)/\QB c M1):DT K (iS ta) ρ M QB:=λσ H QQ R k=>
 h σ H _ R λv H1 x M1 o1 s1 t1 h1=>by obtain⟨c,rfl,q⟩:=h1;unfold SI DV at s1;exact⟨c,s1,k c H1 M1 o1 t1 q⟩
theorem pJ (h:DE K ta ρ M λx M1=>∃c,x = .d (.bool c)/\QB c M1):DT K (L2.tB ta) ρ M QB:=λσ H QQ R k=>
 h σ H _ R λv H1 x M1 o1 s1 t1 h1=>by obtain⟨c,rfl,q⟩:=h1;unfold SI DV at s1;exact⟨c,s1,k c H1 M1 o1 t1 q⟩
theorem l0 (h:DT K tA ρ M λc M1=>if c=true then DT K ie ρ M1 QB else QB false M1):DT K (mV tA ie) ρ M QB:=λσ H QQ R k=>
 h σ H _ R λc H1 M1 o1 t1 h1=>by
   cases c with
   | false=>rw[if_neg nft] at h1 ⊢;exact k _ H1 M1 o1 t1 h1
   | true=>rw[if_pos rfl] at h1 ⊢;exact h1 σ H1 QQ (R.step o1 t1) λb H2 M2 o2 t2 q=>k b H2 M2 o2 (t1.trans t2) q
theorem nX (h:DT K tA ρ M λc M1=>if c=true then QB true M1 else DT K ie ρ M1 QB):DT K (tOr tA ie) ρ M QB:=λσ H QQ R k=>
 h σ H _ R λc H1 M1 o1 t1 h1=>by
   cases c with
   | true=>rw[if_pos rfl] at h1 ⊢;exact k _ H1 M1 o1 t1 h1
   | false=>rw[if_neg nft] at h1 ⊢;exact h1 σ H1 QQ (R.step o1 t1) λb H2 M2 o2 t2 q=>k b H2 M2 o2 (t1.trans t2) q
theorem l6 (h:DT K tA ρ M λc M1=>QB (!c) M1):DT K (mW tA) ρ M QB:=λσ H QQ R k=>h σ H _ R λc H1 M1 o1 t1 h1=>k _ H1 M1 o1 t1 h1
theorem l7 (h:QB true M):DT K nQ ρ M QB:=λσ H QQ R k=>k true H M R.own Step.refl h
theorem nY (h:DE K ta ρ M λx M1=>∃c,x = .d (.bool c)/\if c=true then Q (.d (.bool true)) M1 else DE K tb ρ M1 Q):DE K (mX ta tb) ρ M Q:=λσ H QQ R k=>
 h σ H _ R λv H1 x M1 o1 s1 t1 h1=>by
   obtain⟨c,rfl,q⟩:=h1;unfold SI DV at s1;refine⟨c,s1,?_⟩;cases c with
   | true=>rw[if_pos rfl] at q ⊢;exact k _ H1 _ M1 o1 (by unfold SI DV;rfl) t1 q
   | false=>rw[if_neg nft] at q ⊢;exact q σ H1 QQ (R.step o1 t1) λw H2 z M2 o2 s2 t2 q=>k w H2 z M2 o2 s2 (t1.trans t2) q
theorem l9 (h:DE K ta ρ M λx M1=>∃c,x = .d (.bool c)/\Q (.d (.bool (!c))) M1):DE K (iM ta) ρ M Q:=λσ H QQ R k=>
 h σ H _ R λv H1 x M1 o1 s1 t1 h1=>by obtain⟨c,rfl,q⟩:=h1;unfold SI DV at s1;exact⟨c,s1,k _ H1 _ M1 o1 (by unfold SI DV;rfl) t1 q⟩
variable {QL:List DS->Own->Prop}{tl:TA}
theorem lA (h:QL [] M):DA K nG ρ M QL:=λσ H QQ R k=>k [] H [] M R.own rfl Step.refl h
theorem fU (h:DE K ta ρ M λx M1=>DA K tl ρ M1 λxs M2=>QL (x::xs) M2):DA K (iT ta tl) ρ M QL:=λσ H QQ R k=>
 h σ H _ R λv H1 x M1 o1 s1 t1 h1=>h1 σ H1 _ (R.step o1 t1) λvs H2 xs M2 o2 s2 t2 q=>k (v::vs) H2 (x::xs) M2 o2 ⟨v,vs,rfl,s1.step t2,s2⟩ (t1.trans t2) q
def P2:List DS->Option (List PyData)
 | []=>some []
 | .d x::r=>match P2 r with
   | some l=>some (x::l)
   | none=>none
 | .loc _::_=>none
 | .ty _::_=>none
 | .tl _ _::_=>none
theorem SIs.data {H:Hp}:∀{xs:List DS}{ds:List PyData}{vs:List V},P2 xs=some ds->SIs K H M xs vs->DVs K H M.W ds vs
 | [],ds,vs,e,h=>by cases e;cases h;exact DVs.nil
 | .d x::r,ds,vs,e,⟨v,q,e2,h1,h2⟩=>by
   cases e3:P2 r with
   | none=>rw[P2,e3] at e;cases e
   | some es=> rw[P2,e3] at e;cases e;subst e2;exact DVs.cons h1 (SIs.data e3 h2)
 | .loc _::_,ds,vs,e,_=>by cases e
 | .ty _::_,ds,vs,e,_=>by cases e
 | .tl _ _::_,ds,vs,e,_=>by cases e
theorem SIs.length {H:Hp}:∀{xs:List DS}{vs:List V},SIs K H M xs vs->vs.length=xs.length
 | [],vs,h=>by cases h;rfl
 | _::r,vs,⟨v,q,e2,h1,h2⟩=>by subst e2;simp[SIs.length h2]
theorem lB (h:DA K tl ρ M λxs M1=>∃ds,P2 xs=some ds/\ds.length<=sizeLine/\Q (.d (.tuple ds)) M1):DE K (nH tl) ρ M Q:=λσ H QQ R k=>
 h σ H _ R λvs H1 xs M1 o1 s1 t1 h1=>by obtain⟨ds,e,hz,q⟩:=h1;have hd:=s1.data e;refine⟨by rw[hd.length];exact hz,λp hp=>?_⟩;have g:Grow K M1.W M1.W H1 (upd H1 p (.tup vs)):=BI _ hp;refine k _ _ (.d (.tuple ds)) M1 (o1.new hp) ?_ (t1.trans ⟨g⟩) q;unfold SI DV;exact⟨p,vs,rfl,.inl ⟨λw=>w (o1.none hp),.inl AN⟩,hd.grow g⟩
theorem HS (h:DA K tl ρ M λxs M1=>∃ds,P2 xs=some ds/\ds.length<=sizeLine/\Q (.d (.list ds)) M1):DE K (k9 tl) ρ M Q:=λσ H QQ R k=>
 h σ H _ R λvs H1 xs M1 o1 s1 t1 h1=>by obtain⟨ds,e,hz,q⟩:=h1;have hd:=s1.data e;refine⟨by rw[hd.length];exact hz,λp hp=>?_⟩;have g:Grow K M1.W M1.W H1 (upd H1 p (.lst vs)):=BI _ hp;refine k _ _ (.d (.list ds)) M1 (o1.new hp) ?_ (t1.trans ⟨g⟩) q;unfold SI DV;exact⟨p,vs,rfl,.inl ⟨λw=>w (o1.none hp),.inl AN⟩,hd.grow g⟩
theorem K2 (h:DA K tl ρ M λxs M1=>∃ds,P2 xs=some ds/\ds.length<=sizeLine/\∀p,M1 p=none->Q (.loc p) (M1.put p (.l ds))):DE K (k9 tl) ρ M Q:=λσ H QQ R k=>
 h σ H _ R λvs H1 xs M1 o1 s1 t1 h1=>by obtain⟨ds,e,hz,q⟩:=h1;have hd:=s1.data e;refine⟨by rw[hd.length];exact hz,λp hp=>?_⟩;obtain⟨a,b⟩:=WW o1 hp hd;exact k _ _ (.loc p) _ a rfl (t1.trans b) (q p (o1.none hp))
theorem nZ {r:List V->Hp->VK->Prop}(h:DA K tl ρ M λxs M1=>DR K r xs M1 Q):DE K (tCB r tl) ρ M Q:=λσ H QQ R k=>
 h σ H _ R λvs H1 xs M1 o1 s1 t1 h1=>h1 H1 vs QQ o1 s1 λw H2 z M2 o2 s2 t2 q=>k w H2 z M2 o2 s2 (t1.trans t2) q
structure FSp where
 pre:List DS->Own->Prop
 post:List DS->Own->DS->Own->Prop
def spD (K:Frg) (n:Nat) (S:FSp):Sp:=λvs H Q _=>∃xs M,xs.length=n/\OA K H M/\SIs K H M xs vs/\S.pre xs M/\∀x M' v H',S.post xs M x M'->Step K M M' H H'->OA K H' M'->SI K H' M' x v->Q v H'
theorem fV {n:Nat}{S:FSp}:∀vs H Q E,spD K n S vs H Q E->vs.length=n:=λvs H Q E ⟨xs,M,hl,_,h,_⟩=>by rw[h.length,hl]
theorem fW {n:Nat}{S:FSp}{E:XK}(h:DA K tl ρ M λxs M1=>xs.length=n/\S.pre xs M1/\∀x M',S.post xs M1 x M'->Q x M'):DE K (WP (spD K n S) [] E tl) ρ M Q:=λσ H QQ R k=>
 h σ H _ R λvs H1 xs M1 o1 s1 t1 ⟨h0,h1,h2⟩=>by show spD K n S (vs++[]) H1 QQ E;rw[a2K];exact⟨xs,M1,h0,o1,s1,h1,λx M' v H' p st oa si=>k v H' x M' oa si (t1.trans st) (h2 x M' p)⟩
theorem K3 {T:String}{r:V->List V->Hp->VK->Prop}(h:DE K ta ρ M λx M1=>DTy K T x M1/\DA K tl ρ M1 λxs M2=>DM K r x xs M2 Q):DE K (tBM K T r ta tl) ρ M Q:=λσ H QQ R k=>
 h σ H _ R λv H1 x M1 o1 s1 t1 ⟨h0,h1⟩=>⟨h0 H1 v o1 s1,h1 σ H1 _ (R.step o1 t1) λvs H2 xs M2 o2 s2 t2 h2=>h2 H2 v vs QQ o2 (s1.step t2) s2 λw H3 z M3 o3 s3 t3 q=>k w H3 z M3 o3 s3 ((t1.trans t2).trans t3) q⟩
theorem fX {QP:Option Int->Own->Prop}(h:QP none M):DP K WR ρ M QP:=λσ H QQ R k=>k _ H M R.own Step.refl h
theorem fY {QP:Option Int->Own->Prop}(h:DE K ta ρ M λx M1=>∃i,x = .d (.int i)/\QP (some i) M1):DP K (iU ta) ρ M QP:=λσ H QQ R k=>
 h σ H _ R λv H1 x M1 o1 s1 t1 h1=>by obtain⟨i,rfl,q⟩:=h1;unfold SI DV at s1;exact⟨i,s1,k _ H1 M1 o1 t1 q⟩
theorem o0 {r:V->Option Int->Option Int->Hp->VK->Prop}{tl th:TO}(h:DE K ta ρ M λx M1=>DP K tl ρ M1 λlo M2=>DP K th ρ M2 λhi M3=>DSl K r x lo hi M3 Q):DE K (tSl r ta tl th) ρ M Q:=λσ H QQ R k=>
 h σ H _ R λv H1 x M1 o1 s1 t1 h1=>h1 σ H1 _ (R.step o1 t1) λlo H2 M2 o2 t2 h2=>h2 σ H2 _ (R.step o2 (t1.trans t2)) λhi H3 M3 o3 t3 h3=>h3 H3 v QQ o3 (s1.step (t2.trans t3)) λw H4 z M4 o4 s4 t4 q=>k w H4 z M4 o4 s4 (((t1.trans t2).trans t3).trans t4) q
variable {D:EndsD}{t u:TS}
theorem WY (h:D.nx ρ M):DSt K iN ρ M D:=λσ H E R k1 _ _ _=>k1 ρ M σ H R Step.refl h
theorem aL (h:DE K ta ρ M D.rt):DSt K (mZ ta) ρ M D:=λσ H E R _ k2 _ _=>h σ H E.rt R λv H' x M' a b c q=>k2 v H' x M' a b c q
theorem WZ (h:DE K ta ρ M λ_ M1=>D.nx ρ M1):DSt K (iO ta) ρ M D:=λσ H E R k1 _ _ _=>h σ H _ R λv H' x M' a b c q=>k1 ρ M' σ H' (R.step a c) c q
theorem aM {i:Nat}(h:DE K ta ρ M λx M1=>D.nx (ρ.set i (some x)) M1):DSt K (eR ta (N3 i)) ρ M D:=λσ H E R k1 _ _ _=>
 h σ H _ R λv H' x M' a b c q=>k1 _ M' _ H' ((R.step a c).set b i) c q
theorem X0 {i:Nat}(h:DE K ta ρ M λx M1=>D.nx (ρ.set i (some x)) M1):DSt K (λD σ H=>ta σ H λv H'=>D.nx (σ.set i (some v)) H') ρ M D:=λσ H E R k1 _ _ _=>
 h σ H _ R λv H' x M' a b c q=>k1 _ M' _ H' ((R.step a c).set b i) c q
theorem aN (h:DSt K t ρ M { D with nx:=λρ1 M1=>DSt K u ρ1 M1 D }):DSt K (jM t u) ρ M D:=λσ H E R k1 k2 k3 k4=>by refine h σ H { E with nx:=λσ' H'=>u E σ' H' } R (λρ1 M1 σ1 H1 R1 t1 q=>?_) k2 k3 k4;exact q σ1 H1 E R1 (λa b c d e f g=>k1 a b c d e (t1.trans f) g) (λa b c d e f g q=>k2 a b c d e f (t1.trans g) q) (λa b c d e f g=>k3 a b c d e (t1.trans f) g) (λa b c d e f g=>k4 a b c d e (t1.trans f) g)
theorem o8 (h:DT K tA ρ M λc M1=>if c=true then DSt K t ρ M1 D else DSt K u ρ M1 D):DSt K (n4 tA t u) ρ M D:=λσ H E R k1 k2 k3 k4=>
 h σ H _ R λc H1 M1 o1 t1 h1=>by
   have go:∀{w:TS},DSt K w ρ M1 D->w E σ H1:=λq=>q σ H1 E (R.step o1 t1) (λa b c d e f g=>k1 a b c d e (t1.trans f) g) (λa b c d e f g q=>k2 a b c d e f (t1.trans g) q) (λa b c d e f g=>k3 a b c d e (t1.trans f) g) (λa b c d e f g=>k4 a b c d e (t1.trans f) g);cases c with
   | true=>rw[if_pos rfl] at h1 ⊢;exact go h1
   | false=>rw[if_neg nft] at h1 ⊢;exact go h1
theorem fZ {D':EndsD}(h:DSt K t ρ M D) (h1:∀ρ' M',D.nx ρ' M'->D'.nx ρ' M') (h2:∀x M',D.rt x M'->D'.rt x M') (h3:∀ρ' M',D.bk ρ' M'->D'.bk ρ' M') (h4:∀ρ' M',D.ct ρ' M'->D'.ct ρ' M'):DSt K t ρ M D':=
 λσ H E R k1 k2 k3 k4=>h σ H E R (λa b c d e f g=>k1 a b c d e f (h1 _ _ g)) (λa b c d e f g q=>k2 a b c d e f g (h2 _ _ q)) (λa b c d e f g=>k3 a b c d e f (h3 _ _ g)) (λa b c d e f g=>k4 a b c d e f (h4 _ _ g))
theorem FV {i:Nat}{a:Addr}{ds:List PyData}(e:ρ[i]?=some (some (.loc a))) (m:M a=some (.l ds)) (h:DSt K t (ρ.set i (some (.d (.list ds)))) (M.del a) D):DSt K t ρ M D:=λσ H E R k1 k2 k3 k4=>by
 have hs:(M.del a).Sub M:=λb o q=>by
   unfold Own.del at q;by_cases hb:b=a;. rw[if_pos hb] at q;cases q
   . rw[if_neg hb] at q;exact q
 have st:Step K M (M.del a) H H:=⟨BP hs⟩
 obtain⟨v,e1,e2⟩:=R.slot i _ e;obtain⟨vs,q1,q2⟩:=R.own a _ m;have R1:Rel K (M.del a) ρ σ H:=R.step (R.own.sub hs) st;have R2:=R1.set (x:=.d (.list ds)) (v:=v) (by
   unfold SI DV;refine⟨a,vs,e2,.inl ⟨λw=>w (by unfold Own.del;rw[if_pos rfl]),.inl q1⟩,q2.grow (BP hs)⟩) i;have e3:σ.set i (some v)=σ:=by
   apply a9W;intro j;rw[List.getElem?_set];by_cases au:i=j
   . subst au;rw[if_pos rfl,e1];split;. rfl
     . rename_i hl;rw[a2J (by lia)] at e1;cases e1
   . rw[if_neg au]
 rw[e3] at R2;exact h σ H E R2 (λa b c d e f g=>k1 a b c d e (st.trans f) g) (λa b c d e f g q=>k2 a b c d e f (st.trans g) q) (λa b c d e f g=>k3 a b c d e (st.trans f) g) (λa b c d e f g=>k4 a b c d e (st.trans f) g)
end
end DL
namespace DL
open PySem PySem.Spec L2
section
variable {K:Frg}{ρ:List (Option DS)}{M:Own}{Q:DS->Own->Prop}{H:Hp}
theorem E4 {i:Int}{v:V}(h:SI K H M (.d (.int i)) v):v = .int i:=by unfold SI DV at h;exact h
theorem o9 {i:Bool}{v:V}(h:SI K H M (.d (.bool i)) v):v = .bl i:=by unfold SI DV at h;exact h
theorem BV {i:Str}{v:V}(h:SI K H M (.d (.str i)) v):v = .str i:=by unfold SI DV at h;exact h
theorem aO {v:V}(h:SI K H M (.d .none) v):v = .non:=by unfold SI DV at h;exact h
theorem D9 {i:Int}:SI K H M (.d (.int i)) (.int i):=by unfold SI DV;rfl
theorem AL {i:Bool}:SI K H M (.d (.bool i)) (.bl i):=by unfold SI DV;rfl
theorem IQ {i:Str}:SI K H M (.d (.str i)) (.str i):=by unfold SI DV;rfl
theorem oB {g:Int->Int->Int}{i j:Int}(q:Q (.d (.int (g i j))) M):D2 K (rI0 λi j=>.int (g i j)) (.d (.int i)) (.d (.int j)) M Q:=λH v u QQ oa s1 s2 k=>by rw[E4 s1,E4 s2];exact⟨i,j,rfl,rfl,k _ H _ M oa D9 Step.refl q⟩
theorem oG {g:Int->Int->Bool}{i j:Int}(q:Q (.d (.bool (g i j))) M):D2 K (rI0 λi j=>.bl (g i j)) (.d (.int i)) (.d (.int j)) M Q:=λH v u QQ oa s1 s2 k=>by rw[E4 s1,E4 s2];exact⟨i,j,rfl,rfl,k _ H _ M oa AL Step.refl q⟩
theorem NG {C:Int->Int->Prop}{g:Int->Int->Int}{i j:Int}(c:C i j) (q:Q (.d (.int (g i j))) M):D2 K (rI C λi j=>.int (g i j)) (.d (.int i)) (.d (.int j)) M Q:=λH v u QQ oa s1 s2 k=>by rw[E4 s1,E4 s2];exact⟨i,j,rfl,rfl,c,k _ H _ M oa D9 Step.refl q⟩
theorem pK {g:Int->Int}{i:Int}(q:Q (.d (.int (g i))) M):D1 K (rU λi=>.int (g i)) (.d (.int i)) M Q:=λH v QQ oa s1 k=>by rw[E4 s1];exact⟨i,rfl,k _ H _ M oa D9 Step.refl q⟩
theorem g0 {i j:Str}(hz:i.length+j.length<=sizeLine) (q:Q (.d (.str (i++j))) M) :
   D2 K (λx y H Q=>∃i j,x = .str i/\y = .str j/\i.length+j.length<=sizeLine/\Q (.str (i++j)) H) (.d (.str i)) (.d (.str j)) M Q:=λH v u QQ oa s1 s2 k=>by rw[BV s1,BV s2];exact⟨i,j,rfl,rfl,hz,k _ H _ M oa IQ Step.refl q⟩
theorem BL {neg:Bool}{a b:PyData}(ha:zH a=true) (hb:zH b=true) (q:Q (.d (.bool (if neg then !a4W a b else a4W a b))) M):D2 K (P1 K neg) (.d a) (.d b) M Q:=λH v u QQ oa s1 s2 k=>
 ⟨M.W,a,b,s1,s2,ha,hb,k _ H _ M oa AL Step.refl q⟩
theorem SY (x:Str) (ys:List Str):inV (.str x) (ys.map V.str)=decide (x∈ys):=by
 unfold inV;rw[a2Q,a7W,decide_eq_true_iff];constructor
 . rintro⟨y,hy,e⟩;obtain⟨z,hz,rfl⟩:=zL.mp hy;have:z=x:=by simpa [eqV] using e
   subst this;exact hz
 . intro h;exact⟨.str x,zL.mpr ⟨x,h,rfl⟩,by simp[eqV]⟩
theorem lC {neg:Bool}{x:Str}{ys:List Str}(q:Q (.d (.bool (if neg then !decide (x∈ys) else decide (x∈ys)))) M):D2 K (rIn K neg) (.d (.str x)) (.d (.list (ys.map .str))) M Q:=λH v u QQ oa s1 s2 k=>by rw[BV s1];unfold SI DV at s2;obtain⟨a,vs,rfl,hl,hd⟩:=s2;have e:=EH hd;subst e;exact⟨a,_,rfl,.inl hl.sq,rfl,by simp[J9],k _ H (.d (.bool (if neg then !decide (x∈ys) else decide (x∈ys)))) M oa (by rw[SY];exact AL) Step.refl q⟩
theorem aP {W:Addr->Prop}{ds:List PyData}{vs:List V}{i:Int}{d:PyData}(h:DVs K H W ds vs) (e:atI ds i=some d):∃v,atI vs i=some v/\DV K H W d v:=by
 unfold atI at e ⊢;rw[h.length];cases hx:ixN ds.length i with
 | none=>rw[hx] at e;cases e
 | some j=>rw[hx] at e;simpa using h.get' (by simpa using e)
theorem lD {ds:List PyData}{i:Int}{d:PyData}(e:atI ds i=some d) (q:Q (.d d) M):D2 K (kF K) (.d (.list ds)) (.d (.int i)) M Q:=λH v u QQ oa s1 s2 k=>by rw[E4 s2];unfold SI DV at s1;obtain⟨a,vs,rfl,hl,hd⟩:=s1;obtain⟨w,h1,h2⟩:=aP hd e;exact⟨a,vs,i,w,rfl,rfl,hl.sq,h1,k _ H (.d d) M oa h2 Step.refl q⟩
theorem lE {ds:List PyData}{i:Int}{d:PyData}(e:atI ds i=some d) (q:Q (.d d) M):D2 K (kG K) (.d (.tuple ds)) (.d (.int i)) M Q:=λH v u QQ oa s1 s2 k=>by rw[E4 s2];unfold SI DV at s1;obtain⟨a,vs,rfl,hl,hd⟩:=s1;obtain⟨w,h1,h2⟩:=aP hd e;exact⟨a,vs,i,w,rfl,rfl,hl.sq,h1,k _ H (.d d) M oa h2 Step.refl q⟩
theorem lG {z:Str}{i:Int}{c:Nat}(hz:z.length<=sizeLine) (e:atI z.cps.toList i=some c) (q:Q (.d (.str ⟨#[c]⟩)) M):D2 K kH (.d (.str z)) (.d (.int i)) M Q:=λH v u QQ oa s1 s2 k=>by rw[E4 s2,BV s1];exact⟨z,i,c,rfl,rfl,hz,e,k _ H _ M oa IQ Step.refl q⟩
theorem FN {r r':R2}{x y:DS}(h:D2 K r x y M Q):D2 K (λx y H Q=>r x y H Q\/r' x y H Q) x y M Q:=λH v u QQ oa s1 s2 k=>.inl (h H v u QQ oa s1 s2 k)
theorem FO {r r':R2}{x y:DS}(h:D2 K r' x y M Q):D2 K (λx y H Q=>r x y H Q\/r' x y H Q) x y M Q:=λH v u QQ oa s1 s2 k=>.inr (h H v u QQ oa s1 s2 k)
theorem lH {as bs:List PyData}(hz:as.length+bs.length<=sizeLine) (q:Q (.d (.list (as++bs))) M):D2 K (λx y H Q=>∃a b xs ys,x = .ref a/\y = .ref b/\SqL K H a xs/\SqL K H b ys/\xs.length+ys.length<=sizeLine/\∀p,H p=none->Q (.ref p) (upd H p (.lst (xs++ys)))) (.d (.list as)) (.d (.list bs)) M Q:=λH v u QQ oa s1 s2 k=>by unfold SI DV at s1 s2;obtain⟨a,vs,rfl,hl,hd⟩:=s1;obtain⟨b,us,rfl,gn,hd2⟩:=s2;refine⟨a,b,vs,us,rfl,rfl,hl.sq,gn.sq,by rw[hd.length,hd2.length];exact hz,λp hp=>?_⟩;have g:Grow K M.W M.W H (upd H p (.lst (vs++us))):=BI _ hp;refine k _ _ (.d (.list (as++bs))) M (oa.new hp) ?_ ⟨g⟩ q;unfold SI DV;exact⟨p,_,rfl,.inl ⟨λw=>w (oa.none hp),.inl AN⟩,(hd.append hd2).grow g⟩
theorem g5 {ds:List PyData}(q:Q (.d (.int ds.length)) M):DR K (λxs H Q=>∃x n,xs=[x]/\eU K x H n/\Q (.int (n:Nat)) H) [.d (.list ds)] M Q:=λH vs QQ oa s k=>by obtain⟨v,r,rfl,h1,h2⟩:=s;cases h2;unfold SI DV at h1;obtain⟨a,vs,rfl,hl,hd⟩:=h1;exact⟨_,_,rfl,.inl ⟨vs,hl.sq,rfl⟩,k _ H (.d (.int ds.length)) M oa (by rw[hd.length];exact D9) Step.refl q⟩
theorem g6 {ds:List PyData}(q:Q (.d (.int ds.length)) M):DR K (λxs H Q=>∃x n,xs=[x]/\eU K x H n/\Q (.int (n:Nat)) H) [.d (.tuple ds)] M Q:=λH vs QQ oa s k=>by obtain⟨v,r,rfl,h1,h2⟩:=s;cases h2;unfold SI DV at h1;obtain⟨a,vs,rfl,hl,hd⟩:=h1;exact⟨_,_,rfl,.inr ⟨vs,hl.sq,rfl⟩,k _ H (.d (.int ds.length)) M oa (by rw[hd.length];exact D9) Step.refl q⟩
theorem lI {bs:List Bool}(q:Q (.d (.bool (bs.all id))) M):DR K (λxs H Q=>∃(p:Addr) (bs:List Bool),xs=[.ref p]/\SqL K H p (bs.map V.bl)/\Q (.bl (bs.all id)) H) [.d (.list (bs.map .bool))] M Q:=λH vs QQ oa s k=>by obtain⟨v,r,rfl,h1,h2⟩:=s;cases h2;unfold SI DV at h1;obtain⟨a,vs,rfl,hl,hd⟩:=h1;rw[L9 hd] at hl;exact⟨a,bs,rfl,hl.sq,k _ H _ M oa AL Step.refl q⟩
theorem lJ {bs:List Bool}(q:Q (.d (.bool (bs.any id))) M):DR K (λxs H Q=>∃(p:Addr) (bs:List Bool),xs=[.ref p]/\SqL K H p (bs.map V.bl)/\Q (.bl (bs.any id)) H) [.d (.list (bs.map .bool))] M Q:=λH vs QQ oa s k=>by obtain⟨v,r,rfl,h1,h2⟩:=s;cases h2;unfold SI DV at h1;obtain⟨a,vs,rfl,hl,hd⟩:=h1;rw[L9 hd] at hl;exact⟨a,bs,rfl,hl.sq,k _ H _ M oa AL Step.refl q⟩
theorem g7 {z:Str}:DTy K "str" (.d (.str z)) M:=λH v _ s=>by rw[BV s];exact rfl
theorem F8 {a:Addr}{ds:List PyData}(m:M a=some (.l ds)):DTy K "list" (.loc a) M:=λH v oa s=>by unfold SI at s;subst s;obtain⟨vs,h0,hd⟩:=oa a _ m;exact .inl ⟨rfl,vs,SqL.of h0⟩
theorem g8 {y:Str}{ys:List Str}(hz:(ys.map (·.length)).sum+ys.length*y.length<=16777216) (q:Q (.d (.str (Txt.join y ys))) M):DM K (aH K) (.d (.str y)) [.d (.list (ys.map .str))] M Q:=λH v vs QQ oa s1 s2 k=>by obtain⟨u,r,rfl,h1,h2⟩:=s2;cases h2;rw[BV s1];unfold SI DV at h1;obtain⟨a,us,rfl,hl,hd⟩:=h1;rw[EH hd] at hl;exact⟨y,a,ys,rfl,rfl,hl.sq,hz,k _ H _ M oa IQ Step.refl q⟩
theorem CO {a:Addr}{ds:List PyData}{d:PyData}(m:M a=some (.l ds)) (hz:ds.length < sizeLine) (q:Q (.d .none) (M.put a (.l (ds++[d])))):DM K R7 (.loc a) [.d d] M Q:=λH v vs QQ oa s1 s2 k=>by obtain⟨u,r,rfl,h1,h2⟩:=s2;cases h2;unfold SI at s1;subst s1;obtain⟨us,h0,hd⟩:=oa a _ m;obtain⟨x,y⟩:=Q2 oa m (hd.append (DVs.cons h1 DVs.nil));exact⟨a,us,u,rfl,rfl,h0,by rw[hd.length];exact hz,k _ _ (.d .none) _ x (by unfold SI DV;rfl) y q⟩
theorem g9 {z:Str}{lo hi:Option Int}(hz:z.length<=sizeLine) (q:Q (.d (.str (a8K z lo hi))) M):DSl K kT (.d (.str z)) lo hi M Q:=λH v QQ oa s1 k=>by rw[BV s1];exact⟨z,rfl,hz,k _ H _ M oa IQ Step.refl q⟩
def RE (xs:List PyData) (lo hi:Option Int):List PyData:=(xs.drop (HT.sIx xs.length 0 lo)).take (HT.sIx xs.length xs.length hi - HT.sIx xs.length 0 lo)
theorem aQ {ds:List PyData}{lo hi:Option Int}(q:Q (.d (.list (RE ds lo hi))) M):DSl K (kK K) (.d (.list ds)) lo hi M Q:=λH v QQ oa s1 k=>by
 unfold SI DV at s1;obtain⟨a,vs,rfl,hl,hd⟩:=s1;refine⟨a,vs,rfl,hl.sq,λp hp=>?_⟩;have g:Grow K M.W M.W H (upd H p (.lst (ML vs lo hi))):=BI _ hp;have key:DVs K H M.W (RE ds lo hi) (ML vs lo hi):=by unfold RE ML;rw[hd.length];exact(hd.drop _).take _
 refine k _ _ (.d (.list (RE ds lo hi))) M (oa.new hp) ?_ ⟨g⟩ q;unfold SI DV;exact⟨p,_,rfl,.inl ⟨λw=>w (oa.none hp),.inl AN⟩,key.grow g⟩
end
end DL
namespace DL
open PySem PySem.Spec L2
structure WD (K:Frg) (J:It) (ds:List PyData) (H1:Hp) (M1:Own):Prop where
 go:∀(i:Nat) H' M',i < ds.length->OA K H' M'->Step K M1 M' H1 H'->J.go i H'
 stop:∀H' M',OA K H' M'->Step K M1 M' H1 H'->J.stop ds.length H'
 yld:∀(i:Nat) H' M' x H2,OA K H' M'->Step K M1 M' H1 H'->i < ds.length->J.yld i H' x H2->OA K H2 M'/\Step K M' M' H' H2/\∃d,ds[i]?=some d/\DV K H2 M'.W d x
def DI (K:Frg) (wi:TI) (ρ:List (Option DS)) (M:Own) (Q:List PyData->Own->Prop):Prop:=∀(σ:St) (H:Hp) (R:It->Hp->Prop),Rel K M ρ σ H->(∀J ds H1 M1,OA K H1 M1->Step K M M1 H H1->WD K J ds H1 M1->Q ds M1->R J H1)->wi σ H R
def DG (K:Frg) (g:TG) (d:PyData) (ρ:List (Option DS)) (M:Own) (P:List (Option DS)->Own->Prop):Prop:=∀(σ:St) (H:Hp) (v:V) (QQ:St->Hp->Prop),Rel K M ρ σ H->DV K H M.W d v->(∀ρ' M' σ' H',Rel K M' ρ' σ' H'->Step K M M' H H'->P ρ' M'->QQ σ' H')->g v σ H QQ
def Q3 (g:TG) (T:List Nat):Prop:=∀(v:V) (σ:St) (H:Hp) (QQ:St->Hp->Prop),g v σ H (λσ2 H2=>(∀i,i∉T->σ2[i]?=σ[i]?)->QQ σ2 H2)->g v σ H QQ
section
variable {K:Frg}{ρ:List (Option DS)}{M:Own}{D:EndsD}{tl:TE}{tb:TS}{i:Nat}{QI:List PyData->Own->Prop}{g:TG}{wi:TI}
def EI (lo:Int) (n:Nat):List PyData:=(a0Z n).map λ(i:Nat)=>.int (lo+i)
theorem EA {ta:TA}(h:DA K ta ρ M λxs M1=>∃j:Int,xs=[.d (.int j)]/\-(2 ^ 62)<=j/\j < 2 ^ 62/\QI (EI 0 j.toNat) M1):DI K (iP ta) ρ M QI:=λσ H R Rl k=>
 h σ H _ Rl λvs H1 xs M1 o1 s1 t1 ⟨j,e,h1,h2,q⟩=>by
   subst e;obtain⟨v,r,rfl,h3,h4⟩:=s1;cases h4;rw[show v = .int j by unfold SI DV at h3;exact h3];have ab:(EI 0 j.toNat).length=j.toNat:=by simp[EI]
   refine⟨j,rfl,h1,h2,k _ (EI 0 j.toNat) H1 M1 o1 t1 ⟨λi H' M' hi oa st=>?_,λH' M' oa st=>?_,λi H' M' x H2 oa st hi y=>?_⟩ q⟩;. show i < j.toNat;rw[<-ab];exact hi
   . show j.toNat<=(EI 0 j.toNat).length;rw[ab];exact zR _
   . obtain⟨rfl,rfl⟩:=y;refine⟨oa,Step.refl,.int (0+i),?_,by unfold DV;rfl⟩;unfold EI;rw[zF];rw[ab] at hi;simp[hi]
theorem gA {d:PyData}{P:List (Option DS)->Own->Prop}(h:P (ρ.set i (some (.d d))) M):DG K (N3 i) d ρ M P:=λσ H v QQ R dv k=>k _ M _ H (R.set (x:=.d d) dv i) Step.refl h
theorem AT (i:Nat):Q3 (N3 i) [i]:=λv σ H QQ h=>h λj hj=>by rw[b2K (by rintro rfl;exact hj (by simp))]
abbrev EndsD.turn (D:EndsD) (P:List (Option DS)->Own->Prop):EndsD:={ nx:=P,ct:=P,bk:=D.nx,rt:=D.rt }
theorem CK (h:DI K wi ρ M λds M1=>∃P:Nat->List (Option DS)->Own->Prop,P 0 ρ M1/\(∀k d ρ' M',ds[k]?=some d->P k ρ' M'->DG K g d ρ' M' λρ2 M2=>DSt K tb ρ2 M2 (D.turn (P (k+1))))/\∀ρ' M',P ds.length ρ' M'->D.nx ρ' M') :
   DSt K (nA wi g tb) ρ M D:=λσ H E R k1 k2 k3 k4=>
 h σ H _ R λJ ds H1 M1 o1 t1 wd ⟨P,p0,pt,pe⟩=>by
   refine⟨λi m σ' H'=>m=ds.length - i/\i<=ds.length/\∃ρ' M',Rel K M' ρ' σ' H'/\Step K M1 M' H1 H'/\P i ρ' M',⟨_,rfl,xT _,ρ,M1,R.step o1 t1,Step.refl,p0⟩,?_⟩;rintro i m σ' H' ⟨rfl,hi,ρ',M',R',st,p⟩;by_cases bb:i < ds.length;. refine .inr ⟨wd.go i H' M' bb R'.own st,λσ2 H2=>∃ρ2 M2,Rel K M2 ρ2 σ2 H2/\Step K M1 M2 H1 H2/\P (i+1) ρ2 M2,λσ2 H2 ⟨ρ2,M2,a,b,c⟩=>⟨ds.length - (i+1),by omega,rfl,bb,ρ2,M2,a,b,c⟩,λx H2 y=>?_⟩;obtain⟨u5,dr,d,e1,e2⟩:=wd.yld i H' M' x H2 R'.own st bb y;refine pt i d ρ' M' e1 p σ' H2 x _ (R'.step u5 dr) e2 λρ3 M3 σ3 H3 R3 fg b3=>?_;have s3:=(st.trans dr).trans fg;exact b3 σ3 H3 _ R3 (λr m s hh R4 ix q=>⟨r,m,R4,s3.trans ix,q⟩) (λw hh x m a b c q=>k2 w hh x m a b (t1.trans (s3.trans c)) q) (λr m s hh R4 ix q=>k1 r m s hh R4 (t1.trans (s3.trans ix)) q) (λr m s hh R4 ix q=>⟨r,m,R4,s3.trans ix,q⟩)
   . have e:i=ds.length:=by omega
     subst e;exact .inl ⟨wd.stop H' M' R'.own st,k1 ρ' M' σ' H' R' (t1.trans st) (pe ρ' M' p)⟩
def LZ (fr:List (Option Nat)) (ρ:List (Option DS)):List (Option DS):=fr.map λo=>o.bind λj=>(ρ[j]?).join
theorem LA {fr:List (Option Nat)}{α:Type}{ρ:List (Option α)}{i:Nat}{x:α}(h:(fr.map λo=>o.bind λj=>(ρ[j]?).join)[i]?=some (some x)):∃j,fr[i]?=some (some j)/\ρ[j]?=some (some x):=by
 rw[zF] at h;cases hf:fr[i]? with
 | none=>rw[hf] at h;cases h
 | some o=>
   rw[hf] at h;cases o with
   | none=>cases h
   | some j=>
     refine⟨j,rfl,?_⟩;have e2:((ρ[j]?).join)=some x:=Option.some.inj h;cases hs:ρ[j]? with
     | none=>rw[hs] at e2;cases e2
     | some q=>rw[hs] at e2;cases q with
       | none=>cases e2
       | some v'=>cases e2;rfl
theorem Rel.capt {fr:List (Option Nat)}{σ:St}{H:Hp}(R:Rel K M ρ σ H):Rel K M (LZ fr ρ) (L2.capt fr σ) H:=by refine⟨R.own,by unfold LZ L2.capt;rw[zX,zX],λi x e=>?_⟩;obtain⟨j,e1,e2⟩:=LA e;obtain⟨v,h1,h2⟩:=R.slot j x e2;refine⟨v,?_,h2⟩;unfold L2.capt;rw[zF,e1];simp[h1]
theorem X1 {fr:List (Option Nat)}{tt:TT}{te:TE}{T:List Nat}{Q:DS->Own->Prop}(ho:Q3 g T) (hT:∀i∈T,∀j,fr[i]?≠some (some j)) (h:DI K wi ρ M λds M1=>ds.length < sizeLine/\∀D,M1 D=none->∃P:Nat->List PyData->Own->Prop,P 0 [] (M1.put D (.l []))/\(∀k acc M',P k acc M'->M' D=some (.l acc)/\acc.length<=k) /\(∀k d acc M',ds[k]?=some d->P k acc M'->DG K g d (LZ fr ρ) M' λρ2 M2=>DT K tt ρ2 M2 λc M3=>if c=true then DE K te ρ2 M3 λy M4=>∃r,y = .d r/\M4 D=some (.l acc)/\P (k+1) (acc++[r]) (M4.put D (.l (acc++[r]))) else P (k+1) acc M3) /\∀acc M',P ds.length acc M'->Q (.d (.list acc)) (M'.del D)) :
   DE K (Q0 fr wi g tt te) ρ M Q:=λσ H QQ R k=>
 h σ H _ R λJ ds H1 M1 o1 t1 wd ⟨hsz,hq⟩=>by
   intro A hA;obtain⟨P,p0,pa,pt,pe⟩:=hq A (o1.none hA);obtain⟨oA,sA⟩:=WW o1 hA (DVs.nil (K:=K) (H:=H1) (W:=M1.W));refine⟨λi m ys H2=>m=ds.length - i/\i<=ds.length/\H2 A=some (.lst ys)/\∃acc M',OA K H2 M'/\Step K M1 M' H1 H2/\P i acc M',⟨_,rfl,xT _,AN,[],_,oA,sA,p0⟩,?_⟩;rintro i m ys H2 ⟨rfl,hi,mf,acc,M',oa,st,p⟩;refine⟨mf,?_⟩;have jy:∀{N:Own},(N.del A).Sub N:=λ{N} b o q=>by
     unfold Own.del at q;by_cases hb:b=A;. rw[if_pos hb] at q;cases q
     . rw[if_neg hb] at q;exact q
   by_cases bb:i < ds.length
   . refine .inr ⟨wd.go i H2 M' bb oa st,λx H3 y=>?_⟩;obtain⟨qQ,fg,d,e1,e2⟩:=wd.yld i H2 M' x H3 oa st bb y;have Rc:Rel K M' (LZ fr ρ) (L2.capt fr σ) H3:=((R.step o1 t1).step qQ (st.trans fg)).capt;refine ho _ _ _ _ (pt i d acc M' e1 p (L2.capt fr σ) H3 x _ Rc e2 λρ3 M3 σ3 H4 R3 ix b3 hext=>⟨λi' v' mh=>?_,?_⟩);. obtain⟨j,f1,f2⟩:=LA mh;rw[hext i' λhm=>hT i' hm j f1];exact mh
     . refine b3 σ3 H4 _ R3 λc H5 M5 o5 fq h5=>?_;have sx:=((st.trans fg).trans ix).trans fq;cases c with
       | false=> rw[if_neg nft] at h5 ⊢;obtain⟨hm,_⟩:=pa _ _ _ h5;obtain⟨vs,q1,q2⟩:=o5 A _ hm;exact⟨vs,ds.length - (i+1),by omega,rfl,bb,q1,acc,M5,o5,sx,h5⟩
       | true=> rw[if_pos rfl] at h5 ⊢;refine h5 σ3 H5 _ (R3.step o5 fq) λy H6 z M6 o6 s6 pZ h6=>?_;obtain⟨r,rfl,hm,p'⟩:=h6;obtain⟨vs,q1,q2⟩:=o6 A _ hm;obtain⟨w1,w2⟩:=Q2 o6 hm (q2.append (DVs.cons s6 DVs.nil));have ab:acc.length<=i:=(pa _ _ _ p).2;exact⟨vs,q1,by rw[q2.length];omega,ds.length - (i+1),by omega,rfl,bb,AN,_,_,w1,(sx.trans pZ).trans w2,p'⟩
   . have e:i=ds.length:=by omega
     subst e;refine .inl ⟨wd.stop H2 M' oa st,?_⟩;obtain⟨hm,_⟩:=pa _ _ _ p;obtain⟨vs,q1,q2⟩:=oa A _ hm;have di:Step K M' (M'.del A) H2 H2:=⟨BP jy⟩
     refine k _ H2 (.d (.list acc)) (M'.del A) (oa.sub jy) ?_ ((t1.trans st).trans di) (pe acc M' p);unfold SI DV;exact⟨A,vs,rfl,.inl ⟨λw=>w (by unfold Own.del;rw[if_pos rfl]),.inl q1⟩,q2.grow (BP jy)⟩
theorem AM {fr:List (Option Nat)}{tt:TT}{te:TE}{T:List Nat}{Q:DS->Own->Prop}(ho:Q3 g T) (hT:∀i∈T,∀j,fr[i]?≠some (some j)) (h:DI K wi ρ M λds M1=>ds.length < sizeLine/\∃(c:PyData->Bool) (f:PyData->PyData),(∀d∈ds,∀M',DG K g d (LZ fr ρ) M' λρ2 M2=>M2=M'/\DT K tt ρ2 M2 λb M3=>M3=M'/\b=c d/\(c d=true->DE K te ρ2 M3 λy M4=>y = .d (f d)/\M4=M'))/\Q (.d (.list ((ds.filter c).map f))) M1) :
   DE K (Q0 fr wi g tt te) ρ M Q:=by
 refine X1 ho hT λσ H R Rl k=>h σ H R Rl λJ ds H1 M1 o1 t1 wd q=>k J ds H1 M1 o1 t1 wd ?_;obtain⟨hsz,c,f,he,q⟩:=q;refine⟨hsz,λA hA=>⟨λk acc M'=>acc=((ds.take k).filter c).map f/\M'=M1.put A (.l acc),⟨by simp,rfl⟩,λk acc M' ⟨e1,e2⟩=>⟨by rw[e2];exact zU,?_⟩,λk d acc M' hd ⟨e1,e2⟩=>?_,λacc M' ⟨e1,e2⟩=>?_⟩⟩;. rw[e1,zX];exact zN (yJ _ _) (by rw[a0V];omega)
 . have hm:d∈ds:=yN hd;intro σ H v QQ R dv kk;refine he d hm M' σ H v QQ R dv λρ' M2 σ' H' R' st ⟨eM,q2⟩=>kk ρ' M2 σ' H' R' st λσ2 H2 QQ2 R2 k2=>?_;refine q2 σ2 H2 QQ2 R2 λb H3 M3 o3 fg ⟨qR,eb,q3⟩=>k2 b H3 M3 o3 fg ?_;have ts:(ds.take (k+1)).filter c=(ds.take k).filter c++(if c d then [d] else []):=take_succ_filter c ds k d hd;cases hb:c d with
   | false=> rw[hb] at eb;subst eb;refine L2.fG ⟨?_,by rw[qR,e2]⟩;rw[ts,hb,e1];simp
   | true=>
     rw[hb] at eb;subst eb;refine L2.fH ?_;refine WX (q3 hb) λy M4 ⟨ey,e4⟩=>⟨f d,ey,by rw[e4,e2];exact zU,?_,by rw[e4,e2,yI]⟩
     rw[ts,hb,e1];simp
 . rw[e2,yG hA,e1,a1J];exact q
end
def RF (N:List Str) (xs:List DS):List (Option DS):=xs.map some++b4K (N.length - xs.length) none
section
variable {P:Program}{w:World}{K:Frg}{mg:Str->Option Value}{base:Heap}
theorem SIs.get {M:Own}{H:Hp}:∀{xs:List DS}{vs:List V}{i:Nat}{x:DS},SIs K H M xs vs->xs[i]?=some x->∃v,vs[i]?=some v/\SI K H M x v
 | [],_,_,_,_,e=>by simp at e
 | d::ds,vs,i,x,⟨v,r,e',h1,h2⟩,e=>by
   subst e';cases i with
   | zero=>simp at e;subst e;exact⟨v,rfl,h1⟩
   | succ i=>simpa using SIs.get h2 (by simpa using e)
theorem YG {M:Own}{H:Hp}{N:List Str}{xs:List DS}{vs:List V}(oa:OA K H M) (h:SIs K H M xs vs):Rel K M (RF N xs) (L2.GY N vs) H:=by
 have hl:=h.length;refine⟨oa,by unfold RF L2.GY;simp[hl],λi x e=>?_⟩;unfold RF at e;by_cases hi:i < xs.length
 . rw[yQ (by simpa using hi),zF] at e;cases q:xs[i]? with
   | none=>rw[q] at e;cases e
   | some y=> rw[q] at e;cases e;obtain⟨v,h1,h2⟩:=h.get q;refine⟨v,?_,h2⟩;unfold L2.GY;rw[yQ (by rw[zX,hl];exact hi),zF,h1];rfl
 . rw[List.getElem?_append_right (by simpa using hi),List.getElem?_replicate] at e;split at e <;> cases e
theorem fnD {x qual:Str}{st:Stmt}{f:Addr}{fd:FuncData}{N ps:List Str}{k:Nat}{S:FSp}(F:Fun K x qual st f fd) (Sc:FnScope N ps (AC st)) (du:∀(cdv:Value) (A:Around) (outer:List Env) (s:Shared) (H:Hp) (E:XK),Room k (A.deeper (PyProof.Rows.envOfC qual (AC st) s.heap.objs.size f cdv)) ->∃t,PSs (V8 CX0 P w K mg base N qual (AC st) f cdv A outer s H E).nox (CS st) t/\∀xs M,xs.length=ps.length->S.pre xs M->DSt K t (RF N xs) M { nx:=λ_ M1=>∃M2:Own,M2.Sub M1/\S.post xs M (.d .none) M2,rt:=λy M1=>∃M2:Own,M2.Sub M1/\S.post xs M y M2 }) :
   FnOk P w K mg base CX0 (k+1) f fd ps (spD K ps.length S):=by
 refine F.ok Sc fV λcdv A outer s H vs Q E hr h=>?_;obtain⟨t,ht,hq⟩:=du cdv A outer s H E hr;obtain⟨xs,M,hl,oa,si,pre,post⟩:=h;refine⟨t,ht,hq xs M hl pre (L2.GY N vs) H _ (YG oa si) ?_ ?_ (λ_ _ _ _ _ _ z=>z.elim) (λ_ _ _ _ _ _ z=>z.elim)⟩;. rintro ρ' M1 σ' H' R st ⟨M2,hs,p⟩;exact post (.d .none) M2 .non H' p (st.trans ⟨BP hs⟩) (R.own.sub hs) (by unfold SI DV;rfl)
 . rintro v H' y M1 o s1 st ⟨M2,hs,p⟩;exact post y M2 v H' p (st.trans ⟨BP hs⟩) (o.sub hs) (s1.sub hs)
end
end DL
namespace L2
open PySem PySem.Spec PyProof.Rows
section
variable {X:Cx}{tg:Expr}
def SZ (K:Frg):R2:=λx y H Q=>(rI0 λi j=>.int (i+j)) x y H Q\/((∃i j,x = .str i/\y = .str j/\i.length+j.length<=sizeLine/\Q (.str (i++j)) H)\/iY K x y H Q)
theorem gB:OpR X (binaryOp .Add) (SZ X.K):=jW.or (V6.or fS)
def aR (K:Frg):R2:=λx y H Q=>kF K x y H Q\/(kG K x y H Q\/kH x y H Q)
theorem lK:IxR X (aR X.K):=fA.or (kI.or kJ)
def gC (K:Frg):V->Option Int->Option Int->Hp->VK->Prop:=λx lo hi H Q=>kK K x lo hi H Q\/kT x lo hi H Q
theorem lL:SlR X (gC X.K):=fB.or kU
def oH:R2:=λx y H Q=>(rI0 λi j=>.bl (decide (i < j))) x y H Q\/∃i j,x = .str i/\y = .str j/\Q (.bl (decide (i.cps.toList < j.cps.toList))) H
theorem aS:OpR X (compareOp .Lt) oH:=nD.or Y9
def gD (K:Frg):R2:=λx y H Q=>(∃i j,x = .str i/\y = .str j/\Q (.bl (!(b0J j i 0 j.length 1).isEmpty)) H)\/rIn K false x y H Q
theorem lM:OpR X (compareOp .In) (gD X.K):=YA.or YD
def RG (K:Frg):R2:=λx y H Q=>(∃i j,x = .str i/\y = .str j/\Q (.bl (!(!(b0J j i 0 j.length 1).isEmpty))) H)\/rIn K true x y H Q
theorem YH:OpR X (compareOp .NotIn) (RG X.K):=QX.or R5
def gE (K:Frg) (tl:TE):TI:=λσ H R=>tl σ H λx H1=>(∃a,x = .ref a/\(∃xs,SqL K H1 a xs)/\R (Itl K a) H1)\/(∃a,x = .ref a/\(∃xs,SqT K H1 a xs)/\R (Itt K a) H1)\/∃y,x = .str y/\R (Its y) H1
theorem lN {l:Expr}{tl:TE}(hl:PE X l tl):PI X tg l (gE X.K tl):=by
 intro pins s σ H R I h;refine thn (hl pins s σ H _ I h) λv s1 ⟨x,H1,I1,r1,q1⟩=>?_;have fp:∀b∈[s1.heap.objs.size],OY X pins H1 b:=λb hb=>by
   have e:b=s1.heap.objs.size:=by simpa using hb
   subst e;exact I1.fpOk (zR _) (I1.hok.fresh (zR _))
 rcases q1 with ⟨a,e,⟨xs,hq⟩,q⟩ | ⟨a,e,⟨xs,hq⟩,q⟩ | ⟨y,e,q⟩
 . subst e;cases r1;obtain⟨aa,rv,p,hz⟩:=I1.list hq;refine wpAny_pyIter_list p.isList ?_;exact⟨s1.heap.objs.size,[s1.heap.objs.size],_,_,H1,rfl,I1.kept (t':=s1.toks) λb o e=>zW _ e,Y6 a _,⟨_,yZ _ rfl,rfl,rfl⟩,fp,q⟩
 . subst e;cases r1;obtain⟨aa,rv,p,hz⟩:=I1.tuple hq;refine wpAny_pyIter_tuple (show s1.heap.IsTuple a aa.toArray from p) ?_;exact⟨s1.heap.objs.size,[s1.heap.objs.size],_,_,H1,rfl,I1.kept (t':=s1.toks) λb o e=>zW _ e,V4 a _,⟨_,yZ _ rfl,rfl,rfl⟩,fp,q⟩
 . subst e;obtain⟨t,rfl⟩:=r1;cases ha:y.cps.all (· < 128)
   . exact wpAny_pyIter_wide ha ⟨s1.heap.objs.size,[s1.heap.objs.size],_,_,H1,rfl,I1.kept (t':=s1.toks) λb o e=>zW _ e,
       SX s1.heap.objs.size "str_iterator" y t (by decide) (λA hA=>Walks.strWide hA _ y t) (λ_ _ _ _ _ st h=>wpAny_pyIter_striter_wide st h),⟨_,yZ _ rfl,rfl,rfl⟩,fp,q⟩
   . exact wpAny_pyIter_ascii ha ⟨s1.heap.objs.size,[s1.heap.objs.size],_,_,H1,rfl,I1.kept (t':=s1.toks) λb o e=>zW _ e,
       SX s1.heap.objs.size "str_ascii_iterator" y t (by decide) (λA hA=>Walks.strAscii hA _ y t) (λ_ _ _ _ _ st h=>wpAny_pyIter_striter_ascii st h),⟨_,yZ _ rfl,rfl,rfl⟩,fp,q⟩
end
def aT:NameKind->Bool | .free=>true | _=>false
def aU:NameKind->Bool | .cell=>true | _=>false
def X2:NameKind->Bool | .local=>true | _=>false
def aV (jh:Scope) (ON:List Str) (scope:Scope) (NC:List Str) (fr:List (Option Nat)):Bool:=(match scope.kind with | .function=>true | _=>false)&&scope.names.all (λy=>!aU y.2) &&
 scope.names.all (λy=>!X2 y.2||(match scope.names.lookup y.1 with | some .local=>true | _=>false)) &&
 scope.names.all (λy=>!aT y.2||(match jh.names.lookup y.1 with | some .cell=>true | some .free=>true | _=>false)) &&
 fr.length==NC.length &&
 (a0Z NC.length).all λi=>match fr[i]?,NC[i]? with
   | some (some j),some x=>ON[j]?==some x&&(match scope.names.lookup x with | some .free=>true | _=>false)&&(match jh.names.lookup x with | some .cell=>true | some .free=>true | _=>false)
   | _,_=>true
theorem CSc.of {X:Cx}{scope:Scope}{NC:List Str}{fr:List (Option Nat)}{jh:Scope}{ON:List Str}(h:aV jh ON scope NC fr=true) (e:X.env.scope=jh) (eN:X.N=ON):CSc X scope NC fr:=by
 subst e eN;unfold aV at h;simp only[a1Z,b0K,List.mem_range,beq_iff_eq] at h;obtain⟨⟨⟨⟨⟨h1,h2⟩,h3⟩,h4⟩,h5⟩,h6⟩:=h;refine⟨?_,λy hy e=>?_,λy hy e=>?_,λy hy e=>?_,h5,λi j x e1 e2=>?_⟩;. cases hk:scope.kind <;> rw[hk] at h1 <;> simp at h1 ⊢
 . have:=h2 y hy;rw[e] at this;simp[aU] at this
 . have:=h3 y hy;rw[e] at this;simp only[X2,Bool.not_true,Bool.false_or] at this;cases hl:scope.names.lookup y.1 with
   | none=>rw[hl] at this;cases this
   | some k=>rw[hl] at this;cases k <;> first | rfl | cases this
 . have:=h4 y hy;rw[e] at this;simp only[aT,Bool.not_true,Bool.false_or] at this;cases hl:X.env.scope.names.lookup y.1 with
   | none=>rw[hl] at this;cases this
   | some k=>
     rw[hl] at this;cases k <;> first
       | exact .inl hl
       | exact .inr hl
       | cases this
 . have hi:i < NC.length:=(yT.mp e1).1;have:=h6 i hi;rw[e1,e2] at this;simp only[a1Z,beq_iff_eq] at this;obtain⟨⟨q1,q2⟩,q3⟩:=this;refine⟨q1,?_,?_⟩
   . cases hl:scope.names.lookup x with
     | none=>rw[hl] at q2;cases q2
     | some k=>rw[hl] at q2;cases k <;> first | rfl | cases q2
   . cases hl:X.env.scope.names.lookup x with
     | none=>rw[hl] at q3;cases q3
     | some k=>
       rw[hl] at q3;cases k <;> first
         | exact⟨.inr (.inl hl),λz=>by have z':X.env.scope.names.lookup x=some .local:=z;rw[hl] at z';cases z'⟩
         | exact⟨.inr (.inr hl),λz=>by have z':X.env.scope.names.lookup x=some .local:=z;rw[hl] at z';cases z'⟩
         | cases q3
end L2
namespace DL
open PySem PySem.Spec L2
section
variable {K:Frg}{ρ:List (Option DS)}{M:Own}{Q:DS->Own->Prop}{H:Hp}{QI:List PyData->Own->Prop}{tl ta tb:TE}
theorem aW {i j:Int}(q:Q (.d (.int (i+j))) M):D2 K (SZ K) (.d (.int i)) (.d (.int j)) M Q:=FN (oB q)
theorem aX {i j:Str}(hz:i.length+j.length<=sizeLine) (q:Q (.d (.str (i++j))) M):D2 K (SZ K) (.d (.str i)) (.d (.str j)) M Q:=FO (FN (g0 hz q))
theorem aY {a b:List PyData}(hz:a.length+b.length<=sizeLine) (q:Q (.d (.list (a++b))) M):D2 K (SZ K) (.d (.list a)) (.d (.list b)) M Q:=FO (FO (lH hz q))
theorem AR {ds:List PyData}{i:Int}{d:PyData}(e:atI ds i=some d) (q:Q (.d d) M):D2 K (aR K) (.d (.list ds)) (.d (.int i)) M Q:=FN (lD e q)
theorem AB {ds:List PyData}{i:Int}{d:PyData}(e:atI ds i=some d) (q:Q (.d d) M):D2 K (aR K) (.d (.tuple ds)) (.d (.int i)) M Q:=FO (FN (lE e q))
theorem X3 {z:Str}{i:Int}{c:Nat}(hz:z.length<=sizeLine) (e:atI z.cps.toList i=some c) (q:Q (.d (.str ⟨#[c]⟩)) M):D2 K (aR K) (.d (.str z)) (.d (.int i)) M Q:=FO (FO (lG hz e q))
theorem aZ {z:Str}{lo hi:Option Int}(hz:z.length<=sizeLine) (q:Q (.d (.str (a8K z lo hi))) M):DSl K (gC K) (.d (.str z)) lo hi M Q:=λH v QQ oa s1 k=>.inr (g9 hz q H v QQ oa s1 k)
theorem YI {ds:List PyData}{lo hi:Option Int}(q:Q (.d (.list (RE ds lo hi))) M):DSl K (gC K) (.d (.list ds)) lo hi M Q:=λH v QQ oa s1 k=>.inl (aQ q H v QQ oa s1 k)
theorem gF {i j:Int}(q:Q (.d (.bool (decide (i < j)))) M):D2 K oH (.d (.int i)) (.d (.int j)) M Q:=FN (oG q)
theorem X4 {x:Str}{ys:List Str}(q:Q (.d (.bool (decide (x∈ys)))) M):D2 K (gD K) (.d (.str x)) (.d (.list (ys.map .str))) M Q:=FO (lC (neg:=false) q)
theorem BQ (h:DE K tl ρ M λx M1=>∃ds,x = .d (.list ds)/\QI ds M1):DI K (gE K tl) ρ M QI:=λσ H R Rl k=>
 h σ H _ Rl λv H1 x M1 o1 s1 t1 ⟨ds,e,q⟩=>by
   subst e;unfold SI DV at s1;obtain⟨a,vs,rfl,hl,hd⟩:=s1;refine .inl ⟨a,rfl,⟨vs,hl.sq⟩,k _ ds H1 M1 o1 t1 ⟨λi H' M' hi oa st=>?_,λH' M' oa st=>?_,λi H' M' x H2 oa st hi y=>?_⟩ q⟩;. exact⟨vs,vs[i]'(by rw[hd.length];exact hi),(hl.grow st.grow).sq,by simp[hd.length,hi]⟩
   . exact⟨vs,(hl.grow st.grow).sq,by rw[hd.length];exact zR _⟩
   . obtain⟨rfl,y⟩:=y;obtain⟨d,e1,e2⟩:=hd.get (y vs (hl.grow st.grow).sq);exact⟨oa,Step.refl,d,e1,e2.grow st.grow⟩
theorem B8 (h:DE K tl ρ M λx M1=>∃ds,x = .d (.tuple ds)/\QI ds M1):DI K (gE K tl) ρ M QI:=λσ H R Rl k=>
 h σ H _ Rl λv H1 x M1 o1 s1 t1 ⟨ds,e,q⟩=>by
   subst e;unfold SI DV at s1;obtain⟨a,vs,rfl,hl,hd⟩:=s1;refine .inr (.inl ⟨a,rfl,⟨vs,hl.sq⟩,k _ ds H1 M1 o1 t1 ⟨λi H' M' hi oa st=>?_,λH' M' oa st=>?_,λi H' M' x H2 oa st hi y=>?_⟩ q⟩);. exact⟨vs,vs[i]'(by rw[hd.length];exact hi),(hl.grow st.grow).sq,by simp[hd.length,hi]⟩
   . exact⟨vs,(hl.grow st.grow).sq,by rw[hd.length];exact zR _⟩
   . obtain⟨rfl,y⟩:=y;obtain⟨d,e1,e2⟩:=hd.get (y vs (hl.grow st.grow).sq);exact⟨oa,Step.refl,d,e1,e2.grow st.grow⟩
def tyD:PyData->String
 | .none => "NoneType"
 | .bool _ => "bool"
 | .int _ => "int"
 | .str _ => "str"
 | .list _ => "list"
 | .tuple _ => "tuple"
 | .dict _ => "dict"
end
end DL
namespace L2
open PySem PySem.Spec PyProof.Rows
section
variable {X:Cx}
def bA (K:Frg):List V->Hp->VK->Prop:=λxs H Q=>∃(x:V) (T:String) (d:PyData) (W:Addr->Prop) (b:Bool),xs=[x,.ty T]/\DV K H W d x/\PySem.W.kitOne K (.type (DL.tyD d)) (.type T)=some b/\Q (.bl b) H
theorem YJ:BO X (.builtin "isinstance") (bA X.K):=by
 intro pins s σ H xs us Q I r h;obtain⟨x,T,d,W,b,rfl,dv,e,q⟩:=h;obtain⟨u,u',rfl,ru,u6⟩:=nE r;cases u6;have fin:∀tk,EP X pins σ Q (.bool b) { s with toks:=tk }:=λtk=>⟨.bl b,H,I.tok _,rfl,q⟩
 cases d with
 | none=>unfold DV at dv;subst dv;exact FS I ru (TyOf.non) e fin
 | bool y=>unfold DV at dv;subst dv;exact FS I ru (TyOf.bl _) e fin
 | int i=>unfold DV at dv;subst dv;exact FS I ru (TyOf.int _) e fin
 | str y=>unfold DV at dv;subst dv;exact FS I ru (TyOf.str _) e fin
 | list ds=> unfold DV at dv;obtain⟨a,vs,rfl,hl,_⟩:=dv;cases ru;obtain⟨aa,rv,⟨o,n,h1,h2,_,_⟩,_⟩:=I.list hl.sq;exact a2X PySem.W.kitx_list I.kIn ⟨o,h1,h2⟩ e (λz=>nomatch z) fin
 | tuple ds=> unfold DV at dv;obtain⟨a,vs,rfl,hl,_⟩:=dv;cases ru;obtain⟨aa,rv,⟨o,h1,h2,_⟩,_⟩:=I.tuple hl.sq;exact a2X PySem.W.kitx_tuple I.kIn ⟨o,h1,h2⟩ e (λz=>nomatch z) fin
 | dict kvs=>
   unfold DV at dv;obtain⟨a,vs,rfl,_,hl,_⟩:=dv;rcases hl with hl | ⟨o',hl⟩
   . exact FS I ru (TyOf.dK hl) e fin
   . cases ru;obtain⟨_,_,ko,_,dd⟩:=FU I.hok (.inr ⟨o',hl⟩);exact a2X PySem.W.kitx_dict I.kIn dd.typeIs e (λz=>nomatch z) fin
end
end L2
namespace DL
open PySem PySem.Spec L2
section
variable {K:Frg}{ρ:List (Option DS)}{M:Own}{Q:DS->Own->Prop}{H:Hp}{ta tb:TE}
theorem bB {d:PyData}{T:String}{b:Bool}(e:PySem.W.kitOne K (.type (tyD d)) (.type T)=some b) (q:Q (.d (.bool b)) M):DR K (bA K) [.d d,.ty T] M Q:=λH vs QQ oa s k=>by obtain⟨v,r,rfl,h1,v2,r2,rfl,h2,h3⟩:=s;cases h3;rw[show v2 = .ty T from h2];exact⟨v,T,d,M.W,b,rfl,h1,e,k _ H _ M oa AL Step.refl q⟩
theorem K4 {p:Addr}{ks:List (Key×V)}{kvs:List (PyData×PyData)}(oa:OA K H M) (h:H p=b4V) (hd:DKV K H M.W kvs ks) :
   OA K (upd H p (.dK ks)) (M.put p (.d kvs))/\Step K M (M.put p (.d kvs)) H (upd H p (.dK ks)):=by
 have hM:=oa.none h;have g:Grow K M.W (M.put p (.d kvs)).W H (upd H p (.dK ks)):=⟨λb u e _=>.inl (by rw[AS (BX e h)];exact e),λb w=>by
   by_cases hb:b=p;. subst hb;exact .inr h
   . left;unfold Own.W at w ⊢;rw[yH hb] at w;exact w⟩
 refine⟨λa o e=>?_,⟨g⟩⟩;by_cases ha:a=p;. subst ha;rw[zU] at e;cases e;exact⟨ks,AN,hd.grow g⟩
 . rw[yH ha] at e;have q:=oa a o e;cases o <;> (obtain⟨vs,q1,q2⟩:=q;exact⟨vs,by rw[AS ha];exact q1,q2.grow g⟩)
theorem GK {p:Addr}{ks:List (Key×V)}{kvs:List (PyData×PyData)}{o:MO}(oa:OA K H M) (h:M p=some o) (hd:DKV K H M.W kvs ks) :
   OA K (upd H p (.dK ks)) (M.put p (.d kvs))/\Step K M (M.put p (.d kvs)) H (upd H p (.dK ks)):=by
 have hw:∀b,(M.put p (.d kvs)).W b->M.W b:=λb w=>by
   unfold Own.W at w ⊢;by_cases hb:b=p;. subst hb;rw[h];simp
   . rw[yH hb] at w;exact w
 have g:Grow K M.W (M.put p (.d kvs)).W H (upd H p (.dK ks)):=⟨λb u e nw=>.inl (by
   rw[AS (by rintro rfl;exact nw (by unfold Own.W;rw[h];simp))];exact e),λb w=>.inl (hw b w)⟩
 refine⟨λa o e=>?_,⟨g⟩⟩;by_cases ha:a=p;. subst ha;rw[zU] at e;cases e;exact⟨ks,AN,hd.grow g⟩
 . rw[yH ha] at e;have q:=oa a o e;cases o <;> (obtain⟨vs,q1,q2⟩:=q;exact⟨vs,by rw[AS ha];exact q1,q2.grow g⟩)
end
structure Has (P:Program) (w:World) (K:Frg) (mg:Str->Option Value) (base:Heap) (x:Str) (k:Nat) (ps:List Str) (S:FSp):Prop where
 ex:∃f fd,FnOk P w K mg base CX0 k f fd ps (spD K ps.length S)/\mg x=some (.ref f)/\b0Q K (.ref f)=true/\Binds K fd ps []
theorem bC {X:Cx}{x:Str}{k:Nat}{ps:List Str}{S:FSp}{e:Expr}{es:List Expr}{t:TA}{p pos:Pos}(h:Has X.prog X.w X.K X.mg X.base x k ps S) (hr:Room k X.A) (hg:Gl X x) (ha:PA X (e::es) t) (ig:(x==("__debug__":Str))=false:=by decide) (he:starEach (e::es) X.env=(false,eval e X.env)::starEach es X.env:=by rfl) (dz:(backTo pos (starEach es X.env)).any (·.1)=false:=by rfl) :
   PE X (.Call (.Name x p) (e::es) [] pos) (WP (spD X.K ps.length S) [] E0 t):=by obtain⟨f,fd,F,hm,hk,hb⟩:=h.ex;exact eZ F hr hg hm hk hb .nil nP ha ig he dz
section
variable {X:Cx}{K:Frg}
theorem kIx (h:X.K=K):IxR X (aR K):=h▸lK
theorem kIn (h:X.K=K):OpR X (compareOp .In) (gD K):=h▸lM
theorem VE (h:X.K=K):OpR X (compareOp .NotIn) (RG K):=h▸YH
theorem kEq (h:X.K=K) (hu:X.A.units+64 < cLine):OpR X (compareOp .Eq) (P1 K false):=h▸aJ hu
theorem kNe (h:X.K=K) (hu:X.A.units+64 < cLine):OpR X (compareOp .NotEq) (P1 K true):=h▸aK hu
def lO (K:Frg):List V->Hp->VK->Prop:=λxs H Q=>∃x n,xs=[x]/\eU K x H n/\Q (.int (n:Nat)) H
def j0 (K:Frg):List V->Hp->VK->Prop:=λxs H Q=>∃(p:Addr) (bs:List Bool),xs=[.ref p]/\SqL K H p (bs.map V.bl)/\Q (.bl (bs.all id)) H
def j1 (K:Frg):List V->Hp->VK->Prop:=λxs H Q=>∃(p:Addr) (bs:List Bool),xs=[.ref p]/\SqL K H p (bs.map V.bl)/\Q (.bl (bs.any id)) H
theorem pM (h:X.K=K):BO X (.builtin "len") (lO K):=h▸a6
theorem pN (h:X.K=K) (hc:X.calm=true):BO X (.builtin "all") (j0 K):=h▸aF hc
theorem pO (h:X.K=K) (hc:X.calm=true):BO X (.builtin "any") (j1 K):=h▸aG hc
theorem pP (h:X.K=K):BO X (.builtin "isinstance") (bA K):=h▸YJ
theorem oI (h:X.K=K):MtR X "str.join" (aH K):=h▸fR
theorem oJ {tg l:Expr}{tl:TE}(h:X.K=K) (hl:PE X l tl):PI X tg l (gE K tl):=h▸lN hl
theorem oK {P:Program}{w:World}{mg:Str->Option Value}{base:Heap}{x:Str}{k:Nat}{ps:List Str}{S:FSp}{e:Expr}{es:List Expr}{t:TA}{p pos:Pos}(hK:X.K=K) (hP:X.prog=P) (hw:X.w=w) (mi:X.mg=mg) (u7:X.base=base) (h:Has P w K mg base x k ps S) (hr:Room k X.A) (hg:Gl X x) (ha:PA X (e::es) t) (ig:(x==("__debug__":Str))=false:=by decide) (he:starEach (e::es) X.env=(false,eval e X.env)::starEach es X.env:=by rfl) (dz:(backTo pos (starEach es X.env)).any (·.1)=false:=by rfl) :
   PE X (.Call (.Name x p) (e::es) [] pos) (WP (spD K ps.length S) [] E0 t):=by subst hK hP hw mi u7;exact bC h hr hg ha ig he dz
variable {o e:Expr}{es:List Expr}{to:TE}{t:TA}{name:Str}{apos aj:Pos}{T id:String}{r:V->List V->Hp->VK->Prop}
theorem kBm (h:X.K=K) (pa:PlainAttrs T) (slot:Slot T name id) (lj:typeOf (.builtin id)=pure (.type "method_descriptor")) (hm:MtR X id r) (ho:PE X o to) (ha:PA X (e::es) t) (gi:attributeBase o name X.env (eval o X.env)=eval o X.env:=by rfl)
   (ju:((backTo aj (starEach (e::es) X.env)).all (λx=>!x.1)&&(backToKw aj (keywordEach [] X.env)).all (λx=>x.1.isSome)
     && decide ((e::es).length+([]:List Keyword).length+(if ([]:List Keyword).isEmpty then 0 else 1) < 30))=true:=by rfl)
   (gj:(apos.endLine==aj.line)=true:=by rfl) (hs:starEach (e::es) X.env=(false,eval e X.env)::starEach es X.env:=by rfl) (ej:(backTo aj (starEach es X.env)).any (·.1)=false:=by rfl) :
   PE X (.Call (.Attribute o name apos) (e::es) [] aj) (tBM K T r to t):=h▸nK pa slot lj hm ho ha gi ju gj hs ej
end
section
variable {K:Frg}{M:Own}{Q:DS->Own->Prop}
theorem IR {ds:List PyData}(q:Q (.d (.int ds.length)) M):DR K (lO K) [.d (.list ds)] M Q:=g5 q
theorem RH {ds:List PyData}(q:Q (.d (.int ds.length)) M):DR K (lO K) [.d (.tuple ds)] M Q:=g6 q
theorem HU {bs:List Bool}(q:Q (.d (.bool (bs.all id))) M):DR K (j0 K) [.d (.list (bs.map .bool))] M Q:=lI q
theorem bD {bs:List Bool}(q:Q (.d (.bool (bs.any id))) M):DR K (j1 K) [.d (.list (bs.map .bool))] M Q:=lJ q
end
end DL
namespace L2
open PySem PySem.Spec PyProof.Rows
section
variable {X:Cx}
theorem T0:∀{aa:List Value}{ss:List Str},StrsAre aa ss->Vals (ss.map V.str) aa
 | _,_,.nil=>.nil
 | _,_,.cons y t r=>.cons ⟨t,rfl⟩ (T0 r)
def bE (K:Frg):List V->Hp->VK->Prop:=λxs H Q=>∃(p:Addr) (ss:List Str),xs=[.ref p]/\SqL K H p (ss.map V.str)/\ss.length < 64/\∀(ak:List Str) (q:Addr),ak.Perm ss->sortedS ak=true->H q=none->Q (.ref q) (upd H q (.lst (ak.map V.str)))
theorem VF:BO X (.builtin "sorted") (bE X.K):=by intro pins s σ H xs us Q I r h;obtain⟨p,ss,rfl,hp,bc,q⟩:=h;obtain⟨u,rfl,ru⟩:=FR r;cases ru;obtain⟨aa,rv,pl,hz⟩:=I.list hp;have hS:=K1 rv;have el:=rv.length;rw[zX] at el;refine sorted_strs pl.isList hS (by lia) λout ak h1 h2 h3=>?_;obtain⟨e,he⟩:=sortedAll_at s.heap aa out;have hn:H (s.heap.objs.size+1)=none:=I.hok.fresh (a6V _);have ab:=h2.length_eq;refine⟨.ref (s.heap.objs.size+1),_,I.laid (t':=s.toks) (o:=.lst (ak.map V.str)) (λb o eb=>sortedAll_old eb) (a6V _) ?_,rfl,q ak _ h2 h3 hn⟩;refine⟨by rw[zX,ab];exact zN (xR bc) (by decide),out.toList,e,T0 h1,?_⟩;have ji:=he;simpa [seqObj] using ji
end
end L2
namespace DL
open PySem PySem.Spec L2
section
variable {X:Cx}{K:Frg}
def T1 (K:Frg):List V->Hp->VK->Prop:=λxs H Q=>∃p ys,xs=[.ref p]/\((SqL K H p ys/\∀l,H l=none->Q (.ref l) (upd H l (.tup ys)))\/(SqT K H p ys/\Q (.ref p) H))
theorem lP (h:X.K=K):BO X (.type "tuple") (T1 K):=h▸P0
def X5 (K:Frg):List V->Hp->VK->Prop:=λxs H Q=>∃p ys,xs=[.ref p]/\(SqL K H p ys\/SqT K H p ys)/\∀l,H l=none->Q (.ref l) (upd H l (.lst ys))
theorem oM (h:X.K=K):BO X (.type "list") (X5 K):=h▸R6
end
section
variable {K:Frg}{M:Own}{Q:DS->Own->Prop}{ρ:List (Option DS)}{H:Hp}
theorem IS {ds:List PyData}(q:Q (.d (.tuple ds)) M):DR K (T1 K) [.d (.list ds)] M Q:=λH vs QQ oa s k=>by obtain⟨v,r,rfl,h1,h2⟩:=s;cases h2;unfold SI DV at h1;obtain⟨a,vs,rfl,hl,hd⟩:=h1;refine⟨a,vs,rfl,.inl ⟨hl.sq,λp hp=>?_⟩⟩;have g:Grow K M.W M.W H (upd H p (.tup vs)):=BI _ hp;refine k _ _ (.d (.tuple ds)) M (oa.new hp) ?_ ⟨g⟩ q;unfold SI DV;exact⟨p,vs,rfl,.inl ⟨λw=>w (oa.none hp),.inl AN⟩,hd.grow g⟩
theorem NH {ds:List PyData}(q:Q (.d (.list ds)) M):DR K (X5 K) [.d (.tuple ds)] M Q:=λH vs QQ oa s k=>by obtain⟨v,r,rfl,h1,h2⟩:=s;cases h2;unfold SI DV at h1;obtain⟨a,vs,rfl,hl,hd⟩:=h1;refine⟨a,vs,rfl,.inr hl.sq,λp hp=>?_⟩;have g:Grow K M.W M.W H (upd H p (.lst vs)):=BI _ hp;refine k _ _ (.d (.list ds)) M (oa.new hp) ?_ ⟨g⟩ q;unfold SI DV;exact⟨p,vs,rfl,.inl ⟨λw=>w (oa.none hp),.inl AN⟩,hd.grow g⟩
theorem F9 {W:Addr->Prop}:∀{bs:List Str},DVs K H W (bs.map a0J) (bs.map V.str)
 | []=>DVs.nil
 | b::bs=>DVs.cons (by unfold DV;rfl) F9
def FA:PyData->Bool | .none=>true | _=>false
theorem lQ {d:PyData}(q:Q (.d (.bool (FA d))) M):D2 K (λx y H Q=>y = .non/\Q (.bl (decide (x = .non))) H) (.d d) (.d .none) M Q:=λH v u QQ oa s1 s2 k=>by
 refine⟨aO s2,k _ H (.d (.bool (FA d))) M oa ?_ Step.refl q⟩;cases d <;> unfold SI DV at s1;. rw[s1];exact AL
 . rw[s1];exact AL
 . rw[s1];exact AL
 . rw[s1];exact AL
 . obtain⟨a,_,rfl,_⟩:=s1;exact AL
 . obtain⟨a,_,rfl,_⟩:=s1;exact AL
 . obtain⟨a,_,rfl,_⟩:=s1;exact AL
theorem gG {d:PyData}(q:Q (.d (.bool (!FA d))) M):D2 K (λx y H Q=>y = .non/\Q (.bl (!decide (x = .non))) H) (.d d) (.d .none) M Q:=λH v u QQ oa s1 s2 k=>by
 refine⟨aO s2,k _ H (.d (.bool (!FA d))) M oa ?_ Step.refl q⟩;cases d <;> unfold SI DV at s1;. rw[s1];exact AL
 . rw[s1];exact AL
 . rw[s1];exact AL
 . rw[s1];exact AL
 . obtain⟨a,_,rfl,_⟩:=s1;exact AL
 . obtain⟨a,_,rfl,_⟩:=s1;exact AL
 . obtain⟨a,_,rfl,_⟩:=s1;exact AL
end
def DGs (K:Frg) (g:TGs) (ds:List PyData) (ρ:List (Option DS)) (M:Own) (P:List (Option DS)->Own->Prop):Prop:=∀(σ:St) (H:Hp) (vs:List V) (QQ:St->Hp->Prop),Rel K M ρ σ H->DVs K H M.W ds vs->(∀ρ' M' σ' H',Rel K M' ρ' σ' H'->Step K M M' H H'->P ρ' M'->QQ σ' H')->g vs σ H QQ
section
variable {K:Frg}{M:Own}{ρ:List (Option DS)}{P:List (Option DS)->Own->Prop}
theorem gH (h:P ρ M):DGs K jO [] ρ M P:=λσ H vs QQ R hd k=>by unfold DVs at hd;subst hd;exact⟨rfl,k ρ M σ H R Step.refl h⟩
theorem bF {i:Nat}{g:TGs}{d:PyData}{ds:List PyData}(h:DGs K g ds (ρ.set i (some (.d d))) M P):DGs K (ZV (N3 i) g) (d::ds) ρ M P:=λσ H vs QQ R hd k=>by unfold DVs at hd;obtain⟨v,r,rfl,h1,h2⟩:=hd;exact⟨v,r,rfl,h (σ.set i (some v)) H r QQ (R.set (x:=.d d) h1 i) h2 k⟩
theorem lR {n:Nat}{g:TGs}{ds:List PyData}(hn:ds.length=n) (h:DGs K g ds ρ M P):DG K (eQ K n g) (.tuple ds) ρ M P:=λσ H v QQ R dv k=>by unfold DV at dv;obtain⟨a,vs,rfl,hl,hd⟩:=dv;exact⟨a,vs,rfl,hl.sq,by rw[hd.length];exact hn,h σ H vs QQ R hd k⟩
def gI (g:TGs) (T:List Nat):Prop:=(∀(vs:List V) (σ:St) (H:Hp) (Q Q':St->Hp->Prop),(∀a b,Q a b->Q' a b)->g vs σ H Q->g vs σ H Q') /\(∀(vs:List V) (σ:St) (H:Hp) (QQ:St->Hp->Prop),g vs σ H QQ->g vs σ H λσ2 H2=>(∀i,i∉T->σ2[i]?=σ[i]?)/\QQ σ2 H2)
theorem lS:gI jO []:=⟨λvs σ H Q Q' m ⟨e,h⟩=>⟨e,m _ _ h⟩,λvs σ H QQ ⟨e,h⟩=>⟨e,λ_ _=>rfl,h⟩⟩
theorem MW {i:Nat}{g:TGs}{T:List Nat}(hg:gI g T):gI (ZV (N3 i) g) (i::T):=by refine⟨λvs σ H Q Q' m ⟨v,r,e,h⟩=>⟨v,r,e,hg.1 r _ H Q Q' m h⟩,λvs σ H QQ ⟨v,r,e,h⟩=>⟨v,r,e,?_⟩⟩;refine hg.1 r _ H _ _ (λσ2 H2 ⟨h1,h2⟩=>⟨λj hj=>?_,h2⟩) (hg.2 r (σ.set i (some v)) H QQ h);rw[h1 j λz=>hj (yV _ z),b2K (by rintro rfl;exact hj a1X)]
theorem lT {n:Nat}{g:TGs}{T:List Nat}(hg:gI g T):Q3 (eQ K n g) T:=λv σ H QQ ⟨a,xs,e,hs,hl,h⟩=>
 ⟨a,xs,e,hs,hl,hg.1 xs σ H _ _ (λσ2 H2 ⟨h1,h2⟩=>h2 h1) (hg.2 xs σ H _ h)⟩
end
end DL
namespace HT
open PySem PySem.Spec PyProof.Rows
section
variable {prog:Program}{w:World}{A:Around}{E:Value->Shared->Prop}{s:Shared}
theorem getItem_tuple_whole {t sl:Addr}{items:Array Value}{vl vu:Value}{lo hi:Option Int}{Q:Value->Shared->Prop}(ht:IsTup s.heap t items) (hs:s.heap.IsSliceOf sl vl vu .none) (pl:IsPart vl lo) (pu:IsPart vu hi) (hw:sIx items.size 0 lo=0/\sIx items.size items.size hi=items.size) (h:Q (.ref t) s):wpAny (model prog w) A (getItem (.ref t) (.ref sl)) Q E s:=by
 obtain⟨os,jt,ph,li⟩:=id hs;have qy:s.TypeIs (.ref sl) "slice" := ⟨os,jt,ph⟩
 unfold getItem;try with_reducible refine wpAny_holding ?_
 first | refine zZ (zY ?_) | skip
 refine zZ (wpAny_sequenceKey ht.typeIs (by decide) ?_);refine zZ (wpAny_callSpecial?_slot (name:=a0Q "__getitem__") ht.typeIs a6Q (wpAny_call_entry a6Q ht.typeIs entry_tuple_getitem ?_ (args_tuple_getitem _ _)));show wpAny _ _ (Builtin.Tuple.tupleItemsOf (.ref t) >>= _) _ _ s;refine zZ (tupleItemsOf_ ht ?_);refine zZ (wpAny_typeOf qy ?_);rw[if_pos (by decide)];refine zZ (FT hs pl pu ?_);have ij:((((sIx items.size 0 lo:Nat):Int)==0&&(1:Int)==1&&(sIx items.size items.size hi - sIx items.size 0 lo)==items.size)=true):=by rw[hw.1,hw.2];simp
 show wpAny _ _ (if (((sIx items.size 0 lo:Nat):Int)==0&&(1:Int)==1&&(sIx items.size items.size hi - sIx items.size 0 lo)==items.size)=true then _ else _) _ _ s;rw[if_pos ij];refine zZ (m:=Builtin.Tuple.tupleIsExact _) (zZ (wpAny_typeOf ht.typeIs (zY ?_)));show wpAny _ _ (if true=true then _ else _) _ _ s;rw[if_pos rfl];first
   | exact zZ (wpAny_rule (zZ (zY ⟨_,rfl,zY h⟩)))
   | exact zZ (wpAny_rule (zY ⟨_,rfl,zY h⟩))
   | exact zZ (wpAny_rule (zZ (zY (zY ⟨_,rfl,zY h⟩))))
end
end HT
namespace L2
open PySem PySem.Spec PyProof.Rows
section
variable {X:Cx}
def j2 (K:Frg):V->Option Int->Option Int->Hp->VK->Prop:=λx lo hi H Q=>∃a xs,x = .ref a/\SqT K H a xs/\(ML xs lo hi=xs->Q (.ref a) H)/\∀p,H p=none->Q (.ref p) (upd H p (.tup (ML xs lo hi)))
theorem gJ:SlR X (j2 X.K):=by
 intro pins s σ H x v vl vu lo hi sl Q I rx hs pl pu h;obtain⟨a,xs,rfl,hx,q1,q2⟩:=h;cases rx;obtain⟨aa,r,ht,hz⟩:=I.tuple hx;have ab:aa.toArray.size=xs.length:=by rw[zJ];exact r.length.symm
 by_cases hw:HT.sIx xs.length 0 lo=0/\HT.sIx xs.length xs.length hi=xs.length;. refine⟨"tuple", _,PyProof.Rows.slot_tuple_getitem.lookup,ht.typeIs,?_⟩;refine HT.getItem_tuple_whole ht hs pl pu (by rw[ab];exact hw) ⟨.ref a,H,I,rfl,q1 ?_⟩;unfold ML;rw[hw.1,hw.2];simp
 . exact kE pins s σ H (.ref a) (.ref a) vl vu lo hi sl Q I rfl hs pl pu ⟨a,xs,rfl,hx,hw,q2⟩
def VG (K:Frg):R2:=λx y H Q=>∃a b xs ys,x = .ref a/\y = .ref b/\SqT K H a xs/\SqT K H b ys/\xs.length+ys.length<=sizeLine /\(xs=[]->Q (.ref b) H)/\(ys=[]->Q (.ref a) H)/\(∀p,H p=none->Q (.ref p) (upd H p (.tup (xs++ys))))
theorem bG:OpR X (binaryOp .Add) (VG X.K):=by
 intro pins s σ H x y v u Q I rx ry h;obtain⟨t,b,xs,ys,rfl,rfl,hx,hy,hz,q0,q1,q2⟩:=h;cases rx;cases ry;obtain⟨aa,r,ht,_⟩:=I.tuple hx;obtain⟨a_,r2,hb,_⟩:=I.tuple hy;have e1:=r.length;have e2:=r2.length;obtain⟨⟨cls,dd,data,sl⟩,ho,hc,n,hd⟩:=id ht;obtain⟨⟨ma,iu,data2,iw⟩,ho2,hc2,n2,hd2⟩:=id hb;dsimp only at hc hd hc2 hd2;subst hc hd hc2 hd2;have e:aa.toArray++a_.toArray=(aa++a_).toArray:=by simp
 by_cases hv:aa=[]
 . have mj:xs=[]:=by cases r with | nil=>rfl | cons _ _=>cases hv
   exact concat_meets ⟨_,ho,rfl⟩ ⟨_,ho2,rfl⟩ noFill_tuple_add seq_tuple_add a5Z a4K (a4X _ _) (tuple_addW0 t b aa.toArray a_.toArray n n2 dd iu sl iw (by simp[hv])) ⟨ho,ho2,⟨.ref b,H,I,rfl,q0 mj⟩⟩
 . by_cases hw:a_=[]
   . have dj:ys=[]:=by cases r2 with | nil=>rfl | cons _ _=>cases hw
     exact concat_meets ⟨_,ho,rfl⟩ ⟨_,ho2,rfl⟩ noFill_tuple_add seq_tuple_add a5Z a4K (a4X _ _) (tuple_addW1 t b aa.toArray a_.toArray n n2 dd iu sl iw (by simpa using hv) (by simp[hw])) ⟨ho,ho2,⟨.ref t,H,I,rfl,q1 dj⟩⟩
   . refine concat_meets ⟨_,ho,rfl⟩ ⟨_,ho2,rfl⟩ noFill_tuple_add seq_tuple_add a5Z a4K (a4X _ _) (tuple_addW2 t b aa.toArray a_.toArray n n2 dd iu sl iw (by simpa using hv) (by simpa using hw) (by rw[zJ,zJ];lia)) ⟨ho,ho2,?_⟩;rw[e];refine⟨.ref s.heap.objs.size,_,I.laid (t':=s.toks) (o:=.tup (xs++ys)) (λb ob q=>zW _ q) (zR _) ?_,rfl,q2 _ I.fresh⟩;exact⟨by rw[yY];exact hz,aa++a_,r.append r2,IsTup.new _ _⟩
end
end L2
namespace DL
open PySem PySem.Spec L2
section
variable {X:Cx}{K:Frg}
def T2 (K:Frg):R2:=λx y H Q=>SZ K x y H Q\/VG K x y H Q
theorem oN (h:X.K=K):OpR X (binaryOp .Add) (T2 K):=h▸gB.or bG
def lU (K:Frg):V->Option Int->Option Int->Hp->VK->Prop:=λx lo hi H Q=>gC K x lo hi H Q\/j2 K x lo hi H Q
theorem pQ (h:X.K=K):SlR X (lU K):=h▸lL.or gJ
end
section
variable {K:Frg}{M:Own}{Q:DS->Own->Prop}
theorem bH {i j:Int}(q:Q (.d (.int (i+j))) M):D2 K (T2 K) (.d (.int i)) (.d (.int j)) M Q:=FN (aW q)
theorem bI {i j:Str}(hz:i.length+j.length<=sizeLine) (q:Q (.d (.str (i++j))) M):D2 K (T2 K) (.d (.str i)) (.d (.str j)) M Q:=FN (aX hz q)
theorem bJ {a b:List PyData}(hz:a.length+b.length<=sizeLine) (q:Q (.d (.list (a++b))) M):D2 K (T2 K) (.d (.list a)) (.d (.list b)) M Q:=FN (aY hz q)
theorem CT {as bs:List PyData}(hz:as.length+bs.length<=sizeLine) (q:Q (.d (.tuple (as++bs))) M):D2 K (T2 K) (.d (.tuple as)) (.d (.tuple bs)) M Q:=FO λH v u QQ oa s1 s2 k=>by
 have iy:=s1;have qS:=s2;unfold SI DV at s1 s2;obtain⟨a,vs,rfl,hl,hd⟩:=s1;obtain⟨b,us,rfl,gn,hd2⟩:=s2;refine⟨a,b,vs,us,rfl,rfl,hl.sq,gn.sq,by rw[hd.length,hd2.length];exact hz,λe=>?_,λe=>?_,λp hp=>?_⟩
 . have:as=[]:=by have:=hd.length;rw[e] at this;exact List.length_eq_zero_iff.mp this.symm
   subst this;exact k _ H (.d (.tuple ([]++bs))) M oa qS Step.refl q
 . have:bs=[]:=by have:=hd2.length;rw[e] at this;exact List.length_eq_zero_iff.mp this.symm
   subst this;rw[a2K] at q;exact k _ H (.d (.tuple as)) M oa iy Step.refl q
 . have g:Grow K M.W M.W H (upd H p (.tup (vs++us))):=BI _ hp;refine k _ _ (.d (.tuple (as++bs))) M (oa.new hp) ?_ ⟨g⟩ q;unfold SI DV;exact⟨p,_,rfl,.inl ⟨λw=>w (oa.none hp),.inl AN⟩,(hd.append hd2).grow g⟩
theorem T3 {z:Str}{lo hi:Option Int}(hz:z.length<=sizeLine) (q:Q (.d (.str (a8K z lo hi))) M):DSl K (lU K) (.d (.str z)) lo hi M Q:=λH v QQ oa s1 k=>.inl (aZ hz q H v QQ oa s1 k)
theorem YK {ds:List PyData}{lo hi:Option Int}(q:Q (.d (.list (RE ds lo hi))) M):DSl K (lU K) (.d (.list ds)) lo hi M Q:=λH v QQ oa s1 k=>.inl (YI q H v QQ oa s1 k)
end
theorem gK {X:Cx}{K:Frg}{pos:Pos}{es:List Expr}{k:Nat}{t:TGs}{n:Nat}(hK:X.K=K) (hc:X.calm=true) (h:PGs X es t) (hn:(assignEach es X.env).length=n:=by rfl) (di:(assignEach es X.env).findIdx? (·.1)=none:=by rfl):PG X (.Tuple es k pos) (eQ K n t):=hK▸ZX hc h hn di
end DL
namespace DL
open PySem PySem.Spec L2
def NI (c:Nat):Bool:=decide (97<=c)&&decide (c<=122)
section
variable {K:Frg}{ρ:List (Option DS)}{M:Own}{D:EndsD}{t u:TS}
theorem VH (P:List (Option DS)->Own->Prop) (h:DSt K t ρ M { D with nx:=P }) (h2:∀ρ1 M1,P ρ1 M1->DSt K u ρ1 M1 D):DSt K (jM t u) ρ M D:=
 aN (fZ h (λρ' M' p=>h2 ρ' M' p) (λ_ _ q=>q) (λ_ _ q=>q) (λ_ _ q=>q))
end
def K5 (z:Str):Prop:=1<=z.cps.size/\z.cps.size<=8/\∀c∈z.cps.toList,NI c=true
theorem p64:(2:Int) ^ 64=18446744073709551616:=by decide
theorem RI {i j:Int}(h1 : -1000000000000000 < i) (h2:i < 1000000000000000):CMul i j:=by refine .inl ⟨?_,?_⟩ <;> rw[p64] <;> lia
theorem bK {i j:Int}(h1 : -1000000000000000 < j) (h2:j < 1000000000000000):CMul i j:=by refine .inr ⟨?_,?_⟩ <;> rw[p64] <;> lia
theorem pR {xs:List DS}{ds:List PyData}{Q:List PyData->Prop}(e:P2 xs=some ds) (h:ds.length<=sizeLine) (q:Q ds):∃ds,P2 xs=some ds/\ds.length<=sizeLine/\Q ds:=⟨ds,e,h,q⟩
theorem gL {x y:Str}(h:x.cps.toList=y.cps.toList):x=y:=by obtain⟨⟨a⟩⟩:=x;obtain⟨⟨b⟩⟩:=y;simp at h;subst h;rfl
theorem NJ:∀(cs:List Nat) (acc:Array Nat),((cs.map λc=>(⟨#[c]⟩:Str)).foldl (λacc p=>acc++(a0Q "").cps++p.cps) acc)=acc++cs.toArray
 | [],acc=>by simp
 | c::cs,acc=>by
   rw[zI,List.foldl_cons,NJ cs];have e:(a0Q "").cps=#[]:=by decide +kernel
   rw[e];apply Array.ext';simp
theorem VI (cs:List Nat):Txt.join (a0Q "") (cs.map λc=>(⟨#[c]⟩:Str))=⟨cs.toArray⟩:=by
 unfold Txt.join Builtin.Str.glued;cases cs with
 | nil=>rfl
 | cons c cs=> simp only[zI,List.drop_succ_cons,List.drop_zero,List.headD_cons];rw[NJ];congr 1;apply Array.ext';simp
theorem bL (n len:Nat):Builtin.Str.strSliceIndices none (some (n:Int)) 1 len=a0Z (min n len):=by
 unfold Builtin.Str.strSliceIndices sliceRange;have h1:¬((n:Int) < 0):=by lia
 have h2:max 0 (min (n:Int) (len:Int))=((min n len:Nat):Int):=by lia
 simp only[show(1:Int) > 0 by decide,if_true,h1,if_false,h2];have h3:(if (0:Int) < ((min n len:Nat):Int) then (((min n len:Nat):Int) - 0+1 - 1)/1 else 0).toNat=min n len:=by
   split;. rw[Int.ediv_one];lia
   . lia
 rw[h3];apply a9W;intro i;rw[zF];by_cases h:i < min n len;. simp[yA h]
 . simp[a2J (show(a0Z (min n len)).length<=i by simp;lia)]
theorem YL (l:List Nat) (a:Array Nat) (m:Nat) (h:a.toList=l):(a0Z m).filterMap (λi=>a[i]?)=l.take m:=by
 induction m with
 | zero=>simp
 | succ m ih=>
   rw[List.range_succ,List.filterMap_append,ih,a1Q];have e:a[m]?=l[m]?:=by rw[<-h];simp
   simp only[a7J,List.filterMap_nil,e];cases l[m]? <;> simp
theorem VJ (z:Str) (n:Nat):(a8K z none (some (n:Int))).cps.toList=z.cps.toList.take n:=by
 unfold a8K;rw[bL];have hl:z.length=z.cps.toList.length:=by simp[Str.length]
 split;. rename_i h;simp only[xZ,beq_self_eq_true,b6Q,beq_iff_eq] at h;rw[List.take_of_length_le (by rw[<-hl];lia)]
 . show(List.filterMap _ _).toArray.toList=_;rw[YL z.cps.toList z.cps _ rfl,List.toList_toArray,hl,List.take_eq_take_iff];lia
theorem P3 (x y:Str):(x++y).cps.toList=x.cps.toList++y.cps.toList:=by show(x.cps++y.cps).toList=_;simp
theorem M0:(a0Q "abcdefghijklmnopqrstuvwxyz").length=26:=by decide +kernel
theorem Q4:∀cs:List Nat,((cs.map λc=>(⟨#[c]⟩:Str)).map (·.length)).sum=cs.length
 | []=>rfl
 | c::cs=>by rw[zI,zI,b1X,Q4 cs];show 1+cs.length=cs.length+1;lia
theorem YM (z:Str) (l u:Option Int) {n:Nat}(h:z.length<=n):(a8K z l u).length<=n:=zN (Txt.slice_le z l u) h
theorem lV {c:Nat}(h:NI c=true):c < 128:=by unfold NI at h;simp at h;lia
theorem Q5 (s:Str):s.cps.size=s.cps.toList.length:=by simp
end DL
namespace DL
open PySem PySem.Spec L2
def sl (a b:Str):Bool:=b1Q a.cps.toList b.cps.toList
theorem Q6:∀a:List Nat,b1Q a a=false
 | []=>rfl
 | a::r=>by simp[b1Q,Q6 r]
theorem T4:∀a b c:List Nat,b1Q a b=true->b1Q b c=true->b1Q a c=true
 | [],[],_,h,_=>by cases h
 | [],_::_,[],_,h=>by cases h
 | [],_::_,_::_,_,_=>rfl
 | _::_,[],_,h,_=>by cases h
 | _::_,_::_,[],_,h=>by cases h
 | a::r,b::t,c::u,h1,h2=>by
   simp only[b1Q,Bool.or_eq_true,decide_eq_true_eq,a1Z,beq_iff_eq] at h1 h2 ⊢;rcases h1 with h1 | ⟨rfl,h1⟩
   . rcases h2 with h2 | ⟨rfl,h2⟩
     . exact .inl (xQ h1 h2)
     . exact .inl h1
   . rcases h2 with h2 | ⟨rfl,h2⟩
     . exact .inl h2
     . exact .inr ⟨rfl,T4 r t u h1 h2⟩
theorem T5:∀a b:List Nat,b1Q a b=false->b1Q b a=false->a=b
 | [],[],_,_=>rfl
 | [],_::_,h,_=>by cases h
 | _::_,[],_,h=>by cases h
 | a::r,b::t,h1,h2=>by
   simp only[b1Q,Bool.or_eq_false_iff,decide_eq_false_iff_not,Bool.and_eq_false_iff] at h1 h2;have e:a=b:=by lia
   subst e;simp at h1 h2;rw[T5 r t h1 h2]
theorem Q7 (a:Str):sl a a=false:=Q6 _
theorem NK {a b c:Str}(h1:sl a b=true) (h2:sl b c=true):sl a c=true:=T4 _ _ _ h1 h2
theorem HV {a b:Str}(h1:sl a b=false) (h2:sl b a=false):a=b:=gL (T5 _ _ h1 h2)
theorem bM {a b:Str}(h:sl a b=true):sl b a=false:=by
 cases e:sl b a with
 | false=>rfl
 | true=>have:=NK h e;rw[Q7] at this;cases this
theorem oO (a b:Str):decide (a.cps.toList < b.cps.toList)=sl a b:=PyProof.Rows.lt_meets a b
def Ris (ss:List Str):Prop:=ss.Pairwise λa b=>sl a b=true
theorem YN:∀ss:List Str,xG ss=true->ss.Pairwise λa b=>sl b a=false
 | [],_=>.nil
 | a::r,h=>by
   have key:∀(r:List Str) (p:Str),PyProof.Rows.risingS p r=true->(p::r).Pairwise λa b=>sl b a=false:=by
     intro r;induction r with
     | nil=>intro p _;simp
     | cons x r ih=>
       intro p h;unfold PyProof.Rows.risingS at h;simp only[a1Z,Bool.not_eq_true'] at h;have h2:=ih x h.2;refine List.pairwise_cons.mpr ⟨λc hc=>?_,h2⟩;have hx:sl x p=false:=h.1;rcases yX.mp hc with rfl | hc;. exact hx
       . have qP:sl c x=false:=(List.pairwise_cons.mp h2).1 c hc;cases e:sl c p with
         | false=>rfl
         | true=>
           cases e2:sl x c with
           | true=>have:=NK e2 e;rw[hx] at this;cases this
           | false=>have:=HV qP e2;subst this;rw[hx] at e;cases e
   exact key r a h
theorem Ris.nodup {ss:List Str}(h:Ris ss):ss.Nodup:=h.imp λ{a b} q=>by rintro rfl;rw[Q7] at q;cases q
theorem IT {d:PyData}(h1:d.canLay0=true) (h2:d.depth<=64):zH d=true:=by unfold zH;rw[h1,decide_eq_true h2];rfl
theorem NL {ds:List PyData}(h:∀d∈ds,d.canLay0=true):b4Z ds=true:=by
 induction ds with
 | nil=>rfl
 | cons d r ih=>rw[b4Z,h d a1X,ih λx hx=>h x (yV _ hx)];rfl
theorem LB {ds:List PyData}{n:Nat}(h:∀d∈ds,d.depth<=n):a5X ds<=n:=by
 induction ds with
 | nil=>simp[a5X]
 | cons d r ih=> have h1:=h d a1X;have h2:=ih λx hx=>h x (yV _ hx);simp only[a5X];lia
theorem CL {z:Str}(h:K5 z):PyData.strOk z=true:=by unfold PyData.strOk;rw[Array.all_eq_true'];intro c hc;have:=lV (h.2.2 c (by simpa using hc));simp;lia
end DL
namespace DL
open PySem PySem.Spec L2
theorem sIx_nat (n d k:Nat):HT.sIx n d (some (k:Int))=min k n:=HT.sIx_nat n d k
theorem gM (xs:List PyData) (a b:Nat):RE xs (some (a:Int)) (some (b:Int))=(xs.take b).drop a:=by
 unfold RE;rw[sIx_nat,sIx_nat,List.drop_take];by_cases h:a<=xs.length;. rw[Nat.min_eq_left h,List.take_eq_take_iff,b6Z];lia
 . rw[List.drop_eq_nil_of_le (show xs.length<=min a xs.length by lia),List.drop_eq_nil_of_le (show xs.length<=a by lia)];simp
def j3:PyData->Str | .str z=>z | _=>⟨#[]⟩
abbrev Th:=Str×Int×Int
def thD (t:Th):PyData:=.tuple [.str t.1,.int t.2.1,.int t.2.2]
def wD (w:List Th):PyData:=.tuple (w.map thD)
def oP (w:List Th):Prop:=Ris (w.map (·.1))/\∀t∈w,K5 t.1/\0<=t.2.1/\t.2.1<=999/\-1000000000000<=t.2.2/\t.2.2<=1000000000000
end DL
namespace DL
open PySem PySem.Spec L2
section
variable {K:Frg}{ρ:List (Option DS)}{M:Own}{g:TG}{wi:TI}
theorem BM {fr:List (Option Nat)}{tt:TT}{te:TE}{T:List Nat}{Q:DS->Own->Prop}(ho:Q3 g T) (hT:∀i∈T,∀j,fr[i]?≠some (some j)) (h:DI K wi ρ M λds M1=>ds.length < sizeLine/\∃(c:PyData->Bool) (f:PyData->PyData),(∀d∈ds,∀A acc M',M1 A=none->M'=M1.put A (.l acc)->DG K g d (LZ fr ρ) M' λρ2 M2=>M2=M'/\DT K tt ρ2 M2 λb M3=>M3=M'/\b=c d/\(c d=true->DE K te ρ2 M3 λy M4=>y = .d (f d)/\M4=M'))/\Q (.d (.list ((ds.filter c).map f))) M1) :
   DE K (Q0 fr wi g tt te) ρ M Q:=by
 refine X1 ho hT λσ H R Rl k=>h σ H R Rl λJ ds H1 M1 o1 t1 wd q=>k J ds H1 M1 o1 t1 wd ?_;obtain⟨hsz,c,f,he,q⟩:=q;refine⟨hsz,λA hA=>⟨λk acc M'=>acc=((ds.take k).filter c).map f/\M'=M1.put A (.l acc),⟨by simp,rfl⟩,λk acc M' ⟨e1,e2⟩=>⟨by rw[e2];exact zU,?_⟩,λk d acc M' hd ⟨e1,e2⟩=>?_,λacc M' ⟨e1,e2⟩=>?_⟩⟩;. rw[e1,zX];exact zN (yJ _ _) (by rw[a0V];lia)
 . have hm:d∈ds:=yN hd;intro σ H v QQ R dv kk;refine he d hm A acc M' hA e2 σ H v QQ R dv λρ' M2 σ' H' R' st ⟨eM,q2⟩=>kk ρ' M2 σ' H' R' st λσ2 H2 QQ2 R2 k2=>?_;refine q2 σ2 H2 QQ2 R2 λb H3 M3 o3 fg ⟨qR,eb,q3⟩=>k2 b H3 M3 o3 fg ?_;have ts:(ds.take (k+1)).filter c=(ds.take k).filter c++(if c d then [d] else []):=take_succ_filter c ds k d hd;cases hb:c d with
   | false=> rw[hb] at eb;subst eb;refine L2.fG ⟨?_,by rw[qR,e2]⟩;rw[ts,hb,e1];simp
   | true=>
     rw[hb] at eb;subst eb;refine L2.fH ?_;refine WX (q3 hb) λy M4 ⟨ey,e4⟩=>⟨f d,ey,by rw[e4,e2];exact zU,?_,by rw[e4,e2,yI]⟩
     rw[ts,hb,e1];simp
 . rw[e2,yG hA,e1,a1J];exact q
end
theorem HW {as bs:List Str}(h:as.map a0J=bs.map a0J):as=bs:=by have:=congrArg (List.map j3) h;rw[zD,zD] at this;simpa [show(j3∘a0J)=id from rfl] using this
theorem VL {K:Frg}{ρ:List (Option DS)}{M:Own}{D:EndsD}{te:TE}{g:TG}(h:DE K te ρ M λx M1=>∃d,x = .d d/\DG K g d ρ M1 D.nx):DSt K (eR te g) ρ M D:=λσ H E R k1 _ _ _=>
 h σ H _ R λv H' x M' a b c q=>by obtain⟨d,rfl,q⟩:=q;exact q σ H' v _ (R.step a c) b λρ2 M2 σ2 H2 R2 dr p=>k1 ρ2 M2 σ2 H2 R2 (c.trans dr) p
theorem bN {X:Cx}:MtR X "list.append" R7:=PR
end DL
namespace DL
open PySem PySem.Spec L2
section
variable {K:Frg}{ρ:List (Option DS)}{M:Own}{Q:DS->Own->Prop}{ty:TE}
theorem bO {neg:Bool}{x:Str}{ys:List Str}(q:Q (.d (.bool (if neg then !decide (x∈ys) else decide (x∈ys)))) M):D2 K (rIn K neg) (.d (.str x)) (.d (.tuple (ys.map .str))) M Q:=λH v u QQ oa s1 s2 k=>by rw[BV s1];unfold SI DV at s2;obtain⟨a,vs,rfl,hl,hd⟩:=s2;have e:=EH hd;subst e;exact⟨a,_,rfl,.inr hl.sq,rfl,by simp[J9],k _ H (.d (.bool (if neg then !decide (x∈ys) else decide (x∈ys)))) M oa (by rw[SY];exact AL) Step.refl q⟩
theorem X6 {x:Str}{ys:List Str}(q:Q (.d (.bool (decide (x∈ys)))) M):D2 K (gD K) (.d (.str x)) (.d (.tuple (ys.map .str))) M Q:=FO (bO (neg:=false) q)
theorem EJ {x:Str}{ys:List Str}(q:Q (.d (.bool (!decide (x∈ys)))) M):D2 K (RG K) (.d (.str x)) (.d (.tuple (ys.map .str))) M Q:=FO (bO (neg:=true) q)
end
end DL
namespace L2
open PySem PySem.Spec PyProof.Rows
section
variable {X:Cx}
def oQ (z:Str) (n:Int):Str:=if (n==1||z.length==0)=true then z else ⟨(b4K n.toNat z.cps).foldl (·++·) #[]⟩
def bP:R2:=λx y H Q=>(rI (λi j=>IntMulOk i j) λi j=>.int (i*j)) x y H Q\/∃z n,x = .str z/\y = .int n/\1<=n/\n<=8/\z.length<=1000/\Q (.str (oQ z n)) H
theorem T6 (a:Array Nat):∀(n:Nat) (b:Array Nat),(List.foldl (λx1 x2=>x1++x2) b (b4K n a)).size=b.size+n*a.size
 | 0,b=>by simp
 | n+1,b=>by rw[List.replicate_succ,List.foldl_cons,T6 a n,Array.size_append,Nat.succ_mul];lia
theorem gN:OpR X (binaryOp .Mult) bP:=by
 intro pins s σ H x y v u Q I rx ry h;rcases h with h | ⟨z,n,rfl,rfl,h1,h2,h3,q⟩
 . exact(opI (C:=λi j=>IntMulOk i j) λ_ _ _ _ _ _ _ hc q=>mul_int q hc) pins s σ H x y v u Q I rx ry h
 . obtain⟨t,rfl⟩:=rx;obtain⟨t',rfl⟩:=ry;have hp:(2:Int) ^ 63=9223372036854775808:=by decide
   refine P.mul_str ?_ (λ_ _=>?_) (λ_ _=>?_) ?_;. rw[decide_eq_false (Int.not_lt.mpr (Int.le_trans (by decide) h1)),decide_eq_false (Int.not_le.mpr (Int.lt_of_le_of_lt h2 (by decide)))];rfl
   . rw[hp];have h5:(1000:Int)<=(9223372036854775808 - 1)/n:=Int.le_ediv_of_mul_le (Int.lt_of_lt_of_le (by decide) h1) (Int.le_trans (Int.mul_le_mul_of_nonneg_left h2 (by decide)) (by decide));exact λhc=>absurd (Int.lt_of_le_of_lt h5 hc) (Int.not_lt.mpr (Int.ofNat_le.mpr h3))
   . have hm:z.length*n.toNat<=1000*1000:=Nat.mul_le_mul h3 (by lia);unfold Builtin.Str.tooLong;rw[decide_eq_false];exact λhc=>absurd (zP hc hm) (by decide)
   . rw[if_neg (by lia)];have q':=q;unfold oQ at q';split;. rename_i e;rw[if_pos e] at q';exact⟨.str z,H,I,⟨_,rfl⟩,q'⟩
     . rename_i e;rw[if_neg e] at q';refine⟨?_,⟨.str _,H,I.tok _,⟨_,rfl⟩,q'⟩⟩;show(List.foldl (λx1 x2=>x1++x2) #[] (b4K n.toNat z.cps)).size<=sizeLine;rw[T6];have hm:(#[]:Array Nat).size+n.toNat*z.cps.size<=8*1000:=by rw[show(#[]:Array Nat).size=0 from rfl,Nat.zero_add];exact Nat.mul_le_mul (by lia) h3
       exact zN hm (by decide)
end
end L2
namespace DL
open PySem PySem.Spec L2
section
variable {X:Cx}{K:Frg}
theorem bQ (_:X.K=K):OpR X (binaryOp .Mult) bP:=gN
end
section
variable {K:Frg}{ρ:List (Option DS)}{M:Own}{Q:DS->Own->Prop}
theorem bR {i j:Int}(c:IntMulOk i j) (q:Q (.d (.int (i*j))) M):D2 K bP (.d (.int i)) (.d (.int j)) M Q:=λH v u QQ oa s1 s2 k=>by rw[E4 s1,E4 s2];exact .inl ⟨i,j,rfl,rfl,c,k _ H _ M oa D9 Step.refl q⟩
end
end DL
namespace L2
open PySem PySem.Spec PyProof.Rows PySem.W
theorem RJ {ns:List Int}(h:WData.layableAll [WData.list (ns.map WData.int)]=true):∀i∈ns,xJ i<=2 ^ 20:=by
 have h1:WData.weightAll (ns.map WData.int)<=2 ^ 20:=by
   have h0:WData.layable (WData.list (ns.map WData.int))=true:=by unfold WData.layableAll at h;simpa using h
   unfold WData.layable at h0;rw[a1Z] at h0;exact of_decide_eq_true h0.2
 intro i hi;refine zN ?_ h1;clear h h1;induction ns with
 | nil=>cases hi
 | cons n r ih=>
   rw[zI];show _<=WData.weight (.int n)+1+WData.weightAll (r.map WData.int);rcases yX.mp hi with rfl | hi;. have:WData.weight (.int i)=xJ i:=rfl;lia
   . have:=ih hi;lia
theorem bS {l:PySem.W.OpenLaw}{n k:Nat}{q:Program}{loose:List Str}{XP:(Str->Option Value)->Heap->Prop}{YP:World->Heap->Prop}{d:DefRec}{K:Params->Frg}{CX:World->CXT}{sp:World->Sp}{x:Str} (hn:l.most=some n) (u9:n<=sizeLine) (qT:d.params.defaults=[]) (hr:Room k callerA) (hY:∀(w:World) (h:Heap),YP w h->(K w.params).In h) (F:∀(w:World) (mg:Str->Option Value) (fa:Addr) (h:Heap),(K w.params).In h->h.Ns mainGlobals mg->mg d.name=some (.ref fa) ->∃fd:FuncData,(∀(s:Shared) (u:Value),BindsTo s fd ⟨[u],[]⟩ [(x,u)]) /\∀base:Heap,(K w.params).In base->base.Ns mainGlobals mg->FnOk l.prog w (K w.params) mg base (CX w) k fa fd [x] (sp w)) (je:∀(w:World) (H:Hp) (a:Addr) (ns:List Int),ns.length<=n->(∀i∈ns,xJ i<=2 ^ 20)->kQ H->SqL (K w.params) H a (ns.map V.int)->sp w [.ref a] H (λv _=>v = .bl true) λ_ _ _=>False) (q_:∀(w:World) (H:Hp) (s:Shared) (e:Value) (s':Shared),CX w [] H s (λ_ _ _=>False) e s'->False) :
   PySem.W.WalkO q loose XP YP l.row.toRowW d [] (λf vs=>PySem.call f vs):=by
 intro w s₀ s₁ mg mb G Y fa o pm cd doc dV kV ho hd gh hD mi hg args vals as il qU vB pj vC;have e1:dV = .none:=Dflts.none hD qT;subst e1;have e2:kV = .none:=Dflts.noKw hD;subst e2;obtain⟨a,vs,ns,rfl,rfl,qV,ml,ab⟩:=Att.script_of hn il pj;have jj:=RJ qU;refine enter_call (codeAny_mono (R:=λr s'=>r = .ok (.ret (.bool true))/\OldK s₁.heap s'.heap/\s'.os=s₁.os/\AllBare s'.gens) ?_ λr s' hq=>?_);. have KX:=hY w _ Y;obtain⟨fd,hb,hF⟩:=F w mg fa _ KX G.T.g mi;exact aE KX G.T.g G.T.b G.T.builtins G.T.nolimit hg qV ml (zN ab u9) hr hF hb (λH hO hS=>je w H a ns ab jj hO hS) λH e s'=>q_ w H s₁ e s'
 . have h1:=hq.1;subst h1;exact⟨.inl ⟨.bool true,.bool true,[],rfl,λ_=>rfl,.bool true,Att.post_true l _,λ_=>⟨a7K,λ_ hm=>(nomatch hm)⟩⟩,hq.2.1,hq.2.2.1,hq.2.2.2⟩
end L2
namespace DL
open PySem PySem.Spec L2
def pT (z:Str):Prop:=∀c∈z.cps.toList,NI c=true
theorem bT {z:Str}(h:pT z) (h1:1<=z.cps.toList.length) (h2:z.cps.toList.length<=8):K5 z:=⟨by rw[Q5];exact h1,by rw[Q5];exact h2,h⟩
end DL
namespace L2
open PySem PySem.Spec PyProof.Rows
section
variable {X:Cx}
def oR:R2:=λx y H Q=>(y = .non/\Q (.bl (decide (x = .non))) H)\/∃a b:Bool,x = .bl a/\y = .bl b/\Q (.bl (a==b)) H
theorem bU:OpR X (compareOp .Is) oR:=by
 intro pins s σ H x y v u Q I rx ry h;rcases h with h | ⟨a,b,rfl,rfl,q⟩
 . exact k7 pins s σ H x y v u Q I rx ry h
 . cases rx;cases ry;refine wpAny_is_plain rfl ⟨.bl (a==b),H,I,?_,q⟩;cases a <;> cases b <;> rfl
def j4:R2:=λx y H Q=>(y = .non/\Q (.bl (!decide (x = .non))) H)\/∃a b:Bool,x = .bl a/\y = .bl b/\Q (.bl (!(a==b))) H
theorem X7:OpR X (compareOp .IsNot) j4:=by
 intro pins s σ H x y v u Q I rx ry h;rcases h with h | ⟨a,b,rfl,rfl,q⟩
 . exact eT pins s σ H x y v u Q I rx ry h
 . cases rx;cases ry;refine wpAny_isNot_plain rfl ⟨.bl (!(a==b)),H,I,?_,q⟩;cases a <;> cases b <;> rfl
end
end L2
namespace DL
open PySem PySem.Spec L2
section
variable {K:Frg}{ρ:List (Option DS)}{M:Own}{Q:DS->Own->Prop}{QI:List PyData->Own->Prop}
theorem MX {d:PyData}(q:Q (.d (.bool (FA d))) M):D2 K oR (.d d) (.d .none) M Q:=FN (lQ q)
theorem bV {d:PyData}(q:Q (.d (.bool (!FA d))) M):D2 K j4 (.d d) (.d .none) M Q:=FN (gG q)
def DPs (K:Frg) (dw:List (TE×TE)) (ρ:List (Option DS)) (M:Own) (Q:List (Str×PyData)->Own->Prop):Prop:=∀(σ:St) (H:Hp) (QQ:List (V×V)->Hp->Prop),Rel K M ρ σ H->(∀ps H' bz M',OA K H' M'->(∃vs,DVs K H' M'.W (bz.map (·.2)) vs/\ps=(bz.map λk=>V.str k.1).zip vs)->Step K M M' H H'->Q bz M'->QQ ps H')->R9 dw σ H QQ
theorem gQ {Q:List (Str×PyData)->Own->Prop}(h:Q [] M):DPs K [] ρ M Q:=λσ H QQ R k=>k [] H [] M R.own ⟨[],DVs.nil,rfl⟩ Step.refl h
theorem T7 {tk tv:TE}{dw:List (TE×TE)}{Q:List (Str×PyData)->Own->Prop}(h:DE K tk ρ M λx M1=>∃k,x = .d (.str k)/\DE K tv ρ M1 λy M2=>∃d,y = .d d/\DPs K dw ρ M2 λbz M3=>Q ((k,d)::bz) M3):DPs K ((tk,tv)::dw) ρ M Q:=λσ H QQ R kk=>
 h σ H _ R λv H1 x M1 o1 s1 t1 h1=>by obtain⟨k,rfl,h1⟩:=h1;refine h1 σ H1 _ (R.step o1 t1) λu H2 y M2 o2 s2 t2 h2=>?_;obtain⟨d,rfl,h2⟩:=h2;refine h2 σ H2 _ (R.step o2 (t1.trans t2)) λps H3 bz M3 o3 ⟨vs,s3,e3⟩ t3 q=>?_;refine kk _ H3 ((k,d)::bz) M3 o3 ⟨u::vs,DVs.cons (DV.grow t3.grow s2) s3,?_⟩ ((t1.trans t2).trans t3) q;rw[BV s1,e3];rfl
theorem M8:∀(kvs acc:List (Key×V)),((acc++kvs).map (·.1)).Nodup->HR acc kvs=acc++kvs
 | [],acc,_=>by simp[HR]
 | kv::r,acc,h=>by
   have h1:(acc.any λx=>decide (x.1=kv.1))=false:=by rw[b5X];intro x hx;rw[xI,a9J] at h;have:=h.2.2 x.1 (zL.mpr ⟨x,hx,rfl⟩) kv.1 (by simp);simpa using this
   show HR (E3 acc kv.1 kv.2) r=_;have e:E3 acc kv.1 kv.2=acc++[kv]:=by unfold E3;rw[h1];rfl
   rw[e,M8 r (acc++[kv]) (by rw[List.append_assoc];exact h)];simp
theorem bW {H:Hp}{W:Addr->Prop}:∀{bz:List (Str×PyData)}{vs:List V},DVs K H W (bz.map (·.2)) vs->DKV K H W (bz.map λk=>(.str k.1,k.2)) ((bz.map λk=>(a1K k.1:Key)).zip vs)
 | [],vs,h=>by unfold DKV;rfl
 | (k,d)::r,vs,h=>by rw[zI] at h;unfold DVs at h;obtain⟨v,r',rfl,h1,h2⟩:=h;rw[zI];unfold DKV;exact⟨a1K k,v,_,rfl,rfl,h1,bW h2⟩
theorem T8:∀(bz:List (Str×PyData)) (vs:List V),vs.length=bz.length->(bz.map λk=>V.str k.1).zip vs=((bz.map λk=>(a1K k.1:Key)).zip vs).map λkv=>(kV kv.1,kv.2)
 | [],vs,_=>by simp
 | a::r,[],h=>by cases h
 | a::r,v::vs,h=>by rw[zI,zI,a6J,a6J,zI,T8 r vs (by simpa using h)];rfl
end
end DL
namespace L2
open PySem PySem.Spec PyProof.Rows
section
variable {prog:Program}{w:World}{A:Around}{E:Value->Shared->Prop}{s:Shared}
theorem T9 {it l:Addr}{aa:Array Value}(ai:l≠it):∀(n i:Nat) (s:Shared) (Q:List Value->Shared->Prop),s.heap.IsListIter it l i->s.heap.IsList l aa->i+n<=aa.size ->(∀h',h'.IsListIter it l (i+n)->Heap.SameBut it s.heap h'->Q ((aa.toList.drop i).take n) { s with heap:=h' })->wpAny (model prog w) A (draw (.ref it) n) Q E s
 | 0,i,s,Q,hit,_,_,hQ=>by show wpAny _ _ (pure []) Q E s;exact zY (by simpa using hQ s.heap hit (Heap.SameBut.refl ..))
 | n+1,i,s,Q,hit,hl,hle,hQ=>by
   have bb:i < aa.size:=by lia
   show wpAny _ _ (pyNext (.ref it) >>= _) Q E s;refine zZ (wpAny_pyNext_list_item hit hl (x:=aa[i]) (by simp[bb]) λg1 t1 q1=>?_);refine zZ (wpAny_holding (T9 ai n (i+1) _ _ t1 (hl.extBut q1.extBut ai) (by lia) λg2 t2 q2=>zY ?_));have hd:aa.toList.drop i=aa[i]::aa.toList.drop (i+1):=by simp[List.drop_eq_getElem_cons,bb]
   have h3:=hQ g2 (by rw[show i+(n+1)=i+1+n by lia];exact t2) (q1.trans q2);rw[hd,List.take_succ_cons] at h3;exact h3
theorem VM {l:Addr}{aa:Array Value}{Q:List Value->Shared->Prop}(hh:A.handled=none) (hl:s.heap.IsList l aa) (hQ:∀h',Heap.ExtBut s.heap.objs.size s.heap h'->Q aa.toList { s with heap:=h' }):wpAny (model prog w) A (unpackItems (.ref l) aa.size none) Q E s:=by
 have ai:l≠s.heap.objs.size:=by obtain⟨o,ho,_⟩:=hl;exact zC (zM ho)
 unfold unpackItems;refine zZ ?_;unfold notIterableAtAll;refine zZ (wpAny_specialOf hl.typeIs F.slot_list_iter.lookup ?_);refine zY ?_;simp only[b4X,if_false];refine zZ (wpAny_holding (wpAny_pyIter_list hl ?_));refine zZ (wpAny_holding (T9 ai aa.size 0 _ _ ⟨_,yZ _ rfl,rfl,rfl⟩ (hl.push _) (by lia) λg1 t1 q1=>?_));rw[show List.take aa.size (List.drop 0 aa.toList)=aa.toList by rw[List.drop_zero];exact List.take_of_length_le (by simp),if_neg (by simp)];refine zZ (wpAny_holding (wpAny_pyNext_list_end hh t1 ((hl.push _).extBut q1.extBut ai) (by simp) λg2 e2=>?_));simp only[Option.isSome_none,b4X,if_false];exact zY (hQ g2 λb o hb e=>e2 b o hb (q1.extBut b o hb (zW _ e)))
end
section
variable {X:Cx}{pos:Pos}
def bX (K:Frg) (n:Nat) (t:TGs):TG:=λv σ H Q=>∃a xs,v = .ref a/\(SqT K H a xs\/SqL K H a xs)/\xs.length=n/\t xs σ H Q
theorem gR {es:List Expr}{k:Nat}{t:TGs}{n:Nat}(hc:X.calm=true) (h:PGs X es t) (hn:(assignEach es X.env).length=n:=by rfl) (di:(assignEach es X.env).findIdx? (·.1)=none:=by rfl):PG X (.Tuple es k pos) (bX X.K n t):=by
 intro pins s σ H v u Q I r hw;obtain⟨a,xs,e1,hq,hl,hw⟩:=hw;rcases hq with hq | hq;. exact ZX hc h hn di pins s σ H v u Q I r ⟨a,xs,e1,hq,hl,hw⟩
 . subst e1;cases r;obtain⟨aa,rv,pl,hz⟩:=I.list hq;rw[arm_assign_Tuple];refine zZ (wpAny_standAt ?_);unfold unpack;rw[show(assignEach es X.env).length=aa.toArray.size by simp[hn,<-hl,rv.length],di];refine zZ (wpAny_holding (VM (I.ok.hd hc) pl.isList λh' hx=>?_));have I1:Inv X pins σ H { s with heap:=h' }:=I.kept (t':=s.toks) λb o e=>hx b o (zC (zM e)) e;exact h pins _ σ H xs _ Q I1 (by simpa using rv) hw
end
end L2
namespace DL
open PySem PySem.Spec L2
theorem bY {X:Cx}{K:Frg}{pos:Pos}{es:List Expr}{k:Nat}{t:TGs}{n:Nat}(hK:X.K=K) (hc:X.calm=true) (h:PGs X es t) (hn:(assignEach es X.env).length=n:=by rfl) (di:(assignEach es X.env).findIdx? (·.1)=none:=by rfl):PG X (.Tuple es k pos) (bX K n t):=hK▸gR hc h hn di
section
variable {K:Frg}{M:Own}{ρ:List (Option DS)}{P:List (Option DS)->Own->Prop}
theorem gS {n:Nat}{g:TGs}{ds:List PyData}(hn:ds.length=n) (h:DGs K g ds ρ M P):DG K (bX K n g) (.tuple ds) ρ M P:=λσ H v QQ R dv k=>by unfold DV at dv;obtain⟨a,vs,rfl,hl,hd⟩:=dv;exact⟨a,vs,rfl,.inl hl.sq,by rw[hd.length];exact hn,h σ H vs QQ R hd k⟩
end
end DL
namespace L2
open PySem PySem.Spec PyProof.Rows PySem.W
section
variable {n:Nat}{lt:Nat->Nat->Bool}
def Good (n:Nat) (lt:Nat->Nat->Bool) {α:Type}(P:α->Prop):KasT α->Prop
 | .ret a=>P a
 | .ask i j k=>i < n/\j < n/\i≠j/\Good n lt P (k (lt i j))
theorem Good.mono {α:Type}{P Q:α->Prop}(h:∀a,P a->Q a):∀{t:KasT α},Good n lt P t->Good n lt Q t
 | .ret _,g=>h _ g
 | .ask _ _ _,⟨a,b,c,g⟩=>⟨a,b,c,Good.mono h g⟩
theorem Good.bind {α β:Type}{P:β->Prop}{f:α->KasT β}:∀{t:KasT α},Good n lt (λa=>Good n lt P (f a)) t->Good n lt P (t.bind f)
 | .ret _,g=>g
 | .ask _ _ _,⟨a,b,c,g⟩=>⟨a,b,c,Good.bind g⟩
theorem Good.wp {α:Type}{cmp:Nat->Nat->(Bool->Shared->Prop)->Shared->Prop}{s:Shared}{P:α->Prop}{Q:α->Shared->Prop} (hc:∀i j (C:Bool->Shared->Prop),i < n->j < n->i≠j->C (lt i j) s->cmp i j C s) (hq:∀a,P a->Q a s):∀{t:KasT α},Good n lt P t->t.kasWp cmp Q s
 | .ret a,g=>hq a g
 | .ask i j k,⟨a,b,c,g⟩=>hc i j _ a b c (Good.wp hc hq g)
structure Strict (n:Nat) (lt:Nat->Nat->Bool):Prop where
 irr:∀i,lt i i=false
 tr:∀i j k,lt i j=true->lt j k=true->lt i k=true
 tot:∀i j,i < n->j < n->i≠j->lt i j=true\/lt j i=true
def Pm (n:Nat) (p:Array Nat):Prop:=p.toList.Perm (a0Z n)
theorem Pm.size {p:Array Nat}(h:Pm n p):p.size=n:=by have:=h.length_eq;simpa using this
theorem Pm.bel {p:Array Nat}(h:Pm n p) {i:Nat}(hi:i < n):p.getD i 0 < n:=by
 have hs:i < p.size:=by rw[h.size];exact hi
 have:p[i]∈a0Z n:=h.mem_iff.mp (by simp);simp only[a8V,hs,dite_true];exact List.mem_range.mp this
theorem lW {l:List Nat}(nd:l.Nodup) {i j:Nat}{hi:i < l.length}{hj:j < l.length}(e:l[i]=l[j]):i=j:=by
 rcases b1V i j with h | h | h;. exact absurd e (List.pairwise_iff_getElem.mp nd i j hi hj h)
 . exact h
 . exact absurd e.symm (List.pairwise_iff_getElem.mp nd j i hj hi h)
theorem Pm.inj {p:Array Nat}(h:Pm n p) {i j:Nat}(hi:i < n) (hj:j < n) (au:i≠j):p.getD i 0≠p.getD j 0:=by
 have sr:i < p.size:=by rw[h.size];exact hi
 have su:j < p.size:=by rw[h.size];exact hj
 simp only[a8V,sr,su,dite_true];have nd:p.toList.Nodup:=h.nodup_iff.mpr List.nodup_range;intro e;have e':p.toList[i]'(by simpa using sr)=p.toList[j]'(by simpa using su):=by simpa using e
 exact au (lW nd e')
def Up (lt:Nat->Nat->Bool) (p:Array Nat) (k:Nat):Prop:=∀i j,i < j->j < k->lt (p.getD i 0) (p.getD j 0)=true
def Dn (lt:Nat->Nat->Bool) (p:Array Nat) (k:Nat):Prop:=∀i j,i < j->j < k->lt (p.getD j 0) (p.getD i 0)=true
theorem NM (S:Strict n lt) {p:Array Nat}(hp:Pm n p):∀(f m:Nat),1<=m->m+f<=n->Up lt p m ->
   Good n lt (λr=>m<=r/\r<=m+f/\Up lt p r/\(r=m+f\/lt (p.getD r 0) (p.getD (r - 1) 0)=true)) (kas_asc p f m)
 | 0,m,h1,h2,h3=>⟨zR _,zR _,h3,.inl rfl⟩
 | f+1,m,h1,h2,h3=>by
   unfold kas_asc;refine⟨hp.bel (by lia),hp.bel (by lia),hp.inj (by lia) (by lia) (by lia),?_⟩;cases hc:lt (p.getD m 0) (p.getD (m - 1) 0) with
   | true=>exact⟨zR _,by lia,h3,.inr hc⟩
   | false=>
     have jz:lt (p.getD (m - 1) 0) (p.getD m 0)=true:=(S.tot _ _ (hp.bel (by lia)) (hp.bel (by lia)) (hp.inj (i:=m - 1) (j:=m) (by lia) (by lia) (by lia))).elim id λz=>by rw[hc] at z;cases z
     dsimp only;rw[if_neg nft];refine(NM S hp f (m+1) (by lia) (by lia) λi j au hj=>?_).mono λr ⟨a,b,c,d⟩=>⟨by lia,by lia,c,d.elim (λz=>.inl (by lia)) .inr⟩
     by_cases hjm:j < m;. exact h3 i j au hjm
     . have e:j=m:=by lia
       subst e;by_cases hi:i=j - 1;. subst hi;exact jz
       . exact S.tr _ _ _ (h3 i (j - 1) (by lia) (by lia)) jz
theorem Q8 (S:Strict n lt) {p:Array Nat}(hp:Pm n p):∀(f m:Nat),1<=m->m+f<=n->Dn lt p m ->
   Good n lt (λr=>r.1=p/\r.2.2=0/\m<=r.2.1/\r.2.1<=m+f/\Dn lt p r.2.1) (kas_desc f p m 0)
 | 0,m,h1,h2,h3=>⟨rfl,rfl,zR _,zR _,h3⟩
 | f+1,m,h1,h2,h3=>by
   unfold kas_desc;refine⟨hp.bel (by lia),hp.bel (by lia),hp.inj (by lia) (by lia) (by lia),?_⟩;cases hc:lt (p.getD m 0) (p.getD (m - 1) 0) with
   | true=>
     dsimp only;rw[if_pos rfl,if_neg (yF 0)];refine(Q8 S hp f (m+1) (by lia) (by lia) λi j au hj=>?_).mono λr ⟨a,b,c,d,e⟩=>⟨a,b,by lia,by lia,e⟩
     by_cases hjm:j < m;. exact h3 i j au hjm
     . have e:j=m:=by lia
       subst e;by_cases hi:i=j - 1;. subst hi;exact hc
       . exact S.tr _ _ _ hc (h3 i (j - 1) (by lia) (by lia))
   | false=>
     have jz:lt (p.getD (m - 1) 0) (p.getD m 0)=true:=(S.tot _ _ (hp.bel (by lia)) (hp.bel (by lia)) (hp.inj (i:=m - 1) (j:=m) (by lia) (by lia) (by lia))).elim id λz=>by rw[hc] at z;cases z
     dsimp only;rw[if_neg nft];refine⟨hp.bel (by lia),hp.bel (by lia),hp.inj (by lia) (by lia) (by lia),?_⟩;dsimp only;rw[jz,if_pos rfl];exact⟨rfl,rfl,zR _,(show m<=_ by lia),h3⟩
theorem MY {α:Type}{xs ys:Array α}{i j:Nat}{d:α}(h:xs[i]?=ys[j]?):xs.getD i d=ys.getD j d:=by rw[b2V,b2V,h]
theorem bZ {p:Array Nat}(hp:Pm n p) (i j:Nat):Pm n (kas_rev p i j):=(Array.perm_iff_toList_perm.mp (mirror_perm _ _ _ _)).trans hp
theorem VN (S:Strict n lt) {p:Array Nat}(hp:Pm n p) {m:Nat}(h1:1<=m) (h2:m<=n) (h3:Dn lt p m) :
   Good n lt (λr=>1<=r.1/\r.1<=n/\Pm n r.2/\Up lt r.2 r.1) (kas_tail3 m n p):=by
 unfold kas_tail3;refine Good.bind ((NM S (bZ hp 0 m) (n - m) m h1 (by lia) λi j au hj=>?_).mono λr ⟨a,b,c,_⟩=>⟨by lia,by lia,bZ hp 0 m,c⟩);have hz:m<=p.size:=by rw[hp.size];exact h2
 have e:∀k,k < m->(kas_rev p 0 m).getD k 0=p.getD (m - 1 - k) 0:=λk hk=>by refine MY ?_;unfold kas_rev;rw[getElem?_mirror_all (i:=0) hz k,if_pos ⟨xT _,hk⟩,Nat.zero_add]
 rw[e i (by lia),e j (by lia)];exact h3 _ _ (by lia) (by lia)
theorem P4 (S:Strict n lt) {p:Array Nat}(hp:Pm n p) {m:Nat}(h2:m+1<=n) (h3:Dn lt p (m+1)) :
   Good n lt (λr=>1<=r.1/\r.1<=n/\Pm n r.2/\Up lt r.2 r.1) (kas_descPart m n p):=by unfold kas_descPart;refine Good.bind ((Q8 S hp (n - (m+1)) (m+1) (by lia) (by lia) h3).mono λr ⟨a,b,c,d,e⟩=>?_);rw[b,if_neg (yF 0),a];exact VN S hp (by lia) (by lia) e
theorem VO (S:Strict n lt) {p:Array Nat}(hp:Pm n p) (h2:1<=n) :
   Good n lt (λr=>1<=r.1/\r.1<=n/\Pm n r.2/\Up lt r.2 r.1) (kas_count n p):=by
 unfold kas_count;refine Good.bind ((NM S hp (n - 1) 1 (zR _) (by lia) λi j au hj=>by lia).mono λr ⟨a,b,c,d⟩=>?_);by_cases hr:r=n;. subst hr;rw[if_pos (by simp)];exact⟨a,zR _,hp,c⟩
 . rw[if_neg (by simpa using hr)];have bb:lt (p.getD r 0) (p.getD (r - 1) 0)=true:=d.resolve_left (by lia);by_cases h1:r > 1;. rw[if_pos h1];refine⟨hp.bel (by lia),hp.bel (by lia),hp.inj (by lia) (by lia) (by lia),?_⟩;dsimp only;rw[c 0 (r - 1) (by lia) (by lia),if_pos rfl];exact⟨a,by lia,hp,c⟩
   . rw[if_neg h1];have e:r=1:=by lia
     subst e;refine P4 S hp (by lia) λi j au hj=>?_;have e1:i=0:=by lia
     have e2:j=1:=by lia
     subst e1 e2;exact bb
theorem JL (S:Strict n lt) {p:Array Nat}(hp:Pm n p) {k:Nat}(hk:k < n) (hu:Up lt p k):∀(f l r:Nat),l<=r->r<=k->r - l<=f ->(∀i,i < l->lt (p.getD i 0) (p.getD k 0)=true)->(∀i,r<=i->i < k->lt (p.getD k 0) (p.getD i 0)=true) ->
   Good n lt (λx=>x<=k/\(∀i,i < x->lt (p.getD i 0) (p.getD k 0)=true)/\∀i,x<=i->i < k->lt (p.getD k 0) (p.getD i 0)=true) (kas_place p k f l r)
 | 0,l,r,h1,h2,h3,h4,h5=>by unfold kas_place;exact⟨by lia,h4,λi hi mm=>h5 i (by lia) mm⟩
 | f+1,l,r,h1,h2,h3,h4,h5=>by
   unfold kas_place;by_cases hge:l≥r;. rw[if_pos hge];exact⟨by lia,h4,λi hi mm=>h5 i (by lia) mm⟩
   . rw[if_neg hge];have hm:l<=(l+r)/2/\(l+r)/2 < r:=by lia
     generalize (l+r)/2=m at hm ⊢;obtain⟨uA,kq⟩:=hm;have ki:m < k:=zP kq h2;have qa:m < n:=xQ ki hk;refine⟨hp.bel hk,hp.bel qa,hp.inj hk qa (a6K ki),?_⟩;cases hc:lt (p.getD k 0) (p.getD m 0) with
     | true=>
       dsimp only;rw[if_pos rfl];refine JL S hp hk hu f l m uA (xR ki) (by lia) h4 λi hi mm=>?_;by_cases e:i=m;. subst e;exact hc
       . exact S.tr _ _ _ hc (hu _ _ (Nat.lt_of_le_of_ne hi (a3J e)) mm)
     | false=>
       dsimp only;rw[if_neg nft];have jz:lt (p.getD m 0) (p.getD k 0)=true:=(S.tot _ _ (hp.bel qa) (hp.bel hk) (hp.inj (i:=m) (j:=k) qa hk (zC ki))).elim id λz=>by rw[hc] at z;cases z
       refine JL S hp hk hu f (m+1) r kq h2 (by lia) (λi hi=>?_) h5;by_cases e:i=m;. subst e;exact jz
       . exact S.tr _ _ _ (hu _ _ (by lia) (by lia)) jz
theorem TB (S:Strict n lt):∀(f:Nat) {p:Array Nat}{k:Nat},Pm n p->k+f=n->Up lt p k->Good n lt (λq=>Pm n q/\Up lt q n) (kas_bin f p k)
 | 0,p,k,hp,h1,h2=>by
   have e:k=n:=by lia
   subst e;exact⟨hp,h2⟩
 | f+1,p,k,hp,h1,h2=>by
   unfold kas_bin;refine Good.bind ((JL S hp (by lia) h2 k 0 k (xT _) (zR _) (by lia) (λi hi=>by lia) λi hi hk=>by lia).mono λx ⟨hx,a,b⟩=>?_);have uB:k < p.size:=by rw[hp.size];lia
   refine TB S f ((Array.perm_iff_toList_perm.mp (bubble_perm _ _ _)).trans hp) (by lia) λi j au hj=>?_;have e:∀q,(bubble p k (k - x)).getD q 0=if q=x then p.getD k 0 else if x < q/\q<=k then p.getD (q - 1) 0 else p.getD q 0:=λq=>by
     have:=getElem?_bubble uB (k - x) (by lia) q;rw[show k - (k - x)=x by lia] at this;by_cases c1:q=x;. rw[if_pos c1] at this ⊢;exact MY this
     . rw[if_neg c1] at this ⊢;by_cases c2:x < q/\q<=k;. rw[if_pos c2] at this ⊢;exact MY this
       . rw[if_neg c2] at this ⊢;exact MY this
   obtain⟨g,hg⟩:∃g:Nat->Nat,∀i,p.getD i 0=g i:=⟨_,λ_=>rfl⟩
   have kr:∀i j,i < j->j < k->lt (g i) (g j)=true:=λi j x y=>by rw[<-hg,<-hg];exact h2 i j x y
   rw[e,e];simp only[hg] at a b ⊢;clear e;rcases b1V j x with hj' | hj' | hj';. have hi':i < x:=xQ au hj';rw[if_neg (zC hi'),if_neg (λz=>Nat.lt_asymm z.1 hi'),if_neg (zC hj'),if_neg (λz=>Nat.lt_asymm z.1 hj')];exact kr _ _ au (zP hj' hx)
   . subst hj';rw[if_neg (zC au),if_neg (λz=>Nat.lt_asymm z.1 au),if_pos rfl];exact a _ au
   . obtain⟨j',rfl⟩:∃j',j=j'+1:=⟨j - 1,by lia⟩
     have mn:j' < k:=Nat.lt_of_succ_le (Nat.le_of_lt_succ hj);have s_:x<=j':=Nat.le_of_lt_succ hj';rw[if_neg (a6K hj') (c:=j'+1=x),if_pos (c:=x < j'+1/\j'+1<=k) ⟨hj',mn⟩,Nat.add_sub_cancel];rcases b1V i x with hi' | hi' | hi';. rw[if_neg (zC hi'),if_neg (λz=>Nat.lt_asymm z.1 hi')];exact kr _ _ (zP hi' s_) mn
     . rw[if_pos hi'];exact b _ s_ mn
     . obtain⟨i',rfl⟩:∃i',i=i'+1:=⟨i - 1,by lia⟩
       have mo:i' < j':=Nat.lt_of_succ_lt_succ au;rw[if_neg (a6K hi'),if_pos (c:=x < i'+1/\i'+1<=k) ⟨hi',xQ mo mn⟩,Nat.add_sub_cancel];exact kr _ _ mo mn
theorem YO (S:Strict n lt) (h1:1<=n):Good n lt (λq=>Pm n q/\Up lt q n) (kas_sort n):=by
 unfold kas_sort;refine Good.bind ((VO S (show Pm n _ from .refl _) h1).mono λr ⟨a,b,c,d⟩=>?_);have e:max r.1 1=r.1:=by lia
 rw[e];by_cases hr:r.1 < n;. rw[if_pos hr];exact TB S _ c (by lia) d
 . rw[if_neg hr];have e:r.1=n:=by lia
   rw[e] at d;exact⟨c,d⟩
end
end L2
namespace L2
open PySem PySem.Spec PyProof.Rows PySem.W
def TupsN (h:Heap) (vs:List Value) (ns:List Str):Prop:=
 vs.length=ns.length/\∀(i:Nat) (v:Value) (nm:Str),vs[i]?=some v->ns[i]?=some nm->∃(a:Addr) (o:Obj) (xs:Array Value) (k:Nat) (t:Tok),v=a0X a/\h.get? a=some o/\o.cls = .type "tuple" /\ o.data = .seq xs k/\xs[0]?=some (.str nm t)
theorem TupsN.keep {h h':Heap}{vs:List Value}{ns:List Str}(t:TupsN h vs ns) (hk:∀b o,o.cls = .type "tuple" -> h.get? b=some o->h'.get? b=some o):TupsN h' vs ns:=⟨t.1,λi v nm e1 e2=>let ⟨a,o,xs,k,t',h1,h2,h3,h4,h5⟩:=t.2 i v nm e1 e2;⟨a,o,xs,k,t',h1,hk a o h3 h2,h3,h4,h5⟩⟩
theorem TupsN.kat {h:Heap}:∀{vs:List Value}{ns:List Str},TupsN h vs ns->∃fs,KatTups h vs fs/\fs.length=ns.length/\∀v∈fs,∃x t,v=b6V x t
 | [],[],_=>⟨[],trivial,rfl,λv hv=>nomatch hv⟩
 | [],_::_,t=>by have:=t.1;simp at this
 | _::_,[],t=>by have:=t.1;simp at this
 | v::vs,nm::ns,t=>by obtain⟨a,o,xs,k,t',rfl,h2,h3,h4,h5⟩:=t.2 0 v nm rfl rfl;obtain⟨fs,q1,q2,q3⟩:=TupsN.kat (vs:=vs) (ns:=ns) ⟨by have:=t.1;simpa using this,λi v nm e1 e2=>t.2 (i+1) v nm (by simpa using e1) (by simpa using e2)⟩;exact⟨_,KatTups.cons h2 h3 h4 h5 q1,by simp[q2],λv hv=>(yX.mp hv).elim (λe=>⟨_,_,e⟩) (q3 v)⟩
section
variable {prog:Program}{w:World}{A:Around}{E:Value->Shared->Prop}{s:Shared}
theorem c5 {vs:List Value}{ns:List Str}(t:TupsN s.heap vs ns) (nd:ns.Nodup) {i j:Nat}(hi:i < ns.length) (hj:j < ns.length) (au:i≠j) {C:Bool->Shared->Prop}(h:C (decide ((ns.getD i "").cps.toList < (ns.getD j "").cps.toList)) s) :
   kas_ask prog w A (tuples' true) vs i j C s:=by
 unfold kas_ask;have hl:=t.1;have e1:vs[i]?=some (vs.getD i a5Q):=by rw[yU,zV (by lia)];rfl
 have e2:vs[j]?=some (vs.getD j a5Q):=by rw[yU,zV (by lia)];rfl
 have f1:ns[i]?=some (ns.getD i ""):=by rw[yU,zV hi];rfl
 have f2:ns[j]?=some (ns.getD j ""):=by rw[yU,zV hj];rfl
 have ai:ns.getD i "" ≠ ns.getD j "" := λe=>by
   rw[yU,yU,zV hi,zV hj] at e;rcases Nat.lt_or_gt_of_ne au with q | q;. exact List.pairwise_iff_getElem.mp nd i j hi hj q e
   . exact List.pairwise_iff_getElem.mp nd j i hj hi q e.symm
 generalize vs.getD i a5Q=v at e1 ⊢;generalize vs.getD j a5Q=u at e2 ⊢;obtain⟨a,o,xs,k,t1,rfl,a2,a3,a4,a5⟩:=t.2 i v _ e1 f1;obtain⟨b,o',ys,k',t2,rfl,b2,b3,b4,b5⟩:=t.2 j u _ e2 f2;refine kat_lt a2 a4 b2 b4 ?_;have x1:xs.toList[0]?=some (.str (ns.getD i "") t1):=by rw[a4Q];exact a5
 have y1:ys.toList[0]?=some (.str (ns.getD j "") t2):=by rw[a4Q];exact b5
 obtain⟨xr,hx⟩:∃r,xs.toList = .str (ns.getD i "") t1::r:=by
   cases hh:xs.toList with
   | nil=>rw[hh] at x1;cases x1
   | cons q r=>rw[hh] at x1;cases x1;exact⟨r,rfl⟩
 obtain⟨yr,hy⟩:∃r,ys.toList = .str (ns.getD j "") t2::r:=by
   cases hh:ys.toList with
   | nil=>rw[hh] at y1;cases y1
   | cons q r=>rw[hh] at y1;cases y1;exact⟨r,rfl⟩
 rw[hx,hy,a6J];refine kat_cons (wpAny_eqBool_str ?_);rw[decide_eq_false ai];refine kat_no ?_;show wpAny (model prog w) A (oneLt' true _ _) C (λ_ _=>False) s;exact oneLt_str h
theorem NN {a:Addr}{vs:List Value}{ns:List Str}{n:Nat}{P:PySem.Fin->Shared->Prop}(ho:s.heap.get? a=some (seqObj "list" vs.toArray n)) (t:TupsN s.heap vs ns) (nd:ns.Nodup) (bc:vs.length < 64) (h:∀p:List Nat,p.Perm (a0Z vs.length)->(∀i j,i < j->j < vs.length->(ns.getD (p.getD i 0) "").cps.toList < (ns.getD (p.getD j 0) "").cps.toList) ->
     P (.done (.ret .none)) { s with heap:=sortedHeap s.heap a vs (p.map λi=>vs.getD i a5Q).toArray }) :
   wpAny (model prog w) A (Builtin.«list.sort» ⟨[.ref a],[]⟩) P E s:=by
 have ha:a < s.heap.objs.size:=zM ho;rw[list_sort_plain];refine zZ (listItems_at ho rfl ?_);refine zZ (listUpdate_at ho rfl ?_ (by rw[zJ,sizeLine_eq];lia) (xT _));obtain⟨e1,sC⟩:∃e1,(s.heap.update a (a4Z λ_=>(#[]:Array Value))).get? a=some (seqObj "list" #[] e1):=⟨_,get?_update_seq ho (λ_=>#[])⟩
 refine zZ (seqEpoch_at sC rfl (zZ (wpAny_newTuple ?_ (by show vs.length<=_;rw[sizeLine_eq];lia))));refine zZ (wpAny_newList (wpAny_holding ?_) (xT _));have hsz:vs.toArray.size=vs.length:=zJ ..;have mr:∀b o,o.cls = .type "tuple" -> s.heap.get? b=some o->(((s.heap.update a (a4Z λ_=>(#[]:Array Value))).push (seqObj "tuple" vs.toArray 0)).push (seqObj "list" #[] 0)).get? b=some o:=λb o hc q=>by
   have hb:b≠a:=λe=>by subst e;rw[ho] at q;cases q;exact absurd hc (show ¬(b4W "list"=b4W "tuple") by decide)
   refine zW _ (zW _ ?_);rw[Heap.get?_update_ne _ _ _ _ hb];exact q
 have qb:(((s.heap.update a (a4Z λ_=>(#[]:Array Value))).push (seqObj "tuple" vs.toArray 0)).push (seqObj "list" #[] 0)).get? a=some (seqObj "list" #[] e1):=zW _ (zW _ sC);show wpAny (model prog w) A _ P E { s with heap:=((s.heap.update a (a4Z λ_=>(#[]:Array Value))).push (seqObj "tuple" vs.toArray 0)).push (seqObj "list" #[] 0) };dsimp only;by_cases h2:vs.toArray.size < 2
 . rw[if_pos h2,if_pos h2];refine zZ (zY ?_);rw[StateT.run_pure];refine zZ (zY (zZ (seqEpoch_at qb rfl ?_)));have e3:(arrOf (SortSt.mk' general' (vs.toArray.zip vs.toArray) #[] 7 none)).map (·.2)=vs.toArray:=by show(vs.toArray.zip vs.toArray).map (·.2)=vs.toArray;apply Array.toList_inj.mp;rw[Array.toList_map,Array.toList_zip];exact List.map_snd_zip (zR _)
   rw[e3];refine zZ (listUpdate_at qb rfl ?_ (xT _) (by rw[zJ,sizeLine_eq];lia));simp only[bne_self_eq_false,b4X,if_false];have:=h (a0Z vs.length) (.refl _) (λi j au hj=>by lia);have e4:(a0Z vs.length).map (λi=>vs.getD i a5Q)=vs:=by
     apply a9W;intro i;rw[zF];by_cases hi:i < vs.length;. rw[yA hi];simp[hi]
     . rw[a2J (by simp;lia),a2J (by lia)];rfl
   rw[e4] at this;exact zY this
 . rw[if_neg h2,if_neg h2];have kr:2<=vs.length:=by lia
   have t6:=t.keep mr;obtain⟨fs,q1,q2,q3⟩:=t6.kat;refine zZ (kat_kind (T:=.type "str") q1 (by have:=t.1;lia) (λv hv=>?_) rfl ?_);. obtain⟨x,tt,rfl⟩:=q3 v hv;exact Looks.of_pure rfl
   have hn:vs.length=ns.length:=t.1;have S:Strict vs.length (λi j=>decide (i < vs.length)&&(decide (j < vs.length)&&decide ((ns.getD i "").cps.toList < (ns.getD j "").cps.toList))):=by
     refine⟨λi=>?_,λi j k a b=>?_,λi j hi hj au=>?_⟩;. simp[List.lt_irrefl]
     . simp only[a1Z,decide_eq_true_eq] at a b ⊢;exact⟨a.1,b.2.1,List.lt_trans a.2.2 b.2.2⟩
     . simp only[a1Z,decide_eq_true_eq,hi,hj,true_and];have ai:(ns.getD i "").cps.toList≠(ns.getD j "").cps.toList:=λe=>by
         have e':ns.getD i ""=ns.getD j "" := by generalize ns.getD i ""=x at e;generalize ns.getD j ""=y at e;obtain⟨⟨x⟩⟩:=x;obtain⟨⟨y⟩⟩:=y;simp at e;rw[e]
         rw[yU,yU,zV (by lia),zV (by lia)] at e';rcases Nat.lt_or_gt_of_ne au with q | q;. exact List.pairwise_iff_getElem.mp nd i j (by lia) (by lia) q e'
         . exact List.pairwise_iff_getElem.mp nd j i (by lia) (by lia) q e'.symm
       by_cases c:(ns.getD i "").cps.toList < (ns.getD j "").cps.toList;. exact .inl c
       . refine .inr ?_;rcases List.le_iff_lt_or_eq.mp (List.not_lt.mp c) with z | z;. exact z
         . exact absurd z.symm ai
   refine zZ (wpAny_mono (kat_run (ks:=vs) (G:=λp s'=>s'={ s with heap:=((s.heap.update a (a4Z λ_=>(#[]:Array Value))).push (seqObj "tuple" vs.toArray 0)).push (seqObj "list" #[] 0) }/\Pm vs.length p/\Up _ p vs.length) (Q:=λci s'=>s'={ s with heap:=((s.heap.update a (a4Z λ_=>(#[]:Array Value))).push (seqObj "tuple" vs.toArray 0)).push (seqObj "list" #[] 0) }/\failedOf ci=none/\∃p:Array Nat,Pm vs.length p/\Up _ p vs.length/\(arrOf ci).map (·.2)=List.toArray (p.toList.map λi=>vs.getD i a5Q))
     rfl kr bc (λp ci s' a1 a2 a3 a4=>⟨a4.1,a3,p,a4.2.1,a4.2.2,kat_snds rfl a2⟩) ((YO S (by lia)).wp (λi j C hi hj au hC=>?_) λp hp=>⟨rfl,hp.1,hp.2⟩)) ?_ λ_ _ e=>e)
   . refine c5 t6 nd (by lia) (by lia) au ?_;simp only[hi,hj,decide_true,b6Q] at hC;exact hC
   . rintro⟨⟨⟩,ci⟩ s' ⟨rfl,hf,p,hp,hu,hm⟩;dsimp only;refine zZ (seqEpoch_at qb rfl ?_);rw[hm];refine zZ (listUpdate_at qb rfl ?_ (xT _) (by
       have z:=hp.length_eq;simp only[xZ,a3X] at z;simp only[zJ,zX,a3X];rw[sizeLine_eq];lia));rw[hf];simp only[bne_self_eq_false,b4X,if_false];refine zY (h p.toList hp λi j au hj=>?_);have:=hu i j au hj;simp only[a1Z,decide_eq_true_eq] at this;have ed:∀k,p.toList.getD k 0=p.getD k 0:=λk=>by rw[yU,b2V,a4Q]
     rw[ed,ed];exact this.2.2
theorem M9 {l:Addr}{vs:List Value}{Q:List Value->Shared->Prop}(hl:s.heap.IsList l vs.toArray\/s.heap.IsTuple l vs.toArray) (h:Q vs { s with heap:=(s.heap.push (seqObj "list" #[] 0)).update s.heap.objs.size (a4Z (·++vs.toArray)) }) (hsz:vs.length<=sizeLine) :
   wpAny (model prog w) A (collect (.ref l)) Q E s:=by
 rcases hl with hl | ⟨o,ho,hc,n,hd⟩
 . exact collect_list hl h hsz
 unfold collect;refine zZ (wpAny_runValue (codeAny_builtin entry_proto_collect' ?_));show wpAny _ _ (do again (.builtin "list.__iadd__" ⟨[<-newList [],.ref l],[]⟩)) _ _ s;refine zZ (wpAny_newList (zY ⟨Code.quiet_builtin _ (by decide +kernel),codeAny_builtin entry_list_iadd' ?_⟩));show wpAny _ _ (a7Z (.ref s.heap.objs.size) (.ref l) (.ref s.heap.objs.size)) _ _ { s with heap:=s.heap.push (seqObj "list" #[] 0) };unfold a7Z;have cu:(s.heap.push (seqObj "list" #[] 0)).get? l=some o:=zW _ ho;refine zZ (wpAny_typeOf (T:= "tuple") ⟨o,cu,hc⟩ ?_);have ht:(b4W "tuple" == b4W "tuple")=true:=by rfl
 rw[if_pos (by rw[ht];simp)];refine zZ (listItems_at cu hd ?_);refine zZ (listItems_at (xs:=#[]) (n:=0) (yZ _ rfl) rfl ?_);rw[if_neg (by simp)];refine zZ (listUpdate_at (xs:=#[]) (n:=0) (yZ _ rfl) rfl ?_ (xT _) (by show(#[]++vs.toArray).size<=sizeLine+1;simp only[Array.size_append,zJ,List.length_nil];lia));refine zY ?_;show wpAny (model prog w) A (do
     let o <- load s.heap.objs.size
     match o.data with
     | .seq xs _=>pure xs.toList
     | _=>unsupported "internal:collect") Q E { s with heap:=(s.heap.push (seqObj "list" #[] 0)).update s.heap.objs.size (a4Z (·++vs.toArray)) };refine zZ (wpAny_load (get?_update_seq (yZ _ rfl) _) ?_);show wpAny _ _ (pure ((#[]:Array Value)++vs.toArray).toList) Q E _;rw[show((#[]:Array Value)++vs.toArray).toList=vs by simp];exact zY h
theorem TC {l:Addr}{vs:List Value}{ns:List Str}{Q:Value->Shared->Prop}(hl:s.heap.IsList l vs.toArray\/s.heap.IsTuple l vs.toArray) (t:TupsN s.heap vs ns) (nd:ns.Nodup) (bc:vs.length < 64) (h:∀p:List Nat,p.Perm (a0Z vs.length)->(∀i j,i < j->j < vs.length->(ns.getD (p.getD i 0) "").cps.toList < (ns.getD (p.getD j 0) "").cps.toList) ->
     Q (.ref (s.heap.objs.size+1)) { s with heap:=sortedAll s.heap vs (p.map λi=>vs.getD i a5Q).toArray }) :
   wpAny (model prog w) A (call (.builtin "sorted") [.ref l]) Q E s:=by
 refine b0Z kind_sorted plain_sorted entry_sorted (args_sorted1 _) ?_;unfold Builtin.«sorted»;refine zZ (m:=checkCount "sorted" 1 1 _) (zY (zZ (M9 hl (zZ (wpAny_newList ?_ (by rw[sizeLine_eq];lia))) (by rw[sizeLine_eq];lia))));generalize hH:(s.heap.push (seqObj "list" #[] 0)).update s.heap.objs.size (a4Z (·++vs.toArray))=H1;have hsz:H1.objs.size=s.heap.objs.size+1:=by rw[<-hH,Heap.size_update,size_push']
 have old:∀b o,s.heap.get? b=some o->(H1.push (seqObj "list" vs.toArray 0)).get? b=some o:=λb o q=>by refine zW _ ?_;rw[<-hH,Heap.get?_update_ne _ _ _ _ (zC (zM q))];exact zW _ q
 have d_:(H1.push (seqObj "list" vs.toArray 0)).get? (s.heap.objs.size+1)=some (seqObj "list" vs.toArray 0):=by rw[<-hsz];exact yZ _ rfl
 show wpAny _ _ _ _ _ { s with heap:=H1.push (seqObj "list" vs.toArray 0) };rw[hsz];refine zZ (wpAny_holding (wpAny_call_entry slot_list_sort ⟨_,d_,rfl⟩ entry_list_sort (NN d_ (t.keep λb o _ q=>old b o q) nd bc λp a1 a2=>⟨_,rfl,?_⟩) (args_list_sort _)));have:=h p a1 a2;unfold sortedAll at this;rw[hH] at this;exact zY ⟨_,rfl,this⟩
theorem TD {d:Addr}{kvs:List (Key×Value)}{ss:List Str}{Q:Value->Shared->Prop}(hh:A.handled=none) (hd:(d==sysModules)=false) (dd:s.heap.DictOf (B0 prog w) d kvs) (hk:kvs.map (·.1)=ss.map a1K) (bc:ss.length < 64) (h:∀(h1 h':Heap) (tk:Nat) (out:List Value) (e:Nat) (ak:List Str),(∀b o,s.heap.get? b=some o->h1.get? b=some o)->(∀b o,h1.get? b=some o->h'.get? b=some o)->h'.get? h1.objs.size=some (seqObj "list" out.toArray e)->StrsAre out ak->ak.Perm ss->sortedS ak=true->Q (.ref h1.objs.size) { s with heap:=h',toks:=tk }) :
   wpAny (model prog w) A (call (.builtin "sorted") [.ref d]) Q E s:=by
 refine b0Z kind_sorted plain_sorted entry_sorted (args_sorted1 _) ?_;obtain⟨ep,qW⟩:=dd.dictAt;have ab:kvs.length=ss.length:=by have:=congrArg List.length hk;simpa using this
 unfold Builtin.«sorted»;refine zZ (m:=checkCount "sorted" 1 1 _) (zY (zZ (kdu_collect (A:=A.in1) (kdl_dict (kvs:=kvs) (ep:=ep) hd) hh qW (by rw[ab,sizeLine_eq];lia) λh' tk acc hold fu=>?_)));have hl:acc.toList.length=ss.length:=by rw[a3X,fu.1,ab]
 have hS:StrsAre acc.toList ss:=by
   have go:∀(vs:List Value) (zs:List Str),vs.length=zs.length->(∀(i:Nat) v x,vs[i]?=some v->zs[i]?=some x->∃t,v=b6V x t)->StrsAre vs zs:=by
     intro vs;induction vs with
     | nil=>intro zs hz _;cases zs with
       | nil=>exact .nil
       | cons _ _=>simp at hz
     | cons v vs ih=>intro zs hz hv;cases zs with
       | nil=>simp at hz
       | cons x zs=> obtain⟨t,rfl⟩:=hv 0 v x rfl rfl;exact .cons x t (ih zs (by simpa using hz) λi v x e1 e2=>hv (i+1) v x (by simpa using e1) (by simpa using e2))
   refine go _ _ hl λi v x e1 e2=>?_;obtain⟨k,y,g1,g2⟩:=fu.2 i v (by rw[<-a4Q];exact e1);have e3:(kvs.map (·.1))[i]?=some k:=by rw[zF,g1];rfl
   rw[hk,zF,e2] at e3;cases e3;have uC:LV (.inr x) v=true:=g2;rcases B4 uC with ⟨i,t,e,_⟩ | ⟨z,t,e,e'⟩
   . cases e
   . cases e;exact⟨t,e'⟩
 refine zZ (wpAny_newList ?_ (by rw[hl,sizeLine_eq];lia));have d_:(h'.push (seqObj "list" acc.toList.toArray 0)).get? h'.objs.size=some (seqObj "list" acc.toList.toArray 0):=yZ _ rfl;show wpAny _ _ _ _ _ { s with heap:=h'.push (seqObj "list" acc.toList.toArray 0),toks:=tk };refine zZ (wpAny_holding (wpAny_call_entry (s:={ s with heap:=h'.push (seqObj "list" acc.toList.toArray 0),toks:=tk }) slot_list_sort ⟨_,d_,rfl⟩ entry_list_sort (list_sort_treeK strKind_oneLt d_ hS.keysOf (λv₁ v₂ rest e=>keyKind_strs (by rw[<-e];exact hS)) (by rw[hl];exact bc) λci hp hs=>⟨_,rfl,?_⟩) (args_list_sort _)));obtain⟨ak,h1,h2,h3⟩:=sorted_out_str hS hp hs;obtain⟨e,he⟩:=sortedHeap_at (out:=(arrOf ci).map (·.2)) d_;refine zY ⟨_,rfl,h h' _ tk ((arrOf ci).map (·.2)).toList e ak hold (λb o q=>?_) (by rw[Array.toArray_toList];exact he) h1 h2 h3⟩;have lt:b < h'.objs.size:=zM q;rw[sortedHeap_old (zC lt) (by rw[size_push'];exact b2Q lt)];exact zW _ q
end
end L2
namespace L2
open PySem PySem.Spec PyProof.Rows
def tlD (prog:Program) (w:World) (A:Around) (kx vx:Expr):Env->Addr->(Shared->Prop)->Shared->Prop:=λenv D P s=>wpAny (model prog w) A (eval kx env) (λkv s₄=>wpAny (model prog w) A (eval vx env) (λvv s₅=>wpAny (model prog w) A (dictSet D kv vv) (λ_ s₆=>P s₆) (λ_ _=>False) s₅) (λ_ _=>False) s₄) (λ_ _=>False) s
theorem gT {prog:Program}{w:World}{A:Around}{kx vx target iter:Expr}{ifs:List Expr}{scope:Scope}{pos:Pos}:VC prog w A (.DictComp kx vx [⟨target,iter,ifs,0⟩] scope pos) target ifs (tlD prog w A kx vx):=by
 intro it D env R I turn n s h;refine codeAny_loop rfl I (λn s hI=>?_) n h;show wpAny _ A ((compTurn (.DictComp kx vx [⟨target,iter,ifs,0⟩] scope pos) 0 (.ref it) (.ref D) env).onRaise (λx=>do noteFrame x env;theTreesLotGoes x)) _ _ s;refine wpAny_noted ?_;rw[compTurn_dict];refine zZ (wpAny_standAt (zZ (wpAny_mono (B1 (turn n s hI)) (λr s₁ h₁=>?_) λ_ _ h'=>h')));cases r with
 | none=>exact zY h₁
 | some v=>
   refine zZ (wpAny_mono (B1 h₁) (λ_ s₀ h₀=>?_) λ_ _ h'=>h');refine zZ (wpAny_mono (B1 h₀) (λ_ s₂ h₂=>zZ (wpAny_mono (B1 h₂) (λok s₃ h₃=>?_) λ_ _ h'=>h')) λ_ _ h'=>h');cases ok with
   | false=>exact zY ⟨rfl,h₃⟩
   | true=> exact zZ (zZ (wpAny_mono (B1 h₃) (λkv s₄ h₄=>zZ (wpAny_holding (wpAny_mono (B1 h₄) (λvv s₅ h₅=>zZ (wpAny_standAt (wpAny_holding (wpAny_mono (B1 h₅) (λ_ s₆ h₆=>zY ⟨rfl,h₆⟩) λ_ _ h'=>h')))) λ_ _ h'=>h'))) λ_ _ h'=>h'))
theorem lX {X:Cx}{pins:List (Addr×Obj)}{σ:St}{H:Hp}{s:Shared}{a:Addr}{kvs:List (Key×V)}{k:Key}{v:V}{u r:Value}{A:Around}{E:Value->Shared->Prop}{Q:Unit->Shared->Prop} (I:Inv X pins σ H s) (e:H a=some (.dK kvs)) (l:kvs.length < sizeLine) (ry:RelV (kV k) u) (rv:RelV v r) (h:∀s',Inv X pins σ (upd H a (.dK (E3 kvs k v))) s'->Q () s'):wpAny (model X.prog X.w) A (dictSet a u r) Q E s:=by
 obtain⟨z,hd,vs,rel,dd⟩:=WS I.hok e;have hz:vs.length<=sizeLine:=by rw[<-rel.length];exact z
 have hl:(E3 kvs k v).length<=sizeLine:=by have:=F7 kvs k v;lia
 refine wpAny_dictSet_pairs (hsz:=hz) (LY ry) dd λh' ft hs=>h _ ?_;have he:∃q,h'.get? a=some q:=let ⟨q,_,_,hq,_⟩:=ft;⟨q,hq⟩;exact K0 I (by rw[e];exact a7Q) hs he (N9 hl hd (rel.put k rv) ft)
def RK (fr:List (Option Nat)) (wi:TI) (g:TG) (tt:TT) (tk tv:TE):TE:=λσ H Q=>wi σ H λJ H1=>∀D,H1 D=none->∃W:Nat->Nat->List (Key×V)->Hp->Prop,(∃m,W 0 m [] (upd H1 D (.dK []))) /\∀i m ys H2,W i m ys H2->H2 D=some (.dK ys)/\((J.stop i H2/\Q (.ref D) H2)\/(J.go i H2/\∀x H3,J.yld i H2 x H3->g x (capt fr σ) H3 λσ2 H4=>
   (∀(i:Nat) v,(capt fr σ)[i]?=some (some v)->σ2[i]?=some (some v))/\tt σ2 H4 λc H5=>if c=true then tk σ2 H5 λx H6=>tv σ2 H6 λy H7=>∃bp k,x=kV k/\H7 D=some (.dK bp)/\bp.length < sizeLine/\∃m',m' < m/\W (i+1) m' (E3 bp k y) (upd H7 D (.dK (E3 bp k y)))
     else ∃bp m',m' < m/\W (i+1) m' bp H5))
section
variable {X:Cx}{scope:Scope}{NC:List Str}{fr:List (Option Nat)}{pins:List (Addr×Obj)}{σ:St}{H:Hp}{s:Shared}
theorem Q9 {kx vx iter tg:Expr}{ifs:List Expr}{pos aj:Pos}{wi:TI}{g:TG}{tt:TT}{tk tv:TE}{use:Option (Value->Sem Unit)}{Q:VK}{QQ:Value->Shared->Prop} (hc:X.calm=true) (S:CSc X scope NC fr) (hi:PI X tg iter wi) (hb:∀(C:Addr) (s:Shared) (H:Hp) (ex:List Addr) (pn:List (Addr×Obj)),PG (AX X scope NC C s H ex pn) tg g/\PTs (AX X scope NC C s H ex pn) ifs tt/\PE (AX X scope NC C s H ex pn) kx tk/\PE (AX X scope NC C s H ex pn) vx tv) (I:Inv X pins σ H s) (hu:X.A.units+1 < cLine) (h:RK fr wi g tt tk tv σ H Q) (fin:kS X pins σ use Q QQ) (hs:∀x,foldedSetIterable iter X.env x=pure x) :
   wpAny (model X.prog X.w) X.A (comprehension (.DictComp kx vx [⟨tg,iter,ifs,0⟩] scope pos) scope X.env aj newDict false (eval iter X.env) use) QQ X.xe s:=by refine Q1 (y0:=[]) (at_:=.dK) (Ty:= "dict") (dt:=.dict #[]) (tl:=tlD X.prog X.w X.A kx vx) (el:=λD m W σ2 H5=>tk σ2 H5 λx H6=>tv σ2 H6 λy H7=>∃bp k,x=kV k/\H7 D=some (.dK bp)/\bp.length < sizeLine/\∃m',m' < m/\W m' (E3 bp k y) (upd H7 D (.dK (E3 bp k y)))) rfl rfl (by size_fits) (λH h b=>NA h b) gT codeAny_compStart_dict hc S hi (λC s H ex pn=>⟨(hb C s H ex pn).1,(hb C s H ex pn).2.1,λjg s' σ H' D n W P I q k=>?_⟩) I h fin hs;refine thn ((hb C s H ex pn).2.2.1 _ s' σ H' _ I q) λyk qG ⟨kv,qH,qI,qJ,uD⟩=>thn ((hb C s H ex pn).2.2.2 _ qG σ qH _ qI uD) λyv u_ ⟨vv,u0,qK,uE,bp,kk,ek,hD,hsz,m',ir,w'⟩=>?_;subst ek;exact lX (X:=AX X scope NC C s H ex pn) qK hD hsz qJ uE λs' I'=>k m' _ _ _ ir w' I'
theorem c6 {kx vx iter tg:Expr}{ifs:List Expr}{pos:Pos}{wi:TI}{g:TG}{tt:TT}{tk tv:TE}(hc:X.calm=true) (hu:X.A.units+1 < cLine) (S:CSc X scope NC fr) (hi:PI X tg iter wi) (hb:∀(C:Addr) (s:Shared) (H:Hp) (ex:List Addr) (pn:List (Addr×Obj)),PG (AX X scope NC C s H ex pn) tg g/\PTs (AX X scope NC C s H ex pn) ifs tt/\PE (AX X scope NC C s H ex pn) kx tk/\PE (AX X scope NC C s H ex pn) vx tv) (hs:∀x,foldedSetIterable iter X.env x=pure x:=by intro _;rfl):PE X (.DictComp kx vx [⟨tg,iter,ifs,0⟩] scope pos) (RK fr wi g tt tk tv):=by intro pins s σ H Q I h;rw[arm_eval_DictComp];refine Q9 (use:=none) (Q:=Q) hc S hi hb I hu h (λD C H' s' m oC I' hn q back _ h' sb=>?_) hs;exact⟨.ref D,H',back pins σ H' s' h' I' sb,rfl,q⟩
end
end L2
namespace L2
open PySem PySem.Spec PyProof.Rows PySem.W
def c7 (K:Frg):List V->Hp->VK->Prop:=λxs H Q=>∃(p:Addr) (es:List (Addr×Str×List V)),xs=[.ref p]/\(SqL K H p (es.map λe=>V.ref e.1)\/SqT K H p (es.map λe=>V.ref e.1))/\(∀e∈es,SqT K H e.1 (.str e.2.1::e.2.2))/\(es.map λe=>e.2.1).Nodup/\es.length < 64 /\∀(aw:List (Addr×Str×List V)) (q:Addr),aw.Perm es->aw.Pairwise (λx y=>x.2.1.cps.toList < y.2.1.cps.toList)->H q=none->Q (.ref q) (upd H q (.lst (aw.map λe=>V.ref e.1)))
def c8:List V->Hp->VK->Prop:=λxs H Q=>∃(p:Addr) (kvs:List (Key×V)) (ss:List Str),xs=[.ref p]/\Rd H p (.dK kvs)/\kvs.map (·.1)=ss.map a1K/\ss.length < 64 /\∀(ak:List Str) (q:Addr),ak.Perm ss->sortedS ak=true->H q=none->Q (.ref q) (upd H q (.lst (ak.map V.str)))
def NO (K:Frg):List V->Hp->VK->Prop:=λxs H Q=>bE K xs H Q\/c7 K xs H Q\/c8 xs H Q
section
variable {X:Cx}
theorem QA:∀{es:List (Addr×Str×List V)}{aa:List Value},Vals (es.map λe=>V.ref e.1) aa->aa=es.map λe=>a0X e.1
 | [],_,.nil=>rfl
 | _::_,_,.cons r t=>by rw[QA t];cases r;rfl
theorem QC:∀{es:List (Addr×Str×List V)},Vals (es.map λe=>V.ref e.1) (es.map λe=>a0X e.1)
 | []=>.nil
 | _::_=>.cons rfl QC
theorem VP:BO X (.builtin "sorted") (c7 X.K):=by
 intro pins s σ H xs us Q I r h;obtain⟨p,es,rfl,hp,ht,nd,bc,q⟩:=h;obtain⟨u,rfl,ru⟩:=FR r;cases ru;obtain⟨aa,rv,pl⟩:∃aa:List Value,Vals (es.map λe=>V.ref e.1) aa/\(s.heap.IsList p aa.toArray\/s.heap.IsTuple p aa.toArray):=by
   rcases hp with hp | hp;. obtain⟨aa,rv,pl,_⟩:=I.list hp;exact⟨aa,rv,.inl pl.isList⟩
   . obtain⟨aa,rv,pl,_⟩:=I.tuple hp;exact⟨aa,rv,.inr pl⟩
 have ei:=QA rv;subst ei;have tn:TupsN s.heap (es.map λe=>a0X e.1) (es.map λe=>e.2.1):=by
   refine⟨by simp,λi v nm e1 e2=>?_⟩;rw[zF] at e1 e2;cases he:es[i]? with
   | none=>rw[he] at e1;cases e1
   | some e=>
     rw[he] at e1 e2;cases e1;cases e2;obtain⟨js,rj,⟨o,ho,hc,n,hd⟩,_⟩:=I.tuple (ht e (yN he));cases rj with
     | cons r0 _=> obtain⟨t,rfl⟩:=r0;exact⟨e.1,o,_,n,t,rfl,ho,hc,hd,by simp⟩
 refine TC pl tn nd (by simpa using bc) λpm h1 h2=>?_;simp only[zX] at h1 h2;obtain⟨e,he⟩:=sortedAll_at s.heap (es.map λe=>a0X e.1) (pm.map λi=>(es.map λe=>a0X e.1).getD i a5Q).toArray;have hn:H (s.heap.objs.size+1)=none:=I.hok.fresh (a6V _);obtain⟨aw,ji⟩:∃aw:List (Addr×Str×List V),aw=pm.filterMap λi=>es[i]?:=⟨_,rfl⟩
 have cx:∀i∈pm,i < es.length:=λi hi=>List.mem_range.mp (h1.mem_iff.mp hi);have mv:∀(l:List Nat),(∀i∈l,i < es.length)->(l.filterMap λi=>es[i]?)=l.attach.map λi=>es.getD i.1 (0, "", []):=λl=>by
   intro hl;induction l with
   | nil=>rfl
   | cons a l ih=> have ha:=hl a (by simp);rw[a7J,zV ha];simp only[List.attach_cons,zI,zD];rw[ih λi hi=>hl i (yV _ hi)];simp[yU,zV ha]
 have jk:aw=pm.map λi=>es.getD i (0, "", []):=by rw[ji,mv pm cx];simp
 have perm:aw.Perm es:=by
   rw[ji];refine(h1.filterMap _).trans ?_;rw[show((a0Z es.length).filterMap λi=>es[i]?)=es from ?_];apply a9W;intro i;have:((a0Z es.length).filterMap λi=>es[i]?)=(a0Z es.length).map λi=>es.getD i (0, "", []):=by rw[mv _ λi hi=>List.mem_range.mp hi];simp
   rw[this,zF];by_cases hi:i < es.length;. rw[yA hi];simp[hi]
   . rw[a2J (by simp;lia),a2J (by lia)];rfl
 have outs:(pm.map λi=>(es.map λe=>a0X e.1).getD i a5Q)=aw.map λe=>a0X e.1:=by rw[jk,zD];apply yM;intro i hi;have hi:=cx i hi;simp[yU,zF,zV hi]
 have uF:pm.length=es.length:=by have:=h1.length_eq;simpa using this
 have uG:aw.Pairwise (λx y=>x.2.1.cps.toList < y.2.1.cps.toList):=by
   rw[jk,a9Z,List.pairwise_iff_getElem];intro i j hi hj au;have:=h2 i j au (by lia);have g:∀k (hk:k < pm.length),(es.map λe=>e.2.1).getD (pm.getD k 0) (a0Q "")=(es.getD pm[k] (0, "", [])).2.1:=λk hk=>by have fz:=cx pm[k] (a0K hk);rw[yU (l:=pm),zV hk];simp[yU,zF,zV fz]
   rw[g i hi,g j hj] at this;exact this
 rw[outs] at he ⊢;refine⟨.ref (s.heap.objs.size+1),_,I.laid (t':=s.toks) (o:=.lst (aw.map λe=>V.ref e.1)) (λb o eb=>sortedAll_old eb) (a6V _) ?_,rfl,q aw _ perm uG hn⟩;refine⟨by rw[zX,perm.length_eq];exact zN (xR bc) (by decide),aw.map λe=>a0X e.1,e,QC,?_⟩;have ji:=he;simpa [seqObj] using ji
theorem VQ (hc:X.calm=true):BO X (.builtin "sorted") c8:=by
 intro pins s σ H xs us Q I r h;obtain⟨p,kvs,ss,rfl,hp,hk,bc,q⟩:=h;obtain⟨u,rfl,ru⟩:=FR r;cases ru;obtain⟨z,hd,vs,rel,dd⟩:=FU I.hok hp;have fz:vs.map (·.1)=ss.map a1K:=by
   rw[<-hk];clear hk dd z hp q;unfold KV at rel;induction rel with
   | nil=>rfl
   | cons h t ih=>simp[h.1,ih]
 refine TD (I.ok.hd hc) hd dd fz bc λh1 h' tk out e ak k1 k2 ho hS jl mw=>?_;have I1:Inv X pins σ H { s with heap:=h1,toks:=tk }:=I.kept k1;have hn:H h1.objs.size=none:=I1.hok.fresh (zR _);refine⟨.ref h1.objs.size,_,I1.laid (t':=tk) (o:=.lst (ak.map V.str)) (h':=h') k2 (zR _) ?_,rfl,q ak _ jl mw hn⟩;refine⟨by rw[zX,jl.length_eq];exact zN (xR bc) (by decide),out,e,T0 hS,?_⟩;simpa [seqObj] using ho
theorem VR (hc:X.calm=true):BO X (.builtin "sorted") (NO X.K):=by
 intro pins s σ H xs us Q I r h;rcases h with h | h | h;. exact VF pins s σ H xs us Q I r h
 . exact VP pins s σ H xs us Q I r h
 . exact VQ hc pins s σ H xs us Q I r h
end
end L2
namespace DL
open PySem PySem.Spec L2
def AI (ts:List (Str×PyData)):List (PyData×PyData):=ts.map λt=>(a0J t.1,t.2)
def P5 (ts:List (Str×PyData)) (k:Str) (d:PyData):List (Str×PyData):=
 if (ts.any λt=>decide (t.1=k))=true then ts.map (λt=>if t.1=k then (t.1,d) else t) else ts++[(k,d)]
def TF (ts:List (Str×PyData)) (k:Str):List (Str×PyData):=ts.filter λt=>decide (t.1≠k)
def BZ:List (Str×PyData)->Str->Option PyData
 | [],_=>none
 | t::r,k=>if t.1=k then some t.2 else BZ r k
section
variable {K:Frg}{H:Hp}{W:Addr->Prop}
theorem BR {t:Str×PyData}{ts:List (Str×PyData)}{ks:List (Key×V)}:DKV K H W (AI (t::ts)) ks↔∃v r,ks=(a1K t.1,v)::r/\DV K H W t.2 v/\DKV K H W (AI ts) r:=by
 unfold AI;rw[zI];constructor
 . intro h;unfold DKV at h;obtain⟨k',v,r,e,e2,h1,h2⟩:=h;cases k' with
   | inl i=>cases e2
   | inr x=>
     have e3:t.1=x:=by simpa [nS] using e2
     subst e3;exact⟨v,r,e,h1,h2⟩
 . rintro⟨v,r,e,h1,h2⟩;unfold DKV;exact⟨a1K t.1,v,r,e,rfl,h1,h2⟩
theorem DF {ks:List (Key×V)}:DKV K H W (AI []) ks↔ks=[]:=by unfold AI;simp only[b4Q];unfold DKV;exact Iff.rfl
theorem TH:∀{ts:List (Str×PyData)}{ks:List (Key×V)},DKV K H W (AI ts) ks->ks.map (·.1)=(ts.map (·.1)).map a1K
 | [],ks,h=>by rw[DF.mp h];rfl
 | t::ts,ks,h=>by obtain⟨v,r,rfl,_,h2⟩:=BR.mp h;simp[TH h2]
theorem X8 {k:Str}:∀{ts:List (Str×PyData)}{ks:List (Key×V)},DKV K H W (AI ts) ks->(ks.any λkv=>decide (kv.1=a1K k))=ts.any λt=>decide (t.1=k)
 | [],ks,h=>by rw[DF.mp h];rfl
 | t::ts,ks,h=>by
   obtain⟨v,r,rfl,_,h2⟩:=BR.mp h;rw[b1J,b1J,X8 h2];congr 1;by_cases e:t.1=k;. rw[decide_eq_true e,decide_eq_true (by rw[e])]
   . rw[decide_eq_false e,decide_eq_false λq=>e (by injection q)]
theorem NP {k:Str}{d:PyData}{v:V}(hd:DV K H W d v):∀{ts:List (Str×PyData)}{ks:List (Key×V)},DKV K H W (AI ts) ks ->
   DKV K H W (AI (ts.map λt=>if t.1=k then (t.1,d) else t)) (ks.map λkv=>if kv.1=a1K k then (kv.1,v) else kv)
 | [],ks,h=>by rw[DF.mp h];exact DF.mpr rfl
 | t::ts,ks,h=>by
   obtain⟨u,r,rfl,h1,h2⟩:=BR.mp h;rw[zI,zI];by_cases e:t.1=k;. rw[if_pos e,if_pos (by rw[e])];exact BR.mpr ⟨v,_,rfl,hd,NP hd h2⟩
   . rw[if_neg e,if_neg λq=>e (by injection q)];exact BR.mpr ⟨u,_,rfl,h1,NP hd h2⟩
theorem TJ {k:Str}{d:PyData}{v:V}(hd:DV K H W d v):∀{ts:List (Str×PyData)}{ks:List (Key×V)},DKV K H W (AI ts) ks->DKV K H W (AI (ts++[(k,d)])) (ks++[(a1K k,v)])
 | [],ks,h=>by rw[DF.mp h];exact BR.mpr ⟨v,[],rfl,hd,DF.mpr rfl⟩
 | t::ts,ks,h=>by obtain⟨u,r,rfl,h1,h2⟩:=BR.mp h;exact BR.mpr ⟨u,_,rfl,h1,TJ hd h2⟩
theorem X9 {k:Str}{d:PyData}{v:V}{ts:List (Str×PyData)}{ks:List (Key×V)}(h:DKV K H W (AI ts) ks) (hd:DV K H W d v):DKV K H W (AI (P5 ts k d)) (E3 ks (a1K k) v):=by
 unfold P5 E3;rw[X8 h];by_cases c:(ts.any λt=>decide (t.1=k))=true;. rw[if_pos c,if_pos c];exact NP hd h
 . rw[if_neg c,if_neg c];exact TJ hd h
theorem TK {k:Str}:∀{ts:List (Str×PyData)}{ks:List (Key×V)},DKV K H W (AI ts) ks->DKV K H W (AI (TF ts k)) (N7 ks (a1K k))
 | [],ks,h=>by rw[DF.mp h];exact DF.mpr rfl
 | t::ts,ks,h=>by
   obtain⟨u,r,rfl,h1,h2⟩:=BR.mp h;have ih:=TK (k:=k) h2;unfold TF N7 at ih ⊢;by_cases e:t.1=k;. rw[a6Z,a6Z,if_neg (by simp[e]),if_neg (by simp[e])];exact ih
   . rw[a6Z,a6Z,if_pos (by simpa using e),if_pos (by simp;exact e)];exact BR.mpr ⟨u,_,rfl,h1,ih⟩
theorem CU {k:Str}:∀{ts:List (Str×PyData)}{ks:List (Key×V)},DKV K H W (AI ts) ks->(∃d v,BZ ts k=some d/\HP ks (a1K k)=some v/\DV K H W d v)\/(BZ ts k=none/\HP ks (a1K k)=none)
 | [],ks,h=>by rw[DF.mp h];exact .inr ⟨rfl,rfl⟩
 | t::ts,ks,h=>by
   obtain⟨u,r,rfl,h1,h2⟩:=BR.mp h;by_cases e:t.1=k;. exact .inl ⟨t.2,u,by simp[BZ,e],JZ (by rw[e]),h1⟩
   . have e':¬(a1K t.1:Key)=a1K k:=λq=>e (by injection q);rcases CU (k:=k) h2 with ⟨d,v,a1,a2,a3⟩ | ⟨a1,a2⟩
     . exact .inl ⟨d,v,by simp[BZ,e,a1],by rw[HQ (p:=(a1K t.1,u)) e'];exact a2,a3⟩
     . exact .inr ⟨by simp[BZ,e,a1],by rw[HQ (p:=(a1K t.1,u)) e'];exact a2⟩
theorem FB:∀{kvs:List (PyData×PyData)}{ks:List (Key×V)},DKV K H W kvs ks->ks.length=kvs.length
 | [],ks,h=>by unfold DKV at h;subst h;rfl
 | (k,d)::r,ks,h=>by unfold DKV at h;obtain⟨_,_,_,rfl,_,_,h2⟩:=h;simp[FB h2]
end
section
variable {K:Frg}{M:Own}{Q:DS->Own->Prop}{ρ:List (Option DS)}{H:Hp}{td ty tv:TE}{D:EndsD}
theorem c9 (h:DE K td ρ M λx M1=>DE K ty ρ M1 λy M2=>∃(a:Addr) (ts:List (Str×PyData)) (k:Str) (d:PyData),x = .loc a/\y = .d (.str k)/\M2 a=some (.d (AI ts))/\BZ ts k=some d/\Q (.d d) M2):DE K (WT td ty) ρ M Q:=λσ H QQ R kk=>
 h σ H _ R λv H1 x M1 o1 s1 t1 h1=>h1 σ H1 _ (R.step o1 t1) λu H2 y M2 o2 s2 t2 h2=>by
   obtain⟨a,ts,k,d,rfl,rfl,m,l,q⟩:=h2;unfold SI at s1;subst s1;rw[BV s2];obtain⟨ks,e1,e2⟩:=o2 a _ m;rcases CU (k:=k) e2 with ⟨d',w',a1,a2,a3⟩ | ⟨a1,a2⟩
   . rw[l] at a1;cases a1;exact⟨a,w',rfl,.inl ⟨ks,a1K k,.inl e1,rfl,a2.symm⟩,kk _ H2 (.d d) M2 o2 a3 (t1.trans t2) q⟩
   . rw[l] at a1;cases a1
theorem EK (h:DE K td ρ M λx M1=>DE K ty ρ M1 λy M2=>∃(ts:List (Str×PyData)) (k:Str) (d:PyData),x = .d (.dict (AI ts))/\y = .d (.str k)/\BZ ts k=some d/\Q (.d d) M2):DE K (WT td ty) ρ M Q:=λσ H QQ R kk=>
 h σ H _ R λv H1 x M1 o1 s1 t1 h1=>h1 σ H1 _ (R.step o1 t1) λu H2 y M2 o2 s2 t2 h2=>by
   obtain⟨ts,k,d,rfl,rfl,l,q⟩:=h2;have iy:=s1.step t2;unfold SI DV at iy;obtain⟨a,ks,rfl,nw,e1,e2⟩:=iy;rw[BV s2];rcases CU (k:=k) e2 with ⟨d',w',a1,a2,a3⟩ | ⟨a1,a2⟩
   . rw[l] at a1;cases a1;exact⟨a,w',rfl,.inl ⟨ks,a1K k,e1,rfl,a2.symm⟩,kk _ H2 (.d d) M2 o2 a3 (t1.trans t2) q⟩
   . rw[l] at a1;cases a1
theorem XA (h:DE K ty ρ M λy M1=>DE K td ρ M1 λx M2=>∃(a:Addr) (ts:List (Str×PyData)) (k:Str),x = .loc a/\y = .d (.str k)/\M2 a=some (.d (AI ts))/\Q (.d (.bool (BZ ts k).isSome)) M2):DE K (kN ty td) ρ M Q:=λσ H QQ R kk=>
 h σ H _ R λv H1 x M1 o1 s1 t1 h1=>h1 σ H1 _ (R.step o1 t1) λu H2 y M2 o2 s2 t2 h2=>by
   obtain⟨a,ts,k,rfl,rfl,m,q⟩:=h2;unfold SI at s2;subst s2;rw[BV s1];obtain⟨ks,e1,e2⟩:=o2 a _ m;refine⟨a,HP ks (a1K k),rfl,.inl ⟨ks,a1K k,.inl e1,rfl,rfl⟩,kk _ H2 _ M2 o2 ?_ (t1.trans t2) q⟩;rcases CU (k:=k) e2 with ⟨d',w',a1,a2,a3⟩ | ⟨a1,a2⟩
   . rw[a1,a2];exact AL
   . rw[a1,a2];exact AL
theorem BW (h:DE K tv ρ M λz M1=>DE K td ρ M1 λx M2=>DE K ty ρ M2 λy M3=>∃(a:Addr) (ts:List (Str×PyData)) (k:Str) (d:PyData),z = .d d/\x = .loc a/\y = .d (.str k)/\M3 a=some (.d (AI ts))/\ts.length < sizeLine/\D.nx ρ (M3.put a (.d (AI (P5 ts k d))))):DSt K (iW td ty tv) ρ M D:=λσ H E R k1 k2 k3 k4=>
 h σ H _ R λv H1 z M1 o1 s1 t1 h1=>h1 σ H1 _ (R.step o1 t1) λu H2 x M2 o2 s2 t2 h2=>h2 σ H2 _ (R.step o2 (t1.trans t2)) λyv H3 y M3 o3 s3 t3 h3=>by
   obtain⟨a,ts,k,d,rfl,rfl,rfl,m,hl,q⟩:=h3;unfold SI at s2;subst s2;rw[BV s3];obtain⟨ks,e1,e2⟩:=o3 a _ m;have hd:DV K H3 M3.W d v:=DV.grow (t2.trans t3).grow s1;obtain⟨o4,t4⟩:=GK o3 m (X9 (k:=k) e2 hd);have ab:ks.length < sizeLine:=by rw[FB e2];unfold AI;rw[zX];exact hl
   have ta:=((t1.trans t2).trans t3).trans t4;exact⟨a,_,rfl,.inl ⟨ks,a1K k,e1,rfl,ab,rfl⟩,k1 ρ _ σ _ (R.step o4 ta) ta q⟩
theorem RL (h:DE K td ρ M λx M1=>∃(a:Addr) (sD:List (Str×PyData)),x = .loc a/\M1 a=some (.d (AI sD))/\DE K ty ρ M1 λy M2=>∃(ts:List (Str×PyData)) (k:Str) (d:PyData),y = .d (.str k)/\M2 a=some (.d (AI ts))/\BZ ts k=some d/\Q (.d d) (M2.put a (.d (AI (TF ts k))))):DE K (aC td ty) ρ M Q:=λσ H QQ R kk=>
 h σ H _ R λv H1 x M1 o1 s1 t1 h1=>by
   obtain⟨a,sD,rfl,m0,h1⟩:=h1;unfold SI at s1;subst s1;obtain⟨uH,e0,_⟩:=o1 a _ m0;refine⟨a,rfl,.inl ⟨uH,.inl e0⟩,h1 σ H1 _ (R.step o1 t1) λu H2 y M2 o2 s2 t2 h2=>?_⟩;obtain⟨ts,k,d,rfl,m,l,q⟩:=h2;rw[BV s2];obtain⟨ks,e1,e2⟩:=o2 a _ m;rcases CU (k:=k) e2 with ⟨d',w',a1,a2,a3⟩ | ⟨a1,a2⟩
   . rw[l] at a1;cases a1;obtain⟨o4,t4⟩:=GK o2 m (TK (k:=k) e2);exact⟨ks,a1K k,w',e1,rfl,a2,kk _ _ (.d d) _ o4 (DV.grow t4.grow a3) ((t1.trans t2).trans t4) q⟩
   . rw[l] at a1;cases a1
theorem cA {a:Addr}{ts:List (Str×PyData)}(m:M a=some (.d (AI ts))) (bc:ts.length < 64) (q:∀ss:List Str,ss.Perm (ts.map (·.1))->xG ss=true->Q (.d (.list (ss.map .str))) M):DR K (NO K) [.loc a] M Q:=λH vs QQ oa s k=>by obtain⟨v,r,rfl,h1,h2⟩:=s;cases h2;unfold SI at h1;subst h1;obtain⟨ks,e1,e2⟩:=oa a _ m;refine .inr (.inr ⟨a,ks,ts.map (·.1),rfl,.inl e1,TH e2,by rw[zX];exact bc,λak p h3 h4 hp=>?_⟩);have g:Grow K M.W M.W H (upd H p (.lst (ak.map V.str))):=BI _ hp;refine k _ _ (.d (.list (ak.map .str))) M (oa.new hp) ?_ ⟨g⟩ (q ak h3 h4);unfold SI DV;exact⟨p,_,rfl,.inl ⟨λw=>w (oa.none hp),.inl AN⟩,F9⟩
def LC (t:Str×List PyData):PyData:=.tuple (.str t.1::t.2)
theorem TL {W:Addr->Prop}:∀{ts:List (Str×List PyData)}{vs:List V},DVs K H W (ts.map LC) vs->∃es:List (Addr×Str×List V),vs=es.map (λe=>V.ref e.1)/\es.map (λe=>e.2.1)=ts.map (·.1)/\(∀e∈es,SqT K H e.1 (.str e.2.1::e.2.2)) /\
   es.length=ts.length/\∀(i:Nat) e t,es[i]?=some e->ts[i]?=some t->DV K H W (LC t) (.ref e.1)/\e.2.1=t.1
 | [],vs,h=>by unfold DVs at h;subst h;exact⟨[],rfl,rfl,(λe he=>by simp at he),rfl,λi e t h1 h2=>by simp at h1⟩
 | t::ts,vs,h=>by
   rw[zI] at h;unfold DVs at h;obtain⟨v,r,rfl,h1,h2⟩:=h;obtain⟨es,rfl,e2,e3,e4,e5⟩:=TL h2;have qX:=h1;unfold LC DV at qX;obtain⟨a,us,rfl,hw,hd⟩:=qX;unfold DVs at hd;obtain⟨u,uI,rfl,hu,vD⟩:=hd;unfold DV at hu;subst hu;refine⟨(a,t.1,uI)::es,rfl,by simp[e2],λe he=>?_,by simp[e4],λi e t' h3 h4=>?_⟩
   . rcases yX.mp he with rfl | he;. exact hw.sq
     . exact e3 e he
   . cases i with
     | zero=>simp at h3 h4;subst h3 h4;exact⟨h1,rfl⟩
     | succ i=>exact e5 i e t' (by simpa using h3) (by simpa using h4)
theorem TM {W:Addr->Prop}:∀{es:List (Addr×Str×List V)}{ts:List (Str×List PyData)},es.length=ts.length->(∀(i:Nat) e t,es[i]?=some e->ts[i]?=some t->DV K H W (LC t) (.ref e.1))->DVs K H W (ts.map LC) (es.map λe=>V.ref e.1)
 | [],[],_,_=>by simp only[b4Q];exact DVs.nil
 | [],_::_,h,_=>by simp at h
 | _::_,[],h,_=>by simp at h
 | e::es,t::ts,h,k=>by rw[zI,zI];exact DVs.cons (k 0 e t rfl rfl) (TM (by simpa using h) λi e t h1 h2=>k (i+1) e t (by simpa using h1) (by simpa using h2))
theorem VS {α β:Type}:∀{as qc:List α},qc.Perm as->∀{bs:List β},as.length=bs.length->∃mx:List β,mx.Perm bs/\(qc.zip mx).Perm (as.zip bs)/\qc.length=mx.length:=by
 intro as qc h;induction h with
 | nil=>intro bs hl;exact⟨bs,.refl _,.refl _,hl⟩
 | cons x _ ih=>
   intro bs hl;cases bs with
   | nil=>simp at hl
   | cons b bs=> obtain⟨mx,h1,h2,h3⟩:=ih (bs:=bs) (by simpa using hl);exact⟨b::mx,h1.cons b,by rw[a6J,a6J];exact h2.cons _,by simp[h3]⟩
 | swap x y l=>
   intro bs hl
   match bs,hl with
   | b1::b2::bs,hl=>exact⟨b2::b1::bs,.swap _ _ _,by simp only[a6J];exact .swap _ _ _,by simpa using hl⟩
 | trans p1 p2 ih1 ih2=> intro bs hl;obtain⟨b2,h1,h2,h3⟩:=ih2 hl;obtain⟨b3,g1,g2,g3⟩:=ih1 h3;exact⟨b3,g1.trans h1,g2.trans h2,g3⟩
theorem NQ {a:Addr}{ts:List (Str×List PyData)}{vs:List V}{QQ:VK}(oa:OA K H M) (hl:SqL K H a vs\/SqT K H a vs) (hd:DVs K H M.W (ts.map LC) vs) (nd:(ts.map (·.1)).Nodup) (bc:ts.length < 64) (k:∀(w:V) (H':Hp) (z:DS) (M':Own),OA K H' M'->SI K H' M' z w->Step K M M' H H'->(∃dk:List (Str×List PyData),dk.Perm ts/\dk.Pairwise (λx y=>x.1.cps.toList < y.1.cps.toList)/\z = .d (.list (dk.map LC))/\M'=M)->QQ w H'):NO K [.ref a] H QQ:=by
 obtain⟨es,rfl,e2,e3,e4,e5⟩:=TL hd;refine .inr (.inl ⟨a,es,rfl,hl,e3,by rw[e2];exact nd,by rw[e4];exact bc,λaw p hp hs hn=>?_⟩);obtain⟨dk,p1,p2,p3⟩:=VS hp e4;have each:∀(i:Nat) e t,aw[i]?=some e->dk[i]?=some t->DV K H M.W (LC t) (.ref e.1)/\e.2.1=t.1:=λi e t h1 h2=>by have hz:(e,t)∈es.zip ts:=p2.mem_iff.mp (yN (i:=i) (by rw[List.getElem?_zip_eq_some];exact⟨h1,h2⟩));obtain⟨j,hj⟩:=List.getElem?_of_mem hz;rw[List.getElem?_zip_eq_some] at hj;exact e5 j e t hj.1 hj.2
 have g:Grow K M.W M.W H (upd H p (.lst (aw.map λe=>V.ref e.1))):=BI _ hn;refine k _ _ (.d (.list (dk.map LC))) M (oa.new hn) ?_ ⟨g⟩ ⟨dk,p1,?_,rfl,rfl⟩;. unfold SI DV;exact⟨p,_,rfl,.inl ⟨λw=>w (oa.none hn),.inl AN⟩,(TM p3 λi e t h1 h2=>(each i e t h1 h2).1).grow g⟩
 . rw[List.pairwise_iff_getElem] at hs ⊢;intro i j hi hj au;have hi':i < aw.length:=by lia
   have hj':j < aw.length:=by lia
   have:=hs i j hi' hj' au;rw[(each i aw[i] dk[i] (zV hi') (zV hi)).2,(each j aw[j] dk[j] (zV hj') (zV hj)).2] at this;exact this
theorem cB {ts:List (Str×List PyData)}(nd:(ts.map (·.1)).Nodup) (bc:ts.length < 64) (q:∀dk:List (Str×List PyData),dk.Perm ts->dk.Pairwise (λx y=>x.1.cps.toList < y.1.cps.toList)->Q (.d (.list (dk.map LC))) M):DR K (NO K) [.d (.list (ts.map LC))] M Q:=λH vs QQ oa s k=>by obtain⟨v,r,rfl,h1,h2⟩:=s;cases h2;unfold SI DV at h1;obtain⟨a,vs,rfl,hl,hd⟩:=h1;exact NQ oa (.inl hl.sq) hd nd bc λw H' z M' o si st ⟨dk,p1,p2,e1,e2⟩=>by subst e1 e2;exact k w H' _ _ o si st (q dk p1 p2)
end
end DL
namespace DL
open PySem PySem.Spec L2
section
variable {X:Cx}{K:Frg}
theorem lY (h:X.K=K) (hc:X.calm=true):BO X (.builtin "sorted") (NO K):=h▸VR hc
end
section
variable {K:Frg}{M:Own}{ρ:List (Option DS)}{wi:TI}{g:TG}{H:Hp}
theorem cC {ts:List (Str×PyData)}{k:Str}{d:PyData}(h:k∉ts.map (·.1)):P5 ts k d=ts++[(k,d)]:=by unfold P5;rw[if_neg];intro e;obtain⟨t,ht,e⟩:=List.any_eq_true.mp e;exact h (zL.mpr ⟨t,ht,by simpa using e⟩)
theorem TN {fr:List (Option Nat)}{tt:TT}{tk tv:TE}{T:List Nat}{Q:DS->Own->Prop}(ho:Q3 g T) (hT:∀i∈T,∀j,fr[i]?≠some (some j)) (h:DI K wi ρ M λds M1=>ds.length < sizeLine/\∃(c:PyData->Bool) (f:PyData->Str) (w:PyData->PyData),((ds.filter c).map f).Nodup /\(∀d∈ds,∀M',DG K g d (LZ fr ρ) M' λρ2 M2=>M2=M'/\DT K tt ρ2 M2 λb M3=>M3=M'/\b=c d/\(c d=true->DE K tk ρ2 M3 λy M4=>y = .d (.str (f d))/\M4=M'/\DE K tv ρ2 M4 λz M5=>z = .d (w d)/\M5=M')) /\∀p,M1 p=none->Q (.loc p) (M1.put p (.d (AI ((ds.filter c).map λd=>(f d,w d)))))) :
   DE K (RK fr wi g tt tk tv) ρ M Q:=λσ H QQ R k=>
 h σ H _ R λJ ds H1 M1 o1 t1 wd ⟨hsz,c,f,w,nd,he,hq⟩=>by
   intro A hA;obtain⟨oA,sA⟩:=K4 (kvs:=[]) (ks:=[]) o1 hA (by unfold DKV;rfl);have hM:=o1.none hA;let acc:Nat->List (Str×PyData):=λi=>((ds.take i).filter c).map λd=>(f d,w d)
   refine⟨λi m ys H2=>m=ds.length - i/\i<=ds.length/\H2 A=some (.dK ys)/\OA K H2 (M1.put A (.d (AI (acc i))))/\Step K M1 (M1.put A (.d (AI (acc i)))) H1 H2,⟨_,rfl,xT _,AN,oA,sA⟩,?_⟩;rintro i m ys H2 ⟨rfl,hi,mf,oa,st⟩;refine⟨mf,?_⟩;by_cases bb:i < ds.length
   . refine .inr ⟨wd.go i H2 _ bb oa st,λx H3 y=>?_⟩;obtain⟨qQ,fg,d,e1,e2⟩:=wd.yld i H2 _ x H3 oa st bb y;have Rc:Rel K (M1.put A (.d (AI (acc i)))) (LZ fr ρ) (L2.capt fr σ) H3:=((R.step o1 t1).step qQ (st.trans fg)).capt;have ts:(ds.take (i+1)).filter c=(ds.take i).filter c++(if c d then [d] else []):=take_succ_filter c ds i d e1;refine ho _ _ _ _ (he d (yN e1) _ (L2.capt fr σ) H3 x _ Rc e2 λρ3 M3 σ3 H4 R3 ix ⟨eM,b3⟩ hext=>⟨λi' v' mh=>?_,?_⟩);. obtain⟨j,f1,f2⟩:=LA mh;rw[hext i' λhm=>hT i' hm j f1];exact mh
     . subst eM;refine b3 σ3 H4 _ R3 λb H5 M5 o5 fq ⟨uJ,eb,h5⟩=>?_;subst uJ;have sx:=((st.trans fg).trans ix).trans fq;cases hb:c d with
       | false=>
         rw[hb] at eb;subst eb;rw[if_neg nft];obtain⟨ks,q1,q2⟩:=o5 A _ zU;have ea:acc (i+1)=acc i:=by show(((ds.take (i+1)).filter c).map _)=_;rw[ts,hb];simp[acc]
         refine⟨ks,ds.length - (i+1),by lia,rfl,bb,q1,?_,?_⟩;. rw[ea];exact o5
         . rw[ea];exact sx
       | true=>
         rw[hb] at eb;subst eb;rw[if_pos rfl];refine h5 hb σ3 H5 _ (R3.step o5 fq) λy H6 z M6 o6 s6 pZ ⟨ez,uK,h6⟩=>?_;subst ez uK;refine h6 σ3 H6 _ ((R3.step o5 fq).step o6 pZ) λy2 H7 z2 M7 o7 s7 ly ⟨uL,uM⟩=>?_;subst uL uM;obtain⟨ks,q1,q2⟩:=o7 A _ zU;obtain⟨w1,w2⟩:=GK o7 zU (X9 (k:=f d) q2 s7);have qY:f d∉(acc i).map (·.1):=by
           intro hm;have:((ds.take (i+1)).filter c).map f=(acc i).map (·.1)++[f d]:=by rw[ts,hb];simp[acc]
           have jm:(((ds.take (i+1)).filter c).map f).Nodup:=by refine nd.sublist ?_;exact((b5Q _ _).filter _).map _
           rw[this,a9J] at jm;exact jm.2.2 _ hm _ (by simp) rfl
         have ea:acc (i+1)=P5 (acc i) (f d) (w d):=by rw[cC qY];show(((ds.take (i+1)).filter c).map _)=_;rw[ts,hb];simp[acc]
         have ab:ks.length < sizeLine:=by rw[FB q2];unfold AI;rw[zX];refine zQ ?_ hsz;show(((ds.take i).filter c).map _).length<=_;rw[zX];exact zN (yJ _ _) (by rw[a0V];lia)
         rw[yI] at w1 w2;refine⟨ks,a1K (f d),BV s6,q1,ab,ds.length - (i+1),by lia,rfl,bb,AN,?_,?_⟩;. rw[ea];exact w1
         . rw[ea];exact((sx.trans pZ).trans ly).trans w2
   . have e:i=ds.length:=by lia
     subst e;refine .inl ⟨wd.stop H2 _ oa st,k _ H2 (.loc A) _ oa rfl (t1.trans st) ?_⟩;have:=hq A hM;have ea:acc ds.length=(ds.filter c).map λd=>(f d,w d):=by show(((ds.take ds.length).filter c).map _)=_;rw[a1J]
     rw[ea];exact this
theorem cD {D:EndsD}{i j:Nat}{ta:TA}(h:DA K ta ρ M λxs M1=>∃x y,xs=[x,y]/\D.nx ((ρ.set i (some x)).set j (some y)) M1):DSt K (n8 i j ta) ρ M D:=λσ H E R k1 _ _ _=>
 h σ H _ R λvs H1 xs M1 o1 s1 t1 h1=>by obtain⟨x,y,rfl,q⟩:=h1;obtain⟨v,r,rfl,sx,s2⟩:=s1;obtain⟨w,r',rfl,sy,s3⟩:=s2;cases s3;exact⟨v,w,rfl,k1 _ M1 _ H1 (((R.step o1 t1).set sx i).set sy j) t1 q⟩
end
end DL
namespace DL
open PySem PySem.Spec L2
inductive Deed where
 | put (x:Str) (p k:Int) | take (x:Str) | move (x:Str) (p:Int) | count (x:Str) (k:Int) | name (x y:Str) | split (x y:Str) (p k:Int) | join (x y:Str)
def Deed.d:Deed->PyData
 | .put x p k=>.tuple [.str (a0Q "put"),.str x,.int p,.int k]
 | .take x=>.tuple [.str (a0Q "take"),.str x]
 | .move x p=>.tuple [.str (a0Q "move"),.str x,.int p]
 | .count x k=>.tuple [.str (a0Q "count"),.str x,.int k]
 | .name x y=>.tuple [.str (a0Q "name"),.str x,.str y]
 | .split x y p k=>.tuple [.str (a0Q "split"),.str x,.str y,.int p,.int k]
 | .join x y=>.tuple [.str (a0Q "join"),.str x,.str y]
def Deed.names:Deed->List Str
 | .put x _ _=>[x] | .take x=>[x] | .move x _=>[x] | .count x _=>[x] | .name x y=>[x,y] | .split x y _ _=>[x,y] | .join x y=>[x,y]
def Deed.ok (D:Deed):Prop:=∀x∈D.names,K5 x
theorem VT {z:Str}(h:K5 z):zH (.str z)=true:=IT (CL h) (by simp[a2W])
def Deed.word:Deed->Str
 | .put .. => "put" | .take .. => "take" | .move .. => "move" | .count .. => "count" | .name .. => "name" | .split .. => "split" | .join .. => "join"
def Deed.fst:Deed->Str
 | .put x _ _=>x | .take x=>x | .move x _=>x | .count x _=>x | .name x _=>x | .split x _ _ _=>x | .join x _=>x
def Deed.rest:Deed->List PyData
 | .put _ p k=>[.int p,.int k] | .take _=>[] | .move _ p=>[.int p] | .count _ k=>[.int k] | .name _ y=>[.str y] | .split _ y p k=>[.str y,.int p,.int k] | .join _ y=>[.str y]
theorem Deed.d_eq (D:Deed):D.d = .tuple (.str D.word::.str D.fst::D.rest):=by cases D <;> rfl
theorem Deed.word_ok (D:Deed):zH (.str D.word)=true:=by cases D <;> (simp only[Deed.word];decide +kernel)
theorem EB (a b:Str):a4W (.str a) (.str b)=(a==b):=by simp[a4W]
theorem HX {ss:List Str}(h:∀s∈ss,PyData.strOk s=true):zH (.list (ss.map .str))=true:=by
 refine IT (NL λd hd=>?_) ?_;. obtain⟨y,h1,rfl⟩:=zL.mp hd;exact h y h1
 . have:a5X (ss.map a0J)<=0:=LB λd hd=>by obtain⟨y,h1,rfl⟩:=zL.mp hd;exact zR 0
   simp only[a2W];lia
theorem XB {ys:List Str}{v:Int}(h0:0<=v) (h1:v < ys.length):∃y,atI (ys.map a0J) v=some (.str y)/\y∈ys:=by
 obtain⟨n,rfl⟩:∃n:Nat,v=(n:Int):=⟨v.toNat,by lia⟩
 have hn:n < ys.length:=by lia
 exact⟨ys[n],AA (by rw[zF,zV hn];rfl),a0K hn⟩
def QD:FSp:=⟨λxs M=>∃ns:List Int,xs=[.d (.list (ns.map .int))]/\ns.length<=63/\∀i∈ns,xJ i<=2 ^ 20,λxs M y M'=>y = .d (.bool true)⟩
end DL
namespace DL
open PySem PySem.Spec L2
def pcD (p c:Int):PyData:=.tuple [.int p,.int c]
def tsD (ts:List Th):List (Str×PyData):=ts.map λt=>(t.1,pcD t.2.1 t.2.2)
def BK (ts:List Th) (k:Str) (p c:Int):List Th:=if (ts.any λt=>decide (t.1=k))=true then ts.map (λt=>if t.1=k then (t.1,p,c) else t) else ts++[(k,p,c)]
def HY (ts:List Th) (k:Str):List Th:=ts.filter λt=>decide (t.1≠k)
def AE:List Th->Str->Option (Int×Int)
 | [],_=>none
 | t::r,k=>if t.1=k then some t.2 else AE r k
theorem CI (ts:List Th) (k:Str) (p c:Int):P5 (tsD ts) k (pcD p c)=tsD (BK ts k p c):=by
 unfold P5 BK tsD;have e:((ts.map λt=>(t.1,pcD t.2.1 t.2.2)).any λt=>decide (t.1=k))=ts.any λt=>decide (t.1=k):=by rw[List.any_map];rfl
 rw[e];split;. rw[zD,zD];apply yM;intro t _;show(if t.1=k then (t.1,pcD p c) else _)=_;simp only[Function.comp];split <;> rfl
 . simp
theorem NR (ts:List Th) (k:Str):TF (tsD ts) k=tsD (HY ts k):=by unfold TF HY tsD;rw[xU];rfl
theorem AW (k:Str):∀ts:List Th,BZ (tsD ts) k=(AE ts k).map λv=>pcD v.1 v.2
 | []=>rfl
 | t::r=>by
   have ih:=AW k r;unfold tsD at ih ⊢;simp only[zI,BZ,AE];split;. rfl
   . exact ih
theorem IU {k:Str}:∀{ts:List Th}{v:Int×Int},AE ts k=some v->(k,v)∈ts
 | t::r,v,h=>by
   unfold AE at h;split at h;. rename_i e;cases h;subst e;exact a1X
   . exact yV _ (IU h)
theorem JM {k:Str}:∀{ts:List Th},AE ts k=none↔k∉ts.map (·.1)
 | []=>by simp[AE]
 | t::r=>by
   unfold AE;rw[zI,yX];split;. rename_i e;simp[e]
   . rename_i e;rw[JM];constructor;. intro h q;rcases q with q | q;exact e q.symm;exact h q
     . intro h q;exact h (.inr q)
theorem VU {k:Str}{ts:List Th}:(AE ts k).isSome=decide (k∈ts.map (·.1)):=by
 cases h:AE ts k with
 | none=>rw[decide_eq_false (JM.mp h)];rfl
 | some v=>rw[decide_eq_true (zL.mpr ⟨_,IU h,rfl⟩)];rfl
theorem K6 {t:Th}:∀{ts:List Th},(ts.map (·.1)).Nodup->t∈ts->AE ts t.1=some t.2
 | u::r,nd,h=>by
   unfold AE;rcases yX.mp h with rfl | h;. rw[if_pos rfl]
   . rw[zI,xV] at nd;rw[if_neg λe=>nd.1 (by rw[e];exact zL.mpr ⟨t,h,rfl⟩)];exact K6 nd.2 h
def LD (ts:List Th) (x:Str) (k:Int):List Th:=match AE ts x with | some v=>BK ts x v.1 (v.2+k) | none=>ts
def doT (ts:List Th):Deed->List Th
 | .put x p k=>BK ts x p k
 | .take x=>HY ts x
 | .move x p=>match AE ts x with | some v=>BK ts x p v.2 | none=>ts
 | .count x k=>LD ts x k
 | .name x y=>match AE ts x with | some v=>BK (HY ts x) y v.1 v.2 | none=>ts
 | .split x y p k=>BK (LD ts x (-k)) y p k
 | .join x y=>match AE ts y with | some v=>HY (LD ts x v.2) y | none=>ts
def Deed.made:Deed->Option Str | .put x _ _=>some x | .name _ y=>some y | .split _ y _ _=>some y | _=>none
def Deed.apart:Deed->Prop | .name x y=>x≠y | .split x y _ _=>x≠y | .join x y=>x≠y | _=>True
def Deed.placed:Deed->Prop | .put _ p _=>0<=p/\p<=999 | .move _ p=>0<=p/\p<=999 | .split _ _ p _=>0<=p/\p<=999 | _=>True
def Deed.real (D:Deed):Prop:=D.ok/\D.apart/\D.placed
def AY (ns:List Str) (D:Deed):Option Str:=D.names.find? λn=>decide (n∈ns)==decide (D.made=some n)
theorem FC {ns:List Str}{D:Deed}(h:AY ns D=none):∀n∈D.names,(n∈ns)↔¬D.made=some n:=λn hn=>by have:=List.find?_eq_none.mp h n hn;by_cases h1:n∈ns <;> by_cases h2:D.made=some n <;> simp_all
abbrev tsO (ts:List Th):MO:=.d (AI (tsD ts))
def oS (ts:List Th):Prop:=(ts.map (·.1)).Nodup/\ts.length < 63
def goD (w:List Th) (D:Deed):Prop:=oS w/\D.real/\AY (w.map (·.1)) D=none
theorem gU {t u:Th}(h:thD t=thD u):t=u:=by obtain⟨a,b,c⟩:=t;obtain⟨a',b',c'⟩:=u;simp only[thD,PyData.tuple.injEq,List.cons.injEq,PyData.str.injEq,PyData.int.injEq,and_true] at h;obtain⟨rfl,rfl,rfl⟩:=h;rfl
theorem MA:∀{v w:List Th},v.map thD=w.map thD->v=w
 | [],[],_=>rfl
 | [],_::_,h=>by simp at h
 | _::_,[],h=>by simp at h
 | a::v,b::w,h=>by rw[zI,zI,List.cons.injEq] at h;rw[gU h.1,MA h.2]
theorem lZ {v w:List Th}(h:wD v=wD w):v=w:=MA (by unfold wD at h;exact PyData.tuple.inj h)
theorem FW {D E:Deed}(h:D.d=E.d):D=E:=by
 cases D <;> cases E <;> simp only[Deed.d,PyData.tuple.injEq,List.cons.injEq,PyData.str.injEq,PyData.int.injEq,and_true,true_and,reduceCtorEq,and_false,false_and,List.nil_eq] at h <;>
   first
   | (obtain⟨_,h⟩:=h;first | (obtain⟨rfl,rfl,rfl,rfl⟩:=h;rfl) | (obtain⟨rfl,rfl,rfl⟩:=h;rfl) | (obtain⟨rfl,rfl⟩:=h;rfl) | (subst h;rfl))
   | (obtain⟨rfl,rfl,rfl,rfl⟩:=h;rfl) | (obtain⟨rfl,rfl,rfl⟩:=h;rfl) | (obtain⟨rfl,rfl⟩:=h;rfl) | (subst h;rfl)
   | exact absurd h.1 (by decide +kernel)
end DL
namespace DL
open PySem PySem.Spec L2
theorem J7 (ds:List PyData):(ds.filter λ_=>true)=ds:=List.filter_eq_self.mpr (by simp)
theorem TQ {ts:List Th}{x:Str}{p c:Int}(h:x∈ts.map (·.1)):BK ts x p c=ts.map λt=>if t.1=x then (t.1,p,c) else t:=by unfold BK;obtain⟨t,ht,e⟩:=zL.mp h;rw[if_pos (List.any_eq_true.mpr ⟨t,ht,by simpa using e⟩)]
theorem K7 {ts:List Th}{x:Str}{p c:Int}(h:x∉ts.map (·.1)):BK ts x p c=ts++[(x,p,c)]:=by unfold BK;rw[if_neg];intro e;obtain⟨t,ht,e⟩:=List.any_eq_true.mp e;exact h (zL.mpr ⟨t,ht,by simpa using e⟩)
theorem NS {ts:List Th}{x:Str}{p c:Int}(h:x∈ts.map (·.1)):(BK ts x p c).map (·.1)=ts.map (·.1):=by rw[TQ h,zD];apply yM;intro t _;simp only[Function.comp];split <;> rfl
theorem EC {ts:List Th}{x:Str}(h:x∈ts.map (·.1)):∃v,AE ts x=some v:=by
 cases e:AE ts x with
 | none=>exact absurd h (JM.mp e)
 | some v=>exact⟨v,rfl⟩
theorem XC {ts:List Th}{x:Str}{v:Int×Int}(h:AE ts x=some v):x∈ts.map (·.1):=zL.mpr ⟨_,IU h,rfl⟩
theorem GL {ts:List Th}{x:Str}{k:Int}:(LD ts x k).map (·.1)=ts.map (·.1):=by
 unfold LD;cases e:AE ts x with
 | none=>rfl
 | some v=>exact NS (XC e)
theorem CV {ts:List Th}(h:ts.length < 64):(tsD ts).length < sizeLine:=by unfold tsD;rw[zX];exact zP h (by decide)
theorem FD (ts:List Th) (x:Str):(HY ts x).map (·.1)=(ts.map (·.1)).filter λn=>decide (n≠x):=by unfold HY;rw[xU];rfl
def RM (ns:List Str):Deed->List Str
 | .put x _ _=>ns++[x]
 | .take x=>ns.filter λn=>decide (n≠x)
 | .move _ _=>ns
 | .count _ _=>ns
 | .name x y=>(ns.filter λn=>decide (n≠x))++[y]
 | .split _ y _ _=>ns++[y]
 | .join _ y=>ns.filter λn=>decide (n≠y)
theorem K8 {ns:List Str}{D:Deed}(ha:AY ns D=none) {n:Str}(hn:n∈D.names) (hm:D.made≠some n):n∈ns:=(FC ha n hn).mpr hm
theorem LF {ns:List Str}{D:Deed}(ha:AY ns D=none) {n:Str}(hn:n∈D.names) (hm:D.made=some n):n∉ns:=λq=>(FC ha n hn).mp q hm
theorem QE {ts:List Th}{D:Deed}(hr:D.real) (ha:AY (ts.map (·.1)) D=none):(doT ts D).map (·.1)=RM (ts.map (·.1)) D:=by
 cases D with
 | put x p k=> show(BK ts x p k).map (·.1)=_;rw[K7 (LF ha (by simp[Deed.names]) rfl),xI];rfl
 | take x=>exact FD ts x
 | move x p=> obtain⟨v,hv⟩:=EC (K8 ha (n:=x) (by simp[Deed.names]) (by simp[Deed.made]));simp only[doT,hv];exact NS (XC hv)
 | count x k=>exact GL
 | name x y=>
   obtain⟨v,hv⟩:=EC (K8 ha (n:=x) (by simp[Deed.names]) (by simp[Deed.made];exact λe=>hr.2.1 e.symm));simp only[doT,hv];have hy:y∉(HY ts x).map (·.1):=by rw[FD];intro q;exact LF ha (n:=y) (by simp[Deed.names]) rfl (yL.mp q).1
   rw[K7 hy,xI,FD];rfl
 | split x y p k=>
   show(BK (LD ts x (-k)) y p k).map (·.1)=_;have hy:y∉(LD ts x (-k)).map (·.1):=by rw[GL];exact LF ha (n:=y) (by simp[Deed.names]) rfl
   rw[K7 hy,xI,GL];rfl
 | join x y=> obtain⟨v,hv⟩:=EC (K8 ha (n:=y) (by simp[Deed.names]) (by simp[Deed.made]));simp only[doT,hv];rw[FD,GL];rfl
theorem RN {ns:List Str}{D:Deed}(nd:ns.Nodup) (ha:AY ns D=none):(RM ns D).Nodup:=by
 have app:∀{l:List Str}{y:Str},l.Nodup->y∉l->(l++[y]).Nodup:=λ{l y} h1 h2=>by rw[a9J];exact⟨h1,by simp,λa ha b hb e=>by simp at hb;subst hb;subst e;exact h2 ha⟩
 cases D with
 | put x p k=>exact app nd (LF ha (by simp[Deed.names]) rfl)
 | take x=>exact nd.sublist a3Z
 | move x p=>exact nd
 | count x k=>exact nd
 | name x y=>exact app (nd.sublist a3Z) λq=>LF ha (n:=y) (by simp[Deed.names]) rfl (yL.mp q).1
 | split x y p k=>exact app nd (LF ha (n:=y) (by simp[Deed.names]) rfl)
 | join x y=>exact nd.sublist a3Z
theorem VW (ns:List Str) (D:Deed):(RM ns D).length<=ns.length+1:=by cases D <;> simp only[RM,yY,yR,List.length_nil];all_goals first | lia | exact zN (yJ _ _) (a6V _) | exact Nat.add_le_add_right (yJ _ _) 1
theorem m4 {ts:List Th}{D:Deed}(h:goD ts D):((doT ts D).map (·.1)).Nodup/\(doT ts D).length < 64:=by obtain⟨⟨nd,hl⟩,hr,ha⟩:=h;have e:=QE hr ha;refine⟨by rw[e];exact RN nd ha,?_⟩;have h1:=VW (ts.map (·.1)) D;have h2:=congrArg List.length e;simp only[zX] at h1 h2;lia
end DL
namespace DL
open PySem PySem.Spec L2
theorem DU (ts:List Th) (x:Str) (p c:Int) (n:Str):AE (BK ts x p c) n=if n=x then some (p,c) else AE ts n:=by
 by_cases h:x∈ts.map (·.1)
 . rw[TQ h];induction ts with
   | nil=>simp at h
   | cons t r ih=>
     rw[zI];by_cases e:t.1=x
     . rw[if_pos e];unfold AE;by_cases en:n=x;. subst en;rw[if_pos e,if_pos rfl]
       . have e1:¬t.1=n:=λq=>en (q.symm.trans e);rw[if_neg e1,if_neg en,if_neg e1];by_cases hr:x∈r.map (·.1);. rw[ih hr,if_neg en]
         . have hm:(r.map λt=>if t.1=x then (t.1,p,c) else t)=r:=by
             conv=>rhs;rw[<-a8J r]
             apply yM;intro u hu;rw[if_neg λq=>hr (by rw[<-q];exact zL.mpr ⟨u,hu,rfl⟩)];rfl
           rw[hm]
     . rw[if_neg e];have hr:x∈r.map (·.1):=by rw[zI,yX] at h;exact h.resolve_left λq=>e q.symm
       unfold AE;by_cases e1:t.1=n;. rw[if_pos e1,if_pos e1,if_neg λq=>e (e1.trans q)]
       . rw[if_neg e1,if_neg e1,ih hr]
 . rw[K7 h];have:∀ts:List Th,x∉ts.map (·.1)->AE (ts++[(x,p,c)]) n=if n=x then some (p,c) else AE ts n:=by
     intro ts;induction ts with
     | nil=>
       intro _;show(if x=n then _ else _)=_;by_cases e:n=x;. rw[if_pos e,if_pos e.symm]
       . rw[if_neg e,if_neg λq=>e q.symm]
     | cons t r ih=>
       intro hx;rw[zI,yX] at hx;rw[List.cons_append];unfold AE;by_cases e1:t.1=n;. rw[if_pos e1,if_pos e1,if_neg λq=>hx (.inl (e1.trans q).symm)]
       . rw[if_neg e1,if_neg e1,ih λq=>hx (.inr q)]
   exact this ts h
theorem LG (ts:List Th) (x n:Str):AE (HY ts x) n=if n=x then none else AE ts n:=by
 induction ts with
 | nil=>show none=_;split <;> rfl
 | cons t r ih=>
   unfold HY at ih ⊢;rw[a6Z];by_cases e:t.1=x
   . rw[if_neg (by simp[e]),ih];by_cases en:n=x;. rw[if_pos en,if_pos en]
     . rw[if_neg en,if_neg en]
       conv=>rhs;unfold AE
       rw[if_neg λq=>en (q.symm.trans e)]
   . rw[if_pos (by simpa using e)];unfold AE;rw[ih];by_cases e1:t.1=n;. rw[if_pos e1,if_pos e1,if_neg λq=>e (e1.trans q)]
     . rw[if_neg e1,if_neg e1]
theorem NT (ts:List Th) (x:Str) (k:Int) (n:Str):AE (LD ts x k) n=if n=x then (AE ts x).map λv=>(v.1,v.2+k) else AE ts n:=by
 unfold LD;cases h:AE ts x with
 | none=>
   by_cases e:n=x;. subst e;rw[if_pos rfl,h];rfl
   . rw[if_neg e]
 | some v=>rw[DU];rfl
theorem K9 {ts:List Th}(nd:(ts.map (·.1)).Nodup) {t:Th}:t∈ts↔AE ts t.1=some t.2:=⟨λh=>K6 nd h,λh=>IU h⟩
theorem gV {ts:List Th}{D:Deed}(hr:D.real) (ha:AY (ts.map (·.1)) D=none) (n:Str) :
   AE (doT ts D) n=match D with
     | .put x p k=>if n=x then some (p,k) else AE ts n
     | .take x=>if n=x then none else AE ts n
     | .move x p=>if n=x then (AE ts x).map λv=>(p,v.2) else AE ts n
     | .count x k=>if n=x then (AE ts x).map λv=>(v.1,v.2+k) else AE ts n
     | .name x y=>if n=y then AE ts x else if n=x then none else AE ts n
     | .split x y p k=>if n=y then some (p,k) else if n=x then (AE ts x).map λv=>(v.1,v.2 + -k) else AE ts n
     | .join x y=>if n=y then none else if n=x then (AE ts x).bind λv=>(AE ts y).map λu=>(v.1,v.2+u.2) else AE ts n:=by
 cases D with
 | put x p k=>exact DU _ _ _ _ _
 | take x=>exact LG _ _ _
 | move x p=> obtain⟨v,hv⟩:=EC (K8 ha (n:=x) (by simp[Deed.names]) (by simp[Deed.made]));simp only[doT,hv];exact DU _ _ _ _ _
 | count x k=>exact NT _ _ _ _
 | name x y=> obtain⟨v,hv⟩:=EC (K8 ha (n:=x) (by simp[Deed.names]) (by simp[Deed.made];exact λe=>hr.2.1 e.symm));simp only[doT,hv];rw[DU,LG]
 | split x y p k=> show AE (BK (LD ts x (-k)) y p k) n=_;rw[DU,NT]
 | join x y=> obtain⟨v,hv⟩:=EC (K8 ha (n:=x) (by simp[Deed.names]) (by simp[Deed.made]));obtain⟨u,hu⟩:=EC (K8 ha (n:=y) (by simp[Deed.names]) (by simp[Deed.made]));simp only[doT,hu];rw[LG,NT,hv];rfl
theorem VX {w:List Th}{D:Deed}(h:goD w D) {n:Str}(hn:n∈D.names) (hm:D.made≠some n):∃v,AE w n=some v:=EC (K8 h.2.2 hn hm)
theorem TR {ns:List Str}{D:Deed}(h:∀n∈D.names,(n∈ns)↔¬D.made=some n):AY ns D=none:=by unfold AY;rw[List.find?_eq_none];intro n hn;have:=h n hn;by_cases h1:n∈ns <;> by_cases h2:D.made=some n <;> simp_all
theorem C0 {ts:List Th}{n:Str}:n∈ts.map (·.1)↔(AE ts n).isSome=true:=by rw[VU];simp
end DL
namespace L2
open PySem PySem.Spec PyProof.Rows
theorem MB (ns:List Int):∀k,k<=ns.length->preSum (λi=>ns.getD i 0) k=(ns.take k).sum
 | 0,_=>by simp[preSum]
 | k+1,h=>by
   show preSum _ k+ns.getD k 0=_;have e:ns.take (k+1)=ns.take k++[ns.getD k 0]:=by rw[a1Q,yU,zV (by lia)];rfl
   rw[MB ns k (by lia),e,List.sum_append];simp
def m5 (K:Frg):List V->Hp->VK->Prop:=λxs H Q=>∃(p:Addr) (ns:List Int),xs=[.ref p]/\SqL K H p (ns.map V.int)/\Q (.int ns.sum) H
theorem NU:∀{ns:List Int}{aa:List Value},Vals (ns.map V.int) aa->aa.length=ns.length/\∀(i:Nat) v,aa[i]?=some v->∃t,v=Value.int (ns.getD i 0) t
 | [],_,.nil=>⟨rfl,λi v h=>by simp at h⟩
 | n::ns,_,.cons r t=>by
   obtain⟨h1,h2⟩:=NU t;refine⟨by simp[h1],λi v h=>?_⟩;cases i with
   | zero=>simp at h;subst h;exact r
   | succ i=>exact h2 i v (by simpa using h)
theorem cF {X:Cx}(hc:X.calm=true):BO X (.builtin "sum") (m5 X.K):=by
 intro pins s σ H xs us Q I r h;obtain⟨p,ns,rfl,hp,q⟩:=h;obtain⟨u,rfl,ru⟩:=FR r;cases ru;obtain⟨aa,rv,pl,_⟩:=I.list hp;obtain⟨hl,hv⟩:=NU rv;have gp:=pl.isList;have bb:p < s.heap.objs.size:=by obtain⟨_,e,_⟩:=gp;exact zM e
 refine call_sum_walkAnyS ?_;refine wpAny_pyIter_list gp ⟨s.heap.objs.size,_,_,_,aa.toArray.size,λi v=>aa.toArray[i]?=some v,_,λi=>ns.getD i 0,rfl,(Walks.list (A:=X.A.in1) (I.ok.hd hc) _ _ (zC bb) aa.toArray).toS,⟨⟨_,yZ _ rfl,rfl,rfl⟩,gp.push _⟩,λb hb=>?_,λi v e=>hv i v (by simpa using e),λs' t' hm=>?_⟩
 . show b < (s.heap.push _).objs.size;rw[b4J];rcases yX.mp hb with e | hb;. rw[e];exact b6W _
   . rw[List.mem_singleton.mp hb];exact b2Q bb
 . have hk:∀b o,s.heap.get? b=some o->s'.heap.get? b=some o:=λb o e=>
     hm.heap b o (λhI=>absurd (zM e) (by rw[List.mem_singleton.mp hI];exact yF _)) (zW _ e);rw[Moved.eq_with hm];have es:preSum (λi=>ns.getD i 0) aa.toArray.size=ns.sum:=by rw[zJ,hl,MB ns _ (zR _),a1J]
   rw[es];exact⟨.int ns.sum,H,I.kept (h':=s'.heap) (t':=s'.toks) hk,⟨t',rfl⟩,q⟩
end L2
namespace DL
open PySem PySem.Spec L2
theorem pU {X:Cx}{K:Frg}(h:X.K=K) (hc:X.calm=true):BO X (.builtin "sum") (m5 K):=h▸cF hc
section
variable {K:Frg}{M:Own}{Q:DS->Own->Prop}{H:Hp}
theorem TU {W:Addr->Prop}:∀{ns:List Int}{vs:List V},DVs K H W (ns.map b2J) vs->vs=ns.map V.int
 | [],vs,h=>by unfold DVs at h;subst h;rfl
 | n::ns,vs,h=>by rw[zI] at h;unfold DVs at h;obtain⟨v,r,rfl,h1,h2⟩:=h;unfold DV at h1;rw[h1,TU h2];rfl
theorem m7 {ns:List Int}(q:Q (.d (.int ns.sum)) M):DR K (m5 K) [.d (.list (ns.map .int))] M Q:=λH vs QQ oa s k=>by obtain⟨v,r,rfl,h1,h2⟩:=s;cases h2;unfold SI DV at h1;obtain⟨a,vs,rfl,hl,hd⟩:=h1;have e:=TU hd;subst e;exact⟨a,ns,rfl,hl.sq,k _ H (.d (.int ns.sum)) M oa D9 Step.refl q⟩
end
end DL
namespace DL
open PySem PySem.Spec L2
def AK (ys:List Str):Prop:=(∀z∈ys,K5 z)/\ys.Nodup/\ys.length<=26
def C6 (ys:List Str):PyData:=.list (ys.map .str)
theorem KA {as bs:List Str}(h:C6 as=C6 bs):as=bs:=HW (by unfold C6 at h;exact PyData.list.inj h)
def wB2 (t:Th):Str×List PyData:=(t.1,[.int t.2.1,.int t.2.2])
def unB (u:Str×List PyData):Th:=match u with | (a,[.int p,.int c])=>(a,p,c) | (a,_)=>(a,0,0)
theorem cG (w:List Th):(w.map wB2).map LC=w.map thD:=by rw[zD];rfl
theorem cH {ts:List (Str×List PyData)}{w:List Th}(h:ts.Perm (w.map wB2)):(ts.map unB).Perm w/\ts.map LC=(ts.map unB).map thD/\(ts.map unB).map (·.1)=ts.map (·.1):=by
 have e:(w.map wB2).map unB=w:=by rw[zD];exact a8J _
 refine⟨by have:=h.map unB;rw[e] at this;exact this,?_,?_⟩;. rw[zD];apply yM;intro u hu;obtain⟨t,_,rfl⟩:=zL.mp (h.mem_iff.mp hu);rfl
 . rw[zD];apply yM;intro u hu;obtain⟨t,_,rfl⟩:=zL.mp (h.mem_iff.mp hu);rfl
theorem VY {ts:List (Str×List PyData)}(h:ts.Pairwise λx y=>x.1.cps.toList < y.1.cps.toList):Ris (ts.map (·.1)):=by unfold Ris;rw[a9Z];exact h.imp λ{a b} q=>by rw[<-oO];exact decide_eq_true q
end DL
namespace L2
open PySem PySem.Spec PyProof.Rows
def oT:List Nat:=[0,1,2,3,4,5,6,7,8,9,10,11,12,13,14,15,16,17,18,19,20,21,22,23]
theorem cI {x:Str}{i:Nat}:∀(l:List Str) (k n:Nat),(l.zip (List.range' k n)).lookup x=some i->k<=i/\l[i - k]?=some x
 | [],_,_,h=>by cases h
 | _::_,_,0,h=>by cases h
 | a::r,k,n+1,h=>by
   rw[List.range'_succ,a6J,a2V] at h;split at h;. rename_i e;have h:=Option.some.inj h;subst h;rw[Nat.sub_self];exact⟨zR _,by rw[eq_of_beq e];rfl⟩
   . obtain⟨h1,h2⟩:=cI r (k+1) n h;refine⟨by lia,?_⟩;rw[show i - k=(i - (k+1))+1 by lia];exact h2
theorem NV {l:List Str}{x:Str}{i:Nat}(h:(l.zip oT).lookup x=some i):l[i]?=some x:=(cI l 0 24 h).2
theorem pvx {X:Cx}{i:Nat}{x:Str}{pos:Pos}(h:(X.N.zip oT).lookup x=some i) (hv:Vis X.env.scope x) (hd:(x==("__debug__":Str))=false:=by decide)
   (gh:(x==("__classdict__":Str))=false:=by decide):PE X (.Name x pos) (eG i):=ZT (NV h) hv hd gh
end L2
namespace DL
open PySem PySem.Spec L2
theorem AD {K:Frg}{M:Own}{Q:DS->Own->Prop}{a b:Str}{t:Bool}(h:(zH (.str a)&&zH (.str b)&&(a4W (.str a) (.str b)==t))=true) (q:Q (.d (.bool t)) M):D2 K (P1 K false) (.d (.str a)) (.d (.str b)) M Q:=by simp only[a1Z,beq_iff_eq] at h;exact BL h.1.1 h.1.2 (by rw[if_neg nft,h.2];exact q)
end DL
namespace L2
open PySem PySem.Spec
def oU (scope:Scope) (NC:List Str):Bool:=(NC.all λx=>(scope.names.lookup x).isSome)&&scope.names.all λy=>!(y.2==.local||y.2==.free||y.2==.cell)||y.1==a0Q ".0" || NC.contains y.1
theorem GM {X:Cx}{scope:Scope}{NC:List Str}{fr:List (Option Nat)}{jh:Scope}{ON:List Str}(_:oU scope NC=true) (h:aV jh ON scope NC fr=true) (e:X.env.scope=jh) (eN:X.N=ON):CSc X scope NC fr:=CSc.of h e eN
end L2
namespace DL
open PySem PySem.Spec L2
section
variable {K:Frg}{M:Own}{Q:DS->Own->Prop}{H:Hp}
theorem MC {W:Addr->Prop}:∀{bs:List Int},DVs K H W (bs.map b2J) (bs.map V.int)
 | []=>DVs.nil
 | b::bs=>DVs.cons (by unfold DV;rfl) MC
end
end DL
namespace L2
open PySem PySem.Spec PyProof.Rows
def Ups (xs:Array Nat):Prop:=∀a b,a < b->b < xs.size->xs.getD a 0 < xs.getD b 0
theorem gd {xs:Array Nat}{k j:Nat}(h:k < xs.size):xs.getD k j=xs.getD k 0:=by simp[a8V,h]
theorem NW {xs:Array Nat}{j:Nat}(up:Ups xs):∀(f lo hi:Nat),hi - lo<=f->lo<=hi->hi<=xs.size->(∀k,k < lo->xs.getD k 0 < j)->(∀k,hi<=k->k < xs.size->j<=xs.getD k 0)->SetTable.below.go xs j f lo hi<=xs.size/\(∀k,k < SetTable.below.go xs j f lo hi->xs.getD k 0 < j)/\∀k,SetTable.below.go xs j f lo hi<=k->k < xs.size->j<=xs.getD k 0
 | 0,lo,hi,h1,h2,h3,h4,h5=>by
   unfold SetTable.below.go;have:lo=hi:=by lia
   subst this;exact⟨h3,h4,h5⟩
 | f+1,lo,hi,h1,h2,h3,h4,h5=>by
   unfold SetTable.below.go;by_cases c:lo < hi
   . rw[if_pos c];have hm:(lo+hi)/2 < hi/\lo<=(lo+hi)/2:=by lia
     generalize (lo+hi)/2=m at hm;dsimp only;rw[gd (show m < xs.size by lia)];split
     . rename_i hl;refine NW up f (m+1) hi (by lia) (by lia) h3 (λk hk=>?_) h5;rcases Nat.lt_or_ge k m with q | q;. exact xQ (up k m q (by lia)) hl
       . have:k=m:=by lia
         subst this;exact hl
     . rename_i hl;refine NW up f lo m (by lia) hm.2 (by lia) h4 λk hk hz=>?_;rcases Nat.lt_or_ge m k with q | q;. exact zN (Nat.le_of_not_lt hl) (xR (up m k q hz))
       . have:k=m:=by lia
         subst this;exact Nat.le_of_not_lt hl
   . rw[if_neg c];have:lo=hi:=by lia
     subst this;exact⟨h3,h4,h5⟩
theorem NX {xs:Array Nat}{j:Nat}(up:Ups xs):a0W xs j<=xs.size/\(∀k,k < a0W xs j->xs.getD k 0 < j)/\∀k,a0W xs j<=k->k < xs.size->j<=xs.getD k 0:=
 NW up xs.size 0 xs.size (by lia) (xT _) (zR _) (λk hk=>absurd hk (Nat.not_lt_zero _)) λk h1 h2=>absurd h1 (by lia)
theorem VZ {xs:Array Nat}{i:Nat}(up:Ups xs) (hi:i < xs.size):a0W xs (xs.getD i 0+1)=i+1:=by
 obtain⟨h1,h2,h3⟩:=NX (j:=xs.getD i 0+1) up;generalize a0W xs (xs.getD i 0+1)=r at h1 h2 h3;rcases b1V r (i+1) with q | q | q;. have:=h3 i (by lia) hi;lia
 . exact q
 . have:=h2 (i+1) q;have:=up i (i+1) (by lia) (by lia);lia
theorem W0 {xs:Array Nat}(up:Ups xs):a0W xs 0=0:=by
 obtain⟨h1,h2,h3⟩:=NX (j:=0) up;rcases Nat.eq_zero_or_pos (a0W xs 0) with q | q;. exact q
 . have:=h2 0 q;lia
theorem YQ (n:Nat):Ups (Array.range n):=λa b h1 h2=>by simp at h2;simp[a8V,h2,show a < n by lia,h1]
theorem TV {l:List Nat}(h:l.Pairwise (· < ·)):Ups l.toArray:=λa b h1 h2=>by simp at h2;have:=List.pairwise_iff_getElem.mp h a b (by lia) h2 h1;simpa [a8V,h2,show a < l.length by lia] using this
theorem cJ {xs:Array Nat}(h:Ups xs):xs.toList.Pairwise (· < ·):=by refine List.pairwise_iff_getElem.mpr λi j hi hj au=>?_;simp at hi hj;have:=h i j au hj;simpa [a8V,hi,hj] using this
theorem NY {xs:Array Nat}{j:Nat}(up:Ups xs) (hj:xs[a0W xs j]?≠some j):Ups (SetTable.insertAt xs (a0W xs j) j):=by
 obtain⟨h1,h2,h3⟩:=NX (j:=j) up;have ai:∀k,a0W xs j<=k->k < xs.size->j < xs.getD k 0:=λk a b=>by
   have:=h3 _ (zR _);have q:xs.getD (a0W xs j) 0≠j:=λe=>hj (by
     have hb:a0W xs j < xs.size:=by lia
     rw[a2Z hb];simpa [a8V,hb] using e);have hb:a0W xs j < xs.size:=by lia
   rcases Nat.lt_or_ge (a0W xs j) k with c | c;. have:=up _ _ c b;have:=h3 _ (zR _) hb;lia
   . have e:k=a0W xs j:=by lia
     subst e;have:=h3 _ (zR _) b;lia
 generalize a0W xs j=p at h1 h2 h3 ai;have e:SetTable.insertAt xs p j=(xs.toList.take p++j::xs.toList.drop p).toArray:=by rw[<-SetTable.toList_insertAt,Array.toArray_toList]
 rw[e];refine TV ?_;have pl:=cJ up;refine List.pairwise_append.mpr ⟨pl.sublist (b5Q _ _),List.pairwise_cons.mpr ⟨λb hb=>?_,pl.sublist (List.drop_sublist _ _)⟩,λa ha b hb=>?_⟩;. obtain⟨k,hk,rfl⟩:=List.getElem_of_mem hb;simp at hk;have:=ai (p+k) (by lia) (by lia);simpa [a8V,show p+k < xs.size by lia] using this
 . obtain⟨k,hk,rfl⟩:=List.getElem_of_mem ha;simp at hk;have q:=h2 k (by lia);have fz:k < xs.size:=by lia
   simp only[a8V,fz,dite_true] at q;rw[List.getElem_take,Array.getElem_toList];rcases yX.mp hb with rfl | hb;. exact q
   . obtain⟨m,hm,rfl⟩:=List.getElem_of_mem hb;simp at hm;have:=ai (p+m) (by lia) (by lia);simp only[a8V,show p+m < xs.size by lia,dite_true] at this;rw[List.getElem_drop,Array.getElem_toList];exact xQ q this
structure TabOk (w:World) (t:SetTable):Prop where
 up:Ups t.place
 dm:t.dummies=#[]
 led:t.led = !(w.params.followText "set-order")
theorem gW (w:World):TabOk w (.fresh 0 0 (!(w.params.followText "set-order"))):=⟨λa b _ h=>absurd h (Nat.not_lt_zero _),rfl,rfl⟩
theorem TabOk.stand {w:World}{t:SetTable}(h:TabOk w t) (n:Nat):TabOk w (t.standIn n):=⟨YQ n,rfl,h.led⟩
theorem TabOk.off {w:World}{t:SetTable}(h:TabOk w t) (b:Bool):TabOk w { t with plain:=b }:=⟨h.up,h.dm,h.led⟩
theorem NZ {t:SetTable}(hd:t.dummies=#[]) {g:Nat->Int}{h:Int}:∀(f:Nat) (p:SetTable.Probe) (j:Nat) (d:Option Nat),p.dummy=none->SetTable.probe.go t g h f p=some (.empty j d)->d=none/\t.place[a0W t.place j]?≠some j
 | 0,_,_,_,_,e=>by simp[SetTable.probe.go] at e
 | f+1,p,j,d,hp,e=>by
   unfold SetTable.probe.go at e;have hs:∀k,b2W t.dummies k=false:=λk=>by rw[hd];simp[b2W]
   have qZ:∀q:SetTable.Probe,(t.advance q).dummy=q.dummy:=λq=>by unfold SetTable.advance;split <;> rfl
   by_cases c:t.place[a0W t.place p.j]?=some p.j
   . have e2:t.slot p.j = .live (a0W t.place p.j):=by unfold SetTable.slot;simp[c]
     rw[e2] at e;dsimp only at e;split at e;. simp at e
     . exact NZ hd f _ _ _ ((qZ p).trans hp) e
   . have e2:t.slot p.j = .empty:=by unfold SetTable.slot;simp[c,hs]
     rw[e2] at e;simp only[Option.some.injEq,SetTable.Met.empty.injEq] at e;obtain⟨rfl,rfl⟩:=e;exact⟨hp,c⟩
theorem TabOk.new {w:World}{t:SetTable}(ht:TabOk w t) (es:Array (Int×Value)) (h:Int) (x:Value):TabOk w (layNew t es h x).2.1:=by
 unfold layNew;cases e:t.freeSlot h with
 | none=>exact ht.stand _
 | some r=>
   obtain⟨slot,sE⟩:=r;dsimp only;unfold SetTable.freeSlot at e;have hs:t.place[a0W t.place slot]?≠some slot:=by
     cases e2:t.probe (λ_=>h+1) h (t.probeStart h) with
     | none=>rw[e2] at e;cases e
     | some m=>
       rw[e2] at e;cases m with
       | empty j d=> simp only[Option.some.injEq,Prod.mk.injEq] at e;obtain⟨hd,hn⟩:=NZ ht.dm _ _ j d (by rfl) e2;subst hd;obtain⟨rfl,_⟩:=e;exact hn
       | candidate=>cases e
   unfold SetTable.orStandIn;split;. refine⟨NY ht.up hs,?_,ht.led⟩;show(if b2W t.dummies slot=true then _ else t.dummies)=#[];rw[ht.dm];simp[b2W]
   . exact(show TabOk w (t.put slot).1 from ⟨NY ht.up hs,by show(if b2W t.dummies slot=true then _ else t.dummies)=#[];rw[ht.dm];simp[b2W],ht.led⟩).stand _
theorem TabOk.relay {w:World}{t:SetTable}(ht:TabOk w t) (es:Array (Int×Value)) (n:Nat):TabOk w (relayAll t es n).2.1:=by
 unfold relayAll;cases e:t.relaid (es.map (·.1)) n with
 | none=>exact ht.stand _
 | some r=>
   obtain⟨t',order⟩:=r;dsimp only;split
   . unfold SetTable.relaid SetTable.laid at e;cases e2:SetTable.layClean (SetTable.sizeAbove n - 1) (es.map (·.1)) with
     | none=>rw[e2] at e;cases e
     | some owner=>
       rw[e2] at e;simp only[Option.bind_eq_bind,Option.bind_some,Option.pure_def,Option.some.injEq,Prod.mk.injEq] at e;obtain⟨rfl,_⟩:=e;refine⟨TV ?_,rfl,ht.led⟩;rw[a9Z];refine List.pairwise_filterMap.mpr (List.pairwise_lt_range.imp λ{a b} gq x hx y hy=>?_);cases ea:owner.getD a none with
       | none=>rw[ea] at hx;cases hx
       | some u=>
         cases eb:owner.getD b none with
         | none=>rw[eb] at hy;cases hy
         | some v=>rw[ea] at hx;rw[eb] at hy;cases hx;cases hy;exact gq
   . exact ht.stand _
end L2
namespace L2
open PySem PySem.Spec PyProof.Rows
theorem KB:Slot "set" "__iter__" "set.__iter__" :=
 .of (owner:= "set") (n:= "__iter__") (by rw[typeLookup_type,builtinLookup_eq_fast];kernel_rfl) (by decide +kernel) (by decide +kernel) (by decide +kernel) (by first | exact .inl (by decide +kernel) | exact .inr (by decide +kernel)) (by rw[isSubtype_type];kernel_rfl)
theorem P6:entryFor table "set.__iter__"=some Builtin.«frozenset.__iter__»:=entryFor_alias (id':= "frozenset.__iter__") (by kernel_rfl) rfl (by decide +kernel) (by kernel_rfl)
theorem RO (a:Value):argsOk "set.__iter__" ⟨[a],[]⟩:=by kernel_rfl
theorem AU:Slot "set_iterator" "__next__" "set_iterator.__next__" :=
 .of (owner:= "set_iterator") (n:= "__next__") (by rw[typeLookup_type,builtinLookup_eq_fast];kernel_rfl) (by decide +kernel) (by decide +kernel) (by decide +kernel) (by first | exact .inl (by decide +kernel) | exact .inr (by decide +kernel)) (by rw[isSubtype_type];kernel_rfl)
theorem DH:entryFor table "set_iterator.__next__"=some Builtin.«set_iterator.__next__»:=entryFor_of_tree (by kernel_rfl)
theorem ED (a:Value):argsOk "set_iterator.__next__" ⟨[a],[]⟩:=by kernel_rfl
theorem KC:Slot "set_iterator" "__iter__" "set_iterator.__iter__" :=
 .of (owner:= "set_iterator") (n:= "__iter__") (by rw[typeLookup_type,builtinLookup_eq_fast];kernel_rfl) (by decide +kernel) (by decide +kernel) (by decide +kernel) (by first | exact .inl (by decide +kernel) | exact .inr (by decide +kernel)) (by rw[isSubtype_type];kernel_rfl)
def SetIs (h:Heap) (a:Addr) (es:Array (Int×Value)) (ep:Nat) (t:SetTable):Prop:=∃o,h.get? a=some o/\o.cls = .type "set" /\ o.data = .set es ep t
def ItIs (h:Heap) (I:Addr) (vs:Array Value):Prop:=∃o,h.get? I=some o/\o.cls = .type "set_iterator" /\ o.data = .fields vs
theorem SetIs.keep {h h':Heap}{a:Addr}{es:Array (Int×Value)}{ep:Nat}{t:SetTable}(x:SetIs h a es ep t) (k:∀o,h.get? a=some o->h'.get? a=some o):SetIs h' a es ep t:=let ⟨o,a1,r⟩:=x;⟨o,k o a1,r⟩
theorem ItIs.keep {h h':Heap}{a:Addr}{vs:Array Value}(x:ItIs h a vs) (k:∀o,h.get? a=some o->h'.get? a=some o):ItIs h' a vs:=let ⟨o,a1,r⟩:=x;⟨o,k o a1,r⟩
theorem O0 {α:Type}:∀{l:List α}{i:Nat}(h:i < l.length),(l[i]::l.eraseIdx i).Perm l
 | x::l,0,_=>.refl _
 | x::l,i+1,h=>by rw[List.getElem_cons_succ,List.eraseIdx_cons_succ];exact(List.Perm.swap _ _ _).trans (.cons x (O0 (by simpa using h)))
theorem XD {α:Type}(next:Nat->Nat):∀(f k:Nat) (l:List α) (out:Array α),l.length=f->(pickOrder.go next f k l out).toList.Perm (out.toList++l)
 | 0,k,l,out,h=>by cases l with
   | nil=>simp[pickOrder.go]
   | cons=>simp at h
 | f+1,k,l,out,h=>by
   unfold pickOrder.go;have hl:next k % l.length < l.length:=Nat.mod_lt _ (by lia)
   rw[zV hl];refine(XD next f (k+1) _ _ (by rw[List.length_eraseIdx_of_lt hl];lia)).trans ?_;rw[Array.toList_push,List.append_assoc];refine List.Perm.append_left _ ?_;rw[List.singleton_append];exact O0 hl
theorem QF {α:Type}(next:Nat->Nat) (xs:Array α):(pickOrder next xs).toList.Perm xs.toList:=by unfold pickOrder;refine(XD next xs.size 0 xs.toList #[] (by simp)).trans ?_;simp
section
variable {prog:Program}{w:World}{A:Around}{E:Value->Shared->Prop}{s:Shared}
theorem W1 {M:Model}{src:Source}{n:Nat}{Q:Nat->Shared->Prop}(hn:n≠0) (h:∀i,i < n->∀d,Q i { s with drawn:=d }):wpAny M A (choose src n) Q E s:=λΓ p _=>⟨hn,h _ (Nat.mod_lt _ (Nat.pos_of_ne_zero hn)) _⟩
theorem QG {α:Type}{M:Model}:∀(n:Nat) (l:List α) {s:Shared}{Q:List α->Shared->Prop},l.length=n->(∀ys d,ys.Perm l->Q ys { s with drawn:=d })->wpAny M A (drawOrder n l) Q E s
 | 0,l,s,Q,h,q=>by
   cases l with
   | nil=>exact zY (q [] s.drawn .nil)
   | cons=>simp at h
 | n+1,l,s,Q,h,q=>by
   cases l with
   | nil=>simp at h
   | cons x r=> unfold drawOrder;refine zZ (W1 (by simp) λi hi d=>?_);rw[zV hi];refine zZ (QG n _ (by rw[List.length_eraseIdx_of_lt hi];lia) λys d' hp=>?_);exact zY (q _ d' ((List.Perm.cons _ hp).trans (O0 hi)))
variable {a I:Addr}{es:Array (Int×Value)}{ep:Nat}{t:SetTable}
theorem EL {Q:(Array (Int×Value)×Nat×SetTable)->Shared->Prop}(hs:SetIs s.heap a es ep t) (hf:t.fits es.size=true) (h:Q (es,ep,t) s):wpAny (model prog w) A (setState a) Q E s:=
 let ⟨o,ho,_,hd⟩:=hs;wpAny_setState_of ho hd hf h
theorem EM {Q:Array (Int×Value)->Shared->Prop}(hs:SetIs s.heap a es ep t) (hf:t.fits es.size=true) (h:Q es s):wpAny (model prog w) A (setEntries a) Q E s:=
 zZ (EL hs hf (zY h))
theorem IV {Q:Bool->Shared->Prop}(h:Q (w.params.followText "set-order") s):wpAny (model prog w) A setsByText Q E s:=zZ (wpAny_askSetting (zY h))
theorem YR {Q:Option (Value×Nat)->Shared->Prop}{slot i:Nat}(hb:w.params.followText "set-order"=true) (hs:SetIs s.heap a es ep t) (hf:t.fits es.size=true) (h:Q ((pickOrder (w.params.setOrder a ep) es)[i]?.map λe=>(e.2,slot)) s):wpAny (model prog w) A (setNext a slot i ep) Q E s:=by
 unfold setNext;refine zZ (EL hs hf (zZ (IV ?_)));rw[hb];rw[if_pos rfl,if_neg (by simp)];refine zZ ?_;unfold setWalk;refine zZ (EL hs hf (zZ (IV ?_)));rw[hb]
 (try dsimp only)
 rw[if_pos rfl];exact zZ (wpAny_askSetting (zY (zY h)))
theorem W3 {Q:Option (Value×Nat)->Shared->Prop}{slot i:Nat}(hb:w.params.followText "set-order"=false) (hp:(!t.plain&&decide (es.size > 1))=false) (ht:TabOk w t) (hs:SetIs s.heap a es ep t) (hf:t.fits es.size=true) (h:Q (match es[a0W t.place slot]?,t.place[a0W t.place slot]? with | some (_,x),some j=>some (x,j+1) | _,_=>none) s):wpAny (model prog w) A (setNext a slot i ep) Q E s:=by
 have hl:=ht.led;rw[hb] at hl;unfold setNext;refine zZ (EL hs hf (zZ (IV ?_)));rw[hb]
 (try dsimp only)
 rw[if_neg nft];show wpAny _ _ (if (!t.plain&&decide (es.size > 1))=true then _ else _) _ _ _;rw[hp,if_neg nft];refine zZ (show wpAny _ _ (if (!t.led&&!es.isEmpty)=true then unsupported "set:maker-not-led" else pure ()) _ _ _ from ?_);rw[hl,if_neg (by simp)];exact zY (zY h)
theorem W4 {Q:Value->Shared->Prop}{i:Nat}{k:Int}{x:Value}(hx:es[i]?=some (k,x)) (hs:SetIs s.heap a es ep t) (hf:t.fits es.size=true) (h:Q x s):wpAny (model prog w) A (setNextDrawn a i ep) Q E s:=by
 unfold setNextDrawn;refine zZ (EL hs hf ?_)
 (try dsimp only)
 rw[if_neg (by simp),hx];exact zY h
end
end L2
namespace L2
open PySem PySem.Spec PyProof.Rows
section
variable {prog:Program}{w:World}{A:Around}{E:Value->Shared->Prop}{s:Shared}{a I:Addr}{es:Array (Int×Value)}{ep i n:Nat}{t:SetTable}
theorem LH {vs:Array Value}{k:Nat}{x:Value}{Q:Unit->Shared->Prop}(hit:ItIs s.heap I vs) (hk:k < vs.size) (h:∀h',ItIs h' I (vs.setIfInBounds k x)->Heap.SameBut I s.heap h'->Q () { s with heap:=h' }):wpAny (model prog w) A (setField (.ref I) k x) Q E s:=by obtain⟨o,ho,hc,hd⟩:=hit;refine wpAny_setField ho hd hk (h _ ⟨_,b2X _ ho (Obj.isFreed_of_fields (Obj.data_mapFields hd _)),(Obj.cls_mapFields ..).trans hc,by rw[Obj.data_mapFields hd]⟩ (b5K ..))
theorem gX {slot nx:Nat}{x:Value}{Q:Option Value->Shared->Prop}(hit:ItIs s.heap I #[.int slot 0,.int i 0,.ref a,.int n 0,.int ep 0]) (hs:SetIs s.heap a es ep t) (hf:t.fits es.size=true) (hn:es.size=n) (hx:∀(A:Around) (E':Value->Shared->Prop) (Q':Option (Value×Nat)->Shared->Prop),Q' (some (x,nx)) s->wpAny (model prog w) A (setNext a slot i ep) Q' E' s) (h:∀h',ItIs h' I #[.int nx 0,.int (i+1:Nat) 0,.ref a,.int n 0,.int ep 0]->Heap.SameBut I s.heap h'->Q (some x) { s with heap:=h' }):wpAny (model prog w) A (pyNext (.ref I)) Q E s:=by
 obtain⟨o,ho,hc,hd⟩:=id hit;have hT:s.TypeIs (.ref I) "set_iterator" := ⟨o,ho,hc⟩
 unfold pyNext;refine zZ (wpAny_attempt (wpAny_callSpecial?_slot (name:=a0Q "__next__") hT AU (wpAny_call_entry AU hT DH ?_ (ED _))));unfold Builtin.«set_iterator.__next__»;refine zZ (zY (zZ (wpAny_fieldsOf ho hd ?_)));dsimp only;refine zZ (EM hs hf ?_);rw[hn,if_neg (by simp)];refine zZ (hx _ _ _ ?_);dsimp only;refine zZ (LH hit (by simp) λh1 i1 s1=>?_);refine zZ (LH (s:={ s with heap:=h1 }) i1 (by simp) λh2 i2 s2=>?_);exact zY ⟨_,rfl,zY (h h2 i2 (s1.trans s2))⟩
theorem QH (hh:A.handled=none) {P:PySem.Fin->Shared->Prop}{E':Value->Shared->Prop} (hE:∀(e:Value) (s':Shared),(∃h' ex,e = .ref ex/\s'={ s with heap:=h' }/\Heap.ExtBut I s.heap h'/\s'.TypeIs e "StopIteration")->E' e s'):wpAny (model prog w) A.in1 (newExc (.type "StopIteration") [] >>= λe=>raiseNew e) P E' s:=by refine zZ ?_;simp only[newExc,newTuple];refine zZ (xM ?_ (by size_fits));refine zZ (m:=firstArgMember _ _) (wpAny_of_eq (a:=a5Q) (by first | rfl | (simp only[firstArgMember];rfl)) ?_);refine xM ?_ (by size_fits);simp only[raiseNew];refine zZ (wpAny_handled ?_);rw[show A.in1.handled=none from hh];refine zZ (zY (wpAny_throw (hE _ _ ⟨_,_,rfl,rfl,?_,⟨_,yZ _ rfl,rfl⟩⟩)));exact((Heap.SameBut.refl I s.heap).extBut.push _).push _
theorem TX {Q:Option Value->Shared->Prop}{r:Shared}(k:Heap.ExtBut I s.heap r.heap->Q none r) (e:Value) (hT:r.TypeIs e "StopIteration") (hx:Heap.ExtBut I s.heap r.heap):wpAny (model prog w) A (isInstance e (.type "StopIteration") >>= λb=>if b=true then pure none else throw e) Q E r:=by refine zZ (wpAny_isInstance (T:= "StopIteration") (b:=true) hT isSubtype_stop ?_);exact zY (k hx)
theorem m8 {slot:Nat}{Q:Option Value->Shared->Prop}(hh:A.handled=none) (hit:ItIs s.heap I #[.int slot 0,.int i 0,.ref a,.int n 0,.int ep 0]) (hs:SetIs s.heap a es ep t) (hf:t.fits es.size=true) (hn:es.size=n) (hx:∀(A:Around) (E':Value->Shared->Prop) (Q':Option (Value×Nat)->Shared->Prop),Q' none s->wpAny (model prog w) A (setNext a slot i ep) Q' E' s) (h:∀h',Heap.ExtBut I s.heap h'->Q none { s with heap:=h' }):wpAny (model prog w) A (pyNext (.ref I)) Q E s:=by
 obtain⟨o,ho,hc,hd⟩:=id hit;have hT:s.TypeIs (.ref I) "set_iterator" := ⟨o,ho,hc⟩
 unfold pyNext;refine zZ (wpAny_attempt (wpAny_callSpecial?_slot (name:=a0Q "__next__") hT AU (wpAny_call_entry AU hT DH ?_ (ED _))));unfold Builtin.«set_iterator.__next__»;refine zZ (zY (zZ (wpAny_fieldsOf ho hd ?_)));dsimp only;refine zZ (EM hs hf ?_);rw[hn,if_neg (by simp)];refine zZ (hx _ _ _ ?_);dsimp only;refine zZ (LH hit (by simp) λh1 i1 s1=>?_);refine QH (I:=I) (s:={ s with heap:=h1 }) hh λe s' ⟨h',ex,e1,e2,e3,e4⟩=>?_;subst e2;exact TX (s:=s) (λhx=>h h' hx) e e4 (s1.extBut.trans e3)
theorem cK {tp:Addr}{ps:Array Value}{j:Nat}{k:Int}{x:Value}{tk:Tok}{Q:Option Value->Shared->Prop}(hit:ItIs s.heap I #[.ref tp,.int i 0,.ref a,.int n 0,.int ep 0]) (rc:s.heap.IsTuple tp ps) (hj:ps[i]?=some (.int (j:Nat) tk)) (hx:es[j]?=some (k,x)) (hs:SetIs s.heap a es ep t) (hf:t.fits es.size=true) (hn:es.size=n) (h:∀h',ItIs h' I #[.ref tp,.int (i+1:Nat) 0,.ref a,.int n 0,.int ep 0]->Heap.SameBut I s.heap h'->Q (some x) { s with heap:=h' }):wpAny (model prog w) A (pyNext (.ref I)) Q E s:=by
 obtain⟨o,ho,hc,hd⟩:=id hit;have hT:s.TypeIs (.ref I) "set_iterator" := ⟨o,ho,hc⟩
 unfold pyNext;refine zZ (wpAny_attempt (wpAny_callSpecial?_slot (name:=a0Q "__next__") hT AU (wpAny_call_entry AU hT DH ?_ (ED _))));unfold Builtin.«set_iterator.__next__»;refine zZ (zY (zZ (wpAny_fieldsOf ho hd ?_)));dsimp only;refine zZ (EM hs hf ?_);rw[hn,if_neg (by simp)];obtain⟨ot,rd,_,m,rf⟩:=rc;refine zZ (wpAny_seqItems rd rf ?_);dsimp only;rw[a5K,hj];dsimp only;rw[a5K];refine zZ (W4 hx hs hf ?_);refine zZ (LH hit (by simp) λh1 i1 s1=>?_);exact zY ⟨_,rfl,zY (h h1 i1 s1)⟩
theorem gY {tp:Addr}{ps:Array Value}{Q:Option Value->Shared->Prop}(hh:A.handled=none) (hit:ItIs s.heap I #[.ref tp,.int i 0,.ref a,.int n 0,.int ep 0]) (rc:s.heap.IsTuple tp ps) (hj:ps[i]?=none) (hs:SetIs s.heap a es ep t) (hf:t.fits es.size=true) (hn:es.size=n) (h:∀h',Heap.ExtBut I s.heap h'->Q none { s with heap:=h' }):wpAny (model prog w) A (pyNext (.ref I)) Q E s:=by
 obtain⟨o,ho,hc,hd⟩:=id hit;have hT:s.TypeIs (.ref I) "set_iterator" := ⟨o,ho,hc⟩
 unfold pyNext;refine zZ (wpAny_attempt (wpAny_callSpecial?_slot (name:=a0Q "__next__") hT AU (wpAny_call_entry AU hT DH ?_ (ED _))));unfold Builtin.«set_iterator.__next__»;refine zZ (zY (zZ (wpAny_fieldsOf ho hd ?_)));dsimp only;refine zZ (EM hs hf ?_);rw[hn,if_neg (by simp)];obtain⟨ot,rd,_,m,rf⟩:=rc;refine zZ (wpAny_seqItems rd rf ?_);dsimp only;rw[a5K,hj];dsimp only;refine zZ (LH hit (by simp) λh1 i1 s1=>?_);refine zZ (LH (s:={ s with heap:=h1 }) i1 (by simp) λh2 i2 s2=>?_);refine QH (I:=I) (s:={ s with heap:=h2 }) hh λe s' ⟨h',ex,e1,e2,e3,e4⟩=>?_;subst e2;exact TX (s:=s) (λhx=>h h' hx) e e4 ((s1.trans s2).extBut.trans e3)
end
end L2
namespace L2
open PySem PySem.Spec PyProof.Rows
def Itk (a:Addr) (o:Obj) (ks:List (Key×V)):It:=⟨λi H=>H a=some (.frz o (.dK ks))/\i < ks.length,λi H x H'=>H'=H/\∃k v,ks[i]?=some (k,v)/\x=kV k,λi H=>H a=some (.frz o (.dK ks))/\ks.length<=i⟩
theorem m9 {ks:List (Key×V)}{vs:List (Key×Value)}(r:KV ks vs) {i:Nat}{k:Key}{v:V}(e:ks[i]?=some (k,v)):∃u,vs[i]?=some (k,u):=by
 induction r generalizing i with
 | nil=>simp at e
 | cons h _ ih=>
   cases i with
   | zero=>simp at e;obtain⟨h1,h2⟩:=h;rw[e] at h1;exact⟨_,by simp;exact Prod.ext h1.symm rfl⟩
   | succ i=>simpa using ih (by simpa using e)
theorem gZ {k:Key}{u:Value}(h:LV k u=true):RelV (kV k) u:=by
 rcases B4 h with ⟨i,t,rfl,rfl⟩ | ⟨x,t,rfl,rfl⟩
 . exact⟨t,rfl⟩
 . exact⟨t,rfl⟩
theorem YS {P:Program}{w:World}{K:Frg}{tg:Expr}(a it:Addr) (o:Obj) (ks:List (Key×V)) :
   Turn P w K tg (Itk a o ks) [it] it (λi h=>∃es ep,o.data = .dict es ep/\h.IsKeyIter it a i ks.length ep) where
 mem:=by simp
 obj:=λi h st b hb=>by
   have e:b=it:=by simpa using hb
   subst e;obtain⟨es,ep,_,o',e,c,d⟩:=st;exact⟨o',e,λv z=>by rw[d] at z;cases z⟩
 keep:=λi h h' ⟨es,ep,q,st⟩ k=>⟨es,ep,q,st.at λo e=>k it (by simp) o e⟩
 item:=by
   intro X hP hw hK hc i pins s σ H E I hf ⟨es,ep,qd,st⟩ ⟨hg,hi⟩;subst hP hw hK;obtain⟨f0,f1,f2,f3,f4,f5⟩:=hf it (by simp);obtain⟨er,_,rg,vs,rel,o',aw,ff,cu,r⟩:=I.hok a _ hg;obtain rfl:o'=o:=Option.some.inj (cu.symm.trans er);obtain⟨rfl,rfl⟩:aw=es/\ff=ep:=by have:=r.2.1.symm.trans qd;injection this with a b;exact⟨a,b⟩
   have dat:s.heap.DictAt (B0 X.prog X.w) a vs ff:=⟨o',aw,cu,r⟩
   obtain⟨⟨k,v⟩,hk⟩:∃kv,ks[i]?=some kv:=⟨ks[i],zV hi⟩
   obtain⟨u,hu⟩:=m9 rel hk;have hl:vs.length=ks.length:=rel.length.symm;refine wpAny_pyNext_dict_item (by rw[hl];exact st) dat hu λkey h' eh ci sb=>?_;rw[hl] at ci;have I1:Inv X pins σ H { s with heap:=h' }:=I.turned (t':=s.toks) (λb o hb e=>(sb.2 b hb).trans e) f0 f1 f3 f4 f5;exact⟨key,rfl,letGo_keyiter (s':={ s with heap:=h' }) ci ⟨kV k,H,I1,gZ eh,⟨rfl,k,v,hk,rfl⟩,⟨aw,ff,qd,ci⟩,λb hb=>(hf b hb).1⟩⟩
 done:=by
   intro X hP hw hK hc i pins s σ H E I hf ⟨es,ep,qd,st⟩ ⟨hg,hi⟩;subst hP hw hK;obtain⟨f0,f1,f2,f3,f4,f5⟩:=hf it (by simp);obtain⟨er,_,rg,vs,rel,o',aw,ff,cu,r⟩:=I.hok a _ hg;obtain rfl:o'=o:=Option.some.inj (cu.symm.trans er);obtain⟨rfl,rfl⟩:aw=es/\ff=ep:=by have:=r.2.1.symm.trans qd;injection this with a b;exact⟨a,b⟩
   have dat:s.heap.DictAt (B0 X.prog X.w) a vs ff:=⟨o',aw,cu,r⟩
   have hl:vs.length=ks.length:=rel.length.symm;exact wpAny_pyNext_dict_end (I.ok.hd hc) (by rw[hl];exact st) dat (List.getElem?_eq_none_iff.mpr (by rw[hl];exact hi)) λh' eb=>⟨rfl,I.turned (t':=s.toks) (λb o hb e=>eb b o hb e) f0 f1 f3 f4 f5⟩
 self:=λ_ _ _ _ _ ⟨_,_,_,st⟩ h=>wpAny_pyIter_keyiter st h
section
variable {X:Cx}{tg:Expr}{pins:List (Addr×Obj)}{σ:St}{H:Hp}{s:Shared}
theorem YT {a:Addr}{o:Obj}{ks:List (Key×V)}(I:Inv X pins σ H s) (e:H a=some (.dK ks)) (ho:s.heap.get? a=some o):Inv X pins σ (upd H a (.frz o (.dK ks))) s:=by
 have ne:∀b u,H b=some u->(∀z,u≠.dK z)->b≠a:=λb u q n z=>by rw[z,e] at q;cases q;exact n _ rfl
 have J:=I.un (H':=upd H a (.frz o (.dK ks))) (h':=s.heap) (t':=s.toks) ⟨λ_ _ q _ _ _=>q,λb u q _ _ _=>⟨u.slots,q⟩,λb u _ n _=>by rw[AS (λz=>by rw[z,e] at n;cases n)];exact n,λb u q _=>⟨u,q⟩,
   λb xs q=>by rw[AS (ne b _ q λ_ z=>nomatch z)];exact q,λb u xs q=>by rw[AS (ne b _ q λ_ z=>nomatch z)];exact q,λb ps q=>⟨#[],by rw[AS (ne b _ q λ_ z=>nomatch z),q];simp⟩⟩ λb u q=>?_
 . exact J
 . have st:∀{b u},ObjOk X.prog X.w H s.heap b u->ObjOk X.prog X.w (upd H a (.frz o (.dK ks))) s.heap b u:=λ{b u} x=>x.stay (λ_ _ _ q=>q) (λc q=>by rw[AS (ne c _ q λ_ z=>nomatch z)];exact q) λc xs q=>by rw[AS (ne c _ q λ_ z=>nomatch z)];exact q
   by_cases z:b=a;. subst z;rw[AN] at q;cases q;exact⟨ho,st (I.hok b _ e)⟩
   . rw[AS z] at q;exact st (I.hok b u q)
def j5 (tl:TE):TI:=λσ H R=>tl σ H λx H1=>∃a,x = .ref a/\((∃ks,H1 a=some (.dK ks)/\∀o,R (Itk a o ks) (upd H1 a (.frz o (.dK ks))))\/∃o ks,H1 a=some (.frz o (.dK ks))/\R (Itk a o ks) H1)
theorem XE {l:Expr}{tl:TE}(hl:PE X l tl):PI X tg l (j5 tl):=by
 intro pins s σ H R I h;refine thn (hl pins s σ H _ I h) λv s1 ⟨x,H1,I1,r1,a,ex,q1⟩=>?_;subst ex;obtain rfl:v=a0X a:=r1;have go:∀{H2:Hp}{o:Obj}{ks:List (Key×V)},Inv X pins σ H2 s1->H2 a=some (.frz o (.dK ks))->R (Itk a o ks) H2->wpAny (model X.prog X.w) X.A (pyIter (.ref a)) (PIE X pins σ tg R) X.xe s1:=λ{H2 o ks} I2 e q=>by
   obtain⟨er,_,rg,vs,rel,o',aw,ff,cu,r⟩:=I2.hok a _ e;obtain rfl:o'=o:=Option.some.inj (cu.symm.trans er);have dat:s1.heap.DictAt (B0 X.prog X.w) a vs ff:=⟨o',aw,cu,r⟩
   have hl:vs.length=ks.length:=rel.length.symm;refine wpAny_pyIter_dict rg dat ?_;rw[hl];have I3:Inv X pins σ H2 { s1 with heap:=s1.heap.push { cls:=.type "dict_keyiterator", data:=.fields #[.ref a,.int 0 0,.int ks.length 0,.int ff 0] } }:=I2.kept (t':=s1.toks) λb u q=>zW _ q;refine⟨s1.heap.objs.size,[s1.heap.objs.size],_,Itk a o' ks,H2,rfl,I3,YS a _ o' ks,⟨aw,ff,r.2.1,_,yZ _ rfl,rfl,rfl⟩,λb hb=>?_,q⟩;have:b=s1.heap.objs.size:=by simpa using hb
   rw[this];exact I2.fpOk (zR _) (I2.hok.fresh (zR _))
 rcases q1 with ⟨ks,e,q⟩ | ⟨o,ks,e,q⟩
 . obtain⟨_,_,vs,_,o,es,ep,ho,_⟩:=I1.hok a _ e;exact go (YT I1 e ho) AN (q o)
 . exact go I1 e q
end
end L2
namespace DL
open PySem PySem.Spec L2
abbrev HZ (ts:List (Str×PyData)):List PyData:=ts.map λt=>.str t.1
section
variable {K:Frg}{ρ:List (Option DS)}{M:Own}{H:Hp}{Q:DS->Own->Prop}{QI:List PyData->Own->Prop}{tl td ty tx:TE}{D:EndsD}{t:TS}
theorem cL {W:Addr->Prop}:∀{ts:List (Str×PyData)}{ks:List (Key×V)}{i:Nat}{k:Key}{v:V},DKV K H W (AI ts) ks->ks[i]?=some (k,v)->∃u,ts[i]?=some u/\k=a1K u.1
 | [],ks,i,k,v,h,e=>by rw[DF.mp h] at e;simp at e
 | u::ts,ks,i,k,v,h,e=>by
   obtain⟨w,r,rfl,h1,h2⟩:=BR.mp h;cases i with
   | zero=>simp at e;exact⟨u,rfl,e.1.symm⟩
   | succ i=>simpa using cL h2 (by simpa using e)
theorem XF (h:DE K tl ρ M λx M1=>∃ts:List (Str×PyData),x = .d (.dict (AI ts))/\QI (HZ ts) M1):DI K (j5 tl) ρ M QI:=λσ H R Rl k=>
 h σ H _ Rl λv H1 x M1 o1 s1 t1 h1=>by
   obtain⟨ts,rfl,q⟩:=h1;unfold SI DV at s1;obtain⟨a,ks,rfl,nw,hr,hd⟩:=s1;have ab:ks.length=ts.length:=by have:=FB hd;unfold AI at this;simpa using this
   have wd:∀{H2:Hp}{o:Obj},H2 a=some (.frz o (.dK ks))->WD K (Itk a o ks) (HZ ts) H2 M1:=λ{H2 o} e=>
     ⟨λi H' M' hi oa st=>⟨st.grow.kept e nw (λ_ z=>nomatch z),by rw[ab];simpa using hi⟩,λH' M' oa st=>⟨st.grow.kept e nw (λ_ z=>nomatch z),by rw[ab];simp⟩,λi H' M' x H3 oa st hi y=>by obtain⟨rfl,kk,vv,ek,rfl⟩:=y;obtain⟨u,hu,rfl⟩:=cL hd ek;refine⟨oa,Step.refl,.str u.1,?_,by unfold DV;rfl⟩;rw[zF,hu];rfl⟩
   refine⟨a,rfl,?_⟩;rcases hr with e | ⟨o,e⟩
   . refine .inl ⟨ks,e,λo=>?_⟩;have g:Grow K M1.W M1.W H1 (upd H1 a (.frz o (.dK ks))):=⟨λb u e' nb=>by
       by_cases z:b=a;. subst z;rw[e] at e';cases e';exact .inr ⟨ks,o,rfl,AN⟩
       . exact .inl (by rw[AS z];exact e'),λb z=>.inl z⟩
     have oa:OA K (upd H1 a (.frz o (.dK ks))) M1:=o1.grow g λb ob eb=>by rw[AS];rintro rfl;exact nw (by unfold Own.W;rw[eb];simp)
     exact k _ _ _ M1 oa (t1.trans ⟨g⟩) (wd AN) q
   . exact .inr ⟨o,ks,e,k _ _ _ M1 o1 t1 (wd e) q⟩
theorem EN {i:Nat}{a:Addr}{kvs:List (PyData×PyData)}(e:ρ[i]?=some (some (.loc a))) (m:M a=some (.d kvs)) (h:DSt K t (ρ.set i (some (.d (.dict kvs)))) (M.del a) D):DSt K t ρ M D:=λσ H E R k1 k2 k3 k4=>by
 have hs:(M.del a).Sub M:=λb o q=>by
   unfold Own.del at q;by_cases hb:b=a;. rw[if_pos hb] at q;cases q
   . rw[if_neg hb] at q;exact q
 have st:Step K M (M.del a) H H:=⟨BP hs⟩
 obtain⟨v,e1,e2⟩:=R.slot i _ e;obtain⟨vs,q1,q2⟩:=R.own a _ m;have R1:Rel K (M.del a) ρ σ H:=R.step (R.own.sub hs) st;have R2:=R1.set (x:=.d (.dict kvs)) (v:=v) (by
   unfold SI DV;refine⟨a,vs,e2,(λw=>w (by unfold Own.del;rw[if_pos rfl])),.inl q1,q2.grow (BP hs)⟩) i;have e3:σ.set i (some v)=σ:=by
   apply a9W;intro j;rw[List.getElem?_set];by_cases au:i=j
   . subst au;rw[if_pos rfl,e1];split;. rfl
     . rename_i hl;rw[a2J (by lia)] at e1;cases e1
   . rw[if_neg au]
 rw[e3] at R2;exact h σ H E R2 (λa b c d e f g=>k1 a b c d e (st.trans f) g) (λa b c d e f g q=>k2 a b c d e f (st.trans g) q) (λa b c d e f g=>k3 a b c d e (st.trans f) g) (λa b c d e f g=>k4 a b c d e (st.trans f) g)
end
end DL
namespace DL
open PySem PySem.Spec L2
def Deed.must (D:Deed):List Str:=D.names.filter λn=>decide (¬D.made=some n)
end DL
namespace DL
open PySem PySem.Spec L2
section
variable {M:Own}{Q:DS->Own->Prop}{w:List Th}{ls:List (Str×Deed)}
def DW:FSp:=⟨λxs M=>∃D:Deed,xs=[.d D.d]/\D.real,λxs M y M'=>∀D:Deed,xs=[.d D.d]->y = .d (C6 D.must)/\M'=M⟩
theorem YU {D:Deed}(hr:D.real) (q:Q (.d (C6 D.must)) M):[DS.d D.d].length=1/\DW.pre [.d D.d] M/\∀x M',DW.post [.d D.d] M x M'->Q x M':=⟨rfl,⟨D,rfl,hr⟩,λx M' h=>by obtain⟨rfl,rfl⟩:=h D rfl;exact q⟩
end
end DL
namespace DL
open PySem PySem.Spec L2
theorem MZ (a b:Int):a4W (.int a) (.int b)=decide (a=b):=by
 have:a4W (.int a) (.int b)=(a==b):=by simp[a4W]
 rw[this];rfl
end DL
namespace DL
open PySem PySem.Spec L2
theorem EO {d:PyData}(h:zH d=true):a4W d d=true:=PySem.SeqAt.eqv_refl _ (zG h)
end DL
namespace DL
open PySem PySem.Spec L2
theorem GN {n k:Nat}{d:PyData}(h:(EI 0 ((n:Nat):Int).toNat)[k]?=some d):k < n/\d = .int (k:Int):=by
 have hl:k < n:=by have:=(yT.mp h).1;simpa [EI] using this
 refine⟨hl,?_⟩;unfold EI at h;rw[zF,yA (by lia)] at h;simp at h;exact h.symm
theorem O1 {n:Nat}{d:PyData}(h:d∈EI 0 ((n:Nat):Int).toNat):∃k:Nat,k < n/\d = .int (k:Int):=by obtain⟨k,hk,e⟩:=List.mem_iff_getElem.mp h;exact⟨k,GN (n:=n) (by rw[zV hk,e])⟩
theorem FX (n:Nat):(EI 0 ((n:Nat):Int).toNat).length=n:=by simp[EI]
end DL
namespace L2
open PySem PySem.Spec PyProof.Rows
theorem JN:typeLookup (.type "tuple") (dunderI "add")=pure none:=by rw[typeLookup_type,builtinLookup_eq_fast];kernel_rfl
theorem JO {prog:Program}{w:World}{A:Around}{E:Value->Shared->Prop}{s:Shared}{T id:String}{B:Builtin}{a b:Value}{S:PySem.Spec}{Q:Value->Shared->Prop}(ha:s.TypeIs a T) (hb:s.TypeIs b T) (ij:typeLookup (.type T) (dunderI "add")=pure none) (hf:fillsNumberSlot (.type T) "add"=pure false) (hs:seqSlot? (.type T) "__add__"=pure (some (.builtin id))) (sl:Slot T "__add__" id) (en:entryFor table id=some B) (ar:argsOk id ⟨[a,b],[]⟩) (g:Meets (B ⟨[a,b],[]⟩) S) (h:S A (wants Q E) s):wpAny (model prog w) A (inplaceOp .Add a b) Q E s:=
 wpAny_inplaceOp_concat ha hb ij hf hs (call_meets sl ha en ar g h)
section
variable {X:Cx}
def mB (K:Frg):R2:=λx y H Q=>ipI (λi j=>i+j) x y H Q\/VG K x y H Q
theorem cM {K:Frg}(hK:X.K=K):PIp X .Add (mB K):=by
 subst hK;intro pins s σ H x y v u Q I rx ry h;rcases h with h | h;. exact jR pins s σ H x y v u Q I rx ry h
 obtain⟨t,b,xs,ys,rfl,rfl,hx,hy,hz,q0,q1,q2⟩:=h;cases rx;cases ry;obtain⟨aa,r,ht,_⟩:=I.tuple hx;obtain⟨a_,r2,hb,_⟩:=I.tuple hy;have e1:=r.length;have e2:=r2.length;obtain⟨⟨cls,dd,data,sl⟩,ho,hc,n,hd⟩:=id ht;obtain⟨⟨ma,iu,data2,iw⟩,ho2,hc2,n2,hd2⟩:=id hb;dsimp only at hc hd hc2 hd2;subst hc hd hc2 hd2;have e:aa.toArray++a_.toArray=(aa++a_).toArray:=by simp
 by_cases hv:aa=[]
 . have mj:xs=[]:=by cases r with | nil=>rfl | cons _ _=>cases hv
   exact JO ⟨_,ho,rfl⟩ ⟨_,ho2,rfl⟩ JN noFill_tuple_add seq_tuple_add a5Z a4K (a4X _ _) (tuple_addW0 t b aa.toArray a_.toArray n n2 dd iu sl iw (by simp[hv])) ⟨ho,ho2,⟨.ref b,H,I,rfl,q0 mj⟩⟩
 . by_cases hw:a_=[]
   . have dj:ys=[]:=by cases r2 with | nil=>rfl | cons _ _=>cases hw
     exact JO ⟨_,ho,rfl⟩ ⟨_,ho2,rfl⟩ JN noFill_tuple_add seq_tuple_add a5Z a4K (a4X _ _) (tuple_addW1 t b aa.toArray a_.toArray n n2 dd iu sl iw (by simpa using hv) (by simp[hw])) ⟨ho,ho2,⟨.ref t,H,I,rfl,q1 dj⟩⟩
   . refine JO ⟨_,ho,rfl⟩ ⟨_,ho2,rfl⟩ JN noFill_tuple_add seq_tuple_add a5Z a4K (a4X _ _) (tuple_addW2 t b aa.toArray a_.toArray n n2 dd iu sl iw (by simpa using hv) (by simpa using hw) (by rw[zJ,zJ];lia)) ⟨ho,ho2,?_⟩;rw[e];refine⟨.ref s.heap.objs.size,_,I.laid (t':=s.toks) (o:=.tup (xs++ys)) (λb ob q=>zW _ q) (zR _) ?_,rfl,q2 _ I.fresh⟩;exact⟨by rw[yY];exact hz,aa++a_,r.append r2,IsTup.new _ _⟩
end
end L2
namespace DL
open PySem PySem.Spec L2
section
variable {K:Frg}{ρ:List (Option DS)}{M:Own}{D:EndsD}
theorem cN {i:Nat}{te:TE}{r:R2}(h:∃x,ρ[i]?=some (some x)/\DE K te ρ M λy M1=>D2 K r x y M1 λz M2=>D.nx (ρ.set i (some z)) M2):DSt K (n9 i te r) ρ M D:=λσ H E R k1 _ _ _=>by obtain⟨x,e,h⟩:=h;obtain⟨v,ev,sv⟩:=R.slot i x e;refine⟨v,ev,h σ H _ R λu H1 y M1 o1 s1 t1 q=>?_⟩;exact q H1 v u _ o1 (SI.step t1 sv) s1 λz H2 w M2 o2 s2 t2 q2=>k1 _ M2 _ H2 (((R.step o1 t1).step o2 t2).set s2 i) (t1.trans t2) q2
theorem h7 {i j:Int}{Q:DS->Own->Prop}(q:Q (.d (.int (i+j))) M):D2 K (mB K) (.d (.int i)) (.d (.int j)) M Q:=λH v u QQ oa s1 s2 k=>by unfold SI DV at s1 s2;subst s1;subst s2;exact .inl ⟨i,j,rfl,rfl,k _ H (.d (.int (i+j))) M oa (by unfold SI DV;rfl) Step.refl q⟩
theorem h8 {as bs:List PyData}{Q:DS->Own->Prop}(hz:as.length+bs.length<=sizeLine) (q:Q (.d (.tuple (as++bs))) M):D2 K (mB K) (.d (.tuple as)) (.d (.tuple bs)) M Q:=λH v u QQ oa s1 s2 k=>by
 have iy:=s1;have qS:=s2;unfold SI DV at s1 s2;obtain⟨a,vs,rfl,hl,hd⟩:=s1;obtain⟨b,us,rfl,gn,hd2⟩:=s2;refine .inr ⟨a,b,vs,us,rfl,rfl,hl.sq,gn.sq,by rw[hd.length,hd2.length];exact hz,λe=>?_,λe=>?_,λp hp=>?_⟩
 . have:as=[]:=by have:=hd.length;rw[e] at this;exact List.length_eq_zero_iff.mp this.symm
   subst this;exact k _ H (.d (.tuple ([]++bs))) M oa qS Step.refl q
 . have:bs=[]:=by have:=hd2.length;rw[e] at this;exact List.length_eq_zero_iff.mp this.symm
   subst this;rw[a2K] at q;exact k _ H (.d (.tuple as)) M oa iy Step.refl q
 . have g:Grow K M.W M.W H (upd H p (.tup (vs++us))):=BI _ hp;refine k _ _ (.d (.tuple (as++bs))) M (oa.new hp) ?_ ⟨g⟩ q;unfold SI DV;exact⟨p,_,rfl,.inl ⟨λw=>w (oa.none hp),.inl AN⟩,(hd.append hd2).grow g⟩
end
end DL
namespace L2
open PySem PySem.Spec PyProof.Rows
theorem P7:entryFor table "set_iterator.__iter__"=some Builtin.«dict_keyiterator.__iter__»:=entryFor_alias (id':= "dict_keyiterator.__iter__") (by kernel_rfl) rfl (by decide +kernel) (by kernel_rfl)
theorem RP (a:Value):argsOk "set_iterator.__iter__" ⟨[a],[]⟩:=by kernel_rfl
section
variable {prog:Program}{w:World}{A:Around}{E:Value->Shared->Prop}{s:Shared}{a I:Addr}{es:Array (Int×Value)}{ep i n:Nat}{t:SetTable}
theorem XG {vs:Array Value}{Q:Value->Shared->Prop}(hit:ItIs s.heap I vs) (h:Q (.ref I) s):wpAny (model prog w) A (pyIter (.ref I)) Q E s:=by
 obtain⟨o,ho,hc,hd⟩:=hit;have hT:s.TypeIs (.ref I) "set_iterator" := ⟨o,ho,hc⟩
 refine wpAny_pyIter_slot hT KC (wpAny_call_entry KC hT P7 ?_ (RP _));show wpAny _ _ (ret (.ref I)) _ _ s;exact zY ⟨_,rfl, "set_iterator", _,hT,AU.lookup,h⟩
def W5 (ord:List (Int×Value)) (i:Nat) (v:Value):Prop:=∃k,ord[i]?=some (k,v)
theorem j6 (hh:A.handled=none) (hI:I≠a) (hf:t.fits es.size=true) (ord:List (Int×Value)) (hp:ord.Perm es.toList) (slot:Nat->Nat) (hx:∀(A:Around) (E':Value->Shared->Prop) (s:Shared) (i:Nat) (Q':Option (Value×Nat)->Shared->Prop),SetIs s.heap a es ep t->i<=es.size->Q' (ord[i]?.map λe=>(e.2,slot (i+1))) s->wpAny (model prog w) A (setNext a (slot i) i ep) Q' E' s) :
   WalksS prog w A I [I,a] [I] (λa b=>b=a) es.size (W5 ord) (λi s=>ItIs s.heap I #[.int (slot i) 0,.int i 0,.ref a,.int es.size 0,.int ep 0]/\SetIs s.heap a es ep t) where
 sub:=λb hb=>by simp at hb;simp[hb]
 grefl:=λ_=>rfl
 gtrans:=λa b c e1 e2=>e2.trans e1
 frame:=λi s h' tk st _ k=>⟨st.1.keep λo e=>k I (by simp) o e,st.2.keep λo e=>k a (by simp) o e⟩
 item:=λi s Q E hi st hQ=>by
   have hl:i < ord.length:=by rw[hp.length_eq];simpa using hi
   refine gX (x:=ord[i].2) (nx:=slot (i+1)) st.1 st.2 hf rfl (λA' E' Q' q=>hx A' E' s i Q' st.2 (xR hi) (by rw[zV hl];exact q)) λh' i1 s1=>?_;refine hQ _ _ ⟨ord[i].1,zV hl⟩ ⟨i1,st.2.keep λo e=>(s1.2 a hI.symm).trans e⟩ ⟨λb o hb e=>(s1.2 b (λz=>hb (by simp[z]))).trans e,rfl,rfl,rfl,zR _⟩
 done:=λs Q E st hQ=>m8 hh st.1 st.2 hf rfl (λA' E' Q' q=>hx A' E' s _ Q' st.2 (zR _) (by rw[a2J (by rw[hp.length_eq];simp)];exact q)) λh' e1=>hQ _ ⟨λb o hb e=>e1 b o (λz=>hb (by simp[z])) e,rfl,rfl,rfl,zR _⟩
 self:=λi s Q E st h=>XG st.1 h
theorem oV (hh:A.handled=none) {tp:Addr}(hI:I≠a) (hT:I≠tp) (hf:t.fits es.size=true) (ps:List Nat) (hp:ps.Perm (a0Z es.size)) :
   WalksS prog w A I [I,a,tp] [I] (λa b=>b=a) es.size (W5 (ps.filterMap λi=>es[i]?)) (λi s=>ItIs s.heap I #[.ref tp,.int i 0,.ref a,.int es.size 0,.int ep 0]/\SetIs s.heap a es ep t/\s.heap.IsTuple tp (ps.map λi:Nat=>rawInt i).toArray):=by
 have bb:∀i∈ps,i < es.size:=λi hi=>List.mem_range.mp (hp.mem_iff.mp hi);have ab:ps.length=es.size:=by rw[hp.length_eq,xZ]
 have er:∀(l:List Nat),(∀i∈l,i < es.size)->∀(i j:Nat),l[i]?=some j->(l.filterMap λi=>es[i]?)[i]?=es[j]?:=λl=>by
   induction l with
   | nil=>intro _ i j e;simp at e
   | cons x r ih=>
     intro hl i j e;rw[a7J,a2Z (hl x (by simp))];cases i with
     | zero=>simp at e;subst e;simp[hl x (by simp)]
     | succ i=>simp only[List.getElem?_cons_succ] at e ⊢;exact ih (λi hi=>hl i (by simp[hi])) i j e
 refine⟨λb hb=>by simp at hb;simp[hb],λ_=>rfl,λa b c e1 e2=>e2.trans e1,λi s h' tk st _ k=>⟨st.1.keep λo e=>k I (by simp) o e,st.2.1.keep λo e=>k a (by simp) o e,let ⟨o,a1,r⟩:=st.2.2;⟨o,k tp (by simp) o a1,r⟩⟩,λi s Q E hi st hQ=>?_,λs Q E st hQ=>?_,λi s Q E st h=>XG st.1 h⟩;. have hj:ps[i]?=some ps[i]:=zV (by lia);have hl:=bb _ (yN hj);have he:es[ps[i]]?=some es[ps[i]]:=a2Z hl;refine cK (j:=ps[i]) (k:=es[ps[i]].1) (x:=es[ps[i]].2) st.1 st.2.2 (by simp only[List.getElem?_toArray,zF,hj];rfl) he st.2.1 hf rfl λh' i1 s1=>?_;exact hQ _ _ ⟨es[ps[i]].1,by rw[er ps bb i _ hj,he]⟩ ⟨i1,st.2.1.keep λo e=>(s1.2 a hI.symm).trans e,let ⟨o,a1,r⟩:=st.2.2;⟨o,(s1.2 tp hT.symm).trans a1,r⟩⟩ ⟨λb o hb e=>(s1.2 b (λz=>hb (by simp[z]))).trans e,rfl,rfl,rfl,zR _⟩
 . exact gY hh st.1 st.2.2 (by simp[ab]) st.2.1 hf rfl λh' e1=>hQ _ ⟨λb o hb e=>e1 b o (λz=>hb (by simp[z])) e,rfl,rfl,rfl,zR _⟩
theorem cO {Q:Value->Shared->Prop}(hh:A.handled=none) (hs:SetIs s.heap a es ep t) (hf:t.fits es.size=true) (ht:TabOk w t) (hz:es.size < 4096) (h:∀(I:Addr) (fp:List Addr) (St:Nat->Shared->Prop) (ord:List (Int×Value)) (h':Heap) (d:Drawn),s.heap.objs.size<=I->(∀b∈fp,b=a\/s.heap.objs.size<=b)->(∀b o,s.heap.get? b=some o->h'.get? b=some o)->ord.Perm es.toList->WalksS prog w A I fp [I] (λa b=>b=a) es.size (W5 ord) St->St 0 { s with heap:=h',drawn:=d }->Q (.ref I) { s with heap:=h',drawn:=d }) :
   wpAny (model prog w) A (pyIter (.ref a)) Q E s:=by
 obtain⟨o,ho,hc,hd⟩:=id hs;have hT:s.TypeIs (.ref a) "set" := ⟨o,ho,hc⟩
 have bb:=zM ho;refine wpAny_pyIter_slot hT KB (wpAny_call_entry KB hT P6 ?_ (RO _));unfold Builtin.«frozenset.__iter__»;refine zZ (zY ?_);refine zZ ?_;unfold Builtin.Frozenset.sizeOf;refine zZ (EM hs hf (zY ?_));refine zZ (show wpAny _ _ (setDrawn a) _ _ _ from ?_);unfold setDrawn;refine zZ (EL hs hf (zZ (IV ?_)));dsimp only;have j_:∀(s:Shared) (Q:Nat->Shared->Prop) (A:Around) (E:Value->Shared->Prop),SetIs s.heap a es ep t->Q ep s->wpAny (model prog w) A (setEpoch a) Q E s:=λs Q A E hs q=>let ⟨o,ho,_,hd⟩:=hs;wpAny_setEpoch_of ho hd hf q;cases hb:w.params.followText "set-order" with
 | true=>
   refine zY ?_;show wpAny _ _ (if (!true&&(!t.plain&&decide (es.size > 1)))=true then _ else _) _ _ _;rw[if_neg (by simp)];refine zZ (zY (zZ (j_ _ _ _ _ hs ?_)));refine zZ (xM (zY ⟨_,rfl, "set_iterator", _,⟨_,yZ _ rfl,rfl⟩,AU.lookup,?_⟩));refine h _ [_,a] _ _ _ s.drawn (zR _) (λb hb=>?_) (λb o e=>zW _ e) (QF (w.params.setOrder a ep) es) (j6 hh (a6K bb) hf _ (QF _ _) (λ_=>0) λA' E' s' i Q' my hi q=>YR hb my hf ?_) ⟨⟨_,yZ _ rfl,rfl,rfl⟩,hs.keep λo e=>zW _ e⟩
   . rcases yX.mp hb with rfl | hb;. exact .inr (zR _)
     . exact .inl (List.mem_singleton.mp hb)
   . rw[<-a4Q];exact q
 | false=>
   cases hp:(!t.plain&&decide (es.size > 1)) with
   | false=>
     refine zY ?_;show wpAny _ _ (if (!false&&(!t.plain&&decide (es.size > 1)))=true then _ else _) _ _ _;rw[if_neg (by rw[hp];simp)];refine zZ (zY (zZ (j_ _ _ _ _ hs ?_)));refine zZ (xM (zY ⟨_,rfl, "set_iterator", _,⟨_,yZ _ rfl,rfl⟩,AU.lookup,?_⟩));have vE:t.place.size=es.size:=by have:=hf;simp[SetTable.fits] at this;exact this.1
     refine h _ [_,a] _ es.toList _ s.drawn (zR _) (λb hb=>?_) (λb o e=>zW _ e) (.refl _) (j6 hh (a6K bb) hf _ (.refl _) (λi=>if i=0 then 0 else t.place.getD (i - 1) 0+1) λA' E' s' i Q' my hi q=>W3 hb hp ht my hf ?_) ⟨⟨_,yZ _ rfl,rfl,rfl⟩,hs.keep λo e=>zW _ e⟩
     . rcases yX.mp hb with rfl | hb;. exact .inr (zR _)
       . exact .inl (List.mem_singleton.mp hb)
     . have e:a0W t.place (if i=0 then 0 else t.place.getD (i - 1) 0+1)=i:=by
         cases i with
         | zero=>exact W0 ht.up
         | succ i=>exact VZ ht.up (by lia)
       rw[e];rw[a4Q] at q;by_cases mz:i < es.size
       . have sF:i < t.place.size:=by lia
         rw[a2Z mz,a2Z sF];rw[a2Z mz] at q;simpa [a8V,sF] using q
       . rw[b6K (by lia)];rw[b6K (by lia)] at q;exact q
   | true=>
     refine zY ?_;show wpAny _ _ (if (!false&&(!t.plain&&decide (es.size > 1)))=true then _ else _) _ _ _;rw[if_pos (by rw[hp];simp)];refine zZ (QG es.size (a0Z es.size) (by simp) λys d hy=>?_);have kc:ys.length=es.size:=by rw[hy.length_eq,xZ]
     refine zZ (wpAny_newTuple ?_ (by rw[zX,kc,sizeLine_eq];lia));refine zZ (j_ _ _ _ _ (hs.keep λo e=>zW _ e) ?_);refine zZ (xM (zY ⟨_,rfl, "set_iterator", _,⟨_,yZ _ rfl,rfl⟩,AU.lookup,?_⟩));have hsz:(s.heap.push { cls:=.type "tuple", data:=.seq (ys.map λi:Nat=>rawInt i).toArray }).objs.size=s.heap.objs.size+1:=b4J ..;refine h _ [_,a,s.heap.objs.size] _ _ _ d (by rw[hsz];exact a6V _) (λb hb=>?_) (λb o e=>zW _ (zW _ e)) ?_ (oV hh (by rw[hsz];exact a6K (b2Q bb)) (by rw[hsz];exact a6K (b6W _)) hf ys hy) ⟨⟨_,yZ _ rfl,rfl,rfl⟩,hs.keep λo e=>zW _ (zW _ e),⟨_,zW _ (yZ _ rfl),rfl,_,rfl⟩⟩
     . rcases yX.mp hb with rfl | hb;. exact .inr (by rw[hsz];exact a6V _)
       . rcases yX.mp hb with rfl | hb;. exact .inl rfl
         . exact .inr (Nat.le_of_eq (List.mem_singleton.mp hb).symm)
     . refine(hy.filterMap _).trans ?_;rw[filterMap_getElem?_range]
theorem cP {Q:Bool->Shared->Prop}(hT:s.TypeIs (.ref a) "set") (h:Q false s):wpAny (model prog w) A (Builtin.List.listLengthHint (.ref a)) Q E s:=by
 unfold Builtin.List.listLengthHint;refine zZ (wpAny_specialOf hT F.slot_set_len.lookup ?_);generalize hid:("set.__len__":String)=id0
 wp_delta
 rw[show splitId id0=some ("set", "__len__") from by subst hid;decide +kernel];subst hid;refine zZ (wpAny_isInstance (T:= "set") (b:=true) hT (by rw[isSubtype_type];kernel_rfl) ?_);refine wpAny_ite_split (λgq=>absurd gq (by decide)) (λ_=>?_);refine wpAny_ite_split (λ_=>?_) (λgq=>absurd (by decide +kernel) gq);exact zZ (wpAny_typeOf hT (zY h))
end
end L2
namespace L2
open PySem PySem.Spec PyProof.Rows
inductive IsKeys {prog:Program}{w:World}{K:Type}[DecidableEq K] (knd:KeyKind prog w K):List Value->List K->Prop
 | nil:IsKeys knd [] []
 | cons {v:Value}{k:K}{vs:List Value}{ks:List K}:knd.is k v=true->v.scannable=true->IsKeys knd vs ks->IsKeys knd (v::vs) (k::ks)
def KD {K:Type}[DecidableEq K] (ks:List K) (k:K):List K:=if k∈ks then ks else ks++[k]
section
variable {prog:Program}{w:World}{K:Type}[DecidableEq K] {knd:KeyKind prog w K}{A:Around}{E:Value->Shared->Prop}{s:Shared}{a I:Addr}
theorem IsKeys.len:∀{vs:List Value}{ks:List K},IsKeys knd vs ks->vs.length=ks.length
 | _,_,.nil=>rfl
 | _,_,.cons _ _ r=>by simp[r.len]
theorem IsKeys.app:∀{vs us:List Value}{ks ls:List K},IsKeys knd vs ks->IsKeys knd us ls->IsKeys knd (vs++us) (ks++ls)
 | _,_,_,_,.nil,h=>h
 | _,_,_,_,.cons a b r,h=>.cons a b (r.app h)
theorem IsKeys.perm {vs us:List Value}(p:us.Perm vs):∀{ks:List K},IsKeys knd vs ks->∃ls,ls.Perm ks/\IsKeys knd us ls:=by
 induction p with
 | nil=>intro ks h;cases h;exact⟨[],.refl _,.nil⟩
 | cons x _ ih=>intro ks h;cases h with
   | cons a b r=>obtain⟨ls,q,r'⟩:=ih r;exact⟨_,.cons _ q,.cons a b r'⟩
 | swap x y l=>intro ks h;cases h with
   | cons a b r=>cases r with
     | cons a' b' r'=>exact⟨_,.swap _ _ _,.cons a' b' (.cons a b r')⟩
 | trans _ _ i1 i2=>intro ks h;obtain⟨l1,q1,h1⟩:=i2 h;obtain⟨l2,q2,h2⟩:=i1 h1;exact⟨l2,q2.trans q1,h2⟩
theorem IsKeys.mem {k:K}:∀{vs:List Value}{ks:List K},IsKeys knd vs ks->(k∈ks↔∃v∈vs,knd.is k v=true)
 | _,_,.nil=>by simp
 | _,_,.cons (v:=v) (k:=k') a b r=>by
   rw[yX,r.mem];constructor
   . rintro (rfl | ⟨v,h1,h2⟩);. exact⟨_,by simp,a⟩
     . exact⟨v,by simp[h1],h2⟩
   . rintro⟨u,h1,h2⟩;rcases yX.mp h1 with rfl | h1;. exact .inl (knd.inj _ _ _ h2 a)
     . exact .inr ⟨u,h1,h2⟩
theorem IsKeys.at:∀{vs:List Value}{ks:List K}{i:Nat}{v:Value},IsKeys knd vs ks->vs[i]?=some v->∃k,ks[i]?=some k/\knd.is k v=true/\v.scannable=true
 | _,_,i,v,.nil,h=>by simp at h
 | _,_,0,v,.cons a b r,h=>by simp at h;subst h;exact⟨_,rfl,a,b⟩
 | _,_,i+1,v,.cons a b r,h=>by simp only[List.getElem?_cons_succ] at h ⊢;exact r.at h
def SetOn (knd:KeyKind prog w K) (h:Heap) (a:Addr) (ks:List K):Prop:=∃es ep t,SetIs h a es ep t/\t.fits es.size=true/\TabOk w t/\ElemsOf knd es.toList/\es.size < 2000/\IsKeys knd (es.toList.map (·.2)) ks
theorem SetOn.keep {h h':Heap}{ks:List K}(x:SetOn knd h a ks) (k:∀o,h.get? a=some o->h'.get? a=some o):SetOn knd h' a ks:=let ⟨es,ep,t,r,q⟩:=x;⟨es,ep,t,r.keep k,q⟩
theorem SetIs.store {h:Heap}{es:Array (Int×Value)}{ep:Nat}{t:SetTable}(hs:SetIs h a es ep t) (aw:Array (Int×Value)) (t':SetTable):SetIs (h.update a (Obj.putSet aw t')) a aw (ep+1) t':=by obtain⟨o,ho,hc,hd⟩:=hs;have e:=b2X (Obj.putSet aw t') ho (by rw[putSet_of aw t' hd];rfl);rw[putSet_of aw t' hd] at e;exact⟨_,e,hc,rfl⟩
theorem TY {es aw:Array (Int×Value)}{ep:Nat}{t t':SetTable}{Q:Unit->Shared->Prop}(hs:SetIs s.heap a es ep t) (hz:aw.size < 4096) (h:Q () { s with heap:=s.heap.update a (Obj.putSet aw t') }):wpAny (model prog w) A (storeSet a aw t') Q E s:=
 let ⟨o,ho,_,hd⟩:=hs;wpAny_storeSet_of ho hd h (fits_of_scanBound hz)
theorem h9 {ks:List K}{k:K}{x:Value}{Q:Bool->Shared->Prop}(eh:knd.is k x=true) (ku:x.scannable=true) (G:SetOn knd s.heap a ks) (hr:ks.length < 1999) (h:∀(b:Bool) (h':Heap) (sG:List K),Heap.SameBut a s.heap h'->sG.Perm (KD ks k)->SetOn knd h' a sG->Q b { s with heap:=h' }):wpAny (model prog w) A (setAddHashed a x (knd.hash k)) Q E s:=by
 obtain⟨es,ep,t,hs,hf,ht,nc,hz,hk⟩:=G;obtain⟨o,ho,hc,hd⟩:=id hs;have ab:es.size=ks.length:=by have:=hk.len;simpa using this
 unfold setAddHashed setAddHashedIn;refine wpAny_holding (zZ (EL hs hf ?_));dsimp only;rw[byScan_of ku (show es.size < 4096 by lia) nc];rw[if_pos rfl];refine zZ ?_;unfold setAddByScan;refine zZ (wpAny_rule (zZ (wpAny_setScan_of eh ho hd hf nc ?_)));cases hi:List.findIdx? (λe=>knd.is k e.2) es.toList with
 | some j=>
   obtain⟨hj,uN,_⟩:=List.findIdx?_eq_some_iff_getElem.mp hi;have cx:k∈ks:=hk.mem.mpr ⟨es.toList[j].2,List.mem_map_of_mem (a0K hj),uN⟩;refine zY (zY ?_);have e:s={ s with heap:=s.heap }:=by cases s;rfl
   rw[e];exact h false s.heap ks (Heap.SameBut.refl a s.heap) (by unfold KD;rw[if_pos cx]) ⟨es,ep,t,hs,hf,ht,nc,hz,hk⟩
 | none=>
   have cx:k∉ks:=λhm=>by obtain⟨v,hv,hp⟩:=hk.mem.mp hm;obtain⟨e,he,rfl⟩:=zL.mp hv;have:=List.findIdx?_eq_none_iff.mp hi e he;rw[hp] at this;cases this
   dsimp only;have p1:=layNew_perm t es (knd.hash k) x;have f1:=layNew_fits t es (knd.hash k) x;have t1:=ht.new es (knd.hash k) x;generalize layNew t es (knd.hash k) x=L at p1 f1 t1 ⊢;obtain⟨cy,tb,sE,ng⟩:=L;dsimp only at p1 f1 t1 ⊢;rw[Array.toList_push] at p1;have l1:cy.size=es.size+1:=by rw[<-a3X,p1.length_eq];simp
   have sH:ElemsOf knd cy.toList:=(nc.push eh ku).perm p1;obtain⟨ls,pl,kl⟩:=IsKeys.perm (p1.map (·.2)) (show IsKeys knd ((es.toList++[(knd.hash k,x)]).map (·.2)) (ks++[k]) by rw[xI];exact hk.app (.cons eh ku .nil));have nh:KD ks k=ks++[k]:=by unfold KD;rw[if_neg cx]
   have fin:∀(g:Bool->Sem Unit),(∀b s₁ Q',Q' () s₁->wpAny (model prog w) A (g b) Q' E s₁)->∀(tc:SetTable),TabOk w tc->tc.fits cy.size=true->wpAny (model prog w) A (do
       storeSet a cy tc
       if (!sE&&tc.tooFull)=true then do
           g (relayAll tc cy (a9Q cy.size)).2.2
           storeSet a (relayAll tc cy (a9Q cy.size)).1 (relayAll tc cy (a9Q cy.size)).2.1
           pure (some true)
         else pure (some true)) (λr s'=>wpAny (model prog w) A (match r with | some added=>pure added | none=>setAddHashedIn a x (knd.hash k) 99999) Q E s') E s:=by
     intro g hg tc tk tf;refine zZ (TY hs (by lia) ?_);have kd:=hs.store cy tc;have sI:=b5K s.heap a (Obj.putSet cy tc);split
     . have p2:=relayAll_perm tc cy (a9Q cy.size);have f2:=relayAll_fits tc cy (a9Q cy.size);have t2:=tk.relay cy (a9Q cy.size);generalize relayAll tc cy (a9Q cy.size)=L2 at p2 f2 t2 ⊢;obtain⟨rh,td,ni⟩:=L2;dsimp only at p2 f2 t2 ⊢;have l2:rh.size=cy.size:=by rw[<-a3X,p2.length_eq,a3X]
       obtain⟨uO,km,uP⟩:=kl.perm (p2.map (·.2));refine zZ (hg ni _ _ ?_);refine zZ (TY (s:={ s with heap:=s.heap.update a (Obj.putSet cy tc) }) kd (by lia) (zY (zY ?_)));exact h true _ uO (sI.trans (b5K _ a _)) (by rw[nh];exact km.trans pl) ⟨rh,_,td,kd.store rh td,f2,t2,sH.perm p2,by lia,uP⟩
     . exact zY (zY (h true _ ls sI (by rw[nh];exact pl) ⟨cy,_,tc,kd,tf,tk,sH,by lia,kl⟩))
   have go:∀{Q':Unit->Shared->Prop},Q' () s->wpAny (model prog w) A (match ng with | true=>rule "set.scan.the-table-gave-way" | false=>pure ()) Q' E s:=λ{Q'} q=>by cases ng <;> first | exact zY q | exact wpAny_rule q
   refine zZ (go ?_);split
   . refine zZ ?_;rw[hashByValue_scannable 8 ku];refine zY (fin _ ?_ _ ?_ ?_);. intro b s₁ Q' hq;cases b <;> first | exact zY hq | exact wpAny_rule hq
     . split;. exact t1
       . exact t1.off false
     . split;. exact f1
       . exact SetTable.fits_plain_off f1
   . refine zZ (zY ?_);rw[if_pos rfl];refine fin _ ?_ tb t1 f1;intro b s₁ Q' hq;cases b <;> first | exact zY hq | exact wpAny_rule hq
end
end L2
namespace L2
open PySem PySem.Spec PyProof.Rows
section
variable {prog:Program}{w:World}{K:Type}[DecidableEq K] {knd:KeyKind prog w K}{A:Around}{E:Value->Shared->Prop}{s:Shared}{a I:Addr}
def FY (ks:List K):List K:=ks.foldl KD []
theorem IW (ks:List K) (k:K):FY (ks++[k])=KD (FY ks) k:=by unfold FY;rw[a3V];rfl
theorem cQ {ks:List K}{k x:K}:x∈KD ks k↔x∈ks\/x=k:=by
 unfold KD;split;. rename_i h;exact⟨.inl,λq=>q.elim id λe=>e▸h⟩
 . simp
theorem W6 {ks:List K}{k:K}(h:ks.Nodup):(KD ks k).Nodup:=by
 unfold KD;split;. exact h
 . rename_i hn;exact List.nodup_append.mpr ⟨h,by simp,λa ha b hb e=>hn (by rw[<-List.mem_singleton.mp hb,<-e];exact ha)⟩
theorem YV {ks ls:List K}{k:K}(p:ls.Perm ks):(KD ls k).Perm (KD ks k):=by
 unfold KD;by_cases h:k∈ks;. rw[if_pos h,if_pos (p.mem_iff.mpr h)];exact p
 . rw[if_neg h,if_neg (λq=>h (p.mem_iff.mp q))];exact p.append_right _
theorem TZ (ks:List K):(FY ks).Nodup/\(∀x,x∈FY ks↔x∈ks)/\(FY ks).length<=ks.length:=by
 have go:∀(r l:List K),(∀x,x∈FY l↔x∈l)->(FY l).Nodup->(FY l).length<=l.length->(FY (l++r)).Nodup/\(∀x,x∈FY (l++r)↔x∈l++r)/\(FY (l++r)).length<=(l++r).length:=λr=>by
   induction r with
   | nil=>intro l h1 h2 h3;rw[a2K];exact⟨h2,h1,h3⟩
   | cons k r ih=>
     intro l h1 h2 h3;have e:l++k::r=(l++[k])++r:=by simp
     rw[e];refine ih (l++[k]) (λx=>?_) (by rw[IW];exact W6 h2) ?_;. rw[IW,cQ,h1];simp
     . rw[IW];unfold KD;split <;> simp <;> lia
 have:=go ks [] (λx=>by simp[FY]) (by simp[FY]) (by simp[FY]);simpa using this
theorem YW {fp wr:List Addr}{G:Array GenState->Array GenState->Prop}{St:Nat->Shared->Prop}{R:Result->Shared->Prop}{S:Addr}{vs:List Value}{ks:List K}(W:WalksS prog w A.in1 I fp wr G vs.length (λi v=>vs[i]?=some v) St) (hS:S∉fp) (hv:IsKeys knd vs ks) (hz:ks.length < 1998) : ∀(k i:Nat) (s:Shared) (ls:List K),vs.length - i=k->i<=vs.length->St i s->ls.Perm (FY (ks.take i))->SetOn knd s.heap S ls ->(∀s' qe,Moved (S::wr) G s s'->qe.Perm (FY ks)->SetOn knd s'.heap S qe->R (.ok (.ret .none)) s')->codeAny (model prog w) A (.builtin "set.update.loop" ⟨[.ref S,.ref I],[]⟩) R s:=by
 have hw:S∉wr:=λh=>hS (W.sub _ h);have up:∀b∈wr,b∈S::wr:=λb hb=>yV _ hb;have ab:=hv.len;intro k;induction k with
 | zero=>
   intro i s ls e1 e2 st pl so R1;obtain rfl:i=vs.length:=by lia
   refine codeAny_builtin F.entry_set_update_loop ?_;rw[a9X b7Q _];refine zZ (W.done s _ _ st λs' hm=>zY (R1 s' ls (hm.mono up) ?_ (so.keep λo e=>hm.heap S o hw e)));rw[ab,a1J] at pl;exact pl
 | succ k ih=>
   intro i s ls e1 e2 st pl so R1;have hi:i < vs.length:=by lia
   refine codeAny_builtin F.entry_set_update_loop ?_;rw[a9X b7Q _];refine zZ (W.item i s _ _ hi st λv s' hP ci hm=>?_);obtain⟨q,hq,hk,ku⟩:=hv.at hP;have ri:SetOn knd s'.heap S ls:=so.keep λo e=>hm.heap S o hw e;refine zZ (wpAny_holding ?_);unfold setAdd;refine wpAny_holding (zZ (knd.pyHash hk ?_));have l1:ls.length<=ks.length:=by rw[pl.length_eq];have:=(TZ (ks.take i)).2.2;simp at this;lia
   refine h9 (s:={ s' with toks:=s'.toks+1 }) hk ku ri (by lia) λb h' qe sb p2 qf=>?_;have e3:ks.take (i+1)=ks.take i++[q]:=by rw[a1Q,hq];rfl
   refine zY ⟨plainId_quiet b7Q _,ih (i+1) _ qe (by lia) hi (W.frame _ s' _ _ ci (a6V _) λb hb o e=>?_) (by rw[e3,IW];exact p2.trans (YV pl)) qf λii rl ir p3 qg=>R1 ii rl ?_ p3 qg⟩;. rw[sb.2 b (λz=>hS (z▸hb))];exact e
   . refine Moved.trans W.gtrans ((hm.mono up).then_heap (a6V _) λb o hb e=>?_) ir;rw[sb.2 b (λz=>hb (z▸a1X))];exact e
theorem U0 (x:Value) {Q₁:Value->Shared->Prop} (h:Q₁ (.ref s.heap.objs.size) { s with heap:=s.heap.push { cls:=.type "set", dict:=none,data:=.set #[] 0 (.fresh 0 0 (!(w.params.followText "set-order"))) } }) :
   codeAny (model prog w) A (.call (.builtin "set.__new__") ⟨[.type "set", x],[]⟩) (wants Q₁ E) s:=by refine codeAny_of_tree (show wpAny _ A.in1 (do checkBuiltinCall "set.__new__" ⟨[.type "set", x],[]⟩;again (.builtin "set.__new__" ⟨[.type "set", x],[]⟩)) _ _ s from ?_);refine zZ (wpAny_of_eq (PySem.F.newCall_set_1 x) (zY ⟨plainId_quiet PySem.F.plain_set_new _,codeAny_builtin PySem.F.entry_set_new ?_⟩));rw[a9X PySem.F.plain_set_new _];unfold Builtin.«set.__new__» Builtin.Frozenset.newClass;have bq:=PySem.sub_set_self;obtain⟨hp,g,d,tk,os⟩:=s;dsimp only;wp_walk;refine wpAny_askSetting (zY ?_);dsimp only;simp only[newObj];exact zZ (wpAny_alloc (zY (zY h)))
end
theorem YX:isSubtype (.type "tuple") (.type "set")=pure false:=by rw[isSubtype_type];kernel_rfl
theorem YY:isSubtype (.type "tuple") (.type "frozenset")=pure false:=by rw[isSubtype_type];kernel_rfl
section
variable {prog:Program}{w:World}{K:Type}[DecidableEq K] {knd:KeyKind prog w K}{A:Around}{E:Value->Shared->Prop}{s:Shared}{a I l:Addr}
theorem cR {vs:List Value}{ks:List K}{Q:Unit->Shared->Prop}(hh:A.handled=none) (hl:s.heap.IsList l vs.toArray\/s.heap.IsTuple l vs.toArray) (hk:IsKeys knd vs ks) (hz:ks.length < 1998) (ha:a≠l) (hA:a < s.heap.objs.size) (so:SetOn knd s.heap a []) (h:∀(h':Heap) (tk:Nat) (ls:List K),ls.Perm (FY ks)->SetOn knd h' a ls->(∀b o,b≠a->s.heap.get? b=some o->h'.get? b=some o)->Q () { s with heap:=h',toks:=tk }) :
   wpAny (model prog w) A (a6W "set.__init__" a (.ref l)) Q E s:=by
 have go:∀(T:String),s.TypeIs (.ref l) T->isSubtype (.type T) (.type "set")=pure false->isSubtype (.type T) (.type "frozenset")=pure false->(b4W T==b4W "dict")=false ->(∀{Q':Value->Shared->Prop},(∀(h':Heap) (St:Nat->Shared->Prop),(∀b o,s.heap.get? b=some o->h'.get? b=some o)->WalksS prog w A.in1 s.heap.objs.size [s.heap.objs.size,l] [s.heap.objs.size] (λa b=>b=a) vs.length (λi v=>vs[i]?=some v) St->St 0 { s with heap:=h' }->Q' (.ref s.heap.objs.size) { s with heap:=h' })->wpAny (model prog w) A (pyIter (.ref l)) Q' E s) ->
     wpAny (model prog w) A (a6W "set.__init__" a (.ref l)) Q E s:=by
   intro T hT h1 h2 h3 hit;unfold a6W;refine zZ ?_;unfold Builtin.Frozenset.isAnySet;refine zZ (wpAny_isInstance (b:=false) hT h1 ?_);refine wpAny_isInstance (b:=false) hT h2 ?_;rw[if_neg nft];refine zZ (wpAny_typeOf hT ?_);rw[h3,if_neg nft];refine zZ (hit λh' St fz W st=>zZ (wpAny_runValue ?_));refine YW W ?_ hk hz vs.length 0 _ [] rfl (xT _) st (by rw[List.take_zero];exact .refl _) (so.keep λo e=>fz a o e) λs' ls hm pl ri=>?_
   . intro hm;rcases yX.mp hm with e | e;. exact absurd hA (by rw[e];exact yF _)
     . exact ha (List.mem_singleton.mp e)
   refine zY ?_;obtain⟨h2,g2,d2,t2,o2⟩:=s';have eg:g2=s.gens:=hm.gens;have ed:d2=s.drawn:=hm.drawn;have eo:o2=s.os:=hm.os;subst eg;subst ed;subst eo;refine h h2 t2 ls pl ri λb o hb e=>hm.heap b o (λz=>?_) (fz b o e);rcases yX.mp z with z | z;. exact hb z
   . exact absurd (zM e) (by rw[List.mem_singleton.mp z];exact yF _)
 have bb:l < s.heap.objs.size:=by rcases hl with ⟨o,ho,_⟩ | ⟨o,ho,_⟩ <;> exact zM ho
 rcases hl with hl | hl;. refine go "list" (let ⟨o,ho,hc,_⟩:=hl;⟨o,ho,hc⟩) PySem.F.sub_list_set PySem.F.sub_list_frozenset (by decide) λhQ=>wpAny_pyIter_list hl ?_;have W:=(Walks.list (prog:=prog) (w:=w) (A:=A.in1) hh s.heap.objs.size l (zC bb) vs.toArray).toS;simp only[zJ,List.getElem?_toArray] at W;exact hQ _ _ (λb o e=>zW _ e) W ⟨⟨_,yZ _ rfl,rfl,rfl⟩,hl.push _⟩
 . refine go "tuple" (let ⟨o,ho,hc,_⟩:=hl;⟨o,ho,hc⟩) YX YY (by decide) λhQ=>wpAny_pyIter_tuple hl ?_;have W:=(Walks.tuple (prog:=prog) (w:=w) (A:=A.in1) hh s.heap.objs.size l (zC bb) vs.toArray).toS;simp only[zJ,List.getElem?_toArray] at W;exact hQ _ _ (λb o e=>zW _ e) W ⟨⟨_,yZ _ rfl,rfl,rfl⟩,hl.push _⟩
end
end L2
namespace L2
open PySem PySem.Spec PyProof.Rows
section
variable {prog:Program}{w:World}{K:Type}[DecidableEq K] {knd:KeyKind prog w K}{A:Around}{E:Value->Shared->Prop}{s:Shared}{a I l:Addr}
theorem W7 {vs:List Value}{ks:List K}{Q:Value->Shared->Prop}(hh:A.handled=none) (hl:s.heap.IsList l vs.toArray\/s.heap.IsTuple l vs.toArray) (hk:IsKeys knd vs ks) (hz:ks.length < 1998) (h:∀(h':Heap) (tk:Nat) (ls:List K),ls.Perm (FY ks)->SetOn knd h' s.heap.objs.size ls->(∀b o,s.heap.get? b=some o->h'.get? b=some o)->Q (.ref s.heap.objs.size) { s with heap:=h',toks:=tk }) :
   wpAny (model prog w) A (call (.type "set") [.ref l]) Q E s:=by
 obtain⟨c,tl,uQ⟩:=PySem.F.called_set.mro;have sJ:=PySem.F.called_set.made;have bq:=PySem.F.called_set.sub;refine wpAny_call (codeAny_of_tree (show wpAny _ _ (callAny (.type "set") _) _ _ _ from ?_));refine zY ⟨Code.quiet_builtin _ (by decide +kernel),codeAny_builtin PySem.F.entry_type_call ?_⟩;rw[Around.under_plain (weight_type_call_type "set" [.ref l] []) rfl];have h1:=PySem.F.called_set.notType;have h2:=PySem.F.called_set.canCreate;have vF:=PySem.F.typeCall_set_1 (.ref l);repeat (any_goals (first | assumption | wp_step))
 refine codeAny_mono (U0 (.ref l) (E:=E) (Q₁:=λobj s₁=>obj = .ref s.heap.objs.size/\s₁={ s with heap:=s.heap.push { cls:=.type "set", dict:=none,data:=.set #[] 0 (.fresh 0 0 (!(w.params.followText "set-order"))) } }) ⟨rfl,rfl⟩) λr s₁ hr=>?_;cases r with
 | error e=>exact hr
 | ok fl=>
   cases fl with
   | ret obj=>
     obtain⟨rfl,rfl⟩:=hr;have hS:(s.heap.push { cls:=.type "set", dict:=none,data:=.set #[] 0 (.fresh 0 0 (!(w.params.followText "set-order"))) }).get? s.heap.objs.size=some { cls:=.type "set", dict:=none,data:=.set #[] 0 (.fresh 0 0 (!(w.params.followText "set-order"))) }:=yZ _ rfl;have hT:Shared.TypeIs { s with heap:=s.heap.push { cls:=.type "set", dict:=none,data:=.set #[] 0 (.fresh 0 0 (!(w.params.followText "set-order"))) } } (.ref s.heap.objs.size) "set" := ⟨_,hS,rfl⟩
     have vG:=PySem.F.called_set.init.lookup;have vH:=PySem.F.called_set.init.bind (.ref s.heap.objs.size);repeat (any_goals (first | assumption | wp_step))
     refine codeAny_mono (codeAny_call_builtin (R:=wants (λr s₂=>r = .none/\∃h' tk ls,s₂={ s with heap:=h',toks:=tk }/\ls.Perm (FY ks)/\SetOn knd h' s.heap.objs.size ls/\(∀b o,s.heap.get? b=some o->h'.get? b=some o)) E) PySem.F.called_set.init.plain PySem.F.entry_set_init (check_set_init_1 hT ?_)) λr₂ s₂ rm=>?_
     . unfold Builtin.«set.__init__» noKeywords;have uR:SetOn knd (s.heap.push { cls:=.type "set", dict:=none,data:=.set #[] 0 (.fresh 0 0 (!(w.params.followText "set-order"))) }) s.heap.objs.size []:=⟨#[],0,_,⟨_,hS,rfl,rfl⟩,by rfl,gW w,(λe he=>by simp at he),by decide,.nil⟩
       have uS:(s.heap.push { cls:=.type "set", dict:=none,data:=.set #[] 0 (.fresh 0 0 (!(w.params.followText "set-order"))) }).IsList l vs.toArray\/(s.heap.push { cls:=.type "set", dict:=none,data:=.set #[] 0 (.fresh 0 0 (!(w.params.followText "set-order"))) }).IsTuple l vs.toArray:=hl.imp (·.push _) (·.push _);have bb:l < s.heap.objs.size:=by rcases hl with ⟨o,ho,_⟩ | ⟨o,ho,_⟩ <;> exact zM ho
       generalize hUF:a6W=UF
       wp_walk
       subst hUF;refine cR (knd:=knd) hh uS hk hz (a6K bb) (by rw[b4J];exact b6W _) uR λh' tk ls pl so kp=>?_;exact zY ⟨rfl,h',tk,ls,rfl,pl,so,λb o e=>kp b o (zC (zM e)) (zW _ e)⟩
     . cases r₂ with
       | error e=>exact rm
       | ok fl₂=>
         cases fl₂ with
         | ret r=>
           obtain⟨rfl,h',tk,ls,rfl,pl,so,kp⟩:=rm;repeat (any_goals (first | assumption | wp_step))
           exact h h' tk ls pl so kp
         | _=>exact rm.elim
   | _=>exact hr.elim
end
end L2
namespace L2
open PySem PySem.Spec PyProof.Rows
section
variable {prog:Program}{w:World}{K:Type}[DecidableEq K] {knd:KeyKind prog w K}{A:Around}{E:Value->Shared->Prop}{s:Shared}{a I l:Addr}
theorem U1 {ls:List K}{Q:List Value->Shared->Prop}(hh:A.handled=none) (so:SetOn knd s.heap a ls) (h:∀(h':Heap) (tk:Nat) (d:Drawn) (us:List Value) (ks:List K),(∀b o,s.heap.get? b=some o->h'.get? b=some o)->ks.Perm ls->IsKeys knd us ks->Q us { s with heap:=h',toks:=tk,drawn:=d }):wpAny (model prog w) A (collect (.ref a)) Q E s:=by
 obtain⟨es,ep,t,hs,hf,ht,nc,hz,hk⟩:=so;have jy:=hs;obtain⟨o,ho,hc,hd⟩:=jy;have bb:=zM ho;have ai:s.heap.objs.size≠a:=a6K bb;unfold collect;refine zZ (wpAny_runValue (codeAny_builtin PySem.F.entry_proto_collect ?_));rw[a9X PySem.F.plain_proto_collect _];refine(show wpAny _ A.in1 (newList [] >>= λl=>again (.builtin "list.__iadd__" ⟨[l,.ref a],[]⟩)) _ _ s from zZ (xM (zY ⟨plainId_quiet PySem.F.plain_list_iadd _,codeAny_builtin PySem.F.entry_list_iadd ?_⟩)));rw[a9X PySem.F.plain_list_iadd _];refine(show wpAny _ A.in1 (a7Z (.ref s.heap.objs.size) (.ref a) (.ref s.heap.objs.size)) _ _ _ from ?_);have uT:(s.heap.push { cls:=.type "list", data:=.seq ([]:List Value).toArray }).get? s.heap.objs.size=some { cls:=.type "list", data:=.seq #[] }:=yZ _ rfl;have kd:=hs.keep (h':=s.heap.push { cls:=.type "list", data:=.seq ([]:List Value).toArray }) λo e=>zW _ e;have same:Builtin.List.listSameRef (.ref s.heap.objs.size) (.ref a)=false:=by simp[Builtin.List.listSameRef,ai]
 unfold a7Z;refine zZ (wpAny_typeOf (T:= "set") (let ⟨o,ho,hc,_⟩:=kd;⟨o,ho,hc⟩) ?_);rw[if_neg (by rw[same];decide)];refine zZ (cO (A:=A.in1) hh kd hf ht (by lia) λI fp St ord h1 d uU kh k1 po W st=>?_);have hsz:(s.heap.push { cls:=.type "list", data:=.seq ([]:List Value).toArray }).objs.size=s.heap.objs.size+1:=b4J ..;have sL:s.heap.objs.size∉fp:=λhm=>by
   rcases kh _ hm with e | e;. exact ai e
   . exact absurd (zP (b6W _) (hsz▸e)) (yF _)
 have hT1:Shared.TypeIs { s with heap:=h1,drawn:=d } (.ref a) "set" := let ⟨o,ho,hc,_⟩:=kd.keep (h':=h1) λo e=>k1 a o e;⟨o,ho,hc⟩;have rn:=k1 _ _ uT;refine zZ (wpAny_holding (cP hT1 ?_));have key:∀{R:Result->Shared->Prop}(h2:Heap) (c:Nat),St 0 { s with heap:=h2,drawn:=d }->(∀b o,s.heap.get? b=some o->h2.get? b=some o)->h2.get? s.heap.objs.size=some { cls:=.type "list", data:=.seq #[] c } ->(∀(h3:Heap) (t3:Nat) (acc:Array Value) (c':Nat) (ks:List K),(∀b o,s.heap.get? b=some o->h3.get? b=some o)->ks.Perm ls->IsKeys knd acc.toList ks->h3.get? s.heap.objs.size=some { cls:=.type "list", dict:=none,data:=.seq acc c',slots:=#[] }->R (.ok (.ret (.ref s.heap.objs.size))) { s with heap:=h3,drawn:=d,toks:=t3 }) ->
     codeAny (model prog w) A (.builtin "list.extend.loop" ⟨[.ref s.heap.objs.size,.ref I,.ref s.heap.objs.size],[]⟩) R { s with heap:=h2,drawn:=d }:=λ{R} h2 c dr k2 hS hR=>by
   refine codeAny_extend_loopS W (by rw[sizeLine_eq];lia) _ sL _ es.size 0 _ #[] c rfl (xT _) dr hS (ItemsOf.nil _) λs' acc c' hm nj fu=>?_;obtain⟨h3,g3,d3,t3,o3⟩:=s';have eg:g3=s.gens:=hm.gens;have ed:d3=d:=hm.drawn;have eo:o3=s.os:=hm.os;subst eg;subst ed;subst eo;have hl:ord.length=es.size:=by rw[po.length_eq];simp
   have e:acc.toList=ord.map (·.2):=by
     refine a9W λi=>?_;rw[a4Q,zF];by_cases hi:i < es.size
     . have mz:i < acc.size:=by rw[fu.1];exact hi
       obtain⟨k,fz⟩:=fu.2 i _ (a2Z mz);rw[a2Z mz,fz];rfl
     . rw[b6K (by rw[fu.1];lia),a2J (by lia)];rfl
   obtain⟨ks,pk,ik⟩:=IsKeys.perm (po.map (·.2)) hk;refine hR h3 t3 acc c' ks (λb o eb=>hm.heap b o (λz=>?_) (k2 b o eb)) pk (by rw[e];exact ik) nj;rcases yX.mp z with z | z;. exact absurd (zM eb) (by rw[z];exact yF _)
   . exact absurd (zM eb) (by rw[List.mem_singleton.mp z];exact Nat.not_lt_of_le (zN (Nat.le_of_eq hsz.symm |> zN (a6V _)) uU))
 refine wpAny_ite_split (λ_=>?_) λ_=>zY ⟨plainId_quiet PySem.F.plain_extend_loop _,key h1 0 st (λb o e=>k1 b o (zW _ e)) rn λh3 t3 acc c' ks kk pk ik nj=>zZ (wpAny_load nj (zY (h h3 t3 d _ ks kk pk ik)))⟩;refine zZ (wpAny_rule (zZ (show wpAny _ _ (updateSeq s.heap.objs.size (·.push .none) >>= λ_=>updateSeq s.heap.objs.size (·.pop)) _ _ _ from ?_)));refine zZ (wpAny_updateSeq rn rfl ?_);have sM:=b2X (a4Z (·.push a5Q)) rn rfl;refine wpAny_updateSeq (hz:=by seq_fits) sM rfl ?_;have uV:=b2X (a4Z (·.pop)) sM rfl;refine zY ⟨plainId_quiet PySem.F.plain_extend_loop _,key _ _ (W.frame 0 _ _ _ st (zR _) λb hb o e=>?_) (λb o e=>?_) uV λh3 t3 acc c' ks kk pk ik nj=>zZ (wpAny_load nj (zY (h h3 t3 d _ ks kk pk ik)))⟩;. have hb2:b≠s.heap.objs.size:=λz=>sL (z▸hb);exact(yC _ _ (a3J hb2)).trans ((yC _ _ (a3J hb2)).trans e)
 . have hb2:b≠s.heap.objs.size:=zC (zM e);exact(yC _ _ (a3J hb2)).trans ((yC _ _ (a3J hb2)).trans (k1 b o (zW _ e)))
end
section
variable {X:Cx}
theorem YZ:bootBuiltins "set"=some (.type "set"):=by decide +kernel
theorem Inv.drew {pins:List (Addr×Obj)}{σ:St}{H:Hp}{s:Shared}(I:Inv X pins σ H s) (d:Drawn):Inv X pins σ H { s with drawn:=d }:=⟨I.ok,I.os,I.bare,I.base,I.loc,I.cell,I.free,I.freeC,I.pin,I.hok,I.len⟩
end
end L2
namespace DL
open PySem PySem.Spec L2
theorem U2 {ss:List Str}(h:∀s∈ss,K5 s):zH (.tuple (ss.map .str))=true:=by
 refine IT (NL λd hd=>?_) ?_;. obtain⟨s,hs,rfl⟩:=zL.mp hd;exact CL (h s hs)
 . have:a5X (ss.map .str)<=2:=LB λd hd=>by obtain⟨s,hs,rfl⟩:=zL.mp hd;simp[a2W]
   simp only[a2W];lia
end DL
namespace DL
open PySem PySem.Spec L2
theorem O2 {K:Frg}{ρ:List (Option DS)}{M:Own}{Q:DS->Own->Prop}(q:∀p,M p=none->Q (.loc p) (M.put p (.d (AI [])))):DE K aB ρ M Q:=λσ H QQ R k p hp=>by obtain⟨ro,qh⟩:=K4 (kvs:=[]) (ks:=[]) R.own hp (by unfold DKV;rfl);exact k _ _ (.loc p) _ ro (by unfold SI;rfl) qh (q p (R.own.none hp))
end DL
namespace DL
open PySem PySem.Spec L2
section
variable {M:Own}{Q:DS->Own->Prop}{ys:List Str}{w:List Th}{D:Deed}{p:Addr}{L:List Int}
def JC (x:Int):Nat:=97+(x % 26).toNat
def oW (u:Int):PyData->PyData
 | .int k=>.str ⟨#[JC (u/(1+5*k))]⟩
 | d=>d
def GO (u:Int):List Nat:=(a0Z 8).map λk:Nat=>JC (u/(1+5*(k:Int)))
theorem cS (v:Int):atI (a0Q "abcdefghijklmnopqrstuvwxyz").cps.toList (v % 26)=some (JC v):=by
 have h0:0<=v % 26:=a5W _ (by decide);have h1:v % 26 < 26:=a8X _ (by decide);unfold JC;generalize v % 26=m at h0 h1;obtain⟨n,rfl⟩:∃n:Nat,m=(n:Int):=⟨m.toNat,by lia⟩
 have hn:n < 26:=by lia
 rw[a5K];refine AA ?_;have key:∀n:Fin 26,(a0Q "abcdefghijklmnopqrstuvwxyz").cps.toList[n.1]?=some (97+n.1):=by decide +kernel
 exact key ⟨n,hn⟩
theorem U3 (x:Int):NI (JC x)=true:=by have h0:0<=x % 26:=a5W _ (by decide);have h1:x % 26 < 26:=a8X _ (by decide);unfold NI JC;rw[a1Z,decide_eq_true_iff,decide_eq_true_iff];lia
def z18 (u:Int):Str:=⟨(GO u).toArray⟩
theorem cT (u:Int):(z18 u).cps.toList=GO u:=rfl
theorem O3 (u:Int):(z18 u).length=8:=rfl
theorem JP (u:Int):(GO u).length=8:=rfl
def FZ (u x:Int) (k:Nat):Str:=if x/8 % 2=0 then (⟨#[JC (x/16+(k:Int))]⟩:Str)++a8K (z18 u) none (some (x/16 % 8)) else a8K (z18 u) none (some (1+(x+(k:Int)) % 8))
theorem j7 (u:Int) {m:Int}(h0:0<=m):(a8K (z18 u) none (some m)).cps.toList=(GO u).take m.toNat:=by
 obtain⟨n,rfl⟩:∃n:Nat,m=(n:Int):=⟨m.toNat,by lia⟩
 rw[VJ,cT,a5K]
theorem LI (u x:Int) (k:Nat):(FZ u x k).cps.toList=if x/8 % 2=0 then JC (x/16+(k:Int))::(GO u).take (x/16 % 8).toNat else (GO u).take (1+(x+(k:Int)) % 8).toNat:=by
 unfold FZ;split;. rw[P3,j7 u (a5W _ (by decide))];rfl
 . have:=a5W (x+(k:Int)) (b:=8) (by decide);rw[j7 u (by lia)]
theorem Z0 (u x:Int) (k:Nat):K5 (FZ u x k):=by
 have hw:∀c∈GO u,NI c=true:=λc hc=>by obtain⟨j,_,rfl⟩:=zL.mp hc;exact U3 _
 have e:=LI u x k;have l8:=JP u;refine bT (λc hc=>?_) ?_ ?_
 . rw[e] at hc;split at hc
   . rcases yX.mp hc with rfl | hc;. exact U3 _
     . exact hw c (List.mem_of_mem_take hc)
   . exact hw c (List.mem_of_mem_take hc)
 . rw[e];split;. simp
   . rw[a0V];have:=a5W (x+(k:Int)) (b:=8) (by decide);lia
 . rw[e];split;. rw[yR,a0V];have:=a8X (x/16) (b:=8) (by decide);lia
   . rw[a0V];lia
theorem cU {u x:Int}{j k:Nat}(hj:j < 8) (hk:k < 8) (h:FZ u x j=FZ u x k):j=k:=by
 have e:(FZ u x j).cps.toList=(FZ u x k).cps.toList:=by rw[h]
 rw[LI,LI] at e;split at e;. have e1:=(List.cons.inj e).1;unfold JC at e1;lia
 . have e1:=congrArg List.length e;rw[a0V,a0V,JP] at e1;lia
theorem hU (u x:Int) {n:Nat}(hn:n<=6):AK ((a0Z n).map (FZ u x)):=by
 refine⟨λz hz=>?_,?_,by rw[zX,xZ];lia⟩;. obtain⟨k,_,rfl⟩:=zL.mp hz;exact Z0 u x k
 . unfold List.Nodup;rw[a9Z];refine List.pairwise_iff_getElem.mpr λi j hi hj au e=>?_;rw[xZ] at hi hj;rw[List.getElem_range,List.getElem_range] at e;have:=cU (by lia) (by lia) e;lia
theorem cV {w:List Th}{k:Nat}{t:Th}(iz:(w.map (·.1)).Nodup) (h:w[k]?=some t):BK (w.take k) t.1 t.2.1 t.2.2=w.take (k+1):=by
 unfold BK;rw[if_neg λq=>?_,a1Q,h];. rfl
 . obtain⟨s,hs,e⟩:=List.any_eq_true.mp q;have e:=of_decide_eq_true e;obtain⟨i,hi,rfl⟩:=List.mem_iff_getElem.mp hs;rw[a0V] at hi;rw[List.getElem_take] at e;obtain⟨hk,rfl⟩:=yT.mp h;have h2:=List.pairwise_iff_getElem.mp iz i k (by rw[zX];lia) (by rw[zX];exact hk) (by lia);rw[b6J,b6J] at h2;exact h2 e
def inT (ns:List Str):PyData->PyData | .str z=>.bool (decide (z∈ns)) | d=>d
theorem G0 (ns l:List Str):(l.map a0J).map (inT ns)=(l.map λz=>decide (z∈ns)).map .bool:=by rw[zD,zD];rfl
theorem QJ {ts:List Th}{x:Str}{p c:Int}:(BK ts x p c).length<=ts.length+1:=by
 unfold BK;split;. rw[zX];lia
 . rw[yY];exact zR _
theorem U4 {ts:List Th}{x n:Str}{p c:Int}(h:n≠x):AE (BK ts x p c) n=AE ts n:=by rw[DU,if_neg h]
theorem cW {a b:List Th}(h:tsO a=tsO b):a=b:=by
 have h1:AI (tsD a)=AI (tsD b):=MO.d.inj h;clear h;induction a generalizing b with
 | nil=>cases b with | nil=>rfl | cons _ _=>cases h1
 | cons x r ih=>cases b with
   | nil=>cases h1
   | cons y s=> simp only[AI,tsD,pcD,zI,List.cons.injEq,Prod.mk.injEq,PyData.str.injEq,PyData.tuple.injEq,PyData.int.injEq,and_true] at h1;rw[ih (b:=s) (by simpa [AI,tsD,pcD] using h1.2)];obtain⟨⟨e1,e2,e3⟩,_⟩:=h1;obtain⟨x1,x2,x3⟩:=x;obtain⟨y1,y2,y3⟩:=y;simp only at e1 e2 e3;rw[e1,e2,e3]
theorem oX (ns:List Str) (D:Deed):decide (AY ns D=none)=((D.must.map λz=>decide (z∈ns)).all id&&!((D.made.toList.map λz=>decide (z∈ns)).any id)):=by
 rw[a2Q,decide_eq_true_iff,a1Z,b0K,Bool.not_eq_true',b5X];constructor
 . intro h;have h:=FC h;refine⟨λb hb=>?_,λb hb=>?_⟩;. obtain⟨z,hz,rfl⟩:=zL.mp hb;obtain⟨h1,h2⟩:=yL.mp hz;exact decide_eq_true ((h z h1).mpr (of_decide_eq_true h2))
   . obtain⟨z,hz,rfl⟩:=zL.mp hb;have hm:D.made=some z:=by simpa using hz
     have hn:z∈D.names:=by cases D <;> simp_all [Deed.made,Deed.names]
     have:=(h z hn)
     simp only[id,decide_eq_true_eq];exact λq=>this.mp q hm
 . rintro⟨h1,h2⟩;refine TR λn hn=>⟨λq hm=>?_,λhm=>?_⟩
   . exact h2 _ (zL.mpr ⟨n,by simpa using hm,rfl⟩) (decide_eq_true q)
   . exact of_decide_eq_true (h1 _ (zL.mpr ⟨n,yL.mpr ⟨hn,decide_eq_true hm⟩,rfl⟩))
def stT (ns:List Str):PyData->Bool | .str z=>decide (z∈ns) | _=>false
def frT (ns:List Str) (d:PyData):Bool:=!stT ns d
theorem cX (ns l:List Str):((l.map a0J).filter (stT ns)).map id=(l.filter λz=>decide (z∈ns)).map .str:=by rw[a8J,xU];rfl
theorem O4 (ns l:List Str):((l.map a0J).filter (frT ns)).map id=(l.filter λz=>!decide (z∈ns)).map .str:=by rw[a8J,xU];rfl
theorem U5 (l:List Str):a4W (.list (l.map a0J)) (.list [])=l.isEmpty:=by
 cases l with
 | nil=>rfl
 | cons a r=>simp[a4W,PyData.eqvAll]
theorem U6 {α:Type}{l:List α}(h:l.isEmpty=false):l≠[]:=by rintro rfl;cases h
def okX (L:List Int):Prop:=∀x∈L,0<=x/\x < 1000000000
def KF:FSp:=⟨λxs M=>∃(ns:List Int) (k:Nat),xs=[.d (.list (ns.map .int)),.d (.int k)],λxs M y M'=>M'=M/\∃c:Int,y = .d (.int c)⟩
theorem U7 {ns:List Int}{k:Nat}(q:∀c:Int,Q (.d (.int c)) M):[DS.d (.list (ns.map .int)),.d (.int k)].length=2/\KF.pre [.d (.list (ns.map .int)),.d (.int k)] M/\∀x M',KF.post [.d (.list (ns.map .int)),.d (.int k)] M x M'->Q x M':=⟨rfl,⟨ns,k,rfl⟩,λx M' h=>by obtain⟨rfl,c,rfl⟩:=h;exact q c⟩
def FE:FSp:=⟨λxs M=>∃(c:Int) (n:Nat),xs=[.d (.int c),.d (.int n)]/\n<=200,λxs M y M'=>∀(c:Int) (n:Nat),xs=[.d (.int c),.d (.int n)]->M'=M/\∃L:List Int,y = .d (.list (L.map .int))/\L.length=n/\okX L⟩
theorem RQ {c:Int}{n:Nat}(hn:n<=200) (q:∀L:List Int,L.length=n->okX L->Q (.d (.list (L.map .int))) M):[DS.d (.int c),.d (.int n)].length=2/\FE.pre [.d (.int c),.d (.int n)] M/\∀x M',FE.post [.d (.int c),.d (.int n)] M x M'->Q x M':=⟨rfl,⟨c,n,rfl,hn⟩,λx M' h=>by obtain⟨rfl,L,rfl,h1,h2⟩:=h c n rfl;exact q L h1 h2⟩
def nxX (L:List Int) (a n:Nat):List DS:=[.d (.list (L.map .int)),.d (.int a),.d (.int n)]
def IX:FSp:=⟨λxs M=>∃(L:List Int) (a n:Nat),xs=nxX L a n/\okX L/\a+1 < L.length/\n<=6/\L.length<=200,λxs M y M'=>∀(L:List Int) (a n:Nat),xs=nxX L a n->M'=M/\∃ys,y = .d (C6 ys)/\AK ys/\ys.length=n⟩
theorem RR {a n:Nat}(h:okX L) (ha:a+1 < L.length) (hn:n<=6) (hl:L.length<=200) (q:∀ys,AK ys->ys.length=n->Q (.d (C6 ys)) M):(nxX L a n).length=3/\IX.pre (nxX L a n) M/\∀x M',IX.post (nxX L a n) M x M'->Q x M':=⟨rfl,⟨L,a,n,rfl,h,ha,hn,hl⟩,λx M' hh=>by obtain⟨rfl,ys,rfl,h1,h2⟩:=hh L a n rfl;exact q ys h1 h2⟩
def G1:FSp:=⟨λxs M=>∃x:Int,xs=[.d (.int x)]/\0<=x/\x < 1000000000,λxs M y M'=>M'=M/\∃v:Int,y = .d (.int v)/\0<=v/\v<=999⟩
theorem KG {x:Int}(h:0<=x/\x < 1000000000) (q:∀v:Int,0<=v->v<=999->Q (.d (.int v)) M):[DS.d (.int x)].length=1/\G1.pre [.d (.int x)] M/\∀y M',G1.post [.d (.int x)] M y M'->Q y M':=⟨rfl,⟨x,rfl,h⟩,λy M' hh=>by obtain⟨rfl,v,rfl,h1,h2⟩:=hh;exact q v h1 h2⟩
def EQ:FSp:=⟨λxs M=>∃x:Int,xs=[.d (.int x)]/\0<=x/\x < 1000000000,λxs M y M'=>M'=M/\∃v:Int,y = .d (.int v)/\-1000000000000<=v/\v<=1000000000000⟩
theorem JD {x:Int}(h:0<=x/\x < 1000000000) (q:∀v:Int,-1000000000000<=v->v<=1000000000000->Q (.d (.int v)) M):[DS.d (.int x)].length=1/\EQ.pre [.d (.int x)] M/\∀y M',EQ.post [.d (.int x)] M y M'->Q y M':=⟨rfl,⟨x,rfl,h⟩,λy M' hh=>by obtain⟨rfl,v,rfl,h1,h2⟩:=hh;exact q v h1 h2⟩
def KH:FSp:=⟨λxs M=>∃(ys:List Str) (x:Int),xs=[.d (C6 ys),.d (.int x)]/\ys≠[]/\ys.length<=60,λxs M y M'=>∀(ys:List Str) (x:Int),xs=[.d (C6 ys),.d (.int x)]->M'=M/\∃z,y = .d (.str z)/\z∈ys⟩
theorem BB {x:Int}(h:ys≠[]) (hl:ys.length<=60) (q:∀z∈ys,Q (.d (.str z)) M):[DS.d (C6 ys),.d (.int x)].length=2/\KH.pre [.d (C6 ys),.d (.int x)] M/\∀y M',KH.post [.d (C6 ys),.d (.int x)] M y M'->Q y M':=⟨rfl,⟨ys,x,rfl,h,hl⟩,λy M' hh=>by obtain⟨rfl,z,rfl,h1⟩:=hh ys x rfl;exact q z h1⟩
def O5 (L:List Int) (a:Nat) (ys:List Str):List DS:=[.d (.list (L.map .int)),.d (.int a),.d (C6 ys)]
def XH (ys:List Str) (w:List Th):Prop:=oP w/\∀t∈w,t.1∈ys
def IY:FSp:=⟨λxs M=>∃(L:List Int) (a:Nat) (ys:List Str),xs=O5 L a ys/\okX L/\a+ys.length < L.length/\L.length<=200/\AK ys/\ys.length<=6,λxs M y M'=>∀(L:List Int) (a:Nat) (ys:List Str),xs=O5 L a ys->M'=M/\∃w,y = .d (wD w)/\XH ys w⟩
theorem KI {a:Nat}(h:okX L) (ha:a+ys.length < L.length) (hl:L.length<=200) (hn:AK ys) (h6:ys.length<=6) (q:∀w,XH ys w->Q (.d (wD w)) M):(O5 L a ys).length=3/\IY.pre (O5 L a ys) M/\∀x M',IY.post (O5 L a ys) M x M'->Q x M':=⟨rfl,⟨L,a,ys,rfl,h,ha,hl,hn,h6⟩,λx M' hh=>by obtain⟨rfl,w,rfl,h1⟩:=hh L a ys rfl;exact q w h1⟩
structure There (ys:List Str) (w:List Th):Prop where
 nd:(w.map (·.1)).Nodup
 sub:∀t∈w,t.1∈ys
def IZ:FSp:=⟨λxs M=>∃w:List Th,xs=[.d (wD w)]/\(w.map (·.1)).Nodup/\w.length < 60,λxs M y M'=>∀w:List Th,xs=[.d (wD w)]->∃p,M p=none/\y = .loc p/\M'=M.put p (tsO w)⟩
theorem KJ (h:(w.map (·.1)).Nodup) (hl:w.length < 60) (q:∀p,M p=none->Q (.loc p) (M.put p (tsO w))):[DS.d (wD w)].length=1/\IZ.pre [.d (wD w)] M/\∀x M',IZ.post [.d (wD w)] M x M'->Q x M':=⟨rfl,⟨w,rfl,h,hl⟩,λx M' hh=>by obtain⟨p,h1,rfl,rfl⟩:=hh w rfl;exact q p h1⟩
def IA:FSp:=⟨λxs M=>∃D:Deed,xs=[.d D.d]/\D.real,λxs M y M'=>∀D:Deed,xs=[.d D.d]->y = .d (C6 D.made.toList)/\M'=M⟩
theorem U8 (h:D.real) (q:Q (.d (C6 D.made.toList)) M):[DS.d D.d].length=1/\IA.pre [.d D.d] M/\∀x M',IA.post [.d D.d] M x M'->Q x M':=⟨rfl,⟨D,rfl,h⟩,λx M' hh=>by obtain⟨rfl,rfl⟩:=hh D rfl;exact q⟩
def ddX (L:List Int) (a:Nat) (ys:List Str) (p:Addr):List DS:=[.d (.list (L.map .int)),.d (.int a),.d (C6 ys),.loc p]
def AZ (ys:List Str) (D:Deed):Prop:=D.real/\∀x∈D.names,x∈ys
def IB:FSp:=⟨λxs M=>∃(L:List Int) (a:Nat) (ys:List Str) (p:Addr) (w:List Th),xs=ddX L a ys p/\okX L/\a+4 < L.length/\L.length<=200/\AK ys/\2<=ys.length/\ys.length<=6/\M p=some (tsO w),λxs M y M'=>∀(L:List Int) (a:Nat) (ys:List Str) (p:Addr),xs=ddX L a ys p->M'=M/\∃D:Deed,y = .d D.d/\AZ ys D⟩
theorem U9 {a:Nat}(h:okX L) (ha:a+4 < L.length) (hl:L.length<=200) (hn:AK ys) (h2:2<=ys.length) (h6:ys.length<=6) (m:M p=some (tsO w)) (q:∀D:Deed,AZ ys D->Q (.d D.d) M):(ddX L a ys p).length=4/\IB.pre (ddX L a ys p) M/\∀x M',IB.post (ddX L a ys p) M x M'->Q x M':=⟨rfl,⟨L,a,ys,p,w,rfl,h,ha,hl,hn,h2,h6,m⟩,λx M' hh=>by obtain⟨rfl,D,rfl,h1⟩:=hh L a ys p rfl;exact q D h1⟩
def rwX (L:List Int) (a n:Nat) (ys:List Str) (p:Addr):List DS:=[.d (.list (L.map .int)),.d (.int a),.d (.int n),.d (C6 ys),.loc p]
def N0:FSp:=⟨λxs M=>∃(L:List Int) (a n:Nat) (ys:List Str) (p:Addr) (w:List Th),xs=rwX L a n ys p/\okX L/\a+5*n<=L.length/\L.length<=200/\n<=12/\AK ys/\2<=ys.length/\ys.length<=6/\M p=some (tsO w)/\There ys w,λxs M y M'=>∀(L:List Int) (a n:Nat) (ys:List Str) (p:Addr),xs=rwX L a n ys p->M'=M/\∃Ds:List Deed,y = .d (.tuple (Ds.map Deed.d))/\Ds.length<=n/\∀D∈Ds,AZ ys D⟩
theorem W8 {a n:Nat}(h:okX L) (ha:a+5*n<=L.length) (hl:L.length<=200) (nk:n<=12) (hn:AK ys) (h2:2<=ys.length) (h6:ys.length<=6) (m:M p=some (tsO w)) (ht:There ys w) (q:∀Ds:List Deed,Ds.length<=n->(∀D∈Ds,AZ ys D)->Q (.d (.tuple (Ds.map Deed.d))) M):(rwX L a n ys p).length=5/\N0.pre (rwX L a n ys p) M/\∀x M',N0.post (rwX L a n ys p) M x M'->Q x M':=⟨rfl,⟨L,a,n,ys,p,w,rfl,h,ha,hl,nk,hn,h2,h6,m,ht⟩,λx M' hh=>by obtain⟨rfl,Ds,rfl,h1,h3⟩:=hh L a n ys p rfl;exact q Ds h1 h3⟩
theorem hW {ys:List Str}(hn:AK ys) {pl num:Int}(p0:0<=pl) (p1:pl<=999) {z:Str}(hz:z∈ys):AZ ys (.put z pl num)/\AZ ys (.take z)/\AZ ys (.move z pl)/\AZ ys (.count z num):=by
 have uW:=hn.1 z hz;have one:∀{D:Deed},D.names=[z]->D.ok/\∀x∈D.names,x∈ys:=λ{D} e=>by
   refine⟨λx hx=>?_,λx hx=>?_⟩;. rw[e] at hx;rw[List.mem_singleton.mp hx];exact uW
   . rw[e] at hx;rw[List.mem_singleton.mp hx];exact hz
 exact⟨⟨⟨(one rfl).1,trivial,p0,p1⟩,(one rfl).2⟩,⟨⟨(one rfl).1,trivial,trivial⟩,(one rfl).2⟩,⟨⟨(one rfl).1,trivial,p0,p1⟩,(one rfl).2⟩,⟨⟨(one rfl).1,trivial,trivial⟩,(one rfl).2⟩⟩
theorem i0 {ys:List Str}(hn:AK ys) {pl num:Int}(p0:0<=pl) (p1:pl<=999) {o y:Str}(ho:o∈ys) (hy:y∈ys) (ai:y≠o):AZ ys (.name o y)/\AZ ys (.split o y pl num)/\AZ ys (.join o y):=by
 have two:∀{D:Deed},D.names=[o,y]->D.ok/\∀x∈D.names,x∈ys:=λ{D} e=>by
   have h:∀x∈D.names,x∈ys:=λx hx=>by
     rw[e] at hx;rcases yX.mp hx with q | q;. rw[q];exact ho
     . rw[List.mem_singleton.mp q];exact hy
   exact⟨λx hx=>hn.1 x (h x hx),h⟩
 exact⟨⟨⟨(two rfl).1,a3J ai,trivial⟩,(two rfl).2⟩,⟨⟨(two rfl).1,a3J ai,p0,p1⟩,(two rfl).2⟩,⟨⟨(two rfl).1,a3J ai,trivial⟩,(two rfl).2⟩⟩
theorem RS {ys:List Str}(hn:AK ys) (h2:2<=ys.length) (o:Str):(ys.filter λz=>!decide (z=o))≠[]:=by
 intro h;have all:∀z∈ys,z=o:=λz hz=>by have:=List.filter_eq_nil_iff.mp h z hz;simpa using this
 match ys,h2,hn,all with
 | a::b::r,_,hn,all=> have e:=(all a (by simp)).trans (all b (by simp)).symm;have:=hn.2.1;rw[xV] at this;exact this.1 (by rw[e];simp)
def neT (o:Str):PyData->Bool | .str z=>!decide (z=o) | _=>false
theorem O6 (o:Str) (l:List Str):((l.map a0J).filter (neT o)).map id=(l.filter λz=>!decide (z=o)).map .str:=by rw[a8J,xU];rfl
theorem KK {M:Own}{a:Addr}{o:MO}:(M.put a o).del a=M.del a:=by funext b;unfold Own.del Own.put;by_cases h:b=a <;> simp[h]
theorem mD {M:Own}{a b:Addr}(h:b≠a):(M.del a) b=M b:=by unfold Own.del;rw[if_neg h]
theorem cY {M N:Own}{a:Addr}(h:M.Sub N) (n:N a=none):M a=none:=by
 cases e:M a with
 | none=>rfl
 | some o=>have:=h a o e;rw[n] at this;cases this
theorem O7 {ys:List Str}{w:List Th}{D:Deed}(h:There ys w) (hg:goD w D) (hD:∀x∈D.names,x∈ys):There ys (doT w D):=by
 obtain⟨nd,hl⟩:=m4 hg;refine⟨nd,λt ht=>?_⟩;have h1:t.1∈(doT w D).map (·.1):=zL.mpr ⟨t,ht,rfl⟩;rw[QE hg.2.1 hg.2.2] at h1;have hw:∀z∈w.map (·.1),z∈ys:=λz hz=>by obtain⟨s,hs,rfl⟩:=zL.mp hz;exact h.sub s hs
 cases D with
 | put x p k=>rcases yW.mp h1 with q | q;exact hw _ q;exact hD _ (by simpa [Deed.names] using q)
 | take x=>exact hw _ (yL.mp h1).1
 | move x p=>exact hw _ h1
 | count x k=>exact hw _ h1
 | name x y=>rcases yW.mp h1 with q | q;exact hw _ (yL.mp q).1;exact hD _ (by rw[List.mem_singleton.mp q];simp[Deed.names])
 | split x y p k=>rcases yW.mp h1 with q | q;exact hw _ q;exact hD _ (by rw[List.mem_singleton.mp q];simp[Deed.names])
 | join x y=>exact hw _ (yL.mp h1).1
theorem RT:∀{l ys:List Str},l.Nodup->(∀z∈l,z∈ys)->l.length<=ys.length
 | [],_,_,_=>xT _
 | a::r,ys,hn,hs=>by rw[xV] at hn;have ha:=hs a (by simp);have:=RT (l:=r) (ys:=ys.erase a) hn.2 λz hz=>(List.mem_erase_of_ne (by rintro rfl;exact hn.1 hz)).mpr (hs z (yV _ hz));rw[List.length_erase_of_mem ha] at this;have:=List.length_pos_of_mem ha;rw[yR];lia
theorem There.few {ys:List Str}{w:List Th}(h:There ys w):w.length<=ys.length:=by
 have:=RT h.nd λz hz=>by obtain⟨t,h1,rfl⟩:=zL.mp hz;exact h.sub t h1
 rw[zX] at this;exact this
end
end DL
namespace L2
open PySem PySem.Spec PyProof.Rows
def W9:List V->Hp->VK->Prop:=λxs H Q=>∃(p:Addr) (kvs:List (Key×V)),xs=[.ref p]/\Rd H p (.dK kvs)/\∀q:Addr,H q=none->Q (.ref q) (upd H q (.dK kvs))
theorem WA {X:Cx}:BO X (.type "dict") W9:=by intro pins s σ H xs us Q I r h;obtain⟨p,kvs,rfl,hp,q⟩:=h;obtain⟨u,rfl,ru⟩:=FR r;cases ru;obtain⟨hz,uX,vs,rel,hd⟩:=FU I.hok hp;have ab:vs.length=kvs.length:=(Paired.length rel).symm;refine kt_call_dict uX hd (by rw[ab];exact hz) λh' jr sb=>?_;have hn:H s.heap.objs.size=none:=I.hok.fresh (zR _);have keep:∀b o,s.heap.get? b=some o->h'.get? b=some o:=λb o e=>sb.extBut b o (zC (zM e)) (zW _ e);refine⟨.ref s.heap.objs.size,_,I.laid (t':=s.toks) (o:=.dK kvs) keep (zR _) ?_,rfl,q _ hn⟩;exact N9 hz (beq_eq_false_iff_ne.mpr (a3J (zC I.big))) rel jr
end L2
namespace DL
open PySem PySem.Spec L2
section
variable {X:Cx}{K:Frg}
theorem mE (h:X.K=K):BO X (.type "dict") W9:=WA
end
section
variable {K:Frg}{M:Own}{ρ:List (Option DS)}{td ty:TE}{Q:DS->Own->Prop}
theorem UA (h:DE K ty ρ M λy M1=>DE K td ρ M1 λx M2=>∃(a:Addr) (ts:List (Str×PyData)) (k:Str),x = .loc a/\y = .d (.str k)/\M2 a=some (.d (AI ts))/\Q (.d (.bool (!(BZ ts k).isSome))) M2):DE K (WU ty td) ρ M Q:=λσ H QQ R kk=>
 h σ H _ R λv H1 x M1 o1 s1 t1 h1=>h1 σ H1 _ (R.step o1 t1) λu H2 y M2 o2 s2 t2 h2=>by
   obtain⟨a,ts,k,rfl,rfl,m,q⟩:=h2;unfold SI at s2;subst s2;rw[BV s1];obtain⟨ks,e1,e2⟩:=o2 a _ m;refine⟨a,HP ks (a1K k),rfl,.inl ⟨ks,a1K k,.inl e1,rfl,rfl⟩,kk _ H2 _ M2 o2 ?_ (t1.trans t2) q⟩;rcases CU (k:=k) e2 with ⟨d',w',a1,a2,a3⟩ | ⟨a1,a2⟩
   . rw[a1,a2];exact AL
   . rw[a1,a2];exact AL
theorem Z1 {dw:List (TE×TE)}(h:∀p,M p=none->DPs K dw ρ (M.put p (.d [])) λbz M1=>M1 p=some (.d [])/\bz.length<=15/\(bz.map (·.1)).Nodup/\Q (.loc p) (M1.put p (.d (AI bz)))):DE K (iX dw) ρ M Q:=λσ H QQ R k p hp=>by
 have uY:=R.own.none hp;obtain⟨ro,qh⟩:=K4 (kvs:=[]) (ks:=[]) R.own hp (by unfold DKV;rfl);refine h p uY σ _ _ (R.step ro qh) λps H2 bz M2 o2 ⟨vs,hd,e⟩ t2 h2=>?_;obtain⟨hm,hl,nd,q⟩:=h2;obtain⟨ks,q1,q2⟩:=o2 p _ hm;unfold DKV at q2;subst q2;have ab:vs.length=bz.length:=by rw[hd.length,zX]
 refine⟨q1,(bz.map λk=>(a1K k.1:Key)).zip vs,?_,by rw[List.length_zip,zX];lia,?_⟩;. rw[e];exact T8 bz vs ab
 . have hk:(((bz.map λk=>(a1K k.1:Key)).zip vs).map (·.1)).Nodup:=by
     rw[List.map_fst_zip (by rw[zX,ab];exact zR _)];have:bz.map (λk=>(a1K k.1:Key))=(bz.map (·.1)).map a1K:=by rw[zD];rfl
     rw[this];unfold List.Nodup;rw[a9Z];exact nd.imp λ{a b} q e=>q (by injection e)
   rw[M8 _ [] (by simpa using hk),List.nil_append];obtain⟨o3,t3⟩:=GK (kvs:=AI bz) (ks:=(bz.map λk:Str×PyData=>(a1K k.1:Key)).zip vs) o2 hm (show DKV K H2 M2.W (AI bz) _ from bW hd);exact k _ _ (.loc p) _ o3 rfl ((qh.trans t2).trans t3) q
end
end DL
namespace L2
open PySem PySem.Spec PyProof.Rows
section
variable {prog:Program}{w:World}{A:Around}{E:Value->Shared->Prop}{s:Shared}
theorem RU {l:Addr}{vs:List Value}{ss:List Str}{Q:Value->Shared->Prop}(hl:s.heap.IsTuple l vs.toArray) (hS:StrsAre vs ss) (bc:vs.length < 64) (h:∀(out:Array Value) (ak:List Str),StrsAre out.toList ak->ak.Perm ss->sortedS ak=true->Q (.ref (s.heap.objs.size+1)) { s with heap:=sortedAll s.heap vs out }) :
   wpAny (model prog w) A (call (.builtin "sorted") [.ref l]) Q E s:=by
 refine b0Z kind_sorted plain_sorted entry_sorted (args_sorted1 _) ?_;unfold Builtin.«sorted»;refine zZ (m:=checkCount "sorted" 1 1 _) (zY ?_);refine zZ (M9 (.inr hl) ?_ (by rw[sizeLine_eq];lia));refine zZ (wpAny_newList ?_ (by rw[sizeLine_eq];lia));have hsz:((s.heap.push (seqObj "list" #[] 0)).update s.heap.objs.size (a4Z (·++vs.toArray))).objs.size=s.heap.objs.size+1:=by rw[Heap.size_update,size_push']
 have d_:(((s.heap.push (seqObj "list" #[] 0)).update s.heap.objs.size (a4Z (·++vs.toArray))).push (seqObj "list" vs.toArray 0)).get? (s.heap.objs.size+1)=some (seqObj "list" vs.toArray 0):=by rw[<-hsz];exact yZ _ rfl
 show wpAny _ _ _ _ _ { s with heap:=((s.heap.push (seqObj "list" #[] 0)).update s.heap.objs.size (a4Z (·++vs.toArray))).push (seqObj "list" vs.toArray 0) };rw[hsz];refine zZ (wpAny_holding (wpAny_call_entry slot_list_sort ⟨_,d_,rfl⟩ entry_list_sort (list_sort_treeK strKind_oneLt d_ hS.keysOf (λv₁ v₂ rest e=>keyKind_strs (by rw[<-e];exact hS)) bc λci a1 a2=>⟨_,rfl,?_⟩) (args_list_sort _)));obtain⟨ak,h1,h2,h3⟩:=sorted_out_str hS a1 a2;exact zY ⟨_,rfl,h _ ak h1 h2 h3⟩
end
section
variable {X:Cx}
def RV (K:Frg):List V->Hp->VK->Prop:=λxs H Q=>∃(p:Addr) (ss:List Str),xs=[.ref p]/\SqT K H p (ss.map V.str)/\ss.length < 64/\∀(ak:List Str) (q:Addr),ak.Perm ss->sortedS ak=true->H q=none->Q (.ref q) (upd H q (.lst (ak.map V.str)))
theorem UB:BO X (.builtin "sorted") (RV X.K):=by intro pins s σ H xs us Q I r h;obtain⟨p,ss,rfl,hp,bc,q⟩:=h;obtain⟨u,rfl,ru⟩:=FR r;cases ru;obtain⟨aa,rv,pl,hz⟩:=I.tuple hp;have hS:=K1 rv;have el:=rv.length;rw[zX] at el;refine RU pl hS (by lia) λout ak h1 h2 h3=>?_;obtain⟨e,he⟩:=sortedAll_at s.heap aa out;have hn:H (s.heap.objs.size+1)=none:=I.hok.fresh (a6V _);have ab:=h2.length_eq;refine⟨.ref (s.heap.objs.size+1),_,I.laid (t':=s.toks) (o:=.lst (ak.map V.str)) (λb o eb=>sortedAll_old eb) (a6V _) ?_,rfl,q ak _ h2 h3 hn⟩;refine⟨by rw[zX,ab];exact zN (xR bc) (by decide),out.toList,e,T0 h1,?_⟩;have ji:=he;simpa [seqObj] using ji
end
end L2
namespace DL
open PySem PySem.Spec L2
section
variable {X:Cx}{K:Frg}
theorem XJ (h:X.K=K):BO X (.builtin "sorted") (RV K):=h▸UB
end
section
variable {K:Frg}{M:Own}{Q:DS->Own->Prop}
theorem G2 {ss:List Str}(bc:ss.length < 64) (q:∀ak:List Str,ak.Perm ss->xG ak=true->Q (.d (.list (ak.map .str))) M):DR K (RV K) [.d (.tuple (ss.map .str))] M Q:=λH vs QQ oa s k=>by obtain⟨v,r,rfl,h1,h2⟩:=s;cases h2;unfold SI DV at h1;obtain⟨a,vs,rfl,hl,hd⟩:=h1;rw[EH hd] at hl;refine⟨a,ss,rfl,hl.sq,bc,λak p hp hs hn=>?_⟩;have g:Grow K M.W M.W H (upd H p (.lst (ak.map V.str))):=BI _ hn;refine k _ _ (.d (.list (ak.map .str))) M (oa.new hn) ?_ ⟨g⟩ (q ak hp hs);unfold SI DV;exact⟨p,_,rfl,.inl ⟨λw=>w (oa.none hn),.inl AN⟩,F9⟩
end
end DL
namespace DL
open PySem PySem.Spec L2
def WB (a:Str):List Str->List Str
 | []=>[a]
 | b::r=>if sl b a then b::WB a r else a::b::r
def BF:List Str->List Str
 | []=>[]
 | a::r=>WB a (BF r)
theorem LJ (a:Str):∀l:List Str,(WB a l).Perm (a::l)
 | []=>.refl _
 | b::r=>by
   unfold WB;split;. exact((LJ a r).cons b).trans (List.Perm.swap a b r)
   . exact .refl _
theorem AO:∀l:List Str,(BF l).Perm l
 | []=>.refl _
 | a::r=>(LJ a (BF r)).trans ((AO r).cons a)
abbrev Pl:=Sum Int Str
abbrev Ent:=Pl×List Str×Int
def plE:Pl->PyData | .inl p=>.int p | .inr n=>.str n
def AJ (l:List Str):PyData:=.tuple (l.map .str)
def C9 (e:Ent):PyData:=.tuple [plE e.1,AJ e.2.1,.int e.2.2]
def lfE (t:Str×Ent):PyData:=.tuple [.str t.1,plE t.2.1,AJ t.2.2.1,.int t.2.2.2]
structure Eff where
 st:List Str
 fr:List Str
 lf:List (Str×Ent)
def Eff.d (E:Eff):PyData:=.tuple [AJ E.st,AJ E.fr,.tuple (E.lf.map lfE)]
def efO (o:Option Eff):PyData:=match o with | some E=>E.d | none=>.none
def MN (ts:List (Str×Ent)):MO:=.d (AI (ts.map λt=>(t.1,C9 t.2)))
def AG:List (Str×Ent)->Str->Option Ent
 | [],_=>none
 | t::r,k=>if t.1=k then some t.2 else AG r k
section
variable {M:Own}{Q:DS->Own->Prop}
theorem XM {a:Str}:∀{l:List Str},l.Pairwise (λx y=>sl y x=false)->(WB a l).Pairwise λx y=>sl y x=false
 | [],_=>by simp[WB]
 | b::r,h=>by
   have h2:=h;rw[List.pairwise_cons] at h;unfold WB;split
   . rename_i hb;rw[List.pairwise_cons];refine⟨λy hy=>?_,XM h.2⟩;rcases yX.mp ((LJ a r).mem_iff.mp hy) with rfl | q;. exact bM hb
     . exact h.1 y q
   . rename_i hb;rw[List.pairwise_cons];refine⟨λy hy=>?_,h2⟩;have nq:sl b a=false:=by simpa using hb
     rcases yX.mp hy with rfl | q;. exact nq
     . cases hya:sl y a with
       | false=>rfl
       | true=>
         have uZ:=h.1 y q;exfalso;cases hby:sl b y with
         | true=>rw[NK hby hya] at nq;cases nq
         | false=>rw[HV hby uZ] at nq;rw[nq] at hya;cases hya
theorem J0:∀l:List Str,(BF l).Pairwise λx y=>sl y x=false
 | []=>a7K
 | a::r=>XM (J0 r)
theorem GP {l ss:List Str}(hp:ss.Perm l) (hs:xG ss=true):ss=BF l:=(hp.trans (AO l).symm).eq_of_pairwise (le:=λx y=>sl y x=false) (λa b _ _ h1 h2=>HV h2 h1) (YN _ hs) (J0 l)
theorem Z2 {a b:List Str}(h:a.Perm b):BF a=BF b:=((AO a).trans (h.trans (AO b).symm)).eq_of_pairwise (le:=λx y=>sl y x=false) (λa b _ _ h1 h2=>HV h2 h1) (J0 a) (J0 b)
theorem i4 {l:List Str}(h:l.Pairwise λx y=>sl y x=false):BF l=l:=(AO l).eq_of_pairwise (le:=λx y=>sl y x=false) (λa b _ _ h1 h2=>HV h2 h1) (J0 l) h
def CF (ts:List (Str×Ent)) (n:Str):Bool:=(AG ts n).isSome
def B2 (one other:Eff):Bool:=(other.st.any λn=>decide (n∈one.st++one.fr)&&!CF one.lf n)||other.fr.any (CF one.lf)
def AQ (one other:Eff):List Str:=one.st++other.st.filter λn=>!decide (n∈one.st++one.fr)
def CB (one other:Eff):List Str:=one.fr++other.fr.filter λn=>!decide (n∈one.st++one.fr)
def KL (n:Str):Str×Ent:=(n,.inr n,[n],0)
def B6 (one other:Eff):List (Str×Ent):=one.lf++(other.st.filter λn=>!decide (n∈one.st++one.fr)).map KL
def AH (ts:List (Str×Ent)) (n:Str):Ent:=(AG ts n).getD (.inr n,[n],0)
def B5 (ts:List (Str×Ent)) (e:Ent):Ent:=(match e.1 with | .inl p=>.inl p | .inr n=>(AH ts n).1,BF (e.2.1.flatMap λn=>(AH ts n).2.1),e.2.2+(e.2.1.map λn=>(AH ts n).2.2).sum)
def BJ (ts:List (Str×Ent)) (n:Str) (e:Ent):List (Str×Ent):=if CF ts n=true then ts.map (λt=>if t.1=n then (t.1,e) else t) else ts++[(n,e)]
def CP (one other:Eff):List (Str×Ent):=other.lf.foldl (λts t=>BJ ts t.1 (B5 (B6 one other) t.2)) ((B6 one other).filter λt=>!decide (t.1∈other.st))
def C7 (ts:List (Str×Ent)):List (Str×Ent):=(BF (ts.map (·.1))).map λn=>(n,AH ts n)
def B3 (one other:Eff):Option Eff:=if B2 one other=true then none else some ⟨BF (AQ one other),BF (CB one other),C7 (CP one other)⟩
def AF:Deed->Eff
 | .put x p k=>⟨[],[x],[(x,.inl p,[],k)]⟩
 | .take x=>⟨[x],[],[]⟩
 | .move x p=>⟨[x],[],[(x,.inl p,[x],0)]⟩
 | .count x k=>⟨[x],[],[(x,.inr x,[x],k)]⟩
 | .name x y=>⟨[x],[y],[(y,.inr x,[x],0)]⟩
 | .split x y p k=>⟨[x],[y],C7 [(x,.inr x,[x],-k),(y,.inl p,[],k)]⟩
 | .join x y=>⟨BF [x,y],[],[(x,.inr x,BF [x,y],0)]⟩
def DX (Ds:List Deed):Option Eff:=Ds.foldl (λo D=>o.bind λE=>B3 E (AF D)) (some ⟨[],[],[]⟩)
structure OkE (ys:List Str) (E:Eff):Prop where
 st:E.st.Nodup/\∀n∈E.st,n∈ys
 fr:E.fr.Nodup/\∀n∈E.fr,n∈ys
 apart:∀n∈E.st,n∉E.fr
 keys:(E.lf.map (·.1)).Nodup
 known:∀t∈E.lf,t.1∈E.st++E.fr
 from_:∀t∈E.lf,t.2.2.1.Nodup/\∀n∈t.2.2.1,n∈E.st
 place:∀t∈E.lf,∀n,t.2.1 = .inr n->n∈E.st
 dis:(E.lf.flatMap λt=>t.2.2.1).Nodup
def DB:FSp:=⟨λxs M=>∃l:List Str,xs=[.d (AJ l)]/\l.length < 64,λxs M y M'=>∀l:List Str,xs=[.d (AJ l)]->y = .d (AJ (BF l))/\M'=M⟩
theorem DJ {l:List Str}(h:l.length < 64) (q:Q (.d (AJ (BF l))) M):[DS.d (AJ l)].length=1/\DB.pre [.d (AJ l)] M/\∀x M',DB.post [.d (AJ l)] M x M'->Q x M':=⟨rfl,⟨l,rfl,h⟩,λx M' hh=>by obtain⟨rfl,rfl⟩:=hh l rfl;exact q⟩
def GQ:FSp:=⟨λxs M=>∃E:Eff,xs=[.d E.d]/\(E.lf.map (·.1)).Nodup/\E.lf.length<=60,λxs M y M'=>∀E:Eff,xs=[.d E.d]->∃p,M p=none/\y = .loc p/\M'=M.put p (MN E.lf)⟩
def clX (one other:Eff) (p:Addr):List DS:=[.d one.d,.loc p,.d other.d]
def G3:FSp:=⟨λxs M=>∃(ys:List Str) (one other:Eff) (p:Addr),xs=clX one other p/\M p=some (MN one.lf)/\OkE ys one/\OkE ys other/\AK ys,λxs M y M'=>∀(one other:Eff) (p:Addr),xs=clX one other p->y = .d (.bool (B2 one other))/\M'=M⟩
def UC (ts:List (Str×Ent)):PyData:=.dict (AI (ts.map λt:Str×Ent=>(t.1,C9 t.2)))
def taX (ts:List (Str×Ent)) (e:Ent):List DS:=[.d (UC ts),.d (plE e.1),.d (AJ e.2.1),.d (.int e.2.2)]
def IC:FSp:=⟨λxs M=>∃(ts:List (Str×Ent)) (e:Ent),xs=taX ts e/\(∀n∈e.2.1,CF ts n=true)/\(∀n,e.1 = .inr n->CF ts n=true)/\(e.2.1.flatMap λn=>(AH ts n).2.1).length < 64,λxs M y M'=>∀(ts:List (Str×Ent)) (e:Ent),xs=taX ts e->y = .d (C9 (B5 ts e))/\M'=M⟩
def ER:FSp:=⟨λxs M=>∃(p:Addr) (ts:List (Str×Ent)),xs=[.loc p]/\M p=some (MN ts)/\(ts.map (·.1)).Nodup/\ts.length < 64,λxs M y M'=>∀(p:Addr) (ts:List (Str×Ent)),xs=[.loc p]->M p=some (MN ts)->y = .d (.tuple ((C7 ts).map lfE))/\M'=M⟩
def G4:FSp:=⟨λxs M=>∃D:Deed,xs=[.d D.d]/\D.real,λxs M y M'=>∀D:Deed,xs=[.d D.d]->y = .d (AF D).d/\M'=M⟩
def GR:FSp:=⟨λxs M=>∃(ys:List Str) (one other:Eff),xs=[.d one.d,.d other.d]/\OkE ys one/\OkE ys other/\AK ys,λxs M y M'=>∀one other:Eff,xs=[.d one.d,.d other.d]->y = .d (efO (B3 one other))/\M'=M⟩
def GS:FSp:=⟨λxs M=>∃(ys:List Str) (Ds:List Deed),xs=[.d (.tuple (Ds.map Deed.d))]/\AK ys/\(∀D∈Ds,AZ ys D)/\Ds.length<=60,λxs M y M'=>∀Ds:List Deed,xs=[.d (.tuple (Ds.map Deed.d))]->y = .d (efO (DX Ds))/\M'=M⟩
def J1:FSp:=⟨λxs M=>∃c:Int,xs=[.d (.int c)],λxs M y M'=>y = .d (.bool true)/\M'=M⟩
end
def nmE:PyData->Str | .tuple (.str n::_)=>n | _=>⟨#[]⟩
def vlE:PyData->PyData | .tuple (_::r)=>.tuple r | d=>d
theorem RW {a b:Pl}(h:plE a=plE b):a=b:=by cases a <;> cases b <;> simp_all [plE]
theorem G5 {a b:List Str}(h:AJ a=AJ b):a=b:=HW (PyData.tuple.inj h)
theorem i5 {a b:Str×Ent}(h:lfE a=lfE b):a=b:=by obtain⟨n,p,f,k⟩:=a;obtain⟨n',p',f',k'⟩:=b;simp only[lfE,PyData.tuple.injEq,List.cons.injEq,PyData.str.injEq,PyData.int.injEq,and_true] at h;obtain⟨rfl,h2,h3,rfl⟩:=h;obtain rfl:=RW h2;obtain rfl:=G5 h3;rfl
theorem LK {α:Type}{f:α->PyData}(hf:∀{a b},f a=f b->a=b):∀{l r:List α},l.map f=r.map f->l=r
 | [],[],_=>rfl
 | [],_::_,h=>by cases h
 | _::_,[],h=>by cases h
 | a::l,b::r,h=>by simp only[zI,List.cons.injEq] at h;rw[hf h.1,LK hf h.2]
theorem FF {a b:Eff}(h:a.d=b.d):a=b:=by obtain⟨s,f,l⟩:=a;obtain⟨s',f',l'⟩:=b;simp only[Eff.d,PyData.tuple.injEq,List.cons.injEq,and_true] at h;obtain⟨h1,h2,h3⟩:=h;obtain rfl:=G5 h1;obtain rfl:=G5 h2;obtain rfl:=LK i5 h3;rfl
theorem cZ {a b:Ent}(h:C9 a=C9 b):a=b:=by obtain⟨p,f,k⟩:=a;obtain⟨p',f',k'⟩:=b;simp only[C9,PyData.tuple.injEq,List.cons.injEq,PyData.int.injEq,and_true] at h;obtain⟨h2,h3,rfl⟩:=h;obtain rfl:=RW h2;obtain rfl:=G5 h3;rfl
theorem UD {a b:List (Str×Ent)}(h:MN a=MN b):a=b:=by
 have h1:AI (a.map λt=>(t.1,C9 t.2))=AI (b.map λt=>(t.1,C9 t.2)):=MO.d.inj h;clear h;induction a generalizing b with
 | nil=>cases b with | nil=>rfl | cons _ _=>cases h1
 | cons x r ih=>cases b with
   | nil=>cases h1
   | cons y s=> simp only[AI,zI,List.cons.injEq,Prod.mk.injEq,PyData.str.injEq] at h1;rw[ih (b:=s) (by simpa [AI] using h1.2)];obtain⟨x1,x2⟩:=x;obtain⟨y1,y2⟩:=y;obtain⟨⟨e1,e2⟩,_⟩:=h1;simp only at e1 e2;rw[e1,cZ e2]
theorem G6 (n:Str):∀ts:List (Str×Ent),BZ (ts.map λt=>(t.1,C9 t.2)) n=(AG ts n).map C9
 | []=>rfl
 | t::r=>by
   show(if t.1=n then some (C9 t.2) else BZ (r.map λt=>(t.1,C9 t.2)) n)=(if t.1=n then some t.2 else AG r n).map C9;split;. rfl
   . exact G6 n r
theorem UE {E:Eff}{M:Own}{Q:DS->Own->Prop}(h:(E.lf.map (·.1)).Nodup) (hl:E.lf.length<=60) (q:∀p,M p=none->Q (.loc p) (M.put p (MN E.lf))):[DS.d E.d].length=1/\GQ.pre [.d E.d] M/\∀x M',GQ.post [.d E.d] M x M'->Q x M':=⟨rfl,⟨E,rfl,h,hl⟩,λx M' hh=>by obtain⟨p,h1,rfl,rfl⟩:=hh E rfl;exact q p h1⟩
theorem CG {ys l:List Str}(hn:AK ys) (h:l.Nodup/\∀n∈l,n∈ys):l.length<=26:=zN (RT h.1 h.2) hn.2.2
theorem RX {ys:List Str}{E:Eff}(hn:AK ys) (h:OkE ys E):E.lf.length<=52:=by
 have h1:=CG hn h.st;have h2:=CG hn h.fr;have:=RT (ys:=E.st++E.fr) h.keys λz hz=>by obtain⟨t,ht,rfl⟩:=zL.mp hz;exact h.known t ht
 rw[zX,yY] at this;lia
def msT (kn:List Str) (ts:List (Str×Ent)):PyData->Bool | .str n=>decide (n∈kn)&&!CF ts n | _=>false
def wyT (ts:List (Str×Ent)):PyData->Bool | .str n=>CF ts n | _=>false
theorem mF (kn l:List Str) (ts:List (Str×Ent)):(((l.map a0J).filter (msT kn ts)).map id).length=(l.filter λn=>decide (n∈kn)&&!CF ts n).length:=by rw[a8J,xU,zX];rfl
theorem mG (l:List Str) (ts:List (Str×Ent)):(((l.map a0J).filter (wyT ts)).map id).length=(l.filter (CF ts)).length:=by rw[a8J,xU,zX];rfl
theorem XN {α:Type}(p:α->Bool) (l:List α):decide ((0:Int) < ((l.filter p).length:Int))=l.any p:=by
 rw[a2Q,decide_eq_true_iff,a7W];constructor
 . intro h;have:0 < (l.filter p).length:=by lia
   obtain⟨a,ha⟩:=List.exists_mem_of_length_pos this;exact⟨a,yL.mp ha⟩
 . rintro⟨a,h1,h2⟩;have:=List.length_pos_of_mem (yL.mpr ⟨h1,h2⟩);lia
theorem d0 {ts:List (Str×Ent)}{n:Str}:n∈ts.map (·.1)->∃v,AG ts n=some v:=by
 induction ts with
 | nil=>intro h;cases h
 | cons t r ih=>
   intro h;show ∃v,(if t.1=n then some t.2 else AG r n)=some v;by_cases e:t.1=n;. rw[if_pos e];exact⟨_,rfl⟩
   . rw[if_neg e];rcases yX.mp h with q | q;. exact absurd q.symm e
     . exact ih q
def j8 (ts:List (Str×Ent)):PyData->PyData | .str n=>lfE (n,AH ts n) | d=>d
theorem Z3 (ts:List (Str×Ent)) (ss:List Str):(ss.map a0J).map (j8 ts)=(ss.map λn=>(n,AH ts n)).map lfE:=by rw[zD,zD];rfl
theorem OkE.nil (ys:List Str):OkE ys ⟨[],[],[]⟩:=⟨⟨a7K,(λn h=>nomatch h)⟩,⟨a7K,(λn h=>nomatch h)⟩,(λn h=>nomatch h),a7K,(λn h=>nomatch h),(λn h=>nomatch h),(λn h=>nomatch h),a7K⟩
theorem KM {A:List Deed}{D:Deed}{E:Eff}(h:DX A=some E):DX (A++[D])=B3 E (AF D):=by unfold DX at h ⊢;rw[a3V,h];rfl
theorem Z4 (B:List Deed):B.foldl (λo D=>o.bind λE=>B3 E (AF D)) (none:Option Eff)=none:=by
 induction B with
 | nil=>rfl
 | cons D r ih=>exact ih
theorem UG {Ds:List Deed}{k:Nat}(h:DX (Ds.take k)=none):DX Ds=none:=by have e:Ds=Ds.take k++Ds.drop k:=(List.take_append_drop k Ds).symm;unfold DX at h ⊢;rw[e,a3V,h];exact Z4 _
theorem FG {a b:List Deed}(h:[DS.d (.tuple (a.map Deed.d))]=[.d (.tuple (b.map Deed.d))]):a=b:=by simp only[List.cons.injEq,DS.d.injEq,PyData.tuple.injEq,and_true] at h;exact LK FW h
theorem WC {D:Deed}{M:Own}{Q:DS->Own->Prop}(h:D.real) (q:Q (.d (AF D).d) M):[DS.d D.d].length=1/\G4.pre [.d D.d] M/\∀x M',G4.post [.d D.d] M x M'->Q x M':=⟨rfl,⟨D,rfl,h⟩,λx M' hh=>by obtain⟨rfl,rfl⟩:=hh D rfl;exact q⟩
theorem UH {ys:List Str}{one other:Eff}{M:Own}{Q:DS->Own->Prop}(h1:OkE ys one) (h2:OkE ys other) (hn:AK ys) (q:Q (.d (efO (B3 one other))) M):[DS.d one.d,.d other.d].length=2/\GR.pre [.d one.d,.d other.d] M/\∀x M',GR.post [.d one.d,.d other.d] M x M'->Q x M':=⟨rfl,⟨ys,one,other,rfl,h1,h2,hn⟩,λx M' hh=>by obtain⟨rfl,rfl⟩:=hh one other rfl;exact q⟩
theorem N1 {ts:List (Str×Ent)}(nd:(ts.map (·.1)).Nodup) {t:Str×Ent}(ht:t∈ts):AG ts t.1=some t.2:=by
 induction ts with
 | nil=>cases ht
 | cons a r ih=>
   show(if a.1=t.1 then some a.2 else AG r t.1)=some t.2;rw[zI,xV] at nd;rcases yX.mp ht with rfl | q;. rw[if_pos rfl]
   . rw[if_neg λe=>nd.1 (by rw[e];exact zL.mpr ⟨t,q,rfl⟩)];exact ih nd.2 q
theorem d4 {ts:List (Str×Ent)}(nd:(ts.map (·.1)).Nodup) {t:Str×Ent}:t∈C7 ts->t∈ts:=by intro h;obtain⟨n,hn,rfl⟩:=zL.mp h;have hn:=(AO _).mem_iff.mp hn;obtain⟨s,hs,rfl⟩:=zL.mp hn;have:=N1 nd hs;unfold AH;rw[this];exact hs
theorem G7 {ts:List (Str×Ent)}(nd:(ts.map (·.1)).Nodup):(C7 ts).Perm ts:=by
 have e:ts=(ts.map (·.1)).map λn=>(n,AH ts n):=by
   rw[zD];have:∀t∈ts,t=((λn=>(n,AH ts n))∘λt:Str×Ent=>t.1) t:=λt ht=>by
     have h1:(t.1,AH ts t.1)∈C7 ts:=zL.mpr ⟨t.1,(AO _).mem_iff.mpr (zL.mpr ⟨t,ht,rfl⟩),rfl⟩;have h2:=d4 nd h1;have key:∀{ts:List (Str×Ent)},(ts.map (·.1)).Nodup->∀{a b:Str×Ent},a∈ts->b∈ts->a.1=b.1->a=b:=by
       intro ts;induction ts with
       | nil=>intro _ a b ha;cases ha
       | cons c r ih=>
         intro nd a b ha hb gq;rw[zI,xV] at nd;rcases yX.mp ha with rfl | ha2 <;> rcases yX.mp hb with rfl | hb2;. rfl
         . exact absurd (show a.1∈r.map (·.1) from zL.mpr ⟨b,hb2,gq.symm⟩) nd.1
         . exact absurd (show b.1∈r.map (·.1) from zL.mpr ⟨a,ha2,gq⟩) nd.1
         . exact ih nd.2 ha2 hb2 gq
     exact key nd ht h2 rfl
   conv=>lhs;rw[<-a8J ts]
   exact yM this
 conv=>rhs;rw[e]
 exact(AO _).map _
theorem OkE.deed {ys:List Str}{D:Deed}(hn:AK ys) (h:AZ ys D):OkE ys (AF D):=by
 have hx:=h.2;have f_:=h.1.2.1;cases D with
 | put x p k=> have:=hx x (by simp[Deed.names]);refine⟨⟨by simp[AF],by simp[AF]⟩,⟨by simp[AF],by simpa [AF] using this⟩,by simp[AF],by simp[AF],by simp[AF],by simp[AF],by simp[AF],by simp[AF]⟩
 | take x=> have:=hx x (by simp[Deed.names]);refine⟨⟨by simp[AF],by simpa [AF] using this⟩,⟨by simp[AF],by simp[AF]⟩,by simp[AF],by simp[AF],by simp[AF],by simp[AF],by simp[AF],by simp[AF]⟩
 | move x p=> have:=hx x (by simp[Deed.names]);refine⟨⟨by simp[AF],by simpa [AF] using this⟩,⟨by simp[AF],by simp[AF]⟩,by simp[AF],by simp[AF],by simp[AF],by simp[AF],by simp[AF],by simp[AF]⟩
 | count x k=> have:=hx x (by simp[Deed.names]);refine⟨⟨by simp[AF],by simpa [AF] using this⟩,⟨by simp[AF],by simp[AF]⟩,by simp[AF],by simp[AF],by simp[AF],by simp[AF],by simp[AF],by simp[AF]⟩
 | name x y=> have h1:=hx x (by simp[Deed.names]);have h2:=hx y (by simp[Deed.names]);have ai:x≠y:=f_;refine⟨⟨by simp[AF],by simpa [AF] using h1⟩,⟨by simp[AF],by simpa [AF] using h2⟩,by simpa [AF] using ai,by simp[AF],by simp[AF],by simp[AF],by simp[AF],by simp[AF]⟩
 | split x y p k=>
   have h1:=hx x (by simp[Deed.names]);have h2:=hx y (by simp[Deed.names]);have ai:x≠y:=f_;have nd:([(x,((.inr x,[x],-k):Ent)),(y,.inl p,[],k)].map (·.1)).Nodup:=by simpa using ai
   have sp:=G7 nd;have sm:∀t∈C7 [(x,((.inr x,[x],-k):Ent)),(y,.inl p,[],k)],t=(x,.inr x,[x],-k)\/t=(y,.inl p,[],k):=λt ht=>by simpa using sp.mem_iff.mp ht
   refine⟨⟨by simp[AF],by simpa [AF] using h1⟩,⟨by simp[AF],by simpa [AF] using h2⟩,by simpa [AF] using ai,((sp.map (·.1)).nodup_iff).mpr nd,λt ht=>?_,λt ht=>?_,λt ht n e=>?_,?_⟩;. rcases sm t ht with rfl | rfl <;> simp[AF]
   . rcases sm t ht with rfl | rfl <;> simp[AF]
   . rcases sm t ht with rfl | rfl <;> simp_all [AF]
   . exact((sp.flatMap_right _).nodup_iff).mpr (by simp)
 | join x y=>
   have h1:=hx x (by simp[Deed.names]);have h2:=hx y (by simp[Deed.names]);have ai:x≠y:=f_;have hp:=AO [x,y];have nd:(BF [x,y]).Nodup:=hp.nodup_iff.mpr (by simpa using ai);have hm:∀n,n∈BF [x,y]↔n=x\/n=y:=λn=>by rw[hp.mem_iff];simp
   refine⟨⟨nd,λn az=>?_⟩,⟨by simp[AF],by simp[AF]⟩,by simp[AF],by simp[AF],by simp[AF,hm],by simpa [AF] using nd,by simp[AF,hm],by simpa [AF] using nd⟩;rcases (hm n).mp az with rfl | rfl;. exact h1
   . exact h2
abbrev LL (ts:List (Str×Ent)):List (Str×PyData):=ts.map λt:Str×Ent=>(t.1,C9 t.2)
theorem BN {ts:List (Str×Ent)}{n:Str}:CF ts n=true↔n∈ts.map (·.1):=by
 induction ts with
 | nil=>simp[CF,AG]
 | cons t r ih=>
   show((if t.1=n then some t.2 else AG r n).isSome=true)↔_;by_cases e:t.1=n;. rw[if_pos e];simp[e]
   . rw[if_neg e];rw[zI,yX,<-ih];exact⟨λh=>.inr h,λh=>h.elim (λq=>absurd q.symm e) id⟩
theorem XO (ts:List (Str×Ent)) (n:Str) (e:Ent):P5 (LL ts) n (C9 e)=LL (BJ ts n e):=by
 unfold P5 BJ LL;have h:((ts.map λt:Str×Ent=>(t.1,C9 t.2)).any λt=>decide (t.1=n))=CF ts n:=by
   rw[a2Q,BN,a7W];constructor;. rintro⟨t,h1,h2⟩;obtain⟨s,h3,rfl⟩:=zL.mp h1;exact zL.mpr ⟨s,h3,of_decide_eq_true h2⟩
   . intro q;obtain⟨s,h3,h4⟩:=zL.mp q;exact⟨_,zL.mpr ⟨s,h3,rfl⟩,decide_eq_true h4⟩
 rw[h];split;. rw[zD,zD];refine yM λt ht=>?_;show(if t.1=n then (t.1,C9 e) else (t.1,C9 t.2))=((if t.1=n then (t.1,e) else t).1,C9 (if t.1=n then (t.1,e) else t).2);split <;> rfl
 . rw[xI];rfl
theorem Z5 {ts:List (Str×Ent)}{n:Str}{e:Ent}(h:n∉ts.map (·.1)):BJ ts n e=ts++[(n,e)]:=by unfold BJ;rw[if_neg λq=>h (BN.mp q)]
theorem i6 (ts:List (Str×Ent)) (n:Str) (e:Ent):(BJ ts n e).length<=ts.length+1:=by
 unfold BJ;split;. rw[zX];lia
 . rw[yY];exact zR _
def LM (one:Eff) (l:List Str):List Str:=l.filter λn=>!decide (n∈one.st++one.fr)
theorem mH {one:Eff}:LM one one.st=[]:=List.filter_eq_nil_iff.mpr λn hn=>by simp[hn]
theorem ID {ys:List Str}{one other:Eff}(h1:OkE ys one) (h2:OkE ys other) (hc:B2 one other=false) {n:Str}(hn:n∈other.st):CF (B6 one other) n=true:=by
 unfold B2 at hc;rw[Bool.or_eq_false_iff] at hc;have h:=List.any_eq_false.mp hc.1 n hn;rw[BN];unfold B6;rw[xI,yW];by_cases hk:n∈one.st++one.fr;. refine .inl (BN.mp ?_);rw[decide_eq_true hk,b6Q] at h;simpa using h
 . refine .inr ?_;rw[zD];exact zL.mpr ⟨n,yL.mpr ⟨hn,by simp[hk]⟩,rfl⟩
theorem KN {ys:List Str}{one other:Eff}(h1:OkE ys one) (h2:OkE ys other):((B6 one other).map (·.1)).Nodup:=by
 unfold B6;rw[xI];have e:((other.st.filter λn=>!decide (n∈one.st++one.fr)).map KL).map (·.1)=other.st.filter λn=>!decide (n∈one.st++one.fr):=by rw[zD];exact a8J _
 rw[e];refine List.nodup_append.mpr ⟨h1.keys,h2.st.1.sublist a3Z,λa ha b hb q=>?_⟩;subst q;obtain⟨t,ht,rfl⟩:=zL.mp ha;have:=(yL.mp hb).2;simp[h1.known t ht] at this
theorem J2 {ts:List (Str×Ent)}(h:(ts.flatMap λt=>t.2.2.1).Nodup) {s t:Str×Ent}(hs:s∈ts) (ht:t∈ts) (ai:s.1≠t.1):∀x∈s.2.2.1,∀y∈t.2.2.1,x≠y:=by
 have hp:=(List.pairwise_flatMap.mp h).2;obtain⟨i,hi,rfl⟩:=List.mem_iff_getElem.mp hs;obtain⟨j,hj,rfl⟩:=List.mem_iff_getElem.mp ht;rcases b1V i j with q | q | q;. exact List.pairwise_iff_getElem.mp hp i j hi hj q
 . subst q;exact absurd rfl ai
 . exact λx hx y hy e=>List.pairwise_iff_getElem.mp hp j i hj hi q y hy x hx e.symm
theorem JQ {ts:List (Str×Ent)}{n:Str}(h:CF ts n=true):(n,AH ts n)∈ts:=by
 induction ts with
 | nil=>cases h
 | cons a r ih=>
   unfold AH;have h':(if a.1=n then some a.2 else AG r n).isSome=true:=h;show(n,(if a.1=n then some a.2 else AG r n).getD (.inr n,[n],0))∈a::r;by_cases e:a.1=n;. rw[if_pos e];subst e;exact a1X
   . rw[if_neg e] at h' ⊢;exact yV _ (ih h')
theorem RY {ts:List (Str×Ent)}(hd:(ts.flatMap λt=>t.2.2.1).Nodup) {l:List Str}(hl:l.Nodup) (hh:∀n∈l,CF ts n=true):(l.flatMap λn=>(AH ts n).2.1).Nodup:=by refine List.pairwise_flatMap.mpr ⟨λn hn=>(List.pairwise_flatMap.mp hd).1 _ (JQ (hh n hn)),?_⟩;refine List.pairwise_iff_getElem.mpr λi j hi hj au=>?_;have ai:=List.pairwise_iff_getElem.mp hl i j hi hj au;exact J2 hd (JQ (hh _ (a0K hi))) (JQ (hh _ (a0K hj))) ai
theorem XQ {ys:List Str}{one other:Eff}(h1:OkE ys one) (h2:OkE ys other):((B6 one other).flatMap λt=>t.2.2.1).Nodup:=by
 unfold B6;rw[b3X];have e:((other.st.filter λn=>!decide (n∈one.st++one.fr)).map KL).flatMap (λt=>t.2.2.1)=other.st.filter λn=>!decide (n∈one.st++one.fr):=by
   have go:∀l:List Str,(l.map KL).flatMap (λt=>t.2.2.1)=l:=by
     intro l;induction l with
     | nil=>rfl
     | cons a r ih=>rw[zI,a9K,ih];rfl
   exact go _
 rw[e];refine List.nodup_append.mpr ⟨h1.dis,h2.st.1.sublist a3Z,λa ha b hb q=>?_⟩;subst q;obtain⟨t,ht,qW⟩:=List.mem_flatMap.mp ha;have hs:=(h1.from_ t ht).2 a qW;have:=(yL.mp hb).2;simp[hs] at this
theorem UI {ys:List Str}{one other:Eff}(h1:OkE ys one) (h2:OkE ys other):∀t∈B6 one other,∀n∈t.2.2.1,n∈AQ one other:=λt ht n hn=>by
 unfold B6 at ht;unfold AQ;rcases yW.mp ht with q | q;. exact zA _ ((h1.from_ t q).2 n hn)
 . obtain⟨z,hz,rfl⟩:=zL.mp q;have:n=z:=by simpa [KL] using hn
   subst this;exact zB _ hz
theorem d5 {ys:List Str}{one other:Eff}(hn:AK ys) (h1:OkE ys one) (h2:OkE ys other) (hc:B2 one other=false) {t:Str×Ent}(ht:t∈other.lf):(t.2.2.1.flatMap λn=>(AH (B6 one other) n).2.1).length < 64:=by
 have hh:∀n∈t.2.2.1,CF (B6 one other) n=true:=λn az=>ID h1 h2 hc ((h2.from_ t ht).2 n az);have nd:=RY (XQ h1 h2) (h2.from_ t ht).1 hh;have:=CG hn ⟨nd,λz hz=>by
   obtain⟨n,az,hz⟩:=List.mem_flatMap.mp hz;have:=UI h1 h2 _ (JQ (hh n az)) z hz;unfold AQ at this;rcases yW.mp this with q | q;. exact h1.st.2 z q
   . exact h2.st.2 z (yL.mp q).1⟩;lia
theorem O8 {ts:List (Str×Ent)}{n:Str}{e:Ent}:(BJ ts n e).map (·.1)=if CF ts n=true then ts.map (·.1) else ts.map (·.1)++[n]:=by
 unfold BJ;split;. rw[zD];refine yM λt ht=>?_;show(if t.1=n then (t.1,e) else t).1=t.1;split <;> rfl
 . rw[xI];rfl
theorem d6 {ts:List (Str×Ent)}{n:Str}{e:Ent}(h:(ts.map (·.1)).Nodup):((BJ ts n e).map (·.1)).Nodup:=by
 rw[O8];split;. exact h
 . rename_i hn;refine List.nodup_append.mpr ⟨h,by simp,λa ha b hb q=>?_⟩;subst q;rw[List.mem_singleton.mp hb] at ha;exact hn (BN.mpr ha)
theorem G8 {ys:List Str}{one other:Eff}(h1:OkE ys one) (h2:OkE ys other):((CP one other).map (·.1)).Nodup:=by
 unfold CP;have go:∀(l ts:List (Str×Ent)),(ts.map (·.1)).Nodup->((l.foldl (λts t=>BJ ts t.1 (B5 (B6 one other) t.2)) ts).map (·.1)).Nodup:=by
   intro l;induction l with
   | nil=>intro ts h;exact h
   | cons t r ih=>intro ts h;exact ih _ (d6 h)
 exact go _ _ ((KN h1 h2).sublist (List.filter_sublist.map _))
theorem i7 {ys:List Str}{one other:Eff}(h1:OkE ys one) (h2:OkE ys other):∀n∈(CP one other).map (·.1),n∈ys:=by
 unfold CP;have go:∀(l ts:List (Str×Ent)),(∀t∈l,t.1∈ys)->(∀n∈ts.map (·.1),n∈ys)->∀n∈(l.foldl (λts t=>BJ ts t.1 (B5 (B6 one other) t.2)) ts).map (·.1),n∈ys:=by
   intro l;induction l with
   | nil=>intro ts _ h;exact h
   | cons t r ih=>
     intro ts hl h;refine ih _ (λs hs=>hl s (yV _ hs)) λn hn=>?_;have hn:n∈(BJ ts t.1 (B5 (B6 one other) t.2)).map (·.1):=hn;rw[O8] at hn;split at hn;. exact h n hn
     . rcases yW.mp hn with q | q;. exact h n q
       . rw[List.mem_singleton.mp q];exact hl t (by simp)
 refine go _ _ (λt ht=>(yW.mp (h2.known t ht)).elim (h2.st.2 _) (h2.fr.2 _)) λn hn=>?_;have hn:=(List.filter_sublist.map _).subset hn;unfold B6 at hn;rw[xI] at hn;rcases yW.mp hn with q | q;. obtain⟨t,ht,rfl⟩:=zL.mp q;exact(yW.mp (h1.known t ht)).elim (h1.st.2 _) (h1.fr.2 _)
 . rw[zD] at q;obtain⟨z,hz,rfl⟩:=zL.mp q;exact h2.st.2 z (yL.mp hz).1
theorem Z6 (one other:Eff):LM one (AQ one other)=other.st.filter λn=>!decide (n∈one.st++one.fr):=by unfold AQ;rw[show LM one (one.st++other.st.filter λn=>!decide (n∈one.st++one.fr))=LM one one.st++LM one (other.st.filter λn=>!decide (n∈one.st++one.fr)) from a8Q ..,mH,List.nil_append];unfold LM;rw[List.filter_filter];congr 1;funext n;simp
theorem KO {ys:List Str}{one other:Eff}(h1:OkE ys one) (h2:OkE ys other):(AQ one other).Nodup/\∀n∈AQ one other,n∈ys:=by
 unfold AQ;refine⟨List.nodup_append.mpr ⟨h1.st.1,h2.st.1.sublist a3Z,λa ha b hb e=>?_⟩,λn hn=>?_⟩;. subst e;have:=(yL.mp hb).2;simp[ha] at this
 . rcases yW.mp hn with q | q;. exact h1.st.2 n q
   . exact h2.st.2 n (yL.mp q).1
theorem XR {ys:List Str}{one other:Eff}(h1:OkE ys one) (h2:OkE ys other):(CB one other).Nodup/\∀n∈CB one other,n∈ys:=by
 unfold CB;refine⟨List.nodup_append.mpr ⟨h1.fr.1,h2.fr.1.sublist a3Z,λa ha b hb e=>?_⟩,λn hn=>?_⟩;. subst e;have:=(yL.mp hb).2;simp[ha] at this
 . rcases yW.mp hn with q | q;. exact h1.fr.2 n q
   . exact h2.fr.2 n (yL.mp q).1
theorem d7 {ys:List Str}{one other:Eff}(h1:OkE ys one) (h2:OkE ys other) {k:Nat}{n:Str}(hk:(AQ one other)[k]?=some n) (hn:n∉one.st++one.fr):n∉(one.lf++(LM one ((AQ one other).take k)).map KL).map (·.1):=by
 rw[xI,yW];rintro (q | q);. obtain⟨t,ht,rfl⟩:=zL.mp q;exact hn (h1.known t ht)
 . rw[zD] at q;obtain⟨z,hz,e⟩:=zL.mp q;have e:z=n:=e;subst e;have hz:=(yL.mp hz).1;obtain⟨i,hi,ez⟩:=List.mem_iff_getElem.mp hz;rw[a0V] at hi;rw[List.getElem_take] at ez;obtain⟨cv,ek⟩:=yT.mp hk;have:=List.pairwise_iff_getElem.mp (KO h1 h2).1 i k (by lia) cv (by lia);exact this (ez.trans ek.symm)
theorem UJ {one:Eff}{l:List Str}{k:Nat}{n:Str}(hk:l[k]?=some n):LM one (l.take (k+1))=LM one (l.take k)++(if decide (n∈one.st++one.fr)=true then [] else [n]):=by unfold LM;rw[a1Q,hk,a6X,a8Q];congr 1;rw[a6Z];cases decide (n∈one.st++one.fr) <;> rfl
def mI:PyData->Str | .str z=>z | _=>⟨#[]⟩
def oY (ts:List (Str×Ent)):PyData->PyData | .str z=>C9 (AH ts z) | d=>d
theorem d8 {ts:List (Str×Ent)}(nd:(ts.map (·.1)).Nodup) (l:List Str):(((HZ (LL ts)).filter (frT l)).map λd=>(mI d,oY ts d))=LL (ts.filter λt=>!decide (t.1∈l)):=by
 have e:HZ (LL ts)=ts.map λt:Str×Ent=>a0J t.1:=by unfold HZ LL;rw[zD];rfl
 rw[e,xU,zD];refine yM λt ht=>?_;have ht:=(yL.mp ht).1;show(t.1,C9 (AH ts t.1))=(t.1,C9 t.2);unfold AH;rw[N1 nd ht];rfl
theorem Z7 {ts:List (Str×Ent)}(nd:(ts.map (·.1)).Nodup) (l:List Str):(((HZ (LL ts)).filter (frT l)).map mI).Nodup:=by
 have e:HZ (LL ts)=ts.map λt:Str×Ent=>a0J t.1:=by unfold HZ LL;rw[zD];rfl
 rw[e,xU,zD];exact(nd.sublist (List.filter_sublist.map _))
def KP (one other:Eff) (k:Nat):List (Str×Ent):=(other.lf.take k).foldl (λts t=>BJ ts t.1 (B5 (B6 one other) t.2)) ((B6 one other).filter λt=>!decide (t.1∈other.st))
theorem Z8 (one other:Eff) (k:Nat):(KP one other k).length<=(B6 one other).length+k:=by
 unfold KP;have go:∀(l:List (Str×Ent)) (ts:List (Str×Ent)),(l.foldl (λts t=>BJ ts t.1 (B5 (B6 one other) t.2)) ts).length<=ts.length+l.length:=by
   intro l;induction l with
   | nil=>intro ts;exact zR _
   | cons t r ih=> intro ts;have h1:=ih (BJ ts t.1 (B5 (B6 one other) t.2));have h2:=i6 ts t.1 (B5 (B6 one other) t.2);rw[List.foldl_cons,yR];lia
 have h1:=go (other.lf.take k) ((B6 one other).filter λt=>!decide (t.1∈other.st));have h2:((B6 one other).filter λt=>!decide (t.1∈other.st)).length<=(B6 one other).length:=yJ _ _;have h3:(other.lf.take k).length<=k:=List.length_take_le _ _;lia
theorem WE {one other:Eff}{k:Nat}{t:Str×Ent}(h:other.lf[k]?=some t):KP one other (k+1)=BJ (KP one other k) t.1 (B5 (B6 one other) t.2):=by unfold KP;rw[a1Q,h,a6X,a3V];rfl
theorem Z9 (one other:Eff):KP one other other.lf.length=CP one other:=by unfold KP CP;rw[a1J]
theorem d9 {ys:List Str}{one other:Eff}(hn:AK ys) (h1:OkE ys one) (h2:OkE ys other) (hc:B2 one other=false):(CP one other).length < 64:=by have:=CG hn ⟨G8 h1 h2,i7 h1 h2⟩;rw[zX] at this;lia
theorem i8 {ts:List (Str×Ent)}{n:Str}{e:Ent}(nd:(ts.map (·.1)).Nodup) {s:Str×Ent}:s∈BJ ts n e↔(s∈ts/\s.1≠n)\/s=(n,e):=by
 unfold BJ;split
 . rename_i h;have hm:=BN.mp h;rw[zL];constructor
   . rintro⟨t,ht,rfl⟩;by_cases q:t.1=n;. rw[if_pos q,q];exact .inr rfl
     . rw[if_neg q];exact .inl ⟨ht,q⟩
   . rintro (⟨h1,h2⟩ | rfl);. exact⟨s,h1,if_neg h2⟩
     . obtain⟨t,ht,q⟩:=zL.mp hm;exact⟨t,ht,by rw[if_pos q,q]⟩
 . rename_i h;rw[yW,List.mem_singleton];constructor
   . rintro (q | q);. exact .inl ⟨q,λe=>h (BN.mpr (by rw[<-e];exact zL.mpr ⟨s,q,rfl⟩))⟩
     . exact .inr q
   . rintro (q | q);. exact .inl q.1
     . exact .inr q
theorem ES {ys:List Str}{one other:Eff}(h1:OkE ys one) (h2:OkE ys other) {s:Str×Ent}:s∈CP one other↔(s∈B6 one other/\s.1∉other.st/\s.1∉other.lf.map (·.1))\/∃t∈other.lf,s=(t.1,B5 (B6 one other) t.2):=by
 unfold CP;have go:∀(l ts:List (Str×Ent)),(l.map (·.1)).Nodup->(ts.map (·.1)).Nodup->(s∈l.foldl (λts t=>BJ ts t.1 (B5 (B6 one other) t.2)) ts↔(s∈ts/\s.1∉l.map (·.1))\/∃t∈l,s=(t.1,B5 (B6 one other) t.2)):=by
   intro l;induction l with
   | nil=>intro ts _ _;simp
   | cons a r ih=>
     intro ts hl sO;rw[zI,xV] at hl;rw[List.foldl_cons,ih _ hl.2 (d6 sO),i8 sO];constructor
     . rintro (⟨⟨q1,q2⟩ | rfl,q3⟩ | ⟨t,ht,rfl⟩);. exact .inl ⟨q1,by rw[zI,yX];rintro (z | z);exact q2 z;exact q3 z⟩
       . exact .inr ⟨a,by simp,rfl⟩
       . exact .inr ⟨t,yV _ ht,rfl⟩
     . rintro (⟨q1,q2⟩ | ⟨t,ht,rfl⟩);. rw[zI,yX,not_or] at q2;exact .inl ⟨.inl ⟨q1,q2.1⟩,q2.2⟩
       . rcases yX.mp ht with rfl | q;. exact .inl ⟨.inr rfl,hl.1⟩
         . exact .inr ⟨t,q,rfl⟩
 rw[go _ _ h2.keys ((KN h1 h2).sublist (List.filter_sublist.map _)),yL];constructor
 . rintro (⟨⟨q1,q2⟩,q3⟩ | q);. exact .inl ⟨q1,by simpa using q2,q3⟩
   . exact .inr q
 . rintro (⟨q1,q2,q3⟩ | q);. exact .inl ⟨⟨q1,by simp[q2]⟩,q3⟩
   . exact .inr q
theorem OkE.behind {ys:List Str}{one other F:Eff}(hn:AK ys) (h1:OkE ys one) (h2:OkE ys other) (h:B3 one other=some F):OkE ys F:=by
 unfold B3 at h;split at h;. cases h
 rename_i hc;have hc:B2 one other=false:=by simpa using hc
 have e:=(Option.some.inj h).symm;subst e;have pS:=AO (AQ one other);have pF:=AO (CB one other);have lk:=G8 h1 h2;have pL:=G7 lk;have sN:=KO h1 h2;have fN:=XR h1 h2;have bt:∀t∈B6 one other,t.1∈AQ one other++CB one other/\∀n,t.2.1 = .inr n->n∈AQ one other:=λt ht=>by
   unfold B6 at ht;unfold AQ CB;rcases yW.mp ht with q | q
   . refine⟨?_,λn az=>zA _ (h1.place t q n az)⟩;rcases yW.mp (h1.known t q) with z | z;. exact zA _ (zA _ z)
     . exact zB _ (zA _ z)
   . obtain⟨z,hz,rfl⟩:=zL.mp q;refine⟨zA _ (zB _ hz),λn az=>?_⟩;have:z=n:=Sum.inr.inj az;subst this;exact zB _ hz
 have bd:=XQ h1 h2;have bf:=UI h1 h2;have th:∀t∈other.lf,∀n∈t.2.2.1,CF (B6 one other) n=true:=λt ht n az=>ID h1 h2 hc ((h2.from_ t ht).2 n az);have dr:∀n∈other.st++other.fr,n∈AQ one other++CB one other:=λn az=>by
   unfold AQ CB;by_cases hk:n∈one.st++one.fr
   . rcases yW.mp hk with z | z;. exact zA _ (zA _ z)
     . exact zB _ (zA _ z)
   . rcases yW.mp az with z | z;. exact zA _ (zB _ (yL.mpr ⟨z,by simp[hk]⟩))
     . exact zB _ (zB _ (yL.mpr ⟨z,by simp[hk]⟩))
 have vc:∀n,n∈AQ one other++CB one other->n∈BF (AQ one other)++BF (CB one other):=λn az=>by
   rcases yW.mp az with z | z;. exact zA _ (pS.mem_iff.mpr z)
   . exact zB _ (pF.mem_iff.mpr z)
 have tf:∀t∈other.lf,∀x∈(B5 (B6 one other) t.2).2.1,∃m∈t.2.2.1,(m,AH (B6 one other) m)∈B6 one other/\x∈(AH (B6 one other) m).2.1:=λt ht x hx=>by have hx:x∈t.2.2.1.flatMap λn=>(AH (B6 one other) n).2.1:=(AO _).mem_iff.mp hx;obtain⟨m,hm,hx⟩:=List.mem_flatMap.mp hx;exact⟨m,hm,JQ (th t ht m hm),hx⟩
 refine⟨⟨pS.nodup_iff.mpr sN.1,λn az=>sN.2 n (pS.mem_iff.mp az)⟩,⟨pF.nodup_iff.mpr fN.1,λn az=>fN.2 n (pF.mem_iff.mp az)⟩,λn hs hf=>?_,(pL.map (·.1)).nodup_iff.mpr lk,λs hs=>?_,λs hs=>?_,λs hs n e=>?_,?_⟩
 . have hs:=pS.mem_iff.mp hs;have hf:=pF.mem_iff.mp hf;unfold AQ at hs;unfold CB at hf;rcases yW.mp hs with a | a <;> rcases yW.mp hf with b | b;. exact h1.apart n a b
   . have:=(yL.mp b).2;simp[a] at this
   . have:=(yL.mp a).2;simp[b] at this
   . exact h2.apart n (yL.mp a).1 (yL.mp b).1
 . refine vc _ ?_;rcases (ES h1 h2).mp (pL.mem_iff.mp hs) with q | ⟨t,ht,rfl⟩
   . exact(bt s q.1).1
   . exact dr _ (h2.known t ht)
 . rcases (ES h1 h2).mp (pL.mem_iff.mp hs) with q | ⟨t,ht,rfl⟩
   . exact⟨(List.pairwise_flatMap.mp bd).1 s q.1,λn az=>pS.mem_iff.mpr (bf s q.1 n az)⟩
   . refine⟨(AO _).nodup_iff.mpr (RY bd (h2.from_ t ht).1 (th t ht)),λn az=>?_⟩;obtain⟨m,hm,hb,hx⟩:=tf t ht n az;exact pS.mem_iff.mpr (bf _ hb n hx)
 . refine pS.mem_iff.mpr ?_;rcases (ES h1 h2).mp (pL.mem_iff.mp hs) with q | ⟨t,ht,rfl⟩
   . exact(bt s q.1).2 n e
   . have e:(B5 (B6 one other) t.2).1 = .inr n:=e;unfold B5 at e;cases hp:t.2.1 with
     | inl p=>rw[hp] at e;cases e
     | inr m=> rw[hp] at e;exact(bt _ (JQ (ID h1 h2 hc (h2.place t ht m hp)))).2 n e
 . refine((pL.flatMap_right _).nodup_iff).mpr (List.pairwise_flatMap.mpr ⟨λs hs=>?_,?_⟩)
   . rcases (ES h1 h2).mp hs with q | ⟨t,ht,rfl⟩
     . exact(List.pairwise_flatMap.mp bd).1 s q.1
     . exact(AO _).nodup_iff.mpr (RY bd (h2.from_ t ht).1 (th t ht))
   . refine List.pairwise_iff_getElem.mpr λi j hi hj au=>?_;have ai:(CP one other)[i].1≠(CP one other)[j].1:=by have:=List.pairwise_iff_getElem.mp lk i j (by rw[zX];exact hi) (by rw[zX];exact hj) au;rw[b6J,b6J] at this;exact this
     have ha:=(ES h1 h2).mp (a0K hi);have hb:=(ES h1 h2).mp (a0K hj);generalize (CP one other)[i]=s at ai ha;generalize (CP one other)[j]=u at ai hb;intro x hx y hy;rcases ha with q | ⟨t,ht,rfl⟩ <;> rcases hb with q' | ⟨t',qi,rfl⟩
     . exact J2 bd q.1 q'.1 ai x hx y hy
     . obtain⟨m,hm,nt,hy⟩:=tf t' qi y hy;refine J2 bd q.1 nt (λe=>q.2.1 ?_) x hx y hy;have e:s.1=m:=e;rw[e];exact(h2.from_ t' qi).2 m hm
     . obtain⟨m,hm,nt,hx⟩:=tf t ht x hx;refine J2 bd nt q'.1 (λe=>q'.2.1 ?_) x hx y hy;have e:m=u.1:=e;rw[<-e];exact(h2.from_ t ht).2 m hm
     . obtain⟨m,hm,nt,hx⟩:=tf t ht x hx;obtain⟨m',ir,rq,hy⟩:=tf t' qi y hy;exact J2 bd nt rq (J2 h2.dis ht qi ai m hm m' ir) x hx y hy
theorem MD {ys:List Str}{Ds:List Deed}{M:Own}{Q:DS->Own->Prop}(hn:AK ys) (h:∀D∈Ds,AZ ys D) (hl:Ds.length<=60) (q:Q (.d (efO (DX Ds))) M):[DS.d (.tuple (Ds.map Deed.d))].length=1/\GS.pre [.d (.tuple (Ds.map Deed.d))] M/\∀x M',GS.post [.d (.tuple (Ds.map Deed.d))] M x M'->Q x M':=⟨rfl,⟨ys,Ds,rfl,hn,h,hl⟩,λx M' hh=>by obtain⟨rfl,rfl⟩:=hh Ds rfl;exact q⟩
theorem RZ {c:Int}{M:Own}{Q:DS->Own->Prop}(q:Q (.d (.bool true)) M):[DS.d (.int c)].length=1/\J1.pre [.d (.int c)] M/\∀x M',J1.post [.d (.int c)] M x M'->Q x M':=⟨rfl,⟨c,rfl⟩,λx M' hh=>by obtain⟨rfl,rfl⟩:=hh;exact q⟩
theorem O9 {ys:List Str}(hn:AK ys) {Ds:List Deed}(h:∀D∈Ds,AZ ys D):∀E,DX Ds=some E->OkE ys E:=by
 have go:∀k,k<=Ds.length->∀E,DX (Ds.take k)=some E->OkE ys E:=by
   intro k;induction k with
   | zero=>intro _ E e;cases e;exact OkE.nil ys
   | succ k ih=>
     intro hk E e;have hD:Ds[k]?=some Ds[k]:=zV hk;rw[a1Q,hD,a6X] at e;cases hF:DX (Ds.take k) with
     | none=>rw[show DX (Ds.take k++[Ds[k]])=none by unfold DX at hF ⊢;rw[a3V,hF];rfl] at e;cases e
     | some F=> rw[KM hF] at e;exact OkE.behind hn (ih (by lia) F hF) (OkE.deed hn (h _ (a0K hk))) e
 intro E e;exact go Ds.length (zR _) E (by rw[a1J];exact e)
section
variable {ys:List Str}{A B C:Eff}
theorem OB {α β:Type}{f g:α->List β}:∀{l:List α},(∀x∈l,f x=g x)->l.flatMap f=l.flatMap g
 | [],_=>rfl
 | a::r,h=>by rw[a9K,a9K,h a (by simp),OB λx hx=>h x (yV _ hx)]
theorem BU {ts:List (Str×Ent)}(nd:(ts.map (·.1)).Nodup) {n:Str}{e:Ent}:AG ts n=some e↔(n,e)∈ts:=by
 constructor
 . intro h;have hh:CF ts n=true:=by unfold CF;rw[h];rfl
   have:=JQ hh;unfold AH at this;rw[h] at this;exact this
 . intro h;exact N1 nd h
theorem OC {ts:List (Str×Ent)}(nd:(ts.map (·.1)).Nodup) {n:Str}{e:Ent}(h:(n,e)∈ts):AH ts n=e:=by unfold AH;rw[(BU nd).mpr h];rfl
theorem i9 {ts:List (Str×Ent)}{n:Str}(h:n∉ts.map (·.1)):AH ts n=(.inr n,[n],0):=by
 unfold AH;cases e:AG ts n with
 | none=>rfl
 | some v=>exact absurd (BN.mp (by unfold CF;rw[e];rfl)) h
theorem OD (hc:B2 A B=false):(∀n∈B.st,n∈A.st++A.fr->n∈A.lf.map (·.1))/\∀n∈B.fr,n∉A.lf.map (·.1):=by
 unfold B2 at hc;rw[Bool.or_eq_false_iff] at hc;refine⟨λn hn hk=>?_,λn hn hk=>?_⟩;. have:=List.any_eq_false.mp hc.1 n hn;rw[decide_eq_true hk,b6Q] at this;exact BN.mp (by simpa using this)
 . exact List.any_eq_false.mp hc.2 n hn (BN.mpr hk)
theorem ZA:B2 A B=true↔∃n,(n∈B.st/\n∈A.st++A.fr/\n∉A.lf.map (·.1))\/(n∈B.fr/\n∈A.lf.map (·.1)):=by
 unfold B2;rw[Bool.or_eq_true,a7W,a7W];constructor
 . rintro (⟨n,h1,h2⟩ | ⟨n,h1,h2⟩);. rw[a1Z] at h2;exact⟨n,.inl ⟨h1,of_decide_eq_true h2.1,λq=>by rw[BN.mpr q] at h2;cases h2.2⟩⟩
   . exact⟨n,.inr ⟨h1,BN.mp h2⟩⟩
 . rintro⟨n,⟨h1,h2,h3⟩ | ⟨h1,h2⟩⟩
   . refine .inl ⟨n,h1,?_⟩;rw[decide_eq_true h2,b6Q];cases e:CF A.lf n with
     | false=>rfl
     | true=>exact absurd (BN.mp e) h3
   . exact .inr ⟨n,h1,BN.mpr h2⟩
theorem XS (h1:OkE ys A) (h2:OkE ys B) (hc:B2 A B=false) {m:Str}(hm:m∈B.st):AH (B6 A B) m=AH A.lf m:=by
 have bk:=KN h1 h2;by_cases hk:m∈A.lf.map (·.1);. obtain⟨t,ht,rfl⟩:=zL.mp hk;rw[OC h1.keys (e:=t.2) ht,OC bk (e:=t.2) (zA _ ht)]
 . rw[i9 hk];have hn:m∉A.st++A.fr:=λq=>hk ((OD hc).1 m hm q);exact OC bk (zB _ (zL.mpr ⟨m,yL.mpr ⟨hm,by simp[hn]⟩,rfl⟩))
theorem WF {ts us:List (Str×Ent)}{e:Ent}(hf:∀n∈e.2.1,AH ts n=AH us n) (hp:∀n,e.1 = .inr n->AH ts n=AH us n):B5 ts e=B5 us e:=by
 unfold B5;rw[OB (g:=λn=>(AH us n).2.1) λn hn=>by rw[hf n hn],yM (g:=λn=>(AH us n).2.2) λn hn=>by rw[hf n hn]];cases he:e.1 with
 | inl p=>rfl
 | inr n=>simp only[hp n he]
theorem UK (h1:OkE ys A) (h2:OkE ys B) (hc:B2 A B=false) {t:Str×Ent}(ht:t∈B.lf):B5 (B6 A B) t.2=B5 A.lf t.2:=
 WF (λn hn=>XS h1 h2 hc ((h2.from_ t ht).2 n hn)) λn hp=>XS h1 h2 hc (h2.place t ht n hp)
theorem dA (h1:OkE ys A) (h2:OkE ys B) (hc:B2 A B=false) {n:Str}{e:Ent}:(n,e)∈CP A B↔((n,e)∈A.lf/\n∉B.st/\n∉B.lf.map (·.1))\/∃e0,(n,e0)∈B.lf/\e=B5 A.lf e0:=by
 rw[ES h1 h2];constructor
 . rintro (⟨q1,q2,q3⟩ | ⟨t,ht,q⟩)
   . rcases yW.mp q1 with z | z;. exact .inl ⟨z,q2,q3⟩
     . obtain⟨m,hm,e'⟩:=zL.mp z;have:m=n:=congrArg (·.1) e';subst this;exact absurd (yL.mp hm).1 q2
   . rw[UK h1 h2 hc ht] at q;obtain⟨rfl,rfl⟩:=Prod.mk.inj q;exact .inr ⟨t.2,ht,rfl⟩
 . rintro (⟨q1,q2,q3⟩ | ⟨e0,h0,rfl⟩);. exact .inl ⟨zA _ q1,q2,q3⟩
   . exact .inr ⟨(n,e0),h0,by rw[UK h1 h2 hc h0]⟩
theorem j9 {X:List (Str×Ent)}(h:(X.map (·.1)).Nodup):X.Nodup:=(List.pairwise_map.mp h).imp λ{a b} q e=>q (by rw[e])
theorem dB {X Y:List (Str×Ent)}(nx:(X.map (·.1)).Nodup) (ny:(Y.map (·.1)).Nodup) (h:∀n e,(n,e)∈X↔(n,e)∈Y):C7 X=C7 Y:=by have hp:X.Perm Y:=(b3W (j9 nx) (j9 ny)).mpr λt=>h t.1 t.2;unfold C7;rw[Z2 (hp.map _)];refine yM λn hn=>?_;have hn:n∈Y.map (·.1):=(AO _).mem_iff.mp hn;obtain⟨t,ht,rfl⟩:=zL.mp hn;rw[OC ny (e:=t.2) ht,OC nx (e:=t.2) ((h t.1 t.2).mpr ht)]
def UL (E:Eff):Prop:=BF E.st=E.st/\BF E.fr=E.fr/\C7 E.lf=E.lf/\∀t∈E.lf,BF t.2.2.1=t.2.2.1
structure Beh (A B F:Eff):Prop where
 no:B2 A B=false
 st:∀n,n∈F.st↔n∈A.st\/(n∈B.st/\n∉A.st++A.fr)
 fr:∀n,n∈F.fr↔n∈A.fr\/(n∈B.fr/\n∉A.st++A.fr)
 lf:∀n e,(n,e)∈F.lf↔((n,e)∈A.lf/\n∉B.st/\n∉B.lf.map (·.1))\/∃e0,(n,e0)∈B.lf/\e=B5 A.lf e0
theorem dC {F:Eff}(h1:OkE ys A) (h2:OkE ys B) (h:B3 A B=some F):Beh A B F:=by
 unfold B3 at h;split at h;. cases h
 rename_i hc;have hc:B2 A B=false:=by simpa using hc
 have e:=(Option.some.inj h).symm;subst e;refine⟨hc,λn=>?_,λn=>?_,λn e=>?_⟩;. rw[show(n∈BF (AQ A B))↔n∈AQ A B from(AO _).mem_iff];unfold AQ;rw[yW,yL];simp
 . rw[show(n∈BF (CB A B))↔n∈CB A B from(AO _).mem_iff];unfold CB;rw[yW,yL];simp
 . rw[show((n,e)∈C7 (CP A B))↔(n,e)∈CP A B from(G7 (G8 h1 h2)).mem_iff];exact dA h1 h2 hc
theorem UM {a b:List Int}(h:a.Perm b):a.sum=b.sum:=by
 induction h with
 | nil=>rfl
 | cons x _ ih=>rw[b1X,b1X,ih]
 | swap x y l=>simp only[b1X];lia
 | trans _ _ ih1 ih2=>exact ih1.trans ih2
theorem UN (h:Str->List Str) (k:Str->Int):∀l:List Str,((l.flatMap h).map k).sum=(l.map λn=>((h n).map k).sum).sum
 | []=>rfl
 | a::r=>by rw[a9K,xI,List.sum_append,zI,b1X,UN h k r]
theorem QK (a b:Str->Int):∀l:List Str,(l.map λn=>a n+b n).sum=(l.map a).sum+(l.map b).sum
 | []=>rfl
 | x::r=>by simp only[zI,b1X];rw[QK a b r];lia
theorem ZB (h:OkE ys A) {n:Str}(hn:n∈A.lf.map (·.1)):n∈A.st\/n∈A.fr:=by obtain⟨t,ht,rfl⟩:=zL.mp hn;exact yW.mp (h.known t ht)
theorem dD (h:B2 A B=true):B3 A B=none:=by unfold B3;rw[if_pos h]
theorem UO (h:B2 A B=false):B3 A B=some ⟨BF (AQ A B),BF (CB A B),C7 (CP A B)⟩:=by unfold B3;rw[h];rfl
theorem S0 (l:List Str):BF (BF l)=BF l:=i4 (J0 l)
theorem ZC {ts:List (Str×Ent)}(nd:(ts.map (·.1)).Nodup):C7 (C7 ts)=C7 ts:=by have sp:=G7 nd;exact dB (((sp.map (·.1)).nodup_iff).mpr nd) nd λn e=>sp.mem_iff
theorem WG {F:Eff}(h1:OkE ys A) (h2:OkE ys B) (sA:UL A) (h:B3 A B=some F):UL F:=by
 have hb:=dC h1 h2 h;rw[UO hb.no] at h;have e:=(Option.some.inj h).symm;refine⟨by rw[e];exact S0 _,by rw[e];exact S0 _,by rw[e];exact ZC (G8 h1 h2),λt ht=>?_⟩;rcases (hb.lf t.1 t.2).mp ht with ⟨q,_⟩ | ⟨e0,_,q⟩
 . exact sA.2.2.2 _ q
 . rw[q];exact S0 _
theorem iA:UL ⟨[],[],[]⟩:=⟨rfl,rfl,rfl,λt ht=>by cases ht⟩
theorem iB (hn:AK ys):∀(k:Nat) (Ds:List Deed),Ds.length=k->(∀D∈Ds,AZ ys D)->∀E,DX Ds=some E->UL E:=by
 intro k;induction k with
 | zero=> intro Ds hk _ E h;have:Ds=[]:=List.length_eq_zero_iff.mp hk;subst this;cases h;exact iA
 | succ k ih=>
   intro B hB hd E h;obtain⟨C,D,rfl⟩:∃C D,B=C++[D]:=⟨B.dropLast,B.getLast (by rintro rfl;cases hB),(List.dropLast_concat_getLast _).symm⟩
   have hC:∀E∈C,AZ ys E:=λE hE=>hd E (zA _ hE);have hD:=hd D (by simp);cases hX:DX C with
   | none=>unfold DX at hX h;rw[a3V,hX] at h;cases h
   | some X=> rw[KM hX] at h;exact WG (O9 hn hC X hX) (OkE.deed hn hD) (ih C (by simpa using hB) hC X hX) h
end
theorem dE {ys:List Str}(hn:AK ys) {Ds:List Deed}(h:∀D∈Ds,AZ ys D):∀E,DX Ds=some E->UL E:=iB hn _ Ds rfl h
theorem S1 {ys l:List Str}(hn:AK ys) (h:∀n∈l,n∈ys):(AJ l).canLay0=true/\(AJ l).depth<=3:=by
 refine⟨zG (U2 (ss:=l) λz hz=>hn.1 z (h z hz)),?_⟩;have:a5X (l.map a0J)<=1:=LB λd hd=>by obtain⟨z,_,rfl⟩:=zL.mp hd;simp[a2W]
 simp only[AJ,a2W];lia
theorem mJ {ys:List Str}(hn:AK ys) {o:Option Eff}(h:∀E,o=some E->OkE ys E):(efO o).canLay0=true/\(efO o).depth<=9:=by
 cases o with
 | none=>exact⟨rfl,by show a2W .none<=9;simp[a2W]⟩
 | some E=>
   have hE:=h E rfl;have c1:=S1 hn hE.st.2;have c2:=S1 hn hE.fr.2;have c3:∀d∈E.lf.map lfE,d.canLay0=true/\d.depth<=5:=λd hd=>by
     obtain⟨t,ht,rfl⟩:=zL.mp hd;have k1:=S1 hn (l:=t.2.2.1) λn az=>hE.st.2 n ((hE.from_ t ht).2 n az);have nu:K5 t.1:=hn.1 _ ((yW.mp (hE.known t ht)).elim (hE.st.2 _) (hE.fr.2 _));have k2:(plE t.2.1).canLay0=true/\(plE t.2.1).depth<=1:=by
       cases hp:t.2.1 with
       | inl p=>exact⟨rfl,by simp[plE,a2W]⟩
       | inr n=>exact⟨CL (hn.1 n (hE.st.2 n (hE.place t ht n hp))),by simp[plE,a2W]⟩
     have k0:(a0J t.1).canLay0=true:=CL nu;have all:∀d∈[a0J t.1,plE t.2.1,AJ t.2.2.1,.int t.2.2.2],d.canLay0=true/\d.depth<=3:=λd hd=>by
       simp only[yX,b6X,or_false] at hd;rcases hd with rfl | rfl | rfl | rfl;. exact⟨k0,by simp[a2W]⟩
       . exact⟨k2.1,by lia⟩
       . exact k1
       . exact⟨rfl,by simp[a2W]⟩
     refine⟨NL λd hd=>(all d hd).1,?_⟩;have:a5X [a0J t.1,plE t.2.1,AJ t.2.2.1,.int t.2.2.2]<=3:=LB λd hd=>(all d hd).2;simp only[lfE,a2W];lia
   have c4:(PyData.tuple (E.lf.map lfE)).canLay0=true/\(PyData.tuple (E.lf.map lfE)).depth<=7:=by refine⟨NL λd hd=>(c3 d hd).1,?_⟩;have:a5X (E.lf.map lfE)<=5:=LB λd hd=>(c3 d hd).2;simp only[a2W];lia
   have all:∀d∈[AJ E.st,AJ E.fr,.tuple (E.lf.map lfE)],d.canLay0=true/\d.depth<=7:=λd hd=>by
     simp only[yX,b6X,or_false] at hd;rcases hd with rfl | rfl | rfl;. exact⟨c1.1,by lia⟩
     . exact⟨c2.1,by lia⟩
     . exact c4
   refine⟨NL λd hd=>(all d hd).1,?_⟩;have:a5X [AJ E.st,AJ E.fr,.tuple (E.lf.map lfE)]<=7:=LB λd hd=>(all d hd).2;show a2W (.tuple [AJ E.st,AJ E.fr,.tuple (E.lf.map lfE)])<=9;simp only[a2W];lia
theorem ZD {ys:List Str}(hn:AK ys) {o:Option Eff}(h:∀E,o=some E->OkE ys E):zH (efO o)=true:=by have h1:=mJ hn h;exact IT h1.1 (by lia)
open Classical in
theorem ME {p:Addr}{ts:List (Str×Ent)}{M:Own}{Q:DS->Own->Prop}(m:M p=some (MN ts)) (nd:(ts.map (·.1)).Nodup) (bc:ts.length < 64) (q:Q (.d (.tuple ((C7 ts).map lfE))) M):[DS.loc p].length=1/\ER.pre [.loc p] M/\∀x M',ER.post [.loc p] M x M'->Q x M':=⟨rfl,⟨p,ts,rfl,m,nd,bc⟩,λx M' hh=>by obtain⟨rfl,rfl⟩:=hh p ts rfl m;exact q⟩
theorem WH {ys:List Str}{one other:Eff}{p:Addr}{M:Own}{Q:DS->Own->Prop}(m:M p=some (MN one.lf)) (h1:OkE ys one) (h2:OkE ys other) (hn:AK ys) (q:Q (.d (.bool (B2 one other))) M):(clX one other p).length=3/\G3.pre (clX one other p) M/\∀x M',G3.post (clX one other p) M x M'->Q x M':=⟨rfl,⟨ys,one,other,p,rfl,m,h1,h2,hn⟩,λx M' hh=>by obtain⟨rfl,rfl⟩:=hh one other p rfl;exact q⟩
theorem UP {ts:List (Str×Ent)}{e:Ent}{M:Own}{Q:DS->Own->Prop}(hf:∀n∈e.2.1,CF ts n=true) (hp:∀n,e.1 = .inr n->CF ts n=true) (bc:(e.2.1.flatMap λn=>(AH ts n).2.1).length < 64) (q:Q (.d (C9 (B5 ts e))) M):(taX ts e).length=4/\IC.pre (taX ts e) M/\∀x M',IC.post (taX ts e) M x M'->Q x M':=⟨rfl,⟨ts,e,rfl,hf,hp,bc⟩,λx M' hh=>by obtain⟨rfl,rfl⟩:=hh ts e rfl;exact q⟩
theorem dF {a b:List (Str×Ent)}(h:UC a=UC b):a=b:=UD (congrArg MO.d (PyData.dict.inj h))
end DL
namespace DL
open PySem PySem.Spec L2
abbrev Gt:=Str->Option (Int×Int)
def plV (g:Gt):Pl->Int | .inl p=>p | .inr n=>((g n).getD (0,0)).1
def ctV (g:Gt) (l:List Str):Int:=(l.map λn=>((g n).getD (0,0)).2).sum
def enV (g:Gt) (e:Ent):Int×Int:=(plV g e.1,e.2.2+ctV g e.2.1)
def CW (E:Eff) (g:Gt) (n:Str):Option (Int×Int):=match AG E.lf n with | some e=>some (enV g e) | none=>if n∈E.st then none else g n
def okV (E:Eff) (g:Gt):Prop:=(∀n∈E.st,(g n).isSome=true)/\∀n∈E.fr,g n=none
section
variable {ys:List Str}{A B F:Eff}{g:Gt}{n:Str}{w:List Th}{D:Deed}
theorem JR {E:Eff}{e:Ent}(h:AG E.lf n=some e):CW E g n=some (enV g e):=by unfold CW;rw[h]
theorem IE {E:Eff}(h:AG E.lf n=none) (hs:n∈E.st):CW E g n=none:=by unfold CW;rw[h];exact if_pos hs
theorem FP {E:Eff}(h:AG E.lf n=none) (hs:n∉E.st):CW E g n=g n:=by unfold CW;rw[h];exact if_neg hs
theorem KQ {ts:List (Str×Ent)}(h:n∉ts.map (·.1)):AG ts n=none:=by
 cases e:AG ts n with
 | none=>rfl
 | some v=>exact absurd (BN.mp (by unfold CF;rw[e];rfl)) h
theorem IF {ts:List (Str×Ent)}(h:n∈ts.map (·.1)):∃e,AG ts n=some e:=d0 h
theorem S2 (h:OkE ys A) (hn:n∉A.st++A.fr):AG A.lf n=none:=KQ λq=>hn (by
 rcases ZB h q with q | q;. exact yW.mpr (.inl q)
 . exact yW.mpr (.inr q))
theorem S3 (h1:OkE ys A) (h2:OkE ys B) (hF:Beh A B F):okV F g↔okV A g/\okV B (CW A g):=by
 obtain⟨c1,c2⟩:=OD hF.no;constructor
 . rintro⟨hs,hf⟩;have i_:okV A g:=⟨λn hn=>hs n ((hF.st n).mpr (.inl hn)),λn hn=>hf n ((hF.fr n).mpr (.inl hn))⟩
   refine⟨i_,λn hn=>?_,λn hn=>?_⟩
   . by_cases hk:n∈A.st++A.fr;. obtain⟨e,he⟩:=IF (c1 n hn hk);rw[JR he];rfl
     . rw[FP (S2 h1 hk) λq=>hk (yW.mpr (.inl q))];exact hs n ((hF.st n).mpr (.inr ⟨hn,hk⟩))
   . have hl:=KQ (c2 n hn);by_cases hA:n∈A.st;. exact IE hl hA
     . rw[FP hl hA];by_cases hB:n∈A.fr;. exact i_.2 n hB
       . exact hf n ((hF.fr n).mpr (.inr ⟨hn,λq=>(yW.mp q).elim hA hB⟩))
 . rintro⟨i_,hs,hf⟩;refine⟨λn hn=>?_,λn hn=>?_⟩
   . rcases (hF.st n).mp hn with q | ⟨q,hk⟩
     . exact i_.1 n q
     . have:=hs n q;rwa [FP (S2 h1 hk) λq=>hk (yW.mpr (.inl q))] at this
   . rcases (hF.fr n).mp hn with q | ⟨q,hk⟩
     . exact i_.2 n q
     . have:=hf n q;rwa [FP (S2 h1 hk) λq=>hk (yW.mpr (.inl q))] at this
theorem ZE (h1:OkE ys A) (h:B2 A B=true):¬(okV A g/\okV B (CW A g)):=by
 rintro⟨i_,hs,hf⟩;obtain⟨n,⟨q1,q2,q3⟩ | ⟨q1,q2⟩⟩:=ZA.mp h
 . have h3:=hs n q1;have hl:=KQ q3;by_cases hA:n∈A.st;. rw[IE hl hA] at h3;cases h3
   . rw[FP hl hA,i_.2 n ((yW.mp q2).resolve_left hA)] at h3;cases h3
 . have h3:=hf n q1;obtain⟨e,he⟩:=IF q2;rw[JR he] at h3;cases h3
theorem XT (h1:OkE ys A) (hc:B2 A B=false) (okB:okV B (CW A g)) {m:Str}(hm:m∈B.st):CW A g m=some (enV g (AH A.lf m)):=by
 obtain⟨c1,c2⟩:=OD hc;by_cases hk:m∈A.st++A.fr;. obtain⟨e,he⟩:=IF (c1 m hm hk);rw[JR he];unfold AH;rw[he];rfl
 . have hl:=S2 h1 hk;have h3:=okB.1 m hm;rw[FP hl λq=>hk (yW.mpr (.inl q))] at h3 ⊢;unfold AH;rw[hl];obtain⟨v,hv⟩:=xY.mp h3;rw[hv];show some v=some (((g m).getD (0,0)).1,0+([m].map λn=>((g n).getD (0,0)).2).sum);simp[hv]
theorem dG (h1:OkE ys A) (hc:B2 A B=false) (okB:okV B (CW A g)) {e:Ent}(hf:∀m∈e.2.1,m∈B.st) (hp:∀m,e.1 = .inr m->m∈B.st):enV g (B5 A.lf e)=enV (CW A g) e:=by
 obtain⟨p,fs,k⟩:=e;have e1:plV g (B5 A.lf (p,fs,k)).1=plV (CW A g) p:=by
   cases p with
   | inl p=>rfl
   | inr m=> show plV g (AH A.lf m).1=((CW A g m).getD (0,0)).1;rw[XT h1 hc okB (hp m rfl)];rfl
 have e2:ctV (CW A g) fs=(fs.map λm=>(AH A.lf m).2.2+ctV g (AH A.lf m).2.1).sum:=by unfold ctV;congr 1;refine yM λm hm=>?_;rw[XT h1 hc okB (hf m hm)];rfl
 have e3:ctV g (BF (fs.flatMap λn=>(AH A.lf n).2.1))=(fs.map λm=>ctV g (AH A.lf m).2.1).sum:=by unfold ctV;rw[UM ((AO _).map _),UN]
 show(plV g (B5 A.lf (p,fs,k)).1,(k+(fs.map λn=>(AH A.lf n).2.2).sum)+ctV g (BF (fs.flatMap λn=>(AH A.lf n).2.1)))=(plV (CW A g) p,k+ctV (CW A g) fs);rw[e1,e2,e3,QK];congr 1;lia
theorem dH (h1:OkE ys A) (h2:OkE ys B) (oF:OkE ys F) (hF:Beh A B F) (i_:okV A g) (okB:okV B (CW A g)) (n:Str):CW F g n=CW B (CW A g) n:=by
 have hc:=hF.no;cases hB:AG B.lf n with
 | some e0=> have hm:=(BU h2.keys).mp hB;have rz:AG F.lf n=some (B5 A.lf e0):=(BU oF.keys).mpr ((hF.lf _ _).mpr (.inr ⟨e0,hm,rfl⟩));rw[JR rz,JR hB,dG h1 hc okB (h2.from_ _ hm).2 (h2.place _ hm)]
 | none=>
   have sP:n∉B.lf.map (·.1):=λq=>by obtain⟨e,he⟩:=IF q;rw[he] at hB;cases hB
   have sQ:∀e0,(n,e0)∉B.lf:=λe0 q=>sP (zL.mpr ⟨_,q,rfl⟩);by_cases hs:n∈B.st
   . rw[IE hB hs];have hl:AG F.lf n=none:=by
       cases hh:AG F.lf n with
       | none=>rfl
       | some e=>
         rcases (hF.lf _ _).mp ((BU oF.keys).mp hh) with ⟨_,q,_⟩ | ⟨e0,q,_⟩
         . exact absurd hs q
         . exact absurd q (sQ e0)
     by_cases hk:n∈A.st++A.fr
     . rcases yW.mp hk with q | q;. exact IE hl ((hF.st n).mpr (.inl q))
       . by_cases hFs:n∈F.st;. exact IE hl hFs
         . rw[FP hl hFs];exact i_.2 n q
     . exact IE hl ((hF.st n).mpr (.inr ⟨hs,hk⟩))
   . rw[FP hB hs];cases hA:AG A.lf n with
     | some e=> have rz:AG F.lf n=some e:=(BU oF.keys).mpr ((hF.lf _ _).mpr (.inl ⟨(BU h1.keys).mp hA,hs,sP⟩));rw[JR rz,JR hA]
     | none=>
       have hl:AG F.lf n=none:=by
         cases hh:AG F.lf n with
         | none=>rfl
         | some e=>
           rcases (hF.lf _ _).mp ((BU oF.keys).mp hh) with ⟨q,_,_⟩ | ⟨e0,q,_⟩
           . rw[(BU h1.keys).mpr q] at hA;cases hA
           . exact absurd q (sQ e0)
       by_cases hAs:n∈A.st;. rw[IE hA hAs,IE hl ((hF.st n).mpr (.inl hAs))]
       . rw[FP hA hAs,FP hl λq=>?_];rcases (hF.st n).mp q with q | ⟨q,_⟩
         . exact hAs q
         . exact hs q
end
end DL
namespace DL
open PySem PySem.Spec L2
section
variable {ys:List Str}{A B F:Eff}{g:Gt}{n:Str}{w:List Th}{D:Deed}
theorem ZF {ns:List Str}{D:Deed}:AY ns D=none↔∀n∈D.names,(n∈ns)↔¬D.made=some n:=⟨FC,TR⟩
theorem S4 (hr:D.real):okV (AF D) (AE w)↔AY (w.map (·.1)) D=none:=by
 rw[ZF];have hm:∀n,n∈w.map (·.1)↔(AE w n).isSome=true:=λn=>C0;have ij:∀n,AE w n=none↔¬(n∈w.map (·.1)):=λn=>by rw[hm];simp
 have f_:=hr.2.1;have hp:∀x y n,n∈BF [x,y]↔n=x\/n=y:=λx y n=>by rw[(AO _).mem_iff];simp
 unfold okV;simp only[<-hm,ij];cases D with
 | put x p k=>simp[AF,Deed.names,Deed.made]
 | take x=>simp[AF,Deed.names,Deed.made]
 | move x p=>simp[AF,Deed.names,Deed.made]
 | count x k=>simp[AF,Deed.names,Deed.made]
 | name x y=> have h1:x≠y:=f_;have h2:=a3J h1;simp[AF,Deed.names,Deed.made,h1,h2]
 | split x y p k=> have h1:x≠y:=f_;have h2:=a3J h1;simp[AF,Deed.names,Deed.made,h1,h2]
 | join x y=>simp[AF,Deed.names,Deed.made,hp]
theorem ZG {ts:List (Str×Ent)}(nd:(ts.map (·.1)).Nodup) (n:Str):AG (C7 ts) n=AG ts n:=by
 have sp:=G7 nd;have jm:((C7 ts).map (·.1)).Nodup:=((sp.map (·.1)).nodup_iff).mpr nd;cases h:AG ts n with
 | none=> exact KQ λq=>by obtain⟨e,he⟩:=IF ((sp.map (·.1)).mem_iff.mp q);rw[h] at he;cases he
 | some e=>exact(BU jm).mpr (sp.mem_iff.mpr ((BU nd).mp h))
theorem dI (hr:D.real) (ha:AY (w.map (·.1)) D=none) (n:Str):AE (doT w D) n=CW (AF D) (AE w) n:=by
 rw[gV hr ha];have f_:=hr.2.1;have st:∀{n},n∈D.names->D.made≠some n->∃v,AE w n=some v:=λhn hm=>EC (K8 ha hn hm);unfold CW;cases D with
 | put x p k=>
   by_cases h:n=x;. subst h;simp[AF,AG,enV,plV,ctV]
   . simp[AF,AG,h,a3J h]
 | take x=>
   by_cases h:n=x;. subst h;simp[AF,AG]
   . simp[AF,AG,h]
 | move x p=>
   obtain⟨v,hv⟩:=st (n:=x) (by simp[Deed.names]) (by simp[Deed.made]);by_cases h:n=x;. subst h;simp[AF,AG,enV,plV,ctV,hv]
   . simp[AF,AG,h,a3J h]
 | count x k=>
   obtain⟨v,hv⟩:=st (n:=x) (by simp[Deed.names]) (by simp[Deed.made]);by_cases h:n=x;. subst h;simp[AF,AG,enV,plV,ctV,hv,Int.add_comm]
   . simp[AF,AG,h,a3J h]
 | name x y=>
   have h1:x≠y:=f_;obtain⟨v,hv⟩:=st (n:=x) (by simp[Deed.names]) (by simp[Deed.made];exact λe=>h1 e.symm);by_cases h:n=y;. subst h;simp[AF,AG,enV,plV,ctV,hv]
   . by_cases h2:n=x;. subst h2;simp[AF,AG,h,a3J h]
     . simp[AF,AG,h,h2,a3J h]
 | split x y p k=>
   have h1:x≠y:=f_;obtain⟨v,hv⟩:=st (n:=x) (by simp[Deed.names]) (by simp[Deed.made];exact λe=>h1 e.symm);have nd:([(x,((.inr x,[x],-k):Ent)),(y,.inl p,[],k)].map (·.1)).Nodup:=by simpa using h1
   have e:=ZG nd n;show _=match AG (C7 [(x,((.inr x,[x],-k):Ent)),(y,.inl p,[],k)]) n with | some e=>some (enV (AE w) e) | none=>if n∈[x] then none else AE w n
   rw[e];by_cases h:n=y;. subst h;simp[AG,enV,plV,ctV,h1]
   . by_cases h2:n=x;. subst h2;simp[AG,enV,plV,ctV,hv,h,Int.add_comm]
     . simp[AG,h,h2,a3J h,a3J h2]
 | join x y=>
   have h1:x≠y:=f_;obtain⟨v,hv⟩:=st (n:=x) (by simp[Deed.names]) (by simp[Deed.made]);obtain⟨u,hu⟩:=st (n:=y) (by simp[Deed.names]) (by simp[Deed.made]);have hp:∀n,n∈BF [x,y]↔n=x\/n=y:=λn=>by rw[(AO _).mem_iff];simp
   have hs:ctV (AE w) (BF [x,y])=v.2+u.2:=by unfold ctV;rw[UM ((AO _).map _)];simp[hv,hu]
   by_cases h:n=y;. subst h;simp[AF,AG,hp,h1]
   . by_cases h2:n=x;. subst h2;simp[AF,AG,enV,plV,hs,hv,hu,h]
     . simp[AF,AG,hp,h,h2,a3J h2]
def OE (o:Option (List Th)) (D:Deed):Option (List Th):=o.bind λw=>if AY (w.map (·.1)) D=none then some (doT w D) else none
def B7 (w:List Th) (Ds:List Deed):Option (List Th):=Ds.foldl OE (some w)
theorem KR (w:List Th) (Ds:List Deed) (D:Deed):B7 w (Ds++[D])=OE (B7 w Ds) D:=by unfold B7;rw[a3V];rfl
theorem dJ {Ds:List Deed}{k:Nat}(h:B7 w (Ds.take k)=none):B7 w Ds=none:=by
 have e:Ds=Ds.take k++Ds.drop k:=(List.take_append_drop k Ds).symm;unfold B7 at h ⊢;rw[e,a3V,h];generalize Ds.drop k=l;induction l with
 | nil=>rfl
 | cons a r ih=>exact ih
theorem dL {Ds:List Deed}{k:Nat}{w2:List Th}(h:B7 w (Ds.take k)=some w2) (hD:Ds[k]?=some D) (ha:AY (w2.map (·.1)) D=none):B7 w (Ds.take (k+1))=some (doT w2 D):=by rw[a1Q,hD];show B7 w (Ds.take k++[D])=_;rw[KR,h];show(if AY (w2.map (·.1)) D=none then some (doT w2 D) else none)=_;rw[if_pos ha]
theorem UQ {Ds:List Deed}{k:Nat}{w2:List Th}(h:B7 w (Ds.take k)=some w2) (hD:Ds[k]?=some D) (ha:¬AY (w2.map (·.1)) D=none):B7 w Ds=none:=by refine dJ (k:=k+1) ?_;rw[a1Q,hD];show B7 w (Ds.take k++[D])=_;rw[KR,h];show(if AY (w2.map (·.1)) D=none then some (doT w2 D) else none)=_;rw[if_neg ha]
def jA (w:List Th) (o:Option Eff) (r:Option (List Th)):Prop:=match o with
 | none=>r=none
 | some E=>match r with
   | none=>¬okV E (AE w)
   | some w2=>okV E (AE w)/\∀n,AE w2 n=CW E (AE w) n
theorem J3 (hn:AK ys) (w:List Th):∀(k:Nat) (Ds:List Deed),Ds.length=k->(∀D∈Ds,AZ ys D)->jA w (DX Ds) (B7 w Ds)
 | 0,Ds,hl,h=>by obtain rfl:=List.length_eq_zero_iff.mp hl;exact⟨⟨(λn h=>nomatch h),(λn h=>nomatch h)⟩,λn=>rfl⟩
 | k+1,Ds,hl,h=>by
   obtain⟨C,D,rfl⟩:∃C D,Ds=C++[D]:=⟨Ds.dropLast,Ds.getLast (by rintro rfl;cases hl),(List.dropLast_concat_getLast _).symm⟩
   have hC:∀D∈C,AZ ys D:=λD hD=>h D (yW.mpr (.inl hD));have hD:AZ ys D:=h D (by simp);have ih:=J3 hn w k C (by simpa using hl) hC;cases hE:DX C with
   | none=> rw[hE] at ih;have ih:B7 w C=none:=ih;rw[UG (k:=C.length) (by rw[List.take_left];exact hE),KR,ih];exact rfl
   | some E=>
     rw[hE] at ih;rw[KM hE,KR];have oE:=O9 hn hC E hE;have oD:=OkE.deed hn hD;cases hc:B2 E (AF D) with
     | true=>
       rw[dD hc];show OE (B7 w C) D=none;cases hr:B7 w C with
       | none=>rfl
       | some w2=> rw[hr] at ih;obtain⟨i1,i2⟩:=ih;have i3:AE w2=CW E (AE w):=funext i2;show(if AY (w2.map (·.1)) D=none then some (doT w2 D) else none)=none;rw[if_neg λq=>ZE oE hc ⟨i1,by rw[<-i3];exact(S4 hD.1).mpr q⟩]
     | false=>
       have hs:=UO hc;have hF:=dC oE oD hs;have oF:=OkE.behind hn oE oD hs;rw[hs];generalize (⟨BF (AQ E (AF D)),BF (CB E (AF D)),C7 (CP E (AF D))⟩:Eff)=F at hF oF;cases hr:B7 w C with
       | none=> rw[hr] at ih;have ih:¬okV E (AE w):=ih;show ¬okV F (AE w);exact λq=>ih ((S3 oE oD hF).mp q).1
       | some w2=>
         rw[hr] at ih;obtain⟨i1,i2⟩:=ih;have i3:AE w2=CW E (AE w):=funext i2;show jA w (some F) (if AY (w2.map (·.1)) D=none then some (doT w2 D) else none);by_cases ha:AY (w2.map (·.1)) D=none
         . rw[if_pos ha];have okB:okV (AF D) (CW E (AE w)):=by rw[<-i3];exact(S4 hD.1).mpr ha
           refine⟨(S3 oE oD hF).mpr ⟨i1,okB⟩,λn=>?_⟩;rw[dI hD.1 ha,i3,dH oE oD oF hF i1 okB]
         . rw[if_neg ha];show ¬okV F (AE w);exact λq=>ha ((S4 hD.1).mp (by rw[i3];exact((S3 oE oD hF).mp q).2))
end
end DL
namespace L2
open PySem PySem.Spec PyProof.Rows PySem.SeqAt
def UR (as bs:List (Str×PyData)):Prop:=as.length=bs.length/\∀p∈as,∃d,DL.BZ bs p.1=some d/\p.2.canLay0=true/\d.canLay0=true/\p.2.depth<=8/\a4W p.2 d=true
def rDQ (K:Frg) (neg:Bool):R2:=λx y H Q=>∃(W:Addr->Prop) (as bs:List (Str×PyData)),DV K H W (.dict (DL.AI as)) x/\DV K H W (.dict (DL.AI bs)) y/\UR as bs/\Q (.bl (!neg)) H
theorem S5 {X:Cx}{A:Around}{pins:List (Addr×Obj)}{σ:St}{H:Hp}{s:Shared}{W:Addr->Prop}(I:Inv X pins σ H s) (hu:A.units+64 < cLine) {bs:List (Str×PyData)}{kb:List (Key×V)}{vb:List (Key×Value)}(hb:DKV X.K H W (DL.AI bs) kb) (rb:KV kb vb) : ∀{as:List (Str×PyData)}{ka:List (Key×V)}{va:List (Key×Value)},DKV X.K H W (DL.AI as) ka->KV ka va->(∀p∈as,∃d,DL.BZ bs p.1=some d/\p.2.canLay0=true/\d.canLay0=true/\p.2.depth<=8/\a4W p.2 d=true)->PySem.W.KeqHits A.in1 s vb va true
 | [],ka,va,ha,ra,h=>by have ha:DKV X.K H W [] ka:=ha;unfold DKV at ha;subst ha;cases ra;exact .nil
 | p::r,ka,va,ha,ra,h=>by
   have ha:DKV X.K H W ((a0J p.1,p.2)::DL.AI r) ka:=ha;unfold DKV at ha;obtain⟨k',v,ks,rfl,ek,hd,hr⟩:=ha;cases ra with
   | cons q ra'=>
     rename_i y ys;obtain⟨e1,rv⟩:=q;obtain⟨d,l,s1,s2,vI,e⟩:=h p (a1X ..);obtain rfl:k'=a1K p.1:=by
       cases k' with
       | inl i=>cases ek
       | inr z=>cases ek;rfl
     obtain⟨y1,y2⟩:=y;simp only at e1 rv;subst e1;rcases DL.CU (k:=p.1) hb with ⟨d',w',a1,a2,a3⟩ | ⟨a1,a2⟩
     . rw[l] at a1;cases a1;have:=rb.val (a1K p.1);rw[a2] at this;generalize hva:valueAt vb (a1K p.1)=o at this;cases o with
       | none=>cases this
       | some u=> have ru:RelV w' u:=this;obtain⟨vd,r1⟩:=hd.reads I s1 rv;obtain⟨ve,r2⟩:=a3.reads I s2 ru;have hq:=eqAt_reads p.2 d A.in1 s _ _ vd ve r1 r2 s1 s2 (by have:min p.2.depth d.depth<=p.2.depth:=Nat.min_le_left _ _;show A.units+1+_ < cLine;lia);rw[e] at hq;exact PySem.W.KeqHits.hit hva hq (S5 I hu hb rb hr ra' λp' jf=>h p' (yV _ jf))
     . rw[l] at a1;cases a1
theorem oZ {X:Cx}(hu:X.A.units+64 < cLine):OpR X (compareOp .Eq) (rDQ X.K false):=by
 intro pins s σ H x y v u Q I rx ry h;obtain⟨W,as,bs,h1,h2,⟨hl,hs⟩,q⟩:=h;unfold DV at h1 h2;obtain⟨a,ka,rfl,_,ha,nv⟩:=h1;obtain⟨b,kb,rfl,_,hb,nz⟩:=h2;cases rx;cases ry;obtain⟨_,za,va,ra,da⟩:=FU I.hok ha;obtain⟨_,zb,vb,rb,db⟩:=FU I.hok hb;have el:va.length=vb.length:=by have e1:=ra.length;have e2:=rb.length;have e3:=DL.FB nv;have e4:=DL.FB nz;simp only[DL.AI,zX] at e3 e4;lia
 refine PySem.W.keq_eq (knd:=B0 X.prog X.w) za zb da db (by lia) (λ_=>S5 I hu nz rb nv ra hs) ?_;rw[el,beq_self_eq_true];exact⟨.bl true,H,I,rfl,q⟩
theorem mK {X:Cx}(hu:X.A.units+64 < cLine):OpR X (compareOp .NotEq) (rDQ X.K true):=by
 intro pins s σ H x y v u Q I rx ry h;obtain⟨W,as,bs,h1,h2,⟨hl,hs⟩,q⟩:=h;unfold DV at h1 h2;obtain⟨a,ka,rfl,_,ha,nv⟩:=h1;obtain⟨b,kb,rfl,_,hb,nz⟩:=h2;cases rx;cases ry;obtain⟨_,za,va,ra,da⟩:=FU I.hok ha;obtain⟨_,zb,vb,rb,db⟩:=FU I.hok hb;have el:va.length=vb.length:=by have e1:=ra.length;have e2:=rb.length;have e3:=DL.FB nv;have e4:=DL.FB nz;simp only[DL.AI,zX] at e3 e4;lia
 refine PySem.W.keq_ne (knd:=B0 X.prog X.w) za zb da db (by lia) (λ_=>S5 I hu nz rb nv ra hs) ?_;rw[el,beq_self_eq_true];exact⟨.bl false,H,I,rfl,q⟩
end L2
namespace DL
open PySem PySem.Spec L2
def iC (K:Frg):R2:=λx y H Q=>P1 K false x y H Q\/rDQ K false x y H Q
def iD (K:Frg):R2:=λx y H Q=>P1 K true x y H Q\/rDQ K true x y H Q
theorem pV {X:Cx}{K:Frg}(h:X.K=K) (hu:X.A.units+64 < cLine):OpR X (compareOp .Eq) (iC K):=by
 subst h;intro pins s σ H x y v u Q I rx ry h;rcases h with h | h;. exact aJ hu pins s σ H x y v u Q I rx ry h
 . exact oZ hu pins s σ H x y v u Q I rx ry h
theorem pW {X:Cx}{K:Frg}(h:X.K=K) (hu:X.A.units+64 < cLine):OpR X (compareOp .NotEq) (iD K):=by
 subst h;intro pins s σ H x y v u Q I rx ry h;rcases h with h | h;. exact aK hu pins s σ H x y v u Q I rx ry h
 . exact mK hu pins s σ H x y v u Q I rx ry h
section
variable {K:Frg}{M:Own}{Q:DS->Own->Prop}{ρ:List (Option DS)}{td ty:TE}
theorem dM {x y:DS}(h:D2 K (P1 K false) x y M Q):D2 K (iC K) x y M Q:=λH v u QQ oa s1 s2 k=>.inl (h H v u QQ oa s1 s2 k)
theorem mL {x y:DS}(h:D2 K (P1 K true) x y M Q):D2 K (iD K) x y M Q:=λH v u QQ oa s1 s2 k=>.inl (h H v u QQ oa s1 s2 k)
theorem p6 {as bs:List (Str×PyData)}(h:UR as bs) (q:Q (.d (.bool true)) M):D2 K (iC K) (.d (.dict (AI as))) (.d (.dict (AI bs))) M Q:=λH v u QQ oa s1 s2 k=>
 .inr ⟨M.W,as,bs,s1,s2,h,k _ H (.d (.bool true)) M oa AL Step.refl q⟩
theorem mM {as bs:List (Str×PyData)}(h:UR as bs) (q:Q (.d (.bool false)) M):D2 K (iD K) (.d (.dict (AI as))) (.d (.dict (AI bs))) M Q:=λH v u QQ oa s1 s2 k=>
 .inr ⟨M.W,as,bs,s1,s2,h,k _ H (.d (.bool false)) M oa AL Step.refl q⟩
def isTD (M:Own) (x:DS) (ts:List (Str×PyData)):Prop:=(∃a,x = .loc a/\M a=some (.d (AI ts)))\/x = .d (.dict (AI ts))
theorem isTD.o {M:Own}{a:Addr}{ts:List (Str×PyData)}(h:M a=some (.d (AI ts))):isTD M (.loc a) ts:=.inl ⟨a,rfl,h⟩
theorem isTD.d {M:Own}{ts:List (Str×PyData)}:isTD M (.d (.dict (AI ts))) ts:=.inr rfl
theorem isTD.put {M:Own}{x:DS}{ts:List (Str×PyData)}{a:Addr}{m:MO}(h:isTD M x ts) (ha:M a=none):isTD (M.put a m) x ts:=by
 rcases h with ⟨b,rfl,hb⟩ | rfl
 . exact .inl ⟨b,rfl,by rw[yH (by rintro rfl;rw[hb] at ha;cases ha)];exact hb⟩
 . exact .inr rfl
theorem N2 (h:DE K ty ρ M λy M1=>DE K td ρ M1 λx M2=>∃(ts:List (Str×PyData)) (k:Str),isTD M2 x ts/\y = .d (.str k)/\Q (.d (.bool (BZ ts k).isSome)) M2):DE K (kN ty td) ρ M Q:=λσ H QQ R kk=>
 h σ H _ R λv H1 x M1 o1 s1 t1 h1=>h1 σ H1 _ (R.step o1 t1) λu H2 y M2 o2 s2 t2 h2=>by
   obtain⟨ts,k,hx,rfl,q⟩:=h2;rw[BV s1];obtain⟨a,ks,e0,e1,e2⟩:∃a ks,u = .ref a/\Rd H2 a (.dK ks)/\DKV K H2 M2.W (AI ts) ks:=by
     rcases hx with ⟨a,rfl,m⟩ | rfl
     . unfold SI at s2;obtain⟨ks,e1,e2⟩:=o2 a _ m;exact⟨a,ks,s2,.inl e1,e2⟩
     . unfold SI DV at s2;obtain⟨a,ks,e0,nw,e1,e2⟩:=s2;exact⟨a,ks,e0,e1,e2⟩
   subst e0;refine⟨a,HP ks (a1K k),rfl,.inl ⟨ks,a1K k,e1,rfl,rfl⟩,kk _ H2 _ M2 o2 ?_ (t1.trans t2) q⟩;rcases CU (k:=k) e2 with ⟨d',w',a1,a2,a3⟩ | ⟨a1,a2⟩
   . rw[a1,a2];exact AL
   . rw[a1,a2];exact AL
theorem dN {x:DS}{ts:List (Str×PyData)}(hx:isTD M x ts) (q:∀p,M p=none->Q (.loc p) (M.put p (.d (AI ts)))):DR K W9 [x] M Q:=λH vs QQ oa s k=>by
 obtain⟨v,r,rfl,h1,h2⟩:=s;cases h2;obtain⟨a,ks,e0,e1,e2⟩:∃a ks,v = .ref a/\Rd H a (.dK ks)/\DKV K H M.W (AI ts) ks:=by
   rcases hx with ⟨a,rfl,m⟩ | rfl
   . unfold SI at h1;obtain⟨ks,e1,e2⟩:=oa a _ m;exact⟨a,ks,h1,.inl e1,e2⟩
   . unfold SI DV at h1;obtain⟨a,ks,e0,nw,e1,e2⟩:=h1;exact⟨a,ks,e0,e1,e2⟩
 subst e0;refine⟨a,ks,rfl,e1,λp hp=>?_⟩;obtain⟨o1,t1⟩:=K4 oa hp e2;exact k _ _ (.loc p) _ o1 rfl t1 (q p (oa.none hp))
end
end DL
namespace DL
open PySem PySem.Spec L2
section
variable {ys:List Str}{E:Eff}{g:Gt}{n:Str}{w a b:List Th}{D:Deed}
abbrev wQ (w:List Th):PyData:=.dict (AI (tsD w))
def okB (E:Eff) (ns:List Str):Bool:=(E.st.map λz=>decide (z∈ns)).all id&&!((E.fr.map λz=>decide (z∈ns)).any id)
theorem S6:okB E (w.map (·.1))=true↔okV E (AE w):=by
 unfold okB okV;rw[a1Z,b0K,Bool.not_eq_true',b5X];constructor
 . rintro⟨h1,h2⟩;refine⟨λn hn=>C0.mp (of_decide_eq_true (h1 _ (zL.mpr ⟨n,hn,rfl⟩))),λn hn=>?_⟩;have:=h2 _ (zL.mpr ⟨n,hn,rfl⟩);simp only[id,decide_eq_true_eq] at this;cases e:AE w n with
   | none=>rfl
   | some v=>exact absurd (C0.mpr (by rw[e];rfl)) this
 . rintro⟨h1,h2⟩;refine⟨λb hb=>?_,λb hb=>?_⟩;. obtain⟨z,hz,rfl⟩:=zL.mp hb;exact decide_eq_true (C0.mpr (h1 z hz))
   . obtain⟨z,hz,rfl⟩:=zL.mp hb;simp only[id,decide_eq_true_eq];exact λq=>by have:=C0.mp q;rw[h2 z hz] at this;cases this
def CC (E:Eff) (w:List Th):List Th:=w.filter λt=>!decide (t.1∈E.st)
def LN (g:Gt) (ts:List Th) (l:List (Str×Ent)):List Th:=l.foldl (λts t=>BK ts t.1 (enV g t.2).1 (enV g t.2).2) ts
def ET (E:Eff) (w:List Th):Option (List Th):=if okB E (w.map (·.1))=true then some (LN (AE w) (CC E w) E.lf) else none
theorem QM:∀(w:List Th) (n:Str),AE (CC E w) n=if n∈E.st then none else AE w n
 | [],n=>by simp[CC,AE]
 | t::r,n=>by
   have ih:=QM r n;unfold CC at ih ⊢;by_cases h:t.1∈E.st
   . rw[b5V (by simpa using h),ih];by_cases e:t.1=n;. subst e;rw[if_pos h,if_pos h]
     . show _=if n∈E.st then none else (if t.1=n then some t.2 else AE r n)
       rw[if_neg e]
   . rw[b5W (by simpa using h)];show(if t.1=n then some t.2 else AE (r.filter λt=>!decide (t.1∈E.st)) n)=if n∈E.st then none else (if t.1=n then some t.2 else AE r n)
     by_cases e:t.1=n;. subst e;rw[if_pos rfl,if_pos rfl,if_neg h]
     . rw[if_neg e,if_neg e,ih]
theorem US (g:Gt):∀(l:List (Str×Ent)) (ts:List Th) (n:Str),(l.map (·.1)).Nodup->AE (LN g ts l) n=match AG l n with | some e=>some (enV g e) | none=>AE ts n
 | [],ts,n,_=>rfl
 | t::r,ts,n,nd=>by
   rw[zI,xV] at nd;show AE (LN g (BK ts t.1 (enV g t.2).1 (enV g t.2).2) r) n=match (if t.1=n then some t.2 else AG r n) with | some e=>some (enV g e) | none=>AE ts n
   rw[US g r _ n nd.2];by_cases e:t.1=n;. subst e;rw[KQ nd.1,if_pos rfl];show AE (BK _ _ _ _) _=_;rw[DU,if_pos rfl]
   . rw[if_neg e];cases AG r n with
     | some v=>rfl
     | none=>show AE (BK _ _ _ _) _=AE ts n;rw[DU,if_neg (a3J e)]
theorem ZH {w2:List Th}(h:OkE ys E) (hc:ET E w=some w2):∀n,AE w2 n=CW E (AE w) n:=λn=>by
 unfold ET at hc;split at hc;. cases hc;rw[US _ _ _ _ h.keys,QM];unfold CW;cases AG E.lf n <;> rfl
 . cases hc
theorem XU {ts:List Th}{x:Str}{p c:Int}(h:(ts.map (·.1)).Nodup):((BK ts x p c).map (·.1)).Nodup:=by
 unfold BK;split
 . rw[zD];have e:((λt:Th=>t.1)∘λt:Th=>if t.1=x then (t.1,p,c) else t)=λt:Th=>t.1:=by funext t;show(if t.1=x then (t.1,p,c) else t).1=t.1;split <;> rfl
   rw[e];exact h
 . rename_i q;rw[xI,a9J];refine⟨h,by simp,λa ha b hb=>?_⟩;obtain rfl:b=x:=by simpa using hb
   rintro rfl;obtain⟨t,ht,e⟩:=zL.mp ha;exact q (List.any_eq_true.mpr ⟨t,ht,decide_eq_true e⟩)
theorem dO (g:Gt):∀(l:List (Str×Ent)) {ts:List Th},(ts.map (·.1)).Nodup->((LN g ts l).map (·.1)).Nodup
 | [],_,h=>h
 | t::r,_,h=>dO g r (XU h)
theorem XV (g:Gt):∀(l:List (Str×Ent)) (ts:List Th),(LN g ts l).length<=ts.length+l.length
 | [],ts=>zR _
 | t::r,ts=>by have h1:=XV g r (BK ts t.1 (enV g t.2).1 (enV g t.2).2);have h2:=QJ (ts:=ts) (x:=t.1) (p:=(enV g t.2).1) (c:=(enV g t.2).2);show(LN g (BK ts t.1 (enV g t.2).1 (enV g t.2).2) r).length<=ts.length+(r.length+1);lia
theorem XW (h:(w.map (·.1)).Nodup):((CC E w).map (·.1)).Nodup:=(List.Sublist.map _ a3Z).nodup h
theorem iE {w2:List Th}(h:(w.map (·.1)).Nodup) (hc:ET E w=some w2):(w2.map (·.1)).Nodup:=by
 unfold ET at hc;split at hc;. cases hc;exact dO _ _ (XW h)
 . cases hc
theorem iF (na:(a.map (·.1)).Nodup) (nb:(b.map (·.1)).Nodup) (h:∀n,AE a n=AE b n):UR (tsD a) (tsD b):=by
 have hp:a.Perm b:=by
   refine(b3W ?_ ?_).mpr λt=>?_;. exact(List.pairwise_map.mp na).imp λ{x y} q e=>q (by rw[e])
   . exact(List.pairwise_map.mp nb).imp λ{x y} q e=>q (by rw[e])
   . rw[K9 na,K9 nb,h]
 refine⟨by unfold tsD;rw[zX,zX,hp.length_eq],λp jf=>?_⟩;obtain⟨t,ht,rfl⟩:=zL.mp jf;refine⟨pcD t.2.1 t.2.2,?_,rfl,rfl,Nat.le_of_ble_eq_true rfl,?_⟩;. rw[AW,<-h,(K9 na).mp ht];rfl
 . exact EO (by rfl)
def S7 (x y:Option (List Th)):Prop:=match x,y with
 | none,none=>True
 | some a,some b=>UR (tsD a) (tsD b)
 | _,_=>False
def GU (o:Option (List Th)):PyData:=match o with | some w=>wQ w | none=>.none
theorem dP (hn:AK ys) {Ds:List Deed}(hD:∀D∈Ds,AZ ys D) (hE:DX Ds=some E) (nd:(w.map (·.1)).Nodup) (nr:∀w2,B7 w Ds=some w2->(w2.map (·.1)).Nodup):S7 (ET E w) (B7 w Ds):=by
 have ht:=J3 hn w _ Ds rfl hD;have oE:=O9 hn hD E hE;rw[hE] at ht;cases hr:B7 w Ds with
 | none=> rw[hr] at ht;have ht:¬okV E (AE w):=ht;unfold ET;rw[if_neg λq=>ht (S6.mp q)];exact trivial
 | some w2=>
   rw[hr] at ht;obtain⟨h1,h2⟩:=ht;have hc:ET E w=some (LN (AE w) (CC E w) E.lf):=by unfold ET;rw[if_pos (S6.mpr h1)]
   rw[hc];exact iF (iE nd hc) (nr w2 hr) λn=>by rw[ZH oE hc,h2]
theorem ZI {Ds:List Deed}{zs:List Str}(h:There zs w) (hz:zs.length < 60) (hD:∀D∈Ds,D.real/\∀x∈D.names,x∈zs):∀w2,B7 w Ds=some w2->There zs w2:=by
 induction Ds generalizing w with
 | nil=>intro w2 e;cases e;exact h
 | cons D r ih=>
   intro w2 e;have hd:=hD D (a1X ..);by_cases ha:AY (w.map (·.1)) D=none
   . have e:B7 (doT w D) r=some w2:=by
       have:B7 w (D::r)=B7 (doT w D) r:=by show r.foldl OE (OE (some w) D)=r.foldl OE (some (doT w D));show r.foldl OE (if AY (w.map (·.1)) D=none then some (doT w D) else none)=_;rw[if_pos ha]
       rw[<-this];exact e
     have hg:goD w D:=⟨⟨h.nd,by have:=h.few;lia⟩,hd.1,ha⟩
     exact ih (O7 h hg hd.2) (λD' vf=>hD D' (yV _ vf)) w2 e
   . have:B7 w (D::r)=none:=UQ (Ds:=D::r) (k:=0) (w2:=w) rfl rfl ha;rw[this] at e;cases e
def XX (ys:List Str) (k:Nat):Th:=(ys.getD k ⟨#[]⟩,1000+7*(k:Int),100000000000000*2 ^ k)
def LO (m k:Nat):Bool:=decide (m/2 ^ k % 2=1)
def BE (ys:List Str) (m:Nat):List Th:=((a0Z ys.length).filter (LO m)).map (XX ys)
def FH (ys:List Str) (m j:Nat):List Th:=((a0Z j).filter (LO m)).map (XX ys)
theorem UT (hn:ys.Nodup) (m:Nat) {j:Nat}(hj:j<=ys.length):((FH ys m j).map (·.1)).Nodup:=by unfold FH;rw[zD];unfold List.Nodup;rw[a9Z];have hr:(a0Z j).Pairwise (· < ·):=List.pairwise_lt_range;refine(hr.sublist a3Z).imp_of_mem λ{a b} ha hb gq e=>?_;have ha:=List.mem_range.mp (yL.mp ha).1;have hb:=List.mem_range.mp (yL.mp hb).1;have e:ys.getD a ⟨#[]⟩=ys.getD b ⟨#[]⟩:=e;rw[yU,yU,zV (by lia),zV (by lia)] at e;exact(List.pairwise_iff_getElem.mp hn a b (by lia) (by lia) gq) e
theorem WI (hn:ys.Nodup) (m:Nat):There ys (BE ys m):=by refine⟨UT hn m (zR _),λt ht=>?_⟩;obtain⟨k,hk,rfl⟩:=zL.mp ht;have hk:=List.mem_range.mp (yL.mp hk).1;show ys.getD k ⟨#[]⟩∈ys;rw[yU,zV hk];exact a0K hk
theorem p7:∀b0 b1 b2 b3 b4:Bool,∃m:Fin 32,LO m.1 0=b0/\LO m.1 1=b1/\LO m.1 2=b2/\LO m.1 3=b3/\LO m.1 4=b4:=by decide
theorem ZJ (hn:ys.Nodup) (h5:ys.length=5) (h:OkE ys E):∃m,m < 32/\okV E (AE (BE ys m)):=by
 match ys,h5 with
 | [y0,y1,y2,y3,y4],_=>
   obtain⟨m,h0,h1,h2,h3,h4⟩:=p7 (decide (y0∈E.st)) (decide (y1∈E.st)) (decide (y2∈E.st)) (decide (y3∈E.st)) (decide (y4∈E.st));have key:∀k,k < 5->LO m.1 k=decide (([y0,y1,y2,y3,y4]:List Str).getD k ⟨#[]⟩∈E.st):=λk hk=>by
     match k,hk with
     | 0,_=>exact h0
     | 1,_=>exact h1
     | 2,_=>exact h2
     | 3,_=>exact h3
     | 4,_=>exact h4
   refine⟨m.1,m.2,λn az=>?_,λn az=>?_⟩
   . obtain⟨k,hk,rfl⟩:=List.mem_iff_getElem.mp (h.st.2 n az);have n_:k < 5:=hk;refine C0.mp (zL.mpr ⟨XX _ k,zL.mpr ⟨k,yL.mpr ⟨List.mem_range.mpr hk,?_⟩,rfl⟩,?_⟩);. rw[key k n_,yU,zV hk];exact decide_eq_true az
     . show List.getD _ k _=_;rw[yU,zV hk];rfl
   . cases e:AE (BE [y0,y1,y2,y3,y4] m.1) n with
     | none=>rfl
     | some v=> obtain⟨t,ht,e2⟩:=zL.mp (C0.mpr (show(AE (BE [y0,y1,y2,y3,y4] m.1) n).isSome=true by rw[e];rfl));obtain⟨k,hk,rfl⟩:=zL.mp ht;obtain⟨vg,oe⟩:=yL.mp hk;have n_:k < 5:=List.mem_range.mp vg;rw[key k n_] at oe;have e2:List.getD _ k _=n:=e2;rw[e2] at oe;exact absurd az (h.apart n (of_decide_eq_true oe))
end
end DL
namespace L2
open PySem PySem.Spec PyProof.Rows
section
variable {prog:Program}{w:World}{A:Around}{E:Value->Shared->Prop}{s:Shared}{a I l:Addr}
theorem QN {prog:Program}{w:World}:∀{vs:List Value}{ns:List Str},StrsAre vs ns->IsKeys (b5Z prog w) vs ns
 | _,_,.nil=>.nil
 | _,_,.cons n t r=>.cons (PySem.strKind_is _ _ _ _) rfl (QN r)
theorem ZK {prog:Program}{w:World}:∀{vs:List Value}{ns:List Str},IsKeys (b5Z prog w) vs ns->StrsAre vs ns:=by
 intro vs ns ik;induction ik with
 | nil=>exact .nil
 | @cons v k vs ks hv _ _ ih=>
   have:∃t,v = .str k t:=by cases v <;> first | (cases hv;done) | (simp[b5Z,Value.isStrOf] at hv;exact⟨_,by rw[hv]⟩)
   obtain⟨t,rfl⟩:=this;exact .cons k t ih
theorem UU {ls:List Str}{Q:Value->Shared->Prop}(hh:A.handled=none) (so:SetOn (b5Z prog w) s.heap a ls) (bc:ls.length < 64) (h:∀(h1 h':Heap) (tk:Nat) (d:Drawn) (out:List Value) (e:Nat) (ss:List Str),(∀b o,s.heap.get? b=some o->h1.get? b=some o)->(∀b o,h1.get? b=some o->h'.get? b=some o)->h'.get? h1.objs.size=some (seqObj "list" out.toArray e)->StrsAre out ss->ss.Perm ls->sortedS ss=true->Q (.ref h1.objs.size) { s with heap:=h',toks:=tk,drawn:=d }) :
   wpAny (model prog w) A (call (.builtin "sorted") [.ref a]) Q E s:=by
 refine b0Z kind_sorted plain_sorted entry_sorted (args_sorted1 _) ?_;unfold Builtin.«sorted»;refine zZ (m:=checkCount "sorted" 1 1 _) (zY (zZ (U1 (A:=A.in1) hh so λh1 tk d us ks k1 pk ik=>?_)));have hS:StrsAre us ks:=ZK ik;have hl:us.length=ls.length:=by rw[ik.len,pk.length_eq]
 refine zZ (wpAny_newList ?_ (by rw[hl,sizeLine_eq];lia));have d_:(h1.push (seqObj "list" us.toArray 0)).get? h1.objs.size=some (seqObj "list" us.toArray 0):=yZ _ rfl;refine(show wpAny _ _ _ _ _ { s with heap:=h1.push (seqObj "list" us.toArray 0),toks:=tk,drawn:=d } from ?_);refine zZ (wpAny_holding (wpAny_call_entry (s:={ s with heap:=h1.push (seqObj "list" us.toArray 0),toks:=tk,drawn:=d }) slot_list_sort ⟨_,d_,rfl⟩ entry_list_sort (list_sort_treeK strKind_oneLt d_ hS.keysOf (λv₁ v₂ rest e=>keyKind_strs (by rw[<-e];exact hS)) (by rw[hl];exact bc) λci a1 a2=>⟨_,rfl,?_⟩) (args_list_sort _)));obtain⟨ak,b1,b2,b3⟩:=sorted_out_str hS a1 a2;generalize (Array.map (λx=>x.snd) (arrOf ci))=out at b1;obtain⟨e,he⟩:=sortedHeap_at (out:=out) d_;refine zY ⟨_,rfl,h h1 _ tk d out.toList e ak k1 (λb o q=>?_) (by rw[Array.toArray_toList];exact he) b1 (b2.trans pk) b3⟩;have lt:b < h1.objs.size:=zM q;rw[sortedHeap_old (zC lt) (by rw[size_push'];exact b2Q lt)];exact zW _ q
end
section
variable {X:Cx}
def QO (K:Frg) (te:TA):TE:=λσ H Q=>te σ H λvs H1=>∃(p:Addr) (ss:List Str),vs=[.ref p]/\(SqL K H1 p (ss.map V.str)\/SqT K H1 p (ss.map V.str))/\ss.length < 64/\∀(ak:List Str) (q:Addr),ak.Nodup->(∀x,x∈ak↔x∈ss)->sortedS ak=true->H1 q=none->Q (.ref q) (upd H1 q (.lst (ak.map V.str)))
theorem UV {K:Frg}{e:Expr}{te:TA}{np rp pos mp:Pos}(hK:X.K=K) (hh:X.A.handled=none) (hg:Gl X "set") (hm:X.mg "set"=none) (vh:Gl X "sorted") (kq:X.mg "sorted"=none) (he:PA X [e] te) (hs:starEach [.Call (.Name "set" np) [e] [] rp] X.env=[(false,eval (.Call (.Name "set" np) [e] [] rp) X.env)]:=by rfl) (vi:starEach [e] X.env=[(false,eval e X.env)]:=by rfl) :
   PE X (.Call (.Name "sorted" mp) [.Call (.Name "set" np) [e] [] rp] [] pos) (QO K te):=by
 intro pins s σ H Q I h;subst hK;refine wpAny_Call_Name_kw (L6 I vh kq a8W ?_);refine PyProof.Rows.callWith_builtin1 ?_ hs rfl;rw[hs];refine(show wpAny _ _ (spliced ((false,eval (.Call (.Name "set" np) [e] [] rp) X.env)::backTo pos (starEach [] X.env))) _ _ _ from Calls.spliced_cons ?_);refine wpAny_Call_Name_kw (L6 I hg hm YZ ?_);refine xH (thn (he rp pins s σ H _ I h) λus s1 ⟨vs,H1,I1,r1,q1⟩=>?_) vi rfl;obtain⟨p,ss,rfl,hp,hn,q⟩:=q1;obtain⟨u,rfl,ru⟩:=FR r1;cases ru;obtain⟨aa,rv,pl⟩:∃aa:List Value,Vals (ss.map V.str) aa/\(s1.heap.IsList p aa.toArray\/s1.heap.IsTuple p aa.toArray):=by
   rcases hp with hp | hp;. obtain⟨aa,rv,pl,_⟩:=I1.list hp;exact⟨aa,rv,.inl pl.isList⟩
   . obtain⟨aa,rv,pl,_⟩:=I1.tuple hp;exact⟨aa,rv,.inr pl⟩
 refine W7 (knd:=b5Z X.prog X.w) hh pl (QN (K1 rv)) (by lia) λh1 tk ls km so kp=>?_;refine(show wpAny _ _ (spliced []) _ _ _ from zY ?_);have I2:Inv X pins σ H1 { s1 with heap:=h1,toks:=tk }:=I1.kept kp;obtain⟨m1,m2,m3⟩:=TZ ss;have hl:ls.length < 64:=by rw[km.length_eq];lia
 refine UU (s:={ s1 with heap:=h1,toks:=tk }) hh so hl λh2 h3 r_ d out e ak k2 k3 ho hS ps r6=>?_;have I3:Inv X pins σ H1 { s1 with heap:=h2,toks:=r_,drawn:=d }:=(I2.kept (t':=r_) k2).drew d;have pz:=ps.trans km;refine⟨.ref h2.objs.size,_,I3.laid (t':=r_) (o:=.lst (ak.map V.str)) (h':=h3) k3 (zR _) ?_,rfl,q ak _ (pz.nodup_iff.mpr m1) (λx=>pz.mem_iff.trans (m2 x)) r6 (I3.hok.fresh (zR _))⟩;exact⟨by rw[zX,ps.length_eq];exact zN (xR hl) (by decide),out,e,T0 hS,by simpa [seqObj] using ho⟩
end
end L2
namespace DL
open PySem PySem.Spec L2
section
variable {K:Frg}{ρ:List (Option DS)}{M:Own}{Q:DS->Own->Prop}
theorem MF {te:TA}(h:DA K te ρ M λxs M1=>∃ns:List Str,(xs=[.d (.list (ns.map .str))]\/xs=[.d (.tuple (ns.map .str))])/\ns.length < 64/\∀ss:List Str,ss.Nodup->(∀x,x∈ss↔x∈ns)->xG ss=true->Q (.d (.list (ss.map .str))) M1):DE K (QO K te) ρ M Q:=λσ H QQ Rl k=>
 h σ H _ Rl λvs H1 xs M1 o1 s1 t1 ⟨n,ex,hn,q⟩=>by
   have go:∃(p:Addr),vs=[.ref p]/\(SqL K H1 p (n.map V.str)\/SqT K H1 p (n.map V.str)):=by
     rcases ex with rfl | rfl;. obtain⟨v,r,rfl,sv,rfl⟩:=s1;unfold SI DV at sv;obtain⟨a,vs,rfl,hl,hd⟩:=sv;have e:=EH hd;subst e;exact⟨a,rfl,.inl hl.sq⟩
     . obtain⟨v,r,rfl,sv,rfl⟩:=s1;unfold SI DV at sv;obtain⟨a,vs,rfl,hl,hd⟩:=sv;have e:=EH hd;subst e;exact⟨a,rfl,.inr hl.sq⟩
   obtain⟨p,rfl,hp⟩:=go;refine⟨p,n,rfl,hp,hn,λss a iz hm hs ha=>?_⟩;have g:Grow K M1.W M1.W H1 (upd H1 a (.lst (ss.map V.str))):=BI _ ha;refine k _ _ (.d (.list (ss.map .str))) M1 (o1.new ha) ?_ (t1.trans ⟨g⟩) (q ss iz hm hs);unfold SI DV;exact⟨a,_,rfl,.inl ⟨λw=>w (o1.none ha),.inl AN⟩,F9⟩
end
end DL
namespace DL
open PySem PySem.Spec L2
section
variable {K:Frg}{ρ:List (Option DS)}{td ty:TE}{M:Own}{Q:DS->Own->Prop}{ys:List Str}{w:List Th}{D:Deed}{p:Addr}{x:DS}{Ds:List Deed}{E:Eff}
theorem DY (h:DE K td ρ M λx M1=>DE K ty ρ M1 λy M2=>∃(ts:List (Str×PyData)) (k:Str) (d:PyData),isTD M2 x ts/\y = .d (.str k)/\BZ ts k=some d/\Q (.d d) M2):DE K (WT td ty) ρ M Q:=by
 intro σ H QQ R kk;refine h σ H _ R λv H1 x M1 o1 s1 t1 h1=>h1 σ H1 _ (R.step o1 t1) λu H2 y M2 o2 s2 t2 h2=>?_;obtain⟨ts,k,d,hx,rfl,l,q⟩:=h2;rw[BV s2];obtain⟨a,ks,rfl,e1,e2⟩:∃a ks,v = .ref a/\Rd H2 a (.dK ks)/\DKV K H2 M2.W (AI ts) ks:=by
   rcases hx with ⟨a,rfl,m⟩ | rfl
   . unfold SI at s1;obtain⟨ks,e1,e2⟩:=o2 a _ m;exact⟨a,ks,s1,.inl e1,e2⟩
   . have iy:=s1.step t2;unfold SI DV at iy;obtain⟨a,ks,e0,nw,e1,e2⟩:=iy;exact⟨a,ks,e0,e1,e2⟩
 rcases CU (k:=k) e2 with ⟨d',w',a1,a2,a3⟩ | ⟨a1,a2⟩
 . rw[l] at a1;cases a1;exact⟨a,w',rfl,.inl ⟨ks,a1K k,e1,rfl,a2.symm⟩,kk _ H2 (.d d) M2 o2 a3 (t1.trans t2) q⟩
 . rw[l] at a1;cases a1
theorem OF {a b:List Th}(h:wQ a=wQ b):a=b:=cW (by unfold wQ at h;injection h with h;unfold tsO;rw[h])
theorem isTD.inj {a b:List Th}(h1:isTD M x (tsD a)) (h2:isTD M x (tsD b)):a=b:=by
 rcases h1 with ⟨p,rfl,m⟩ | rfl
 . rcases h2 with ⟨q,e,m2⟩ | e
   . injection e with e;subst e;rw[m] at m2;exact cW (Option.some.inj m2)
   . cases e
 . rcases h2 with ⟨q,e,m2⟩ | e
   . cases e
   . injection e with e;exact OF e
def tdW (x:DS) (D:Deed):List DS:=[x,.d D.d]
def J5:FSp:=⟨λxs M=>∃(x:DS) (w:List Th) (D:Deed),xs=tdW x D/\isTD M x (tsD w)/\D.real,λxs M y M'=>∀(x:DS) (w:List Th) (D:Deed),xs=tdW x D->isTD M x (tsD w)->D.real->y = .d (.bool (decide (AY (w.map (·.1)) D=none)))/\M'=M⟩
theorem OG (m:isTD M x (tsD w)) (h:D.real) (q:Q (.d (.bool (decide (AY (w.map (·.1)) D=none)))) M):(tdW x D).length=2/\J5.pre (tdW x D) M/\∀y M',J5.post (tdW x D) M y M'->Q y M':=⟨rfl,⟨x,w,D,rfl,m,h⟩,λy M' hh=>by obtain⟨rfl,rfl⟩:=hh x w D rfl m h;exact q⟩
def G9:FSp:=⟨λxs M=>∃(x:DS) (w:List Th) (D:Deed),xs=tdW x D/\isTD M x (tsD w)/\goD w D/\w.length < 60,λxs M y M'=>∀(x:DS) (w:List Th) (D:Deed),xs=tdW x D->isTD M x (tsD w)->∃q,M q=none/\y = .loc q/\M'=M.put q (tsO (doT w D))⟩
theorem MG (m:isTD M x (tsD w)) (h:goD w D) (hl:w.length < 60) (q:∀r,M r=none->Q (.loc r) (M.put r (tsO (doT w D)))):(tdW x D).length=2/\G9.pre (tdW x D) M/\∀y M',G9.post (tdW x D) M y M'->Q y M':=⟨rfl,⟨x,w,D,rfl,m,h,hl⟩,λy M' hh=>by obtain⟨r,h1,rfl,rfl⟩:=hh x w D rfl m;exact q r h1⟩
def p8 (M M1:Own) (x:DS) (w:List Th):Prop:=(M1=M/\x = .d (wQ w))\/∃r,M r=none/\M1=M.put r (tsO w)/\x = .loc r
theorem QR {t:TS}{D:EndsD}{i:Nat}{M1:Own}(h:p8 M M1 x w) (e:ρ[i]?=some (some x)) (hd:DSt K t (ρ.set i (some (.d (wQ w)))) M D):DSt K t ρ M1 D:=by
 rcases h with ⟨rfl,rfl⟩ | ⟨r,hr,rfl,rfl⟩
 . have e2:ρ.set i (some (.d (wQ w)))=ρ:=by obtain⟨hi,e3⟩:=yT.mp e;rw[<-e3,List.set_getElem_self]
   rwa [e2] at hd
 . refine EN (i:=i) (a:=r) e zU ?_;rw[yG hr];exact hd
def OH (ys:List Str) (m:Nat):List DS:=[.d (C6 ys),.d (.int m),.d (.int 100000000000000)]
def KS:FSp:=⟨λxs M=>∃(ys:List Str) (m:Nat),xs=OH ys m/\ys.Nodup/\ys.length=5,λxs M y M'=>∀(ys:List Str) (m:Nat),xs=OH ys m->y = .d (wQ (BE ys m))/\M'=M⟩
theorem ZL {m:Nat}(h:ys.Nodup) (h5:ys.length=5) (q:Q (.d (wQ (BE ys m))) M):(OH ys m).length=3/\KS.pre (OH ys m) M/\∀y M',KS.post (OH ys m) M y M'->Q y M':=⟨rfl,⟨ys,m,rfl,h,h5⟩,λy M' hh=>by obtain⟨rfl,rfl⟩:=hh ys m rfl;exact q⟩
def rnX (w:List Th) (Ds:List Deed):List DS:=[.d (wQ w),.d (.tuple (Ds.map Deed.d))]
structure Go17 (w:List Th) (Ds:List Deed):Prop where
 ex:∃zs,There zs w/\zs.length < 60/\∀D∈Ds,D.real/\∀x∈D.names,x∈zs
 few:Ds.length<=60
def mN (w:List Th) (Ds:List Deed) (d:PyData):Prop:=∃(k:PyData) (w2:List Th),d = .tuple [k,wQ w2]/\((B7 w Ds=some w2/\k = .none)\/(B7 w Ds=none/\∃i:Int,k = .int i))
def KU:FSp:=⟨λxs M=>∃(w:List Th) (Ds:List Deed),xs=rnX w Ds/\Go17 w Ds,λxs M y M'=>∀(w:List Th) (Ds:List Deed),xs=rnX w Ds->(∃d,y = .d d/\mN w Ds d)/\M'=M⟩
theorem WJ (h:Go17 w Ds) (q:∀d,mN w Ds d->Q (.d d) M):(rnX w Ds).length=2/\KU.pre (rnX w Ds) M/\∀y M',KU.post (rnX w Ds) M y M'->Q y M':=⟨rfl,⟨w,Ds,rfl,h⟩,λy M' hh=>by obtain⟨⟨d,rfl,h1⟩,rfl⟩:=hh w Ds rfl;exact q d h1⟩
def GA:FSp:=⟨λxs M=>∃(w:List Th) (Ds:List Deed),xs=rnX w Ds/\Go17 w Ds,λxs M y M'=>∀(w:List Th) (Ds:List Deed),xs=rnX w Ds->y = .d (GU (B7 w Ds))/\M'=M⟩
theorem OI (h:Go17 w Ds) (q:Q (.d (GU (B7 w Ds))) M):(rnX w Ds).length=2/\GA.pre (rnX w Ds) M/\∀y M',GA.post (rnX w Ds) M y M'->Q y M':=⟨rfl,⟨w,Ds,rfl,h⟩,λy M' hh=>by obtain⟨rfl,rfl⟩:=hh w Ds rfl;exact q⟩
def cmX (E:Eff) (w:List Th):List DS:=[.d E.d,.d (wQ w)]
def GB:FSp:=⟨λxs M=>∃(ys:List Str) (E:Eff) (w:List Th),xs=cmX E w/\OkE ys E/\AK ys/\(w.map (·.1)).Nodup/\w.length < 60,λxs M y M'=>∀(E:Eff) (w:List Th),xs=cmX E w->y = .d (GU (ET E w))/\M'=M⟩
theorem OJ (h:OkE ys E) (hn:AK ys) (nd:(w.map (·.1)).Nodup) (hl:w.length < 60) (q:Q (.d (GU (ET E w))) M):(cmX E w).length=2/\GB.pre (cmX E w) M/\∀y M',GB.post (cmX E w) M y M'->Q y M':=⟨rfl,⟨ys,E,w,rfl,h,hn,nd,hl⟩,λy M' hh=>by obtain⟨rfl,rfl⟩:=hh E w rfl;exact q⟩
def GC:FSp:=⟨λxs M=>∃(ys:List Str) (E:Eff),xs=[.d E.d,.d (C6 ys)]/\OkE ys E/\UL E/\AK ys,λxs M y M'=>y = .d (.bool true)/\M'=M⟩
theorem WK (h:OkE ys E) (hs:UL E) (hn:AK ys) (q:Q (.d (.bool true)) M):[DS.d E.d,.d (C6 ys)].length=2/\GC.pre [.d E.d,.d (C6 ys)] M/\∀y M',GC.post [.d E.d,.d (C6 ys)] M y M'->Q y M':=⟨rfl,⟨ys,E,rfl,h,hs,hn⟩,λy M' hh=>by obtain⟨rfl,rfl⟩:=hh;exact q⟩
theorem iG (m k:Nat):decide ((m:Int)/(2:Int) ^ k % 2=1)=LO m k:=by unfold LO;rw[show((2:Int) ^ k)=((2 ^ k:Nat):Int) by rw[Int.natCast_pow];rfl,<-Int.natCast_ediv];generalize m/2 ^ k=q;rw[a2Q,decide_eq_true_iff,decide_eq_true_iff];lia
theorem iH {m k:Nat}(h:LO m k=false):FH ys m (k+1)=FH ys m k:=by unfold FH;rw[List.range_succ,a8Q,b5V (by rw[h];exact nft),List.filter_nil,a2K]
theorem dQ (hn:ys.Nodup) {m k:Nat}(hk:k < ys.length) (h:LO m k=true):BK (FH ys m k) (ys.getD k ⟨#[]⟩) (1000+7*(k:Int)) (100000000000000*2 ^ k)=FH ys m (k+1):=by
 have e:FH ys m (k+1)=FH ys m k++[XX ys k]:=by unfold FH;rw[List.range_succ,a8Q,b5W h,List.filter_nil,xI];rfl
 have nd:=UT hn m (j:=k+1) hk;rw[e] at nd ⊢;unfold BK;rw[if_neg λq=>?_];. rfl
 . obtain⟨t,ht,e2⟩:=List.any_eq_true.mp q;rw[xI,a9J] at nd;exact nd.2.2 _ (zL.mpr ⟨t,ht,rfl⟩) _ (List.mem_singleton.mpr rfl) (of_decide_eq_true e2)
theorem dR (m k:Nat):(FH ys m k).length<=k:=by unfold FH;rw[zX];exact zN (yJ _ _) (by rw[xZ];exact zR _)
theorem p9 (w:List Th) (z:Str):(BZ (tsD w) z).isSome=decide (z∈w.map (·.1)):=by rw[AW,a4V,a2Q,decide_eq_true_iff,C0]
theorem iI {k:Nat}{t:Th}(h:w[k]?=some t) (hs:t.1∈E.st):CC E (w.take (k+1))=CC E (w.take k):=by unfold CC;rw[a1Q,h,a6X,a8Q,b5V (by simpa using hs),List.filter_nil,a2K]
theorem dS {k:Nat}{t:Th}(nd:(w.map (·.1)).Nodup) (h:w[k]?=some t) (hs:t.1∉E.st):BK (CC E (w.take k)) t.1 t.2.1 t.2.2=CC E (w.take (k+1)):=by
 have e:CC E (w.take (k+1))=CC E (w.take k)++[t]:=by unfold CC;rw[a1Q,h,a6X,a8Q,b5W (by simpa using hs),List.filter_nil]
 have jm:((CC E (w.take (k+1))).map (·.1)).Nodup:=XW ((List.Sublist.map _ (b5Q _ _)).nodup nd);rw[e] at jm ⊢;unfold BK;rw[if_neg λq=>?_];. obtain⟨s,vj,e2⟩:=List.any_eq_true.mp q;rw[xI,a9J] at jm;exact jm.2.2 _ (zL.mpr ⟨s,vj,rfl⟩) _ (List.mem_singleton.mpr rfl) (of_decide_eq_true e2)
theorem dU {g:Gt}{ts:List Th}{l:List (Str×Ent)}{k:Nat}{t:Str×Ent}(h:l[k]?=some t):BK (LN g ts (l.take k)) t.1 (enV g t.2).1 (enV g t.2).2=LN g ts (l.take (k+1)):=by rw[a1Q,h];unfold LN;rw[a6X,a3V];rfl
theorem UW (w:List Th):(CC E w).length<=w.length:=yJ _ _
def ctF (w:List Th):PyData->PyData | .str n=>.int ((AE w n).getD (0,0)).2 | d=>d
theorem dW (w:List Th) (l:List Str):(l.map a0J).map (ctF w)=(l.map λn=>((AE w n).getD (0,0)).2).map .int:=by rw[zD,zD];rfl
theorem XY {l ss:List Str}(hl:l.Nodup) (h1:ss.Nodup) (h2:∀x,x∈ss↔x∈l) (h3:xG ss=true):ss=BF l:=
 GP ((b3W h1 hl).mpr h2) h3
theorem IG {l:List Str}(hn:AK ys) (h:∀z∈l,z∈ys):zH (.list (l.map .str))=true:=HX λz hz=>CL (hn.1 z (h z hz))
theorem dX (hs:UL E):BF (E.lf.map (·.1))=E.lf.map (·.1):=by have h:=congrArg (List.map (·.1)) hs.2.2.1;unfold C7 at h;rw[zD,show((λt:Str×Ent=>t.1)∘λn=>(n,AH E.lf n))=id from rfl,a8J] at h;exact h
open Classical in
noncomputable def iJ (Ds:List Deed) (d:PyData):PyData:=if h:∃w:List Th,d=wQ w then GU (B7 (Classical.choose h) Ds) else .none
theorem XZ (Ds:List Deed) (w:List Th):iJ Ds (wQ w)=GU (B7 w Ds):=by
 have h:∃w2:List Th,wQ w=wQ w2:=⟨w,rfl⟩
 unfold iJ;rw[dif_pos h,<-OF (Classical.choose_spec h)]
def wdF (ys:List Str):PyData->PyData | .int k=>wQ (BE ys k.toNat) | d=>d
theorem ZM (ys:List Str):(EI 0 (b5J 32)).map (wdF ys)=(a0Z 32).map λm=>wQ (BE ys m):=by rfl
theorem iK (Ds:List Deed) (ys:List Str):((a0Z 32).map λm=>wQ (BE ys m)).map (iJ Ds)=(a0Z 32).map λm=>GU (B7 (BE ys m) Ds):=by rw[zD];exact yM λm _=>XZ Ds _
def noT (d:PyData):PyData:=.bool (FA d)
theorem Y0 (Ds:List Deed) (ys:List Str):((a0Z 32).map λm=>GU (B7 (BE ys m) Ds)).map noT=((a0Z 32).map λm=>(B7 (BE ys m) Ds).isNone).map .bool:=by rw[zD,zD];refine yM λm _=>?_;show PyData.bool (FA (GU (B7 (BE ys m) Ds))) = .bool (B7 (BE ys m) Ds).isNone;cases B7 (BE ys m) Ds <;> rfl
theorem dY {ys:List Str}{Ds:List Deed}(h:∀m,B7 (BE ys m) Ds=none):((a0Z 32).map λm=>(B7 (BE ys m) Ds).isNone).all id=true:=by rw[b0K];intro b hb;obtain⟨m,_,rfl⟩:=zL.mp hb;rw[h];rfl
theorem dZ (hn:AK ys) (h5:ys.length=5) (hD:∀D∈Ds,AZ ys D) (hE:DX Ds=some E):((a0Z 32).map λm=>(B7 (BE ys m) Ds).isNone).all id=false:=by
 obtain⟨m,hm,hok⟩:=ZJ hn.2.1 h5 (O9 hn hD E hE);have ht:=J3 hn (BE ys m) _ Ds rfl hD;rw[hE] at ht;rw[List.all_eq_false];refine⟨_,zL.mpr ⟨m,List.mem_range.mpr hm,rfl⟩,?_⟩;cases hr:B7 (BE ys m) Ds with
 | none=>rw[hr] at ht;exact absurd hok ht
 | some w2=>exact nft
theorem e6 {a b:Option (List Th)}{K:Frg}(h:S7 a b) (q:Q (.d (.bool true)) M):D2 K (iC K) (.d (GU a)) (.d (GU b)) M Q:=by
 cases a with
 | none=>
   cases b with
   | none=>exact dM (BL rfl rfl q)
   | some b=>exact absurd h id
 | some a=>
   cases b with
   | none=>exact absurd h id
   | some b=>exact p6 h q
theorem e7 {a b:Option (List Th)}{K:Frg}(h:S7 a b) (q:Q (.d (.bool false)) M):D2 K (iD K) (.d (GU a)) (.d (GU b)) M Q:=by
 cases a with
 | none=>
   cases b with
   | none=>exact mL (BL rfl rfl q)
   | some b=>exact absurd h id
 | some a=>
   cases b with
   | none=>exact absurd h id
   | some b=>exact mM h q
theorem pA {zs:List Str}(h:There zs w) (hz:zs.length < 60) (hD:∀D∈Ds,AZ ys D) (hs:∀y∈ys,y∈zs) (og:Ds.length<=60):Go17 w Ds:=⟨⟨zs,h,hz,λD hd=>⟨(hD D hd).1,λx hx=>hs x ((hD D hd).2 x hx)⟩⟩,og⟩
theorem e8 {zs:List Str}(hn:AK ys) (h:There zs w) (hz:zs.length < 60) (hD:∀D∈Ds,AZ ys D) (hs:∀y∈ys,y∈zs) (hE:DX Ds=some E):S7 (ET E w) (B7 w Ds):=
 dP hn hD hE h.nd λw2 e=>(ZI h hz (λD hd=>⟨(hD D hd).1,λx hx=>hs x ((hD D hd).2 x hx)⟩) w2 e).nd
theorem ZN {z:Str}{p c:Int}(h:There ys w):There (ys++[z]) (BK w z p c):=by
 refine⟨XU h.nd,λt ht=>?_⟩;unfold BK at ht;split at ht
 . obtain⟨s,hs,rfl⟩:=zL.mp ht;refine yW.mpr (.inl ?_);split;. exact h.sub s hs
   . exact h.sub s hs
 . rcases yW.mp ht with q | q;. exact yW.mpr (.inl (h.sub t q))
   . rw[List.mem_singleton.mp q];simp
end
end DL
namespace L2
open PySem PySem.Spec PyProof.Rows
section
variable {X:Cx}{scope:Scope}{NC:List Str}{fr:List (Option Nat)}
theorem e9 {kx vx iter tg:Expr}{ifs:List Expr}{pos:Pos}{wi:TI}{g:TG}{tt:TT}{tk tv:TE}{i:Nat}{x:Str}{py gm:Pos}(hc:X.calm=true) (hu:X.A.units+1 < cLine) (hN:X.N.Nodup) (qM:X.N[i]?=some x) (hx:Loc X.env.scope x) (S:CSc X scope NC fr) (hi:PI X tg iter wi) (hb:∀(C:Addr) (s:Shared) (H:Hp) (ex:List Addr) (pn:List (Addr×Obj)),PG (AX X scope NC C s H ex pn) tg g/\PTs (AX X scope NC C s H ex pn) ifs tt/\PE (AX X scope NC C s H ex pn) kx tk/\PE (AX X scope NC C s H ex pn) vx tv) (qN:swapsWith (.DictComp kx vx [⟨tg,iter,ifs,0⟩] scope pos) (some (.Name x py)) gm.line X.env=pure true) (hf:X.fn x=true\/X.env.scope.names.lookup x=some .local:=by first | exact .inl rfl | exact .inr rfl | assumption)
   (hs:∀x,foldedSetIterable iter X.env x=pure x:=by intro _;rfl) :
   PS X (.Assign [.Name x py] (.DictComp kx vx [⟨tg,iter,ifs,0⟩] scope pos) gm) (λD σ H=>RK fr wi g tt tk tv σ H λv H'=>D.nx (σ.set i (some v)) H'):=by intro pins s σ H D I h;rw[exec_Assign_Name_used _ _ _ _ qN];refine zZ (wpAny_standAt (zZ ?_));show wpAny _ X.A (do let _ <- comprehension (.DictComp kx vx [⟨tg,iter,ifs,0⟩] scope pos) scope X.env _ newDict false (eval iter X.env) (some (assign (.Name x py) X.env))) _ _ s;refine zZ (thn (Q9 (use:=some (assign (.Name x py) X.env)) (Q:=λv H'=>D.nx (σ.set i (some v)) H') (QQ:=λ_ s'=>∃σ' H',Inv X pins σ' H' s'/\D.nx σ' H') hc S hi hb I hu h (λA C H' s' m oC I' hn q back kj=>?_) hs) λ_ s' hq=>zY (zY hq));have di:=QW (X:=X) (pos:=py) hN qM hx hf (pins++[(C,oC)]) s' σ H' (.ref A) (.ref A) (λσ' H'=>D.nx σ' H') I' rfl q;refine thn di λ_ s2 ⟨σ2,H2,I2,q2⟩=>?_;have qO:s2.heap.get? C=some oC:=(I2.pin (C,oC) (zB _ (zB _ (by simp)))).1;obtain⟨o',es,ep,cu,jr,lz⟩:=hn;rw[kj] at cu;cases cu;exact⟨m,⟨_,es,ep,qO,jr,lz⟩,λh' sb=>⟨σ2,H2,back pins σ2 H2 s2 h' I2 sb,q2⟩⟩
end
end L2
namespace DL
open PySem PySem.Spec L2
def FnIn (K:Frg) (n:Str) (st:Stmt):Prop:=∃(f:Addr) (oc:Value) (od:Option Addr) (kV dc pm:Value) (an:Option Addr) (cd ct:Value) (sl:Array (Option Value)),a3Q K mainGlobals n=some (some (.ref f)) /\
 K.lookup f=some ⟨oc,od,.func (a7X n n (E9 st) (CS st) (AC st) .none kV dc pm an cd ct),sl⟩/\b3Z K cd n=true/\b0Q K (.ref f)=true
theorem iL {K:Frg}{n:Str}{st:Stmt}{f:Addr}{oc:Value}{od:Option Addr}{kV dc pm:Value}{an:Option Addr}{cd ct:Value}{sl:Array (Option Value)}(a:a3Q K mainGlobals n=some (some (.ref f))) (l:K.lookup f=some ⟨oc,od,.func (a7X n n (E9 st) (CS st) (AC st) .none kV dc pm an cd ct),sl⟩) (c:b3Z K cd n=true) (k:b0Q K (.ref f)=true):FnIn K n st:=⟨f,oc,od,kV,dc,pm,an,cd,ct,sl,a,l,c,k⟩
structure FnAt (K:Frg) (mg:Str->Option Value) (n:Str) (st:Stmt) (f:Addr) (fd:FuncData):Prop where
 fn:Fun K n n st f fd
 mg_:mg n=some (.ref f)
 kp:b0Q K (.ref f)=true
theorem FnIn.at {K:Frg}{n:Str}{st:Stmt}{h:Heap}{mg:Str->Option Value}(b:FnIn K n st) (X:K.In h) (G:h.Ns mainGlobals mg):∃f fd,FnAt K mg n st f fd:=
 let ⟨f,_,_,_,_,_,_,_,_,_,a,l,c,k⟩:=b
 ⟨f,_,kR l c k,PySem.W.mg_of X G a,k⟩
section
variable {P:Program}{w:World}{K:Frg}{mg:Str->Option Value}{base:Heap}{n:Str}{st:Stmt}{f:Addr}{fd:FuncData}{k:Nat}{ps:List Str}
abbrev mO (n:Str) (st:Stmt) (ps:List Str):Prop:=∀(kV doc pm:Value) (an:Option Addr) (cdv ct:Value) (us:List Value),us.length=ps.length->bindArgs (a7X n n (E9 st) (CS st) (AC st) .none kV doc pm an cdv ct) ⟨us,[]⟩=pure (ps.zip us)
theorem FnAt.has {S:FSp}(a:FnAt K mg n st f fd) (h:FnOk P w K mg base CX0 k f fd ps (spD K ps.length S)) (b:mO n st ps):Has P w K mg base n k ps S:=⟨f,fd,h,a.mg_,a.kp,a.fn.binds b⟩
end
end DL
namespace DL
open PySem PySem.Spec L2
abbrev FI:Stmt:=_root_.sT 11
abbrev CY:Stmt:=_root_.sT 12
abbrev CZ:Stmt:=_root_.sT 13
abbrev EE:Stmt:=_root_.sT 15
abbrev DK:Stmt:=_root_.sT 14
abbrev FJ:Stmt:=_root_.sT 17
abbrev EF:Stmt:=_root_.sT 16
abbrev EG:Stmt:=_root_.sT 23
abbrev DN:Stmt:=_root_.sT 19
abbrev FK:Stmt:=_root_.sT 20
abbrev EU:Stmt:=_root_.sT 21
abbrev FL:Stmt:=_root_.sT 22
abbrev CQ:Stmt:=_root_.sT 18
abbrev GV:Stmt:=_root_.sT 25
abbrev KW:Stmt:=_root_.sT 9
abbrev BS:Stmt:=_root_.sT 8
abbrev J6:Stmt:=_root_.sT 6
abbrev CJ:Stmt:=_root_.sT 7
abbrev BC:Stmt:=_root_.sT 1
abbrev DO:Stmt:=_root_.sT 5
abbrev B9:Stmt:=_root_.sT 4
abbrev KY:Stmt:=_root_.sT 3
abbrev FM:Stmt:=_root_.sT 26
abbrev GW:Stmt:=_root_.sT 24
abbrev BG:Stmt:=_root_.sT 29
abbrev BA:Stmt:=_root_.sT 28
abbrev AV:Stmt:=_root_.sT 27
abbrev BD:Stmt:=_root_.sT 30
abbrev Y1:Stmt:=_root_.sT 31
abbrev vS (x:String) (t:Tok):Value:=.str (a0Q x) t
abbrev eS (P:Params) (x:String) (t:Tok) (v:Value):DictEntry:=⟨PyData.keyHash P (a0Q x),.str (a0Q x) t,v⟩
abbrev hs (i:Nat):Stmt:=PySem.Challenge.pw_struckdeeds_k17_effects_by_worlds.main.body.getD i (.Pass ⟨0,0,0,0⟩)
abbrev fO (n q:String) (st:Stmt) (doc pm:Value) (c:Nat):Obj:=⟨.type "function", none,.func (a7X (a0Q n) (a0Q q) (E9 st) (CS st) (AC st) .none .none doc pm none (.ref c) .none),#[]⟩
abbrev gO (n q:String) (st:Stmt):Obj:=⟨.none,none,.func (.mk (a0Q n) (a0Q q) (E9 st) (.stmts (CS st)) (AC st) 0 [] .none .none .none .none none .none .none 0),#[]⟩
abbrev tO (vs:Array Value):Obj:=⟨.type "tuple", none,.seq vs 0,#[]⟩
abbrev kO (n q:String) (a b c:Tok) (l k f:Nat) (x1:Value) (t:Nat) (x2 x3 x4 x5:Value) (u l2:Nat) (d:Tok):Obj:=⟨.type "code", none,.fields #[vS n a,vS q b,vS "/claim/cut.py" c,.int l 0,.int k 0,.int 0 0,.int 0 0,.int f 0,x1,.bool true,.int t 0,x2,.none,x3,x4,x5,.int u 0,.int l2 0,vS "/claim/cut.py" d],#[]⟩
abbrev fP (n:String) (st:Stmt) (doc pm:Value) (c:Nat):Obj:=fO n n st doc pm c
abbrev gP (n:String) (st:Stmt):Obj:=gO n n st
abbrev kPz (n:String) (a b c:Tok) (l k f:Nat) (x1:Value) (t:Nat) (x2 x3 x4 x5:Value) (u l2:Nat) (d:Tok):Obj:=kO n n a b c l k f x1 t x2 x3 x4 x5 u l2 d
abbrev nF (vs:Array Value):Obj:=⟨.none,none,.fields vs,#[]⟩
abbrev lF (l:List (Nat×Nat×Nat)):Obj:=nF (l.flatMap λt=>[.int t.1 0,.int t.2.1 0,.ref t.2.2]).toArray
def hV:Program:={ PySem.Challenge.pw_struckdeeds_k17_effects_by_worlds with main:={ PySem.Challenge.pw_struckdeeds_k17_effects_by_worlds.main with body:=([1,3,4,5,6,7,8,9,11,12,13,14,15,16,17,18,19,20,21,22,23,24,25,26,27,28,29,30,31]:List Nat).map hs } }
abbrev hB:List Stmt:=PySem.W.behindTheImports PySem.Challenge.pw_struckdeeds_k17_effects_by_worlds
def hN:Env:={ scope:=PySem.Challenge.pw_struckdeeds_k17_effects_by_worlds.main.scope,locals:=mainNs,globals:=mainNs,cells:=[],code:=a0X 13,frame:=some 14 }
abbrev hC:Code:=.body hB hN
abbrev hF:List Frame:=[PySem.W.topFrame { line:=0,col:=0,endLine:=0,endCol:=0 }]
abbrev hI (t:PySem.W.BT) (l:List (Nat×Obj)):PySem.W.BT:=l.foldl (λt x=>t.ins x.1 x.2) t
noncomputable def hT0:Params->PySem.W.BT:=λP=>hI .nil [(0,PySem.W.boot_o_0 P),(1,PySem.W.boot_o_1 P),(2,PySem.W.boot_o_2 P),(3,PySem.W.boot_o_3 P),(4,PySem.W.boot_o_4 P),(5,PySem.W.boot_o_5 P),(6,PySem.W.boot_o_6 P),(7,PySem.W.boot_o_7 P),(8,PySem.W.boot_o_8 P),(9,PySem.W.boot_o_9 P),(10,PySem.W.boot_o_10 P)]
def qA (a t:Nat) (n:String) (k ln ar fl:Nat) (ns:List String) (m:String) (s:Tok):List (Nat×Obj):=[(a,tO #[]),(a+1,nF #[]),(a+2,tO (ns.zipIdx.map λp=>vS p.1 (t+3+p.2)).toArray),(a+3,tO #[]),(a+4,gP n (hs k)),(a+5,kPz n t (t+1) (t+2) ln ar fl (.ref a) 181 (.ref (a+1)) (.ref (a+2)) (.ref (a+3)) (.ref (a+4)) (t+3+ns.length) ln (t+4+ns.length)),(a+6,fP n (hs k) .none (vS m s) (a+5))]
def qB (a t:Nat) (n:String) (k ln ar fl:Nat) (m:String) (s:Tok):List (Nat×Obj):=[(a,tO #[]),(a+1,nF #[]),(a+2,gP n (hs k)),(a+3,kPz n t (t+1) (t+2) ln ar fl (.ref a) 181 (.ref (a+1)) .none .none (.ref (a+2)) (t+3) ln (t+4)),(a+4,fP n (hs k) .none (vS m s) (a+3))]
noncomputable def hT1:Params->PySem.W.BT:=λP=>hI (hT0 P) ((11,tO #[]) :: (12,nF #[]) :: (13,(⟨(.type "code"),none,(.fields #[(vS "<module>" 182),(vS "<module>" 183),(vS "/claim/cut.py" 184),(.int 1 0),(.int 0 0),(.int 0 0),(.int 0 0),(.int 0 0),(.ref 11),(.bool false),(.int 181 0),(.ref 12),.none,.none,.none,.none,(.int 185 0),(.int 1 0),(vS "/claim/cut.py" 186)]),#[]⟩:Obj)) :: (14,(⟨(.type "frame"),none,.plain,#[(some (.ref 13)),(some (.ref 3)),(some (.ref 3)),none,(some (vS "__main__" 164)),none,(some (.ref 0))]⟩:Obj)) ::
 [])
noncomputable abbrev hX1 (w:World) (os:OsState):PySem.W.SharedT:=⟨hT1 w.params,15,{ },⟨[]⟩,{ },187,os⟩
noncomputable abbrev hX2 (w:World) (os:OsState):PySem.W.SharedT:=⟨hT1 w.params,15,{ },⟨[]⟩,{ },187,os⟩
def hD3:Params->List DictEntry:=λP=>[eS P "__name__" 165 (vS "law_struckdeeds_k17_effects_by_worlds" 255),eS P "__doc__" 166 .none,eS P "__package__" 167 .none,eS P "__loader__" 168 (.builtin "__main__.__loader__#opaque"),eS P "__spec__" 169 .none,eS P "__annotations__" 170 (.ref 6),eS P "__builtins__" 171 (.ref 4),eS P "__file__" 173 (vS "/claim/cut.py" 172),eS P "__cached__" 174 .none,eS P "rising_by_names" 194 (.ref 19),eS P "effect" 205 (.ref 26),eS P "effect_behind" 211 (.ref 31),eS P "deed_effect" 223 (.ref 38),eS P "clash" 229 (.ref 43),eS P "told_at_first" 241 (.ref 50),eS P "by_left_names" 247 (.ref 55),eS P "rising" 254 (.ref 62),eS P "_law_cell" 264 (.ref 69),eS P "_law_stirred" 277 (.ref 76),eS P "_law_names" 283 (.ref 81),eS P "_law_number" 290 (.ref 88),eS P "_law_place" 297 (.ref 95),eS P "_law_world" 308 (.ref 102),eS P "_law_pick" 316 (.ref 109),eS P "_law_deed" 322 (.ref 114),eS P "_law_wanted" 329 (.ref 121),eS P "_law_made" 336 (.ref 128),eS P "_law_can" 342 (.ref 133),eS P "_law_step" 353 (.ref 140),eS P "_law_there" 364 (.ref 147),eS P "_law_run" 373 (.ref 154),eS P "_law_row" 387 (.ref 161),eS P "_law_wide" 398 (.ref 168)]
noncomputable def hT3:Params->PySem.W.BT:=λP=>hI (hT1 P) ((3,(⟨.type "dict", none,.dict (hD3 P).toArray 33,#[]⟩:Obj)) :: (12,lF [(2,0,18),(5,0,25),(12,0,30),(26,0,37),(44,0,42),(48,0,49),(56,0,54),(58,0,61),(61,0,68),(65,0,75),(78,0,80),(90,0,87),(92,0,94),(94,0,101),(100,0,108),(102,0,113),(130,0,120),(136,0,127),(142,0,132),(146,0,139),(167,0,146),(172,0,153),(178,0,160),(186,0,167)]) ::
 qB 15 189 "rising_by_names" 1 2 1 3 "struckdeeds.worlds" 187 ++
 (qA 20 197 "effect" 3 5 1 3 ["row", "whole", "deed"] "struckdeeds.effects" 195 ++
 (qB 27 206 "effect_behind" 4 12 2 3 "struckdeeds.effects" 195 ++
 (qA 32 212 "deed_effect" 5 26 1 3 ["deed", "word", "name", "other", "parts", "both"] "struckdeeds.effects" 195 ++
 (qB 39 224 "clash" 6 44 3 3 "struckdeeds.effects" 195 ++
 (qA 44 230 "told_at_first" 7 48 4 3 ["between", "place", "froms", "plus", "firsts", "name"] "struckdeeds.effects" 195 ++
 (qB 51 242 "by_left_names" 8 56 1 3 "struckdeeds.effects" 195 ++
 (qA 56 248 "rising" 9 58 1 3 ["names"] "struckdeeds.effects" 195 ++
 (qA 63 257 "_law_cell" 11 61 2 3 ["_law_script", "_law_k"] "law_struckdeeds_k17_effects_by_worlds" 255 ++
 (qA 70 265 "_law_stirred" 12 65 2 3 ["_law_cell_here", "_law_size", "_law_one", "_law_other", "_law_found", "_law_k", "_law_number_here"] "law_struckdeeds_k17_effects_by_worlds" 255 ++
 (qB 77 278 "_law_names" 13 78 3 3 "law_struckdeeds_k17_effects_by_worlds" 255 ++
 (qA 82 284 "_law_number" 14 90 1 3 ["_law_x"] "law_struckdeeds_k17_effects_by_worlds" 255 ++
 (qA 89 291 "_law_place" 15 92 1 3 ["_law_x"] "law_struckdeeds_k17_effects_by_worlds" 255 ++
 (qA 96 298 "_law_world" 16 94 3 3 ["_law_xs", "_law_at", "_law_names_here", "_law_found", "_law_k"] "law_struckdeeds_k17_effects_by_worlds" 255 ++
 (qA 103 309 "_law_pick" 17 100 2 3 ["_law_some", "_law_x"] "law_struckdeeds_k17_effects_by_worlds" 255 ++
 (qB 110 317 "_law_deed" 18 102 4 3 "law_struckdeeds_k17_effects_by_worlds" 255 ++
 (qA 115 323 "_law_wanted" 19 130 1 3 ["_law_deed_here"] "law_struckdeeds_k17_effects_by_worlds" 255 ++
 (qA 122 330 "_law_made" 20 136 1 3 ["_law_deed_here"] "law_struckdeeds_k17_effects_by_worlds" 255 ++
 (qB 129 337 "_law_can" 21 142 2 3 "law_struckdeeds_k17_effects_by_worlds" 255 ++
 (qA 134 343 "_law_step" 22 146 2 3 ["_law_there_here", "_law_deed_here", "_law_found", "_law_word", "_law_name"] "law_struckdeeds_k17_effects_by_worlds" 255 ++
 (qA 141 354 "_law_there" 23 167 1 3 ["_law_world_here", "_law_found", "_law_name", "_law_place_here", "_law_count"] "law_struckdeeds_k17_effects_by_worlds" 255 ++
 (qA 148 365 "_law_run" 24 172 2 3 ["_law_there_here", "_law_row_here", "_law_k"] "law_struckdeeds_k17_effects_by_worlds" 255 ++
 (qA 155 374 "_law_row" 25 178 5 3 ["_law_xs", "_law_at", "_law_size", "_law_names_here", "_law_there_here", "_law_row_here", "_law_k", "_law_deed_here"] "law_struckdeeds_k17_effects_by_worlds" 255 ++
 (qA 162 388 "_law_wide" 26 186 3 3 ["_law_names_here", "_law_mask", "_law_spread", "_law_found", "_law_k"] "law_struckdeeds_k17_effects_by_worlds" 255 ++
 ([])))))))))))))))))))))))))
noncomputable abbrev hX3 (w:World) (os:OsState):PySem.W.SharedT:=⟨hT3 w.params,169,{ },⟨[]⟩,{ },399,os⟩
def hD4:Params->List DictEntry:=λP=>hD3 P++[eS P "_law_shape_right" 404 (.ref 173),eS P "_law_comes_to" 410 (.ref 178),eS P "_law_row_comes_to" 420 (.ref 185),eS P "_law_right" 426 (.ref 190),eS P "law" 434 (.ref 197)]
noncomputable def hT4:Params->PySem.W.BT:=λP=>hI (hT3 P) ((3,(⟨.type "dict", none,.dict (hD4 P).toArray 38,#[]⟩:Obj)) :: (12,lF [(2,0,18),(5,0,25),(12,0,30),(26,0,37),(44,0,42),(48,0,49),(56,0,54),(58,0,61),(61,0,68),(65,0,75),(78,0,80),(90,0,87),(92,0,94),(94,0,101),(100,0,108),(102,0,113),(130,0,120),(136,0,127),(142,0,132),(146,0,139),(167,0,146),(172,0,153),(178,0,160),(186,0,167),(192,0,172),(210,0,177),(223,0,184),(228,0,189),(247,0,196)]) ::
 qB 169 399 "_law_shape_right" 27 192 2 3 "law_struckdeeds_k17_effects_by_worlds" 255 ++
 (qB 174 405 "_law_comes_to" 28 210 2 3 "law_struckdeeds_k17_effects_by_worlds" 255 ++
 (qA 179 411 "_law_row_comes_to" 29 223 2 3 ["_law_there_here", "_law_row_here", "_law_number_here", "_law_behind"] "law_struckdeeds_k17_effects_by_worlds" 255 ++
 (qB 186 421 "_law_right" 30 228 1 3 "law_struckdeeds_k17_effects_by_worlds" 255 ++
 (qA 191 427 "law" 31 247 1 3 ["_law_script", "_law_cell_here"] "law_struckdeeds_k17_effects_by_worlds" 255 ++
 ([]))))))
noncomputable abbrev hX4 (w:World) (os:OsState):PySem.W.SharedT:=⟨hT4 w.params,198,{ },⟨[]⟩,{ },435,os⟩
noncomputable abbrev hX5 (w:World) (os:OsState):PySem.W.SharedT:=⟨hT4 w.params,198,{ },⟨[]⟩,{ },435,os⟩
noncomputable def hg (P:Params) (a:Nat):Obj:=((hT4 P).get a).getD default
noncomputable def hK:Params->PySem.W.Frag:=λP=>
 (nat_lit 2,hg P 2) ::
 (nat_lit 3,hg P 3) ::
 (nat_lit 18,hg P 18) ::
 (nat_lit 19,fP "rising_by_names" BC .none (vS "struckdeeds.worlds" 187) 18) ::
 (nat_lit 25,hg P 25) ::
 (nat_lit 26,fP "effect" KY .none (vS "struckdeeds.effects" 195) 25) ::
 (nat_lit 30,hg P 30) ::
 (nat_lit 31,fP "effect_behind" B9 .none (vS "struckdeeds.effects" 195) 30) ::
 (nat_lit 37,hg P 37) ::
 (nat_lit 38,fP "deed_effect" DO .none (vS "struckdeeds.effects" 195) 37) ::
 (nat_lit 42,hg P 42) ::
 (nat_lit 43,fP "clash" J6 .none (vS "struckdeeds.effects" 195) 42) ::
 (nat_lit 49,hg P 49) ::
 (nat_lit 50,fP "told_at_first" CJ .none (vS "struckdeeds.effects" 195) 49) ::
 (nat_lit 54,hg P 54) ::
 (nat_lit 55,fP "by_left_names" BS .none (vS "struckdeeds.effects" 195) 54) ::
 (nat_lit 61,hg P 61) ::
 (nat_lit 62,fP "rising" KW .none (vS "struckdeeds.effects" 195) 61) ::
 (nat_lit 68,hg P 68) ::
 (nat_lit 69,fP "_law_cell" FI .none (vS "law_struckdeeds_k17_effects_by_worlds" 255) 68) ::
 (nat_lit 75,hg P 75) ::
 (nat_lit 76,fP "_law_stirred" CY .none (vS "law_struckdeeds_k17_effects_by_worlds" 255) 75) ::
 (nat_lit 80,hg P 80) ::
 (nat_lit 81,fP "_law_names" CZ .none (vS "law_struckdeeds_k17_effects_by_worlds" 255) 80) ::
 (nat_lit 87,hg P 87) ::
 (nat_lit 88,fP "_law_number" DK .none (vS "law_struckdeeds_k17_effects_by_worlds" 255) 87) ::
 (nat_lit 94,hg P 94) ::
 (nat_lit 95,fP "_law_place" EE .none (vS "law_struckdeeds_k17_effects_by_worlds" 255) 94) ::
 (nat_lit 101,hg P 101) ::
 (nat_lit 102,fP "_law_world" EF .none (vS "law_struckdeeds_k17_effects_by_worlds" 255) 101) ::
 (nat_lit 108,hg P 108) ::
 (nat_lit 109,fP "_law_pick" FJ .none (vS "law_struckdeeds_k17_effects_by_worlds" 255) 108) ::
 (nat_lit 113,hg P 113) ::
 (nat_lit 114,fP "_law_deed" CQ .none (vS "law_struckdeeds_k17_effects_by_worlds" 255) 113) ::
 (nat_lit 120,hg P 120) ::
 (nat_lit 121,fP "_law_wanted" DN .none (vS "law_struckdeeds_k17_effects_by_worlds" 255) 120) ::
 (nat_lit 127,hg P 127) ::
 (nat_lit 128,fP "_law_made" FK .none (vS "law_struckdeeds_k17_effects_by_worlds" 255) 127) ::
 (nat_lit 132,hg P 132) ::
 (nat_lit 133,fP "_law_can" EU .none (vS "law_struckdeeds_k17_effects_by_worlds" 255) 132) ::
 (nat_lit 139,hg P 139) ::
 (nat_lit 140,fP "_law_step" FL .none (vS "law_struckdeeds_k17_effects_by_worlds" 255) 139) ::
 (nat_lit 146,hg P 146) ::
 (nat_lit 147,fP "_law_there" EG .none (vS "law_struckdeeds_k17_effects_by_worlds" 255) 146) ::
 (nat_lit 153,hg P 153) ::
 (nat_lit 154,fP "_law_run" GW .none (vS "law_struckdeeds_k17_effects_by_worlds" 255) 153) ::
 (nat_lit 160,hg P 160) ::
 (nat_lit 161,fP "_law_row" GV .none (vS "law_struckdeeds_k17_effects_by_worlds" 255) 160) ::
 (nat_lit 167,hg P 167) ::
 (nat_lit 168,fP "_law_wide" FM .none (vS "law_struckdeeds_k17_effects_by_worlds" 255) 167) ::
 (nat_lit 172,hg P 172) ::
 (nat_lit 173,fP "_law_shape_right" AV .none (vS "law_struckdeeds_k17_effects_by_worlds" 255) 172) ::
 (nat_lit 177,hg P 177) ::
 (nat_lit 178,fP "_law_comes_to" BA .none (vS "law_struckdeeds_k17_effects_by_worlds" 255) 177) ::
 (nat_lit 184,hg P 184) ::
 (nat_lit 185,fP "_law_row_comes_to" BG .none (vS "law_struckdeeds_k17_effects_by_worlds" 255) 184) ::
 (nat_lit 189,hg P 189) ::
 (nat_lit 190,fP "_law_right" BD .none (vS "law_struckdeeds_k17_effects_by_worlds" 255) 189) ::
 (nat_lit 196,hg P 196) ::
 (nat_lit 197,fP "law" Y1 .none (vS "law_struckdeeds_k17_effects_by_worlds" 255) 196)::[]
def hA:List Addr:=[2,3,18,19,25,26,30,31,37,38,42,43,49,50,54,55,61,62,68,69,75,76,80,81,87,88,94,95,101,102,108,109,113,114,120,121,127,128,132,133,139,140,146,147,153,154,160,161,167,168,172,173,177,178,184,185,189,190,196,197]
theorem hE:∀P,hA=(hK P).map (·.1):=λ_=>by kernel_rfl
theorem hp1 (w:World):(λos=>PySem.W.topGo treeTable PySem.Challenge.pw_struckdeeds_k17_effects_by_worlds w 11 (a5J (a0X 6)) 12 ⟨a3K w.params,⟨[]⟩,b3Q,b3V,os⟩ (PySem.W.topStub PySem.Challenge.pw_struckdeeds_k17_effects_by_worlds))=λos=>some ((hX1 w os).abs,⟨denote treeTable hC,hC,{ line:=0,col:=0,endLine:=0,endCol:=0 },hF⟩):=by kernel_rfl
theorem hp2 (w:World):(λos=>PySem.W.segRunT treeTable PySem.Challenge.pw_struckdeeds_k17_effects_by_worlds w 11 (a5J (a0X 6)) 1 1 (hX1 w os) (PySem.W.blockOf hB hN hC { line:=0,col:=0,endLine:=0,endCol:=0 } hF))=λos=>some (.next,hX2 w os,hC,{ line:=0,col:=0,endLine:=0,endCol:=0 }):=by kernel_rfl
def hQ3:List Stmt:=(hB.drop 0).take 27
theorem hp3 (w:World):(λos=>PySem.W.segRunT treeTable PySem.Challenge.pw_struckdeeds_k17_effects_by_worlds w 11 (a5J (a0X 6)) 1 748 (hX2 w os) (PySem.W.piecesOf hQ3 hN hC { line:=0,col:=0,endLine:=0,endCol:=0 } hF))=λos=>some (.next,hX3 w os,hC,{ line:=186,col:=0,endLine:=191,endCol:=21 }):=by kernel_rfl
def hQ4:List Stmt:=(hB.drop 27).take 5
theorem hp4 (w:World):(λos=>PySem.W.segRunT treeTable PySem.Challenge.pw_struckdeeds_k17_effects_by_worlds w 11 (a5J (a0X 6)) 1 141 (hX3 w os) (PySem.W.piecesOf hQ4 hN hC { line:=186,col:=0,endLine:=191,endCol:=21 } hF))=λos=>some (.next,hX4 w os,hC,{ line:=247,col:=0,endLine:=251,endCol:=15 }):=by kernel_rfl
theorem hp5 (w:World):(λos=>a9V treeTable PySem.Challenge.pw_struckdeeds_k17_effects_by_worlds w 11 (a5J (a0X 6)) 2 (hX4 w os).abs (PySem.W.restOf [] hN hC { line:=247,col:=0,endLine:=251,endCol:=15 } hF))=λos=>some (hX5 w os).abs:=by kernel_rfl
theorem hR1:hB=(hQ3++(hQ4++[])):=by kernel_rfl
theorem hr5 (w:World) (os:OsState):a9V treeTable PySem.Challenge.pw_struckdeeds_k17_effects_by_worlds w 11 (a5J (a0X 6)) 2 (hX4 w os).abs (PySem.W.restOf [] hN hC { line:=247,col:=0,endLine:=251,endCol:=15 } hF)=some (hX5 w os).abs:=congrFun (hp5 w) os
theorem hr4 (w:World) (os:OsState):a9V treeTable PySem.Challenge.pw_struckdeeds_k17_effects_by_worlds w 11 (a5J (a0X 6)) (141+2) (hX3 w os).abs (PySem.W.restOf (hQ4++[]) hN hC { line:=186,col:=0,endLine:=191,endCol:=21 } hF)=some (hX5 w os).abs:=PySem.W.piece_app (n:=141) (N:=2) (s:=(hX3 w os).abs) (s':=(hX4 w os).abs) (r:=(hX5 w os).abs) (l:=hQ4) (rest:=[]) (c:=hC) (pos:={ line:=186,col:=0,endLine:=191,endCol:=21 }) (p':={ line:=247,col:=0,endLine:=251,endCol:=15 }) (env:=hN) (q:={ line:=0,col:=0,endLine:=0,endCol:=0 }) (PySem.W.segRun_of (congrFun (hp4 w) os)) (hr5 w os)
theorem hr3 (w:World) (os:OsState):a9V treeTable PySem.Challenge.pw_struckdeeds_k17_effects_by_worlds w 11 (a5J (a0X 6)) (748+(141+2)) (hX2 w os).abs (PySem.W.restOf (hQ3++(hQ4++[])) hN hC { line:=0,col:=0,endLine:=0,endCol:=0 } hF)=some (hX5 w os).abs:=PySem.W.piece_app (n:=748) (N:=(141+2)) (s:=(hX2 w os).abs) (s':=(hX3 w os).abs) (r:=(hX5 w os).abs) (l:=hQ3) (rest:=(hQ4++[])) (c:=hC) (pos:={ line:=0,col:=0,endLine:=0,endCol:=0 }) (p':={ line:=186,col:=0,endLine:=191,endCol:=21 }) (env:=hN) (q:={ line:=0,col:=0,endLine:=0,endCol:=0 }) (PySem.W.segRun_of (congrFun (hp3 w) os)) (hr4 w os)
theorem hr2 (w:World) (os:OsState):a9V treeTable PySem.Challenge.pw_struckdeeds_k17_effects_by_worlds w 11 (a5J (a0X 6)) (1+(748+(141+2))) (hX1 w os).abs ⟨denote treeTable hC,hC,{ line:=0,col:=0,endLine:=0,endCol:=0 },hF⟩=some (hX5 w os).abs:=PySem.W.piece_block (n:=1) (N:=(748+(141+2))) (s:=(hX1 w os).abs) (s':=(hX2 w os).abs) (r:=(hX5 w os).abs) (b:=hB) (env:=hN) (c:=hC) (pos:={ line:=0,col:=0,endLine:=0,endCol:=0 }) (p':={ line:=0,col:=0,endLine:=0,endCol:=0 }) (q:={ line:=0,col:=0,endLine:=0,endCol:=0 }) (PySem.W.segRun_of (congrFun (hp2 w) os)) (by rw[hR1];exact hr3 w os)
noncomputable def hH:Params->Heap:=λP=>PySem.W.absHeap (hT4 P) 198 { }
theorem hr1 (w:World) (os:OsState):a9V treeTable PySem.Challenge.pw_struckdeeds_k17_effects_by_worlds w 11 (a5J (a0X 6)) (12+(1+(748+(141+2)))) ⟨a3K w.params,⟨[]⟩,b3Q,b3V,os⟩ (PySem.W.topStub PySem.Challenge.pw_struckdeeds_k17_effects_by_worlds)=some (hX5 w os).abs:=PySem.W.go_top (n:=12) (N:=(1+(748+(141+2)))) (s':=(hX1 w os).abs) (t':=⟨denote treeTable hC,hC,{ line:=0,col:=0,endLine:=0,endCol:=0 },hF⟩) (congrFun (hp1 w) os) (hr2 w os)
theorem hR (w:World) (os:OsState):a9V treeTable PySem.Challenge.pw_struckdeeds_k17_effects_by_worlds w 11 (a5J (a0X 6)) (12+(1+(748+(141+2)))) ⟨a3K w.params,⟨[]⟩,b3Q,b3V,os⟩ (PySem.W.topStub PySem.Challenge.pw_struckdeeds_k17_effects_by_worlds)=some ⟨hH w.params,⟨[]⟩,{ },435,os⟩:=(hr1 w os).trans (by kernel_rfl)
theorem hZ (w:World):(λos=>((PySem.W.staticsOk (PySem.importedModules PySem.Challenge.pw_struckdeeds_k17_effects_by_worlds.main.body) (a3K w.params) (hH w.params)&&PySem.W.namesBound PySem.Challenge.pw_struckdeeds_k17_effects_by_worlds (hH w.params)&&PySem.W.gensDone ⟨hH w.params,⟨[]⟩,{ },435,os⟩&&PySem.W.laidKept (a3K w.params) (hH w.params)),PySem.W.openSeen hV [] (PySem.importedModules PySem.Challenge.pw_struckdeeds_k17_effects_by_worlds.main.body) (λs=>PySem.W.xlAt hV [] s&&PySem.W.recOk (b1K (b0X (b1W PySem.Challenge.rw_struckdeeds_k17_effects_by_worlds))) s) true ⟨hH w.params,⟨[]⟩,{ },435,os⟩,b3K (a4J hK hA hE) ⟨hH w.params,⟨[]⟩,{ },435,os⟩))=λ_=>(true,PySem.W.openGood hV [],b3J (a4J hK hA hE) w):=by kernel_rfl
theorem hO:PySem.W.opening PySem.Challenge.pw_struckdeeds_k17_effects_by_worlds=PySem.W.plainProg PySem.Challenge.pw_struckdeeds_k17_effects_by_worlds.main.scope.names:=by kernel_rfl
theorem hG (w:World):((a3K w.params).isNs mainGlobals&&(⟨[]⟩:Array GenState).size==0,(a3K w.params).objs.size,(a3K w.params).nsMap mainGlobals (a0Q "__annotations__"))=(true,11,a5J (a0X 6)):=by kernel_rfl
theorem hJ (s:Shared):PySem.fenceModules? PySem.Challenge.pw_struckdeeds_k17_effects_by_worlds s=some s:=by kernel_rfl
theorem hL:PySem.W.LeftO PySem.Challenge.pw_struckdeeds_k17_effects_by_worlds hV [] (λs=>PySem.W.xlAt hV [] s&&PySem.W.recOk (b1K (b0X (b1W PySem.Challenge.rw_struckdeeds_k17_effects_by_worlds))) s) (b3K (a4J hK hA hE)) (b3J (a4J hK hA hE)) 1900:=
 @PySem.W.LeftO.of_pieces PySem.Challenge.pw_struckdeeds_k17_effects_by_worlds hV [] (λs=>PySem.W.xlAt hV [] s&&PySem.W.recOk (b1K (b0X (b1W PySem.Challenge.rw_struckdeeds_k17_effects_by_worlds))) s) _ (b3K (a4J hK hA hE)) (b3J (a4J hK hA hE)) 1900 true a3K hH ⟨[]⟩ ⟨[]⟩ b3Q { } b3V 435 11 (a5J (a0X 6)) (12+(1+(748+(141+2)))) (PySem.W.boot_open hO (by decide) hJ) hG hR (by decide) hZ
theorem hS:PySem.W.OpenLaw.wellSaid PySem.Challenge.rw_struckdeeds_k17_effects_by_worlds=true:=by kernel_rfl
set_option hygiene false
local macro_rules | `(tactic| walk_at "lc")=>`(tactic| first | exact Or.inl rfl | exact Or.inr rfl | exact Or.inr (Or.inl rfl) | exact Or.inr (Or.inr rfl))
local macro_rules | `(tactic| walk_at "or")=>`(tactic| first | exact .inl rfl | exact .inr rfl | assumption)
local macro_rules | `(tactic| walk_at "q")=>`(tactic| first | ((with_reducible show PSs _ [] _);exact @eJ _) | ((with_reducible show PSs _ [_] _);exact @WN _ _ _ (by walk_at "s")) | ((with_reducible show PSs _ (_::_) _);exact @SN _ _ _ _ _ (by walk_at "s") (by walk_at "q")))
local macro_rules | `(tactic| walk_at "s")=>`(tactic| first | ((with_reducible show PS _ (.Assign [.Name ..] (.DictComp ..) _) _);exact @e9 _ _ _ _ _ _ _ _ _ _ _ _ _ _ _ _ _ _ _ rfl bu (by assumption) (NV (by rfl)) (by walk_at "lc") (by walk_at "cs") (by walk_at "n") (λC s' H' pb jg=>⟨(by walk_at "g"),(by walk_at "u"),(by walk_at "e"),(by walk_at "e")⟩) rfl (by walk_at "or") (by intro _;rfl)) | ((with_reducible show PS _ (.Assign [.Name ..] (.ListComp ..) _) _);exact @fQ _ _ _ _ _ _ _ _ _ _ _ _ _ _ _ _ _ rfl (by assumption) (NV (by rfl)) (by walk_at "lc") (by walk_at "cs") (by walk_at "n") (λC s' H' pb jg=>⟨(by walk_at "g"),(by walk_at "u"),(by walk_at "e")⟩) rfl (by walk_at "or") (by intro _;rfl)) | ((with_reducible show PS _ (.Assign [.Name ..] ..) _);exact @jP _ _ _ _ _ _ _ (by assumption) (NV (by rfl)) (by walk_at "lc") (by walk_at "e") (by rfl) (by walk_at "or")) | ((with_reducible show PS _ (.If ..) _);first | walk_at "z" | exact @n5 _ _ _ _ _ _ _ _ (by walk_at "t") (by walk_at "q") (by walk_at "q")) | ((with_reducible show PS _ (.Return (some _) _) _);exact @jN _ _ _ _ (by walk_at "e")) | ((with_reducible show PS _ (.For ..) _);exact @jS _ _ _ _ _ _ _ _ PassesOwn.never rfl (by walk_at "n") (by walk_at "g") (by walk_at "q") (by intro _;rfl)) | ((with_reducible show PS _ (.Expr ..) _);exact @eL _ _ _ _ (by walk_at "e") (by rfl)) | walk_at "x")
local macro_rules | `(tactic| walk_at "e")=>`(tactic| first | ((with_reducible show PE _ (.Name ..) _);first | exact @pvx _ _ _ _ (by rfl) (by walk_at "lc") (by decide) (by decide) | exact @GI _ _ (.ty "int") _ _ (by rfl) (by assumption) PyProof.Rows.boot_int rfl (by decide) (by decide) | exact @GI _ _ (.ty "str") _ _ (by rfl) (by assumption) PyProof.Rows.boot_str rfl (by decide) (by decide) | exact @GI _ _ (.ty "bool") _ _ (by rfl) (by assumption) PyProof.Rows.boot_bool rfl (by decide) (by decide) | exact @GI _ _ (.ty "list") _ _ (by rfl) (by assumption) PyProof.Rows.boot_list rfl (by decide) (by decide) | exact @GI _ _ (.ty "tuple") _ _ (by rfl) (by assumption) PyProof.Rows.boot_tuple rfl (by decide) (by decide) | exact @GI _ _ (.ty "dict") _ _ (by rfl) (by assumption) PyProof.Rows.boot_dict rfl (by decide) (by decide) | exact @GI _ _ (.ty "ValueError") _ _ (by rfl) (by assumption) PyProof.Rows.boot_ValueError rfl (by decide) (by decide)) | ((with_reducible show PE _ (.ListComp ..) _);exact @fM _ _ _ _ _ _ _ _ _ _ _ _ _ rfl (by walk_at "cs") (by walk_at "n") (λC s' H' pb jg=>⟨(by walk_at "g"),(by walk_at "u"),(by walk_at "e")⟩) (by intro _;rfl)) | ((with_reducible show PE _ (.DictComp ..) _);exact @c6 _ _ _ _ _ _ _ _ _ _ _ _ _ _ _ rfl bu (by walk_at "cs") (by walk_at "n") (λC s' H' pb jg=>⟨(by walk_at "g"),(by walk_at "u"),(by walk_at "e"),(by walk_at "e")⟩) (by intro _;rfl)) | ((with_reducible show PE _ (.Constant ..) _);first | ((with_reducible show PE _ (.Constant (.int _) ..) _);exact @jF _ _ _ _) | ((with_reducible show PE _ (.Constant (.str _) ..) _);exact @jH _ _ _ _) | ((with_reducible show PE _ (.Constant (.bool _) ..) _);exact @mU _ _ _ _) | ((with_reducible show PE _ (.Constant .none ..) _);exact @jG _ _ _)) | ((with_reducible show PE _ (.Call ..) _);first | walk_at "y" | ((with_reducible show PE _ (.Call (.Name (a0Q "len") _) ..) _);exact @DQ _ _ _ _ _ _ _ _ _ (@pM _ K rfl) (by rfl) (by assumption) PySem.boot_len (by walk_at "a") (by decide) (by decide) (by rfl) (by rfl)) | ((with_reducible show PE _ (.Call (.Name (a0Q "isinstance") _) ..) _);exact @DQ _ _ _ _ _ _ _ _ _ (@pP _ K rfl) (by rfl) (by assumption) PyProof.Rows.boot_isinstance (by walk_at "a") (by decide) (by decide) (by rfl) (by rfl)) | ((with_reducible show PE _ (.Call (.Name (a0Q "all") _) ..) _);exact @DQ _ _ _ _ _ _ _ _ _ (@pN _ K rfl rfl) (by rfl) (by assumption) PyProof.Rows.boot_all (by walk_at "a") (by decide) (by decide) (by rfl) (by rfl)) | ((with_reducible show PE _ (.Call (.Name (a0Q "any") _) ..) _);exact @DQ _ _ _ _ _ _ _ _ _ (@pO _ K rfl rfl) (by rfl) (by assumption) PyProof.Rows.boot_any (by walk_at "a") (by decide) (by decide) (by rfl) (by rfl)) | ((with_reducible show PE _ (.Call (.Name (a0Q "sorted") _) ..) _);exact @DQ _ _ _ _ _ _ _ _ _ (@lY _ K rfl rfl) (by rfl) (by assumption) a8W (by walk_at "a") (by decide) (by decide) (by rfl) (by rfl)) | ((with_reducible show PE _ (.Call (.Name (a0Q "sum") _) ..) _);exact @DQ _ _ _ _ _ _ _ _ _ (@pU _ K rfl rfl) (by rfl) (by assumption) PyProof.Rows.boot_sum (by walk_at "a") (by decide) (by decide) (by rfl) (by rfl)) | ((with_reducible show PE _ (.Call (.Name (a0Q "tuple") _) ..) _);exact @L7 _ _ _ _ _ _ _ _ _ (@lP _ K rfl) (by rfl) (by assumption) PyProof.Rows.boot_tuple (by walk_at "a") (by decide) (by decide) (by rfl) (by rfl)) | ((with_reducible show PE _ (.Call (.Name ..) ..) _);exact @oK _ K P w mg base _ _ _ _ _ _ _ _ _ rfl rfl rfl rfl rfl (by with_reducible assumption) (hr.mono (by decide)) rfl (by walk_at "a") (by decide) (by rfl) (by rfl)) | ((with_reducible show PE _ (.Call (.Attribute _ (a0Q "append") _) ..) _);exact @kBm _ K _ _ _ _ _ _ _ _ _ _ _ rfl PySem.F.plainAttrs_list PySem.F.slot_list_append PySem.F.type_list_append (@bN _) (by walk_at "e") (by walk_at "a") (by rfl) (by rfl) (by rfl) (by rfl) (by rfl)) | walk_at "x") | ((with_reducible show PE _ (.BinOp ..) _);first | ((with_reducible show PE _ (.BinOp _ .Add ..) _);exact @HM _ _ _ _ _ _ _ _ (@oN _ K rfl) (by walk_at "e") (by walk_at "e")) | ((with_reducible show PE _ (.BinOp _ .Sub ..) _);exact @HM _ _ _ _ _ _ _ _ (@jX _) (by walk_at "e") (by walk_at "e")) | ((with_reducible show PE _ (.BinOp _ .Mod ..) _);exact @HM _ _ _ _ _ _ _ _ (@jY _) (by walk_at "e") (by walk_at "e")) | ((with_reducible show PE _ (.BinOp _ .FloorDiv ..) _);exact @HM _ _ _ _ _ _ _ _ (@aI _) (by walk_at "e") (by walk_at "e")) | ((with_reducible show PE _ (.BinOp _ .Pow ..) _);exact @HM _ _ _ _ _ _ _ _ (@jZ _) (by walk_at "e") (by walk_at "e")) | ((with_reducible show PE _ (.BinOp _ .LShift ..) _);exact @HM _ _ _ _ _ _ _ _ (@k5 _) (by walk_at "e") (by walk_at "e"))) | ((with_reducible show PE _ (.Compare ..) _);first | walk_at "y" | ((with_reducible show PE _ (.Compare _ [.Eq] ..) _);exact @E7 _ _ _ _ _ _ _ _ (@kEq _ K rfl hu) (by walk_at "e") (by walk_at "e") (@CD _ _ (by decide) (by decide))) | ((with_reducible show PE _ (.Compare _ [.NotEq] ..) _);exact @E7 _ _ _ _ _ _ _ _ (@kNe _ K rfl hu) (by walk_at "e") (by walk_at "e") (@CD _ _ (by decide) (by decide))) | ((with_reducible show PE _ (.Compare _ [.Lt] ..) _);exact @E7 _ _ _ _ _ _ _ _ (@aS _) (by walk_at "e") (by walk_at "e") (@CD _ _ (by decide) (by decide))) | ((with_reducible show PE _ (.Compare _ [.Is] ..) _);exact @E7 _ _ _ _ _ _ _ _ (@bU _) (by walk_at "e") (by walk_at "e") (@CD _ _ (by decide) (by decide))) | ((with_reducible show PE _ (.Compare _ [.IsNot] ..) _);exact @E7 _ _ _ _ _ _ _ _ (@X7 _) (by walk_at "e") (by walk_at "e") (@CD _ _ (by decide) (by decide))) | ((with_reducible show PE _ (.Compare _ [.Gt] ..) _);exact @E7 _ _ _ _ _ _ _ _ (@iQ _) (by walk_at "e") (by walk_at "e") (@CD _ _ (by decide) (by decide))) | ((with_reducible show PE _ (.Compare _ [.GtE] ..) _);exact @E7 _ _ _ _ _ _ _ _ (@iR _) (by walk_at "e") (by walk_at "e") (@CD _ _ (by decide) (by decide)))) | ((with_reducible show PE _ (.Subscript ..) _);first | ((with_reducible show PE _ (.Subscript _ (.Slice _ _ none _) _) _);exact @a8 _ _ _ _ _ _ _ _ _ _ (@pQ _ K rfl) (by walk_at "e") (by walk_at "o") (by walk_at "o")) | walk_at "y" | exact @nJ _ _ _ _ _ _ _ (@kIx _ K rfl) (by walk_at "e") (by walk_at "e") (λ_ _=>rfl)) | ((with_reducible show PE _ (.Tuple ..) _);exact @kA _ _ _ _ _ (by walk_at "a")) | ((with_reducible show PE _ (.List ..) _);exact @kB _ _ _ _ (by walk_at "a")) | ((with_reducible show PE _ (.BoolOp ..) _);first | ((with_reducible show PE _ (.BoolOp _ [_] _) _);exact @jK _ _ _ _ _ (by walk_at "e")) | ((with_reducible show PE _ (.BoolOp .Or ..) _);exact @mY _ _ _ _ _ _ _ (by walk_at "e") (by walk_at "e"))) | ((with_reducible show PE _ (.UnaryOp ..) _);first | ((with_reducible show PE _ (.UnaryOp .Not ..) _);exact @jL _ _ _ _ (by walk_at "e")) | exact @nB _ _ _ _ _ _ (@k6 _) (by walk_at "e")) | walk_at "x")
local macro_rules | `(tactic| walk_at "t")=>`(tactic| first | ((with_reducible show PT _ (.Compare ..) _);first | walk_at "y" | ((with_reducible show PT _ (.Compare _ [.Eq] ..) _);exact @C8 _ _ _ _ _ _ _ _ (@kEq _ K rfl hu) (by walk_at "e") (by walk_at "e") (@CD _ _ (by decide) (by decide))) | ((with_reducible show PT _ (.Compare _ [.NotEq] ..) _);exact @C8 _ _ _ _ _ _ _ _ (@kNe _ K rfl hu) (by walk_at "e") (by walk_at "e") (@CD _ _ (by decide) (by decide))) | ((with_reducible show PT _ (.Compare _ [.Lt] ..) _);exact @C8 _ _ _ _ _ _ _ _ (@aS _) (by walk_at "e") (by walk_at "e") (@CD _ _ (by decide) (by decide))) | ((with_reducible show PT _ (.Compare _ [.Is] ..) _);exact @C8 _ _ _ _ _ _ _ _ (@bU _) (by walk_at "e") (by walk_at "e") (@CD _ _ (by decide) (by decide))) | ((with_reducible show PT _ (.Compare _ [.IsNot] ..) _);exact @C8 _ _ _ _ _ _ _ _ (@X7 _) (by walk_at "e") (by walk_at "e") (@CD _ _ (by decide) (by decide))) | ((with_reducible show PT _ (.Compare _ [.Gt] ..) _);exact @C8 _ _ _ _ _ _ _ _ (@iQ _) (by walk_at "e") (by walk_at "e") (@CD _ _ (by decide) (by decide))) | ((with_reducible show PT _ (.Compare _ [.GtE] ..) _);exact @C8 _ _ _ _ _ _ _ _ (@iR _) (by walk_at "e") (by walk_at "e") (@CD _ _ (by decide) (by decide))) | walk_at "x") | ((with_reducible show PT _ (.BoolOp ..) _);exact @L2.PW.pt _ _ _ (by walk_at "w")) | ((with_reducible show PT _ (.UnaryOp .Not ..) _);exact @jJ _ _ _ _ (by walk_at "t")) | exact @jI _ _ _ (by walk_at "e") (by intro _;rfl))
local macro_rules | `(tactic| walk_at "w")=>`(tactic| first | ((with_reducible show PW _ (.BoolOp .Or ..) _);first | ((with_reducible show PW _ (.BoolOp _ [_] _) _);exact @pw_or1 _ _ _ _ (by walk_at "t")) | exact @pw_or _ _ _ _ _ _ _ (by walk_at "t") (by walk_at "w")) | ((with_reducible show PW _ (.BoolOp _ [_] _) _);exact @pw_and1 _ _ _ _ (by walk_at "t")) | exact @pw_and _ _ _ _ _ _ _ (by walk_at "t") (by walk_at "w"))
local macro_rules | `(tactic| walk_at "a")=>`(tactic| first | ((with_reducible show PA _ [] _);exact @k8 _) | exact @eY _ _ _ _ _ (by walk_at "e") (by walk_at "a") (by rfl))
local macro_rules | `(tactic| walk_at "o")=>`(tactic| first | ((with_reducible show PO _ none _);exact @f6 _) | exact @f7 _ _ _ (by walk_at "e"))
local macro_rules | `(tactic| walk_at "u")=>`(tactic| first | ((with_reducible show PTs _ [] _);exact @fK _) | exact @fL _ _ _ (by walk_at "t"))
local macro_rules | `(tactic| walk_at "n")=>`(tactic| first | ((with_reducible show PI _ _ (.Call ..) _);first | ((with_reducible show PI _ _ (.Call (.Name (a0Q "range") _) [_] ..) _);exact @Y7 _ _ _ _ _ _ rfl (by assumption) (by walk_at "a") (by rfl)) | walk_at "x") | walk_at "y" | exact @oJ _ K _ _ _ rfl (by walk_at "e"))
local macro_rules | `(tactic| walk_at "g")=>`(tactic| first | ((with_reducible show PG _ (.Name ..) _);exact @QW _ _ _ _ (by assumption) (NV (by rfl)) (by walk_at "lc") (by walk_at "or")) | walk_at "x")
local macro_rules | `(tactic| walk_at "j")=>`(tactic| first | ((with_reducible show PGs _ [] _);exact @eO _) | exact @ZW _ _ _ _ _ (by walk_at "g") (by walk_at "j") (by rfl))
local macro_rules | `(tactic| walk_at "b1")=>`(tactic| exact @WN _ _ _ (by walk_at "s"))
local macro_rules | `(tactic| walk_at "b2")=>`(tactic| exact @SN _ _ _ _ _ (by walk_at "s") (by walk_at "q"))
local macro_rules | `(tactic| walk_at "dl")=>`(tactic| first
 | (with_reducible first | refine aN ?_ | refine dx_seq ?_ | refine aM ?_ | refine X0 ?_ | refine aL ?_ | refine o8 ?_ | refine WZ ?_ | refine WY ?_ | refine ds_setitem ?_ | refine cD ?_ | refine dx_if ?_ | refine dx_raise1 ?_ | refine dx_raise0 ?_ | refine dx_drop (dex_call ?_) | refine dx_set (dex_call ?_) | refine dx_ret (dex_call ?_) | refine dx_lift (aM ?_) | refine dx_lift (X0 ?_) | refine dx_lift (aL ?_) | refine dx_lift (WZ ?_) | refine dx_lift (WY ?_) | refine dx_lift (ds_setitem ?_) | refine dx_lift (cD ?_))
 | ((with_reducible apply kW);exact rfl)
 | (with_reducible first | refine kX ?_ | refine nT ?_ | refine kY ?_ | refine kZ ?_ | refine nU ?_ | refine nV ?_ | refine nW ?_ | refine de_chain ?_ | refine fT ?_ | refine pJ ?_ | refine l0 ?_ | refine nX ?_ | refine l6 ?_ | refine l7 ?_ | refine de_and ?_ | refine nY ?_ | refine l9 ?_ | refine de_if ?_ | refine lA ?_ | refine fU ?_ | refine nZ ?_ | refine lB ?_ | refine o0 ?_ | refine fX ?_ | refine fY ?_ | refine gA ?_ | refine bF ?_ | refine gH ?_)
 | ((with_reducible refine lR ?_ ?_);exact rfl)
 | ((with_reducible refine gS ?_ ?_);exact rfl)
 | (with_reducible first | refine oB ?_ | refine oG ?_ | refine pK ?_ | refine bH ?_ | refine gF ?_)
 | ((with_reducible refine NG ?_ ?_);(first
     | ((with_reducible show CMul _ _);first | exact bK (by decide) (by decide) | exact RI (by decide) (by decide) | exact RI (by lia) (by lia))
     | ((with_reducible show iZ _ _);first | exact⟨by decide,by decide⟩ | exact⟨by assumption,by assumption⟩)
     | ((with_reducible show jV _ _);exact⟨by decide,by decide,by decide⟩)
     | (show(0:Int) < _;first | decide | assumption | lia)))
 | ((with_reducible apply d2A_ixo);(first | assumption | exact zU);exact rfl)
 | ((with_reducible apply setq);(first | assumption | exact zU);exact rfl)
 | ((with_reducible refine bR ?_ ?_);(first | exact CMul.ok (bK (by decide) (by decide)) | exact CMul.ok (RI (by decide) (by decide))))
 | (with_reducible first | refine d2_isB ?_ | refine d2_notB ?_ | refine rd_max ?_ | refine rd_min ?_ | refine rd_intb ?_ | refine dgs_item ?_ | refine rd_abs ?_)
 | ((with_reducible refine bB (b:=true) ?_ ?_);exact rfl)
 | ((with_reducible refine bB (b:=false) ?_ ?_);exact rfl)
 | with_reducible refine fW ?_
 | ((with_reducible apply pR);exact rfl;exact Nat.le_of_ble_eq_true rfl)
 | (with_reducible refine Exists.intro _ (And.intro rfl ?_))
 | (with_reducible refine L2.fH ?_)
 | (with_reducible refine L2.fG ?_)
 | (refine L2.fH ?_)
 | (refine L2.fG ?_))
local macro_rules | `(tactic| walk_at "r")=>`(tactic| repeat walk_at "dl")
local macro_rules | `(tactic| walk_at "wkd")=>`(tactic| repeat (first | walk_at "dl" | refine HS ?_ | refine de_dnew ?_))
local macro_rules | `(tactic| walk_at "wks")=>`(tactic| repeat ((fail_if_success (with_reducible show DSt _ _ _ _ _));(first | walk_at "dl" | refine HS ?_ | refine de_dnew ?_)))
section
variable {P:Program}{w:World}{K:Frg}{mg:Str->Option Value}{base:Heap}
def S8:List Str:=["_law_script", "_law_k"]
theorem KZ:FnScope S8 ["_law_script", "_law_k"] (AC FI):=⟨rfl,rfl,rfl,by decide +kernel,rfl,by decide +kernel,by decide +kernel⟩
theorem S9 {f:Addr}{fd:FuncData}(F:Fun K "_law_cell" "_law_cell" FI f fd) (ax:mg "len"=none):FnOk P w K mg base CX0 1 f fd ["_law_script", "_law_k"] (spD K 2 KF):=by
 refine fnD F KZ λcdv A outer s H E hr=>?_;have hu:=hr.units;have nd:=KZ.nd;refine⟨_,by walk_at "b2", ?_⟩;clear nd;rintro xs M hl ⟨ns,k,rfl⟩;walk_at "r";refine IR ?_;walk_at "r";rw[zX];cases hk:decide ((k:Int) < (ns.length:Int)) with
 | true=>
   have fz:k < ns.length:=by have:=of_decide_eq_true hk;lia
   walk_at "r";refine AR (d:=.int ns[k]) (AA (by rw[zF,zV fz];rfl)) ?_;exact⟨M,zT M,rfl,_,rfl⟩
 | false=> walk_at "r";exact⟨M,zT M,rfl,_,rfl⟩
def MP:List Str:=["_law_cell_here", "_law_size", "_law_one", "_law_other", "_law_found", "_law_k", "_law_number_here"]
theorem GZ:FnScope MP ["_law_cell_here", "_law_size"] (AC CY):=⟨rfl,rfl,rfl,by decide +kernel,rfl,by decide +kernel,by decide +kernel⟩
section
local macro_rules | `(tactic| walk_at "x")=>`(tactic| first | ((with_reducible show PE _ (.BinOp _ .Mult ..) _);exact @HM _ _ _ _ _ _ _ _ (@bQ _ K rfl) (by walk_at "e") (by walk_at "e")))
theorem MQ {f:Addr}{fd:FuncData}(F:Fun K "_law_stirred" "_law_stirred" CY f fd) (ac:mg "range"=none):FnOk P w K mg base CX0 1 f fd ["_law_cell_here", "_law_size"] (spD K 2 FE):=by
 refine fnD F GZ λcdv A outer s H E hr=>?_;have hu:=hr.units;have nd:=GZ.nd;refine⟨_,by walk_at "b2", ?_⟩;clear nd;rintro xs M hl ⟨c,n,rfl,hn⟩;walk_at "r";refine K2 ?_;walk_at "r";intro A hA;walk_at "r";refine CK ?_;refine EA ?_;walk_at "r";refine⟨by lia,by lia,?_⟩;refine⟨λk ρ1 M1=>∃(c' a b:Int) (acc:List Int) (x5 x6:Option DS),acc.length=k/\okX acc/\0<=a/\a < 2147483629/\0<=b/\b < 2147483549/\M1=M.put A (.l (acc.map .int))/\ρ1=[some (.d (.int c')),some (.d (.int n)),some (.d (.int a)),some (.d (.int b)),some (.loc A),x5,x6],⟨c,_,_,[],_,_,rfl,(λx hx=>nomatch hx),(by lia:0<=c % 2147483579+13),by lia,(by lia:0<=c/1013 % 1999999871+31),by lia,rfl,rfl⟩,?_,?_⟩
 . rintro k d ρ1 M1 hd ⟨c',a,b,acc,x5,x6,hk,hok,a0,a1,b0,b1,rfl,rfl⟩;obtain⟨fv,rfl⟩:=GN hd;walk_at "r";refine bR (CMul.ok (RI (by lia) (by lia))) ?_;walk_at "r";generalize ea:(a*48271+b+43*(k:Int)) % 2147483629=a2;have sR:0<=a2:=by lia
   have sS:a2 < 2147483629:=by lia
   generalize eb:(b*39373+7*a2+(k:Int)*(k:Int)) % 2147483549=b2;have oh:0<=b2:=by rw[<-eb];exact a5W _ (by decide)
   have oi:b2 < 2147483549:=by rw[<-eb];exact a8X _ (by decide)
   cases hc:decide ((10:Int) ^ b5J 18<=c') with
   | true=>
     walk_at "r";refine K3 ?_;walk_at "dl";refine⟨F8 (ds:=acc.map .int) zU,?_⟩;walk_at "r";refine CO (ds:=acc.map .int) zU (by rw[zX];exact zP (show _ < 201 by lia) (by decide)) ?_;rw[yI,show(10:Int) ^ b5J 9=1000000000 by decide];refine⟨_,a2,b2,acc++[c' % 1000000000],_,_,by rw[yY,hk];rfl,λv hv=>?_,sR,sS,oh,oi,by rw[xI];rfl,rfl⟩;rcases yW.mp hv with h | h;. exact hok v h
     . rw[List.mem_singleton.mp h];lia
   | false=>
     walk_at "r";refine K3 ?_;walk_at "dl";refine⟨F8 (ds:=acc.map .int) zU,?_⟩;walk_at "r";refine CO (ds:=acc.map .int) zU (by rw[zX];exact zP (show _ < 201 by lia) (by decide)) ?_;rw[yI];refine⟨_,a2,b2,acc++[(a2+13*b2) % 999999883],_,_,by rw[yY,hk];rfl,λv hv=>?_,sR,sS,oh,oi,by rw[xI];rfl,rfl⟩;rcases yW.mp hv with h | h;. exact hok v h
     . rw[List.mem_singleton.mp h];lia
 . rintro ρ1 M1 ⟨c',a,b,acc,x5,x6,hk,hok,a0,a1,b0,b1,rfl,rfl⟩;rw[FX] at hk;refine FV (i:=4) (a:=A) rfl zU ?_;rw[yG hA];walk_at "r";refine⟨M,zT M,λc2 n2 e=>⟨rfl,acc,rfl,?_,hok⟩⟩;simp only[List.cons.injEq,DS.d.injEq,PyData.int.injEq,and_true] at e;lia
end
def JE:List Str:=["_law_xs", "_law_at", "_law_size", "_law_letters", "_law_word", "_law_x", "_law_found", "_law_k", "_law_name", "_law_first"]
def H0:List Str:=["_law_k", "_law_letters", "_law_xs", "_law_at"]
def HA:List (Option Nat):=[none,some 3,some 0,some 1]
theorem MR:H0.Nodup:=by decide +kernel
theorem JF:FnScope JE ["_law_xs", "_law_at", "_law_size"] (AC CZ):=⟨rfl,rfl,rfl,by decide +kernel,rfl,by decide +kernel,by decide +kernel⟩
section
local macro_rules | `(tactic| walk_at "cs")=>`(tactic| first | exact @GM _ _ H0 HA (AC CZ) JE (by decide +kernel) (by decide +kernel) rfl rfl)
local macro_rules | `(tactic| walk_at "x")=>`(tactic| first | ((with_reducible show PE _ (.Call (.Attribute _ (a0Q "join") _) ..) _);exact @kBm _ K _ _ _ _ _ _ _ _ _ _ _ rfl PySem.F.plainAttrs_str PySem.F.slot_str_join PySem.F.type_str_join (@oI _ K rfl) (by walk_at "e") (by walk_at "a") (by rfl) (by rfl) (by rfl) (by rfl) (by rfl)) | ((with_reducible show PE _ (.BinOp _ .Mult ..) _);exact @HM _ _ _ _ _ _ _ _ (@bQ _ K rfl) (by walk_at "e") (by walk_at "e")))
theorem P8 {f:Addr}{fd:FuncData}(F:Fun K "_law_names" "_law_names" CZ f fd) (ac:mg "range"=none):FnOk P w K mg base CX0 1 f fd ["_law_xs", "_law_at", "_law_size"] (spD K 3 IX):=by
 refine fnD F JF λcdv A outer s H E hr=>?_;have hu:=hr.units;have nd:=JF.nd;have n0:=MR;refine⟨_,by walk_at "b2", ?_⟩;clear nd n0;rintro xs M hl ⟨L,a,n,rfl,hL,ha,hn,gn⟩;unfold nxX;have la:(L.map b2J)[a]?=some (.int L[a]):=by rw[zF,zV (by lia)];rfl
 have lb:(L.map b2J)[a+1]?=some (.int L[a+1]):=by rw[zF,zV (by lia)];rfl
 have mj:=hL _ (a0K (l:=L) (n:=a) (by lia));have vk:=hL _ (a0K (l:=L) (n:=a+1) (by lia));generalize L[a]=u at la mj;generalize L[a+1]=x at lb vk;walk_at "r";refine K3 ?_;walk_at "dl";refine⟨g7,?_⟩;walk_at "dl";refine AM (AT 0) (by simp[HA]) ?_;refine EA ?_;walk_at "r";refine⟨by decide,by decide,?_⟩;refine⟨by decide,λ_=>true,oW u,?_,?_⟩;. intro d hd M';obtain⟨k,hk,rfl⟩:=O1 (n:=8) hd;walk_at "dl";refine⟨rfl,?_⟩;walk_at "dl";refine⟨rfl,rfl,λ_=>?_⟩;walk_at "r";refine AR (AA la) ?_;walk_at "r";refine NG ⟨by lia,by lia⟩ ?_;walk_at "r";refine X3 (by rw[M0];decide) (cS _) ?_;exact⟨rfl,rfl⟩
 have hw:((EI 0 (b5J 8)).filter λ_=>true).map (oW u)=((GO u).map λc=>(⟨#[c]⟩:Str)).map .str:=rfl;rw[hw];walk_at "r";refine g8 (by rw[Q4,JP];show 8+_*0<=_;lia) ?_;rw[VI,show(⟨(GO u).toArray⟩:Str)=z18 u from rfl];walk_at "r";refine AR (AA (j:=a+1) lb) ?_;walk_at "r";refine K2 ?_;walk_at "r";intro A hA;walk_at "r";refine CK ?_;refine EA ?_;walk_at "r";refine⟨by lia,by lia,?_⟩;refine⟨λk ρ1 M1=>M1=M.put A (.l (((a0Z k).map (FZ u x)).map .str))/\∃x7 x8 x9:Option DS,ρ1=[some (.d (.list (L.map .int))),some (.d (.int a)),some (.d (.int n)),some (.d (.str (a0Q "abcdefghijklmnopqrstuvwxyz"))),some (.d (.str (z18 u))),some (.d (.int x)),some (.loc A),x7,x8,x9],⟨rfl,_,_,_,rfl⟩,?_,?_⟩
 . rintro k d ρ1 M1 hd ⟨rfl,x7,x8,x9,rfl⟩;obtain⟨fv,rfl⟩:=GN hd;walk_at "r";refine T3 (by rw[O3];decide) ?_;walk_at "r";refine BL rfl rfl ?_;rw[if_neg nft,MZ];have l8:∀m:Int,(a8K (z18 u) none (some m)).length<=8:=λm=>YM _ _ _ (by rw[O3];exact zR _);have fin:∀{x7 x8 x9:Option DS},(M.put A (.l ((((a0Z k).map (FZ u x)).map .str)++[.str (FZ u x k)])))=M.put A (.l (((a0Z (k+1)).map (FZ u x)).map .str)):=λ{_ _ _}=>by rw[List.range_succ,xI,xI];rfl
   cases hc:decide (x/8 % 2=0) with
   | true=> have fw:=of_decide_eq_true hc;walk_at "r";refine X3 (by rw[M0];decide) (cS _) ?_;walk_at "r";refine T3 (by rw[O3];decide) ?_;walk_at "r";refine bI (by have:=l8 (x/16 % 8);exact zN (show _<=9 by show 1+_<=9;lia) (by decide)) ?_;rw[show(⟨#[JC (x/16+(k:Int))]⟩:Str)++a8K (z18 u) none (some (x/16 % 8))=FZ u x k by unfold FZ;rw[if_pos fw]];walk_at "r";refine K3 ?_;walk_at "dl";refine⟨F8 (ds:=((a0Z k).map (FZ u x)).map .str) zU,?_⟩;walk_at "r";refine CO (ds:=((a0Z k).map (FZ u x)).map .str) zU (by simp only[zX,xZ];exact zP (show k < 7 by lia) (by decide)) ?_;rw[yI];exact⟨fin (x7:=none) (x8:=none) (x9:=none),_,_,_,rfl⟩
   | false=> have fw:=of_decide_eq_false hc;rw[show a8K (z18 u) none (some (1+(x+(k:Int)) % 8))=FZ u x k by unfold FZ;rw[if_neg fw]];walk_at "r";refine K3 ?_;walk_at "dl";refine⟨F8 (ds:=((a0Z k).map (FZ u x)).map .str) zU,?_⟩;walk_at "r";refine CO (ds:=((a0Z k).map (FZ u x)).map .str) zU (by simp only[zX,xZ];exact zP (show k < 7 by lia) (by decide)) ?_;rw[yI];exact⟨fin (x7:=none) (x8:=none) (x9:=none),_,_,_,rfl⟩
 . rintro ρ1 M1 ⟨rfl,x7,x8,x9,rfl⟩;rw[FX];refine FV (i:=6) (a:=A) rfl zU ?_;rw[yG hA];walk_at "r";refine⟨M,zT M,λL' a' n' e=>⟨rfl,_,rfl,hU u x hn,?_⟩⟩;simp only[nxX,List.cons.injEq,DS.d.injEq,PyData.int.injEq,and_true] at e;rw[zX,xZ];lia
end
def P9:List Str:=["_law_x"]
theorem JG:FnScope P9 ["_law_x"] (AC EE):=⟨rfl,rfl,rfl,by decide +kernel,rfl,by decide +kernel,by decide +kernel⟩
theorem PB {f:Addr}{fd:FuncData}(F:Fun K "_law_place" "_law_place" EE f fd):FnOk P w K mg base CX0 1 f fd ["_law_x"] (spD K 1 G1):=by
 refine fnD F JG λcdv A outer s H E hr=>?_;have hu:=hr.units;have nd:=JG.nd;refine⟨_,by walk_at "b1", ?_⟩;clear nd;rintro xs M hl ⟨x,rfl,h0,h1⟩;walk_at "wkd";obtain h | h | h:x % 3=0\/x % 3=1\/x % 3=2:=by lia
 all_goals
   rw[h];refine AR rfl ?_;exact⟨M,zT M,rfl,_,rfl,by lia,by lia⟩
def OK:List Str:=["_law_x"]
theorem IH:FnScope OK ["_law_x"] (AC DK):=⟨rfl,rfl,rfl,by decide +kernel,rfl,by decide +kernel,by decide +kernel⟩
section
local macro_rules | `(tactic| walk_at "x")=>`(tactic| first | ((with_reducible show PE _ (.BinOp _ .Mult ..) _);exact @HM _ _ _ _ _ _ _ _ (@bQ _ K rfl) (by walk_at "e") (by walk_at "e")))
theorem OL {f:Addr}{fd:FuncData}(F:Fun K "_law_number" "_law_number" DK f fd):FnOk P w K mg base CX0 1 f fd ["_law_x"] (spD K 1 EQ):=by
 refine fnD F IH λcdv A outer s H E hr=>?_;have hu:=hr.units;have nd:=IH.nd;refine⟨_,by walk_at "b1", ?_⟩;clear nd;rintro xs M hl ⟨x,rfl,h0,h1⟩;walk_at "wkd";rw[show(10:Int) ^ b5J 6=1000000 by decide,show(10:Int) ^ b5J 8=100000000 by decide];obtain h | h | h | h:x % 4=0\/x % 4=1\/x % 4=2\/x % 4=3:=by lia
 all_goals
   rw[h];refine AR rfl ?_;exact⟨M,zT M,rfl,_,rfl,by lia,by lia⟩
end
def SA:List Str:=["_law_some", "_law_x"]
theorem L0:FnScope SA ["_law_some", "_law_x"] (AC FJ):=⟨rfl,rfl,rfl,by decide +kernel,rfl,by decide +kernel,by decide +kernel⟩
theorem SB {f:Addr}{fd:FuncData}(F:Fun K "_law_pick" "_law_pick" FJ f fd) (ax:mg "len"=none):FnOk P w K mg base CX0 1 f fd ["_law_some", "_law_x"] (spD K 2 KH):=by
 refine fnD F L0 λcdv A outer s H E hr=>?_;have hu:=hr.units;have nd:=L0.nd;refine⟨_,by walk_at "b1", ?_⟩;clear nd;rintro xs M hl ⟨ys,x,rfl,h,ke⟩;rw[show C6 ys = .list (ys.map .str) from rfl];have vm:0 < ys.length:=List.length_pos_iff.mpr h;walk_at "r";refine IR ?_;rw[zX];have hp2:(0:Int) < (ys.length:Int):=by lia
 walk_at "r";obtain⟨z,e1,e2⟩:=XB (ys:=ys) (v:=x % (ys.length:Int)) (a5W _ (by lia)) (a8X _ hp2);refine AR e1 ?_;refine⟨M,zT M,λbp x' e=>⟨rfl,z,rfl,?_⟩⟩;simp only[C6,List.cons.injEq,DS.d.injEq,PyData.list.injEq,and_true] at e;rw[<-HW e.1];exact e2
def PD:List Str:=["_law_xs", "_law_at", "_law_names_here", "_law_found", "_law_k"]
theorem JH:FnScope PD ["_law_xs", "_law_at", "_law_names_here"] (AC EF):=⟨rfl,rfl,rfl,by decide +kernel,rfl,by decide +kernel,by decide +kernel⟩
theorem PF {f:Addr}{fd:FuncData}(F:Fun K "_law_world" "_law_world" EF f fd) (ax:mg "len"=none) (ac:mg "range"=none) (af:mg "sorted"=none) (ah:mg "tuple"=none) (ao:Has P w K mg base "_law_number" 1 ["_law_x"] EQ) (aq:Has P w K mg base "_law_place" 1 ["_law_x"] G1):FnOk P w K mg base CX0 2 f fd ["_law_xs", "_law_at", "_law_names_here"] (spD K 3 IY):=by
 refine fnD F JH λcdv A outer s H E hr=>?_;have hu:=hr.units;have nd:=JH.nd;refine⟨_,by walk_at "b2", ?_⟩;clear nd;rintro xs M hl ⟨L,a,ys,rfl,hL,ha,gn,hn,h6⟩;unfold O5;have lx:∀i,i < L.length->(L.map b2J)[i]?=some (.int (L.getD i 0)):=λi hi=>by rw[zF,yU,zV hi];rfl
 have hx:∀i,i < L.length->0<=L.getD i 0/\L.getD i 0 < 1000000000:=λi hi=>by rw[yU,zV hi];exact hL _ (a0K hi)
 walk_at "r";refine K2 ?_;walk_at "r";intro A hA;walk_at "r";refine CK ?_;refine EA ?_;walk_at "r";refine IR ?_;rw[zX];walk_at "r";refine⟨by lia,by lia,?_⟩;refine⟨λk ρ1 M1=>k<=ys.length/\∃(w:List Th) (x4:Option DS),(w.map (·.1)).Sublist (ys.take k)/\(∀t∈w,0<=t.2.1/\t.2.1<=999/\-1000000000000<=t.2.2/\t.2.2<=1000000000000)/\M1=M.put A (.l (w.map thD))/\ρ1=[some (.d (.list (L.map .int))),some (.d (.int a)),some (.d (C6 ys)),some (.loc A),x4],⟨xT _,[],_,List.nil_sublist _,(λt ht=>nomatch ht),rfl,rfl⟩,?_,?_⟩
 . rintro k d ρ1 M1 hd ⟨hk,w,x4,bq,hb,rfl,rfl⟩;obtain⟨fv,rfl⟩:=GN hd;have r8:w.length<=6:=by have:=bq.length_le;rw[zX,a0V] at this;lia
   have r9:(ys.map a0J)[k]?=some (.str ys[k]):=by rw[zF,zV fv];rfl
   have htk:ys.take (k+1)=ys.take k++[ys[k]]:=by rw[a1Q,zV fv];rfl
   walk_at "r";refine AR (AA (lx a (by lia))) ?_;walk_at "r";refine NG ⟨by lia,by lia⟩ ?_;obtain⟨b,vn,rA,eb⟩:∃b:Int,0 < b/\b < 2 ^ 64/\(1:Int)*2 ^ ((k:Int).toNat)=b:=by
     rw[a5K];have vo:k < 6:=by lia
     match k,vo with
     | 0,_=>exact⟨_,by decide,by decide,rfl⟩
     | 1,_=>exact⟨_,by decide,by decide,rfl⟩
     | 2,_=>exact⟨_,by decide,by decide,rfl⟩
     | 3,_=>exact⟨_,by decide,by decide,rfl⟩
     | 4,_=>exact⟨_,by decide,by decide,rfl⟩
     | 5,_=>exact⟨_,by decide,by decide,rfl⟩
   rw[eb];refine NG ⟨vn,rA⟩ ?_;walk_at "r";refine BL rfl rfl ?_;rw[if_neg nft,MZ];cases decide (L.getD a 0/b % 2=1) with
   | false=> walk_at "r";exact⟨by lia,w,_,bq.trans (by rw[htk];exact List.sublist_append_left _ _),hb,rfl,rfl⟩
   | true=>
     walk_at "r";refine K3 ?_;walk_at "dl";refine⟨F8 (ds:=w.map thD) zU,?_⟩;walk_at "r";refine AR (AA r9) ?_;walk_at "r";refine AR (AA (j:=a+1+k) (lx _ (by lia))) ?_;walk_at "r";refine KG (hx _ (by lia)) λv1 p0 p1=>?_;walk_at "r";refine AR (AA (j:=a+1+k) (lx _ (by lia))) ?_;walk_at "r";refine JD (by have:=hx (a+1+k) (by lia);lia) λv2 q0 q1=>?_;walk_at "r";refine CO (ds:=w.map thD) zU (by rw[zX];exact zQ r8 (by decide)) ?_;rw[yI];refine⟨by lia,w++[(ys[k],v1,v2)],_,by rw[xI,htk];exact List.Sublist.append bq (List.Sublist.refl _),λt ht=>?_,by rw[xI];rfl,rfl⟩;rcases yW.mp ht with h | h;. exact hb t h
     . rw[List.mem_singleton.mp h];exact⟨p0,p1,q0,q1⟩
 . rintro ρ1 M1 ⟨hk,w,x4,bq,hb,rfl,rfl⟩;rw[FX,a1J] at bq;have vp:(w.map (·.1)).Nodup:=hn.2.1.sublist bq;have r8:w.length<=6:=by have:=bq.length_le;rw[zX] at this;lia
   refine FV (i:=3) (a:=A) rfl zU ?_;rw[yG hA];walk_at "r";rw[<-cG];refine cB (by rw[zD];exact vp) (by rw[zX];lia) λdk hp bb=>?_;obtain⟨u1,u2,u3⟩:=cH hp;rw[u2];walk_at "r";refine IS ?_;refine⟨M,zT _,λL' a' bp e=>⟨rfl,dk.map unB,rfl,⟨by rw[u3];exact VY bb,λt ht=>?_⟩,λt ht=>?_⟩⟩;. have ht:=u1.mem_iff.mp ht;exact⟨hn.1 _ (bq.subset (zL.mpr ⟨t,ht,rfl⟩)),hb t ht⟩
   . have ht:=u1.mem_iff.mp ht;simp only[O5,List.cons.injEq,DS.d.injEq,and_true] at e;rw[<-KA e.2.2];exact bq.subset (zL.mpr ⟨t,ht,rfl⟩)
def PH:List Str:=["_law_world_here", "_law_found", "_law_name", "_law_place_here", "_law_count"]
theorem JI:FnScope PH ["_law_world_here"] (AC EG):=⟨rfl,rfl,rfl,by decide +kernel,rfl,by decide +kernel,by decide +kernel⟩
section
local macro_rules | `(tactic| walk_at "x")=>`(tactic| first | ((with_reducible show PE _ (.Dict ..) _);exact @NB _ _) | ((with_reducible show PG _ (.Tuple ..) _);exact @gK _ K _ _ _ _ (3) rfl rfl (by walk_at "j") (by rfl) (by rfl)) | ((with_reducible show PS _ (.Assign [.Subscript ..] ..) _);exact @IP _ _ _ _ _ _ _ _ _ bu (by walk_at "e") (by walk_at "e") (by walk_at "e") (by rfl)))
theorem PJ {f:Addr}{fd:FuncData}(F:Fun K "_law_there" "_law_there" EG f fd):FnOk P w K mg base CX0 1 f fd ["_law_world_here"] (spD K 1 IZ):=by
 refine fnD F JI λcdv A outer s H E hr=>?_;have hu:=hr.units;have bu:=zQ (a1V (show 1<=64 by decide) _) hu;have nd:=JI.nd;refine⟨_,by walk_at "b2", ?_⟩;clear nd;rintro xs M hl ⟨w,rfl,iz,sU⟩;walk_at "r";refine O2 λp hp=>?_;walk_at "r";refine CK ?_;refine B8 ?_;walk_at "r";refine⟨λk ρ1 M1=>k<=w.length/\M1=M.put p (tsO (w.take k))/\∃x2 x3 x4:Option DS,ρ1=[some (.d (wD w)),some (.loc p),x2,x3,x4],⟨xT _,rfl,_,_,_,rfl⟩,?_,?_⟩
 . rintro k d ρ1 M1 hd ⟨hk,rfl,x2,x3,x4,rfl⟩;have cv:k < w.length:=by have:=(yT.mp hd).1;rw[zX] at this;exact this
   obtain rfl:thD w[k]=d:=by rw[zF,zV cv] at hd;simpa using hd
   generalize hwk:w[k]=t;rw[show thD t = .tuple [.str t.1,.int t.2.1,.int t.2.2] from rfl];walk_at "r";refine BW ?_;walk_at "r";refine⟨p,tsD (w.take k),t.1,pcD t.2.1 t.2.2,rfl,rfl,rfl,zU,CV (by rw[a0V];lia),?_⟩;rw[yI,CI];refine⟨by lia,?_,_,_,_,rfl⟩;rw[cV iz (by rw[zV cv,hwk])]
 . rintro ρ1 M1 ⟨hk,rfl,x2,x3,x4,rfl⟩;rw[zX,a1J];walk_at "r";refine⟨_,zT _,λw' e=>?_⟩;simp only[List.cons.injEq,DS.d.injEq,and_true] at e;rw[<-lZ e];exact⟨p,hp,rfl,rfl⟩
end
def OM:List Str:=["_law_deed_here"]
theorem II:FnScope OM ["_law_deed_here"] (AC DN):=⟨rfl,rfl,rfl,by decide +kernel,rfl,by decide +kernel,by decide +kernel⟩
theorem OO {f:Addr}{fd:FuncData}(F:Fun K "_law_wanted" "_law_wanted" DN f fd):FnOk P w K mg base CX0 1 f fd ["_law_deed_here"] (spD K 1 DW):=by
 refine fnD F II λcdv A outer s H E hr=>?_;have hu:=hr.units;have nd:=II.nd;refine⟨_,by walk_at "b2", ?_⟩;clear nd;rintro xs M hl ⟨D,rfl,hr⟩;have f_:=hr.2.1;have fin:∀{y:DS}{ms:List Str},D.must=ms->y = .d (C6 ms)->∃M2:Own,M2.Sub M/\DW.post [.d D.d] M y M2:=λe1 e2=>⟨M,zT M,λD' e=>by simp only[List.cons.injEq,DS.d.injEq,and_true] at e;obtain rfl:=FW e;rw[e1];exact⟨e2,rfl⟩⟩
 rw[D.d_eq] at *;walk_at "r";refine AB (d:=.str D.word) (AA (j:=0) rfl) ?_;walk_at "r";refine BL D.word_ok (by decide +kernel) ?_;rw[if_neg nft,EB];cases h1:(D.word==a0Q "put") with
 | true=>
   walk_at "r";refine HS ?_;walk_at "r";cases D <;> first | (exfalso;simp only[Deed.word] at h1;revert h1;decide +kernel) | skip
   exact fin (ms:=[]) (by simp[Deed.must,Deed.names,Deed.made,Deed.fst,Deed.rest]) rfl
 | false=>
   walk_at "r";refine AB (d:=.str D.word) (AA (j:=0) rfl) ?_;walk_at "r";refine BL D.word_ok (by decide +kernel) ?_;rw[if_neg nft,EB];cases h2:(D.word==a0Q "join") with
   | true=>
     walk_at "r";refine HS ?_;walk_at "r";cases D <;> first | (exfalso;simp only[Deed.word] at h2;revert h2;decide +kernel) | skip
     refine AB (d:=_) rfl ?_;walk_at "r";refine AB (d:=_) rfl ?_;walk_at "r";exact fin (ms:=[_,_]) (by simp[Deed.must,Deed.names,Deed.made,Deed.fst,Deed.rest]) rfl
   | false=>
     walk_at "r";refine HS ?_;walk_at "r";cases D <;> first | (exfalso;simp only[Deed.word] at h1;revert h1;decide +kernel) | (exfalso;simp only[Deed.word] at h2;revert h2;decide +kernel) | skip
     all_goals
       refine AB (d:=_) rfl ?_;walk_at "r";exact fin (ms:=[_]) (by first | (simp[Deed.must,Deed.names,Deed.made,Deed.fst,Deed.rest];done) | (simp[Deed.must,Deed.names,Deed.made,Deed.fst,Deed.rest,a3J f_];done)) rfl
def SC:List Str:=["_law_deed_here"]
theorem L1:FnScope SC ["_law_deed_here"] (AC FK):=⟨rfl,rfl,rfl,by decide +kernel,rfl,by decide +kernel,by decide +kernel⟩
section
local macro_rules | `(tactic| walk_at "x")=>`(tactic| first | ((with_reducible show PT _ (.Compare _ [.In] ..) _);exact @C8 _ _ _ _ _ _ _ _ (@kIn _ K rfl) (by walk_at "e") (by walk_at "e") (by with_unfolding_all rfl)))
theorem SD {f:Addr}{fd:FuncData}(F:Fun K "_law_made" "_law_made" FK f fd):FnOk P w K mg base CX0 1 f fd ["_law_deed_here"] (spD K 1 IA):=by
 refine fnD F L1 λcdv A outer s H E hr=>?_;have hu:=hr.units;have nd:=L1.nd;refine⟨_,by walk_at "b2", ?_⟩;clear nd;rintro xs M hl ⟨D,rfl,hr⟩;have fin:∀{l:List Str},D.made.toList=l->∃M2:Own,M2.Sub M/\IA.post [.d D.d] M (.d (C6 l)) M2:=λe2=>⟨M,zT M,λD' e=>by simp only[List.cons.injEq,DS.d.injEq,and_true] at e;obtain rfl:=FW e;rw[e2];exact⟨rfl,rfl⟩⟩
 rw[D.d_eq] at *;walk_at "r";refine AB (d:=.str D.word) (AA (j:=0) rfl) ?_;walk_at "r";refine BL D.word_ok (by decide +kernel) ?_;rw[if_neg nft,EB];cases h1:(D.word==a0Q "put") with
 | true=>
   walk_at "r";refine HS ?_;walk_at "r";refine AB (d:=.str D.fst) (AA (j:=1) rfl) ?_;walk_at "r";cases D <;> first | (exfalso;simp only[Deed.word] at h1;revert h1;decide +kernel) | skip
   exact fin (l:=[_]) rfl
 | false=>
   walk_at "r";refine AB (d:=.str D.word) (AA (j:=0) rfl) ?_;walk_at "wkd";refine X4 (ys:=[a0Q "name", a0Q "split"]) ?_;rw[show decide (D.word∈[a0Q "name", a0Q "split"])=(D.word==a0Q "name" || D.word==a0Q "split") by rw[a2Q];simp];cases h2:(D.word==a0Q "name" || D.word==a0Q "split") with
   | true=>
     walk_at "r";refine HS ?_;walk_at "r";cases D <;> first | (exfalso;simp only[Deed.word] at h2;revert h2;decide +kernel) | skip
     all_goals
       refine AB (d:=_) rfl ?_;walk_at "r";exact fin (l:=[_]) rfl
   | false=> walk_at "wkd";cases D <;> first | (exfalso;simp only[Deed.word] at h1;revert h1;decide +kernel) | (exfalso;simp only[Deed.word] at h2;revert h2;decide +kernel) | exact fin (l:=[]) rfl
end
def MH:List Str:=["_law_there_here", "_law_deed_here"]
def JJ:List Str:=["_law_name", "_law_there_here"]
def FQ:List (Option Nat):=[none,some 0]
theorem PK:JJ.Nodup:=by decide +kernel
theorem MI:FnScope MH ["_law_there_here", "_law_deed_here"] (AC EU):=⟨rfl,rfl,rfl,by decide +kernel,rfl,by decide +kernel,by decide +kernel⟩
section
local macro_rules | `(tactic| walk_at "cs")=>`(tactic| first | exact @GM _ _ JJ FQ (AC EU) MH (by decide +kernel) (by decide +kernel) rfl rfl)
local macro_rules | `(tactic| walk_at "x")=>`(tactic| first | ((with_reducible show PE _ (.Compare _ [.In] ..) _);exact @ZU _ _ _ _ _ _ (@R8 _ _ _ _ _ bu (by walk_at "e") (by walk_at "e")) (by with_unfolding_all rfl)))
theorem UX {f:Addr}{fd:FuncData}(F:Fun K "_law_can" "_law_can" EU f fd) (cj:mg "all"=none) (fj:mg "any"=none) (ck:Has P w K mg base "_law_made" 1 ["_law_deed_here"] IA) (bw:Has P w K mg base "_law_wanted" 1 ["_law_deed_here"] DW):FnOk P w K mg base CX0 2 f fd ["_law_there_here", "_law_deed_here"] (spD K 2 J5):=by
 refine fnD F MI λcdv A outer s H E hr=>?_;have hu:=hr.units;have bu:=zQ (a1V (show 1<=64 by decide) _) hu;have nd:=MI.nd;have n0:=PK;refine⟨_,by walk_at "b2", ?_⟩;clear nd n0;rintro xs M hl ⟨dx,w,D,rfl,m,hr⟩;unfold tdW;have ab:∀l:List Str,l.length<=2->(l.map a0J).length < sizeLine:=λl h=>by rw[zX];exact zQ h (by decide)
 have kq:D.must.length<=2:=zN (yJ _ _) (by cases D <;> simp[Deed.names]);have oe:D.made.toList.length<=2:=by cases D.made <;> simp
 have cx:∀(z:Str),(BZ (tsD w) z).isSome=decide (z∈w.map (·.1)):=λz=>by rw[AW,a4V,a2Q,decide_eq_true_iff,C0]
 walk_at "r";refine BM (AT 0) (by simp[FQ]) ?_;refine BQ ?_;walk_at "r";refine YU hr ?_;refine⟨_,rfl,?_⟩;refine⟨ab _ kq,λ_=>true,inT (w.map (·.1)),?_,?_⟩;. rintro d hd A acc M' hA rfl;obtain⟨z,hz,rfl⟩:=zL.mp hd;walk_at "dl";refine⟨rfl,?_⟩;walk_at "dl";refine⟨rfl,rfl,λ_=>?_⟩;refine N2 ?_;walk_at "r";refine⟨tsD w,z,m.put hA,rfl,?_⟩;rw[cx];exact⟨rfl,rfl⟩
 rw[J7,G0];walk_at "r";refine HU ?_;walk_at "r";have fin:∀{b:Bool},b=decide (AY (w.map (·.1)) D=none)->∃M2:Own,M2.Sub M/\J5.post (tdW dx D) M (.d (.bool b)) M2:=λ{b} e=>⟨M,zT M,λp' w' D' e' m' _=>by simp only[tdW,List.cons.injEq,DS.d.injEq,and_true] at e';obtain⟨rfl,e2⟩:=e';obtain rfl:=FW e2;obtain rfl:=m.inj m';rw[e];exact⟨rfl,rfl⟩⟩
 rw[oX] at fin;cases ha:(D.must.map λz=>decide (z∈w.map (·.1))).all id with
 | false=> walk_at "r";exact fin (by rw[ha];rfl)
 | true=>
   walk_at "r";refine BM (AT 0) (by simp[FQ]) ?_;refine BQ ?_;walk_at "r";refine U8 hr ?_;refine⟨_,rfl,?_⟩;refine⟨ab _ oe,λ_=>true,inT (w.map (·.1)),?_,?_⟩;. rintro d hd A acc M' hA rfl;obtain⟨z,hz,rfl⟩:=zL.mp hd;walk_at "dl";refine⟨rfl,?_⟩;walk_at "dl";refine⟨rfl,rfl,λ_=>?_⟩;refine N2 ?_;walk_at "r";refine⟨tsD w,z,m.put hA,rfl,?_⟩;rw[cx];exact⟨rfl,rfl⟩
   rw[J7,G0];walk_at "r";refine bD ?_;walk_at "r";exact fin (by rw[ha];rfl)
end
def SE:List Str:=["_law_there_here", "_law_deed_here", "_law_found", "_law_word", "_law_name"]
theorem L3:FnScope SE ["_law_there_here", "_law_deed_here"] (AC FL):=⟨rfl,rfl,rfl,by decide +kernel,rfl,by decide +kernel,by decide +kernel⟩
section
local macro_rules | `(tactic| walk_at "x")=>`(tactic| first | ((with_reducible show PS _ (.Assign [.Subscript ..] ..) _);exact @IP _ _ _ _ _ _ _ _ _ bu (by walk_at "e") (by walk_at "e") (by walk_at "e") (by rfl)) | ((with_reducible show PE _ (.Call (.Attribute _ (a0Q "pop") _) ..) _);exact @aD _ _ _ _ _ _ _ (by walk_at "e") (by walk_at "e") (@L2.M1.mk _ _ _ _ _ _ rfl rfl rfl rfl)))
local macro_rules | `(tactic| walk_at "y")=>`(tactic| first | ((with_reducible show PE _ (.Call (.Name (a0Q "dict") _) ..) _);exact @L7 _ _ _ _ _ _ _ _ _ (@mE _ K rfl) (by rfl) et PyProof.Rows.boot_dict (by walk_at "a") (by decide) (by decide) (by rfl) (by rfl)) | ((with_reducible show PE _ (.Subscript ..) _);exact @E8 _ _ _ _ _ _ bu (@pv _ 0 _ _ (by rfl) (by walk_at "lc") (by decide) (by decide)) (@pv _ 4 _ _ (by rfl) (by walk_at "lc") (by decide) (by decide)) (λ_ _=>rfl)) | ((with_reducible show PE _ (.Subscript ..) _);exact @E8 _ _ _ _ _ _ bu (@pv _ 0 _ _ (by rfl) (by walk_at "lc") (by decide) (by decide)) (by walk_at "e") (λ_ _=>rfl)))
theorem SF {f:Addr}{fd:FuncData}(F:Fun K "_law_step" "_law_step" FL f fd) (et:mg "dict"=none):FnOk P w K mg base CX0 1 f fd ["_law_there_here", "_law_deed_here"] (spD K 2 G9):=by
 refine fnD F L3 λcdv A outer s H E hr=>?_;have hu:=hr.units;have bu:=zQ (a1V (show 1<=64 by decide) _) hu;have nd:=L3.nd;refine⟨_,by walk_at "b2", ?_⟩;clear nd;rintro xs M hl ⟨dx,w,D,rfl,m,hg,sU⟩;unfold tdW;have fin:∀{w2:List Th}{q:Addr}{hq:M q=none},doT w D=w2->∃M2:Own,M2.Sub (M.put q (tsO w2))/\G9.post (tdW dx D) M (.loc q) M2:=λ{w2 q hq} e=>⟨_,zT _,λp' w' D' e' m'=>by simp only[tdW,List.cons.injEq,DS.d.injEq,and_true] at e';obtain⟨rfl,e2⟩:=e';obtain rfl:=FW e2;obtain rfl:=m.inj m';rw[<-e];exact⟨q,hq,rfl,rfl⟩⟩
 walk_at "r";refine dN m λq hq=>?_;have fin:=λ(w2:List Th)=>fin (w2:=w2) (q:=q) (hq:=hq);have mq:∀o:MO,isTD (M.put q o) dx (tsD w):=λo=>m.put hq;cases D with
 | put x pl k=> rw[show(Deed.put x pl k).d = .tuple [.str (a0Q "put"),.str x,.int pl,.int k] from rfl];walk_at "r";refine AB (d:=.str (a0Q "put")) (AA (j:=0) rfl) ?_;walk_at "r";refine AB (d:=.str x) (AA (j:=1) rfl) ?_;walk_at "r";refine AD (t:=true) (by decide +kernel) ?_;walk_at "r";refine BW ?_;walk_at "r";refine AB (d:=.int pl) (AA (j:=2) rfl) ?_;walk_at "r";refine AB (d:=.int k) (AA (j:=3) rfl) ?_;walk_at "r";refine⟨q,tsD (w),x,pcD (pl) (k),rfl,rfl,rfl,zU,CV (by lia),?_⟩;rw[yI,CI];walk_at "r";exact fin _ rfl
 | take x=> rw[show(Deed.take x).d = .tuple [.str (a0Q "take"),.str x] from rfl];obtain⟨v,hv⟩:=VX hg (n:=x) (by simp[Deed.names]) (by simp[Deed.made]);walk_at "r";refine AB (d:=.str (a0Q "take")) (AA (j:=0) rfl) ?_;walk_at "r";refine AB (d:=.str x) (AA (j:=1) rfl) ?_;walk_at "r";refine AD (t:=false) (by decide +kernel) ?_;walk_at "r";refine AD (t:=true) (by decide +kernel) ?_;walk_at "r";refine RL ?_;walk_at "r";refine⟨q,tsD (w),rfl,zU,?_⟩;walk_at "r";refine⟨tsD (w),x,pcD v.1 v.2,rfl,zU,by rw[AW,hv];rfl,?_⟩;rw[yI,NR];walk_at "r";exact fin _ rfl
 | move x pl=> rw[show(Deed.move x pl).d = .tuple [.str (a0Q "move"),.str x,.int pl] from rfl];obtain⟨v,hv⟩:=VX hg (n:=x) (by simp[Deed.names]) (by simp[Deed.made]);walk_at "r";refine AB (d:=.str (a0Q "move")) (AA (j:=0) rfl) ?_;walk_at "r";refine AB (d:=.str x) (AA (j:=1) rfl) ?_;walk_at "r";refine AD (t:=false) (by decide +kernel) ?_;walk_at "r";refine AD (t:=false) (by decide +kernel) ?_;walk_at "r";refine AD (t:=true) (by decide +kernel) ?_;walk_at "r";refine BW ?_;walk_at "r";refine AB (d:=.int pl) (AA (j:=2) rfl) ?_;walk_at "r";refine DY ?_;walk_at "r";refine⟨tsD w,x,pcD v.1 v.2,mq _,rfl,by rw[AW,hv];rfl,?_⟩;rw[show pcD v.1 v.2 = .tuple [.int v.1,.int v.2] from rfl];walk_at "r";refine AB (ds:=[.int v.1,.int v.2]) (d:=.int v.2) (AA (j:=1) rfl) ?_;walk_at "r";refine⟨q,tsD (w),x,pcD (pl) (v.2),rfl,rfl,rfl,zU,CV (by lia),?_⟩;rw[yI,CI];walk_at "r";exact fin _ (by simp only[doT,hv])
 | count x k=> rw[show(Deed.count x k).d = .tuple [.str (a0Q "count"),.str x,.int k] from rfl];obtain⟨v,hv⟩:=VX hg (n:=x) (by simp[Deed.names]) (by simp[Deed.made]);walk_at "r";refine AB (d:=.str (a0Q "count")) (AA (j:=0) rfl) ?_;walk_at "r";refine AB (d:=.str x) (AA (j:=1) rfl) ?_;walk_at "r";refine AD (t:=false) (by decide +kernel) ?_;walk_at "r";refine AD (t:=false) (by decide +kernel) ?_;walk_at "r";refine AD (t:=false) (by decide +kernel) ?_;walk_at "r";refine AD (t:=true) (by decide +kernel) ?_;walk_at "r";refine BW ?_;walk_at "r";refine DY ?_;walk_at "r";refine⟨tsD w,x,pcD v.1 v.2,mq _,rfl,by rw[AW,hv];rfl,?_⟩;rw[show pcD v.1 v.2 = .tuple [.int v.1,.int v.2] from rfl];walk_at "r";refine AB (ds:=[.int v.1,.int v.2]) (d:=.int v.1) (AA (j:=0) rfl) ?_;walk_at "r";refine DY ?_;walk_at "r";refine⟨tsD w,x,pcD v.1 v.2,mq _,rfl,by rw[AW,hv];rfl,?_⟩;rw[show pcD v.1 v.2 = .tuple [.int v.1,.int v.2] from rfl];walk_at "r";refine AB (ds:=[.int v.1,.int v.2]) (d:=.int v.2) (AA (j:=1) rfl) ?_;walk_at "r";refine AB (d:=.int k) (AA (j:=2) rfl) ?_;walk_at "r";refine⟨q,tsD (w),x,pcD (v.1) (v.2+k),rfl,rfl,rfl,zU,CV (by lia),?_⟩;rw[yI,CI];walk_at "r";exact fin _ (by simp only[doT,LD,hv])
 | name x y=> rw[show(Deed.name x y).d = .tuple [.str (a0Q "name"),.str x,.str y] from rfl];obtain⟨v,hv⟩:=VX hg (n:=x) (by simp[Deed.names]) (by simp only[Deed.made,ne_eq,Option.some.injEq];exact a3J hg.2.1.2.1);walk_at "r";refine AB (d:=.str (a0Q "name")) (AA (j:=0) rfl) ?_;walk_at "r";refine AB (d:=.str x) (AA (j:=1) rfl) ?_;walk_at "r";refine AD (t:=false) (by decide +kernel) ?_;walk_at "r";refine AD (t:=false) (by decide +kernel) ?_;walk_at "r";refine AD (t:=false) (by decide +kernel) ?_;walk_at "r";refine AD (t:=false) (by decide +kernel) ?_;walk_at "r";refine AD (t:=true) (by decide +kernel) ?_;walk_at "r";refine BW ?_;refine RL ?_;walk_at "r";refine⟨q,tsD (w),rfl,zU,?_⟩;walk_at "r";refine⟨tsD (w),x,pcD v.1 v.2,rfl,zU,by rw[AW,hv];rfl,?_⟩;rw[yI,NR];walk_at "r";refine AB (d:=.str y) (AA (j:=2) rfl) ?_;walk_at "r";refine⟨q,tsD (HY w x),y,pcD (v.1) (v.2),rfl,rfl,rfl,zU,CV (zQ (yJ _ _) (by lia)),?_⟩;rw[yI,CI];walk_at "r";exact fin _ (by simp only[doT,hv])
 | split x y pl k=> rw[show(Deed.split x y pl k).d = .tuple [.str (a0Q "split"),.str x,.str y,.int pl,.int k] from rfl];obtain⟨v,hv⟩:=VX hg (n:=x) (by simp[Deed.names]) (by simp only[Deed.made,ne_eq,Option.some.injEq];exact a3J hg.2.1.2.1);walk_at "r";refine AB (d:=.str (a0Q "split")) (AA (j:=0) rfl) ?_;walk_at "r";refine AB (d:=.str x) (AA (j:=1) rfl) ?_;walk_at "r";refine AD (t:=false) (by decide +kernel) ?_;walk_at "r";refine AD (t:=false) (by decide +kernel) ?_;walk_at "r";refine AD (t:=false) (by decide +kernel) ?_;walk_at "r";refine AD (t:=false) (by decide +kernel) ?_;walk_at "r";refine AD (t:=false) (by decide +kernel) ?_;walk_at "r";refine AD (t:=true) (by decide +kernel) ?_;walk_at "r";refine BW ?_;walk_at "r";refine DY ?_;walk_at "r";refine⟨tsD w,x,pcD v.1 v.2,mq _,rfl,by rw[AW,hv];rfl,?_⟩;rw[show pcD v.1 v.2 = .tuple [.int v.1,.int v.2] from rfl];walk_at "r";refine AB (ds:=[.int v.1,.int v.2]) (d:=.int v.1) (AA (j:=0) rfl) ?_;walk_at "r";refine DY ?_;walk_at "r";refine⟨tsD w,x,pcD v.1 v.2,mq _,rfl,by rw[AW,hv];rfl,?_⟩;rw[show pcD v.1 v.2 = .tuple [.int v.1,.int v.2] from rfl];walk_at "r";refine AB (ds:=[.int v.1,.int v.2]) (d:=.int v.2) (AA (j:=1) rfl) ?_;walk_at "r";refine AB (d:=.int k) (AA (j:=4) rfl) ?_;walk_at "r";refine⟨q,tsD (w),x,pcD (v.1) (v.2 - k),rfl,rfl,rfl,zU,CV (by lia),?_⟩;rw[yI,CI];walk_at "r";refine BW ?_;walk_at "r";refine AB (d:=.int pl) (AA (j:=3) rfl) ?_;walk_at "r";refine AB (d:=.int k) (AA (j:=4) rfl) ?_;walk_at "r";refine AB (d:=.str y) (AA (j:=2) rfl) ?_;walk_at "r";refine⟨q,tsD (BK w x v.1 (v.2 - k)),y,pcD (pl) (k),rfl,rfl,rfl,zU,CV (by have:=QJ (ts:=w) (x:=x) (p:=v.1) (c:=v.2 - k);lia),?_⟩;rw[yI,CI];walk_at "r";exact fin _ (by simp only[doT,LD,hv,Int.sub_eq_add_neg])
 | join x y=> rw[show(Deed.join x y).d = .tuple [.str (a0Q "join"),.str x,.str y] from rfl];obtain⟨v,hv⟩:=VX hg (n:=x) (by simp[Deed.names]) (by simp[Deed.made]);obtain⟨u,hu⟩:=VX hg (n:=y) (by simp[Deed.names]) (by simp[Deed.made]);walk_at "r";refine AB (d:=.str (a0Q "join")) (AA (j:=0) rfl) ?_;walk_at "r";refine AB (d:=.str x) (AA (j:=1) rfl) ?_;walk_at "r";refine AD (t:=false) (by decide +kernel) ?_;walk_at "r";refine AD (t:=false) (by decide +kernel) ?_;walk_at "r";refine AD (t:=false) (by decide +kernel) ?_;walk_at "r";refine AD (t:=false) (by decide +kernel) ?_;walk_at "r";refine AD (t:=false) (by decide +kernel) ?_;walk_at "r";refine AD (t:=false) (by decide +kernel) ?_;walk_at "r";refine BW ?_;walk_at "r";refine DY ?_;walk_at "r";refine⟨tsD w,x,pcD v.1 v.2,mq _,rfl,by rw[AW,hv];rfl,?_⟩;rw[show pcD v.1 v.2 = .tuple [.int v.1,.int v.2] from rfl];walk_at "r";refine AB (ds:=[.int v.1,.int v.2]) (d:=.int v.1) (AA (j:=0) rfl) ?_;walk_at "r";refine DY ?_;walk_at "r";refine⟨tsD w,x,pcD v.1 v.2,mq _,rfl,by rw[AW,hv];rfl,?_⟩;rw[show pcD v.1 v.2 = .tuple [.int v.1,.int v.2] from rfl];walk_at "r";refine AB (ds:=[.int v.1,.int v.2]) (d:=.int v.2) (AA (j:=1) rfl) ?_;walk_at "r";refine DY ?_;walk_at "r";refine AB (d:=.str y) (AA (j:=2) rfl) ?_;walk_at "r";refine⟨tsD w,y,pcD u.1 u.2,mq _,rfl,by rw[AW,hu];rfl,?_⟩;rw[show pcD u.1 u.2 = .tuple [.int u.1,.int u.2] from rfl];walk_at "r";refine AB (ds:=[.int u.1,.int u.2]) (d:=.int u.2) (AA (j:=1) rfl) ?_;walk_at "r";refine⟨q,tsD (w),x,pcD (v.1) (v.2+u.2),rfl,rfl,rfl,zU,CV (by lia),?_⟩;rw[yI,CI];walk_at "r";refine RL ?_;walk_at "r";refine⟨q,tsD (BK w x v.1 (v.2+u.2)),rfl,zU,?_⟩;walk_at "r";refine AB (d:=.str y) (AA (j:=2) rfl) ?_;walk_at "r";refine⟨tsD (BK w x v.1 (v.2+u.2)),y,pcD u.1 u.2,rfl,zU,by rw[AW,U4 (a3J hg.2.1.2.1),hu];rfl,?_⟩;rw[yI,NR];walk_at "r";exact fin _ (by simp only[doT,LD,hv,hu])
end
def GX:List Str:=["_law_xs", "_law_at", "_law_names_here", "_law_there_here", "_law_standing", "_law_others", "_law_word", "_law_one", "_law_place_here", "_law_number_here", "_law_second"]
def IJ:List Str:=["_law_name", "_law_there_here"]
def EV:List (Option Nat):=[none,some 3]
theorem OP:IJ.Nodup:=by decide +kernel
def IK:List Str:=["_law_name", "_law_one"]
def D0:List (Option Nat):=[none,some 7]
theorem OQ:IK.Nodup:=by decide +kernel
theorem L4:FnScope GX ["_law_xs", "_law_at", "_law_names_here", "_law_there_here"] (AC CQ):=⟨rfl,rfl,rfl,by decide +kernel,rfl,by decide +kernel,by decide +kernel⟩
section
local macro_rules | `(tactic| walk_at "cs")=>`(tactic| first | exact @GM _ _ IJ EV (AC CQ) GX (by decide +kernel) (by decide +kernel) rfl rfl | exact @GM _ _ IK D0 (AC CQ) GX (by decide +kernel) (by decide +kernel) rfl rfl)
local macro_rules | `(tactic| walk_at "x")=>`(tactic| first | ((with_reducible show PT _ (.Compare _ [.In] ..) _);exact @QV _ _ _ _ _ _ (@R8 _ _ _ _ _ bu (by walk_at "e") (by walk_at "e")) (by with_unfolding_all rfl)) | ((with_reducible show PT _ (.Compare _ [.NotIn] ..) _);exact @QV _ _ _ _ _ _ (@PX _ _ _ _ _ bu (by walk_at "e") (by walk_at "e")) (by with_unfolding_all rfl)))
theorem SG {f:Addr}{fd:FuncData}(F:Fun K "_law_deed" "_law_deed" CQ f fd) (ao:Has P w K mg base "_law_number" 1 ["_law_x"] EQ) (cm:Has P w K mg base "_law_pick" 1 ["_law_some", "_law_x"] KH) (aq:Has P w K mg base "_law_place" 1 ["_law_x"] G1):FnOk P w K mg base CX0 2 f fd ["_law_xs", "_law_at", "_law_names_here", "_law_there_here"] (spD K 4 IB):=by
 refine fnD F L4 λcdv A outer s H E hr=>?_;have hu:=hr.units;have bu:=zQ (a1V (show 1<=64 by decide) _) hu;have nd:=L4.nd;have n0:=OP;have n1:=OQ;refine⟨_,by walk_at "b2", ?_⟩;clear nd n0 n1;rintro xs M hl ⟨L,a,ys,p,w,rfl,hL,ha,gn,hn,h2,h6,m⟩;have lx:∀i,i < L.length->(L.map b2J)[i]?=some (.int (L.getD i 0)):=λi hi=>by rw[zF,yU,zV hi];rfl
 have hx:∀i,i < L.length->0<=L.getD i 0/\L.getD i 0 < 1000000000:=λi hi=>by rw[yU,zV hi];exact hL _ (a0K hi)
 have fin:∀{D:Deed},AZ ys D->∃M2:Own,M2.Sub M/\IB.post (ddX L a ys p) M (.d D.d) M2:=λ{D} h=>⟨M,zT M,λL' a' bp p' e=>⟨rfl,D,rfl,by
   simp only[ddX,List.cons.injEq,DS.d.injEq,and_true] at e;rw[<-KA e.2.2.1];exact h⟩⟩
 have gb:∀z∈ys,zH (.str z)=true:=λz hz=>VT (hn.1 z hz);rw[show ddX L a ys p=[.d (.list (L.map .int)),.d (.int a),.d (C6 ys),.loc p] from rfl];have kc:(ys.map a0J).length < sizeLine:=by rw[zX];exact zQ h6 (by decide)
 walk_at "r";refine BM (AT 0) (by simp[EV]) ?_;refine BQ ?_;walk_at "r";refine⟨kc,stT (w.map (·.1)),id,?_,?_⟩
 . rintro d hd A acc M' hA rfl;obtain⟨z,hz,rfl⟩:=zL.mp hd;have gf:p≠A:=by rintro rfl;rw[m] at hA;cases hA
   walk_at "dl";refine⟨rfl,?_⟩;walk_at "r";refine XA ?_;walk_at "r";refine⟨p,tsD w,z,rfl,rfl,by rw[yH gf];exact m,?_⟩;refine⟨_,rfl,rfl,?_,λ_=>?_⟩;. rw[AW,a4V,a2Q];unfold stT;rw[decide_eq_true_iff,C0]
   walk_at "r";exact⟨rfl,rfl⟩
 rw[cX];walk_at "r";refine BM (AT 0) (by simp[EV]) ?_;refine BQ ?_;walk_at "r";refine⟨kc,frT (w.map (·.1)),id,?_,?_⟩
 . rintro d hd A acc M' hA rfl;obtain⟨z,hz,rfl⟩:=zL.mp hd;have gf:p≠A:=by rintro rfl;rw[m] at hA;cases hA
   walk_at "dl";refine⟨rfl,?_⟩;walk_at "r";refine UA ?_;walk_at "r";refine⟨p,tsD w,z,rfl,rfl,by rw[yH gf];exact m,?_⟩;refine⟨_,rfl,rfl,?_,λ_=>?_⟩;. unfold frT stT;congr 1;rw[AW,a4V,a2Q,decide_eq_true_iff,C0]
   walk_at "r";exact⟨rfl,rfl⟩
 rw[O4];refine VH (λρ1 M1=>M1=M/\∃(so sp:List Str) (x6 x7 x8 x9 ky:Option DS),(so≠[]/\so.length<=60/\∀z∈so,z∈ys)/\(sp≠[]/\sp.length<=60/\∀z∈sp,z∈ys)/\ρ1=[some (.d (.list (L.map .int))),some (.d (.int a)),some (.d (C6 ys)),some (.loc p),some (.d (C6 so)),some (.d (C6 sp)),x6,x7,x8,x9,ky]) ?_ ?_
 . have rB:∀z∈ys.filter (λz=>decide (z∈w.map (·.1))),z∈ys:=λz hz=>(yL.mp hz).1;have dr:∀z∈ys.filter (λz=>!decide (z∈w.map (·.1))),z∈ys:=λz hz=>(yL.mp hz).1;have l1:(ys.filter (λz=>decide (z∈w.map (·.1)))).length<=60:=zN (yJ _ _) (by lia);have l2:(ys.filter (λz=>!decide (z∈w.map (·.1)))).length<=60:=zN (yJ _ _) (by lia);generalize ys.filter (λz=>decide (z∈w.map (·.1)))=so at rB l1;generalize ys.filter (λz=>!decide (z∈w.map (·.1)))=sp at dr l2;have mf:ys≠[]:=by rintro rfl;simp at h2
   have whole:(ys≠[]/\ys.length<=60/\∀z∈ys,z∈ys):=⟨mf,by lia,λz hz=>hz⟩
   walk_at "r";refine AR (AA (j:=a) (lx _ (by lia))) ?_;walk_at "r";refine BL rfl rfl ?_;rw[if_neg nft,MZ];cases decide (L.getD a 0 % 8=7) with
   | true=> walk_at "r";exact⟨rfl,ys,ys,_,_,_,_,_,whole,whole,rfl⟩
   | false=>
     walk_at "wkd";refine BL (HX λz hz=>CL (hn.1 z (rB z hz))) rfl ?_;rw[if_neg nft,U5];cases h1:so.isEmpty with
     | true=> walk_at "r";exact⟨rfl,ys,ys,_,_,_,_,_,whole,whole,rfl⟩
     | false=>
       walk_at "wkd";refine BL (HX λz hz=>CL (hn.1 z (dr z hz))) rfl ?_;rw[if_neg nft,U5];cases h2:sp.isEmpty with
       | true=> walk_at "r";exact⟨rfl,ys,ys,_,_,_,_,_,whole,whole,rfl⟩
       | false=> walk_at "r";exact⟨rfl,so,sp,_,_,_,_,_,⟨U6 h1,l1,rB⟩,⟨U6 h2,l2,dr⟩,rfl⟩
 . rintro ρ1 M1 ⟨rfl,so,sp,x6,x7,x8,x9,ky,⟨sV,qf,qg⟩,⟨qj,qk,rC⟩,rfl⟩;walk_at "wkd";refine AR (AA (j:=a) (lx _ (by lia))) ?_;walk_at "wkd";obtain⟨wd,vq,sW⟩:∃wd:Str,atI [a0J (a0Q "put"),.str (a0Q "take"),.str (a0Q "move"),.str (a0Q "count"),.str (a0Q "name"),.str (a0Q "split"),.str (a0Q "join")] (L.getD a 0/8 % 7)=some (.str wd)/\wd∈[a0Q "put", "take", "move", "count", "name", "split", "join"]:=XB (ys:=[a0Q "put", "take", "move", "count", "name", "split", "join"]) (by lia) (by show _ < (7:Int);lia);refine AR vq ?_;walk_at "r";refine AR (AA (j:=a+1) (lx _ (by lia))) ?_;walk_at "r";refine BB sV qf λone cw=>?_;have cw:=qg one cw;walk_at "r";refine AR (AA (j:=a+3) (lx _ (by lia))) ?_;walk_at "r";refine KG (hx _ (by lia)) λpl p0 p1=>?_;walk_at "r";refine AR (AA (j:=a+4) (lx _ (by lia))) ?_;walk_at "r";refine JD (hx _ (by lia)) λnum q0 q1=>?_;walk_at "r";have fm:=λ(z:Str) (hz:z∈ys)=>hW (num:=num) hn p0 p1 hz;have dg:=λ(y:Str) (hy:y∈ys) (ai:y≠one)=>i0 (num:=num) hn p0 p1 cw hy ai;simp only[yX,b6X,or_false] at sW;rcases sW with rfl | rfl | rfl | rfl | rfl | rfl | rfl
   . skip
     refine AD (t:=true) (by decide +kernel) ?_;walk_at "r";refine AR (AA (j:=a+1) (lx _ (by lia))) ?_;walk_at "r";refine BB qj qk λz hz=>?_;walk_at "r";exact fin (fm z (rC z hz)).1
   . skip
     refine AD (t:=false) (by decide +kernel) ?_;walk_at "r";refine AD (t:=true) (by decide +kernel) ?_;walk_at "r";exact fin (fm one cw).2.1
   . skip
     refine AD (t:=false) (by decide +kernel) ?_;walk_at "r";refine AD (t:=false) (by decide +kernel) ?_;walk_at "r";refine AD (t:=true) (by decide +kernel) ?_;walk_at "r";exact fin (fm one cw).2.2.1
   . skip
     refine AD (t:=false) (by decide +kernel) ?_;walk_at "r";refine AD (t:=false) (by decide +kernel) ?_;walk_at "r";refine AD (t:=false) (by decide +kernel) ?_;walk_at "r";refine AD (t:=true) (by decide +kernel) ?_;walk_at "r";exact fin (fm one cw).2.2.2
   . skip
     refine AD (t:=false) (by decide +kernel) ?_;walk_at "r";refine AD (t:=false) (by decide +kernel) ?_;walk_at "r";refine AD (t:=false) (by decide +kernel) ?_;walk_at "r";refine AD (t:=false) (by decide +kernel) ?_;walk_at "r";refine AR (AA (j:=a+2) (lx _ (by lia))) ?_;walk_at "r";refine BB qj qk λy0 dj=>?_;walk_at "r";refine AD (t:=false) (by decide +kernel) ?_;walk_at "r";have dj:=rC y0 dj;refine BL (gb y0 dj) (gb one cw) ?_;rw[if_neg nft,EB];cases he:(y0==one) with
     | false=>
       have ai:y0≠one:=λe=>by rw[e] at he;simp at he
       walk_at "r";refine AD (t:=true) (by decide +kernel) ?_;walk_at "r";exact fin (dg y0 dj ai).1
     | true=>
       walk_at "r";refine AM (AT 0) (by simp[D0]) ?_;refine BQ ?_;walk_at "r";refine⟨kc,neT one,id,?_,?_⟩
       . intro d hd M';obtain⟨z,hz,rfl⟩:=zL.mp hd;walk_at "dl";refine⟨rfl,?_⟩;walk_at "r";refine BL (gb z hz) (gb one cw) ?_;rw[if_pos rfl,EB];refine⟨_,rfl,rfl,?_,λ_=>?_⟩;. rw[a2Q];unfold neT;simp
         walk_at "r";exact⟨rfl,rfl⟩
       rw[O6];walk_at "r";refine AR (AA (j:=a+2) (lx _ (by lia))) ?_;walk_at "r";refine BB (RS hn h2 one) (zN (yJ _ _) (by lia)) λy1 gr=>?_;obtain⟨gr,ai⟩:=yL.mp gr;have ai:y1≠one:=by simpa using ai
       walk_at "r";refine AD (t:=true) (by decide +kernel) ?_;walk_at "r";exact fin (dg y1 gr ai).1
   . skip
     refine AD (t:=false) (by decide +kernel) ?_;walk_at "r";refine AD (t:=false) (by decide +kernel) ?_;walk_at "r";refine AD (t:=false) (by decide +kernel) ?_;walk_at "r";refine AD (t:=false) (by decide +kernel) ?_;walk_at "r";refine AR (AA (j:=a+2) (lx _ (by lia))) ?_;walk_at "r";refine BB qj qk λy0 dj=>?_;walk_at "r";refine AD (t:=false) (by decide +kernel) ?_;walk_at "r";have dj:=rC y0 dj;refine BL (gb y0 dj) (gb one cw) ?_;rw[if_neg nft,EB];cases he:(y0==one) with
     | false=>
       have ai:y0≠one:=λe=>by rw[e] at he;simp at he
       walk_at "r";refine AD (t:=false) (by decide +kernel) ?_;walk_at "r";refine AD (t:=false) (by decide +kernel) ?_;walk_at "r";exact fin (dg y0 dj ai).2.1
     | true=>
       walk_at "r";refine AM (AT 0) (by simp[D0]) ?_;refine BQ ?_;walk_at "r";refine⟨kc,neT one,id,?_,?_⟩
       . intro d hd M';obtain⟨z,hz,rfl⟩:=zL.mp hd;walk_at "dl";refine⟨rfl,?_⟩;walk_at "r";refine BL (gb z hz) (gb one cw) ?_;rw[if_pos rfl,EB];refine⟨_,rfl,rfl,?_,λ_=>?_⟩;. rw[a2Q];unfold neT;simp
         walk_at "r";exact⟨rfl,rfl⟩
       rw[O6];walk_at "r";refine AR (AA (j:=a+2) (lx _ (by lia))) ?_;walk_at "r";refine BB (RS hn h2 one) (zN (yJ _ _) (by lia)) λy1 gr=>?_;obtain⟨gr,ai⟩:=yL.mp gr;have ai:y1≠one:=by simpa using ai
       walk_at "r";refine AD (t:=false) (by decide +kernel) ?_;walk_at "r";refine AD (t:=false) (by decide +kernel) ?_;walk_at "r";exact fin (dg y1 gr ai).2.1
   . skip
     refine AD (t:=false) (by decide +kernel) ?_;walk_at "r";refine AD (t:=false) (by decide +kernel) ?_;walk_at "r";refine AD (t:=false) (by decide +kernel) ?_;walk_at "r";refine AD (t:=false) (by decide +kernel) ?_;walk_at "r";refine AR (AA (j:=a+2) (lx _ (by lia))) ?_;walk_at "r";refine BB qj qk λy0 dj=>?_;walk_at "r";refine AD (t:=true) (by decide +kernel) ?_;walk_at "r";refine AR (AA (j:=a+2) (lx _ (by lia))) ?_;walk_at "r";refine BB sV qf λy0 dj=>?_;have dj:=qg y0 dj;walk_at "r";refine BL (gb y0 dj) (gb one cw) ?_;rw[if_neg nft,EB];cases he:(y0==one) with
     | false=>
       have ai:y0≠one:=λe=>by rw[e] at he;simp at he
       walk_at "r";refine AD (t:=false) (by decide +kernel) ?_;walk_at "r";refine AD (t:=true) (by decide +kernel) ?_;walk_at "r";exact fin (dg y0 dj ai).2.2
     | true=>
       walk_at "r";refine AM (AT 0) (by simp[D0]) ?_;refine BQ ?_;walk_at "r";refine⟨kc,neT one,id,?_,?_⟩
       . intro d hd M';obtain⟨z,hz,rfl⟩:=zL.mp hd;walk_at "dl";refine⟨rfl,?_⟩;walk_at "r";refine BL (gb z hz) (gb one cw) ?_;rw[if_pos rfl,EB];refine⟨_,rfl,rfl,?_,λ_=>?_⟩;. rw[a2Q];unfold neT;simp
         walk_at "r";exact⟨rfl,rfl⟩
       rw[O6];walk_at "r";refine AR (AA (j:=a+2) (lx _ (by lia))) ?_;walk_at "r";refine BB (RS hn h2 one) (zN (yJ _ _) (by lia)) λy1 gr=>?_;obtain⟨gr,ai⟩:=yL.mp gr;have ai:y1≠one:=by simpa using ai
       walk_at "r";refine AD (t:=false) (by decide +kernel) ?_;walk_at "r";refine AD (t:=true) (by decide +kernel) ?_;walk_at "r";exact fin (dg y1 gr ai).2.2
end
def UY:List Str:=["_law_xs", "_law_at", "_law_size", "_law_names_here", "_law_there_here", "_law_row_here", "_law_k", "_law_deed_here"]
theorem MJ:FnScope UY ["_law_xs", "_law_at", "_law_size", "_law_names_here", "_law_there_here"] (AC GV):=⟨rfl,rfl,rfl,by decide +kernel,rfl,by decide +kernel,by decide +kernel⟩
section
local macro_rules | `(tactic| walk_at "x")=>`(tactic| first | ((with_reducible show PE _ (.BinOp _ .Mult ..) _);exact @HM _ _ _ _ _ _ _ _ (@bQ _ K rfl) (by walk_at "e") (by walk_at "e")))
theorem UZ {f:Addr}{fd:FuncData}(F:Fun K "_law_row" "_law_row" GV f fd) (ac:mg "range"=none) (ah:mg "tuple"=none) (be:Has P w K mg base "_law_can" 2 ["_law_there_here", "_law_deed_here"] J5) (cn:Has P w K mg base "_law_deed" 2 ["_law_xs", "_law_at", "_law_names_here", "_law_there_here"] IB) (ay:Has P w K mg base "_law_step" 1 ["_law_there_here", "_law_deed_here"] G9):FnOk P w K mg base CX0 3 f fd ["_law_xs", "_law_at", "_law_size", "_law_names_here", "_law_there_here"] (spD K 5 N0):=by
 refine fnD F MJ λcdv A outer s H E hr=>?_;have hu:=hr.units;have nd:=MJ.nd;refine⟨_,by walk_at "b2", ?_⟩;clear nd;rintro xs M hl ⟨L,a,n,ys,p,w,rfl,hL,ha,gn,nk,hn,h2,h6,m,ht⟩;unfold rwX;walk_at "r";refine K2 ?_;walk_at "r";intro A hA;have gf:p≠A:=by rintro rfl;rw[m] at hA;cases hA
 walk_at "r";refine CK ?_;refine EA ?_;walk_at "r";refine⟨by lia,by lia,?_⟩;refine⟨λk ρ1 M1=>∃(Ds:List Deed) (q:Addr) (w:List Th) (x6 x7:Option DS),Ds.length=k/\(∀D∈Ds,AZ ys D)/\q≠A/\There ys w/\M1 q=some (tsO w)/\M.Sub (M1.del A)/\M1 A=some (.l (Ds.map Deed.d))/\ρ1=[some (.d (.list (L.map .int))),some (.d (.int a)),some (.d (.int n)),some (.d (C6 ys)),some (.loc q),some (.loc A),x6,x7],⟨[],p,w,_,_,rfl,(λD hD=>nomatch hD),gf,ht,by rw[yH gf];exact m,by rw[yG hA];exact zT M,zU,rfl⟩,?_,?_⟩
 . rintro k d ρ1 M1 hd ⟨Ds,q,w,x6,x7,hk,oj,ol,hw,mq,bq,mA,rfl⟩;obtain⟨fv,rfl⟩:=GN hd;have r8:w.length<=6:=zN hw.few h6;walk_at "r";refine U9 (a:=a+5*k) hL (by lia) gn hn h2 h6 mq λD hD=>?_;walk_at "r";refine K3 ?_;walk_at "dl";refine⟨F8 mA,?_⟩;walk_at "r";refine CO mA (by rw[zX];exact zQ (show _<=12 by lia) (by decide)) ?_;have e1:Ds.map Deed.d++[D.d]=(Ds++[D]).map Deed.d:=by rw[xI];rfl
   have om:∀E∈Ds++[D],AZ ys E:=λE hE=>by
     rcases yW.mp hE with h | h;. exact oj E h
     . rw[List.mem_singleton.mp h];exact hD
   rw[e1];walk_at "r";refine OG (isTD.o (by rw[yH ol];exact mq)) hD.1 ?_;cases hc:decide (AY (w.map (·.1)) D=none) with
   | false=> walk_at "r";exact⟨Ds++[D],q,w,_,_,by rw[yY,hk];rfl,om,ol,hw,by rw[yH ol];exact mq,by rw[KK];exact bq,zU,rfl⟩
   | true=>
     have jx:goD w D:=⟨⟨hw.nd,by lia⟩,hD.1,of_decide_eq_true hc⟩
     walk_at "r";refine MG (isTD.o (by rw[yH ol];exact mq)) jx (by lia) λr hr=>?_;have oo:r≠A:=by rintro rfl;rw[zU] at hr;cases hr
     walk_at "r";exact⟨Ds++[D],r,doT w D,_,_,by rw[yY,hk];rfl,om,oo,O7 hw jx hD.2,zU,(by rw[Own.del_put_ne oo,KK];exact bq.put (cY bq (by rw[mD oo];rw[yH oo] at hr;exact hr))),by rw[yH oo.symm];exact zU,rfl⟩
 . rintro ρ1 M1 ⟨Ds,q,w,x6,x7,hk,oj,ol,hw,mq,bq,mA,rfl⟩;rw[FX] at hk;refine FV (i:=5) (a:=A) rfl mA ?_;walk_at "r";refine IS ?_;refine⟨M,bq,λL' a' n' bp p' e=>⟨rfl,Ds,rfl,?_,λD hD=>?_⟩⟩;. simp only[rwX,List.cons.injEq,DS.d.injEq,PyData.int.injEq,and_true] at e;lia
   . simp only[rwX,List.cons.injEq,DS.d.injEq,and_true] at e;rw[<-KA e.2.2.2.1];exact oj D hD
end
def ZO:List Str:=["names"]
theorem QS:FnScope ZO ["names"] (AC KW):=⟨rfl,rfl,rfl,by decide +kernel,rfl,by decide +kernel,by decide +kernel⟩
section
local macro_rules | `(tactic| walk_at "y")=>`(tactic| first | ((with_reducible show PE _ (.Call (.Name (a0Q "sorted") _) ..) _);exact @DQ _ _ _ _ _ _ _ _ _ (@XJ _ K rfl) (by rfl) af a8W (by walk_at "a") (by decide) (by decide) (by rfl) (by rfl)))
theorem ZP {f:Addr}{fd:FuncData}(F:Fun K "rising" "rising" KW f fd) (af:mg "sorted"=none) (ah:mg "tuple"=none):FnOk P w K mg base CX0 1 f fd ["names"] (spD K 1 DB):=by refine fnD F QS λcdv A outer s H E hr=>?_;have hu:=hr.units;have nd:=QS.nd;refine⟨_,by walk_at "b1", ?_⟩;clear nd;rintro xs M hl ⟨l,rfl,bc⟩;rw[show AJ l = .tuple (l.map .str) from rfl];walk_at "r";refine G2 bc λss hp hs=>?_;walk_at "r";refine IS ?_;refine⟨M,zT M,λl' e=>?_⟩;simp only[List.cons.injEq,DS.d.injEq,and_true] at e;rw[<-G5 e,GP hp hs];exact⟨rfl,rfl⟩
end
def GD:List Str:=["told"]
def EW:List Str:=["name", "place", "froms", "plus"]
def EX:List (Option Nat):=[none,none,none,none]
theorem JS:EW.Nodup:=by decide +kernel
theorem GF:FnScope GD ["told"] (AC BS):=⟨rfl,rfl,rfl,by decide +kernel,rfl,by decide +kernel,by decide +kernel⟩
section
local macro_rules | `(tactic| walk_at "cs")=>`(tactic| first | exact @GM _ _ EW EX (AC BS) GD (by decide +kernel) (by decide +kernel) rfl rfl)
local macro_rules | `(tactic| walk_at "x")=>`(tactic| first | ((with_reducible show PG _ (.Tuple ..) _);exact @gK _ K _ _ _ _ (4) rfl rfl (by walk_at "j") (by rfl) (by rfl)))
theorem LP {f:Addr}{fd:FuncData}(F:Fun K "by_left_names" "by_left_names" BS f fd):FnOk P w K mg base CX0 1 f fd ["told"] (spD K 1 GQ):=by
 refine fnD F GF λcdv A outer s H E hr=>?_;have hu:=hr.units;have bu:=zQ (a1V (show 1<=64 by decide) _) hu;have nd:=GF.nd;have n0:=JS;refine⟨_,by walk_at "b1", ?_⟩;clear nd n0;rintro xs M hl ⟨E,rfl,iz,ke⟩;walk_at "r";refine TN (lT (MW (MW (MW (MW lS))))) (by simp[EX]) ?_;refine B8 ?_;walk_at "r";refine AB (ds:=[AJ E.st,AJ E.fr,.tuple (E.lf.map lfE)]) (d:=.tuple (E.lf.map lfE)) rfl ?_;refine⟨_,rfl,?_⟩;refine⟨by rw[zX];exact zQ ke (by decide),λ_=>true,nmE,vlE,?_,?_,λp hp=>?_⟩;. rw[J7,zD];exact iz
 . intro d hd M';obtain⟨t,ht,rfl⟩:=zL.mp hd;unfold lfE;walk_at "r";refine⟨rfl,?_⟩;walk_at "dl";refine⟨rfl,rfl,λ_=>?_⟩;walk_at "r";refine⟨rfl,rfl,?_⟩;walk_at "r";exact⟨rfl,rfl⟩
 rw[J7,zD];refine⟨_,zT _,λE' e=>?_⟩;simp only[List.cons.injEq,DS.d.injEq,and_true] at e;rw[<-FF e];exact⟨p,hp,rfl,rfl⟩
end
def OR:List Str:=["one", "between", "other", "missing", "in_the_way"]
def OS:List Str:=["name", "between", "one"]
def OT:List (Option Nat):=[none,some 1,some 0]
theorem WL:OS.Nodup:=by decide +kernel
def OU:List Str:=["name", "between"]
def OV:List (Option Nat):=[none,some 1]
theorem WM:OU.Nodup:=by decide +kernel
theorem V0:FnScope OR ["one", "between", "other"] (AC J6):=⟨rfl,rfl,rfl,by decide +kernel,rfl,by decide +kernel,by decide +kernel⟩
section
local macro_rules | `(tactic| walk_at "cs")=>`(tactic| first | exact @GM _ _ OS OT (AC J6) OR (by decide +kernel) (by decide +kernel) rfl rfl | exact @GM _ _ OU OV (AC J6) OR (by decide +kernel) (by decide +kernel) rfl rfl)
local macro_rules | `(tactic| walk_at "x")=>`(tactic| first | ((with_reducible show PT _ (.Compare _ [.In] ..) _);exact @C8 _ _ _ _ _ _ _ _ (@kIn _ K rfl) (by walk_at "e") (by walk_at "e") (by with_unfolding_all rfl)))
local macro_rules | `(tactic| walk_at "y")=>`(tactic| first | ((with_reducible show PT _ (.Compare _ [.NotIn] ..) _);exact @QV _ _ _ _ _ _ (@PX _ _ _ _ _ bu (@pv _ 0 _ _ (by rfl) (by walk_at "lc") (by decide) (by decide)) (@pv _ 1 _ _ (by rfl) (by walk_at "lc") (by decide) (by decide))) (by with_unfolding_all rfl)) | ((with_reducible show PT _ (.Compare _ [.In] ..) _);exact @QV _ _ _ _ _ _ (@R8 _ _ _ _ _ bu (@pv _ 0 _ _ (by rfl) (by walk_at "lc") (by decide) (by decide)) (@pv _ 1 _ _ (by rfl) (by walk_at "lc") (by decide) (by decide))) (by with_unfolding_all rfl)))
theorem eB {f:Addr}{fd:FuncData}(F:Fun K "clash" "clash" J6 f fd) (ax:mg "len"=none):FnOk P w K mg base CX0 1 f fd ["one", "between", "other"] (spD K 3 G3):=by
 refine fnD F V0 λcdv A outer s H E hr=>?_;have hu:=hr.units;have bu:=zQ (a1V (show 1<=64 by decide) _) hu;have nd:=V0.nd;have n0:=WL;have n1:=WM;refine⟨_,by walk_at "b2", ?_⟩;clear nd n0 n1;rintro xs M hl ⟨ys,one,other,p,rfl,m,h1,h2,hn⟩;have l1:=CG hn h2.st;have l2:=CG hn h2.fr;have l3:=CG hn h1.st;have l4:=CG hn h1.fr;have sz:∀{l:List Str},l.length<=26->(l.map a0J).length < sizeLine:=λ{l} h=>by rw[zX];exact zQ h (by decide)
 have cx:∀z,(BZ (one.lf.map λt=>(t.1,C9 t.2)) z).isSome=CF one.lf z:=λz=>by rw[G6,a4V];rfl
 rw[show clX one other p=[.d one.d,.loc p,.d other.d] from rfl];walk_at "r";refine BM (AT 0) (by simp[OT]) ?_;refine B8 ?_;walk_at "r";refine AB (ds:=[AJ other.st,AJ other.fr,.tuple (other.lf.map lfE)]) (d:=AJ other.st) rfl ?_;refine⟨_,rfl,?_⟩;refine⟨sz l1,msT (one.st++one.fr) one.lf,id,?_,?_⟩
 . rintro d hd A acc M' hA rfl;obtain⟨z,hz,rfl⟩:=zL.mp hd;have gf:p≠A:=by rintro rfl;rw[m] at hA;cases hA
   walk_at "dl";refine⟨rfl,?_⟩;walk_at "r";refine AB (ds:=[AJ one.st,AJ one.fr,.tuple (one.lf.map lfE)]) (d:=AJ one.st) rfl ?_;walk_at "r";refine AB (ds:=[AJ one.st,AJ one.fr,.tuple (one.lf.map lfE)]) (d:=AJ one.fr) rfl ?_;refine CT (by rw[zX,zX];exact zN (show _<=52 by lia) (by decide)) ?_;rw[<-xI];refine X6 ?_;cases hk:decide (z∈one.st++one.fr) with
   | false=>
     refine⟨_,rfl,?_⟩;walk_at "r";refine⟨rfl,?_,λq=>?_⟩;. show false=(decide (z∈one.st++one.fr)&&!CF one.lf z);rw[hk];rfl
     . have q':(decide (z∈one.st++one.fr)&&!CF one.lf z)=true:=q;rw[hk] at q';cases q'
   | true=>
     refine⟨_,rfl,?_⟩;walk_at "r";refine UA ?_;walk_at "r";refine⟨p,_,z,rfl,rfl,by rw[yH gf];exact m,?_⟩;rw[cx];refine⟨_,rfl,rfl,?_,λ_=>?_⟩;. show _=(decide (z∈one.st++one.fr)&&!CF one.lf z);rw[hk];rfl
     walk_at "r";exact⟨rfl,rfl⟩
 walk_at "r";refine BM (AT 0) (by simp[OV]) ?_;refine B8 ?_;walk_at "r";refine AB (ds:=[AJ other.st,AJ other.fr,.tuple (other.lf.map lfE)]) (d:=AJ other.fr) rfl ?_;refine⟨_,rfl,?_⟩;refine⟨sz l2,wyT one.lf,id,?_,?_⟩
 . rintro d hd A acc M' hA rfl;obtain⟨z,hz,rfl⟩:=zL.mp hd;have gf:p≠A:=by rintro rfl;rw[m] at hA;cases hA
   walk_at "dl";refine⟨rfl,?_⟩;walk_at "r";refine XA ?_;walk_at "r";refine⟨p,_,z,rfl,rfl,by rw[yH gf];exact m,?_⟩;rw[cx];refine⟨_,rfl,rfl,rfl,λ_=>?_⟩;walk_at "r";exact⟨rfl,rfl⟩
 walk_at "r";refine IR ?_;rw[mF];walk_at "r";have fin:∀{b:Bool},b=B2 one other->∃M2:Own,M2.Sub M/\G3.post [.d one.d,.loc p,.d other.d] M (.d (.bool b)) M2:=λ{b} e=>⟨M,zT M,λoq gu p' e'=>by simp only[clX,List.cons.injEq,DS.d.injEq,DS.loc.injEq,and_true] at e';rw[<-FF e'.1,<-FF e'.2.2,e];exact⟨rfl,rfl⟩⟩
 rw[XN];cases h1:other.st.any (λn=>decide (n∈one.st++one.fr)&&!CF one.lf n) with
 | true=> rw[if_pos rfl];exact fin (by unfold B2;rw[h1];rfl)
 | false=> rw[if_neg nft];walk_at "r";refine IR ?_;rw[mG];walk_at "r";rw[XN];exact fin (by unfold B2;rw[h1];rfl)
end
def LQ:List Str:=["between", "place", "froms", "plus", "firsts", "name"]
theorem CA:FnScope LQ ["between", "place", "froms", "plus"] (AC CJ):=⟨rfl,rfl,rfl,by decide +kernel,rfl,by decide +kernel,by decide +kernel⟩
section
local macro_rules | `(tactic| walk_at "x")=>`(tactic| first | ((with_reducible show PS _ (.AugAssign ..) _);exact @ZY _ _ (4) _ _ _ _ _ _ CA.nd rfl (by walk_at "lc") (by walk_at "e") (@cM _ K rfl) (by walk_at "or")) | ((with_reducible show PS _ (.AugAssign ..) _);exact @ZY _ _ (3) _ _ _ _ _ _ CA.nd rfl (by walk_at "lc") (by walk_at "e") (@cM _ K rfl) (by walk_at "or")))
local macro_rules | `(tactic| walk_at "y")=>`(tactic| first | ((with_reducible show PE _ (.Subscript ..) _);exact @E8 _ _ _ _ _ _ bu (@pv _ 0 _ _ (by rfl) (by walk_at "lc") (by decide) (by decide)) (@pv _ 1 _ _ (by rfl) (by walk_at "lc") (by decide) (by decide)) (λ_ _=>rfl)) | ((with_reducible show PE _ (.Subscript ..) _);exact @E8 _ _ _ _ _ _ bu (@pv _ 0 _ _ (by rfl) (by walk_at "lc") (by decide) (by decide)) (@pv _ 5 _ _ (by rfl) (by walk_at "lc") (by decide) (by decide)) (λ_ _=>rfl)))
theorem LR {f:Addr}{fd:FuncData}(F:Fun K "told_at_first" "told_at_first" CJ f fd) (ag:mg "isinstance"=none) (dh:mg "str"=none) (ba:Has P w K mg base "rising" 1 ["names"] DB):FnOk P w K mg base CX0 2 f fd ["between", "place", "froms", "plus"] (spD K 4 IC):=by
 refine fnD F CA λcdv A outer s H E hr=>?_;have hu:=hr.units;have bu:=zQ (a1V (show 1<=64 by decide) _) hu;have nd:=CA.nd;refine⟨_,by walk_at "b2", ?_⟩;clear nd;rintro xs M hl ⟨ts,e,rfl,hf,hp,bc⟩;rw[show taX ts e=[.d (UC ts),.d (plE e.1),.d (AJ e.2.1),.d (.int e.2.2)] from rfl];have hv:∀n,CF ts n=true->BZ (ts.map λt:Str×Ent=>(t.1,C9 t.2)) n=some (C9 (AH ts n)):=λn h=>by rw[G6];unfold CF at h;obtain⟨v,hv⟩:=xY.mp h;unfold AH;rw[hv];rfl
 have fin:∀{y:DS},y = .d (C9 (B5 ts e))->∃M2:Own,M2.Sub M/\IC.post [.d (UC ts),.d (plE e.1),.d (AJ e.2.1),.d (.int e.2.2)] M y M2:=λ{y} ey=>⟨M,zT M,λdk e' ee=>by
   simp only[taX,List.cons.injEq,DS.d.injEq,DS.loc.injEq,PyData.int.injEq,and_true] at ee;obtain⟨e0,e1,e2,e3⟩:=ee;have e0:=dF e0;subst e0;have:e=e':=by obtain⟨a,b,c⟩:=e;obtain⟨a',b',c'⟩:=e';simp only at e1 e2 e3;rw[RW e1,G5 e2,e3]
   subst this;exact⟨ey,rfl⟩⟩
 have dz:∀n,e.1 = .inr n->CF ts n=true:=hp;refine VH (λρ1 M1=>M1=M/\∃x4 x5:Option DS,ρ1=[some (.d (UC ts)),some (.d (plE (B5 ts e).1)),some (.d (AJ e.2.1)),some (.d (.int e.2.2)),x4,x5]) ?_ ?_
 . cases he:e.1 with
   | inl q=> rw[show plE (.inl q) = .int q from rfl];walk_at "r";refine⟨rfl,none,none,?_⟩;rw[show(B5 ts e).1 = .inl q by unfold B5;rw[he]];rfl
   | inr n=> have hn:=hv n (dz n he);rw[show plE (.inr n) = .str n from rfl];walk_at "r";refine EK ?_;walk_at "r";refine⟨_,n,_,rfl,rfl,hn,?_⟩;walk_at "r";refine AB (ds:=[plE (AH ts n).1,AJ (AH ts n).2.1,.int (AH ts n).2.2]) (d:=plE (AH ts n).1) rfl ?_;refine⟨rfl,none,none,?_⟩;rw[show(B5 ts e).1=(AH ts n).1 by unfold B5;rw[he]];rfl
 . rintro ρ1 M1 ⟨rfl,x4,x5,rfl⟩;rw[show AJ e.2.1 = .tuple (e.2.1.map .str) from rfl];walk_at "r";refine CK ?_;refine B8 ?_;walk_at "r";refine⟨λk ρ1 M2=>M2=M1/\∃x5:Option DS,ρ1=[some (.d (UC ts)),some (.d (plE (B5 ts e).1)),some (.d (.tuple (e.2.1.map .str))),some (.d (.int (e.2.2+((e.2.1.take k).map λn=>(AH ts n).2.2).sum))),some (.d (.tuple (((e.2.1.take k).flatMap λn=>(AH ts n).2.1).map .str))),x5],⟨rfl,_,by rw[List.take_zero,show((([]:List Str).map λn=>(AH ts n).2.2).sum)=0 from rfl,Int.add_zero];rfl⟩,?_,?_⟩
   . rintro k d ρ1 M2 hd ⟨rfl,x5,rfl⟩;have cv:k < e.2.1.length:=by have:=(yT.mp hd).1;rw[zX] at this;exact this
     obtain rfl:a0J (e.2.1[k])=d:=by rw[zF,zV cv] at hd;simpa using hd
     have hk:=hv _ (hf _ (a0K cv));have htk:e.2.1.take (k+1)=e.2.1.take k++[e.2.1[k]]:=by rw[a1Q,zV cv];rfl
     have ab:(((e.2.1.take (k+1)).flatMap λn=>(AH ts n).2.1)).length < 64:=zQ (by
       have:=(List.take_append_drop (k+1) e.2.1).symm
       conv=>rhs;rw[this,b3X,yY]
       exact Nat.le_add_right _ _) bc;rw[htk,b3X,yY] at ab;walk_at "r";refine cN ⟨_,rfl,?_⟩;walk_at "r";refine EK ?_;walk_at "r";refine⟨_,_,_,rfl,rfl,hk,?_⟩;walk_at "r";generalize e.2.1[k]=n at hk htk ab;refine AB (ds:=[plE (AH ts n).1,AJ (AH ts n).2.1,.int (AH ts n).2.2]) (d:=AJ (AH ts n).2.1) rfl ?_;refine h8 (by rw[zX,zX];simp only[a9K,List.flatMap_nil,a2K] at ab;exact zN (xR ab) (by decide)) ?_;walk_at "r";refine cN ⟨_,rfl,?_⟩;walk_at "r";refine EK ?_;walk_at "r";refine⟨_,n,_,rfl,rfl,hk,?_⟩;walk_at "r";refine AB (ds:=[plE (AH ts n).1,AJ (AH ts n).2.1,.int (AH ts n).2.2]) (d:=.int (AH ts n).2.2) rfl ?_;refine h7 ?_;refine⟨rfl,some (.d (.str n)),?_⟩;rw[htk,b3X,xI,xI,List.sum_append,<-Int.add_assoc];simp only[a9K,List.flatMap_nil,a2K,zI,b4Q,b1X,List.sum_nil,Int.add_zero];rfl
   . rintro ρ1 M2 ⟨rfl,x5,rfl⟩;rw[zX,a1J];walk_at "r";rw[show PyData.tuple ((e.2.1.flatMap λn=>(AH ts n).2.1).map .str)=AJ (e.2.1.flatMap λn=>(AH ts n).2.1) from rfl];refine DJ bc ?_;walk_at "r";exact fin rfl
end
def EY:List Str:=["things"]
def DZ:List Str:=["name", "things"]
def E1:List (Option Nat):=[none,some 0]
theorem IL:DZ.Nodup:=by decide +kernel
theorem EZ:FnScope EY ["things"] (AC BC):=⟨rfl,rfl,rfl,by decide +kernel,rfl,by decide +kernel,by decide +kernel⟩
section
local macro_rules | `(tactic| walk_at "cs")=>`(tactic| first | exact @GM _ _ DZ E1 (AC BC) EY (by decide +kernel) (by decide +kernel) rfl rfl)
local macro_rules | `(tactic| walk_at "y")=>`(tactic| first | ((with_reducible show PE _ (.Subscript ..) _);exact @E8 _ _ _ _ _ _ bu (@pv _ 1 _ _ (by rfl) (by walk_at "lc") (by decide) (by decide)) (@pv _ 0 _ _ (by rfl) (by walk_at "lc") (by decide) (by decide)) (λ_ _=>rfl)))
theorem JT {f:Addr}{fd:FuncData}(F:Fun K "rising_by_names" "rising_by_names" BC f fd) (af:mg "sorted"=none) (ah:mg "tuple"=none):FnOk P w K mg base CX0 1 f fd ["things"] (spD K 1 ER):=by
 refine fnD F EZ λcdv A outer s H E hr=>?_;have hu:=hr.units;have bu:=zQ (a1V (show 1<=64 by decide) _) hu;have nd:=EZ.nd;have n0:=IL;refine⟨_,by walk_at "b1", ?_⟩;clear nd n0;rintro xs M hl ⟨p,ts,rfl,m,nd,bc⟩;walk_at "r";refine BM (AT 0) (by simp[E1]) ?_;refine BQ ?_;walk_at "r";refine cA (ts:=ts.map λt:Str×Ent=>(t.1,C9 t.2)) m (by rw[zX];exact bc) λss hp hs=>?_;rw[show(ts.map λt:Str×Ent=>(t.1,C9 t.2)).map (·.1)=ts.map (·.1) by rw[zD];rfl] at hp;have ab:ss.length=ts.length:=by have:=hp.length_eq;simpa using this
 refine⟨_,rfl,by rw[zX,ab];exact zP bc (by decide),λ_=>true,j8 ts,?_,?_⟩
 . rintro d hd A acc M' hA rfl;obtain⟨s,my,rfl⟩:=zL.mp hd;obtain⟨v,hv⟩:=d0 (hp.mem_iff.mp my);have gf:p≠A:=λe=>by rw[e] at m;rw[hA] at m;cases m
   walk_at "r";refine⟨rfl,?_⟩;walk_at "dl";refine⟨rfl,rfl,λ_=>?_⟩;walk_at "r";refine c9 ?_;walk_at "r";refine⟨p,_,s,C9 v,rfl,rfl,by rw[yH gf];exact m,by rw[G6,hv];rfl,?_⟩;unfold C9;refine CT (Nat.le_of_ble_eq_true rfl) ?_;refine⟨?_,rfl⟩;show _=DS.d (lfE (s,AH ts s));unfold AH;rw[hv];rfl
 . rw[J7,Z3,GP hp hs];walk_at "r";refine IS ?_;refine⟨M,zT M,λp' dk e m'=>?_⟩;cases e;have e:=UD (Option.some.inj (m.symm.trans m'));subst e;exact⟨rfl,rfl⟩
end
def OW:List Str:=["deed", "word", "name", "other", "parts", "both"]
theorem F0:FnScope OW ["deed"] (AC DO):=⟨rfl,rfl,rfl,by decide +kernel,rfl,by decide +kernel,by decide +kernel⟩
section
local macro_rules | `(tactic| walk_at "x")=>`(tactic| first | ((with_reducible show PS _ (.Assign [.Tuple ..] (.Tuple ..) _) _);exact @jQ _ _ (1) (2) _ _ _ _ _ _ _ _ _ _ _ rfl F0.nd rfl rfl (by decide) rfl rfl (by walk_at "a") rfl (by rfl)) | ((with_reducible show PE _ (.Dict ..) _);exact @fF _ _ _ _ _ (@SS _ _ _ _ _ _ _ _ _ (by walk_at "e") (by walk_at "e") (@SS _ _ _ _ _ _ _ _ _ (by walk_at "e") (by walk_at "e") (@fE _ _))) rfl rfl (by simp) (by decide)))
theorem OX {f:Addr}{fd:FuncData}(F:Fun K "deed_effect" "deed_effect" DO f fd) (ba:Has P w K mg base "rising" 1 ["names"] DB) (ae:Has P w K mg base "rising_by_names" 1 ["things"] ER):FnOk P w K mg base CX0 2 f fd ["deed"] (spD K 1 G4):=by
 refine fnD F F0 λcdv A outer s H E hr=>?_;have hu:=hr.units;have nd:=F0.nd;refine⟨_,by walk_at "b2", ?_⟩;clear nd;rintro xs M hl ⟨D,rfl,hr⟩;have fin:∀{E:Eff},AF D=E->∃M2:Own,M2.Sub M/\G4.post [.d D.d] M (.d E.d) M2:=λ{E} e=>⟨M,zT M,λD' e'=>by simp only[List.cons.injEq,DS.d.injEq,and_true] at e';rw[<-FW e',e];exact⟨rfl,rfl⟩⟩
 cases D with
 | put x pl k=> rw[show(Deed.put x pl k).d = .tuple [.str (a0Q "put"),.str x,.int pl,.int k] from rfl];walk_at "r";refine AB (d:=.str (a0Q "put")) (AA (j:=0) rfl) ?_;walk_at "r";refine AB (d:=.str x) (AA (j:=1) rfl) ?_;walk_at "r";refine⟨_,_,rfl,?_⟩;walk_at "r";refine AD (t:=true) (by decide +kernel) ?_;walk_at "r";refine AB (d:=.int pl) (AA (j:=2) rfl) ?_;walk_at "r";refine AB (d:=.int k) (AA (j:=3) rfl) ?_;walk_at "r";exact fin rfl
 | take x=> rw[show(Deed.take x).d = .tuple [.str (a0Q "take"),.str x] from rfl];walk_at "r";refine AB (d:=.str (a0Q "take")) (AA (j:=0) rfl) ?_;walk_at "r";refine AB (d:=.str x) (AA (j:=1) rfl) ?_;walk_at "r";refine⟨_,_,rfl,?_⟩;walk_at "r";refine AD (t:=false) (by decide +kernel) ?_;walk_at "r";refine AD (t:=true) (by decide +kernel) ?_;walk_at "r";exact fin rfl
 | move x pl=> rw[show(Deed.move x pl).d = .tuple [.str (a0Q "move"),.str x,.int pl] from rfl];walk_at "r";refine AB (d:=.str (a0Q "move")) (AA (j:=0) rfl) ?_;walk_at "r";refine AB (d:=.str x) (AA (j:=1) rfl) ?_;walk_at "r";refine⟨_,_,rfl,?_⟩;walk_at "r";refine AD (t:=false) (by decide +kernel) ?_;walk_at "r";refine AD (t:=false) (by decide +kernel) ?_;walk_at "r";refine AD (t:=true) (by decide +kernel) ?_;walk_at "r";refine AB (d:=.int pl) (AA (j:=2) rfl) ?_;walk_at "r";exact fin rfl
 | count x k=> rw[show(Deed.count x k).d = .tuple [.str (a0Q "count"),.str x,.int k] from rfl];walk_at "r";refine AB (d:=.str (a0Q "count")) (AA (j:=0) rfl) ?_;walk_at "r";refine AB (d:=.str x) (AA (j:=1) rfl) ?_;walk_at "r";refine⟨_,_,rfl,?_⟩;walk_at "r";refine AD (t:=false) (by decide +kernel) ?_;walk_at "r";refine AD (t:=false) (by decide +kernel) ?_;walk_at "r";refine AD (t:=false) (by decide +kernel) ?_;walk_at "r";refine AD (t:=true) (by decide +kernel) ?_;walk_at "r";refine AB (d:=.int k) (AA (j:=2) rfl) ?_;walk_at "r";exact fin rfl
 | name x y=> rw[show(Deed.name x y).d = .tuple [.str (a0Q "name"),.str x,.str y] from rfl];walk_at "r";refine AB (d:=.str (a0Q "name")) (AA (j:=0) rfl) ?_;walk_at "r";refine AB (d:=.str x) (AA (j:=1) rfl) ?_;walk_at "r";refine⟨_,_,rfl,?_⟩;walk_at "r";refine AD (t:=false) (by decide +kernel) ?_;walk_at "r";refine AD (t:=false) (by decide +kernel) ?_;walk_at "r";refine AD (t:=false) (by decide +kernel) ?_;walk_at "r";refine AD (t:=false) (by decide +kernel) ?_;walk_at "r";refine AB (d:=.str y) (AA (j:=2) rfl) ?_;walk_at "r";refine AD (t:=true) (by decide +kernel) ?_;walk_at "r";exact fin rfl
 | split x y pl k=> rw[show(Deed.split x y pl k).d = .tuple [.str (a0Q "split"),.str x,.str y,.int pl,.int k] from rfl];walk_at "r";refine AB (d:=.str (a0Q "split")) (AA (j:=0) rfl) ?_;walk_at "r";refine AB (d:=.str x) (AA (j:=1) rfl) ?_;walk_at "r";refine⟨_,_,rfl,?_⟩;walk_at "r";refine AD (t:=false) (by decide +kernel) ?_;walk_at "r";refine AD (t:=false) (by decide +kernel) ?_;walk_at "r";refine AD (t:=false) (by decide +kernel) ?_;walk_at "r";refine AD (t:=false) (by decide +kernel) ?_;walk_at "r";refine AB (d:=.str y) (AA (j:=2) rfl) ?_;walk_at "r";refine AD (t:=false) (by decide +kernel) ?_;walk_at "r";refine AD (t:=true) (by decide +kernel) ?_;walk_at "r";refine Z1 λq hq=>?_;refine T7 ?_;walk_at "r";refine AB (d:=.int k) (AA (j:=4) rfl) ?_;walk_at "r";refine T7 ?_;walk_at "r";refine AB (d:=.int pl) (AA (j:=3) rfl) ?_;walk_at "r";refine AB (d:=.int k) (AA (j:=4) rfl) ?_;walk_at "r";refine gQ ?_;refine⟨zU,by show 2<=15;decide,by simpa using (show x≠y from hr.2.1),?_⟩;rw[yI];walk_at "r";refine ME (ts:=[(x,.inr x,[x],-k),(y,.inl pl,[],k)]) zU (by simpa using (show x≠y from hr.2.1)) (by show 2 < 64;decide) ?_;walk_at "r";obtain⟨M2,h1,h2⟩:=fin (E:=AF (.split x y pl k)) rfl;exact⟨M2,λb o e=>((zT M).put hq) b o (h1 b o e),h2⟩
 | join x y=> rw[show(Deed.join x y).d = .tuple [.str (a0Q "join"),.str x,.str y] from rfl];walk_at "r";refine AB (d:=.str (a0Q "join")) (AA (j:=0) rfl) ?_;walk_at "r";refine AB (d:=.str x) (AA (j:=1) rfl) ?_;walk_at "r";refine⟨_,_,rfl,?_⟩;walk_at "r";refine AD (t:=false) (by decide +kernel) ?_;walk_at "r";refine AD (t:=false) (by decide +kernel) ?_;walk_at "r";refine AD (t:=false) (by decide +kernel) ?_;walk_at "r";refine AD (t:=false) (by decide +kernel) ?_;walk_at "r";refine AB (d:=.str y) (AA (j:=2) rfl) ?_;walk_at "r";refine AD (t:=false) (by decide +kernel) ?_;walk_at "r";refine AD (t:=false) (by decide +kernel) ?_;walk_at "r";rw[show PyData.tuple [.str x,.str y]=AJ [x,y] from rfl];refine DJ (by show 2 < 64;decide) ?_;walk_at "r";exact fin rfl
end
def DC:List Str:=["one", "other", "between", "known", "stand", "free", "name", "behind", "place", "froms", "plus"]
def F1:List Str:=["name", "known"]
def CM:List (Option Nat):=[none,some 3]
theorem JU:F1.Nodup:=by decide +kernel
def F2:List Str:=["name", "between", "other"]
def F3:List (Option Nat):=[none,some 2,some 1]
theorem JV:F2.Nodup:=by decide +kernel
theorem GG:FnScope DC ["one", "other"] (AC B9):=⟨rfl,rfl,rfl,by decide +kernel,rfl,by decide +kernel,by decide +kernel⟩
section
local macro_rules | `(tactic| walk_at "cs")=>`(tactic| first | exact @GM _ _ F1 CM (AC B9) DC (by decide +kernel) (by decide +kernel) rfl rfl | exact @GM _ _ F2 F3 (AC B9) DC (by decide +kernel) (by decide +kernel) rfl rfl)
local macro_rules | `(tactic| walk_at "x")=>`(tactic| first | ((with_reducible show PT _ (.Compare _ [.NotIn] ..) _);exact @C8 _ _ _ _ _ _ _ _ (@VE _ K rfl) (by walk_at "e") (by walk_at "e") (by with_unfolding_all rfl)) | ((with_reducible show PS _ (.Assign [.Subscript ..] ..) _);exact @IP _ _ _ _ _ _ _ _ _ bu (by walk_at "e") (by walk_at "e") (by walk_at "e") (by rfl)) | ((with_reducible show PG _ (.Tuple ..) _);exact @gK _ K _ _ _ _ (4) rfl rfl (by walk_at "j") (by rfl) (by rfl)))
local macro_rules | `(tactic| walk_at "y")=>`(tactic| first | ((with_reducible show PI _ _ (.Name ..) _);exact @XE _ _ _ _ (@pv _ 2 _ _ (by rfl) (by walk_at "lc") (by decide) (by decide))) | ((with_reducible show PE _ (.Subscript ..) _);exact @E8 _ _ _ _ _ _ bu (@pv _ 1 _ _ (by rfl) (by walk_at "lc") (by decide) (by decide)) (@pv _ 0 _ _ (by rfl) (by walk_at "lc") (by decide) (by decide)) (λ_ _=>rfl)))
theorem LS {f:Addr}{fd:FuncData}(F:Fun K "effect_behind" "effect_behind" B9 f fd) (ah:mg "tuple"=none) (bh:Has P w K mg base "by_left_names" 1 ["told"] GQ) (fo:Has P w K mg base "clash" 1 ["one", "between", "other"] G3) (ba:Has P w K mg base "rising" 1 ["names"] DB) (ae:Has P w K mg base "rising_by_names" 1 ["things"] ER) (bi:Has P w K mg base "told_at_first" 2 ["between", "place", "froms", "plus"] IC):FnOk P w K mg base CX0 3 f fd ["one", "other"] (spD K 2 GR):=by
 refine fnD F GG λcdv A outer s H E hr=>?_;have hu:=hr.units;have bu:=zQ (a1V (show 1<=64 by decide) _) hu;have nd:=GG.nd;have n0:=JU;have n1:=JV;refine⟨_,by walk_at "b2", ?_⟩;clear nd n0 n1;rintro xs M hl ⟨ys,one,other,rfl,h1,h2,hn⟩;have l1:=CG hn h1.st;have l2:=CG hn h1.fr;have l3:=CG hn h2.st;have l4:=CG hn h2.fr;have l5:=RX hn h1;walk_at "r";refine UE h1.keys (by lia) λp hp=>?_;walk_at "r";refine WH zU h1 h2 hn ?_;cases hc:B2 one other with
 | true=> walk_at "r";refine⟨M,(zT M).put hp,λoq gu e=>?_⟩;simp only[List.cons.injEq,DS.d.injEq,and_true] at e;rw[<-FF e.1,<-FF e.2,show B3 one other=none by unfold B3;rw[hc];rfl];exact⟨rfl,rfl⟩
 | false=>
   have sz:∀{l:List Str},l.length<=26->(l.map a0J).length < sizeLine:=λ{l} h=>by rw[zX];exact zQ h (by decide)
   have add:∀{a b:List Str},a.length<=26->b.length<=26->(a.map a0J).length+(b.map a0J).length<=sizeLine:=λ{a b} h h'=>by rw[zX,zX];exact zN (show _<=52 by lia) (by decide)
   have vt:(other.st.filter λn=>!decide (n∈one.st++one.fr)).length<=26:=zN (yJ _ _) l3;have vw:(other.fr.filter λn=>!decide (n∈one.st++one.fr)).length<=26:=zN (yJ _ _) l4;walk_at "r";refine AB (ds:=[AJ one.st,AJ one.fr,.tuple (one.lf.map lfE)]) (d:=AJ one.st) rfl ?_;walk_at "r";refine AB (ds:=[AJ one.st,AJ one.fr,.tuple (one.lf.map lfE)]) (d:=AJ one.fr) rfl ?_;refine CT (add l1 l2) ?_;rw[<-xI];walk_at "r";refine AB (ds:=[AJ one.st,AJ one.fr,.tuple (one.lf.map lfE)]) (d:=AJ one.st) rfl ?_;walk_at "r";refine AM (AT 0) (by simp[CM]) ?_;refine B8 ?_;walk_at "r";refine AB (ds:=[AJ other.st,AJ other.fr,.tuple (other.lf.map lfE)]) (d:=AJ other.st) rfl ?_;refine⟨_,rfl,?_⟩;refine⟨sz l3,frT (one.st++one.fr),id,?_,?_⟩;. intro d hd M';obtain⟨z,hz,rfl⟩:=zL.mp hd;walk_at "dl";refine⟨rfl,?_⟩;walk_at "r";refine EJ ?_;refine⟨_,rfl,rfl,rfl,λ_=>?_⟩;walk_at "r";exact⟨rfl,rfl⟩
   rw[O4];walk_at "r";refine IS ?_;refine CT (add l1 vt) ?_;rw[<-xI,show(one.st++other.st.filter λz=>!decide (z∈one.st++one.fr))=AQ one other from rfl];walk_at "r";refine AB (ds:=[AJ one.st,AJ one.fr,.tuple (one.lf.map lfE)]) (d:=AJ one.fr) rfl ?_;walk_at "r";refine AM (AT 0) (by simp[CM]) ?_;refine B8 ?_;walk_at "r";refine AB (ds:=[AJ other.st,AJ other.fr,.tuple (other.lf.map lfE)]) (d:=AJ other.fr) rfl ?_;refine⟨_,rfl,?_⟩;refine⟨sz l4,frT (one.st++one.fr),id,?_,?_⟩;. intro d hd M';obtain⟨z,hz,rfl⟩:=zL.mp hd;walk_at "dl";refine⟨rfl,?_⟩;walk_at "r";refine EJ ?_;refine⟨_,rfl,rfl,rfl,λ_=>?_⟩;walk_at "r";exact⟨rfl,rfl⟩
   rw[O4];walk_at "r";refine IS ?_;refine CT (add l2 vw) ?_;rw[<-xI,show(one.fr++other.fr.filter λz=>!decide (z∈one.st++one.fr))=CB one other from rfl];walk_at "r";refine CK ?_;refine B8 ?_;walk_at "r";refine⟨λk ρ1 M1=>M1=M.put p (MN (one.lf++(LM one ((AQ one other).take k)).map KL))/\∃x6 x7 x8 x9 ky:Option DS,ρ1=[some (.d one.d),some (.d other.d),some (.loc p),some (.d (.tuple ((one.st++one.fr).map .str))),some (.d (.tuple ((AQ one other).map .str))),some (.d (.tuple ((CB one other).map .str))),x6,x7,x8,x9,ky],⟨by rw[List.take_zero];show _=M.put p (MN (one.lf++[]));rw[a2K],_,_,_,_,_,rfl⟩,?_,?_⟩
   . rintro k d ρ1 M1 hd ⟨rfl,x6,x7,x8,x9,ky,rfl⟩;have cv:k < (AQ one other).length:=by have:=(yT.mp hd).1;rw[zX] at this;exact this
     have hk:(AQ one other)[k]?=some (AQ one other)[k]:=zV cv;obtain rfl:a0J ((AQ one other)[k])=d:=by rw[zF,hk] at hd;simpa using hd
     generalize (AQ one other)[k]=n at hk;walk_at "r";refine EJ ?_;cases cx:decide (n∈one.st++one.fr) with
     | true=> walk_at "r";refine⟨?_,_,_,_,_,_,rfl⟩;rw[UJ hk,cx,if_pos rfl,a2K]
     | false=>
       have ij:=of_decide_eq_false cx;walk_at "r";refine BW ?_;walk_at "r";refine⟨p,LL (one.lf++(LM one ((AQ one other).take k)).map KL),n,C9 (.inr n,[n],0),rfl,rfl,rfl,zU,?_,?_⟩;. rw[zX,yY,zX];have qX:(LM one ((AQ one other).take k)).length<=(AQ one other).length:=zN (yJ _ _) (List.length_take_le' _ _);have kr:=CG hn (KO h1 h2);exact zQ (show _<=78 by lia) (by decide)
       rw[yI,XO,Z5 (d7 h1 h2 hk ij)];refine⟨?_,_,_,_,_,_,rfl⟩;rw[UJ hk,cx,if_neg nft,xI,<-List.append_assoc];rfl
   . rintro ρ1 M1 ⟨rfl,x6,x7,x8,x9,ky,rfl⟩;rw[zX,a1J,Z6,show one.lf++(other.st.filter λn=>!decide (n∈one.st++one.fr)).map KL=B6 one other from rfl];have bk:=KN h1 h2;have bl:(B6 one other).length<=78:=by unfold B6;rw[yY,zX];lia
     have ll:=RX hn h2;refine EN (i:=2) (a:=p) rfl zU ?_;rw[yG hp];walk_at "r";refine TN (AT 0) (by simp[F3]) ?_;refine XF ?_;walk_at "r";refine⟨by rw[zX,zX];exact zQ bl (by decide),frT other.st,mI,oY (B6 one other),Z7 bk _,?_,λq hq=>?_⟩;. intro d hd M';obtain⟨s0,jy,rfl⟩:=zL.mp hd;obtain⟨t,pY,rfl⟩:=zL.mp jy;have ql:=N1 bk pY;walk_at "dl";refine⟨rfl,?_⟩;walk_at "r";refine AB (ds:=[AJ other.st,AJ other.fr,.tuple (other.lf.map lfE)]) (d:=AJ other.st) rfl ?_;refine EJ ?_;refine⟨_,rfl,rfl,rfl,λ_=>?_⟩;walk_at "r";refine⟨rfl,rfl,?_⟩;refine EK ?_;walk_at "r";refine⟨LL (B6 one other),t.1,C9 t.2,rfl,rfl,by rw[G6,ql];rfl,?_⟩;refine⟨?_,rfl⟩;show _=DS.d (C9 (AH (B6 one other) t.1));unfold AH;rw[ql];rfl
     rw[d8 bk];walk_at "r";refine CK ?_;refine B8 ?_;walk_at "r";refine AB (ds:=[AJ other.st,AJ other.fr,.tuple (other.lf.map lfE)]) (d:=.tuple (other.lf.map lfE)) rfl ?_;refine⟨_,rfl,?_⟩;refine⟨λk ρ1 M1=>M1=M.put q (MN (KP one other k))/\∃y6 y8 y9 rD:Option DS,ρ1=[some (.d one.d),some (.d other.d),some (.d (UC (B6 one other))),some (.d (.tuple ((one.st++one.fr).map .str))),some (.d (.tuple ((AQ one other).map .str))),some (.d (.tuple ((CB one other).map .str))),y6,some (.loc q),y8,y9,rD],⟨rfl,_,_,_,_,rfl⟩,?_,?_⟩
     . rintro k d ρ1 M1 hd ⟨rfl,y6,y8,y9,rD,rfl⟩;have cv:k < other.lf.length:=by have:=(yT.mp hd).1;rw[zX] at this;exact this
       have hk:other.lf[k]?=some other.lf[k]:=zV cv;obtain rfl:lfE (other.lf[k])=d:=by rw[zF,hk] at hd;simpa using hd
       have b_:=a0K cv;generalize other.lf[k]=t at hk b_;rw[show lfE t = .tuple [.str t.1,plE t.2.1,AJ t.2.2.1,.int t.2.2.2] from rfl];walk_at "r";refine BW ?_;walk_at "r";refine UP (e:=t.2) (λn az=>ID h1 h2 hc ((h2.from_ t b_).2 n az)) (λn jf=>ID h1 h2 hc (h2.place t b_ n jf)) (d5 hn h1 h2 hc b_) ?_;walk_at "r";refine⟨q,LL (KP one other k),t.1,_,rfl,rfl,rfl,zU,?_,?_⟩;. rw[zX];have:=Z8 one other k;exact zQ (show _<=130 by lia) (by decide)
       rw[yI,XO,<-WE hk];exact⟨rfl,_,_,_,_,rfl⟩
     . rintro ρ1 M1 ⟨rfl,y6,y8,y9,rD,rfl⟩;rw[zX,Z9];have s1:=CG hn (KO h1 h2);have s2:=CG hn (XR h1 h2);walk_at "r";refine DJ (l:=AQ one other) (by lia) ?_;walk_at "r";refine DJ (l:=CB one other) (by lia) ?_;walk_at "r";refine ME zU (G8 h1 h2) (d9 hn h1 h2 hc) ?_;walk_at "r";refine⟨M,(zT M).put hq,λoq gu e=>?_⟩;simp only[List.cons.injEq,DS.d.injEq,and_true] at e;rw[<-FF e.1,<-FF e.2,show B3 one other=some ⟨BF (AQ one other),BF (CB one other),C7 (CP one other)⟩ by unfold B3;rw[hc];rfl];exact⟨rfl,rfl⟩
end
def ZQ:List Str:=["row", "whole", "deed"]
theorem QT:FnScope ZQ ["row"] (AC KY):=⟨rfl,rfl,rfl,by decide +kernel,rfl,by decide +kernel,by decide +kernel⟩
theorem ZR {f:Addr}{fd:FuncData}(F:Fun K "effect" "effect" KY f fd) (bx:Has P w K mg base "deed_effect" 2 ["deed"] G4) (bj:Has P w K mg base "effect_behind" 3 ["one", "other"] GR):FnOk P w K mg base CX0 4 f fd ["row"] (spD K 1 GS):=by
 refine fnD F QT λcdv A outer s H E hr=>?_;have hu:=hr.units;have nd:=QT.nd;refine⟨_,by walk_at "b2", ?_⟩;clear nd;rintro xs M hl ⟨ys,Ds,rfl,hn,hD,ke⟩;walk_at "r";refine CK ?_;refine B8 ?_;walk_at "r";refine⟨λk ρ1 M1=>M1=M/\∃(E:Eff) (x2:Option DS),DX (Ds.take k)=some E/\OkE ys E/\ρ1=[some (.d (.tuple (Ds.map Deed.d))),some (.d E.d),x2],⟨rfl,⟨[],[],[]⟩,_,rfl,OkE.nil ys,rfl⟩,?_,?_⟩
 . rintro k d ρ1 M1 hd ⟨rfl,E,x2,hE,hok,rfl⟩;have cv:k < Ds.length:=by have:=(yT.mp hd).1;rw[zX] at this;exact this
   obtain rfl:(Ds[k]).d=d:=by rw[zF,zV cv] at hd;simpa using hd
   have qm:=hD _ (a0K cv);have gv:DX (Ds.take (k+1))=B3 E (AF Ds[k]):=by rw[a1Q,zV cv];exact KM hE
   have jn:B3 E (AF Ds[k])=none->DX Ds=none:=λh=>UG (k:=k+1) (by rw[gv];exact h);generalize Ds[k]=D at qm gv jn;walk_at "r";refine WC qm.1 ?_;walk_at "r";refine UH hok (OkE.deed hn qm) hn ?_;walk_at "r";refine MX ?_;cases hb:B3 E (AF D) with
   | none=> walk_at "r";refine⟨M1,zT _,λou e=>?_⟩;rw[<-FG e,jn hb];exact⟨rfl,rfl⟩
   | some F=> walk_at "r";exact⟨rfl,F,_,by rw[gv,hb],OkE.behind hn hok (OkE.deed hn qm) hb,rfl⟩
 . rintro ρ1 M1 ⟨rfl,E,x2,hE,hok,rfl⟩;rw[zX,a1J] at hE;walk_at "r";refine⟨M1,zT _,λou e=>?_⟩;rw[<-FG e,hE];exact⟨rfl,rfl⟩
def SH:List Str:=["_law_names_here", "_law_mask", "_law_spread", "_law_found", "_law_k"]
theorem L5:FnScope SH ["_law_names_here", "_law_mask", "_law_spread"] (AC FM):=⟨rfl,rfl,rfl,by decide +kernel,rfl,by decide +kernel,by decide +kernel⟩
section
local macro_rules | `(tactic| walk_at "x")=>`(tactic| first | ((with_reducible show PE _ (.Dict ..) _);exact @NB _ _) | ((with_reducible show PS _ (.Assign [.Subscript ..] ..) _);exact @IP _ _ _ _ _ _ _ _ _ bu (by walk_at "e") (by walk_at "e") (by walk_at "e") (by rfl)) | ((with_reducible show PE _ (.BinOp _ .Mult ..) _);exact @HM _ _ _ _ _ _ _ _ (@bQ _ K rfl) (by walk_at "e") (by walk_at "e")))
theorem SJ {f:Addr}{fd:FuncData}(F:Fun K "_law_wide" "_law_wide" FM f fd) (ax:mg "len"=none) (ac:mg "range"=none):FnOk P w K mg base CX0 1 f fd ["_law_names_here", "_law_mask", "_law_spread"] (spD K 3 KS):=by
 refine fnD F L5 λcdv A outer s H E hr=>?_;have hu:=hr.units;have bu:=zQ (a1V (show 1<=64 by decide) _) hu;have nd:=L5.nd;refine⟨_,by walk_at "b2", ?_⟩;clear nd;rintro xs M hl ⟨ys,m,rfl,iz,h5⟩;unfold OH;walk_at "r";refine O2 λp hp=>?_;walk_at "r";refine CK ?_;refine EA ?_;walk_at "r";refine IR ?_;rw[zX];walk_at "r";refine⟨by lia,by lia,?_⟩;refine⟨λk ρ1 M1=>k<=ys.length/\M1=M.put p (tsO (FH ys m k))/\∃x4:Option DS,ρ1=[some (.d (C6 ys)),some (.d (.int m)),some (.d (.int 100000000000000)),some (.loc p),x4],⟨xT _,rfl,_,rfl⟩,?_,?_⟩
 . rintro k d ρ1 M1 hd ⟨hk,rfl,x4,rfl⟩;obtain⟨fv,rfl⟩:=GN hd;have r9:(ys.map a0J)[k]?=some (.str (ys.getD k ⟨#[]⟩)):=by rw[zF,yU,zV fv];rfl
   have hb:(1:Int)*2 ^ ((k:Int).toNat)=2 ^ k:=by rw[a5K,Int.one_mul]
   have rA:(0:Int) < 2 ^ k/\(2:Int) ^ k < 2 ^ 64:=by
     have n_:k < 5:=by lia
     match k,n_ with
     | 0,_=>exact⟨by decide,by decide⟩
     | 1,_=>exact⟨by decide,by decide⟩
     | 2,_=>exact⟨by decide,by decide⟩
     | 3,_=>exact⟨by decide,by decide⟩
     | 4,_=>exact⟨by decide,by decide⟩
   walk_at "r";refine NG ⟨by lia,by lia⟩ ?_;rw[hb];refine NG rA ?_;walk_at "r";refine BL rfl rfl ?_;rw[if_neg nft,MZ,iG];cases hbit:LO m k with
   | false=> walk_at "r";exact⟨by lia,by rw[iH hbit],_,rfl⟩
   | true=> walk_at "r";refine BW ?_;walk_at "r";refine NG ⟨by lia,by lia⟩ ?_;rw[hb];walk_at "r";refine AR (AA r9) ?_;walk_at "r";refine⟨p,tsD (FH ys m k),ys.getD k ⟨#[]⟩,pcD (1000+7*(k:Int)) (100000000000000*2 ^ k),rfl,rfl,rfl,zU,CV (by have:=dR (ys:=ys) m k;lia),?_⟩;rw[yI,CI,dQ iz fv hbit];exact⟨by lia,rfl,_,rfl⟩
 . rintro ρ1 M1 ⟨hk,rfl,x4,rfl⟩;rw[FX];refine EN (i:=3) (a:=p) rfl zU ?_;rw[yG hp];walk_at "r";refine⟨M,zT M,λbp m' e=>?_⟩;simp only[OH,List.cons.injEq,DS.d.injEq,PyData.int.injEq,and_true] at e;obtain rfl:=KA e.1;obtain rfl:m=m':=by lia
   exact⟨rfl,rfl⟩
end
def V1:List Str:=["_law_there_here", "_law_row_here", "_law_k"]
theorem MK:FnScope V1 ["_law_there_here", "_law_row_here"] (AC GW):=⟨rfl,rfl,rfl,by decide +kernel,rfl,by decide +kernel,by decide +kernel⟩
theorem V2 {f:Addr}{fd:FuncData}(F:Fun K "_law_run" "_law_run" GW f fd) (ax:mg "len"=none) (ac:mg "range"=none) (be:Has P w K mg base "_law_can" 2 ["_law_there_here", "_law_deed_here"] J5) (ay:Has P w K mg base "_law_step" 1 ["_law_there_here", "_law_deed_here"] G9):FnOk P w K mg base CX0 3 f fd ["_law_there_here", "_law_row_here"] (spD K 2 KU):=by
 refine fnD F MK λcdv A outer s H E hr=>?_;have hu:=hr.units;have nd:=MK.nd;refine⟨_,by walk_at "b2", ?_⟩;clear nd;rintro xs M hl ⟨w,Ds,rfl,⟨zs,ow,hz,oj⟩,og⟩;unfold rnX;have fin:∀{d:PyData},mN w Ds d->∃M2:Own,M2.Sub M/\KU.post (rnX w Ds) M (.d d) M2:=λ{d} h=>⟨M,zT M,λw' ou e=>by simp only[rnX,List.cons.injEq,DS.d.injEq,and_true] at e;obtain⟨e1,e2⟩:=e;obtain rfl:=OF e1;obtain rfl:=FG (a:=Ds) (b:=ou) (by rw[e2]);exact⟨⟨d,rfl,h⟩,rfl⟩⟩
 walk_at "r";refine CK ?_;refine EA ?_;walk_at "r";refine RH ?_;rw[zX];walk_at "r";refine⟨by lia,by lia,?_⟩;refine⟨λk ρ1 M1=>∃(w2:List Th) (x:DS) (x2:Option DS),B7 w (Ds.take k)=some w2/\There zs w2/\p8 M M1 x w2/\ρ1=[some x,some (.d (.tuple (Ds.map Deed.d))),x2],⟨w,_,_,rfl,ow,.inl ⟨rfl,rfl⟩,rfl⟩,?_,?_⟩
 . rintro k d ρ1 M1 hd ⟨w2,x,x2,hr,ja,ha,rfl⟩;obtain⟨fv,rfl⟩:=GN hd;have hk:Ds[k]?=some Ds[k]:=zV fv;have rE:(Ds.map Deed.d)[k]?=some (Ds[k]).d:=by rw[zF,hk];rfl
   have hD:=oj _ (a0K fv);generalize Ds[k]=D at hk rE hD;have vy:=ja.few;walk_at "dl";refine QR (i:=0) ha rfl ?_;walk_at "r";refine AB (AA rE) ?_;walk_at "r";refine OG (w:=w2) isTD.d hD.1 ?_;cases hc:decide (AY (w2.map (·.1)) D=none) with
   | false=> walk_at "r";exact fin ⟨_,w2,rfl,.inr ⟨UQ hr hk (of_decide_eq_false hc),_,rfl⟩⟩
   | true=>
     have hc:=of_decide_eq_true hc;have jx:goD w2 D:=⟨⟨ja.nd,by lia⟩,hD.1,hc⟩
     walk_at "r";refine AB (AA rE) ?_;walk_at "r";refine MG (w:=w2) isTD.d jx (by lia) λr lz=>?_;walk_at "r";exact⟨doT w2 D,.loc r,_,dL hr hk hc,O7 ja jx hD.2,.inr ⟨r,lz,rfl,rfl⟩,rfl⟩
 . rintro ρ1 M1 ⟨w2,x,x2,hr,ja,ha,rfl⟩;rw[FX,a1J] at hr;refine QR (i:=0) ha rfl ?_;walk_at "r";exact fin ⟨_,w2,rfl,.inl ⟨hr,rfl⟩⟩
def IM:List Str:=["_law_there_here", "_law_row_here", "_law_number_here", "_law_behind"]
theorem E2:FnScope IM ["_law_there_here", "_law_row_here"] (AC BG):=⟨rfl,rfl,rfl,by decide +kernel,rfl,by decide +kernel,by decide +kernel⟩
section
local macro_rules | `(tactic| walk_at "x")=>`(tactic| first | ((with_reducible show PS _ (.Assign [.Tuple ..] ..) _);exact @V3 _ _ _ _ _ _ (by walk_at "e") (by walk_at "g") (by rfl) (by rfl) (by rfl)) | ((with_reducible show PG _ (.Tuple ..) _);exact @bY _ K _ _ _ _ (2) rfl rfl (by walk_at "j") (by rfl) (by rfl)))
theorem IN {f:Addr}{fd:FuncData}(F:Fun K "_law_row_comes_to" "_law_row_comes_to" BG f fd) (cz:Has P w K mg base "_law_run" 3 ["_law_there_here", "_law_row_here"] KU):FnOk P w K mg base CX0 4 f fd ["_law_there_here", "_law_row_here"] (spD K 2 GA):=by
 refine fnD F E2 λcdv A outer s H E hr=>?_;have hu:=hr.units;have nd:=E2.nd;refine⟨_,by walk_at "b2", ?_⟩;clear nd;rintro xs M hl ⟨w,Ds,rfl,hg⟩;unfold rnX;have fin:∀{o:Option (List Th)},B7 w Ds=o->∃M2:Own,M2.Sub M/\GA.post (rnX w Ds) M (.d (GU o)) M2:=λ{d} h=>⟨M,zT M,λw' ou e=>by simp only[rnX,List.cons.injEq,DS.d.injEq,and_true] at e;obtain⟨e1,e2⟩:=e;obtain rfl:=OF e1;obtain rfl:=FG (a:=Ds) (b:=ou) (by rw[e2]);rw[h];exact⟨rfl,rfl⟩⟩
 walk_at "r";refine VL ?_;walk_at "r";refine WJ hg λd hd=>?_;obtain⟨k,w2,rfl,h⟩:=hd;walk_at "r";refine bV ?_;rcases h with ⟨hr,rfl⟩ | ⟨hr,i,rfl⟩
 . walk_at "r";exact fin (o:=some w2) hr
 . walk_at "r";exact fin (o:=none) hr
end
def DD:List Str:=["_law_found", "_law_there_here", "_law_stand", "_law_free", "_law_stay", "_law_behind", "_law_name", "_law_place_here", "_law_froms", "_law_plus"]
def F4:List Str:=["_law_name", "_law_there_here"]
def CN:List (Option Nat):=[none,some 1]
theorem JW:F4.Nodup:=by decide +kernel
def F5:List Str:=["_law_one", "_law_there_here"]
def F6:List (Option Nat):=[none,some 1]
theorem JX:F5.Nodup:=by decide +kernel
theorem GH:FnScope DD ["_law_found", "_law_there_here"] (AC BA):=⟨rfl,rfl,rfl,by decide +kernel,rfl,by decide +kernel,by decide +kernel⟩
section
local macro_rules | `(tactic| walk_at "cs")=>`(tactic| first | exact @GM _ _ F4 CN (AC BA) DD (by decide +kernel) (by decide +kernel) rfl rfl | exact @GM _ _ F5 F6 (AC BA) DD (by decide +kernel) (by decide +kernel) rfl rfl)
local macro_rules | `(tactic| walk_at "x")=>`(tactic| first | ((with_reducible show PS _ (.Assign [.Tuple ..] ..) _);exact @V3 _ _ _ _ _ _ (by walk_at "e") (by walk_at "g") (by rfl) (by rfl) (by rfl)) | ((with_reducible show PG _ (.Tuple ..) _);exact @bY _ K _ _ _ _ (3) rfl rfl (by walk_at "j") (by rfl) (by rfl)) | ((with_reducible show PE _ (.Dict ..) _);exact @NB _ _) | ((with_reducible show PT _ (.Compare _ [.NotIn] ..) _);exact @C8 _ _ _ _ _ _ _ _ (@VE _ K rfl) (by walk_at "e") (by walk_at "e") (by with_unfolding_all rfl)) | ((with_reducible show PS _ (.Assign [.Subscript ..] ..) _);exact @IP _ _ _ _ _ _ _ _ _ bu (by walk_at "e") (by walk_at "e") (by walk_at "e") (by rfl)) | ((with_reducible show PG _ (.Tuple ..) _);exact @gK _ K _ _ _ _ (4) rfl rfl (by walk_at "j") (by rfl) (by rfl)))
local macro_rules | `(tactic| walk_at "y")=>`(tactic| first | ((with_reducible show PE _ (.Compare _ [.In] ..) _);exact @ZU _ _ _ _ _ _ (@R8 _ _ _ _ _ bu (@pv _ 0 _ _ (by rfl) (by walk_at "lc") (by decide) (by decide)) (@pv _ 1 _ _ (by rfl) (by walk_at "lc") (by decide) (by decide))) (by with_unfolding_all rfl)) | ((with_reducible show PI _ _ (.Name ..) _);exact @XE _ _ _ _ (@pv _ 1 _ _ (by rfl) (by walk_at "lc") (by decide) (by decide))) | ((with_reducible show PE _ (.Subscript ..) _);exact @E8 _ _ _ _ _ _ bu (@pv _ 1 _ _ (by rfl) (by walk_at "lc") (by decide) (by decide)) (@pv _ 6 _ _ (by rfl) (by walk_at "lc") (by decide) (by decide)) (λ_ _=>rfl)) | ((with_reducible show PE _ (.Subscript ..) _);exact @E8 _ _ _ _ _ _ bu (@pv _ 1 _ _ (by rfl) (by walk_at "lc") (by decide) (by decide)) (@pv _ 7 _ _ (by rfl) (by walk_at "lc") (by decide) (by decide)) (λ_ _=>rfl)) | ((with_reducible show PE _ (.Subscript ..) _);exact @E8 _ _ _ _ _ _ bu (@pv _ 1 _ _ (by rfl) (by walk_at "lc") (by decide) (by decide)) (@pv _ 0 _ _ (by rfl) (by walk_at "lc") (by decide) (by decide)) (λ_ _=>rfl)))
theorem LU {f:Addr}{fd:FuncData}(F:Fun K "_law_comes_to" "_law_comes_to" BA f fd) (cj:mg "all"=none) (fj:mg "any"=none) (ag:mg "isinstance"=none) (dh:mg "str"=none) (jo:mg "sum"=none):FnOk P w K mg base CX0 1 f fd ["_law_found", "_law_there_here"] (spD K 2 GB):=by
 refine fnD F GH λcdv A outer s H E hr=>?_;have hu:=hr.units;have bu:=zQ (a1V (show 1<=64 by decide) _) hu;have nd:=GH.nd;have n0:=JW;have n1:=JX;refine⟨_,by walk_at "b2", ?_⟩;clear nd n0 n1;rintro xs M hl ⟨ys,E,w,rfl,h,hn,nd,sU⟩;unfold cmX;have fin:∀{o:Option (List Th)},ET E w=o->∃M2:Own,M2.Sub M/\GB.post (cmX E w) M (.d (GU o)) M2:=λ{o} e0=>⟨M,zT M,λE' w' e=>by simp only[cmX,List.cons.injEq,DS.d.injEq,and_true] at e;obtain rfl:=FF e.1;obtain rfl:=OF e.2;rw[e0];exact⟨rfl,rfl⟩⟩
 have l1:=CG hn h.st;have l2:=CG hn h.fr;have l3:=RX hn h;have sz:∀{l:List Str},l.length<=26->(l.map a0J).length < sizeLine:=λ{l} h=>by rw[zX];exact zQ h (by decide)
 rw[show E.d = .tuple [AJ E.st,AJ E.fr,.tuple (E.lf.map lfE)] from rfl];walk_at "r";refine VL ?_;walk_at "r";refine AM (AT 0) (by simp[CN]) ?_;refine B8 ?_;walk_at "r";try refine⟨_,rfl,?_⟩
 refine⟨sz l1,λ_=>true,inT (w.map (·.1)),?_,?_⟩;. intro d hd M';obtain⟨z,hz,rfl⟩:=zL.mp hd;walk_at "dl";refine⟨rfl,?_⟩;walk_at "dl";refine⟨rfl,rfl,λ_=>?_⟩;refine N2 ?_;walk_at "r";refine⟨tsD w,z,isTD.d,rfl,?_⟩;rw[p9];exact⟨rfl,rfl⟩
 rw[J7,G0];walk_at "r";refine HU ?_;cases ha:(E.st.map λz=>decide (z∈w.map (·.1))).all id with
 | false=> walk_at "r";exact fin (o:=none) (by unfold ET okB;rw[ha];rfl)
 | true=>
   walk_at "r";refine AM (AT 0) (by simp[CN]) ?_;refine B8 ?_;walk_at "r";try refine⟨_,rfl,?_⟩
   refine⟨sz l2,λ_=>true,inT (w.map (·.1)),?_,?_⟩;. intro d hd M';obtain⟨z,hz,rfl⟩:=zL.mp hd;walk_at "dl";refine⟨rfl,?_⟩;walk_at "dl";refine⟨rfl,rfl,λ_=>?_⟩;refine N2 ?_;walk_at "r";refine⟨tsD w,z,isTD.d,rfl,?_⟩;rw[p9];exact⟨rfl,rfl⟩
   rw[J7,G0];walk_at "r";refine bD ?_;cases hb:(E.fr.map λz=>decide (z∈w.map (·.1))).any id with
   | true=> walk_at "r";exact fin (o:=none) (by unfold ET okB;rw[ha,hb];rfl)
   | false=>
     have hok:okB E (w.map (·.1))=true:=by unfold okB;rw[ha,hb];rfl
     have di:∀n∈E.st,∃v,AE w n=some v:=λn hn=>xY.mp ((S6.mp hok).1 n hn);walk_at "r";refine O2 λp hp=>?_;walk_at "r";refine CK ?_;refine XF ?_;walk_at "r";try refine⟨tsD w,rfl,?_⟩
     refine⟨λk ρ1 M1=>M1=M.put p (tsO (CC E (w.take k)))/\∃x6 x7 x8 x9:Option DS,ρ1=[some (.d E.d),some (.d (wQ w)),some (.d (AJ E.st)),some (.d (AJ E.fr)),some (.d (.tuple (E.lf.map lfE))),some (.loc p),x6,x7,x8,x9],⟨rfl,_,_,_,_,rfl⟩,?_,?_⟩
     . rintro k d ρ1 M1 hd ⟨rfl,x6,x7,x8,x9,rfl⟩;have cv:k < w.length:=by have:=(yT.mp hd).1;simpa [tsD] using this
       have hk:w[k]?=some w[k]:=zV cv;obtain rfl:a0J (w[k]).1=d:=by unfold HZ tsD at hd;rw[zF,zF,hk] at hd;simpa using hd
       generalize w[k]=t at hk;have ql:AE w t.1=some t.2:=(K9 nd).mp (yN hk);walk_at "r";refine EJ ?_;cases cx:decide (t.1∈E.st) with
       | true=> walk_at "r";exact⟨by rw[iI hk (of_decide_eq_true cx)],_,_,_,_,rfl⟩
       | false=> walk_at "r";refine BW ?_;refine EK ?_;walk_at "r";refine⟨tsD w,t.1,pcD t.2.1 t.2.2,rfl,rfl,by rw[AW,ql];rfl,?_⟩;walk_at "r";refine⟨p,tsD (CC E (w.take k)),t.1,pcD t.2.1 t.2.2,rfl,rfl,rfl,zU,CV (by have:=UW (E:=E) (w.take k);rw[a0V] at this;lia),?_⟩;rw[yI,CI,dS nd hk (of_decide_eq_false cx)];exact⟨rfl,_,_,_,_,rfl⟩
     . rintro ρ1 M1 ⟨rfl,x6,x7,x8,x9,rfl⟩;rw[show(HZ (tsD w)).length=w.length by simp[HZ,tsD],a1J];have kf:=UW (E:=E) w;walk_at "r";refine CK ?_;refine B8 ?_;walk_at "r";refine⟨λk ρ1 M1=>M1=M.put p (tsO (LN (AE w) (CC E w) (E.lf.take k)))/\∃x6 x7 x8 x9:Option DS,ρ1=[some (.d E.d),some (.d (wQ w)),some (.d (AJ E.st)),some (.d (AJ E.fr)),some (.d (.tuple (E.lf.map lfE))),some (.loc p),x6,x7,x8,x9],⟨rfl,_,_,_,_,rfl⟩,?_,?_⟩
       . rintro k d ρ1 M1 hd ⟨rfl,x6,x7,x8,x9,rfl⟩;have cv:k < E.lf.length:=by have:=(yT.mp hd).1;rw[zX] at this;exact this
         have hk:E.lf[k]?=some E.lf[k]:=zV cv;obtain rfl:lfE (E.lf[k])=d:=by rw[zF,hk] at hd;simpa using hd
         have b_:=a0K cv;generalize E.lf[k]=t at hk b_;have jp:=h.from_ t b_;have sX:=CG hn ⟨jp.1,λn az=>h.st.2 n (jp.2 n az)⟩;have ll:=XV (AE w) (E.lf.take k) (CC E w);rw[a0V] at ll;rw[show lfE t = .tuple [.str t.1,plE t.2.1,AJ t.2.2.1,.int t.2.2.2] from rfl];have dz:=h.place t b_;walk_at "wks";refine VH (λρ2 M2=>M2=M.put p (tsO (LN (AE w) (CC E w) (E.lf.take k)))/\ρ2=[some (.d E.d),some (.d (wQ w)),some (.d (AJ E.st)),some (.d (AJ E.fr)),some (.d (.tuple (E.lf.map lfE))),some (.loc p),some (.d (.str t.1)),some (.d (.int (plV (AE w) t.2.1))),some (.d (AJ t.2.2.1)),some (.d (.int t.2.2.2))]) ?_ ?_
         . cases hpe:t.2.1 with
           | inl pl=> rw[show plE (.inl pl) = .int pl from rfl];walk_at "r";exact⟨rfl,rfl⟩
           | inr n=> obtain⟨v,hv⟩:=di n (dz n hpe);rw[show plE (.inr n) = .str n from rfl];walk_at "r";refine EK ?_;walk_at "r";refine⟨tsD w,n,pcD v.1 v.2,rfl,rfl,by rw[AW,hv];rfl,?_⟩;rw[show pcD v.1 v.2 = .tuple [.int v.1,.int v.2] from rfl];walk_at "r";refine AB (ds:=[.int v.1,.int v.2]) (d:=.int v.1) (AA (j:=0) rfl) ?_;walk_at "r";refine⟨rfl,?_⟩;rw[show plV (AE w) (.inr n)=v.1 by show((AE w n).getD (0,0)).1=v.1;rw[hv];rfl];rfl
         . rintro ρ2 M2 ⟨rfl,rfl⟩;walk_at "r";refine BW ?_;walk_at "r";refine AM (AT 0) (by simp[F6]) ?_;refine B8 ?_;walk_at "r";try refine⟨_,rfl,?_⟩
           refine⟨sz sX,λ_=>true,ctF w,?_,?_⟩;. intro d hd M';obtain⟨z,hz,rfl⟩:=zL.mp hd;obtain⟨v,hv⟩:=di z (jp.2 z hz);walk_at "dl";refine⟨rfl,?_⟩;walk_at "dl";refine⟨rfl,rfl,λ_=>?_⟩;walk_at "r";refine EK ?_;walk_at "r";refine⟨tsD w,z,pcD v.1 v.2,rfl,rfl,by rw[AW,hv];rfl,?_⟩;rw[show pcD v.1 v.2 = .tuple [.int v.1,.int v.2] from rfl];walk_at "r";refine AB (ds:=[.int v.1,.int v.2]) (d:=.int v.2) (AA (j:=1) rfl) ?_;refine⟨?_,rfl⟩;show _=DS.d (.int ((AE w z).getD (0,0)).2);rw[hv];rfl
           rw[J7,dW];walk_at "r";refine m7 ?_;walk_at "r";refine⟨p,tsD (LN (AE w) (CC E w) (E.lf.take k)),t.1,pcD (enV (AE w) t.2).1 (enV (AE w) t.2).2,rfl,rfl,rfl,zU,?_,?_⟩;. unfold tsD;rw[zX];exact zQ (show _<=130 by lia) (by decide)
           rw[yI,CI,dU hk];exact⟨rfl,_,_,_,_,rfl⟩
       . rintro ρ1 M1 ⟨rfl,x6,x7,x8,x9,rfl⟩;rw[zX,a1J];refine EN (i:=5) (a:=p) rfl zU ?_;rw[yG hp];walk_at "r";exact fin (o:=some _) (by unfold ET;rw[if_pos hok])
end
def BH:List Str:=["_law_found", "_law_names_here", "_law_stand", "_law_free", "_law_stay", "_law_told", "_law_one"]
def D3:List Str:=["_law_part"]
def D4:List (Option Nat):=[none]
theorem HI:D3.Nodup:=by decide +kernel
def D5:List Str:=["_law_name", "_law_names_here"]
def D6:List (Option Nat):=[none,some 1]
theorem HJ:D5.Nodup:=by decide +kernel
def D7:List Str:=["_law_name", "_law_stand"]
def D8:List (Option Nat):=[none,some 2]
theorem HK:D7.Nodup:=by decide +kernel
theorem E6:FnScope BH ["_law_found", "_law_names_here"] (AC AV):=⟨rfl,rfl,rfl,by decide +kernel,rfl,by decide +kernel,by decide +kernel⟩
section
local macro_rules | `(tactic| walk_at "cs")=>`(tactic| first | exact @GM _ _ D3 D4 (AC AV) BH (by decide +kernel) (by decide +kernel) rfl rfl | exact @GM _ _ D5 D6 (AC AV) BH (by decide +kernel) (by decide +kernel) rfl rfl | exact @GM _ _ D7 D8 (AC AV) BH (by decide +kernel) (by decide +kernel) rfl rfl)
local macro_rules | `(tactic| walk_at "x")=>`(tactic| first | ((with_reducible show PS _ (.Assign [.Tuple ..] ..) _);exact @V3 _ _ _ _ _ _ (by walk_at "e") (by walk_at "g") (by rfl) (by rfl) (by rfl)) | ((with_reducible show PG _ (.Tuple ..) _);exact @bY _ K _ _ _ _ (3) rfl rfl (by walk_at "j") (by rfl) (by rfl)) | ((with_reducible show PE _ (.Compare _ [.In] ..) _);exact @E7 _ _ _ _ _ _ _ _ (@kIn _ K rfl) (by walk_at "e") (by walk_at "e") (by with_unfolding_all rfl)) | ((with_reducible show PT _ (.Compare _ [.NotIn] ..) _);exact @C8 _ _ _ _ _ _ _ _ (@VE _ K rfl) (by walk_at "e") (by walk_at "e") (by with_unfolding_all rfl)))
local macro_rules | `(tactic| walk_at "y")=>`(tactic| first | ((with_reducible show PE _ (.Call (.Name (a0Q "sorted") _) ..) _);exact @DQ _ _ _ _ _ _ _ _ _ (@XJ _ K rfl) (by rfl) af a8W (by walk_at "a") (by decide) (by decide) (by rfl) (by rfl)) | ((with_reducible show PE _ (.Call (.Name (a0Q "sorted") _) [.Call ..] ..) _);exact @UV _ K _ _ _ _ _ _ rfl hr.hd rfl gw rfl af (by walk_at "a") (by rfl) (by rfl)) | ((with_reducible show PE _ (.Call (.Name (a0Q "list") _) ..) _);exact @L7 _ _ _ _ _ _ _ _ _ (@oM _ K rfl) (by rfl) eu PyProof.Rows.boot_list (by walk_at "a") (by decide) (by decide) (by rfl) (by rfl)))
theorem J8 {f:Addr}{fd:FuncData}(F:Fun K "_law_shape_right" "_law_shape_right" AV f fd) (cj:mg "all"=none) (gx:mg "bool"=none) (ag:mg "isinstance"=none) (ax:mg "len"=none) (eu:mg "list"=none) (gw:mg "set"=none) (af:mg "sorted"=none) (dh:mg "str"=none) (ah:mg "tuple"=none):FnOk P w K mg base CX0 1 f fd ["_law_found", "_law_names_here"] (spD K 2 GC):=by
 refine fnD F E6 λcdv A outer s H E hr=>?_;have hu:=hr.units;have nd:=E6.nd;have n0:=HI;have n1:=HJ;have n2:=HK;refine⟨_,by walk_at "b2", ?_⟩;clear nd n0 n1 n2;rintro xs M hl ⟨ys,E,rfl,h,hs,hn⟩;have fin:∃M2:Own,M2.Sub M/\GC.post [.d E.d,.d (C6 ys)] M (.d (.bool true)) M2:=⟨M,zT M,rfl,rfl⟩
 have l1:=CG hn h.st;have l2:=CG hn h.fr;have l3:=RX hn h;have sz:∀{l:List Str},l.length<=60->(l.map a0J).length < sizeLine:=λ{l} h=>by rw[zX];exact zQ h (by decide)
 have rF:∀n∈E.st++E.fr,n∈ys:=λn hm=>(yW.mp hm).elim (h.st.2 n) (h.fr.2 n);have rG:(E.st++E.fr).Nodup:=List.nodup_append.mpr ⟨h.st.1,h.fr.1,λa ha b hb e=>h.apart a ha (e▸hb)⟩;have add:(E.st.map a0J).length+(E.fr.map a0J).length<=sizeLine:=by rw[zX,zX];exact zN (show _<=52 by lia) (by decide)
 have sY:(E.st++E.fr).length < 64:=by rw[yY];lia
 have ox:∀{l:List Str},(∀n∈l,n∈ys)->∀n∈BF l,n∈ys:=λ{l} hh n hm=>hh n ((AO l).mem_iff.mp hm);rw[show E.d = .tuple [AJ E.st,AJ E.fr,.tuple (E.lf.map lfE)] from rfl];walk_at "r";refine RH ?_;walk_at "r";refine BL rfl rfl ?_;rw[if_pos rfl];walk_at "r";refine AM (AT 0) (by simp[D4]) ?_;refine B8 ?_;walk_at "r";refine⟨by show 3 < sizeLine;decide,λ_=>true,λ_=>.bool true,?_,?_⟩
 . intro d hd M';obtain⟨ds,rfl⟩:∃ds,d = .tuple ds:=by
     simp only[yX,b6X,or_false] at hd;rcases hd with rfl | rfl | rfl;. exact⟨_,rfl⟩
     . exact⟨_,rfl⟩
     . exact⟨_,rfl⟩
   walk_at "dl";refine⟨rfl,?_⟩;walk_at "dl";refine⟨rfl,rfl,λ_=>?_⟩;walk_at "r";exact⟨rfl,rfl⟩
 rw[J7];walk_at "r";refine HU (bs:=[true,true,true]) ?_;walk_at "r";refine VL ?_;walk_at "r";refine CT add ?_;rw[<-xI];walk_at "r";refine G2 sY λs1 p1 o1=>?_;obtain rfl:=GP p1 o1;walk_at "r";refine MF ?_;walk_at "r";refine CT add ?_;rw[<-xI];walk_at "r";refine⟨E.st++E.fr,.inr rfl,sY,λs2 n2 m2 o2=>?_⟩;obtain rfl:=XY rG n2 m2 o2;have rH:=IG hn (ox rF);refine BL rH rH ?_;rw[if_pos rfl,EO rH];walk_at "r";refine NH ?_;walk_at "r";refine G2 (by lia) λs3 p3 o3=>?_;obtain rfl:=GP p3 o3;rw[hs.1];have rJ:=IG hn h.st.2;refine BL rJ rJ ?_;rw[if_pos rfl,EO rJ];walk_at "r";refine NH ?_;walk_at "r";refine G2 (by lia) λs4 p4 o4=>?_;obtain rfl:=GP p4 o4;rw[hs.2.1];have rK:=IG hn h.fr.2;refine BL rK rK ?_;rw[if_pos rfl,EO rK];walk_at "r";refine AM (AT 0) (by simp[D6]) ?_;refine B8 ?_;walk_at "r";refine CT add ?_;rw[<-xI];refine⟨_,rfl,?_⟩;refine⟨sz (by rw[yY];lia),λ_=>true,inT ys,?_,?_⟩;. intro d hd M';obtain⟨z,hz,rfl⟩:=zL.mp hd;walk_at "dl";refine⟨rfl,?_⟩;walk_at "dl";refine⟨rfl,rfl,λ_=>?_⟩;walk_at "r";refine X4 (ys:=ys) ?_;exact⟨rfl,rfl⟩
 rw[J7,G0];walk_at "r";refine HU ?_;rw[show((E.st++E.fr).map λz=>decide (z∈ys)).all id=true from List.all_eq_true.mpr λb hb=>by obtain⟨z,hz,rfl⟩:=zL.mp hb;exact decide_eq_true (rF z hz)];walk_at "r";refine K2 ?_;walk_at "r";intro A hA;walk_at "r";refine CK ?_;refine B8 ?_;walk_at "r";refine⟨λk ρ1 M1=>M1=M.put A (.l ((((E.lf.take k).map (·.1)).map .str)))/\∃x6:Option DS,ρ1=[some (.d E.d),some (.d (C6 ys)),some (.d (AJ E.st)),some (.d (AJ E.fr)),some (.d (.tuple (E.lf.map lfE))),some (.loc A),x6],⟨rfl,_,rfl⟩,?_,?_⟩
 . rintro k d ρ1 M1 hd ⟨rfl,x6,rfl⟩;have cv:k < E.lf.length:=by have:=(yT.mp hd).1;rw[zX] at this;exact this
   have hk:E.lf[k]?=some E.lf[k]:=zV cv;obtain rfl:lfE (E.lf[k])=d:=by rw[zF,hk] at hd;simpa using hd
   have b_:=a0K cv;generalize E.lf[k]=t at hk b_;have jp:=h.from_ t b_;have sX:=CG hn ⟨jp.1,λn az=>h.st.2 n (jp.2 n az)⟩;have fv:=h.known t b_;have htk:((E.lf.take (k+1)).map (·.1)).map a0J=((E.lf.take k).map (·.1)).map .str++[.str t.1]:=by rw[a1Q,hk,a6X,xI,xI];rfl
   rw[show lfE t = .tuple [.str t.1,plE t.2.1,AJ t.2.2.1,.int t.2.2.2] from rfl];walk_at "r";refine RH ?_;walk_at "r";refine BL rfl rfl ?_;rw[if_pos rfl];walk_at "r";refine AB (ds:=[.str t.1,plE t.2.1,AJ t.2.2.1,.int t.2.2.2]) (d:=.str t.1) (AA (j:=0) rfl) ?_;walk_at "r";refine CT add ?_;rw[<-xI];refine EJ ?_;rw[show decide (t.1∈E.st++E.fr)=true from decide_eq_true fv];walk_at "r";refine AB (ds:=[.str t.1,plE t.2.1,AJ t.2.2.1,.int t.2.2.2]) (d:=AJ t.2.2.1) (AA (j:=2) rfl) ?_;walk_at "r";refine AB (ds:=[.str t.1,plE t.2.1,AJ t.2.2.1,.int t.2.2.2]) (d:=AJ t.2.2.1) (AA (j:=2) rfl) ?_;walk_at "r";refine NH ?_;walk_at "r";refine AB (ds:=[.str t.1,plE t.2.1,AJ t.2.2.1,.int t.2.2.2]) (d:=AJ t.2.2.1) (AA (j:=2) rfl) ?_;walk_at "r";refine G2 (by lia) λs5 p5 o5=>?_;obtain rfl:=GP p5 o5;rw[hs.2.2.2 t b_];have rL:=IG (l:=t.2.2.1) hn λn hm=>h.st.2 n (jp.2 n hm);refine BL rL rL ?_;rw[if_pos rfl,EO rL];walk_at "r";refine AB (ds:=[.str t.1,plE t.2.1,AJ t.2.2.1,.int t.2.2.2]) (d:=.int t.2.2.2) (AA (j:=3) rfl) ?_;walk_at "r";refine AM (AT 0) (by simp[D8]) ?_;refine B8 ?_;walk_at "r";refine AB (ds:=[.str t.1,plE t.2.1,AJ t.2.2.1,.int t.2.2.2]) (d:=AJ t.2.2.1) (AA (j:=2) rfl) ?_;refine⟨_,rfl,?_⟩;refine⟨sz (by lia),λ_=>true,inT E.st,?_,?_⟩;. intro d hd M';obtain⟨z,hz,rfl⟩:=zL.mp hd;walk_at "dl";refine⟨rfl,?_⟩;walk_at "dl";refine⟨rfl,rfl,λ_=>?_⟩;walk_at "r";refine X6 (ys:=E.st) ?_;exact⟨rfl,rfl⟩
   rw[J7,G0];walk_at "r";refine HU ?_;rw[show(t.2.2.1.map λz=>decide (z∈E.st)).all id=true from List.all_eq_true.mpr λb hb=>by obtain⟨z,hz,rfl⟩:=zL.mp hb;exact decide_eq_true (jp.2 z hz)];walk_at "r";refine AB (ds:=[.str t.1,plE t.2.1,AJ t.2.2.1,.int t.2.2.2]) (d:=plE t.2.1) (AA (j:=1) rfl) ?_;have oy:M.put A (.l (((E.lf.take k).map (·.1)).map .str++[.str t.1]))=M.put A (.l (((E.lf.take (k+1)).map (·.1)).map .str)):=by rw[htk]
   have jq:(((E.lf.take k).map (·.1)).map a0J).length < sizeLine:=sz (by rw[zX,a0V];lia);have dz:=h.place t b_;cases hpe:t.2.1 with
   | inl pl=> rw[show plE (.inl pl) = .int pl from rfl];walk_at "r";refine K3 ?_;walk_at "dl";refine⟨F8 (ds:=((E.lf.take k).map (·.1)).map .str) zU,?_⟩;walk_at "r";refine AB (ds:=[.str t.1,.int pl,AJ t.2.2.1,.int t.2.2.2]) (d:=.str t.1) (AA (j:=0) rfl) ?_;walk_at "r";refine CO (ds:=((E.lf.take k).map (·.1)).map .str) zU jq ?_;rw[yI];exact⟨oy,_,rfl⟩
   | inr n=> rw[show plE (.inr n) = .str n from rfl];walk_at "r";refine AB (ds:=[.str t.1,.str n,AJ t.2.2.1,.int t.2.2.2]) (d:=.str n) (AA (j:=1) rfl) ?_;walk_at "r";refine EJ (ys:=E.st) ?_;rw[show decide (n∈E.st)=true from decide_eq_true (dz n hpe)];walk_at "r";refine K3 ?_;walk_at "dl";refine⟨F8 (ds:=((E.lf.take k).map (·.1)).map .str) zU,?_⟩;walk_at "r";refine AB (ds:=[.str t.1,.str n,AJ t.2.2.1,.int t.2.2.2]) (d:=.str t.1) (AA (j:=0) rfl) ?_;walk_at "r";refine CO (ds:=((E.lf.take k).map (·.1)).map .str) zU jq ?_;rw[yI];exact⟨oy,_,rfl⟩
 . rintro ρ1 M1 ⟨rfl,x6,rfl⟩;rw[zX,a1J];refine FV (i:=5) (a:=A) rfl zU ?_;rw[yG hA];walk_at "r";refine MF ?_;walk_at "r";refine⟨E.lf.map (·.1),.inl rfl,by rw[zX];lia,λs6 n6 m6 o6=>?_⟩;obtain rfl:=XY h.keys n6 m6 o6;rw[dX hs];have rM:=IG (l:=E.lf.map (·.1)) hn λn hm=>by obtain⟨t,ht,rfl⟩:=zL.mp hm;exact rF _ (h.known t ht)
   refine BL rM rM ?_;rw[if_neg nft,EO rM];exact fin
end
def CH:List Str:=["_law_cell_here", "_law_xs", "_law_names_here", "_law_row_here", "_law_spread", "_law_worlds", "_law_found", "_law_can_here", "_law_there_here"]
def HB:List Str:=["_law_mask", "_law_names_here", "_law_spread"]
def HC:List (Option Nat):=[none,some 2,some 4]
theorem MS:HB.Nodup:=by decide +kernel
def HD:List Str:=["_law_there_here", "_law_row_here"]
def HE:List (Option Nat):=[none,some 3]
theorem MT:HD.Nodup:=by decide +kernel
def HF:List Str:=["_law_one"]
def E5:List (Option Nat):=[none]
theorem MU:HF.Nodup:=by decide +kernel
def HG:List Str:=["_law_mask", "_law_found", "_law_can_here", "_law_worlds"]
def HH:List (Option Nat):=[none,some 6,some 7,some 5]
theorem MV:HG.Nodup:=by decide +kernel
theorem JK:FnScope CH ["_law_cell_here"] (AC BD):=⟨rfl,rfl,rfl,by decide +kernel,rfl,by decide +kernel,by decide +kernel⟩
section
local macro_rules | `(tactic| walk_at "cs")=>`(tactic| first | exact @GM _ _ HB HC (AC BD) CH (by decide +kernel) (by decide +kernel) rfl rfl | exact @GM _ _ HD HE (AC BD) CH (by decide +kernel) (by decide +kernel) rfl rfl | exact @GM _ _ HF E5 (AC BD) CH (by decide +kernel) (by decide +kernel) rfl rfl | exact @GM _ _ HG HH (AC BD) CH (by decide +kernel) (by decide +kernel) rfl rfl)
local macro_rules | `(tactic| walk_at "x")=>`(tactic| first | ((with_reducible show PS _ (.Assign [.Subscript ..] ..) _);exact @IP _ _ _ _ _ _ _ _ _ bu (by walk_at "e") (by walk_at "e") (by walk_at "e") (by rfl)))
local macro_rules | `(tactic| walk_at "y")=>`(tactic| first | ((with_reducible show PE _ (.Compare _ [.Eq] ..) _);exact @E7 _ _ _ _ _ _ _ _ (@pV _ K rfl hu) (by walk_at "e") (by walk_at "e") (@CD _ _ (by decide) (by decide))) | ((with_reducible show PT _ (.Compare _ [.NotEq] ..) _);exact @C8 _ _ _ _ _ _ _ _ (@pW _ K rfl hu) (by walk_at "e") (by walk_at "e") (@CD _ _ (by decide) (by decide))))
theorem PL {f:Addr}{fd:FuncData}(F:Fun K "_law_right" "_law_right" BD f fd) (cj:mg "all"=none) (ac:mg "range"=none) (bo:Has P w K mg base "_law_comes_to" 1 ["_law_found", "_law_there_here"] GB) (cb:Has P w K mg base "_law_names" 1 ["_law_xs", "_law_at", "_law_size"] IX) (c_:Has P w K mg base "_law_row" 3 ["_law_xs", "_law_at", "_law_size", "_law_names_here", "_law_there_here"] N0) (ap:Has P w K mg base "_law_row_comes_to" 4 ["_law_there_here", "_law_row_here"] GA) (av:Has P w K mg base "_law_shape_right" 1 ["_law_found", "_law_names_here"] GC) (br:Has P w K mg base "_law_stirred" 1 ["_law_cell_here", "_law_size"] FE) (cc:Has P w K mg base "_law_there" 1 ["_law_world_here"] IZ) (cp:Has P w K mg base "_law_wide" 1 ["_law_names_here", "_law_mask", "_law_spread"] KS) (cf:Has P w K mg base "_law_world" 2 ["_law_xs", "_law_at", "_law_names_here"] IY) (dy:Has P w K mg base "effect" 4 ["row"] GS):FnOk P w K mg base CX0 5 f fd ["_law_cell_here"] (spD K 1 J1):=by
 refine fnD F JK λcdv A outer s H E hr=>?_;have hu:=hr.units;have bu:=zQ (a1V (show 1<=64 by decide) _) hu;have nd:=JK.nd;have n0:=MS;have n1:=MT;have n2:=MU;have n3:=MV;refine⟨_,by walk_at "b2", ?_⟩;clear nd n0 n1 n2 n3;rintro xs M hl ⟨c,rfl⟩;walk_at "r";refine RQ (n:=64) (by decide) λL hL hok=>?_;have lx:∀i,i < L.length->(L.map b2J)[i]?=some (.int (L.getD i 0)):=λi hi=>by rw[zF,yU,zV hi];rfl
 have nat:∀(i:Nat) (m:Int),0 < m->∃k:Nat,L.getD i 0 % m=(k:Int)/\(k:Int) < m:=λi m hm=>⟨(L.getD i 0 % m).toNat,by have:=a5W (L.getD i 0) (Int.ne_of_gt hm);lia,by have:=a5W (L.getD i 0) (Int.ne_of_gt hm);have:=a8X (L.getD i 0) hm;lia⟩
 walk_at "r";refine RR (a:=0) (n:=5) hok (by lia) (by decide) (by lia) λys hn sZ=>?_;walk_at "r";refine AR (AA (j:=60) (lx _ (by lia))) ?_;walk_at "r";refine KI (a:=2) hok (by lia) (by lia) hn (by lia) λw hw=>?_;have ow:There ys w:=⟨hw.1.1.nodup,hw.2⟩
 have pj:=ow.few;walk_at "r";refine KJ ow.nd (by lia) λp hp=>?_;walk_at "r";obtain⟨n1,e1,vJ⟩:=nat 60 9 (by decide);rw[e1];refine W8 (a:=10) hok (by lia) (by lia) (by lia) hn (by lia) (by lia) zU ow λA vK hA=>?_;have jb:A.length<=60:=by lia
 have qo:=λm=>WI hn.2.1 m;have vz:∀m,Go17 (BE ys m) A:=λm=>pA (qo m) (by lia) hA (λy h=>h) jb;walk_at "r";rw[show(10:Int) ^ b5J 14=100000000000000 by decide];walk_at "r";refine AM (AT 0) (by simp[HC]) ?_;refine EA ?_;walk_at "r";refine⟨by decide,by decide,?_⟩;refine⟨by decide,λ_=>true,wdF ys,?_,?_⟩;. intro d hd M';obtain⟨k,hk,rfl⟩:=O1 (n:=32) hd;walk_at "dl";refine⟨rfl,?_⟩;walk_at "dl";refine⟨rfl,rfl,λ_=>?_⟩;walk_at "r";refine ZL (m:=k) hn.2.1 sZ ?_;exact⟨rfl,rfl⟩
 rw[J7,ZM];walk_at "r";refine MD hn hA jb ?_;walk_at "r";refine AM (AT 0) (by simp[HE]) ?_;refine BQ ?_;walk_at "r";refine⟨by rw[zX,xZ];decide,λ_=>true,iJ A,?_,?_⟩;. intro d hd M';obtain⟨m,_,rfl⟩:=zL.mp hd;walk_at "dl";refine⟨rfl,?_⟩;walk_at "dl";refine⟨rfl,rfl,λ_=>?_⟩;walk_at "r";refine OI (vz m) ?_;exact⟨by rw[XZ],rfl⟩
 rw[J7,iK];have oz:((a0Z 32).map λm=>GU (B7 (BE ys m) A)).length < sizeLine:=by rw[zX,xZ];decide
 have vL:∀d∈(a0Z 32).map (λm=>GU (B7 (BE ys m) A)),True:=λ_ _=>trivial;walk_at "r";refine MX ?_;cases hE:DX A with
 | none=>
   walk_at "r";refine AM (AT 0) (by simp[E5]) ?_;refine BQ ?_;walk_at "r";refine⟨oz,λ_=>true,noT,?_,?_⟩;. intro d hd M';walk_at "dl";refine⟨rfl,?_⟩;walk_at "dl";refine⟨rfl,rfl,λ_=>?_⟩;walk_at "r";refine MX ?_;exact⟨rfl,rfl⟩
   rw[J7,Y0];walk_at "r";refine HU ?_;rw[dY λm=>by have:=J3 hn (BE ys m) _ A rfl hA;rw[hE] at this;exact this];exact⟨M,(zT M).put hp,rfl,rfl⟩
 | some E=>
   have oE:=O9 hn hA E hE;walk_at "r";refine WK oE (dE hn hA E hE) hn ?_;walk_at "r";refine AM (AT 0) (by simp[E5]) ?_;refine BQ ?_;walk_at "r";refine⟨oz,λ_=>true,noT,?_,?_⟩;. intro d hd M';walk_at "dl";refine⟨rfl,?_⟩;walk_at "dl";refine⟨rfl,rfl,λ_=>?_⟩;walk_at "r";refine MX ?_;exact⟨rfl,rfl⟩
   rw[J7,Y0];walk_at "r";refine HU ?_;rw[dZ hn sZ hA hE];walk_at "r";refine AM (AT 0) (by simp[HH]) ?_;refine EA ?_;walk_at "r";refine⟨by decide,by decide,?_⟩;refine⟨by decide,λ_=>true,λ_=>.bool true,?_,?_⟩;. intro d hd M';obtain⟨k,hk,rfl⟩:=O1 (n:=32) hd;walk_at "dl";refine⟨rfl,?_⟩;walk_at "dl";refine⟨rfl,rfl,λ_=>?_⟩;walk_at "r";refine AR (ds:=(a0Z 32).map λm=>wQ (BE ys m)) (d:=wQ (BE ys k)) (AA (by rw[zF,yA hk];rfl)) ?_;walk_at "r";refine OJ oE hn (qo k).nd (by have:=(qo k).few;lia) ?_;walk_at "r";refine AR (ds:=(a0Z 32).map λm=>GU (B7 (BE ys m) A)) (d:=GU (B7 (BE ys k) A)) (AA (by rw[zF,yA hk];rfl)) ?_;refine e6 (e8 hn (qo k) (by lia) hA (λy h=>h) hE) ?_;exact⟨rfl,rfl⟩
   rw[J7];walk_at "r";rw[show(EI 0 (b5J 32)).map (λ_=>PyData.bool true)=((a0Z 32).map λ_=>true).map .bool from rfl];refine HU ?_;rw[show((a0Z 32).map λ_=>true).all id=true from by decide];walk_at "r";refine KI (a:=50) hok (by lia) (by lia) hn (by lia) λv hv=>?_;have rN:There ys v:=⟨hv.1.1.nodup,hv.2⟩
   have vM:=rN.few;walk_at "r";refine KJ rN.nd (by lia) λq hq=>?_;walk_at "r";refine BW ?_;walk_at "r";refine⟨q,tsD v,a0Q "zzzzzzzz", pcD 5 5,rfl,rfl,rfl,zU,CV (by lia),?_⟩;rw[yI,CI];have o_:=ZN (z:=a0Q "zzzzzzzz") (p:=5) (c:=5) rN;generalize BK v (a0Q "zzzzzzzz") 5 5=u at o_;have v_:=o_.few;rw[yY,List.length_singleton] at v_;have og:(ys++[a0Q "zzzzzzzz"]).length < 60:=by rw[yY,List.length_singleton];lia
   have cx:∀y∈ys,y∈ys++[a0Q "zzzzzzzz"]:=λy h=>yW.mpr (.inl h);refine EN (i:=8) (a:=q) rfl zU ?_;rw[yG hq];walk_at "r";refine OJ oE hn o_.nd (by lia) ?_;walk_at "r";refine OI (pA o_ og hA cx jb) ?_;refine e7 (e8 hn o_ og hA cx hE) ?_;walk_at "r";refine MD hn hA jb ?_;rw[hE];have sh:=ZD hn (o:=some E) λF e=>by cases e;exact oE
   walk_at "r";refine dM (BL sh sh ?_);rw[if_neg nft,EO sh];exact⟨M,(zT M).put hp,rfl,rfl⟩
end
def mP:List Str:=["_law_script", "_law_cell_here"]
theorem eD:FnScope mP ["_law_script"] (AC Y1):=⟨rfl,rfl,rfl,by decide +kernel,rfl,by decide +kernel,by decide +kernel⟩
theorem mQ {f:Addr}{fd:FuncData}(F:Fun K "law" "law" Y1 f fd) (cq:Has P w K mg base "_law_cell" 1 ["_law_script", "_law_k"] KF) (cg:Has P w K mg base "_law_right" 5 ["_law_cell_here"] J1):FnOk P w K mg base CX0 6 f fd ["_law_script"] (spD K 1 QD):=by
 refine fnD F eD λcdv A outer s H E hr=>?_;have hu:=hr.units;have nd:=eD.nd;refine⟨_,by walk_at "b2", ?_⟩;clear nd;rintro xs M hl ⟨ns,rfl,lm,jj⟩;have fin:∀{M1:Own},M.Sub M1->∃M2:Own,M2.Sub M1/\QD.post [.d (.list (ns.map .int))] M (.d (.bool true)) M2:=λh=>⟨M,h,rfl⟩
 walk_at "r";refine CK ?_;refine BQ ?_;walk_at "r";refine HS ?_;walk_at "r";refine U7 (k:=0) λc0=>?_;walk_at "r";refine YK ?_;rw[show RE (ns.map b2J) (some 1) (some 6)=((ns.take 6).drop 1).map .int from(gM _ 1 6).trans (by rw[List.map_drop,List.map_take])];refine bJ (by rw[zX];exact zN (show _<=200 by rw[b6Z,a0V];simp;lia) (by decide)) ?_;refine⟨_,rfl,λk ρ1 M1=>M1=M/\∃x1:Option DS,ρ1=[some (.d (.list (ns.map .int))),x1],⟨rfl,_,rfl⟩,?_,?_⟩
 . rintro k d ρ1 M1 hd ⟨rfl,x1,rfl⟩;obtain⟨c,rfl⟩:∃c:Int,d = .int c:=by
     rcases yW.mp (yN hd) with h | h;. exact⟨c0,List.mem_singleton.mp h⟩
     . obtain⟨c,_,rfl⟩:=zL.mp h;exact⟨c,rfl⟩
   walk_at "r";refine RZ ?_;walk_at "r";exact⟨rfl,_,rfl⟩
 . rintro ρ1 M1 ⟨rfl,x1,rfl⟩;walk_at "r";exact fin (zT _)
end
end DL
namespace DL
open PySem PySem.Spec L2
local macro_rules | `(tactic| walk_at "b1")=>`(tactic| exact λ_ _ _ _ _ _ us hl=>match us,hl with | [_],_=>rfl)
local macro_rules | `(tactic| walk_at "b2")=>`(tactic| exact λ_ _ _ _ _ _ us hl=>match us,hl with | [_,_],_=>rfl)
local macro_rules | `(tactic| walk_at "b3")=>`(tactic| exact λ_ _ _ _ _ _ us hl=>match us,hl with | [_,_,_],_=>rfl)
local macro_rules | `(tactic| walk_at "b4")=>`(tactic| exact λ_ _ _ _ _ _ us hl=>match us,hl with | [_,_,_,_],_=>rfl)
local macro_rules | `(tactic| walk_at "b5")=>`(tactic| exact λ_ _ _ _ _ _ us hl=>match us,hl with | [_,_,_,_,_],_=>rfl)
set_option hygiene false in
local macro_rules | `(`hhh)=>`(Has l.prog w K mg base _ _ _ _)
theorem mR {l:PySem.W.OpenLaw}{w:World}{K:Frg}{h:Heap}{mg:Str->Option Value}{fa:Addr} (X:K.In h) (G:h.Ns mainGlobals mg) (v0:mg "law"=some (.ref fa)) (b0:FnIn K "_law_cell" FI) (b1:FnIn K "_law_stirred" CY) (b2:FnIn K "_law_names" CZ) (b3:FnIn K "_law_place" EE) (b4:FnIn K "_law_number" DK) (b5:FnIn K "_law_pick" FJ) (b6:FnIn K "_law_world" EF) (b7:FnIn K "_law_there" EG) (b8:FnIn K "_law_wanted" DN) (b9:FnIn K "_law_made" FK) (tm:FnIn K "_law_can" EU) (tq:FnIn K "_law_step" FL) (tu:FnIn K "_law_deed" CQ) (tw:FnIn K "_law_row" GV) (tz:FnIn K "rising" KW) (t_:FnIn K "by_left_names" BS) (t5:FnIn K "clash" J6) (t7:FnIn K "told_at_first" CJ) (t8:FnIn K "rising_by_names" BC) (t9:FnIn K "deed_effect" DO) (oh:FnIn K "effect_behind" B9) (oi:FnIn K "effect" KY) (tD:FnIn K "_law_wide" FM) (tE:FnIn K "_law_run" GW) (tF:FnIn K "_law_row_comes_to" BG) (tG:FnIn K "_law_comes_to" BA) (tH:FnIn K "_law_shape_right" AV) (tI:FnIn K "_law_right" BD) (tJ:FnIn K "law" Y1) (gy:a3Q K mainGlobals "all"=some none) (gz:a3Q K mainGlobals "any"=some none) (e_:a3Q K mainGlobals "bool"=some none) (fb:a3Q K mainGlobals "dict"=some none) (bg:a3Q K mainGlobals "isinstance"=some none) (g_:a3Q K mainGlobals "len"=some none) (fe:a3Q K mainGlobals "list"=some none) (dn:a3Q K mainGlobals "range"=some none) (h_:a3Q K mainGlobals "set"=some none) (de:a3Q K mainGlobals "sorted"=some none) (ia:a3Q K mainGlobals "str"=some none) (ib:a3Q K mainGlobals "sum"=some none) (dq:a3Q K mainGlobals "tuple"=some none) : ∃fd:FuncData,(∀(s:Shared) (v:Value),BindsTo s fd ⟨[v],[]⟩ [("_law_script", v)])/\∀base:Heap,K.In base->base.Ns mainGlobals mg->FnOk l.prog w K mg base CX0 6 fa fd ["_law_script"] (spD K 1 QD):=by
 obtain⟨_,_,A0⟩:=b0.at X G;obtain⟨_,_,A1⟩:=b1.at X G;obtain⟨_,_,A2⟩:=b2.at X G;obtain⟨_,_,A3⟩:=b3.at X G;obtain⟨_,_,A4⟩:=b4.at X G;obtain⟨_,_,A5⟩:=b5.at X G;obtain⟨_,_,A6⟩:=b6.at X G;obtain⟨_,_,A7⟩:=b7.at X G;obtain⟨_,_,A8⟩:=b8.at X G;obtain⟨_,_,A9⟩:=b9.at X G;obtain⟨_,_,tK⟩:=tm.at X G;obtain⟨_,_,tL⟩:=tq.at X G;obtain⟨_,_,tM⟩:=tu.at X G;obtain⟨_,_,tN⟩:=tw.at X G;obtain⟨_,_,tP⟩:=tz.at X G;obtain⟨_,_,tQ⟩:=t_.at X G;obtain⟨_,_,tR⟩:=t5.at X G;obtain⟨_,_,tS⟩:=t7.at X G;obtain⟨_,_,tT⟩:=t8.at X G;obtain⟨_,_,tU⟩:=t9.at X G;obtain⟨_,_,tV⟩:=oh.at X G;obtain⟨_,_,tW⟩:=oi.at X G;obtain⟨_,_,tX⟩:=tD.at X G;obtain⟨_,_,tY⟩:=tE.at X G;obtain⟨_,_,tZ⟩:=tF.at X G;obtain⟨_,_,ua⟩:=tG.at X G;obtain⟨_,_,ub⟩:=tH.at X G;obtain⟨_,_,uc⟩:=tI.at X G;obtain⟨vN,v3,rO⟩:=tJ.at X G;have e:=v0.symm.trans rO.mg_;cases e;have cj:=a1W X G gy;have fj:=a1W X G gz;have gx:=a1W X G e_;have et:=a1W X G fb;have ag:=a1W X G bg;have ax:=a1W X G g_;have eu:=a1W X G fe;have ac:=a1W X G dn;have gw:=a1W X G h_;have af:=a1W X G de;have dh:=a1W X G ia;have jo:=a1W X G ib;have ah:=a1W X G dq;refine⟨v3,λs v=>?_,λbase _ _=>?_⟩;. obtain⟨oc,od,kV,doc,pm,an,cdv,ct,osl,e,_,_⟩:=rO.fn.ex;subst e;exact .of_eq rfl
 have cq:`hhh:=A0.has (S9 A0.fn ax) (by walk_at "b2");have br:`hhh:=A1.has (MQ A1.fn ac) (by walk_at "b2");have cb:`hhh:=A2.has (P8 A2.fn ac) (by walk_at "b3");have aq:`hhh:=A3.has (PB A3.fn ) (by walk_at "b1");have ao:`hhh:=A4.has (OL A4.fn ) (by walk_at "b1");have cm:`hhh:=A5.has (SB A5.fn ax) (by walk_at "b2");have cf:`hhh:=A6.has (PF A6.fn ax ac af ah ao aq) (by walk_at "b3");have cc:`hhh:=A7.has (PJ A7.fn ) (by walk_at "b1");have bw:`hhh:=A8.has (OO A8.fn ) (by walk_at "b1");have ck:`hhh:=A9.has (SD A9.fn ) (by walk_at "b1");have be:`hhh:=tK.has (UX tK.fn cj fj ck bw) (by walk_at "b2");have ay:`hhh:=tL.has (SF tL.fn et) (by walk_at "b2");have cn:`hhh:=tM.has (SG tM.fn ao cm aq) (by walk_at "b4");have c_:`hhh:=tN.has (UZ tN.fn ac ah be cn ay) (by walk_at "b5");have ba:`hhh:=tP.has (ZP tP.fn af ah) (by walk_at "b1");have bh:`hhh:=tQ.has (LP tQ.fn ) (by walk_at "b1");have fo:`hhh:=tR.has (eB tR.fn ax) (by walk_at "b3");have bi:`hhh:=tS.has (LR tS.fn ag dh ba) (by walk_at "b4");have ae:`hhh:=tT.has (JT tT.fn af ah) (by walk_at "b1");have bx:`hhh:=tU.has (OX tU.fn ba ae) (by walk_at "b1");have bj:`hhh:=tV.has (LS tV.fn ah bh fo ba ae bi) (by walk_at "b2");have dy:`hhh:=tW.has (ZR tW.fn bx bj) (by walk_at "b1");have cp:`hhh:=tX.has (SJ tX.fn ax ac) (by walk_at "b3");have cz:`hhh:=tY.has (V2 tY.fn ax ac be ay) (by walk_at "b2");have ap:`hhh:=tZ.has (IN tZ.fn cz) (by walk_at "b2");have bo:`hhh:=ua.has (LU ua.fn cj fj ag dh jo) (by walk_at "b2");have av:`hhh:=ub.has (J8 ub.fn cj gx ag ax eu gw af dh ah) (by walk_at "b2");have cg:`hhh:=uc.has (PL uc.fn cj ac bo cb c_ ap av br cc cp cf dy) (by walk_at "b1");exact mQ rO.fn cq cg
theorem mS {K:Frg}{H:Hp}{a:Addr}{ns:List Int}(hl:ns.length<=63) (hb:∀i∈ns,xJ i<=2 ^ 20) (hS:SqL K H a (ns.map V.int)):spD K 1 QD [.ref a] H (λv _=>v = .bl true) λ_ _ _=>False:=by
 refine⟨[.d (.list (ns.map .int))],λ_=>none,rfl,(λa o e=>nomatch e),⟨.ref a,[],rfl,?_,rfl⟩,⟨ns,rfl,hl,hb⟩,λx M' v H' post st oa si=>?_⟩
 . unfold SI DV;refine⟨a,ns.map V.int,rfl,?_,MC⟩;rcases hS with h | h;. exact .inl ⟨λw=>w rfl,h⟩
   . exact .inr h
 . have e:x = .d (.bool true):=post;subst e;exact o9 si
theorem pX {l:PySem.W.OpenLaw}{q:Program}{loose:List Str}{XP:(Str->Option Value)->Heap->Prop}{YP:World->Heap->Prop}{d:DefRec}{K:Params->Frg}(hn:l.most=some 63) (qT:d.params.defaults=[]) (hY:∀(w:World) (h:Heap),YP w h->(K w.params).In h) (F:∀(w:World) (mg:Str->Option Value) (fa:Addr) (h:Heap),(K w.params).In h->h.Ns mainGlobals mg->mg d.name=some (.ref fa) ->∃fd:FuncData,(∀(s:Shared) (u:Value),BindsTo s fd ⟨[u],[]⟩ [("_law_script", u)])/\∀base:Heap,(K w.params).In base->base.Ns mainGlobals mg->FnOk l.prog w (K w.params) mg base CX0 6 fa fd ["_law_script"] (spD (K w.params) 1 QD)) :
   PySem.W.WalkO q loose XP YP l.row.toRowW d [] (λf vs=>PySem.call f vs):=
 L2.bS (n:=63) (k:=6) (x:= "_law_script") (CX:=λ_=>CX0) (sp:=λw=>spD (K w.params) 1 QD) hn (by decide) qT ⟨rfl,by decide,by decide⟩ hY F (λ_ _ a ns hl hb _ hS=>mS hl hb hS) λ_ _ _ _ _ z=>z
end DL
open PySem PySem.W PyProof.Rows
set_option maxRecDepth 100000 in
set_option maxHeartbeats 0 in
theorem PySem.Challenge.cw_struckdeeds_k17_effects_by_worlds_holds : PySem.Challenge.rw_struckdeeds_k17_effects_by_worlds.Holds := by
 w_on
 refine PySem.W.holds_law DL.hS λrP=>?_;refine PySem.W.holds_open (q:=DL.hV) (loose:=[]) (Xt:=(λs=>PySem.W.xlAt DL.hV [] s&&PySem.W.recOk (b1K (b0X (b1W PySem.Challenge.rw_struckdeeds_k17_effects_by_worlds))) s)) (XP:=PySem.W.XL DL.hV []) (Yf:=b3K (a4J DL.hK DL.hA DL.hE)) (Ya:=b3J (a4J DL.hK DL.hA DL.hE)) (YP:=PySem.W.Hook.says (a4J DL.hK DL.hA DL.hE)) (N:=1900) DL.hL (PySem.W.Hook.of (a4J DL.hK DL.hA DL.hE)) (PySem.W.Hook.keeps (a4J DL.hK DL.hA DL.hE)) (λs e=>PySem.W.xl_of s (Bool.and_eq_true_iff.mp e).1) PySem.W.XL.keeps (by rfl) (by rfl) (by rfl) (λs e=>PySem.W.recFacts_of (Bool.and_eq_true_iff.mp e).2) rfl rP (by decide +kernel) ⟨rfl,rfl,rfl,rfl,rfl,by decide +kernel⟩ ?hw ?hc
 (case hw=>w_witness2)
 k_fill
 refine DL.pX (l:=PySem.Challenge.rw_struckdeeds_k17_effects_by_worlds) rfl rfl (λw h Y=>PySem.W.kIn_of Y) ?F
 case F=>
   intro w mg fa h KX G mi;refine' DL.mR KX G mi ?b0 ?b1 ?b2 ?b3 ?b4 ?b5 ?b6 ?b7 ?b8 ?b9 ?tm ?tq ?tu ?tw ?tz ?t_ ?t5 ?t7 ?t8 ?t9 ?oh ?oi ?tD ?tE ?tF ?tG ?tH ?tI ?tJ ?gy ?gz ?e_ ?fb ?bg ?g_ ?fe ?dn ?h_ ?de ?ia ?ib ?dq;all_goals (first | (refine' DL.iL ?fa ?fl ?fc ?fk;(case fa=>k_is);(case fl=>k_is);(case fc=>k_is);(case fk=>k_is)) | skip)
   (case gy=>k_is)
   (case gz=>k_is)
   (case e_=>k_is)
   (case fb=>k_is)
   (case bg=>k_is)
   (case g_=>k_is)
   (case fe=>k_is)
   (case dn=>k_is)
   (case h_=>k_is)
   (case de=>k_is)
   (case ia=>k_is)
   (case ib=>k_is)
   (case dq=>k_is)
#print axioms PySem.Challenge.cw_struckdeeds_k17_effects_by_worlds_holds
