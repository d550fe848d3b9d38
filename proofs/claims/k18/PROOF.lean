import PyProof.Rows.All
import Wide.All
import OpenK.AllK
import Wide.FinOn
import Lean
import PyProof.EqAt
import PyProof.EqKinds
import PyProof.TupleCall
import PyProof.ListRange
import PyProof.TupleOfSeq
import PyProof.WalksS
import PyProof.CollectWalk
import KE.KRevIter
import PyProof.P3In
import PyProof.SumAnyB
import PyProof.NeKinds
import KE.KEqDict
import PyProof.RulesAssignMore
import PyProof.SetRoads
import PyProof.Rows.SetFrom
import KE.KDictOf
import PySem.Challenge.RW_struckdeeds_k18_effects_put_together
set_option Elab.async false
set_option linter.all false
set_option maxRecDepth 100000
set_option compiler.extract_closed false
set_option maxHeartbeats 4000000
open PySem.Str renaming ofString->a0Q
open PySem.Value renaming ref->a0X,none->a5Z,str->b3Q
open PySem.PyData renaming str->a0Z,depth->a1J,depthAll->a2V,eqv->a5Q,int->b1X,canLayAll0->b1Z,tuple->b2V
open List renaming length_take->a0J,getElem_mem->a0K,range->a0V,mem_cons_self->a1Q,append_nil->a1W,lookup_cons->a1V,take_length->a2Z,flatMap_cons->a2W,getElem?_eq_none->a3X,take_add_one->a3V,filter_sublist->a4Q,zip_cons_cons->a4V,filter_cons->a6Q,any_eq_true->a6X,map_nil->a6W,sum_cons->a7Q,foldl_append->a7X,map_id->a8Q,filterMap_cons->a8X,find?_cons->a8W,any_cons->a8V,ext_getElem?->a9Z,getElem?_set_ne->a9W,flatMap_append->b0X,replicate->b1J,pairwise_map->b1W,length_drop->b2J,getElem_map->b2K,all_eq_true->b2W
open Bool renaming and_eq_true->a0W,eq_iff_iff->a1K,not_eq_true'->b1V,true_and->b2Z
open Sum renaming inr->a1X
open PySem.W renaming kia_one->a1Z,mg_none_of->a2X,boot_heap->a2J,kHook->a3Z,nsIn->a4J,fnOf->a5K,topRun->a7Z,keepIn->a7J,boot_drawn->b0Q,codeIn->b0Z,boot_toks->b0V
open Nat renaming add_le_add_left->a2Q,le_succ->b0W,lt_trichotomy->b2Q
open PySem renaming mem_of_lookup->a2K
open PySem.F renaming args_tuple_add_2->a3Q,entry_tuple_add->a3J,slot_tuple_add->a3K
open Option renaming some->a3W,isSome_map->a5X,none->b1K
open Int renaming emod_nonneg->a4X,emod_lt_of_pos->a6J,toNat_natCast->b2X
open PySem.NameKind renaming free->a4Z
open PyProof.Rows renaming slot_tuple_getitem->a4K
open PySem.Obj renaming mapSeq->a4W
open True renaming intro->a5J
open Array renaming length_toList->a5W,getElem?_toList->a9J,getD_eq_getD_getElem?->a9V
open List.Pairwise renaming nil->a5V
open PySem.Builtin.Slice renaming slicePlaces->a6Z,sliceAdjust->a9K
open PySem.Builtin.Tuple renaming tupleExact->a6K
open PySem.Txt renaming slice->a6V
open PySem.W.OpenRow renaming toRowW->a7K
open PySem.Builtin.Str renaming occurrences->a7W
open ForInStep renaming yield->a7V
open False renaming elim->a8Z
open PySem.Spec renaming ltCps->a8J
open Ne renaming symm->a8K
open PySem.W.RowW renaming records->a9Q
open PySem.W.OpenLaw renaming row->a9X
open PySem.W.Hook renaming val->b0J,obs->b0K
open PySem.Calls renaming call_function_entry->b1Q
open PySem renaming wpAny_bind->zZ,wpAny_pure->zY,wpAny_newObj_type->xN
open List renaming length_map->zX,getElem?_eq_getElem->zV,mem_map->zL,size_toArray->zJ,map_cons->zI,getElem?_map->zF,map_map->zD,mem_append_right->zB,mem_append_left->zA,length_append->yY,mem_cons->yX,mem_append->yW,mem_cons_of_mem->yV,getD_eq_getElem?_getD->yU,getElem?_eq_some_iff->yT,length_cons->yR,getElem?_append_left->yQ,mem_of_getElem?->yN,map_congr_left->yM,mem_filter->yL,length_filter_le->yJ,getElem?_range->yA,length_range->xZ,not_mem_nil->xX,nodup_cons->xW,filter_map->xV,map_append->xJ
open PySem.Heap renaming get?_push_of_some->zW,lt_size->zM,get?_push_size->yZ
open Nat renaming le_refl->zR,lt_of_le_of_lt->zQ,lt_of_lt_of_le->zP,le_trans->zN,ne_of_lt->zC,lt_irrefl->yF,zero_le->xU,le_of_lt->xT
open PySem.SeqAt renaming shaped->zH,canLay_of_shaped->zG
open PySem.Builtin.Int renaming intBits->xL
open PyProof.Rows renaming sortedS->xH
abbrev sT (n:Nat):PySem.Stmt:=PySem.Challenge.pw_struckdeeds_k18_effects_put_together.main.body.getD n (.Pass ⟨0,0,0,0⟩)
abbrev Frg:=PySem.W.Frag
theorem nft:¬(false=true):=Bool.false_ne_true
namespace L2
open PySem PySem.Spec PyProof.Rows
abbrev Key:=Sum Int Str
def JJ:Key->Value->Bool
 | .inl k,v=>Value.isInt k v
 | .inr x,v=>Value.isStrOf x v
def i4 (w:World):Key->Int
 | .inl k=>hashInt k
 | .inr x=>hashStr w x
theorem AX:∀{k:Key}{v:Value},JJ k v=true->(∃i t,k=Sum.inl i/\v=Value.int i t)\/(∃x t,k=a1X x/\v=b3Q x t)
 | .inl i,v,h=>by obtain⟨t,e⟩:=Value.isInt_shape (k:=i) (v:=v) h;exact .inl ⟨i,t,rfl,e⟩
 | .inr x,v,h=>by obtain⟨t,e⟩:=Value.isStrOf_shape (x:=x) (v:=v) h;exact .inr ⟨x,t,rfl,e⟩
theorem TV (i:Int) (t:Tok):JJ (.inl i) (.int i t)=true:=by simp[JJ,Value.isInt]
theorem TX (x:Str) (t:Tok):JJ (.inr x) (.str x t)=true:=by simp[JJ,Value.isStrOf]
theorem bE (a b:Int):decide ((Sum.inl a:Key)=Sum.inl b)=(a==b):=by
 by_cases e:a=b;. subst e;simp
 . have h:¬(Sum.inl a:Key)=Sum.inl b:=λq=>e (Sum.inl.inj q);rw[decide_eq_false h];exact(beq_eq_false_iff_ne.mpr e).symm
theorem bF (a b:Str):decide ((a1X a:Key)=a1X b)=decide (a=b):=by
 by_cases e:a=b;. subst e;simp
 . have h:¬(a1X a:Key)=a1X b:=λq=>e (Sum.inr.inj q);rw[decide_eq_false h,decide_eq_false e]
theorem bG (a:Int) (b:Str):decide ((Sum.inl a:Key)=a1X b)=false:=decide_eq_false (λq=>nomatch q)
theorem bH (a:Str) (b:Int):decide ((a1X a:Key)=Sum.inl b)=false:=decide_eq_false (λq=>nomatch q)
def AY (prog:Program) (w:World):PySem.KeyKind prog w Key where
 is:=JJ
 hash:=i4 w
 inj:=λv a b ha hb=>by
   rcases AX ha with ⟨i,t,rfl,rfl⟩ | ⟨x,t,rfl,rfl⟩
   . rcases AX hb with ⟨j,u,rfl,e⟩ | ⟨y,u,rfl,e⟩
     . injection e with e1 _;rw[e1]
     . exact nomatch e
   . rcases AX hb with ⟨j,u,rfl,e⟩ | ⟨y,u,rfl,e⟩
     . exact nomatch e
     . injection e with e1 _;rw[e1]
 byValue:=λk v h=>by rcases AX h with ⟨i,t,rfl,rfl⟩ | ⟨x,t,rfl,rfl⟩ <;> rfl
 pyHash:=λhv h=>by
   rcases AX hv with ⟨i,t,rfl,rfl⟩ | ⟨x,t,rfl,rfl⟩
   . exact wpAny_pyHash_int h
   . exact wpAny_pyHash_str h
 eqBool:=λhu hv h=>by
   rcases AX hu with ⟨i,t,rfl,rfl⟩ | ⟨x,t,rfl,rfl⟩
   . rcases AX hv with ⟨j,u,rfl,rfl⟩ | ⟨y,u,rfl,rfl⟩
     . rw[bE] at h;exact wpAny_eqBool_int h
     . rw[bG] at h;exact SeqAt.EqAt.int_str i t y u _ _ _ _ h
   . rcases AX hv with ⟨j,u,rfl,rfl⟩ | ⟨y,u,rfl,rfl⟩
     . rw[bH] at h;exact SeqAt.EqAt.str_int x t j u _ _ _ _ h
     . rw[bF] at h;exact wpAny_eqBool_str h
 «strs»:=λk x t v h=>by
   rcases AX h with ⟨i,u,rfl,e⟩ | ⟨y,u,rfl,e⟩
   . exact nomatch e
   . injection e with e1 _;subst e1;cases v <;> rfl
theorem P8 (prog:Program) (w:World) (i:Int) (t:Tok):(AY prog w).is (.inl i) (.int i t)=true:=TV i t
theorem P9 (prog:Program) (w:World) (x:Str) (t:Tok):(AY prog w).is (.inr x) (.str x t)=true:=TX x t
inductive V where
 | non | bl (b:Bool) | int (i:Int) | str (x:Str) | byt (b:Array UInt8) | flt (b:UInt64) | ref (a:Addr) | ty (n:String)
 deriving DecidableEq
def RelV:V->Value->Prop
 | .non,u=>u=a5Z
 | .bl b,u=>u=Value.bool b
 | .int i,u=>∃t,u=Value.int i t
 | .str x,u=>∃t,u=b3Q x t
 | .byt b,u=>∃t,u=Value.bytes b t
 | .flt b,u=>∃t,u=Value.float b t
 | .ref a,u=>u=a0X a
 | .ty n,u=>u=Value.type n
abbrev Vals:List V->List Value->Prop:=Paired RelV
theorem Vals.length {xs:List V}{us:List Value}(r:Vals xs us):xs.length=us.length:=Paired.length r
theorem Vals.get:∀{xs:List V}{us:List Value}{i:Nat}{x:V},Vals xs us->xs[i]?=some x->∃u,us[i]?=some u/\RelV x u
 | _,_,_,_,.nil,e=>by simp at e
 | _,_,0,_,.cons r _,e=>by simp at e;subst e;exact⟨_,rfl,r⟩
 | _,_,i+1,x,.cons _ t,e=>by obtain⟨u,h1,h2⟩:=Vals.get (i:=i) (x:=x) t (by simpa using e);exact⟨u,by simpa using h1,h2⟩
theorem Vals.append:∀{xs ys:List V}{us ws:List Value},Vals xs us->Vals ys ws->Vals (xs++ys) (us++ws)
 | _,_,_,_,.nil,s=>s
 | _,_,_,_,.cons r t,s=>.cons r (Vals.append t s)
theorem Vals.take:∀{xs:List V}{us:List Value}(n:Nat),Vals xs us->Vals (xs.take n) (us.take n)
 | _,_,0,_=>.nil
 | _,_,_+1,.nil=>.nil
 | _,_,n+1,.cons r t=>.cons r (Vals.take n t)
theorem Vals.drop:∀{xs:List V}{us:List Value}(n:Nat),Vals xs us->Vals (xs.drop n) (us.drop n)
 | _,_,0,r=>r
 | _,_,_+1,.nil=>.nil
 | _,_,n+1,.cons _ t=>Vals.drop n t
def RelO:Option V->Option Value->Prop
 | some v,some u=>RelV v u
 | none,none=>True
 | _,_=>False
def KV {κ:Type}:List (κ×V)->List (κ×Value)->Prop:=Paired λ(p:κ×V) (q:κ×Value)=>p.1=q.1/\RelV p.2 q.2
def kV:Key->V
 | .inl i=>.int i
 | .inr x=>.str x
inductive HO where
 | lst (xs:List V)
 | tup (xs:List V)
 | dK (kvs:List (Key×V)) | dT (kvs:List (List Key×V))
 | set (S:Int->Bool) (n:Nat)
 | ins (C dx:Addr) (fs:List (Str×V))
 | own (x:Addr)
 | xd (fs:List (Str×V))
 | met (f x:Addr)
 | rng (lo hi:Int)
 | frz (o:Obj) (u:HO)
 | tbl (ps:Array Value)
 | ext (φ:Heap->Prop)
abbrev Hp:=Addr->Option HO
def upd (H:Hp) (a:Addr) (o:HO):Hp:=λb=>if b=a then some o else H b
theorem AM {H:Hp}{a:Addr}{o:HO}:upd H a o a=some o:=by unfold upd;rw[if_pos rfl]
theorem AR {H:Hp}{a b:Addr}{o:HO}(h:b≠a):upd H a o b=H b:=by unfold upd;rw[if_neg h]
theorem fD {H:Hp}{a b:Addr}{o u:HO}(h:H a=some o) (h':H b=some u) (d:o≠u):a≠b:=by intro e;subst e;rw[h] at h';exact d (Option.some.inj h')
theorem BH {H:Hp}{a b:Addr}{o:HO}(h:H a=some o) (h':H b=none):a≠b:=by intro e;subst e;rw[h] at h';cases h'
section
variable (P:Program) (w:World)
def ObjOk (H:Hp) (h:Heap) (a:Addr):HO->Prop
 | .lst xs=>xs.length<=sizeLine/\∃(ab:List Value) (n:Nat),Vals xs ab/\h.get? a=some { cls:=.type "list", data:=.seq ab.toArray n }
 | .tup xs=>xs.length<=sizeLine/\∃ab:List Value,Vals xs ab/\IsTup h a ab.toArray
 | .dK kvs=>kvs.length<=sizeLine/\(a==sysModules)=false/\∃vs,KV kvs vs/\h.DictOf (AY P w) a vs
 | .dT kvs=>kvs.length<=sizeLine/\(a==sysModules)=false/\∃xs:List (List Key×Addr×Value),
     Paired (λ(p:List Key×V) (q:List Key×Addr×Value)=>p.1=q.1/\H q.2.1=some (.tup (p.1.map kV))/\RelV p.2 q.2.2) kvs xs /\
     ∃o es ep,h.get? a=some o/\o.ExactDict/\o.data = .dict es ep/\es.toList=xs.map (entryOfKey (tupleKind (AY P w)))/\(xs.map (·.1)).Nodup
 | .set S n=>h.SetOf (intKind P w) a S n
 | .ins C dx fs=>H dx=some (.own a)/\fs.length<=1000/\dx≠a/\h.get? a=some (PySem.W.instObj C dx) /\∃mA,h.Ns1 dx mA/\(∀f,RelO (fs.lookup f) (mA f))/\PySem.Within mA (fs.map (·.1))
 | .own _=>∃o,h.get? a=some o
 | .xd fs=>∃mA,h.Ns1 a mA/\∀f,RelO (fs.lookup f) (mA f)
 | .rng lo hi=>∃t u v,h.get? a=some { cls:=.type "range", data:=.fields #[.int lo t,.int hi u,.int 1 v] }
 | .frz o u=>h.get? a=some o/\ObjOk H h a u
 | .tbl ps=>h.get? a=some { cls:=.none,data:=.fields ps }
 | .met f x=>h.get? a=some (PySem.W.methodObj (.ref f) (.ref x))
 | .ext φ=>φ h/\(∃o,h.get? a=some o)/\∀h1 h2:Heap,φ h1->(∀o,h1.get? a=some o->h2.get? a=some o)->φ h2
def HOk (H:Hp) (h:Heap):Prop:=∀a o,H a=some o->ObjOk P w H h a o
end
section
variable {P:Program}{w:World}{H H':Hp}{h h':Heap}{a:Addr}{o:HO}
theorem ObjOk.lt (x:ObjOk P w H h a o):a < h.objs.size:=by
 cases o with
 | lst xs=>obtain⟨_,_,_,_,e⟩:=x;exact zM e
 | tup xs=>obtain⟨_,_,_,p⟩:=x;exact p.lt
 | dK kvs=>obtain⟨_,_,_,_,o,_,_,e,_⟩:=x;exact zM e
 | dT kvs=>obtain⟨_,_,_,_,o,_,_,e,_⟩:=x;exact zM e
 | set S n=>obtain⟨o,_,_,_,e,_⟩:=x;exact zM e
 | ins C dx fs=>obtain⟨_,_,_,e,_⟩:=x;exact zM e
 | own y=>obtain⟨_,e⟩:=x;exact zM e
 | xd fs=>obtain⟨_,⟨_,_,_,e,_⟩,_⟩:=x;exact zM e
 | rng lo hi=>obtain⟨_,_,_,e⟩:=x;exact zM e
 | frz ob u=>obtain⟨e,_⟩:=x;exact zM e
 | tbl ps=>exact zM (show h.get? a=some _ from x)
 | met f y=>exact zM (show h.get? a=some _ from x)
 | ext φ=>obtain⟨_,⟨_,e⟩,_⟩:=x;exact zM e
theorem Paired.mapP {α β:Type}{F G:α->β->Prop}:∀{l₁:List α}{l₂:List β},Paired F l₁ l₂->(∀a b,F a b->G a b)->Paired G l₁ l₂
 | _,_,.nil,_=>.nil
 | _,_,.cons r t,f=>.cons (f _ _ r) (Paired.mapP t f)
theorem ObjOk.stay (x:ObjOk P w H h a o) (k:∀b u,(b=a\/H b=some (.own a))->h.get? b=some u->h'.get? b=some u) (ho:∀b,H b=some (.own a)->H' b=some (.own a)) (ht:∀b xs,H b=some (.tup xs)->H' b=some (.tup xs)):ObjOk P w H' h' a o:=by
 induction o with
 | lst xs=>obtain⟨z,ab,n,r,e⟩:=x;exact⟨z,ab,n,r,k _ _ (.inl rfl) e⟩
 | tup xs=>obtain⟨z,ab,r,ob,e,c⟩:=x;exact⟨z,ab,r,ob,k _ _ (.inl rfl) e,c⟩
 | dK kvs=>obtain⟨z,y,vs,r,ob,es,ep,e,c⟩:=x;exact⟨z,y,vs,r,ob,es,ep,k _ _ (.inl rfl) e,c⟩
 | dT kvs=> obtain⟨z,y,xs,r,ob,es,ep,e,c⟩:=x;exact⟨z,y,xs,Paired.mapP r λp q z=>⟨z.1,ht _ _ z.2.1,z.2.2⟩,ob,es,ep,k _ _ (.inl rfl) e,c⟩
 | set S n=>obtain⟨ob,es,ep,t,e,c⟩:=x;exact⟨ob,es,ep,t,k _ _ (.inl rfl) e,c⟩
 | ins C dx fs=> obtain⟨d,z,ne,e,mA,⟨od,es,ep,e2,c⟩,r⟩:=x;exact⟨ho _ d,z,ne,k _ _ (.inl rfl) e,mA,⟨od,es,ep,k _ _ (.inr d) e2,c⟩,r⟩
 | own y=>obtain⟨ob,e⟩:=x;exact⟨ob,k _ _ (.inl rfl) e⟩
 | xd fs=>obtain⟨mA,⟨od,es,ep,e,c⟩,r⟩:=x;exact⟨mA,⟨od,es,ep,k _ _ (.inl rfl) e,c⟩,r⟩
 | rng lo hi=>obtain⟨t,u,v,e⟩:=x;exact⟨t,u,v,k _ _ (.inl rfl) e⟩
 | frz ob u ih=>obtain⟨e,q⟩:=x;exact⟨k _ _ (.inl rfl) e,ih q⟩
 | tbl ps=> have e:h.get? a=some { cls:=.none,data:=.fields ps }:=x;show h'.get? a=some { cls:=.none,data:=.fields ps };exact k a _ (.inl rfl) e
 | met f y=> have e:h.get? a=some (PySem.W.methodObj (.ref f) (.ref y)):=x;show h'.get? a=some (PySem.W.methodObj (.ref f) (.ref y));exact k a _ (.inl rfl) e
 | ext φ=>obtain⟨p,⟨o,e⟩,st⟩:=x;exact⟨st _ _ p λo q=>k _ _ (.inl rfl) q,⟨o,k _ _ (.inl rfl) e⟩,st⟩
theorem HOk.lt (x:HOk P w H h) (e:H a=some o):a < h.objs.size:=(x a o e).lt
theorem HOk.fresh (x:HOk P w H h) (e:h.objs.size<=a):H a=none:=by
 cases q:H a with
 | none=>rfl
 | some u=>exact absurd (zP (x.lt q) e) (yF _)
theorem HOk.kept (x:HOk P w H h) (k:∀b u,h.get? b=some u->h'.get? b=some u):HOk P w H h':=λa o e=>
 (x a o e).stay (λb u _ q=>k b u q) (λ_ q=>q) λ_ _ q=>q
theorem HOk.laid (x:HOk P w H h) (k:∀b u,h.get? b=some u->h'.get? b=some u) (hp:h.objs.size<=a) (new:ObjOk P w (upd H a o) h' a o):HOk P w (upd H a o) h':=λb u e=>by
 have hn:=x.fresh hp;by_cases hb:b=a;. subst hb;rw[AM] at e;cases e;exact new
 . rw[AR hb] at e;exact(x b u e).stay (λc v _ q=>k c v q) (λc q=>by rw[AR (BH q hn)];exact q) λc xs q=>by rw[AR (BH q hn)];exact q
end
def Rd (H:Hp) (a:Addr) (u:HO):Prop:=H a=some u\/∃o,H a=some (.frz o u)
theorem Rd.ok {P:Program}{w:World}{H:Hp}{h:Heap}{a:Addr}{u:HO}(r:Rd H a u) (x:HOk P w H h):ObjOk P w H h a u:=by
 rcases r with r | ⟨o,r⟩
 . exact x a u r
 . obtain⟨_,q⟩:=x a _ r;exact q
def Mut:Option HO->Prop
 | some (.lst _)=>True
 | some (.dK _)=>True
 | some (.dT _)=>True
 | some (.set _ _)=>True
 | some (.ins _ _ _)=>True
 | some (.ext _)=>True
 | _=>False
section
variable {P:Program}{w:World}{H:Hp}{h h':Heap}{x e:Addr}{o':HO}
theorem HOk.write (ok:HOk P w H h) (mu:Mut (H x)) (he:e=x\/H e=some (.own x)) (k:∀b u,b≠e->h.get? b=some u->h'.get? b=some u) (iR:∃u,h'.get? e=some u) (new:ObjOk P w (upd H x o') h' x o'):HOk P w (upd H x o') h':=λb u q=>by
 have iZ:∀c y,H c=some (.own y)->c≠x:=λc y r z=>by subst z;rw[r] at mu;exact mu
 have kq:∀c xs,H c=some (.tup xs)->c≠x:=λc xs r z=>by subst z;rw[r] at mu;exact mu
 by_cases hb:b=x;. subst hb;rw[AM] at q;cases q;exact new
 . rw[AR hb] at q;by_cases hbe:b=e
   . have q':H b=some (.own x):=by
       rcases he with z | z;. exact absurd (hbe.trans z) hb
       . rw[hbe];exact z
     rw[q] at q';cases q';obtain⟨v,hv⟩:=iR;exact⟨v,by rw[hbe];exact hv⟩
   . refine(ok b u q).stay (λc v hc r=>k c v ?_ r) (λc r=>by rw[AR (iZ c b r)];exact r) λc xs r=>by rw[AR (kq c xs r)];exact r
     rcases hc with rfl | hc;. exact hbe
     . rintro rfl;rcases he with z | z;. exact iZ c b hc z
       . rw[hc] at z;cases z;exact hb rfl
end
structure Un (fs ex:List Addr) (H H':Hp) (h h':Heap):Prop where
 keep:∀b o,h.get? b=some o->H b=none->b∉fs->b∉ex->h'.get? b=some o
 slot:∀b o,h.get? b=some o->H b=none->b∈fs->b∉ex->∃sl,h'.get? b=some { o with slots:=sl }
 free:∀b o,h.get? b=some o->H b=none->b∉ex->H' b=none
 there:∀b o,h.get? b=some o->b∉ex->∃o',h'.get? b=some o'
 tups:∀b xs,H b=some (.tup xs)->H' b=some (.tup xs)
 frzs:∀b o u,H b=some (.frz o u)->H' b=some (.frz o u)
 tbls:∀b ps,H b=some (.tbl ps)->∃more,H' b=some (.tbl (ps++more))
section
variable {fs mK ex jN:List Addr}{H H1 H2:Hp}{h h1 h2 h':Heap}{a x e:Addr}{o:HO}
theorem Un.any (u:Un fs ex H H1 h h1) {b:Addr}{ob:Obj}(q:h.get? b=some ob) (n:H b=none) (hx:b∉ex):∃sl,h1.get? b=some { ob with slots:=sl }:=by
 by_cases hb:b∈fs;. exact u.slot b ob q n hb hx
 . exact⟨ob.slots,u.keep b ob q n hb hx⟩
theorem Un.kept (k:∀b u,h.get? b=some u->h'.get? b=some u):Un fs ex H H h h':=⟨λb ob q _ _ _=>k b ob q,λb ob q _ _ _=>⟨ob.slots,k b ob q⟩,λ_ _ _ n _=>n,λb ob q _=>⟨ob,k b ob q⟩,λ_ _ q=>q,λ_ _ _ q=>q,λ_ ps q=>⟨#[],by rw[q];simp⟩⟩
theorem Un.refl:Un fs ex H H h h:=Un.kept λ_ _ q=>q
theorem Un.laid (k:∀b u,h.get? b=some u->h'.get? b=some u) (hp:h.objs.size<=a) (hn:H a=none):Un fs ex H (upd H a o) h h' where
 keep:=λb u q _ _ _=>k b u q
 slot:=λb u q _ _ _=>⟨u.slots,k b u q⟩
 free:=λb u q n _=>by rw[AR (zC (zP (zM q) hp))];exact n
 there:=λb u q _=>⟨u,k b u q⟩
 tups:=λb xs q=>by rw[AR (BH q hn)];exact q
 frzs:=λb u xs q=>by rw[AR (BH q hn)];exact q
 tbls:=λb ps q=>⟨#[],by rw[AR (BH q hn),q];simp⟩
theorem Un.write (mu:Mut (H x)) (he:e=x\/H e=some (.own x)) (k:∀b u,b≠e->h.get? b=some u->h'.get? b=some u) (iR:∃u,h'.get? e=some u):Un fs ex H (upd H x o) h h':=by
 have hx:∀b,H b=none->b≠x:=λb n z=>by subst z;rw[n] at mu;exact mu
 have hb:∀b,H b=none->b≠e:=λb n z=>by
   subst z;rcases he with r | r;. exact hx b n r
   . rw[n] at r;cases r
 have hm:∀b u,H b=some u->¬Mut (some u)->b≠x:=λb u q nm z=>by subst z;rw[q] at mu;exact nm mu
 refine⟨λb u q n _ _=>k b u (hb b n) q,λb u q n _ _=>⟨u.slots,k b u (hb b n) q⟩,λb u q n _=>by rw[AR (hx b n)];exact n,λb u q _=>?_,
   λb xs q=>by rw[AR (hm b _ q λz=>z)];exact q,λb u xs q=>by rw[AR (hm b _ q λz=>z)];exact q,λb ps q=>⟨#[],by rw[AR (hm b _ q λz=>z),q];simp⟩⟩;by_cases hbe:b=e
 . subst hbe;exact iR
 . exact⟨u,k b u hbe q⟩
end
def trk (h:Heap) (H:Hp):List Addr:=(a0V h.objs.size).filter λa=>(H a).isSome
def NP (h:Heap) (H:Hp):Heap:=PySem.W.hideAll h (trk h H)
theorem TY (h:Heap) (H:Hp):(NP h H).objs.size=h.objs.size:=PySem.W.hideAll_size _ _
theorem V8 {h:Heap}{H:Hp}{b:Addr}{o:Obj}(e:h.get? b=some o) (n:H b=none):(NP h H).get? b=some o:=
 PySem.W.hideAll_get _ e λhm=>by have q:(H b).isSome=true:=(yL.mp hm).2;rw[n] at q;simp at q
theorem Y4 {h:Heap}{H:Hp}{b:Addr}{o:Obj}(e:(NP h H).get? b=some o):h.get? b=some o/\H b=none:=by
 have e':h.get? b=some o:=PySem.W.of_hideAll (trk h H) e;refine⟨e',?_⟩;cases q:H b with
 | none=>rfl
 | some x=> have hm:b∈trk h H:=yL.mpr ⟨List.mem_range.mpr (zM e'),by simp[q]⟩;have z:(NP h H).get? b=none:=PySem.W.hideAll_none (trk h H) hm;rw[z] at e;cases e
structure Mod (K:Frg) (mg:Str->Option Value) (base:Heap):Prop where
 kin:K.In base
 glob:base.Ns mainGlobals mg
 blt:∃mb,base.Ns builtinsNs mb/\∀x:Str,x ≠ "__name__" -> mb x=bootBuiltins x
 nolimit:base.NoLimit
structure Cx where
 prog:Program
 w:World
 K:Frg
 mg:Str->Option Value
 base:Heap
 A:Around
 N:List Str
 s₀:Shared
 H₀:Hp
 env:Env
 outer:List Env
 stack:List Env
 ex:List Addr
 fn:Str->Bool
 calm:Bool
 pn:List (Addr×Obj)
 xe:Value->Shared->Prop
def frs (l:List Env):List Addr:=l.filterMap (·.frame)
abbrev Cx.fs (X:Cx):List Addr:=frs X.outer
def Vis (sc:Scope) (x:Str):Prop:=sc.names.lookup x=some .local\/sc.names.lookup x=some .cell\/sc.names.lookup x=some .free
def Loc (sc:Scope) (x:Str):Prop:=sc.names.lookup x=some .local\/sc.names.lookup x=some .cell
def i5 (env:Env) (h:Heap) (m:Str->Option Value) (x:Str) (u:Value):Prop:=(env.kindOf x=some .local/\m x=some u)\/((env.kindOf x=some .cell\/env.kindOf x=some .free)/\∃c,env.cells.lookup x=some c/\h.IsCell c (some u))
structure Cx.Ok (X:Cx):Prop where
 mod:Mod X.K X.mg X.base
 kind:X.env.scope.kind = .function
 glob:X.env.globals=mainGlobals
 blt:X.env.builtins=builtinsNs
 above:X.s₀.heap.objs.size<=X.env.locals
 inj:∀x y c,X.env.cells.lookup x=some c->X.env.cells.lookup y=some c->x=y
 has:∀x,(X.env.kindOf x=some .cell\/X.env.kindOf x=some .free)->∃c,X.env.cells.lookup x=some c
 cab:∀x c,X.fn x=true->X.env.cells.lookup x=some c->X.s₀.heap.objs.size<=c
 hd:X.calm=true->X.A.handled=none
 frames:X.A.frames=some X.stack
 stk:X.stack=X.outer\/(X.stack=X.env::X.outer/\X.env.frame=some X.env.locals)
 exf:∀b∈X.ex,b≠X.env.locals/\∀x c,X.env.cells.lookup x=some c->c≠b
 bs:∀b o,X.base.get? b=some o->X.s₀.heap.get? b=some o/\X.H₀ b=none
 bsz:X.base.objs.size<=X.s₀.heap.objs.size
 noex:∀b o,X.base.get? b=some o->b∉X.ex
 exfs:∀b∈X.ex,b∉X.fs
 funs:X.s₀.heap.FunFrames X.base X.outer
 frf:∀b∈X.fs,X.H₀ b=none
structure Inv (X:Cx) (pins:List (Addr×Obj)) (σ:List (Option V)) (H:Hp) (s:Shared):Prop where
 ok:X.Ok
 os:s.os=X.s₀.os
 bare:AllBare s.gens
 base:Un X.fs X.ex X.H₀ H X.s₀.heap s.heap
 loc:∃m,s.heap.Ns X.env.locals m/\∀(i:Nat) (x:Str) (v:V),X.N[i]?=some x->σ[i]?=some (some v)->Vis X.env.scope x->∃u,RelV v u/\i5 X.env s.heap m x u
 cell:∀x c,X.env.cells.lookup x=some c->∃v,s.heap.IsCell c v
 free:H X.env.locals=none
 freeC:∀x c,X.env.cells.lookup x=some c->H c=none
 pin:∀p∈X.pn++pins,s.heap.get? p.1=some p.2/\H p.1=none/\p.1≠X.env.locals/\p.1∉X.fs/\∀v,p.2.data≠.cell v
 hok:HOk X.prog X.w H s.heap
 len:σ.length=X.N.length
section
variable {X:Cx}{pins:List (Addr×Obj)}{σ:List (Option V)}{H H':Hp}{s:Shared}{h':Heap}
theorem Cx.Ok.nofr (ok:X.Ok) {b:Addr}{o:Obj}(e:X.base.get? b=some o):b∉X.fs:=λhb=>by have:=(ok.funs.mem hb).1;rw[e] at this;cases this
theorem Inv.bs (I:Inv X pins σ H s):∀b o,X.base.get? b=some o->s.heap.get? b=some o/\H b=none:=λb o e=>
 ⟨I.base.keep b o (I.ok.bs b o e).1 (I.ok.bs b o e).2 (I.ok.nofr e) (I.ok.noex b o e),I.base.free b o (I.ok.bs b o e).1 (I.ok.bs b o e).2 (I.ok.noex b o e)⟩
theorem Inv.bk (I:Inv X pins σ H s):∀b o,X.base.get? b=some o->s.heap.get? b=some o:=λb o e=>(I.bs b o e).1
theorem Inv.mod (I:Inv X pins σ H s):Mod X.K X.mg X.base:=I.ok.mod
theorem Inv.kIn (I:Inv X pins σ H s):X.K.In s.heap:=I.ok.mod.kin.keeps I.bk
theorem Inv.lt (I:Inv X pins σ H s):X.env.locals < s.heap.objs.size:=let ⟨_,hn,_⟩:=I.loc;hn.lt
theorem Inv.sz (I:Inv X pins σ H s):X.s₀.heap.objs.size<=s.heap.objs.size:=zN I.ok.above (xT I.lt)
theorem Inv.nofs (I:Inv X pins σ H s) {a:Addr}(h:s.heap.objs.size<=a):a∉X.fs:=λhb=>by obtain⟨_,o,ho,_⟩:=I.ok.funs.mem hb;exact absurd (zP (zM ho) (zN I.sz h)) (yF _)
theorem Inv.cne (I:Inv X pins σ H s):∀x c,X.env.cells.lookup x=some c->c≠X.env.locals:=λx c e z=>by obtain⟨v,o,ho,hd⟩:=I.cell x c e;obtain⟨m,⟨o',es,ep,cn,il,_⟩,_⟩:=I.loc;rw[z,cn] at ho;cases ho;rw[il] at hd;cases hd
theorem Inv.funs (I:Inv X pins σ H s):s.heap.FunFrames X.base X.outer:=by
 have all:∀(l:List Env),(∀b∈frs l,b∈X.fs)->X.s₀.heap.FunFrames X.base l->s.heap.FunFrames X.base l:=by
   intro l;induction l with
   | nil=>intro _ _;trivial
   | cons env r ih=> intro hs hl;obtain⟨hk,⟨L,o,hf,hn,ho,hd⟩,hr⟩:=hl;have hL:L∈X.fs:=hs L (by unfold frs;rw[a8X,hf];exact a1Q);obtain⟨sl,e⟩:=I.base.slot L o ho (I.ok.frf L hL) hL λz=>I.ok.exfs L z hL;exact⟨hk,⟨L,_,hf,hn,e,hd⟩,ih (λb hb=>hs b (by unfold frs;rw[a8X,hf];exact yV _ hb)) hr⟩
 exact all X.outer (λ_ hb=>hb) I.ok.funs
theorem Inv.stack (I:Inv X pins σ H s):s.heap.FunFrames X.base X.stack:=by
 rcases I.ok.stk with e | ⟨e,hf⟩
 . rw[e];exact I.funs
 . rw[e];obtain⟨m,hn,_⟩:=I.loc;refine .cons (by rw[I.ok.kind];decide) hf hn ?_ I.funs;exact Heap.get?_none_of_le (zN I.ok.bsz I.ok.above)
theorem Inv.stkSub (I:Inv X pins σ H s):∀b∈frs X.stack,b∈X.env.locals::X.fs:=λb hb=>by
 rcases I.ok.stk with e | ⟨e,hf⟩
 . rw[e] at hb;exact yV _ hb
 . rw[e] at hb;unfold frs at hb;rw[a8X,hf] at hb;exact hb
theorem Inv.stkFree (I:Inv X pins σ H s):∀b∈frs X.stack,H b=none:=λb hb=>by
 rcases yX.mp (I.stkSub b hb) with e | hb;. rw[e];exact I.free
 . obtain⟨_,o,ho,_⟩:=I.ok.funs.mem hb;exact I.base.free b o ho (I.ok.frf b hb) λz=>I.ok.exfs b z hb
theorem Inv.step {g':Array GenState}{t':Nat}{d':Drawn}{ch:List Addr}(I:Inv X pins σ H s) (gh:∀b∈ch,(b∈X.ex\/X.s₀.heap.objs.size<=b)/\b≠X.env.locals/\(∀x c,X.env.cells.lookup x=some c->c≠b)/\∀p∈X.pn++pins,p.1≠b) (keep:∀b o,b≠X.env.locals->b∉X.fs->b∉ch->s.heap.get? b=some o->H b=none->h'.get? b=some o) (slot:∀b o,b≠X.env.locals->b∈X.fs->b∉ch->s.heap.get? b=some o->H b=none->∃sl,h'.get? b=some { o with slots:=sl }) (free:∀b o,b∉ch->s.heap.get? b=some o->H b=none->H' b=none) (there:∀b o,b∉ch->s.heap.get? b=some o->∃o',h'.get? b=some o') (tups:∀b xs,H b=some (.tup xs)->H' b=some (.tup xs)) (frzs:∀b o u,H b=some (.frz o u)->H' b=some (.frz o u)) (tbls:∀b ps,H b=some (.tbl ps)->∃more,H' b=some (.tbl (ps++more))) (ns:∀m,s.heap.Ns X.env.locals m->h'.Ns X.env.locals m) (hok:HOk X.prog X.w H' h') (hg:AllBare g') :
   Inv X pins σ H' { s with heap:=h',gens:=g',drawn:=d',toks:=t' }:=by
 have l6:∀b o,X.s₀.heap.get? b=some o->b≠X.env.locals:=λb o e=>zC (zP (zM e) I.ok.above);have jO:∀b o,X.s₀.heap.get? b=some o->b∉X.ex->b∉ch:=λb o e hx hb=>by
   rcases (gh b hb).1 with z | z;. exact hx z
   . exact absurd (zP (zM e) z) (yF _)
 have cellK:∀x c,X.env.cells.lookup x=some c->∀v,s.heap.IsCell c v->h'.IsCell c v:=λx c e v ⟨o,ho,hd⟩=>by
   have ja:c∉ch:=λz=>(gh c z).2.2.1 x c e rfl;by_cases hc:c∈X.fs;. obtain⟨sl,q⟩:=slot c o (I.cne x c e) hc ja ho (I.freeC x c e);exact⟨_,q,hd⟩
   . exact⟨o,keep c o (I.cne x c e) hc ja ho (I.freeC x c e),hd⟩
 refine⟨I.ok,I.os,hg,⟨λb o e n hb hx=>?_,λb o e n hb hx=>?_,λb o e n hx=>?_,λb o e hx=>?_,λb xs e=>tups b xs (I.base.tups b xs e),λb o xs e=>frzs b o xs (I.base.frzs b o xs e),λb ps e=>?_⟩,?_,λx c e=>?_,?_,λx c e=>?_,λp hp=>?_,hok,I.len⟩;. exact keep b o (l6 b o e) hb (jO b o e hx) (I.base.keep b o e n hb hx) (I.base.free b o e n hx)
 . obtain⟨sl,e1⟩:=I.base.slot b o e n hb hx;obtain⟨mL,e2⟩:=slot b _ (l6 b o e) hb (jO b o e hx) e1 (I.base.free b o e n hx);exact⟨mL,e2⟩
 . obtain⟨o',e1⟩:=I.base.there b o e hx;exact free b o' (jO b o e hx) e1 (I.base.free b o e n hx)
 . obtain⟨o',e1⟩:=I.base.there b o e hx;exact there b o' (jO b o e hx) e1
 . obtain⟨m1,e1⟩:=I.base.tbls b ps e;obtain⟨m2,e2⟩:=tbls b _ e1;exact⟨m1++m2,by rw[e2,Array.append_assoc]⟩
 . obtain⟨m,hn,hl⟩:=I.loc;refine⟨m,ns m hn,λi x v e1 e2 e3=>?_⟩;obtain⟨u,r,l⟩:=hl i x v e1 e2 e3;refine⟨u,r,?_⟩;rcases l with l | ⟨k,c,e,z⟩
   . exact .inl l
   . exact .inr ⟨k,c,e,cellK x c e _ z⟩
 . obtain⟨v,z⟩:=I.cell x c e;exact⟨v,cellK x c e v z⟩
 . obtain⟨m,⟨o,_,_,ho,_⟩,_⟩:=I.loc;exact free _ o (λz=>(gh _ z).2.1 rfl) ho I.free
 . obtain⟨v,o,ho,hd⟩:=I.cell x c e;exact free c o (λz=>(gh c z).2.2.1 x c e rfl) ho (I.freeC x c e)
 . obtain⟨e,n,ne,nf,d⟩:=I.pin p hp;have ja:p.1∉ch:=λz=>(gh p.1 z).2.2.2 p hp rfl;exact⟨keep p.1 p.2 ne nf ja e n,free p.1 p.2 ja e n,ne,nf,d⟩
theorem Inv.un {t':Nat}(I:Inv X pins σ H s) (u:Un X.fs [] H H' s.heap h') (hok:HOk X.prog X.w H' h'):Inv X pins σ H' { s with heap:=h',toks:=t' }:=by obtain⟨m,⟨o,es,ep,ho,r⟩,_⟩:=id I.loc;obtain⟨sl,hL⟩:=u.any ho I.free (by simp);exact I.step (g':=s.gens) (d':=s.drawn) (ch:=[]) (λ_ z=>nomatch z) (λb o _ hb _ e n=>u.keep b o e n hb (by simp)) (λb o _ hb _ e n=>u.slot b o e n hb (by simp)) (λb o _ e n=>u.free b o e n (by simp)) (λb o _ e=>u.there b o e (by simp)) u.tups u.frzs u.tbls (λm' hm=>by obtain⟨o',bp,d_,cn,r'⟩:=hm;rw[ho] at cn;cases cn;exact⟨_,bp,d_,hL,r'⟩) hok I.bare
theorem Inv.call {g':Array GenState}{t':Nat}{d':Drawn}{ch:List Addr}(I:Inv X pins σ H s) (u:Un (frs X.stack) ch H H' s.heap h') (hok:HOk X.prog X.w H' h') (hg:AllBare g') (gh:∀b∈ch,(b∈X.ex\/X.s₀.heap.objs.size<=b)/\b≠X.env.locals/\(∀x c,X.env.cells.lookup x=some c->c≠b)/\∀p∈X.pn++pins,p.1≠b) :
   Inv X pins σ H' { s with heap:=h',gens:=g',drawn:=d',toks:=t' }:=by obtain⟨m,⟨o,es,ep,ho,r⟩,_⟩:=id I.loc;obtain⟨sl,hL⟩:=u.any ho I.free λz=>(gh _ z).2.1 rfl;exact I.step (ch:=ch) gh (λb o hL hb hc e n=>u.keep b o e n (λz=>(yX.mp (I.stkSub b z)).elim hL hb) hc) (λb o _ _ hc e n=>u.any e n hc) (λb o hc e n=>u.free b o e n hc) (λb o hc e=>u.there b o e hc) u.tups u.frzs u.tbls (λm' hm=>by obtain⟨o',bp,d_,cn,r'⟩:=hm;rw[ho] at cn;cases cn;exact⟨_,bp,d_,hL,r'⟩) hok hg
theorem Inv.turned {t':Nat}{it:Addr}(I:Inv X pins σ H s) (k:∀b o,b≠it->s.heap.get? b=some o->h'.get? b=some o) (hn:H it=none) (hL:it≠X.env.locals) (h1:it∈X.ex\/X.s₀.heap.objs.size<=it) (h2:∀x c,X.env.cells.lookup x=some c->c≠it) (h3:∀p∈X.pn++pins,p.1≠it):Inv X pins σ H { s with heap:=h',toks:=t' }:=by
 have l7:∀b u,H b=some u->b≠it:=λb u e z=>by rw[z,hn] at e;cases e
 refine I.step (g':=s.gens) (d':=s.drawn) (ch:=[it]) (λb hb=>?_) (λb o _ _ hc e _=>k b o (λz=>hc (by simp[z])) e) (λb o _ _ hc e _=>⟨o.slots,k b o (λz=>hc (by simp[z])) e⟩) (λ_ _ _ _ n=>n)
   (λb o hc e=>⟨o,k b o (λz=>hc (by simp[z])) e⟩) (λ_ _ e=>e) (λ_ _ _ e=>e) (λb ps e=>⟨#[],by rw[e];simp⟩) (λm hm=>?_) (λb u e=>?_) I.bare
 . have e:b=it:=by simpa using hb
   subst e;exact⟨h1,hL,h2,h3⟩
 . obtain⟨o,es,ep,ho,r⟩:=hm;exact⟨o,es,ep,k _ o (a8K hL) ho,r⟩
 . refine(I.hok b u e).stay (λc v hc q=>k c v ?_ q) (λ_ q=>q) λ_ _ q=>q;rcases hc with z | z;. rw[z];exact l7 b u e
   . exact l7 c _ z
theorem Inv.tok (I:Inv X pins σ H s) (t:Nat):Inv X pins σ H { s with toks:=t }:=I.un (h':=s.heap) (t':=t) Un.refl I.hok
theorem Inv.kept {t':Nat}(I:Inv X pins σ H s) (k:∀b u,s.heap.get? b=some u->h'.get? b=some u):Inv X pins σ H { s with heap:=h',toks:=t' }:=I.un (Un.kept k) (I.hok.kept k)
theorem Inv.laid {a:Addr}{o:HO}{t':Nat}(I:Inv X pins σ H s) (k:∀b u,s.heap.get? b=some u->h'.get? b=some u) (hp:s.heap.objs.size<=a) (new:ObjOk X.prog X.w (upd H a o) h' a o) :
   Inv X pins σ (upd H a o) { s with heap:=h',toks:=t' }:=I.un (Un.laid k hp (I.hok.fresh hp)) (I.hok.laid k hp new)
theorem Inv.write {x e:Addr}{o:HO}{t':Nat}(I:Inv X pins σ H s) (mu:Mut (H x)) (he:e=x\/H e=some (.own x)) (k:∀b u,b≠e->s.heap.get? b=some u->h'.get? b=some u) (iR:∃u,h'.get? e=some u) (new:ObjOk X.prog X.w (upd H x o) h' x o):Inv X pins σ (upd H x o) { s with heap:=h',toks:=t' }:=I.un (Un.write mu he k iR) (I.hok.write mu he k iR new)
theorem Inv.weak {σ':List (Option V)}(I:Inv X pins σ H s) (hl:σ'.length=σ.length) (w:∀(i:Nat) v,σ'[i]?=some (some v)->σ[i]?=some (some v)):Inv X pins σ' H s:=⟨I.ok,I.os,I.bare,I.base,let ⟨m,hn,kr⟩:=I.loc;⟨m,hn,λi x v e1 e2 e3=>kr i x v e1 (w i v e2) e3⟩,I.cell,I.free,I.freeC,I.pin,I.hok,hl.trans I.len⟩
theorem Inv.pins_of {fh:List (Addr×Obj)}(I:Inv X pins σ H s) (h:∀p∈fh,s.heap.get? p.1=some p.2/\H p.1=none/\p.1≠X.env.locals/\p.1∉X.fs/\∀v,p.2.data≠.cell v):Inv X fh σ H s:=⟨I.ok,I.os,I.bare,I.base,I.loc,I.cell,I.free,I.freeC,λp hp=>(yW.mp hp).elim (λz=>I.pin p (zA _ z)) (h p),I.hok,I.len⟩
theorem PB {N:List Str}(hN:N.Nodup) {i j:Nat}{x:Str}(a:N[i]?=some x) (b:N[j]?=some x):i=j:=by obtain⟨h1,e1⟩:=yT.mp a;obtain⟨h2,e2⟩:=yT.mp b;exact(List.getElem_inj hN).mp (e1.trans e2.symm)
theorem TZ {M:Model}{A:Around}{E:Value->Shared->Prop}{i:Nat}{x:Str}{v:V}{u:Value}{Q:Unit->Shared->Prop}(I:Inv X pins σ H s) (hN:X.N.Nodup) (hi:X.N[i]?=some x) (hx:Loc X.env.scope x) (r:RelV v u) (h:∀s',Inv X pins (σ.set i (some v)) H s'->(∃a,Heap.SameBut a s.heap s'.heap/\(a=X.env.locals\/X.env.cells.lookup x=some a))->Q () s') (hf:X.fn x=true\/X.env.scope.names.lookup x=some .local:=by first | exact .inl rfl | exact .inr rfl | assumption):wpAny M A (storeName X.env x u) Q E s:=by
 obtain⟨m,hn,hl⟩:=id I.loc;have ku:(X.env.scope.kind==.class||(X.env.scope.kind==.module&&X.env.locals != X.env.globals))=false:=by rw[I.ok.kind];rfl
 have l9:i < σ.length:=by rw[I.len];exact(yT.mp hi).1
 have cne:=I.cne;have tracked:∀{a:Addr}{h':Heap},(∃o,s.heap.get? a=some o/\H a=none)->Heap.SameBut a s.heap h'->HOk X.prog X.w H h':=λ{a h'} ha hs b ob e=>by
   obtain⟨_,_,gw⟩:=ha;refine(I.hok b ob e).stay (λc w' hc q=>(hs.2 c ?_).trans q) (λ_ q=>q) λ_ _ q=>q;rintro rfl;rcases hc with rfl | hc;. rw[gw] at e;cases e
   . rw[gw] at hc;cases hc
 rcases hx with hk | hk
 . refine wpAny_storeName_local hk hn (λh' bh hs=>?_) ku;obtain⟨oL,_,_,fi,_⟩:=id hn;refine h _ ⟨I.ok,I.os,I.bare,⟨λb o e n hb hx=>?_,λb o e n hb hx=>?_,I.base.free,λb o e hx=>?_,I.base.tups,I.base.frzs,I.base.tbls⟩,⟨_,bh,λj y v' e1 e2 e3=>?_⟩,λy c e=>?_,I.free,I.freeC,λp hp=>?_,tracked ⟨oL,fi,I.free⟩ hs,by simpa using I.len⟩ ⟨_,hs,.inl rfl⟩;. exact(hs.2 b (zC (zP (zM e) I.ok.above))).trans (I.base.keep b o e n hb hx)
   . obtain⟨sl,e1⟩:=I.base.slot b o e n hb hx;exact⟨sl,(hs.2 b (zC (zP (zM e) I.ok.above))).trans e1⟩
   . obtain⟨o',e1⟩:=I.base.there b o e hx;exact⟨o',(hs.2 b (zC (zP (zM e) I.ok.above))).trans e1⟩
   . by_cases hj:j=i;. subst hj;rw[hi] at e1;cases e1;rw[List.getElem?_set_self l9] at e2;cases e2;exact⟨u,r,.inl ⟨hk,by simp⟩⟩
     . rw[a9W (a8K hj)] at e2;obtain⟨u',r',q⟩:=hl j y v' e1 e2 e3;refine⟨u',r',?_⟩;rcases q with ⟨k,e⟩ | ⟨k,c,e,z⟩
       . refine .inl ⟨k,?_⟩;have:y≠x:=λe=>hj (PB hN e1 (e▸hi));simp[this,e]
       . exact .inr ⟨k,c,e,z.sameBut hs (cne y c e)⟩
   . obtain⟨w',z⟩:=I.cell y c e;exact⟨w',z.sameBut hs (cne y c e)⟩
   . obtain⟨e,n,ne,nf,d⟩:=I.pin p hp;exact⟨(hs.2 p.1 ne).trans e,n,ne,nf,d⟩
 . have ky:X.fn x=true:=by
     rcases hf with z | z;. exact z
     . rw[z] at hk;cases hk
   obtain⟨c,hc⟩:=I.ok.has x (.inl hk);obtain⟨w',z⟩:=I.cell x c hc;refine wpAny_storeName_cell I.ok.kind hk hc z (λh' fe hs=>?_);obtain⟨oc,lA,kz⟩:=id z;refine h { s with heap:=h' } ⟨I.ok,I.os,I.bare,⟨λb o e n hb hx=>?_,λb o e n hb hx=>?_,I.base.free,λb o e hx=>?_,I.base.tups,I.base.frzs,I.base.tbls⟩,⟨m,hn.sameBut hs (a8K (cne x c hc)),λj y v' e1 e2 e3=>?_⟩,λy c' e=>?_,I.free,I.freeC,λp hp=>?_,tracked ⟨oc,lA,I.freeC x c hc⟩ hs,by simpa using I.len⟩ ⟨c,hs,.inr hc⟩;. exact(hs.2 b (zC (zP (zM e) (I.ok.cab x c ky hc)))).trans (I.base.keep b o e n hb hx)
   . obtain⟨sl,e1⟩:=I.base.slot b o e n hb hx;exact⟨sl,(hs.2 b (zC (zP (zM e) (I.ok.cab x c ky hc)))).trans e1⟩
   . obtain⟨o',e1⟩:=I.base.there b o e hx;exact⟨o',(hs.2 b (zC (zP (zM e) (I.ok.cab x c ky hc)))).trans e1⟩
   . by_cases hj:j=i;. subst hj;rw[hi] at e1;cases e1;rw[List.getElem?_set_self l9] at e2;cases e2;exact⟨u,r,.inr ⟨.inl hk,c,hc,fe⟩⟩
     . rw[a9W (a8K hj)] at e2;obtain⟨u',r',q⟩:=hl j y v' e1 e2 e3;refine⟨u',r',?_⟩;rcases q with q | ⟨k,c',e,z'⟩
       . exact .inl q
       . refine .inr ⟨k,c',e,z'.sameBut hs ?_⟩;rintro rfl;exact hj (PB hN e1 (I.ok.inj _ _ _ e hc▸hi))
   . by_cases hcc:c'=c;. subst hcc;exact⟨_,fe⟩
     . obtain⟨w2,z2⟩:=I.cell y c' e;exact⟨w2,z2.sameBut hs hcc⟩
   . obtain⟨e,n,ne,nf,d⟩:=I.pin p hp;refine⟨(hs.2 p.1 ?_).trans e,n,ne,nf,d⟩;intro q;rw[q,lA] at e;have q':oc=p.2:=Option.some.inj e;exact d w' (by rw[<-q'];exact kz)
theorem FN {M:Model}{A:Around}{E:Value->Shared->Prop}{i:Nat}{x:Str}{v:V}{u:Value}{Q:Unit->Shared->Prop}(I:Inv X pins σ H s) (hN:X.N.Nodup) (hi:X.N[i]?=some x) (hx:Loc X.env.scope x) (r:RelV v u) (h:∀s',Inv X pins (σ.set i (some v)) H s'->Q () s') (hf:X.fn x=true\/X.env.scope.names.lookup x=some .local:=by first | exact .inl rfl | exact .inr rfl | assumption):wpAny M A (storeName X.env x u) Q E s:=
 TZ I hN hi hx r (λs' I' _=>h s' I') hf
theorem Inv.call' {s':Shared}{ch:List Addr}(I:Inv X pins σ H s) (ho:s'.os=s.os) (u:Un (frs X.stack) ch H H' s.heap s'.heap) (hok:HOk X.prog X.w H' s'.heap) (hg:AllBare s'.gens) (gh:∀b∈ch,(b∈X.ex\/X.s₀.heap.objs.size<=b)/\b≠X.env.locals/\(∀x c,X.env.cells.lookup x=some c->c≠b)/\∀p∈X.pn++pins,p.1≠b):Inv X pins σ H' s':=by obtain⟨h',g',d',t',o'⟩:=s';have e:o'=s.os:=ho;subst e;exact I.call (g':=g') (t':=t') (d':=d') u hok hg gh
end
abbrev XK:=Value->Option Addr->Hp->Prop
abbrev St:=List (Option V)
abbrev VK:=V->Hp->Prop
abbrev TE:=St->Hp->VK->Prop
abbrev TT:=St->Hp->(Bool->Hp->Prop)->Prop
abbrev TA:=St->Hp->(List V->Hp->Prop)->Prop
structure Ends where
 nx:St->Hp->Prop
 rt:VK
 bk:St->Hp->Prop:=λ_ _=>False
 ct:St->Hp->Prop:=λ_ _=>False
abbrev TS:=Ends->St->Hp->Prop
def EP (X:Cx) (pins:List (Addr×Obj)) (σ:St) (Q:VK) (u:Value) (s':Shared):Prop:=∃v H',Inv X pins σ H' s'/\RelV v u/\Q v H'
def TP (X:Cx) (pins:List (Addr×Obj)) (σ:St) (Q:Bool->Hp->Prop) (b:Bool) (s':Shared):Prop:=∃H',Inv X pins σ H' s'/\Q b H'
def AP (X:Cx) (pins:List (Addr×Obj)) (σ:St) (Q:List V->Hp->Prop) (us:List Value) (s':Shared):Prop:=∃vs H',Inv X pins σ H' s'/\Vals vs us/\Q vs H'
def SP (X:Cx) (pins:List (Addr×Obj)) (D:Ends) (f:Flow) (s':Shared):Prop:=
 match f with
 | .next=>∃σ' H',Inv X pins σ' H' s'/\D.nx σ' H'
 | .brk=>∃σ' H',Inv X pins σ' H' s'/\D.bk σ' H'
 | .cont=>∃σ' H',Inv X pins σ' H' s'/\D.ct σ' H'
 | .ret u=>∃v σ' H',Inv X pins σ' H' s'/\RelV v u/\D.rt v H'
def PE (X:Cx) (e:Expr) (t:TE):Prop:=∀(pins:List (Addr×Obj)) (s:Shared) (σ:St) (H:Hp) (Q:VK),Inv X pins σ H s->t σ H Q->wpAny (model X.prog X.w) X.A (eval e X.env) (EP X pins σ Q) X.xe s
def PT (X:Cx) (e:Expr) (t:TT):Prop:=∀(pins:List (Addr×Obj)) (s:Shared) (σ:St) (H:Hp) (Q:Bool->Hp->Prop),Inv X pins σ H s->t σ H Q->wpAny (model X.prog X.w) X.A (isTrue e X.env (eval e X.env)) (TP X pins σ Q) X.xe s
def PW (X:Cx) (e:Expr) (t:TT):Prop:=∀(whole:Sem Value) (pins:List (Addr×Obj)) (s:Shared) (σ:St) (H:Hp) (Q:Bool->Hp->Prop),Inv X pins σ H s->t σ H Q->wpAny (model X.prog X.w) X.A (isTrue e X.env whole) (TP X pins σ Q) X.xe s
theorem PW.pt {X:Cx}{e:Expr}{t:TT}(h:PW X e t):PT X e t:=h _
def PA (X:Cx) (es:List Expr) (t:TA):Prop:=∀(pos:Pos) (pins:List (Addr×Obj)) (s:Shared) (σ:St) (H:Hp) (Q:List V->Hp->Prop),Inv X pins σ H s->t σ H Q->wpAny (model X.prog X.w) X.A (spliced (backTo pos (starEach es X.env))) (AP X pins σ Q) X.xe s
def PS (X:Cx) (st:Stmt) (t:TS):Prop:=∀(pins:List (Addr×Obj)) (s:Shared) (σ:St) (H:Hp) (D:Ends),Inv X pins σ H s->t D σ H->wpAny (model X.prog X.w) X.A (exec st X.env) (SP X pins D) X.xe s
def PSs (X:Cx) (st:List Stmt) (t:TS):Prop:=∀(pins:List (Addr×Obj)) (s:Shared) (σ:St) (H:Hp) (D:Ends),Inv X pins σ H s->t D σ H->wpAny (model X.prog X.w) X.A (execs st X.env) (SP X pins D) X.xe s
theorem thn {α:Type}{t:Sem α}{Q Q':α->Shared->Prop}{M:Model}{A:Around}{E:Value->Shared->Prop}{s:Shared}(h:wpAny M A t Q E s) (hQ:∀a s,Q a s->Q' a s):wpAny M A t Q' E s:=wpAny_mono h hQ λ_ _ x=>x
section
variable {X:Cx}
def Y5 (i:Nat):TE:=λσ H Q=>∃v,σ[i]?=some (some v)/\Q v H
def tC (v:V):TE:=λ_ H Q=>Q v H
theorem V9 {i:Nat}{x:Str}{pos:Pos}(hN:X.N[i]?=some x) (hv:Vis X.env.scope x) (hd:(x==("__debug__":Str))=false:=by decide) (fj:(x==("__classdict__":Str))=false:=by decide):PE X (.Name x pos) (Y5 i):=by
 intro pins s σ H Q I h;obtain⟨v,e,h⟩:=h;obtain⟨m,hn,hl⟩:=I.loc;obtain⟨u,r,l⟩:=hl i x v hN e hv;have fin:EP X pins σ Q u s:=⟨v,H,I,r,h⟩
 rcases l with ⟨hk,hm⟩ | ⟨hk,c,hc,cx⟩
 . exact wpAny_Name (wpAny_loadName_local I.ok.kind hk hn hm fin) hd
 . rcases hk with hk | hk;. exact wpAny_Name (wpAny_loadName_cell I.ok.kind hk hc cx fin) hd
   . exact wpAny_Name (wpAny_loadName_free I.ok.kind hk hc cx fin fj) hd
theorem bI {i j pos}:PE X (.Constant (.int i) j pos) (tC (.int i)):=λ_ _ _ H _ I h=>wpAny_Constant_int ⟨.int i,H,I.tok _,⟨_,rfl⟩,h⟩
theorem fE {b j pos}:PE X (.Constant (.bool b) j pos) (tC (.bl b)):=λ_ _ _ H _ I h=>Constant_bool ⟨.bl b,H,I,rfl,h⟩
theorem bJ {j pos}:PE X (.Constant .none j pos) (tC .non):=λ_ _ _ H _ I h=>Constant_none ⟨.non,H,I,rfl,h⟩
theorem bK {x j pos}:PE X (.Constant (.str x) j pos) (tC (.str x)):=λ_ _ _ H _ I h=>Calls.Constant_str ⟨.str x,H,I.tok _,⟨_,rfl⟩,h⟩
def Gl (X:Cx) (x:Str):Prop:=X.env.kindOf x=some .globalImplicit
theorem Y6 {E:Value->Shared->Prop}{pins:List (Addr×Obj)}{s:Shared}{σ:St}{H:Hp}{x:Str}{u:Value}{pos:Pos}{Q:Value->Shared->Prop}(I:Inv X pins σ H s) (hg:Gl X x) (hm:X.mg x=some u) (h:Q u s) (hd:(x==("__debug__":Str))=false:=by decide):wpAny (model X.prog X.w) X.A (eval (.Name x pos) X.env) Q E s:=
 Calls.Name_function_global I.ok.kind hg (Calls.loadGlobal_global (by rw[I.ok.glob];exact I.mod.glob.keeps I.bk) hm h) hd
theorem NQ {E:Value->Shared->Prop}{pins:List (Addr×Obj)}{s:Shared}{σ:St}{H:Hp}{x:Str}{u:Value}{pos:Pos}{Q:Value->Shared->Prop}(I:Inv X pins σ H s) (hg:Gl X x) (hm:X.mg x=none) (hv:bootBuiltins x=some u) (h:Q u s) (hn:x ≠ "__name__" := by decide) (hd:(x==("__debug__":Str))=false:=by decide):wpAny (model X.prog X.w) X.A (eval (.Name x pos) X.env) Q E s:=by obtain⟨mb,h1,h2⟩:=I.mod.blt;exact Calls.Name_function_global I.ok.kind hg (Calls.loadGlobal_builtin (by rw[I.ok.glob];exact I.mod.glob.keeps I.bk) hm (by rw[I.ok.blt];exact h1.keeps I.bk) ((h2 x hn).trans hv) h) hd
theorem F8 {x:Str}{v:V}{u:Value}{pos:Pos}(hg:Gl X x) (hm:X.mg x=none) (hv:bootBuiltins x=some u) (r:RelV v u) (hn:x ≠ "__name__" := by decide) (hd:(x==("__debug__":Str))=false:=by decide):PE X (.Name x pos) (tC v):=
 λ_ _ _ H _ I h=>NQ I hg hm hv ⟨v,H,I,r,h⟩ hn hd
variable {a b:Expr}{ta tb:TE}{pos:Pos}
def PC (X:Cx) (op:CmpOp) (a b:Expr) (t:TE):Prop:=∀(pins:List (Addr×Obj)) (s:Shared) (σ:St) (H:Hp) (Q:VK),Inv X pins σ H s->t σ H Q ->
   wpAny (model X.prog X.w) X.A (eval a X.env) (λv s₁=>wpAny (model X.prog X.w) X.A (eval b X.env) (λu s₂=>wpAny (model X.prog X.w) X.A (compareOp op v u) (EP X pins σ Q) X.xe s₂) X.xe s₁) X.xe s
def tB (t:TE):TT:=λσ H Q=>t σ H λx H1=>∃c,x = .bl c/\Q c H1
theorem bL {op:CmpOp}{t:TE}(h:PC X op a b t) (h1:behindInMarks op b=false:=by first | exact nobehind _ (by decide) (by decide) | rfl):PE X (.Compare a [op] [b] pos) t:=λpins s σ H Q I hw=>wpAny_Compare1 (h pins s σ H Q I hw) h1
theorem NR {op:CmpOp}{t:TE}(h:PC X op a b t) (h1:behindInMarks op b=false:=by first | exact nobehind _ (by decide) (by decide) | rfl):PT X (.Compare a [op] [b] pos) (tB t):=by intro pins s σ H Q I hw;refine wpAny_isTrue_Compare1 (thn (h pins s σ H _ I hw) λv s1 h1=>thn h1 λu s2 h2=>thn h2 λc s3 ⟨x,H1,I1,r1,q1⟩=>?_) h1;obtain⟨d,rfl,q⟩:=q1;cases r1;exact wpAny_truthy_bool ⟨H1,I1,q⟩
theorem bM {e:Expr}{t:TE}(h:PE X e t) (he:∀whole,isTrue e X.env whole=(do let v <- whole;standAt e.pos;holding [v] (truthy v)):=by intro _;rfl):PT X e (tB t):=by intro pins s σ H Q I hw;refine isTrue_plain (thn (h pins s σ H _ I hw) λv s1 ⟨x,H1,I1,r1,q1⟩=>?_) (he _);obtain⟨d,rfl,q⟩:=q1;cases r1;exact wpAny_truthy_bool ⟨H1,I1,q⟩
variable {tA gi:TT}{rest:List Expr}
def fF (t u:TT):TT:=λσ H Q=>t σ H λc H1=>if c=true then u σ H1 Q else Q false H1
def tOr (t u:TT):TT:=λσ H Q=>t σ H λc H1=>if c=true then Q true H1 else u σ H1 Q
def fG (t:TT):TT:=λσ H Q=>t σ H λc H1=>Q (!c) H1
theorem pw_and1 (ha:PT X a tA):PW X (.BoolOp .And [a] pos) tA:=by
 intro wh pins s σ H Q I h;refine isTrue_and (thn (ha pins s σ H Q I h) λc s1 e=>?_);cases c with
 | true=>exact isTrue_and_nil e
 | false=>exact e
theorem pw_or1 (ha:PT X a tA):PW X (.BoolOp .Or [a] pos) tA:=by
 intro wh pins s σ H Q I h;refine isTrue_or (thn (ha pins s σ H Q I h) λc s1 e=>?_);cases c with
 | false=>exact isTrue_or_nil e
 | true=>exact e
theorem pw_and (ha:PT X a tA) (hb:PW X (.BoolOp .And (b::rest) pos) gi):PW X (.BoolOp .And (a::b::rest) pos) (fF tA gi):=by
 intro wh pins s σ H Q I h;refine isTrue_and (thn (ha pins s σ H _ I h) λc s1 ⟨H1,I1,q1⟩=>?_);cases c with
 | true=>exact hb wh pins s1 σ H1 Q I1 q1
 | false=>exact⟨H1,I1,q1⟩
theorem pw_or (ha:PT X a tA) (hb:PW X (.BoolOp .Or (b::rest) pos) gi):PW X (.BoolOp .Or (a::b::rest) pos) (tOr tA gi):=by
 intro wh pins s σ H Q I h;refine isTrue_or (thn (ha pins s σ H _ I h) λc s1 ⟨H1,I1,q1⟩=>?_);cases c with
 | true=>exact⟨H1,I1,q1⟩
 | false=>exact hb wh pins s1 σ H1 Q I1 q1
theorem bN (ha:PT X a tA):PT X (.UnaryOp .Not a pos) (fG tA):=by intro pins s σ H Q I h;exact isTrue_not (ha pins s σ H (λc H1=>Q (!c) H1) I h)
def fH (ta tb:TE):TE:=λσ H Q=>ta σ H λx H1=>∃c,x = .bl c/\if c=true then Q (.bl true) H1 else tb σ H1 Q
def aI (ta:TE):TE:=λσ H Q=>ta σ H λx H1=>∃c,x = .bl c/\Q (.bl (!c)) H1
theorem bO {op} {t:TE}(h:PE X a t):PE X (.BoolOp op [a] pos) t:=λpins s σ H Q I hw=>BoolOp_one (h pins s σ H Q I hw)
theorem fI (ha:PE X a ta) (hb:PE X (.BoolOp .Or (b::rest) pos) tb):PE X (.BoolOp .Or (a::b::rest) pos) (fH ta tb):=by
 intro pins s σ H Q I h;refine BoolOp_or (thn (ha pins s σ H _ I h) λv s1 ⟨x,H1,I1,r1,q1⟩=>?_);obtain⟨c,rfl,q1⟩:=q1;cases r1;refine wpAny_truthy_bool ?_;cases c with
 | false=>exact hb pins s1 σ H1 Q I1 q1
 | true=>exact⟨.bl true,H1,I1,rfl,q1⟩
theorem bP (ha:PE X a ta):PE X (.UnaryOp .Not a pos) (aI ta):=by intro pins s σ H Q I h;refine UnaryOp_ (thn (ha pins s σ H _ I h) λv s1 ⟨x,H1,I1,r1,q1⟩=>?_);obtain⟨c,rfl,q1⟩:=q1;cases r1;exact not_of (wpAny_truthy_bool ⟨.bl (!c),H1,I1,rfl,q1⟩)
end
def SqL (K:Frg) (H:Hp) (a:Addr) (xs:List V):Prop:=
 Rd H a (.lst xs) \/∃(o:Obj) (ab:Array Value) (n:Nat),K.lookup a=some o/\o.cls = .type "list" /\ o.dict=none/\o.data = .seq ab n/\ab.size<=sizeLine/\Vals xs ab.toList
def SqT (K:Frg) (H:Hp) (a:Addr) (xs:List V):Prop:=
 Rd H a (.tup xs) \/∃(o:Obj) (ab:Array Value) (n:Nat),K.lookup a=some o/\o.cls = .type "tuple" /\ o.data = .seq ab n/\ab.size<=sizeLine/\Vals xs ab.toList
def i6:Value->Option V
 | .none=>some .non
 | .bool b=>some (.bl b)
 | .int i _=>some (.int i)
 | .str x _=>some (.str x)
 | .bytes b _=>some (.byt b)
 | .float b _=>some (.flt b)
 | .ref a=>some (.ref a)
 | .type n=>some (.ty n)
 | _=>none
theorem RelV.abs {x:V}{u:Value}(r:RelV x u):i6 u=some x:=by
 cases x with
 | non=>cases r;rfl
 | bl _=>cases r;rfl
 | int _=>obtain⟨t,rfl⟩:=r;rfl
 | str _=>obtain⟨t,rfl⟩:=r;rfl
 | byt _=>obtain⟨t,rfl⟩:=r;rfl
 | flt _=>obtain⟨t,rfl⟩:=r;rfl
 | ref _=>cases r;rfl
 | ty _=>cases r;rfl
theorem RelV.inj {x y:V}{u:Value}(r:RelV x u) (q:RelV y u):x=y:=Option.some.inj (r.abs.symm.trans q.abs)
theorem Vals.inj:∀{xs ys:List V}{us:List Value},Vals xs us->Vals ys us->xs=ys
 | _,_,_,.nil,.nil=>rfl
 | _,_,_,.cons r t,.cons r' t'=>by rw[r.inj r',Vals.inj t t']
section
variable {X:Cx}{pins:List (Addr×Obj)}{σ:St}{H:Hp}{s:Shared}{a:Addr}{xs ys:List V}
theorem SqL.of {K:Frg}(h:H a=some (.lst xs)):SqL K H a xs:=.inl (.inl h)
theorem Inv.list (I:Inv X pins σ H s) (h:SqL X.K H a xs):∃ab:List Value,Vals xs ab/\PlainL s.heap a ab.toArray/\xs.length<=sizeLine:=by
 rcases h with h | ⟨o,ab,n,hk,hc,hd,hs,hz,r⟩
 . obtain⟨z,ab,n,r,e⟩:=h.ok I.hok;exact⟨ab,r,⟨_,n,e,rfl,rfl,rfl⟩,z⟩
 . refine⟨ab.toList,r,⟨o,n,I.kIn a o hk,hc,hd,by simpa using hs⟩,?_⟩;have e:=r.length;simp only[a5W] at e;lia
theorem Inv.tuple (I:Inv X pins σ H s) (h:SqT X.K H a xs):∃ab:List Value,Vals xs ab/\IsTup s.heap a ab.toArray/\xs.length<=sizeLine:=by
 rcases h with h | ⟨o,ab,n,hk,hc,hs,hz,r⟩
 . obtain⟨z,ab,r,p⟩:=h.ok I.hok;exact⟨ab,r,p,z⟩
 . refine⟨ab.toList,r,⟨o,I.kIn a o hk,hc,n,by simpa using hs⟩,?_⟩;have e:=r.length;simp only[a5W] at e;lia
theorem Inv.list_inj (I:Inv X pins σ H s) (h:SqL X.K H a xs) (h':SqL X.K H a ys):xs=ys:=by
 obtain⟨ab,r,⟨o,n,e,_,_,d⟩,_⟩:=I.list h;obtain⟨its',r',⟨o',n',e',_,_,d'⟩,_⟩:=I.list h';rw[e] at e';cases e';rw[d] at d';injection d' with d1 _;have:ab=its':=by simpa using congrArg Array.toList d1
 subst this;exact r.inj r'
theorem Inv.tuple_inj (I:Inv X pins σ H s) (h:SqT X.K H a xs) (h':SqT X.K H a ys):xs=ys:=by
 obtain⟨ab,r,⟨o,e,_,n,d⟩,_⟩:=I.tuple h;obtain⟨its',r',⟨o',e',_,n',d'⟩,_⟩:=I.tuple h';rw[e] at e';cases e';rw[d] at d';injection d' with d1 _;have:ab=its':=by simpa using congrArg Array.toList d1
 subst this;exact r.inj r'
end
abbrev Cx.wish (X:Cx) (E:Value->Shared->Prop):Cx:={ X with xe:=E }
abbrev Cx.nox (X:Cx):Cx:=X.wish λ_ _=>False
theorem Cx.Ok.wish {X:Cx}(ok:X.Ok) (E:Value->Shared->Prop):(X.wish E).Ok:=⟨ok.mod,ok.kind,ok.glob,ok.blt,ok.above,ok.inj,ok.has,ok.cab,ok.hd,ok.frames,ok.stk,ok.exf,ok.bs,ok.bsz,ok.noex,ok.exfs,ok.funs,ok.frf⟩
theorem Cx.Ok.unwish {X:Cx}{E:Value->Shared->Prop}(ok:(X.wish E).Ok):X.Ok:=⟨ok.mod,ok.kind,ok.glob,ok.blt,ok.above,ok.inj,ok.has,ok.cab,ok.hd,ok.frames,ok.stk,ok.exf,ok.bs,ok.bsz,ok.noex,ok.exfs,ok.funs,ok.frf⟩
section
variable {X:Cx}{pins:List (Addr×Obj)}{σ:St}{H:Hp}{s:Shared}{E:Value->Shared->Prop}
theorem Inv.wish (I:Inv X pins σ H s) (E:Value->Shared->Prop):Inv (X.wish E) pins σ H s:=⟨I.ok.wish E,I.os,I.bare,I.base,I.loc,I.cell,I.free,I.freeC,I.pin,I.hok,I.len⟩
theorem Inv.unwish (I:Inv (X.wish E) pins σ H s):Inv X pins σ H s:=⟨I.ok.unwish,I.os,I.bare,I.base,I.loc,I.cell,I.free,I.freeC,I.pin,I.hok,I.len⟩
theorem SP.unwish {D:Ends}{f:Flow}{s':Shared}(h:SP (X.wish E) pins D f s'):SP X pins D f s':=by
 cases f with
 | next=>obtain⟨σ',H',I,q⟩:=h;exact⟨σ',H',I.unwish,q⟩
 | brk=>obtain⟨σ',H',I,q⟩:=h;exact⟨σ',H',I.unwish,q⟩
 | cont=>obtain⟨σ',H',I,q⟩:=h;exact⟨σ',H',I.unwish,q⟩
 | ret u=>obtain⟨v,σ',H',I,r,q⟩:=h;exact⟨v,σ',H',I.unwish,r,q⟩
theorem PSs.nox {st:List Stmt}{t:TS}(h:PSs X.nox st t):PSs X st t:=λpins s σ H D I hw=>
 wpAny_mono (h pins s σ H D (I.wish _) hw) (λ_ _ q=>q.unwish) λ_ _ z=>a8Z z
end
section
variable {X:Cx}{st:Stmt}{rest:List Stmt}{t u:TS}{e:Expr}{te:TE}{pos:Pos}
def aJ:TS:=λD σ H=>D.nx σ H
def bQ (t u:TS):TS:=λD σ H=>t { D with nx:=u D } σ H
theorem Y7:PSs X [] aJ:=λ_ _ σ H _ I h=>wpAny_execs_nil ⟨σ,H,I,h⟩
theorem PD (h1:PS X st t) (h2:PSs X rest u):PSs X (st::rest) (bQ t u):=by
 intro pins s σ H D I h;refine wpAny_execs_cons (thn (h1 pins s σ H { D with nx:=u D } I h) λf s1 q=>?_);cases f with
 | next=> obtain⟨σ',H',I',q⟩:=q;exact h2 pins s1 σ' H' D I' q
 | ret v=>exact q
 | brk=>exact q
 | cont=>exact q
theorem SM (h1:PS X st t):PSs X [st] t:=by
 intro pins s σ H D I h;refine wpAny_execs_cons (thn (h1 pins s σ H D I h) λf s1 q=>?_);cases f with
 | next=>exact wpAny_execs_nil q
 | ret v=>exact q
 | brk=>exact q
 | cont=>exact q
theorem Inv.quiet {pins:List (Addr×Obj)}{σ:St}{H:Hp}{s:Shared}(I:Inv X pins σ H s):interactive X.env=false:=by simp[interactive,I.ok.kind]
def aK (te:TE):TS:=λD σ H=>te σ H λ_ H1=>D.nx σ H1
theorem Y8 (he:PE X e te) (hs:swapsWith e none pos.line X.env=pure false:=by rfl):PS X (.Expr e pos) (aK te):=by intro pins s σ H D I h;exact wpAny_Expr_any (thn (he pins s σ H _ I h) λv s1 ⟨x,H1,I1,r1,q1⟩=>⟨σ,H1,I1,q1⟩) I.quiet hs
def fJ (te:TE):TS:=λD σ H=>te σ H D.rt
theorem bR (he:PE X e te):PS X (.Return (some e) pos) (fJ te):=by intro pins s σ H D I h;exact wpAny_Return_some (thn (he pins s σ H _ I h) λv s1 ⟨x,H1,I1,r1,q1⟩=>⟨x,σ,H1,I1,r1,q1⟩)
def fK (c:TT) (t u:TS):TS:=λD σ H=>c σ H λb H1=>if b=true then t D σ H1 else u D σ H1
theorem fL {c:Expr}{a b:List Stmt}{tc:TT}(hc:PT X c tc) (ha:PSs X a t) (hb:PSs X b u):PS X (.If c a b pos) (fK tc t u):=by
 intro pins s σ H D I h;refine wpAny_If (thn (hc pins s σ H _ I h) λd s1 ⟨H1,I1,q1⟩=>?_);cases d with
 | true=>exact ha pins s1 σ H1 D I1 q1
 | false=>exact hb pins s1 σ H1 D I1 q1
end
abbrev TG:=V->St->Hp->(St->Hp->Prop)->Prop
abbrev TGs:=List V->St->Hp->(St->Hp->Prop)->Prop
def PG (X:Cx) (target:Expr) (t:TG):Prop:=∀(pins:List (Addr×Obj)) (s:Shared) (σ:St) (H:Hp) (v:V) (u:Value) (Q:St->Hp->Prop),Inv X pins σ H s->RelV v u->t v σ H Q ->
   wpAny (model X.prog X.w) X.A (assign target X.env u) (λ_ s'=>∃σ' H',Inv X pins σ' H' s'/\Q σ' H') X.xe s
def PGs (X:Cx) (ts:List Expr) (t:TGs):Prop:=∀(pins:List (Addr×Obj)) (s:Shared) (σ:St) (H:Hp) (vs:List V) (us:List Value) (Q:St->Hp->Prop),Inv X pins σ H s->Vals vs us->t vs σ H Q ->
   wpAny (model X.prog X.w) X.A (assignInOrder ((assignEach ts X.env).map (·.2)) us) (λ_ s'=>∃σ' H',Inv X pins σ' H' s'/\Q σ' H') X.xe s
abbrev TIp:=V->V->Hp->VK->Prop
def PIp (X:Cx) (op:Operator) (t:TIp):Prop:=∀(pins:List (Addr×Obj)) (s:Shared) (σ:St) (H:Hp) (x y:V) (v u:Value) (Q:VK),Inv X pins σ H s->RelV x v->RelV y u->t x y H Q ->
   wpAny (model X.prog X.w) X.A (inplaceOp op v u) (EP X pins σ Q) X.xe s
section
variable {X:Cx}{pos:Pos}
def KL (i:Nat):TG:=λv σ H Q=>Q (σ.set i (some v)) H
theorem NS {i:Nat}{x:Str}(hN:X.N.Nodup) (hi:X.N[i]?=some x) (hx:Loc X.env.scope x) (hf:X.fn x=true\/X.env.scope.names.lookup x=some .local:=by first | exact .inl rfl | exact .inr rfl | assumption):PG X (.Name x pos) (KL i):=by intro pins s σ H v u Q I r h;exact wpAny_assign_Name (FN I hN hi hx r (λs' I'=>⟨_,H,I',h⟩) hf)
def bS:TGs:=λvs σ H Q=>vs=[]/\Q σ H
def VA (t:TG) (u:TGs):TGs:=λvs σ H Q=>∃v r,vs=v::r/\t v σ H λσ' H'=>u r σ' H' Q
theorem Y9:PGs X [] bS:=by intro pins s σ H vs us Q I r h;obtain⟨e,h⟩:=h;subst e;cases r;exact assignInOrder_nil ⟨σ,H,I,h⟩
theorem VB {e:Expr}{es:List Expr}{t:TG}{u:TGs}(h1:PG X e t) (h2:PGs X es u) (hs:(assignEach (e::es) X.env).map (·.2)=assign e X.env::(assignEach es X.env).map (·.2):=by rfl):PGs X (e::es) (VA t u):=by
 intro pins s σ H vs us Q I r h;obtain⟨v,vr,e1,h⟩:=h;subst e1;cases r with
 | cons r rr=> rw[hs];refine assignInOrder_cons (thn (h1 pins s σ H _ _ _ I r h) λ_ s1 ⟨σ1,H1,I1,q1⟩=>?_);exact h2 pins s1 σ1 H1 _ _ Q I1 rr q1
def YA (K:Frg) (n:Nat) (t:TGs):TG:=λv σ H Q=>∃a xs,v = .ref a/\SqT K H a xs/\xs.length=n/\t xs σ H Q
theorem bT {es:List Expr}{k:Nat}{t:TGs}{n:Nat}(hc:X.calm=true) (h:PGs X es t) (hn:(assignEach es X.env).length=n:=by rfl) (fm:(assignEach es X.env).findIdx? (·.1)=none:=by rfl):PG X (.Tuple es k pos) (YA X.K n t):=by intro pins s σ H v u Q I r hw;obtain⟨a,xs,e1,hq,hl,hw⟩:=hw;subst e1;cases r;obtain⟨ab,rv,ht,hz⟩:=I.tuple hq;refine assign_Tuple_tuple (I.ok.hd hc) ht (by simp[hn,<-hl,rv.length]) fm λh' hx=>?_;have I1:Inv X pins σ H { s with heap:=h' }:=I.kept (t':=s.toks) λb o e=>hx b o (zC (zM e)) e;exact h pins _ σ H xs _ Q I1 (by simpa using rv) hw
def fM (te:TE) (g:TG):TS:=λD σ H=>te σ H λx H1=>g x σ H1 D.nx
theorem bU {i:Nat}{x:Str}{e:Expr}{te:TE}{pos':Pos}(hN:X.N.Nodup) (hi:X.N[i]?=some x) (hx:Loc X.env.scope x) (he:PE X e te) (hs:swapsWith e (some (.Name x pos')) pos.line X.env=pure false:=by rfl) (hf:X.fn x=true\/X.env.scope.names.lookup x=some .local:=by first | exact .inl rfl | exact .inr rfl | assumption) :
   PS X (.Assign [.Name x pos'] e pos) (fM te (KL i)):=by intro pins s σ H D I h;refine wpAny_Assign_Name (thn (he pins s σ H _ I h) λv s1 ⟨y,H1,I1,r1,q1⟩=>?_) hs;exact FN I1 hN hi hx r1 (λs2 I2=>⟨_,H1,I2,q1⟩) hf
def fQ (i j:Nat) (ta:TA):TS:=λD σ H=>ta σ H λvs H1=>∃v w,vs=[v,w]/\D.nx ((σ.set i (some v)).set j (some w)) H1
theorem bV {i j:Nat}{x y:Str}{a b:Expr}{ta:TA}{px py pt:Pos}{kt k2 pt2} (hc:X.calm=true) (hN:X.N.Nodup) (hi:X.N[i]?=some x) (hj:X.N[j]?=some y) (au:i≠j) (hx:X.env.scope.names.lookup x=some .local) (hy:X.env.scope.names.lookup y=some .local) (ha:PA X [a,b] ta) (hw:swappedStores [.Tuple [.Name x px,.Name y py] kt pt] (.Tuple [a,b] k2 pt2) X.env=pure (some [x,y])) (hs:swapsWithSole [.Tuple [.Name x px,.Name y py] kt pt] (.Tuple [a,b] k2 pt2) pos.line X.env=pure false:=by rfl) :
   PS X (.Assign [.Tuple [.Name x px,.Name y py] kt pt] (.Tuple [a,b] k2 pt2) pos) (fQ i j ta):=by
 intro pins s σ H D I h;rw[exec_Assign_arm];refine zZ (wpAny_standAt ?_);rw[hs];refine zZ (zY ?_);rw[if_neg (by decide)];refine zZ (Tuple_ (thn (ha _ pins s σ H _ I h) λus s1 ⟨vs,H1,I1,r1,q1⟩=>?_));obtain⟨v,w,e1,q1⟩:=q1;subst e1;obtain⟨u1,u2,rfl,rv,dr⟩:∃u1 u2,us=[u1,u2]/\RelV v u1/\RelV w u2:=by
   cases r1 with
   | cons p q=>
     cases q with
     | cons p' q'=> cases q';exact⟨_,_,rfl,p,p'⟩
 refine xN ?_ (by show 2<=sizeLine;decide);have I2:Inv X pins σ H1 { s1 with heap:=s1.heap.push { cls:=.type "tuple", data:=.seq [u1,u2].toArray } }:=I1.kept (t':=s1.toks) λb o e=>zW _ e;rw[hw];refine zZ (zY ?_);show wpAny (model X.prog X.w) X.A (do rule "assign.swapped-stores";let items <- unpackItems (.ref s1.heap.objs.size) 2 none;assignInOrder [λv=>bindName X.env y v,λv=>bindName X.env x v] items.reverse;pure Flow.next) _ _ _;refine zZ (wpAny_rule (zZ (unpackItems_tuple (items:=#[u1,u2]) (I.ok.hd hc) (IsTup.new s1.heap _) λh' k_=>?_)));have I3:=I2.kept (h':=h') (t':=s1.toks) λb o e=>k_ b o (zC (zM e)) e;show wpAny _ _ (assignInOrder [λv=>bindName X.env y v,λv=>bindName X.env x v] [u2,u1] >>= λ_=>pure Flow.next) _ _ _;refine zZ (assignInOrder_cons (wpAny_bindName (FN I3 hN hj (.inl hy) dr (λs2 I4=>?_) (.inr hy))));refine assignInOrder_cons (wpAny_bindName (FN I4 hN hi (.inl hx) rv (λs3 I5=>assignInOrder_nil (zY ?_)) (.inr hx)));rw[List.set_comm _ _ (a8K au)] at I5;exact⟨_,H1,I5,q1⟩
def fR (i:Nat) (te:TE) (ti:TIp):TS:=λD σ H=>∃x,σ[i]?=some (some x)/\te σ H λy H1=>ti x y H1 λz H2=>D.nx (σ.set i (some z)) H2
theorem VC {i:Nat}{x:Str}{e:Expr}{te:TE}{op:Operator}{ti:TIp}{pos':Pos}(hN:X.N.Nodup) (hi:X.N[i]?=some x) (hx:Loc X.env.scope x) (he:PE X e te) (ho:PIp X op ti) (hf:X.fn x=true\/X.env.scope.names.lookup x=some .local:=by first | exact .inl rfl | exact .inr rfl | assumption) :
   PS X (.AugAssign (.Name x pos') op e pos) (fR i te ti):=by
 intro pins s σ H D I h;obtain⟨v,e1,h⟩:=h;obtain⟨m,hn,hl⟩:=I.loc;have mM:Vis X.env.scope x:=by rcases hx with k | k;exact .inl k;exact .inr (.inl k)
 obtain⟨u,r,l⟩:=hl i x v hi e1 mM;refine wpAny_AugAssign_Name ?_;have go:wpAny (model X.prog X.w) X.A (eval e X.env) (λw s₂=>wpAny (model X.prog X.w) X.A (inplaceOp op u w) (λr s₃=>wpAny (model X.prog X.w) X.A (storeName X.env x r) (λ_=>SP X pins D .next) X.xe s₃) X.xe s₂) X.xe s:=by refine thn (he pins s σ H _ I h) λw s1 ⟨y,H1,I1,r1,q1⟩=>?_;refine thn (ho pins s1 σ H1 v y u w _ I1 r r1 q1) λz s2 ⟨zv,H2,I2,r2,q2⟩=>?_;exact FN I2 hN hi hx r2 (λs3 I3=>⟨_,H2,I3,q2⟩) hf
 rcases l with ⟨hk,hm⟩ | ⟨hk,c,hc,cx⟩
 . exact wpAny_loadName_local I.ok.kind hk hn hm go
 . rcases hk with hk | hk;. exact wpAny_loadName_cell I.ok.kind hk hc cx go
   . rcases hx with k | k;. have:X.env.scope.names.lookup x=some .free:=hk;rw[k] at this;cases this
     . have:X.env.scope.names.lookup x=some .free:=hk;rw[k] at this;cases this
def ipI (f:Int->Int->Int):TIp:=λx y H Q=>∃i j,x = .int i/\y = .int j/\Q (.int (f i j)) H
theorem bW:PIp X .Add (ipI λi j=>i+j):=by intro pins s σ H x y v u Q I r1 r2 h;obtain⟨i,j,e1,e2,q⟩:=h;subst e1;subst e2;obtain⟨t,rfl⟩:=r1;obtain⟨t',rfl⟩:=r2;exact iadd_int ⟨.int _,H,I.tok _,⟨_,rfl⟩,q⟩
end
structure It where
 go:Nat->Hp->Prop
 yld:Nat->Hp->V->Hp->Prop
 stop:Nat->Hp->Prop
def MB (X:Cx) (pins:List (Addr×Obj)) (H:Hp) (b:Addr):Prop:=
 H b=none/\b≠X.env.locals/\b∉X.fs/\(b∈X.ex\/X.s₀.heap.objs.size<=b)/\(∀x c,X.env.cells.lookup x=some c->c≠b)/\∀p∈X.pn++pins,p.1≠b
theorem Inv.fpOk {X:Cx}{pins:List (Addr×Obj)}{σ:St}{H H':Hp}{s:Shared}{b:Addr}(I:Inv X pins σ H s) (hb:s.heap.objs.size<=b) (hn:H' b=none):MB X pins H' b:=by
 refine⟨hn,Nat.ne_of_gt (zP I.lt hb),I.nofs hb,.inr (zN I.sz hb),λx c e z=>?_,λp hp z=>?_⟩;. obtain⟨v,q⟩:=I.cell x c e;exact absurd (zP q.lt (by rw[z];exact hb)) (yF _)
 . exact absurd (zP (zM (I.pin p hp).1) (by rw[z];exact hb)) (yF _)
structure Turn (P:Program) (w:World) (K:Frg) (tg:Expr) (J:It) (fp:List Addr) (it:Addr) (tn:Nat->Heap->Prop):Prop where
 mem:it∈fp
 obj:∀i h,tn i h->∀b∈fp,∃o,h.get? b=some o/\∀v,o.data≠.cell v
 keep:∀i h h',tn i h->(∀b∈fp,∀o,h.get? b=some o->h'.get? b=some o)->tn i h'
 item:∀(X:Cx),X.prog=P->X.w=w->X.K=K->X.calm=true->∀(i:Nat) (pins:List (Addr×Obj)) (s:Shared) (σ:St) (H:Hp) (E:Value->Shared->Prop),Inv X pins σ H s->(∀b∈fp,MB X pins H b)->tn i s.heap->J.go i H ->
   wpAny (model P w) X.A (pyNext (.ref it)) (λr s1=>∃u,r=some u /\
     wpAny (model P w) X.A (letOwnedTupleGo tg (.ref it) u) (λ_ s2=>∃x H',Inv X pins σ H' s2/\RelV x u/\J.yld i H x H'/\tn (i+1) s2.heap/\∀b∈fp,H' b=none) E s1) E s
 done:∀(X:Cx),X.prog=P->X.w=w->X.K=K->X.calm=true->∀(i:Nat) (pins:List (Addr×Obj)) (s:Shared) (σ:St) (H:Hp) (E:Value->Shared->Prop),Inv X pins σ H s->(∀b∈fp,MB X pins H b)->tn i s.heap->J.stop i H ->
   wpAny (model P w) X.A (pyNext (.ref it)) (λr s1=>r=none/\Inv X pins σ H s1) E s
 self:∀(A:Around) (i:Nat) (s:Shared) (Q:Value->Shared->Prop) (E:Value->Shared->Prop),tn i s.heap->Q (.ref it) s->wpAny (model P w) A (pyIter (.ref it)) Q E s
abbrev TI:=St->Hp->(It->Hp->Prop)->Prop
def PIE (X:Cx) (pins:List (Addr×Obj)) (σ:St) (tg:Expr) (R:It->Hp->Prop) (k5:Value) (s2:Shared):Prop:=∃(it:Addr) (fp:List Addr) (tn:Nat->Heap->Prop) (J:It) (H':Hp),k5 = .ref it/\Inv X pins σ H' s2/\Turn X.prog X.w X.K tg J fp it tn/\tn 0 s2.heap/\(∀b∈fp,MB X pins H' b)/\R J H'
def PI (X:Cx) (tg iter:Expr) (wi:TI):Prop:=∀(pins:List (Addr×Obj)) (s:Shared) (σ:St) (H:Hp) (R:It->Hp->Prop),Inv X pins σ H s->wi σ H R ->
   wpAny (model X.prog X.w) X.A (eval iter X.env) (λv s1=>wpAny (model X.prog X.w) X.A (pyIter v) (PIE X pins σ tg R) X.xe s1) X.xe s
theorem SN {M:Model}{A:Around}{E:Value->Shared->Prop}{s:Shared}{tg:Expr}{it:Addr}{u:Value}{o:Obj}{n:String}{vs:Array Value}{Q:Unit->Shared->Prop}(ho:s.heap.get? it=some o) (hc:o.cls = .type n) (hd:o.data = .fields vs) (hn:["enumerate", "zip", "dict_itemiterator", "dict_reverseitemiterator", "odict_iterator", "itertools.zip_longest", "itertools.pairwise"].contains n=false) (hQ:Q () s):wpAny M A (letOwnedTupleGo tg (.ref it) u) Q E s:=by
 unfold letOwnedTupleGo;cases tg <;> first
   | exact zY hQ
   | (cases u <;> first
       | exact zY hQ
       | (refine zZ (wpAny_load ho ?_)
          rw[hc,hd];show wpAny M A (if (["enumerate", "zip", "dict_itemiterator", "dict_reverseitemiterator", "odict_iterator", "itertools.zip_longest", "itertools.pairwise"].contains n&&vs[0]?==some (rawInt _))=true then _ else _) Q E s;rw[if_neg (by intro h;rw[hn,Bool.false_and] at h;cases h)];exact zY hQ))
def Itl (K:Frg) (a:Addr):It:=⟨λi H=>∃xs x,SqL K H a xs/\xs[i]?=some x,λi H x H'=>H'=H/\∀xs,SqL K H a xs->xs[i]?=some x,λi H=>∃xs,SqL K H a xs/\xs.length<=i⟩
def Itt (K:Frg) (a:Addr):It:=⟨λi H=>∃xs x,SqT K H a xs/\xs[i]?=some x,λi H x H'=>H'=H/\∀xs,SqT K H a xs->xs[i]?=some x,λi H=>∃xs,SqT K H a xs/\xs.length<=i⟩
def Itr (lo:Int) (n:Nat):It:=⟨λi _=>i < n,λi H x H'=>H'=H/\x = .int (lo+i),λi _=>n<=i⟩
theorem U0 {P:Program}{w:World}{K:Frg}{tg:Expr}(a it:Addr):Turn P w K tg (Itl K a) [it] it (λi h=>h.IsListIter it a i) where
 mem:=by simp
 obj:=λi h st b hb=>by
   have e:b=it:=by simpa using hb
   subst e;obtain⟨o,e,c,d⟩:=st;exact⟨o,e,λv z=>by rw[d] at z;cases z⟩
 keep:=λi h h' st k=>st.at λo e=>k it (by simp) o e
 item:=by intro X hP hw hK hc i pins s σ H E I hf st hg;subst hP hw hK;obtain⟨xs,x,hq,hx⟩:=hg;obtain⟨ab,rv,p,hz⟩:=I.list hq;obtain⟨u,hu,ru⟩:=rv.get hx;obtain⟨f0,f1,f2,f3,f4,f5⟩:=hf it (by simp);refine wpAny_pyNext_list_item st p.isList (x:=u) (by simpa using hu) λh' cq sb=>?_;have I1:Inv X pins σ H { s with heap:=h' }:=I.turned (t':=s.toks) (λb o hb e=>(sb.2 b hb).trans e) f0 f1 f3 f4 f5;obtain⟨o,e,c,d⟩:=id cq;exact⟨u,rfl,SN (s:={ s with heap:=h' }) e c d (by decide) ⟨x,H,I1,ru,⟨rfl,λys hy=>by rw[I.list_inj hy hq];exact hx⟩,cq,λb hb=>(hf b hb).1⟩⟩
 done:=by intro X hP hw hK hc i pins s σ H E I hf st hg;subst hP hw hK;obtain⟨xs,hq,hx⟩:=hg;obtain⟨ab,rv,p,hz⟩:=I.list hq;obtain⟨f0,f1,f2,f3,f4,f5⟩:=hf it (by simp);have hl:=rv.length;exact wpAny_pyNext_list_end (I.ok.hd hc) st p.isList (by simp;lia) λh' eb=>⟨rfl,I.turned (t':=s.toks) (λb o hb e=>eb b o hb e) f0 f1 f3 f4 f5⟩
 self:=λ_ _ _ _ _ st h=>wpAny_pyIter_listiter st h
theorem RF {P:Program}{w:World}{K:Frg}{tg:Expr}(a it:Addr):Turn P w K tg (Itt K a) [it] it (λi h=>h.IsTupleIter it a i) where
 mem:=by simp
 obj:=λi h st b hb=>by
   have e:b=it:=by simpa using hb
   subst e;obtain⟨o,e,c,d⟩:=st;exact⟨o,e,λv z=>by rw[d] at z;cases z⟩
 keep:=λi h h' st k=>st.at λo e=>k it (by simp) o e
 item:=by intro X hP hw hK hc i pins s σ H E I hf st hg;subst hP hw hK;obtain⟨xs,x,hq,hx⟩:=hg;obtain⟨ab,rv,p,hz⟩:=I.tuple hq;obtain⟨u,hu,ru⟩:=rv.get hx;obtain⟨f0,f1,f2,f3,f4,f5⟩:=hf it (by simp);refine wpAny_pyNext_tuple_item st (show s.heap.IsTuple a ab.toArray from p) (x:=u) (by simpa using hu) λh' cq sb=>?_;have I1:Inv X pins σ H { s with heap:=h' }:=I.turned (t':=s.toks) (λb o hb e=>(sb.2 b hb).trans e) f0 f1 f3 f4 f5;obtain⟨o,e,c,d⟩:=id cq;exact⟨u,rfl,SN (s:={ s with heap:=h' }) e c d (by decide) ⟨x,H,I1,ru,⟨rfl,λys hy=>by rw[I.tuple_inj hy hq];exact hx⟩,cq,λb hb=>(hf b hb).1⟩⟩
 done:=by intro X hP hw hK hc i pins s σ H E I hf st hg;subst hP hw hK;obtain⟨xs,hq,hx⟩:=hg;obtain⟨ab,rv,p,hz⟩:=I.tuple hq;obtain⟨f0,f1,f2,f3,f4,f5⟩:=hf it (by simp);have hl:=rv.length;exact wpAny_pyNext_tuple_end (I.ok.hd hc) st (show s.heap.IsTuple a ab.toArray from p) (by simp;lia) λh' eb=>⟨rfl,I.turned (t':=s.toks) (λb o hb e=>eb b o hb e) f0 f1 f3 f4 f5⟩
 self:=λ_ _ _ _ _ st h=>wpAny_pyIter_tupleiter st h
theorem RG {P:Program}{w:World}{K:Frg}{tg:Expr}(it:Addr) (lo:Int) (n:Nat):Turn P w K tg (Itr lo n) [it] it (λi h=>IsRangeIter h it (lo+(i:Nat)*1) ((n:Int) - (i:Nat)) 1) where
 mem:=by simp
 obj:=λi h st b hb=>by
   have e:b=it:=by simpa using hb
   subst e;exact⟨_,st,λv z=>by have z':Data.fields _=Data.cell v:=z;cases z'⟩
 keep:=λi h h' st k=>k it (by simp) _ st
 item:=by intro X hP hw hK hc i pins s σ H E I hf st hg;subst hP hw hK;obtain⟨f0,f1,f2,f3,f4,f5⟩:=hf it (by simp);have W:=Walks.range (prog:=X.prog) (w:=X.w) (I.ok.hd hc) it lo 1 n;refine W.item i s _ _ hg st λv h' tk hv cq kk=>?_;obtain⟨t,rfl⟩:=hv;have I1:Inv X pins σ H { s with heap:=h',toks:=tk }:=I.turned (λb o hb e=>kk b o (by simpa using hb) e) f0 f1 f3 f4 f5;refine⟨_,rfl,SN (s:={ s with heap:=h',toks:=tk }) (n:= "range_iterator") cq rfl rfl (by decide) ⟨.int (lo+i),H,I1,⟨t,?_⟩,⟨rfl,rfl⟩,cq,λb hb=>(hf b hb).1⟩⟩;rw[Int.mul_one]
 done:=by intro X hP hw hK hc i pins s σ H E I hf st hg;subst hP hw hK;obtain⟨f0,f1,f2,f3,f4,f5⟩:=hf it (by simp);exact wpAny_pyNext_range_end (I.ok.hd hc) st (by have:n<=i:=hg;lia) λh' eb=>⟨rfl,I.turned (t':=s.toks) (λb o hb e=>eb b o hb e) f0 f1 f3 f4 f5⟩
 self:=λ_ _ _ _ _ st h=>wpAny_pyIter_rangeiter st h
section
variable {X:Cx}{tg:Expr}
theorem VD {pins:List (Addr×Obj)}{σ:St}{H:Hp}{s:Shared}{R:It->Hp->Prop}{E:Value->Shared->Prop}{lo hi:Int}{t u v:Tok}{tk:Nat}(I:Inv X pins σ H s) (h1 : -(2 ^ 62)<=lo) (h2:lo < 2 ^ 62) (h3 : -(2 ^ 62)<=hi) (h4:hi < 2 ^ 62) (q:R (Itr lo (hi - lo).toNat) H):wpAny (model X.prog X.w) X.A (pyIter (.ref s.heap.objs.size)) (PIE X pins σ tg R) E { s with heap:=s.heap.push { cls:=.type "range", data:=.fields #[.int lo t,.int hi u,.int 1 v] },toks:=tk }:=by
 refine wpAny_pyIter_range (IsRange.new ..) (small_one h1 h2 h3 h4) ?_;have I1:Inv X pins σ H { s with heap:=s.heap.push { cls:=.type "range", data:=.fields #[.int lo t,.int hi u,.int 1 v] },toks:=tk }:=I.kept λb o e=>zW _ e;refine⟨(s.heap.push { cls:=.type "range", data:=.fields #[.int lo t,.int hi u,.int 1 v] }).objs.size,[(s.heap.push { cls:=.type "range", data:=.fields #[.int lo t,.int hi u,.int 1 v] }).objs.size],_,_,H,rfl,
   I1.kept (t':=tk) λb o e=>zW _ e,RG _ lo (hi - lo).toNat,?_,λb hb=>?_,q⟩
 . have e1:lo+((0:Nat):Int)*1=lo:=by simp
   have e2:(((hi - lo).toNat:Nat):Int) - ((0:Nat):Int)=Builtin.Range.rangeSize lo hi 1:=by rw[rangeSize_one];split <;> lia
   show IsRangeIter _ _ (lo+((0:Nat):Int)*1) ((((hi - lo).toNat:Nat):Int) - ((0:Nat):Int)) 1;rw[e1,e2];exact yZ _ rfl
 . have e:b=(s.heap.push { cls:=.type "range", data:=.fields #[.int lo t,.int hi u,.int 1 v] }).objs.size:=by simpa using hb
   subst e;exact I1.fpOk (zR _) (I1.hok.fresh (zR _))
def aL (ta:TA):TI:=λσ H R=>ta σ H λvs H1=>∃j:Int,vs=[.int j]/\-(2 ^ 62)<=j/\j < 2 ^ 62/\R (Itr 0 j.toNat) H1
theorem U1 {a:Expr}{ta:TA}{p pos:Pos}(hg:Gl X "range") (hm:X.mg "range"=none) (ha:PA X [a] ta) (hs:starEach [a] X.env=[(false,eval a X.env)]:=by rfl):PI X tg (.Call (.Name "range" p) [a] [] pos) (aL ta):=by
 intro pins s σ H R I h;refine Call_ (NQ I hg hm boot_range (PyProof.Rows.callWith_type1 (thn (ha pos pins s σ H _ I h) λus s1 ⟨vs,H1,I1,r1,q1⟩=>?_) hs rfl));obtain⟨j,e,q1,q2,q⟩:=q1;subst e;cases r1 with
 | cons r rr=> cases rr;obtain⟨t,rfl⟩:=r;exact call_range_1 (VD I1 (by lia) (by lia) q1 q2 (by simpa using q))
def fS (wi:TI) (g:TG) (tb:TS):TS:=λD σ H=>wi σ H λJ H1=>∃W:Nat->Nat->St->Hp->Prop,(∃m,W 0 m σ H1)/\∀i m σ H,W i m σ H ->(J.stop i H/\D.nx σ H)\/(J.go i H/\∃N:St->Hp->Prop,(∀σ' H',N σ' H'->∃m',m' < m/\W (i+1) m' σ' H')/\∀x H',J.yld i H x H'->g x σ H' λσ2 H2=>tb { D with nx:=N,ct:=N,bk:=D.nx } σ2 H2)
def KM (fp:List Addr) (h:Heap):List (Addr×Obj):=fp.filterMap λb=>(h.get? b).map λo=>(b,o)
theorem F9 {fp:List Addr}{h:Heap}{b:Addr}{o:Obj}(hb:b∈fp) (e:h.get? b=some o):(b,o)∈KM fp h:=List.mem_filterMap.mpr ⟨b,hb,by rw[e];rfl⟩
theorem U2 {fp:List Addr}{h:Heap}{p:Addr×Obj}(hp:p∈KM fp h):p.1∈fp/\h.get? p.1=some p.2:=by
 obtain⟨b,hb,e⟩:=List.mem_filterMap.mp hp;cases q:h.get? b with
 | none=>rw[q] at e;cases e
 | some o=> rw[q] at e;have e':(b,o)=p:=Option.some.inj e;subst e';exact⟨hb,q⟩
theorem Inv.pinned {pins:List (Addr×Obj)}{σ:St}{H:Hp}{s:Shared}{fp:List Addr}(I:Inv X pins σ H s) (hf:∀b∈fp,MB X pins H b) (ho:∀b∈fp,∃o,s.heap.get? b=some o/\∀v,o.data≠.cell v):Inv X (pins++KM fp s.heap) σ H s:=
 I.pins_of λp hp=>(yW.mp hp).elim (λz=>I.pin p (zB _ z)) λz=>by obtain⟨hb,e⟩:=U2 z;obtain⟨f0,f1,f2,_⟩:=hf p.1 hb;obtain⟨o,e',d⟩:=ho p.1 hb;rw[e] at e';cases e';exact⟨e,f0,f1,f2,d⟩
theorem Inv.unpinned {pins pl:List (Addr×Obj)}{σ:St}{H:Hp}{s:Shared}(I:Inv X (pins++pl) σ H s):Inv X pins σ H s:=I.pins_of λp hp=>I.pin p (zB _ (zA _ hp))
theorem bX {iter:Expr}{body:List Stmt}{wi:TI}{g:TG}{tb:TS}{pos:Pos}(hp:PassesOwn (model X.prog X.w) X.A X.env X.xe) (hc:X.calm=true) (hi:PI X tg iter wi) (hg:PG X tg g) (hb:PSs X body tb) (hs:∀x,foldedSetIterable iter X.env x=pure x:=by intro _;rfl):PS X (.For tg iter body [] pos) (fS wi g tb):=by
 intro pins s σ H D I h;refine wpAny_For (thn (hi pins s σ H _ I h) λv s1 h1=>thn h1 λk5 s2 h2=>?_) hs;obtain⟨it,fp,tn,J,H2,e,I2,T,ef,f2,W,⟨m0,w0⟩,turn⟩:=h2;subst e;have stat:∀{H':Hp},(∀b∈fp,H' b=none)->∀b∈fp,MB X pins H' b:=λhn b hb=>⟨hn b hb,(f2 b hb).2⟩
 refine codeAny_forLoop_any (λn s'=>∃i σ' H',Inv X pins σ' H' s'/\tn i s'.heap/\(∀b∈fp,H' b=none)/\W i n σ' H') ?_ m0 ⟨0,σ,H2,I2,ef,λb hb=>(f2 b hb).1,w0⟩;rintro n s3 ⟨i,σ3,H3,I3,eh,lB,w3⟩;rcases turn i n σ3 H3 w3 with ⟨stop,qn⟩ | ⟨go,N,hN,step⟩
 . refine wpAny_passesOwn hp (thn (T.done X rfl rfl rfl hc i pins s3 σ3 H3 X.xe I3 (stat lB) eh stop) λr s4 ⟨hr,I4⟩=>?_);subst hr;exact wpAny_execs_nil ⟨σ3,H3,I4,qn⟩
 . refine wpAny_passesOwn hp (thn (T.item X rfl rfl rfl hc i pins s3 σ3 H3 X.xe I3 (stat lB) eh go) λr s4 ⟨u,hr,h4⟩=>?_);subst hr;refine wpAny_passesOwn hp (thn h4 λ_ s5 ⟨x,H5,I5,r5,y5,eu,jP⟩=>?_);have mN:=I5.pinned (stat jP) (T.obj _ _ eu);refine wpAny_passesOwn hp (thn (hg _ s5 σ3 H5 x u _ mN r5 (step x H5 y5)) λ_ s6 ⟨σ6,H6,I6,q6⟩=>?_);refine wpAny_passesOwn hp (thn (hb _ s6 σ6 H6 _ I6 q6) λf s7 q7=>?_);have again:∀{σ7:St}{H7:Hp},Inv X (pins++KM fp s5.heap) σ7 H7 s7->N σ7 H7->∃m,m < n/\∃i σ' H',Inv X pins σ' H' s7/\tn i s7.heap/\(∀b∈fp,H' b=none)/\W i m σ' H':=λ{σ7 H7} I7 n7=>by obtain⟨m',hm,w7⟩:=hN σ7 H7 n7;refine⟨m',hm,i+1,σ7,H7,I7.unpinned,T.keep _ _ _ eu λb hb o e=>(I7.pin (b,o) (zB _ (zB _ (F9 hb e)))).1,λb hb=>?_,w7⟩;obtain⟨o,e,d⟩:=T.obj _ _ eu b hb;exact(I7.pin (b,o) (zB _ (zB _ (F9 hb e)))).2.1
   cases f with
   | next=>obtain⟨σ7,H7,I7,n7⟩:=q7;exact again I7 n7
   | cont=>obtain⟨σ7,H7,I7,n7⟩:=q7;exact again I7 n7
   | brk=>obtain⟨σ7,H7,I7,q7⟩:=q7;exact⟨σ7,H7,I7.unpinned,q7⟩
   | ret v=>obtain⟨x7,σ7,H7,I7,r7,q7⟩:=q7;exact⟨x7,σ7,H7,I7.unpinned,r7,q7⟩
end
abbrev R2:=V->V->Hp->VK->Prop
def OpR (X:Cx) (f:Value->Value->Sem Value) (r:R2):Prop:=∀(pins:List (Addr×Obj)) (s:Shared) (σ:St) (H:Hp) (x y:V) (v u:Value) (Q:VK),Inv X pins σ H s->RelV x v->RelV y u->r x y H Q ->
   wpAny (model X.prog X.w) X.A (f v u) (EP X pins σ Q) X.xe s
def UnR (X:Cx) (f:Value->Sem Value) (r:V->Hp->VK->Prop):Prop:=∀(pins:List (Addr×Obj)) (s:Shared) (σ:St) (H:Hp) (x:V) (v:Value) (Q:VK),Inv X pins σ H s->RelV x v->r x H Q ->
   wpAny (model X.prog X.w) X.A (f v) (EP X pins σ Q) X.xe s
def BP (X:Cx) (f:Value) (r:List V->Hp->VK->Prop):Prop:=∀(pins:List (Addr×Obj)) (s:Shared) (σ:St) (H:Hp) (xs:List V) (us:List Value) (Q:VK),Inv X pins σ H s->Vals xs us->r xs H Q ->
   wpAny (model X.prog X.w) X.A (call f us) (EP X pins σ Q) X.xe s
def tOp (r:R2) (ta tb:TE):TE:=λσ H Q=>ta σ H λx H1=>tb σ H1 λy H2=>r x y H2 Q
def tUn (r:V->Hp->VK->Prop) (ta:TE):TE:=λσ H Q=>ta σ H λx H1=>r x H1 Q
def rI (C:Int->Int->Prop) (g:Int->Int->V):R2:=λx y H Q=>∃i j,x = .int i/\y = .int j/\C i j/\Q (g i j) H
def rI0 (g:Int->Int->V):R2:=λx y H Q=>∃i j,x = .int i/\y = .int j/\Q (g i j) H
def rU (g:Int->V):V->Hp->VK->Prop:=λx H Q=>∃i,x = .int i/\Q (g i) H
section
variable {X:Cx}{a b c:Expr}{ta tb tc:TE}{pos:Pos}
theorem bY (ha:PE X a ta) (hb:PE X b tb) {pins:List (Addr×Obj)}{s:Shared}{σ:St}{H:Hp}{R:V->V->Hp->Prop}(I:Inv X pins σ H s) (h:ta σ H λx H1=>tb σ H1 λy H2=>R x y H2) {Q:Value->Shared->Prop}{f:Value->Value->Sem Value} (hf:∀v u s2 x y H2,Inv X pins σ H2 s2->RelV x v->RelV y u->R x y H2->wpAny (model X.prog X.w) X.A (f v u) Q X.xe s2) :
   wpAny (model X.prog X.w) X.A (eval a X.env) (λv s₁=>wpAny (model X.prog X.w) X.A (eval b X.env) (λu s₂=>wpAny (model X.prog X.w) X.A (f v u) Q X.xe s₂) X.xe s₁) X.xe s:=by refine thn (ha pins s σ H _ I h) λv s1 ⟨x,H1,I1,r1,q1⟩=>?_;refine thn (hb pins s1 σ H1 _ I1 q1) λu s2 ⟨y,H2,I2,r2,q2⟩=>?_;exact hf v u s2 x y H2 I2 r1 r2 q2
theorem GN {op:Operator}{r:R2}(ho:OpR X (binaryOp op) r) (ha:PE X a ta) (hb:PE X b tb):PE X (.BinOp a op b pos) (tOp r ta tb):=by intro pins s σ H Q I h;exact wpAny_BinOp (bY ha hb I h λv u s2 x y H2 I2 rx ry q=>ho pins s2 σ H2 x y v u Q I2 rx ry q)
theorem fT {op:UnaryOp}{r:V->Hp->VK->Prop}(ho:UnR X (unaryOp op) r) (ha:PE X a ta):PE X (.UnaryOp op a pos) (tUn r ta):=by intro pins s σ H Q I h;exact UnaryOp_ (thn (ha pins s σ H _ I h) λv s1 ⟨x,H1,I1,r1,q1⟩=>ho pins s1 σ H1 x v Q I1 r1 q1)
theorem opI {f:Value->Value->Sem Value}{C:Int->Int->Prop}{g:Int->Int->Int} (rule:∀(i j:Int) (t u:Tok) (s:Shared) (Q:Value->Shared->Prop) (E:Value->Shared->Prop),C i j->Q (.int (g i j) s.toks) { s with toks:=s.toks+1 }->wpAny (model X.prog X.w) X.A (f (.int i t) (.int j u)) Q E s) :
   OpR X f (rI C λi j=>.int (g i j)):=by intro pins s σ H x y v u Q I rx ry h;obtain⟨i,j,rfl,rfl,hc,q⟩:=h;obtain⟨t,rfl⟩:=rx;obtain⟨t',rfl⟩:=ry;exact rule i j t t' s _ _ hc ⟨.int (g i j),H,I.tok _,⟨_,rfl⟩,q⟩
theorem fU {f:Value->Value->Sem Value}{g:Int->Int->Int} (rule:∀(i j:Int) (t u:Tok) (s:Shared) (Q:Value->Shared->Prop) (E:Value->Shared->Prop),Q (.int (g i j) s.toks) { s with toks:=s.toks+1 }->wpAny (model X.prog X.w) X.A (f (.int i t) (.int j u)) Q E s) :
   OpR X f (rI0 λi j=>.int (g i j)):=by intro pins s σ H x y v u Q I rx ry h;obtain⟨i,j,rfl,rfl,q⟩:=h;obtain⟨t,rfl⟩:=rx;obtain⟨t',rfl⟩:=ry;exact rule i j t t' s _ _ ⟨.int (g i j),H,I.tok _,⟨_,rfl⟩,q⟩
theorem bZ {f:Value->Value->Sem Value}{g:Int->Int->Bool} (rule:∀(i j:Int) (t u:Tok) (s:Shared) (Q:Value->Shared->Prop) (E:Value->Shared->Prop),Q (.bool (g i j)) s->wpAny (model X.prog X.w) X.A (f (.int i t) (.int j u)) Q E s) :
   OpR X f (rI0 λi j=>.bl (g i j)):=by intro pins s σ H x y v u Q I rx ry h;obtain⟨i,j,rfl,rfl,q⟩:=h;obtain⟨t,rfl⟩:=rx;obtain⟨t',rfl⟩:=ry;exact rule i j t t' s _ _ ⟨.bl (g i j),H,I,rfl,q⟩
def c5 (i j:Int):Prop:=0<=j/\j<=1000000/\i.natAbs < 2 ^ 64
def CMul (i j:Int):Prop:=(-(2 ^ 64) < i/\i < 2 ^ 64)\/(-(2 ^ 64) < j/\j < 2 ^ 64)
theorem CMul.ok {i j:Int}(h:CMul i j):IntMulOk i j:=by
 rcases h with ⟨h1,h2⟩ | ⟨h1,h2⟩
 . exact .of_left (intBits_le_64 h1 h2)
 . exact .of_right (intBits_le_64 h1 h2)
theorem c6:OpR X (binaryOp .Add) (rI0 λi j=>.int (i+j)):=fU λ_ _ _ _ _ _ _ q=>add_int q
theorem c7:OpR X (binaryOp .Sub) (rI0 λi j=>.int (i - j)):=fU λ_ _ _ _ _ _ _ q=>sub_int q
theorem c8:OpR X (binaryOp .Mod) (rI (λ_ j=>0 < j) λi j=>.int (i % j)):=opI λi j _ _ _ _ _ hc q=>by have h1:(0:Int) < j:=hc;exact mod_int' (by lia) (by rw[Int.fmod_eq_emod_of_nonneg i (by lia)];exact q)
theorem c9:OpR X (binaryOp .Pow) (rI c5 λi j=>.int (i ^ j.toNat)):=opI λ_ _ _ _ _ _ _ hc q=>pow_int_small hc.1 hc.2.1 hc.2.2 q
theorem cA:OpR X (binaryOp .LShift) (rI c5 λi j=>.int (i*2 ^ j.toNat)):=opI λ_ _ _ _ _ _ _ hc q=>lshift_int_small hc.1 hc.2.1 hc.2.2 q
theorem unI {f:Value->Sem Value}{g:Int->Int} (rule:∀(i:Int) (t:Tok) (s:Shared) (Q:Value->Shared->Prop) (E:Value->Shared->Prop),Q (.int (g i) s.toks) { s with toks:=s.toks+1 }->wpAny (model X.prog X.w) X.A (f (.int i t)) Q E s) :
   UnR X f (rU λi=>.int (g i)):=by intro pins s σ H x v Q I rx h;obtain⟨i,rfl,q⟩:=h;obtain⟨t,rfl⟩:=rx;exact rule i t s _ _ ⟨.int (g i),H,I.tok _,⟨_,rfl⟩,q⟩
theorem cB:UnR X (unaryOp .USub) (rU λi=>.int (-i)):=unI λ_ _ _ _ _ q=>neg_int q
theorem NT {pins:List (Addr×Obj)}{σ:St}{H:Hp}{s:Shared}{Q:VK}{k k':Bool}(I:Inv X pins σ H s) (q:Q (.bl k) H) (e:k=k'):EP X pins σ Q (.bool k') s:=by subst e;exact⟨.bl k,H,I,rfl,q⟩
theorem fV:OpR X (compareOp .Lt) (rI0 λi j=>.bl (decide (i < j))):=bZ λ_ _ _ _ _ _ _ q=>lt_int q
theorem aM:OpR X (compareOp .Gt) (rI0 λi j=>.bl (decide (j < i))):=bZ λ_ _ _ _ _ _ _ q=>gt_int q
theorem aN:OpR X (compareOp .GtE) (rI0 λi j=>.bl (decide (j<=i))):=bZ λ_ _ _ _ _ _ _ q=>ge_int q
theorem U3:OpR X (compareOp .Lt) (λx y H Q=>∃i j,x = .str i/\y = .str j/\Q (.bl (decide (i.cps.toList < j.cps.toList))) H):=by intro pins s σ H x y v u Q I rx ry h;obtain⟨i,j,rfl,rfl,q⟩:=h;obtain⟨t,rfl⟩:=rx;obtain⟨t',rfl⟩:=ry;exact lt_str (NT I q rfl)
theorem U4:OpR X (compareOp .In) (λx y H Q=>∃i j,x = .str i/\y = .str j/\Q (.bl (!(a7W j i 0 j.length 1).isEmpty)) H):=by intro pins s σ H x y v u Q I rx ry h;obtain⟨i,j,rfl,rfl,q⟩:=h;obtain⟨t,rfl⟩:=rx;obtain⟨t',rfl⟩:=ry;exact in_str (NT I q rfl)
theorem cC:OpR X (compareOp .Is) (λx y H Q=>y = .non/\Q (.bl (decide (x = .non))) H):=by
 intro pins s σ H x y v u Q I rx ry h;obtain⟨rfl,q⟩:=h;cases ry;refine is_none_gen (NT I q ?_);cases x <;> first
   | (cases rx;rfl)
   | (obtain⟨t,rfl⟩:=rx;rfl)
theorem NU:OpR X (compareOp .NotIn) (λx y H Q=>∃i j,x = .str i/\y = .str j/\Q (.bl (!(!(a7W j i 0 j.length 1).isEmpty))) H):=by intro pins s σ H x y v u Q I rx ry h;obtain⟨i,j,rfl,rfl,q⟩:=h;obtain⟨t,rfl⟩:=rx;obtain⟨t',rfl⟩:=ry;exact notIn_str (NT I q rfl)
theorem OpR.or {f:Value->Value->Sem Value}{r r':R2}(h:OpR X f r) (h':OpR X f r'):OpR X f (λx y H Q=>r x y H Q\/r' x y H Q):=by
 intro pins s σ H x y v u Q I rx ry q;rcases q with q | q;. exact h pins s σ H x y v u Q I rx ry q
 . exact h' pins s σ H x y v u Q I rx ry q
theorem CZ (b:Expr) {op:CmpOp}(h:op≠.In:=by decide) (h2:op≠.NotIn:=by decide):behindInMarks op b=false:=by
 have e1:(op==CmpOp.In)=false:=by cases op <;> first | rfl | exact absurd rfl h
 have e2:(op==CmpOp.NotIn)=false:=by cases op <;> first | rfl | exact absurd rfl h2
 cases b <;> simp[behindInMarks,e1,e2]
theorem G5 {op:CmpOp}{r:R2}(ho:OpR X (compareOp op) r) (ha:PE X a ta) (hb:PE X b tb) (hm:behindInMarks op b=false):PE X (.Compare a [op] [b] pos) (tOp r ta tb):=by intro pins s σ H Q I h;exact wpAny_Compare1 (bY ha hb I h λv u s2 x y H2 I2 rx ry q=>ho pins s2 σ H2 x y v u Q I2 rx ry q) hm
def aO (t:TE):TT:=λσ H Q=>t σ H λx H'=>∃k,x = .bl k/\Q k H'
theorem D5 {op:CmpOp}{r:R2}(ho:OpR X (compareOp op) r) (ha:PE X a ta) (hb:PE X b tb) (hm:behindInMarks op b=false):PT X (.Compare a [op] [b] pos) (aO (tOp r ta tb)):=by
 intro pins s σ H Q I h;refine wpAny_isTrue_Compare1 (thn (ha pins s σ H _ I h) λv s1 ⟨x,H1,I1,r1,q1⟩=>thn (hb pins s1 σ H1 _ I1 q1) λu s2 ⟨y,H2,I2,r2,q2⟩=>
   thn (ho pins s2 σ H2 x y v u _ I2 r1 r2 q2) λc s3 ⟨z,H3,I3,r3,k,e,q3⟩=>?_) hm;subst e;cases r3;exact wpAny_truthy_bool ⟨H3,I3,q3⟩
theorem NV:(sizeLine:Nat) < 2 ^ 63:=by rw[sizeLine_eq];decide
theorem RH:OpR X (binaryOp .Add) (λx y H Q=>∃i j,x = .str i/\y = .str j/\i.length+j.length<=sizeLine/\Q (.str (i++j)) H):=by intro pins s σ H x y v u Q I rx ry h;obtain⟨i,j,rfl,rfl,hz,q⟩:=h;obtain⟨t,rfl⟩:=rx;obtain⟨t',rfl⟩:=ry;exact add_str (λt' tk=>⟨.str (i++j),H,I.tok _,⟨_,rfl⟩,q⟩) hz
theorem GO {x:V}{us:List Value}(r:Vals [x] us):∃u,us=[u]/\RelV x u:=by
 cases r with
 | cons r1 r2=>cases r2;exact⟨_,rfl,r1⟩
theorem fW {x y:V}{us:List Value}(r:Vals [x,y] us):∃u w',us=[u,w']/\RelV x u/\RelV y w':=by
 cases r with
 | cons r1 r2=>
   cases r2 with
   | cons r3 r4=>cases r4;exact⟨_,_,rfl,r1,r3⟩
def cD (K:Frg) (x:V) (H:Hp) (n:Nat):Prop:=
 match x with
 | .str y=>y.length<=sizeLine/\n=y.length
 | .byt y=>y.size<=sizeLine/\n=y.size
 | .ref p=>(∃xs,SqL K H p xs/\n=xs.length)\/∃xs,SqT K H p xs/\n=xs.length
 | _=>False
theorem VE:BP X (.builtin "len") (λxs H Q=>∃x n,xs=[x]/\cD X.K x H n/\Q (.int n) H):=by
 intro pins s σ H xs us Q I r h;obtain⟨x,n,rfl,e,q⟩:=h;obtain⟨u,rfl,rx⟩:=GO r;have hl:=NV;have hs:sizeLine=16777216:=sizeLine_eq;cases x with
 | str y=> obtain⟨t,rfl⟩:=rx;obtain⟨hy,e'⟩:y.length<=sizeLine/\n=y.length:=e;subst e';exact len_str (by lia) ⟨.int _,H,I.tok _,⟨_,rfl⟩,q⟩
 | byt y=> obtain⟨t,rfl⟩:=rx;obtain⟨hy,e'⟩:y.size<=sizeLine/\n=y.size:=e;subst e';exact PySem.W.len_bytes (by lia) ⟨.int _,H,I.tok _,⟨_,rfl⟩,q⟩
 | ref p=>
   cases rx;have e':(∃xs,SqL X.K H p xs/\n=xs.length)\/∃xs,SqT X.K H p xs/\n=xs.length:=e;rcases e' with ⟨xs,hx,e'⟩ | ⟨xs,hx,e'⟩
   . subst e';obtain⟨ab,r',pl,hz⟩:=I.list hx;have ac:=r'.length;exact Calls.call_len_list pl.isList (by simp only[zJ];lia) ⟨.int xs.length,H,I.tok _,⟨_,by simp only[zJ];rw[ac]⟩,q⟩
   . subst e';obtain⟨ab,r',pl,hz⟩:=I.tuple hx;have ac:=r'.length;exact len_tuple pl (by simp only[zJ];lia) ⟨.int xs.length,H,I.tok _,⟨_,by simp only[zJ];rw[ac]⟩,q⟩
 | _=>exact(show False from e).elim
end
structure ObjM (h:Heap) (x dx C:Addr) (mA:Str->Option Value):Prop where
 obj:h.get? x=some (PySem.W.instObj C dx)
 ns:h.Ns1 dx mA
 ne:dx≠x
theorem U5 {h:Heap}{dx:Addr}{mA:Str->Option Value}(n:h.Ns1 dx mA):∃od,h.get? dx=some od/\∀name,PySem.W.lookIn name od=some (mA name):=by
 obtain⟨o,es,ep,ho,hd,hk,_,hm⟩:=n;refine⟨o,ho,λname=>?_⟩;have e:=hm name;unfold nsFind findBy at e;rw[<-Array.find?_toList] at e;unfold PySem.W.lookIn;rw[hd];dsimp only;split;. rename_i y q;rw[q] at e;exact congrArg some e
 . rename_i q;rw[q] at e;have a:es.toList.any (·.refKey)=false:=by rw[List.any_eq_false];intro y hy;obtain⟨z,t,ip⟩:=hk y (Array.mem_toList_iff.mp hy);simp[DictEntry.refKey,ip]
   have a':¬es.toList.any (·.refKey)=true:=by rw[a];exact nft
   rw[if_neg a'];exact congrArg some e
theorem ObjM.look {h:Heap}{x dx C:Addr}{mA:Str->Option Value}(I:ObjM h x dx C mA):∃od,PySem.W.InstAt h x (PySem.W.instObj C dx) C (some od)/\∀name,PySem.W.lookIn name od=some (mA name):=
 let ⟨od,ho,hl⟩:=U5 I.ns
 ⟨od,⟨I.obj,rfl,rfl,ho⟩,hl⟩
theorem RelO.some_of {v:V}{o:Option Value}(r:RelO (some v) o):∃u,o=some u/\RelV v u:=by
 cases o with
 | none=>exact(show False from r).elim
 | some u=>exact⟨u,rfl,r⟩
section
variable {P:Program}{w:World}{H H':Hp}{h h':Heap}{a C dx:Addr}{fs mK:List (Str×V)}
theorem YB (hok:HOk P w H h) (e:H a=some (.ins C dx fs)):∃mA,ObjM h a dx C mA/\(∀f,RelO (fs.lookup f) (mA f))/\PySem.Within mA (fs.map (·.1))/\fs.length<=1000/\H dx=some (.own a):=by
 obtain⟨d,z,ne,ob,mA,n,r,q⟩:=(show ObjOk P w H h a (.ins C dx fs) from hok a _ e)
 exact⟨mA,⟨ob,n,ne⟩,r,q,z,d⟩
end
structure Cls (K:Frg) (C:Addr):Prop where
 pg:PySem.W.plainGet K C Str.empty=true
 hd:PySem.W.hasDictIn K C=true
 po:PySem.W.plainOver K C=true
 sa:PySem.W.findIn K (.ref C) "__setattr__"=some (some (.builtin "object.__setattr__"))
theorem Cls.get {K:Frg}{C:Addr}(c:Cls K C) (f:Str):PySem.W.plainGet K C f=true:=c.pg
section
variable {X:Cx}{pins:List (Addr×Obj)}{σ:St}{H:Hp}{s:Shared}{A:Around}{E:Value->Shared->Prop}{Q:Value->Shared->Prop}{c:Value}{b:Bool}
inductive TyOf (K:Frg) (H:Hp):V->Value->Prop where
 | non:TyOf K H .non (.type "NoneType")
 | bl (x:Bool):TyOf K H (.bl x) (.type "bool")
 | int (i:Int):TyOf K H (.int i) (.type "int")
 | str (x:Str):TyOf K H (.str x) (.type "str")
 | flt (x:UInt64):TyOf K H (.flt x) (.type "float")
 | lst {a:Addr}{xs:List V}(e:H a=some (.lst xs)):TyOf K H (.ref a) (.type "list")
 | frz {a:Addr}{o:Obj}{xs:List V}(e:H a=some (.frz o (.lst xs))):TyOf K H (.ref a) (.type "list")
 | tup {a:Addr}{xs:List V}(e:H a=some (.tup xs)):TyOf K H (.ref a) (.type "tuple")
 | dK {a:Addr}{kvs:List (Key×V)}(e:H a=some (.dK kvs)):TyOf K H (.ref a) (.type "dict")
 | dT {a:Addr}{kvs:List (List Key×V)}(e:H a=some (.dT kvs)):TyOf K H (.ref a) (.type "dict")
 | ins {a C dx:Addr}{fs:List (Str×V)}(e:H a=some (.ins C dx fs)) (cl:Cls K C) (ha:PySem.W.findIn K (.ref C) "__class__"=some (some (.builtin "object.__class__"))) (hn:PySem.W.specialIn K (.builtin "object.__class__") "__get__"=some (some (.builtin "getset_descriptor.__get__"))) (htk:PySem.W.takesIn K (.builtin "object.__class__")=some true) (hm:PySem.W.mroIn K C (.type "object")=some true):TyOf K H (.ref a) (.ref C)
theorem EM {x:V}{u t:Value}(I:Inv X pins σ H s) (rx:RelV x u) (ty:TyOf X.K H x t) (e:PySem.W.kitOne X.K t c=some b) (h:∀tk,Q (.bool b) { s with toks:=tk }) :
   wpAny (model X.prog X.w) A (call (.builtin "isinstance") [u,c]) Q E s:=by
 cases ty with
 | non=>cases (show u=a5Z from rx);exact a1Z PySem.W.kitx_none I.kIn a5J e (λz=>nomatch z) h
 | bl y=>cases (show u=Value.bool y from rx);exact a1Z PySem.W.kitx_bool I.kIn a5J e (λz=>nomatch z) h
 | int i=>obtain⟨t,q⟩:=(show ∃t,u=Value.int i t from rx);cases q;exact a1Z PySem.W.kitx_int I.kIn a5J e (λz=>nomatch z) h
 | str y=>obtain⟨t,q⟩:=(show ∃t,u=b3Q y t from rx);cases q;exact a1Z PySem.W.kitx_str I.kIn a5J e (λz=>nomatch z) h
 | flt y=>obtain⟨t,q⟩:=(show ∃t,u=Value.float y t from rx);cases q;exact a1Z PySem.W.kitx_float I.kIn a5J e (λz=>nomatch z) h
 | @lst a xs ea=>
   cases (show u=a0X a from rx);obtain⟨_,_,n,_,h1⟩:=(show ObjOk X.prog X.w H s.heap a (.lst xs) from I.hok a _ ea)
   exact a1Z PySem.W.kitx_list I.kIn ⟨_,h1,rfl⟩ e (λz=>nomatch z) h
 | @frz a ob xs ea=>
   cases (show u=a0X a from rx);obtain⟨_,_,_,n,_,h1⟩:=(show ObjOk X.prog X.w H s.heap a (.frz ob (.lst xs)) from I.hok a _ ea)
   exact a1Z PySem.W.kitx_list I.kIn ⟨_,h1,rfl⟩ e (λz=>nomatch z) h
 | @tup a xs ea=>
   cases (show u=a0X a from rx);obtain⟨_,_,_,p⟩:=(show ObjOk X.prog X.w H s.heap a (.tup xs) from I.hok a _ ea)
   obtain⟨o,h1,h2,_⟩:=p;exact a1Z PySem.W.kitx_tuple I.kIn ⟨o,h1,h2⟩ e (λz=>nomatch z) h
 | @dK a kvs ea=>
   cases (show u=a0X a from rx);obtain⟨_,_,vs,_,p⟩:=(show ObjOk X.prog X.w H s.heap a (.dK kvs) from I.hok a _ ea)
   obtain⟨o,es,ep,h1,h2,_⟩:=p;exact a1Z PySem.W.kitx_dict I.kIn ⟨o,h1,h2.1⟩ e (λz=>nomatch z) h
 | @dT a kvs ea=>
   cases (show u=a0X a from rx);obtain⟨_,_,xs,_,o,es,ep,h1,h2,_⟩:=(show ObjOk X.prog X.w H s.heap a (.dT kvs) from I.hok a _ ea)
   exact a1Z PySem.W.kitx_dict I.kIn ⟨o,h1,h2.1⟩ e (λz=>nomatch z) h
 | @ins a C dx fs ea cl ha hn htk hm=> cases (show u=a0X a from rx);obtain⟨mA,O,_⟩:=YB I.hok ea;obtain⟨od,J,_⟩:=O.look;exact a1Z (PySem.W.kitx_own (cl.get _) cl.hd ha hn htk hm) I.kIn J e (λz=>nomatch z) h
end
structure Room (k:Nat) (A:Around):Prop where
 hd:A.handled=none
 dp:A.depth+3*k+5 < recursionLimit
 un:A.units+16*k+200 < cLine
theorem Room.mono {j k:Nat}{A:Around}(r:Room k A) (h:j<=k):Room j A:=⟨r.hd,by have:=r.dp;lia,by have:=r.un;lia⟩
theorem Room.deeper {k:Nat}{A:Around}(r:Room (k+1) A) (env:Env):Room k (A.deeper env):=⟨r.hd,by have:=r.dp;show A.depth+1+3*k+5 < _;lia,by have:=r.un;show A.units+3+16*k+200 < _;lia⟩
theorem Room.depth {k:Nat}{A:Around}(r:Room k A):A.depth < recursionLimit:=by have:=r.dp;lia
theorem Room.units {k:Nat}{A:Around}(r:Room k A):A.units+64 < cLine:=by have:=r.un;lia
def fX:TA:=λ_ H Q=>Q [] H
def aP (ta:TE) (tr:TA):TA:=λσ H Q=>ta σ H λx H1=>tr σ H1 λxs H2=>Q (x::xs) H2
section
variable {X:Cx}{e:Expr}{es:List Expr}{te:TE}{t:TA}{pos:Pos}
theorem cF:PA X [] fX:=λ_ _ _ _ H Q I h=>Calls.spliced_nil ⟨[],H,I,.nil,h⟩
theorem YC (ha:PE X e te) (hr:PA X es t) (hs:starEach (e::es) X.env=(false,eval e X.env)::starEach es X.env:=by rfl):PA X (e::es) (aP te t):=by intro pos pins s σ H Q I h;rw[hs];show wpAny _ _ (spliced ((false,eval e X.env)::backTo pos (starEach es X.env))) _ _ s;refine Calls.spliced_cons (thn (ha pins s σ H _ I h) λu s1 ⟨x,H1,I1,r1,q1⟩=>?_);exact thn (hr pos pins s1 σ H1 _ I1 q1) λus s2 ⟨xs,H2,I2,r2,q2⟩=>⟨x::xs,H2,I2,.cons r1 r2,q2⟩
def fY (t:TA):TE:=λσ H Q=>t σ H λxs H1=>xs.length<=sizeLine/\∀p,H1 p=none->Q (.ref p) (upd H1 p (.tup xs))
def cG (t:TA):TE:=λσ H Q=>t σ H λxs H1=>xs.length<=sizeLine/\∀p,H1 p=none->Q (.ref p) (upd H1 p (.lst xs))
theorem cH {x1} (h:PA X es t):PE X (.Tuple es x1 pos) (fY t):=by intro pins s σ H Q I hq;refine wpAny_Tuple_spliced (thn (h pos pins s σ H _ I hq) λus s1 ⟨xs,H1,I1,r,z,q⟩=>⟨by rw[<-r.length];exact z,?_⟩);have hf:H1 s1.heap.objs.size=none:=I1.hok.fresh (zR _);refine⟨.ref s1.heap.objs.size,upd H1 s1.heap.objs.size (.tup xs),I1.laid (t':=s1.toks) (λb u e=>zW _ e) (zR _) ?_,rfl,q _ hf⟩;exact⟨z,us,r,⟨_,yZ _ rfl,rfl,_,rfl⟩⟩
theorem cI (h:PA X es t):PE X (.List es pos) (cG t):=by intro pins s σ H Q I hq;refine wpAny_List_spliced (thn (h pos pins s σ H _ I hq) λus s1 ⟨xs,H1,I1,r,z,q⟩=>⟨by rw[<-r.length];exact z,?_⟩);have hf:H1 s1.heap.objs.size=none:=I1.hok.fresh (zR _);refine⟨.ref s1.heap.objs.size,upd H1 s1.heap.objs.size (.lst xs),I1.laid (t':=s1.toks) (λb u e=>zW _ e) (zR _) ?_,rfl,q _ hf⟩;exact⟨z,us,0,r,yZ _ rfl⟩
end
abbrev Sp:=List V->Hp->VK->XK->Prop
abbrev CXT:=List Env->Hp->Shared->XK->Value->Shared->Prop
structure Env0 (P:Program) (w:World) (K:Frg) (mg:Str->Option Value) (base:Heap) (A:Around) (outer:List Env) (s:Shared) (H:Hp):Prop where
 frames:A.frames=some outer
 mod:Mod K mg base
 bs:∀b o,base.get? b=some o->s.heap.get? b=some o/\H b=none
 bsz:base.objs.size<=s.heap.objs.size
 funs:s.heap.FunFrames base outer
 frf:∀b∈frs outer,H b=none
 hok:HOk P w H s.heap
 bare:AllBare s.gens
def CE (outer:List Env) (P:Program) (w:World) (H:Hp) (s:Shared) (Q:VK) (u:Value) (s':Shared):Prop:=∃v H',s'.os=s.os/\AllBare s'.gens/\Un (frs outer) [] H H' s.heap s'.heap/\HOk P w H' s'.heap/\RelV v u/\Q v H'
def CR (CX:CXT) (outer:List Env) (P:Program) (w:World) (H:Hp) (s:Shared) (Q:VK) (E:XK) (r:Result) (s':Shared):Prop:=
 match r with
 | .ok (.ret u)=>CE outer P w H s Q u s'
 | .ok _=>False
 | .error e=>CX outer H s E e s'
structure FnOk (P:Program) (w:World) (K:Frg) (mg:Str->Option Value) (base:Heap) (CX:CXT) (k:Nat) (f:Addr) (fd:FuncData) (ps:List Str) (sp:Sp):Prop where
 len:∀vs H Q E,sp vs H Q E->vs.length=ps.length
 run:∀(A:Around) (outer:List Env) (s:Shared) (H:Hp) (args:Args) (us:List Value) (vs:List V) (Q:VK) (E:XK),Room k A->Env0 P w K mg base A outer s H->BindsTo s fd args (ps.zip us)->Vals vs us->sp vs H Q E ->
   codeAny (model P w) A (.call (.ref f) args) (CR CX outer P w H s Q E) s
section
variable {X:Cx}{pins:List (Addr×Obj)}{σ:St}{H:Hp}{s s':Shared}
theorem Inv.env0 (I:Inv X pins σ H s):Env0 X.prog X.w X.K X.mg X.base X.A X.stack s H:=⟨I.ok.frames,I.ok.mod,I.bs,zN I.ok.bsz I.sz,I.stack,I.stkFree,I.hok,I.bare⟩
theorem Inv.after {Q:VK}{u:Value}(I:Inv X pins σ H s) (h:CE X.stack X.prog X.w H s Q u s'):EP X pins σ Q u s':=by obtain⟨v,H',os,bare,un,hok,r,q⟩:=h;obtain⟨hh,g,d,t,k6⟩:=s';obtain rfl:k6=s.os:=os;exact⟨v,H',I.call (h':=hh) (g':=g) (d':=d) (t':=t) (ch:=[]) un hok bare (λb z=>absurd z (by simp)),r,q⟩
end
def SO (sp:Sp) (gx:List V) (E:XK) (t:TA):TE:=λσ H Q=>t σ H λvs H1=>sp (vs++gx) H1 Q E
def Binds (K:Frg) (fd:FuncData) (ps:List Str) (ds:List Value):Prop:=∀(s:Shared) (us:List Value),K.In s.heap->(us++ds).length=ps.length->BindsTo s fd ⟨us,[]⟩ (ps.zip (us++ds))
theorem Binds.all {K:Frg}{fd:FuncData}{ps:List Str}(h:∀us:List Value,us.length=ps.length->bindArgs fd ⟨us,[]⟩=pure (ps.zip us)):Binds K fd ps []:=λs us _ hl=>by rw[a1W] at hl ⊢;exact .of_eq (h us hl)
def RI (CX:CXT) (X:Cx) (E:XK):Prop:=∀(pins:List (Addr×Obj)) (σ:St) (H:Hp) (s:Shared) (e:Value) (s':Shared),Inv X pins σ H s->CX X.stack H s E e s'->X.xe e s'
section
variable {X:Cx}{CX:CXT}{k:Nat}{f C:Addr}{fd:FuncData}{ps:List Str}{sp:Sp}{gx:List V}{ds:List Value}{E:XK}{x m:Str}{p pos apos:Pos}{e o:Expr}{es:List Expr}{ta:TE}{t:TA}
theorem cJ {pins:List (Addr×Obj)}{σ:St}{H:Hp}{s:Shared}{Q:VK}{us:List Value}{vs:List V}(F:FnOk X.prog X.w X.K X.mg X.base CX k f fd ps sp) (hr:Room k X.A) (hb:Binds X.K fd ps ds) (hd:Vals gx ds) (hx:RI CX X E) (I:Inv X pins σ H s) (r:Vals vs us) (h:sp (vs++gx) H Q E):wpAny (model X.prog X.w) X.A (call (.ref f) us) (EP X pins σ Q) X.xe s:=by
 have r2:Vals (vs++gx) (us++ds):=r.append hd;have hl:(us++ds).length=ps.length:=by rw[<-r2.length];exact F.len _ _ _ _ h
 refine wpAny_call (codeAny_mono (F.run X.A X.stack s H ⟨us,[]⟩ (us++ds) (vs++gx) Q E hr I.env0 (hb s us I.kIn hl) r2 h) λr s' hq=>?_);cases r with
 | error e=>exact hx pins σ H s e s' I hq
 | ok fl=>
   cases fl with
   | ret u=>exact I.after hq
   | next=>exact a8Z hq
   | brk=>exact a8Z hq
   | cont=>exact a8Z hq
theorem YD (F:FnOk X.prog X.w X.K X.mg X.base CX k f fd ps sp) (hr:Room k X.A) (hg:Gl X x) (hm:X.mg x=some (.ref f)) (hk:a7J X.K (.ref f)=true) (hb:Binds X.K fd ps ds) (hd:Vals gx ds) (hx:RI CX X E) (ha:PA X (e::es) t) (gj:(x==("__debug__":Str))=false:=by decide) (he:starEach (e::es) X.env=(false,eval e X.env)::starEach es X.env:=by rfl) (ff:(backTo pos (starEach es X.env)).any (·.1)=false:=by rfl) :
   PE X (.Call (.Name x p) (e::es) [] pos) (SO sp gx E t):=by intro pins s σ H Q I h;refine wpAny_Call_Name_kw (Y6 I hg hm ?_ gj);refine PySem.W.callWith_K (h₀:=X.base) I.ok.mod.kin hk (thn (ha pos pins s σ H _ I h) λus s1 ⟨vs,H1,I1,r,q⟩=>⟨I1.kIn,?_⟩) he ff;exact cJ F hr hb hd hx I1 r q
end
structure FnScope (N P:List Str) (sc:Scope):Prop where
 kind:sc.kind = .function
 co:sc.isCoroutine=false
 gen:sc.isGenerator=false
 nd:N.Nodup
 pre:N.take P.length=P
 par:∀x∈P,sc.names.lookup x=some .local\/sc.names.lookup x=some .cell
 nofree:∀y∈sc.names,y.2≠.free
theorem MT {kindOf:Str->Option NameKind}{x:Str}:∀{binds:List (Str×Value)}{m:Str->Option Value},(∀v,(x,v)∉binds)->bindL kindOf binds m x=m x
 | [],_,_=>rfl
 | (n,v)::r,m,h=>by
   unfold bindL;rw[MT λw hw=>h w (yV _ hw)];split
   . have:x≠n:=by rintro rfl;exact h v a1Q
     simp[this]
   . rfl
theorem MU {kindOf:Str->Option NameKind}{x:Str}:∀{binds:List (Str×Value)}{m:Str->Option Value},(∀v,(x,v)∉binds)->bindC kindOf binds m x=m x
 | [],_,_=>rfl
 | (n,v)::r,m,h=>by
   unfold bindC;rw[MU λw hw=>h w (yV _ hw)];split;. rfl
   . have:x≠n:=by rintro rfl;exact h v a1Q
     simp[this]
theorem MV {kindOf:Str->Option NameKind}{x:Str}{v:Value}:∀{P:List Str}{vs:List Value}{i:Nat}{m:Str->Option Value},P.Nodup->P[i]?=some x->vs[i]?=some v->kindOf x=some .local ->
   bindL kindOf (P.zip vs) m x=some v
 | [],_,_,_,_,h,_,_=>by simp at h
 | _::_,[],_,_,_,_,h,_=>by simp at h
 | p::P,w::vs,0,m,nd,h1,h2,hk=>by simp at h1 h2;subst h1;subst h2;show bindL kindOf ((p,w)::P.zip vs) m p=_;unfold bindL;rw[MT λv hv=>(xW.mp nd).1 (List.of_mem_zip hv).1,if_pos hk];simp
 | p::P,w::vs,i+1,m,nd,h1,h2,hk=>by show bindL kindOf ((p,w)::P.zip vs) m x=_;unfold bindL;exact MV (i:=i) (xW.mp nd).2 (by simpa using h1) (by simpa using h2) hk
theorem MW {kindOf:Str->Option NameKind}{x:Str}{v:Value}:∀{P:List Str}{vs:List Value}{i:Nat}{m:Str->Option Value},P.Nodup->P[i]?=some x->vs[i]?=some v->kindOf x≠some .local ->
   bindC kindOf (P.zip vs) m x=some v
 | [],_,_,_,_,h,_,_=>by simp at h
 | _::_,[],_,_,_,_,h,_=>by simp at h
 | p::P,w::vs,0,m,nd,h1,h2,hk=>by simp at h1 h2;subst h1;subst h2;show bindC kindOf ((p,w)::P.zip vs) m p=_;unfold bindC;rw[MU λv hv=>(xW.mp nd).1 (List.of_mem_zip hv).1,if_neg hk];simp
 | p::P,w::vs,i+1,m,nd,h1,h2,hk=>by show bindC kindOf ((p,w)::P.zip vs) m x=_;unfold bindC;exact MW (i:=i) (xW.mp nd).2 (by simpa using h1) (by simpa using h2) hk
def FI (N:List Str) (vs:List V):St:=vs.map some++b1J (N.length - vs.length) none
def RJ (CX:CXT) (P:Program) (w:World) (K:Frg) (mg:Str->Option Value) (base:Heap) (N:List Str) (qual:Str) (scope:Scope) (f:Addr) (cd:Value) (A:Around) (outer:List Env) (s:Shared) (H:Hp) (E:XK):Cx where
 prog:=P
 w:=w
 K:=K
 mg:=mg
 base:=base
 A:=A.deeper (envOfC qual scope s.heap.objs.size f cd)
 N:=N
 s₀:=s
 H₀:=H
 env:=envOfC qual scope s.heap.objs.size f cd
 outer:=outer
 stack:=envOfC qual scope s.heap.objs.size f cd::outer
 ex:=[]
 calm:=true
 fn:=λ_=>true
 pn:=[]
 xe:=λe s'=>wpAny (model P w) (A.deeper (envOfC qual scope s.heap.objs.size f cd)) (leaving (envOfC qual scope s.heap.objs.size f cd) e) (λ_ iq=>CX outer H s E e iq) (λe' iq=>CX outer H s E e' iq) s'
theorem PF {sc:Scope}{n:Nat}{x:Str}(h:sc.names.lookup x=some .cell):∃c,(cellsFrom n sc.names []).lookup x=some c:=by have q:=PySem.W.cellsFrom_some sc.names n [] (.inl h);exact Option.isSome_iff_exists.mp q
theorem U6 {CX:CXT}{P:Program}{w:World}{K:Frg}{mg:Str->Option Value}{base:Heap}{N ps:List Str}{qual:Str}{scope:Scope}{f:Addr}{cd:Value}{A:Around}{outer:List Env}{s s1:Shared}{H:Hp}{E:XK}{us:List Value}{vs:List V} (S:FnScope N ps scope) (hd:A.handled=none) (e0:Env0 P w K mg base A outer s H) (hl:vs.length=ps.length) (r:Vals vs us) (x:InCallC s s.heap.objs.size (bindL (envOfC qual scope s.heap.objs.size f cd).kindOf (ps.zip us) λ_=>none) (cellsFrom (s.heap.objs.size+1) scope.names []) (bindC (envOfC qual scope s.heap.objs.size f cd).kindOf (ps.zip us) λ_=>none) s1) :
   Inv (RJ CX P w K mg base N qual scope f cd A outer s H E) [] (FI N vs) H s1:=by
 have ff:ps.length<=N.length:=by have:=congrArg List.length S.pre;rw[a0J] at this;lia
 obtain⟨h1,tk,rfl,hk⟩:=x.done;have jb:∀b:Addr,b∉(RJ CX P w K mg base N qual scope f cd A outer s H E).ex:=λb z=>absurd (show b∈([]:List Addr) from z) (by simp);refine⟨⟨e0.mod,S.kind,rfl,rfl,zR _,λy z c h1 h2=>?_,λy hy=>?_,λy c _ h=>?_,λ_=>hd,Around.frames_deeper e0.frames,.inr ⟨rfl,rfl⟩,λb z=>absurd z (jb b),e0.bs,e0.bsz,λb _ _=>jb b,λb z=>absurd z (jb b),e0.funs,e0.frf⟩,
   rfl,e0.bare,Un.kept hk,⟨_,x.toInCall.ns,λi y v h1 h2 h3=>?_⟩,λy c h=>⟨_,x.cell y c h⟩,e0.hok.fresh (zR _),λy c h=>?_,λp hp=>absurd (show p∈([]:List (Addr×Obj)) from hp) (by simp),e0.hok.kept hk,?_⟩
 . exact name_of_addr x.apart (a2K h1) (a2K h2)
 . have hy:scope.names.lookup y=some .cell\/scope.names.lookup y=some .free:=hy;rcases hy with hy | hy;. exact PF hy
   . exact absurd rfl (S.nofree _ (a2K hy))
 . exact xT (x.above y c (a2K h))
 . have hi:i < vs.length:=by
     unfold FI at h2;by_cases hi:i < vs.length;. exact hi
     . rw[List.getElem?_append_right (by simpa using hi)] at h2;rw[List.getElem?_replicate] at h2;split at h2 <;> cases h2
   have ha:vs[i]?=some v:=by
     unfold FI at h2;rw[yQ (by simpa using hi),zF] at h2;cases e:vs[i]? with
     | none=>rw[e] at h2;cases h2
     | some a=>rw[e] at h2;cases h2;rfl
   obtain⟨u,hu,rv⟩:=r.get ha;have hp:ps[i]?=some y:=by rw[<-S.pre,List.getElem?_take_of_lt (by lia)];exact h1
   have lC:ps.Nodup:=by rw[<-S.pre];exact S.nd.sublist (List.take_sublist _ _)
   refine⟨u,rv,?_⟩;rcases S.par y (yN hp) with k | k;. exact .inl ⟨k,MV lC hp hu k⟩
   . obtain⟨c,e⟩:=PF (n:=s.heap.objs.size+1) k;refine .inr ⟨.inl k,c,e,?_⟩;have q:=x.cell y c e;rw[MW lC hp hu (by show scope.names.lookup y≠_;rw[k];decide)] at q;exact q
 . exact e0.hok.fresh (xT (x.above y c (a2K h)))
 . unfold FI;show _=N.length;rw[yY,zX,List.length_replicate];lia
theorem fZ {CX:CXT}{P:Program}{w:World}{K:Frg}{mg:Str->Option Value}{base:Heap}{k:Nat}{f:Addr}{name qual:Str}{params:Arguments}{body:List Stmt}{scope:Scope}{dV kV doc pm cdv ct oc:Value}{an od:Option Addr} {osl:Array (Option Value)}{N ps:List Str}{sp:Sp}(lk:K.lookup f=some ⟨oc,od,.func (a5K name qual params body scope dV kV doc pm an cdv ct),osl⟩) (fj:b0Z K cdv qual=true) (S:FnScope N ps scope) (len:∀vs H Q E,sp vs H Q E->vs.length=ps.length) (di:∀(A:Around) (outer:List Env) (s:Shared) (H:Hp) (vs:List V) (Q:VK) (E:XK),Room k (A.deeper (envOfC qual scope s.heap.objs.size f cdv))->sp vs H Q E ->∃t,PSs (RJ CX P w K mg base N qual scope f cdv A outer s H E) body t/\t { nx:=λ_ H'=>Q .non H',rt:=Q } (FI N vs) H) :
   FnOk P w K mg base CX (k+1) f (a5K name qual params body scope dV kV doc pm an cdv ct) ps sp:=by
 refine⟨len,λA outer s H args us vs Q E hr e0 hb r gy=>?_⟩;have hl:=len _ _ _ _ gy;have KX:K.In s.heap:=e0.mod.kin.keeps λb o e=>(e0.bs b o e).1;have lim:s.heap.NoLimit:=e0.mod.nolimit.keeps λb o e=>(e0.bs b o e).1;have jc:∀y∈ps.zip us,scope.names.lookup y.1=some .local\/(scope.names.lookup y.1=some .cell/\((cellsFrom (s.heap.objs.size+1) scope.names []).lookup y.1).isSome=true):=λ⟨n,v⟩ hy=>by
   rcases S.par n (List.of_mem_zip hy).1 with q | q;. exact .inl q
   . exact .inr ⟨q,PySem.W.cellsFrom_some _ _ _ (.inl q)⟩
 refine codeAny_call_function hr.depth (KX _ _ lk) rfl S.co S.gen rfl (PySem.W.codeRec_of KX fj) (hb _ _ _ _ ?_);refine wpAny_newFunctionEnv_cells S.kind jc λenv he s1 x=>?_;subst he;refine⟨lim.keeps x.toInCall.keep,codeAny_func ?_⟩;obtain⟨t,ht,hq⟩:=di A outer s H vs Q E (hr.deeper _) gy;have I:Inv (RJ CX P w K mg base N qual scope f cdv A outer s H E) [] (FI N vs) H s1:=U6 S hr.hd e0 hl r x;refine wpAny_mono (ht [] s1 (FI N vs) H _ I hq) (λfl s' hs=>?_) λe s' hs=>hs;have fin:∀{σ':St}{H':Hp}{v:V}{u:Value},Inv (RJ CX P w K mg base N qual scope f cdv A outer s H E) [] σ' H' s'->RelV v u->Q v H'->CE outer P w H s Q u s':=
   λ{σ' H' v u} J rv q=>⟨v,H',J.os,J.bare,J.base,J.hok,rv,q⟩
 cases fl with
 | ret u=> obtain⟨v,σ',H',J,rv,q⟩:=hs;exact fin J rv q
 | next=> obtain⟨σ',H',J,q⟩:=hs;exact fin (v:=V.non) (u:=a5Z) J rfl q
 | brk=> obtain⟨_,_,_,q⟩:=hs;exact a8Z q
 | cont=> obtain⟨_,_,_,q⟩:=hs;exact a8Z q
section
variable {X:Cx}{x:Str}{p pos:Pos}{e:Expr}{es:List Expr}{t:TA}{id T:String}{r:List V->Hp->VK->Prop}
def tCB (r:List V->Hp->VK->Prop) (t:TA):TE:=λσ H Q=>t σ H λvs H1=>r vs H1 Q
theorem EN (hc:BP X (.builtin id) r) (hg:Gl X x) (hm:X.mg x=none) (hv:bootBuiltins x=some (.builtin id)) (ha:PA X (e::es) t) (hn:x ≠ "__name__" := by decide) (gj:(x==("__debug__":Str))=false:=by decide)
   (he:starEach (e::es) X.env=(false,eval e X.env)::starEach es X.env:=by rfl) (ff:(backTo pos (starEach es X.env)).any (·.1)=false:=by rfl):PE X (.Call (.Name x p) (e::es) [] pos) (tCB r t):=by intro pins s σ H Q I h;refine wpAny_Call_Name_kw (NQ I hg hm hv ?_ hn gj);exact PyProof.Rows.callWith_builtin1 (thn (ha pos pins s σ H _ I h) λus s1 ⟨vs,H1,I1,r1,q1⟩=>hc pins s1 σ H1 vs us Q I1 r1 q1) he ff
theorem MX (hc:BP X (.type T) r) (hg:Gl X x) (hm:X.mg x=none) (hv:bootBuiltins x=some (.type T)) (ha:PA X (e::es) t) (hn:x ≠ "__name__" := by decide) (gj:(x==("__debug__":Str))=false:=by decide)
   (he:starEach (e::es) X.env=(false,eval e X.env)::starEach es X.env:=by rfl) (ff:(backTo pos (starEach es X.env)).any (·.1)=false:=by rfl):PE X (.Call (.Name x p) (e::es) [] pos) (tCB r t):=by intro pins s σ H Q I h;refine wpAny_Call_Name_kw (NQ I hg hm hv ?_ hn gj);exact PyProof.Rows.callWith_type1 (thn (ha pos pins s σ H _ I h) λus s1 ⟨vs,H1,I1,r1,q1⟩=>hc pins s1 σ H1 vs us Q I1 r1 q1) he ff
end
end L2
namespace HT
open PySem PyProof.Rows
section
variable {prog:Program}{w:World}{A:Around}{E:Value->Shared->Prop}{s:Shared}
def sIx (n d:Nat):Option Int->Nat
 | none=>d
 | some v=>if v < 0 then (v+(n:Int)).toNat else min v.toNat n
theorem sIx_nat (n d k:Nat):sIx n d (some (k:Int))=min k n:=by show(if (k:Int) < 0 then ((k:Int)+(n:Int)).toNat else min (k:Int).toNat n)=min k n;rw[if_neg (by lia),b2X]
theorem cK (n d:Nat) (hd:d<=n) (o:Option Int):sIx n d o<=n:=by
 cases o with
 | none=>exact hd
 | some v=>
   show(if v < 0 then (v+(n:Int)).toNat else min v.toNat n)<=n;by_cases hv:v < 0;. rw[if_pos hv];lia
   . rw[if_neg hv];exact Nat.min_le_right _ _
theorem SQ (v:Int) (n d:Nat):(if v < 0 then max (v+(n:Int)) 0 else min v (n:Int))=((sIx n d (some v):Nat):Int):=by
 show(if v < 0 then max (v+(n:Int)) 0 else min v (n:Int))=(((if v < 0 then (v+(n:Int)).toNat else min v.toNat n):Nat):Int);by_cases hv:v < 0;. simp only[if_pos hv];lia
 . simp only[if_neg hv];lia
theorem RK (lo hi:Option Int) (n:Nat):a9K lo hi 1 (n:Int)=(((sIx n 0 lo:Nat):Int),((sIx n n hi:Nat):Int)):=by
 have h1:¬((1:Int) < 0):=by lia
 unfold a9K;simp only[h1,if_false];refine Prod.ext ?_ ?_
 . cases lo with
   | none=>rfl
   | some v=>exact SQ v n 0
 . cases hi with
   | none=>rfl
   | some v=>exact SQ v n n
theorem RL (i j:Nat):a6Z (i:Int) (j:Int) 1=j - i:=by
 unfold a6Z;have h1:(1:Int) > 0:=by lia
 simp only[h1,if_true,Int.ediv_one];split <;> lia
theorem KN {v:Value}{o:Option Int}{Q:Option Int->Shared->Prop}(p:IsPart v o) (h:Q o s):wpAny (model prog w) A (Builtin.Slice.slicePartIndex v) Q E s:=by
 cases p with
 | none=>exact slicePart_none h
 | int i t=>exact slicePart_int h
theorem EO {sl:Addr}{vl vu:Value}{lo hi:Option Int}{n:Nat}{Q:Int×Int×Nat->Shared->Prop}(hs:s.heap.IsSliceOf sl vl vu .none) (pl:IsPart vl lo) (pu:IsPart vu hi) (h:Q (((sIx n 0 lo:Nat):Int),1,sIx n n hi - sIx n 0 lo) s):wpAny (model prog w) A (Builtin.Slice.sliceApplied (.ref sl) (pure (n:Int))) Q E s:=by obtain⟨os,ir,jQ,jd⟩:=id hs;unfold Builtin.Slice.sliceApplied Builtin.Slice.sliceFields;refine zZ (zZ (wpAny_field ir jd (x:=vl) rfl (zZ (wpAny_field ir jd (x:=vu) rfl (zZ (wpAny_field ir jd (x:=.none) rfl (zY ?_)))))));refine zZ (slicePart_none ?_);show wpAny _ _ (if ((1:Int)==0)=true then _ else _) _ _ s;rw[if_neg (by decide)];refine zZ (KN pl (zZ (KN pu (zZ (zY ?_)))));show wpAny _ _ (match a9K lo hi 1 (n:Int) with | (lo,hi)=>pure (lo,(1:Int),a6Z lo hi 1)) _ _ s;rw[RK lo hi n];show wpAny _ _ (pure (((sIx n 0 lo:Nat):Int),(1:Int),a6Z ((sIx n 0 lo:Nat):Int) ((sIx n n hi:Nat):Int) 1)) _ _ s;rw[RL];exact zY h
theorem VF (xs:Array Value) (i k:Nat):((a0V k).filterMap λ(m:Nat)=>xs[((i:Int)+(m:Int)*1).toNat]?).toArray=((xs.toList.drop i).take k).toArray:=by
 have e:(λ(m:Nat)=>xs[((i:Int)+(m:Int)*1).toNat]?)=λm=>xs[i+m]?:=by
   funext m;have:((i:Int)+(m:Int)*1).toNat=i+m:=by lia
   rw[this]
 rw[e];have:=pick_run xs i k;rw[List.filterMap_map] at this;have e2:((λx=>xs[x]?)∘λx=>i+x)=λm=>xs[i+m]?:=rfl;rw[e2] at this;rw[this]
theorem getItem_tuple_cut {t sl:Addr}{items:Array Value}{vl vu:Value}{lo hi:Option Int}{Q:Value->Shared->Prop}(ht:IsTup s.heap t items) (hs:s.heap.IsSliceOf sl vl vu .none) (pl:IsPart vl lo) (pu:IsPart vu hi) (hw:¬(sIx items.size 0 lo=0/\sIx items.size items.size hi=items.size)) (h:Q (.ref s.heap.objs.size) { s with heap:=s.heap.push { cls:=.type "tuple", data:=.seq ((items.toList.drop (sIx items.size 0 lo)).take (sIx items.size items.size hi - sIx items.size 0 lo)).toArray } }) (hsz:items.size<=sizeLine):wpAny (model prog w) A (getItem (.ref t) (.ref sl)) Q E s:=by
 have ej:sizeOk (.seq ((items.toList.drop (sIx items.size 0 lo)).take (sIx items.size items.size hi - sIx items.size 0 lo)).toArray):=by show((items.toList.drop (sIx items.size 0 lo)).take (sIx items.size items.size hi - sIx items.size 0 lo)).toArray.size<=sizeLine;rw[zJ,a0J,b2J,a5W];lia
 have hj:sIx items.size items.size hi<=items.size:=cK _ _ (zR _) hi;obtain⟨os,ir,jQ,jd⟩:=id hs;have k7:s.TypeIs (.ref sl) "slice" := ⟨os,ir,jQ⟩
 unfold getItem;try with_reducible refine wpAny_holding ?_
 first | refine zZ (zY ?_) | skip
 refine zZ (wpAny_sequenceKey ht.typeIs (by decide) ?_);refine zZ (wpAny_callSpecial?_slot (name:=a0Q "__getitem__") ht.typeIs a4K (wpAny_call_entry a4K ht.typeIs entry_tuple_getitem ?_ (args_tuple_getitem _ _)));show wpAny _ _ (Builtin.Tuple.tupleItemsOf (.ref t) >>= _) _ _ s;refine zZ (tupleItemsOf_ ht ?_);refine zZ (wpAny_typeOf k7 ?_);rw[if_pos (by decide)];refine zZ (EO hs pl pu ?_);have iu:¬((((sIx items.size 0 lo:Nat):Int)==0&&(1:Int)==1&&(sIx items.size items.size hi - sIx items.size 0 lo)==items.size)=true):=by intro q;rw[a0W,a0W] at q;have q1:((sIx items.size 0 lo:Nat):Int)=0:=eq_of_beq q.1.1;have q2:sIx items.size items.size hi - sIx items.size 0 lo=items.size:=eq_of_beq q.2;exact hw ⟨by lia,by lia⟩
 show wpAny _ _ (if (((sIx items.size 0 lo:Nat):Int)==0&&(1:Int)==1&&(sIx items.size items.size hi - sIx items.size 0 lo)==items.size)=true then _ else _) _ _ s;rw[if_neg iu,VF];first
   | exact zZ (m:=a6K _) (xN (zY ⟨_,rfl,zY h⟩) ej)
   | exact zZ (m:=a6K _) (xN (zZ (zY (zY ⟨_,rfl,zY h⟩))) ej)
   | exact zZ (zZ (m:=a6K _) (xN (zY (zY ⟨_,rfl,zY h⟩)) ej))
   | exact zZ (zZ (m:=a6K _) (xN (zY ⟨_,rfl,zY h⟩) ej))
end
end HT
namespace L2
open PySem PySem.Spec PyProof.Rows
abbrev TO:=St->Hp->(Option Int->Hp->Prop)->Prop
def PO (X:Cx) (e:Option Expr) (t:TO):Prop:=∀(pins:List (Addr×Obj)) (s:Shared) (σ:St) (H:Hp) (Q:Option Int->Hp->Prop),Inv X pins σ H s->t σ H Q ->
   wpAny (model X.prog X.w) X.A (evalPart e X.env) (λu s'=>∃o H',Inv X pins σ H' s'/\IsPart u o/\Q o H') X.xe s
def SR:TO:=λ_ H Q=>Q none H
def aQ (t:TE):TO:=λσ H Q=>t σ H λx H1=>∃i,x = .int i/\Q (some i) H1
section
variable {X:Cx}{e:Expr}{te:TE}{lo hi:Option Expr}{tl th:TO}{pos p2:Pos}
theorem YE:PO X none SR:=by intro pins s σ H Q I h;rw[evalPart_none];exact zY ⟨none,H,I,.none,h⟩
theorem YF (h:PE X e te):PO X (some e) (aQ te):=by intro pins s σ H Q I hw;rw[evalPart_some];refine thn (h pins s σ H _ I hw) λu s1 ⟨x,H1,I1,r1,q1⟩=>?_;obtain⟨i,rfl,q⟩:=q1;obtain⟨t,rfl⟩:=r1;exact⟨some i,H1,I1,.int i t,q⟩
def SlR (X:Cx) (r:V->Option Int->Option Int->Hp->VK->Prop):Prop:=∀(pins:List (Addr×Obj)) (s:Shared) (σ:St) (H:Hp) (x:V) (v vl vu:Value) (lo hi:Option Int) (sl:Addr) (Q:VK),Inv X pins σ H s->RelV x v->s.heap.IsSliceOf sl vl vu .none->IsPart vl lo->IsPart vu hi->r x lo hi H Q ->∃T id,typeLookup (.type T) "__getitem__"=pure (some (.builtin id))/\s.TypeIs v T/\wpAny (model X.prog X.w) X.A (getItem v (.ref sl)) (EP X pins σ Q) X.xe s
theorem SlR.or {r r':V->Option Int->Option Int->Hp->VK->Prop}(h:SlR X r) (h':SlR X r'):SlR X (λx lo hi H Q=>r x lo hi H Q\/r' x lo hi H Q):=by
 intro pins s σ H x v vl vu lo hi sl Q I rx hs pl pu q;rcases q with q | q;. exact h pins s σ H x v vl vu lo hi sl Q I rx hs pl pu q
 . exact h' pins s σ H x v vl vu lo hi sl Q I rx hs pl pu q
def tSl (r:V->Option Int->Option Int->Hp->VK->Prop) (te:TE) (tl th:TO):TE:=λσ H Q=>te σ H λx H1=>tl σ H1 λl H2=>th σ H2 λu H3=>r x l u H3 Q
theorem VG {r:V->Option Int->Option Int->Hp->VK->Prop}(hr:SlR X r) (he:PE X e te) (hl:PO X lo tl) (hu:PO X hi th):PE X (.Subscript e (.Slice lo hi none p2) pos) (tSl r te tl th):=by intro pins s σ H Q I h;refine Subscript_ (thn (he pins s σ H _ I h) λv s1 ⟨x,H1,I1,r1,q1⟩=>?_);refine wpAny_Slice (thn (hl pins s1 σ H1 _ I1 q1) λvl s2 ⟨l,H2,I2,pl,q2⟩=>thn (hu pins s2 σ H2 _ I2 q2) λvu s3 ⟨u,H3,I3,pu,q3⟩=>?_);rw[evalPart_none];refine zY ?_;have I4:Inv X pins σ H3 { s3 with heap:=s3.heap.push { cls:=.type "slice", data:=.fields #[vl,vu,.none] } }:=I3.kept (t':=s3.toks) λb ob q=>zW _ q;obtain⟨T,id,hT,ht,hg⟩:=hr pins { s3 with heap:=s3.heap.push { cls:=.type "slice", data:=.fields #[vl,vu,.none] } } σ H3 x v vl vu l u s3.heap.objs.size Q I4 r1 (Heap.IsSliceOf.new ..) pl pu q3;show wpAny (model X.prog X.w) X.A (subscriptTail e (.Slice lo hi none p2) v (.ref s3.heap.objs.size)) (EP X pins σ Q) X.xe { s3 with heap:=s3.heap.push { cls:=.type "slice", data:=.fields #[vl,vu,.none] } };exact tail_any (ops:=[.ref s3.heap.objs.size,v]) ht hT hg (by with_unfolding_all rfl)
def K2 (xs:List V) (lo hi:Option Int):List V:=(xs.drop (HT.sIx xs.length 0 lo)).take (HT.sIx xs.length xs.length hi - HT.sIx xs.length 0 lo)
theorem JK (xs:List V) (lo hi:Option Int):(K2 xs lo hi).length<=xs.length:=by unfold K2;rw[a0J,b2J];lia
def i7 (K:Frg):V->Option Int->Option Int->Hp->VK->Prop:=λx lo hi H Q=>∃a xs,x = .ref a/\SqT K H a xs /\
 ¬(HT.sIx xs.length 0 lo=0/\HT.sIx xs.length xs.length hi=xs.length)/\∀p,H p=none->Q (.ref p) (upd H p (.tup (K2 xs lo hi)))
theorem cL:SlR X (i7 X.K):=by
 intro pins s σ H x v vl vu lo hi sl Q I rx hs pl pu h;obtain⟨a,xs,rfl,hx,hw,q⟩:=h;cases rx;obtain⟨ab,r,ht,hz⟩:=I.tuple hx;have ac:ab.toArray.size=xs.length:=by rw[zJ];exact r.length.symm
 refine⟨"tuple", _,PyProof.Rows.slot_tuple_getitem.lookup,ht.typeIs,?_⟩;refine HT.getItem_tuple_cut ht hs pl pu (by rw[ac];exact hw) ?_ (by rw[ac];exact hz);rw[ac];refine⟨.ref s.heap.objs.size,_,I.laid (t':=s.toks) (o:=.tup (K2 xs lo hi)) (λb ob q=>zW _ q) (zR _) ?_,rfl,q _ (I.hok.fresh (zR _))⟩;exact⟨zN (JK xs lo hi) hz,_,(r.drop (HT.sIx xs.length 0 lo)).take (HT.sIx xs.length xs.length hi - HT.sIx xs.length 0 lo),IsTup.new _ _⟩
end
def ixN (n:Nat) (i:Int):Option Nat:=if 0<=i then (if i < n then some i.toNat else none) else if -(n:Int)<=i then some (i+n).toNat else none
def atI {α:Type}(xs:List α) (i:Int):Option α:=(ixN xs.length i).bind λj=>xs[j]?
theorem YG {n:Nat}{i:Int}{j:Nat}(h:ixN n i=some j):seqIndex? i n=some j/\j < n/\-(n:Int)<=i/\i < n:=by
 unfold ixN at h;by_cases h0:0<=i
 . rw[if_pos h0] at h;by_cases h1:i < n;. rw[if_pos h1] at h;have e:i.toNat=j:=Option.some.inj h;exact⟨by rw[seqIndex_of h0 h1,e],by lia,by lia,h1⟩
   . rw[if_neg h1] at h;cases h
 . rw[if_neg h0] at h;by_cases h1 : -(n:Int)<=i;. rw[if_pos h1] at h;have e:(i+n).toNat=j:=Option.some.inj h;exact⟨by rw[seqIndex_neg (by lia) h1,e],by lia,h1,by lia⟩
   . rw[if_neg h1] at h;cases h
theorem NW {α:Type}{xs:List α}{i:Int}{v:α}(h:atI xs i=some v):∃j,seqIndex? i xs.length=some j/\xs[j]?=some v/\j < xs.length/\-(xs.length:Int)<=i/\i < xs.length:=by
 unfold atI at h;cases e:ixN xs.length i with
 | none=>rw[e] at h;cases h
 | some j=> rw[e] at h;obtain⟨h1,h2,h3,h4⟩:=YG e;exact⟨j,h1,h,h2,h3,h4⟩
theorem AA {α:Type}{xs:List α}{j:Nat}{v:α}(h:xs[j]?=some v):atI xs (j:Int)=some v:=by
 have hj:j < xs.length:=(yT.mp h).1;have e:ixN xs.length (j:Int)=some j:=by unfold ixN;rw[if_pos (by lia),if_pos (by lia)];simp
 unfold atI;rw[e];exact h
def YH (b:Expr):Prop:=∀o i,subscripted b false o i=operate [o,i] (getItem o i)
def IxR (X:Cx) (r:R2):Prop:=∀(value slice:Expr) (pins:List (Addr×Obj)) (s:Shared) (σ:St) (H:Hp) (x y:V) (v u:Value) (Q:VK),Inv X pins σ H s->RelV x v->RelV y u->r x y H Q ->
   subscripted slice false v u=operate [v,u] (getItem v u)->wpAny (model X.prog X.w) X.A (subscriptTail value slice v u) (EP X pins σ Q) X.xe s
def MtR (X:Cx) (id:String) (r:V->List V->Hp->VK->Prop):Prop:=∀(pins:List (Addr×Obj)) (s:Shared) (σ:St) (H:Hp) (x:V) (xs:List V) (v:Value) (us:List Value) (Q:VK),Inv X pins σ H s->RelV x v->Vals xs us->r x xs H Q ->
   wpAny (model X.prog X.w) X.A (call (.builtin id) (v::us)) (EP X pins σ Q) X.xe s
section
variable {X:Cx}{a b:Expr}{ta tb:TE}{pos:Pos}
theorem IxR.or {r r':R2}(h:IxR X r) (h':IxR X r'):IxR X (λx y H Q=>r x y H Q\/r' x y H Q):=by
 intro value slice pins s σ H x y v u Q I rx ry q hs;rcases q with q | q;. exact h value slice pins s σ H x y v u Q I rx ry q hs
 . exact h' value slice pins s σ H x y v u Q I rx ry q hs
theorem g0 {r:R2}(hr:IxR X r) (ha:PE X a ta) (hb:PE X b tb) (hs:YH b):PE X (.Subscript a b pos) (tOp r ta tb):=by intro pins s σ H Q I h;exact Subscript_ (bY ha hb I h λv u s2 x y H2 I2 rx ry q=>hr a b pins s2 σ H2 x y v u Q I2 rx ry q (hs _ _))
def cM (K:Frg):R2:=λx y H Q=>∃p xs i v,x = .ref p/\y = .int i/\SqL K H p xs/\atI xs i=some v/\Q v H
def cN (K:Frg):R2:=λx y H Q=>∃p xs i v,x = .ref p/\y = .int i/\SqT K H p xs/\atI xs i=some v/\Q v H
def cO:R2:=λx y H Q=>∃z i c,x = .str z/\y = .int i/\z.length<=sizeLine/\atI z.cps.toList i=some c/\Q (.str ⟨#[c]⟩) H
theorem YI:IxR X (cM X.K):=by
 intro value slice pins s σ H x y v u Q I rx ry h hs;obtain⟨p,xs,i,z,rfl,rfl,hq,he,q⟩:=h;cases rx;obtain⟨t,rfl⟩:=ry;obtain⟨ab,r,pl,hz⟩:=I.list hq;obtain⟨j,h1,h2,h3,h4,h5⟩:=NW he;obtain⟨w,ew,dr⟩:=r.get h2;have hl:=r.length;have hn:=NV;have fin:EP X pins σ Q w s:=⟨z,H,I,dr,q⟩
 by_cases h0:0<=i
 . have hj:i.toNat=j:=by rw[seqIndex_of h0 h5] at h1;exact Option.some.inj h1
   exact item_listR pl.isList h0 (by lia) (by rw[hj];simpa using ew) fin hs
 . have hj:(i+(ab.toArray.size:Int)).toNat=j:=by rw[seqIndex_neg (by lia) h4] at h1;rw[zJ,<-hl];exact Option.some.inj h1
   exact subscriptTail_builtinR (x:=w) pl.isList.typeIs slot_list_getitem.lookup (wpAny_getItem_list_neg (Q:=λr s'=>r=w/\EP X pins σ Q r s') pl.isList (by lia) (by rw[zJ] <;> lia) (by lia) (by rw[hj];simpa using ew) ⟨rfl,fin⟩) hs
theorem cP:IxR X (cN X.K):=by
 intro value slice pins s σ H x y v u Q I rx ry h hs;obtain⟨p,xs,i,z,rfl,rfl,hq,he,q⟩:=h;cases rx;obtain⟨t,rfl⟩:=ry;obtain⟨ab,r,pl,hz⟩:=I.tuple hq;obtain⟨j,h1,h2,h3,h4,h5⟩:=NW he;obtain⟨w,ew,dr⟩:=r.get h2;have hl:=r.length;have hn:=NV;have fin:EP X pins σ Q w s:=⟨z,H,I,dr,q⟩
 exact subscriptTail_builtinR (x:=w) pl.typeIs slot_tuple_getitem.lookup (getItem_tuple (j:=j) (Q:=λr s'=>r=w/\EP X pins σ Q r s') pl (by lia) (by lia) (by rw[zJ,<-hl];exact h1) (by simpa using ew) ⟨rfl,fin⟩) hs
theorem cQ:IxR X cO:=by
 intro value slice pins s σ H x y v u Q I rx ry h hs;obtain⟨z,i,c,rfl,rfl,hz,he,q⟩:=h;obtain⟨t,rfl⟩:=rx;obtain⟨t',rfl⟩:=ry;obtain⟨j,h1,h2,h3,h4,h5⟩:=NW he;have hl:z.cps.toList.length=z.length:=by simp[Str.length]
 rw[hl] at h1 h4 h5;have hn:=NV;exact tail_any (typeIs_str s z t) slot_str_getitem.lookup (getItem_str (c:=c) (by
   have e1:decide (i < -(2 ^ 63:Int))=false:=decide_eq_false (by lia);have e2:decide (i≥2 ^ 63)=false:=decide_eq_false (by lia);rw[e1,e2,Bool.or_false]) (by rw[h1];simpa using h2) ⟨.str ⟨#[c]⟩,H,I.tok _,⟨_,rfl⟩,q⟩) hs
theorem NX (lo hi:Option Int) (n:Nat):(sliceBounds lo hi none n).1=((HT.sIx n 0 lo:Nat):Int)/\(sliceBounds lo hi none n).2.1=((HT.sIx n n hi:Nat):Int)/\(sliceBounds lo hi none n).2.2=1:=by
 refine⟨?_,?_,rfl⟩
 . cases lo with
   | none=>simp[sliceBounds,HT.sIx]
   | some i=>
     simp only[sliceBounds,HT.sIx,Option.getD_none,show(1:Int) > 0 by decide,if_true];by_cases h:i < 0;. simp only[h,if_true] <;> lia
     . simp only[h,if_false] <;> lia
 . cases hi with
   | none=>simp[sliceBounds,HT.sIx]
   | some i=>
     simp only[sliceBounds,HT.sIx,Option.getD_none,show(1:Int) > 0 by decide,if_true];by_cases h:i < 0;. simp only[h,if_true] <;> lia
     . simp only[h,if_false] <;> lia
theorem MC (ab:List Value) (lo hi:Option Int):slicePick ab.toArray lo hi none=((ab.drop (HT.sIx ab.length 0 lo)).take (HT.sIx ab.length ab.length hi - HT.sIx ab.length 0 lo)).toArray:=by obtain⟨h1,h2,h3⟩:=NX lo hi ab.toArray.size;unfold slicePick;rw[h1,h2,h3];simp only[sliceRange_one,pick_run,zJ] <;> rfl
def cR (K:Frg):V->Option Int->Option Int->Hp->VK->Prop:=λx lo hi H Q=>∃a xs,x = .ref a/\SqL K H a xs/\∀p,H p=none->Q (.ref p) (upd H p (.lst (K2 xs lo hi)))
theorem YJ:SlR X (cR X.K):=by intro pins s σ H x v vl vu lo hi sl Q I rx hs pl pu h;obtain⟨a,xs,rfl,hx,q⟩:=h;cases rx;obtain⟨ab,r,ht,hz⟩:=I.list hx;have ac:=r.length;refine⟨"list", _,slot_list_getitem.lookup,ht.isList.typeIs,?_⟩;refine wpAny_getItem_list_slice ht.isList hs pl pu .none (by simp) ?_ (by rw[zJ] <;> lia);rw[MC,<-ac];refine⟨.ref s.heap.objs.size,_,I.laid (t':=s.toks) (o:=.lst (K2 xs lo hi)) (λb ob q=>zW _ q) (zR _) ?_,rfl,q _ (I.hok.fresh (zR _))⟩;exact⟨zN (JK xs lo hi) hz,_,0,(r.drop (HT.sIx xs.length 0 lo)).take (HT.sIx xs.length xs.length hi - HT.sIx xs.length 0 lo),yZ _ rfl⟩
def GP:V->Bool
 | .non=>true
 | .bl _=>true
 | .int _=>true
 | .str _=>true
 | _=>false
def eqV:V->V->Bool
 | .non,.non=>true
 | .bl a,.bl b=>a==b
 | .bl a,.int b=>(if a then 1 else 0)==b
 | .int a,.bl b=>a==(if b then 1 else 0)
 | .int a,.int b=>a==b
 | .str a,.str b=>a==b
 | _,_=>false
theorem cS {A:Around}{s:Shared}{y x:V}{u v:Value}(ry:RelV y u) (rx:RelV x v) (fy:GP y=true) (fx:GP x=true):SeqAt.EqAt A s u v (eqV y x):=by
 cases y with
 | non=>
   cases ry;cases x with
   | non=>cases rx;exact SeqAt.EqAt.same _
   | bl b=>cases rx;exact SeqAt.EqAt.none_bool b
   | int b=>obtain⟨t,rfl⟩:=rx;exact SeqAt.EqAt.none_int b t
   | str b=>obtain⟨t,rfl⟩:=rx;exact SeqAt.EqAt.none_str b t
   | _=>exact absurd (show false=true from fx) nft
 | bl a=>
   cases ry;cases x with
   | non=>cases rx;exact SeqAt.EqAt.bool_none a
   | bl b=>cases rx;exact SeqAt.EqAt.bool_bool a b
   | int b=>obtain⟨t,rfl⟩:=rx;exact SeqAt.EqAt.bool_int a b t
   | str b=>obtain⟨t,rfl⟩:=rx;exact SeqAt.EqAt.bool_str a b t
   | _=>exact absurd (show false=true from fx) nft
 | int a=>
   obtain⟨t',rfl⟩:=ry;cases x with
   | non=>cases rx;exact SeqAt.EqAt.int_none a t'
   | bl b=>cases rx;exact SeqAt.EqAt.int_bool a t' b
   | int b=>obtain⟨t,rfl⟩:=rx;exact SeqAt.EqAt.int_int a t' b t
   | str b=>obtain⟨t,rfl⟩:=rx;exact SeqAt.EqAt.int_str a t' b t
   | _=>exact absurd (show false=true from fx) nft
 | str a=>
   obtain⟨t',rfl⟩:=ry;cases x with
   | non=>cases rx;exact SeqAt.EqAt.str_none a t'
   | bl b=>cases rx;exact SeqAt.EqAt.str_bool a t' b
   | int b=>obtain⟨t,rfl⟩:=rx;exact SeqAt.EqAt.str_int a t' b t
   | str b=>obtain⟨t,rfl⟩:=rx;exact SeqAt.EqAt.str_str a t' b t
   | _=>exact absurd (show false=true from fx) nft
 | _=>exact absurd (show false=true from fy) nft
def eqU (x:V) (u:Value):Bool:=match u with
 | .none=>eqV .non x
 | .bool b=>eqV (.bl b) x
 | .int i _=>eqV (.int i) x
 | .str z _=>eqV (.str z) x
 | _=>false
theorem VH {x y:V}{u:Value}(r:RelV y u) (f:GP y=true):eqU x u=eqV y x:=by
 cases y with
 | non=>cases r;rfl
 | bl b=>cases r;rfl
 | int i=>obtain⟨t,rfl⟩:=r;rfl
 | str z=>obtain⟨t,rfl⟩:=r;rfl
 | _=>exact absurd (show false=true from f) nft
theorem HR {x:V}:∀{xs:List V}{us:List Value},Vals xs us->xs.all GP=true->us.any (eqU x)=xs.any λy=>eqV y x
 | _,_,.nil,_=>rfl
 | y::xs,u::us,.cons r t,f=>by rw[List.all_cons,a0W] at f;rw[a8V,a8V,VH r f.1,HR t f.2]
theorem FO {A:Around}{s:Shared}{x:V}{v:Value}(rx:RelV x v) (fx:GP x=true):∀{xs:List V}{us:List Value},Vals xs us->xs.all GP=true->∀u∈us,SeqAt.EqAt A s u v (eqU x u)
 | _,_,.nil,_=>λu hu=>by cases hu
 | y::xs,u::us,.cons r t,f=>λu' hu=>by
   rw[List.all_cons,a0W] at f;rcases yX.mp hu with rfl | hu;. rw[VH r f.1];exact cS r rx f.1 fx
   . exact FO rx fx t f.2 u' hu
def inV (x:V) (xs:List V):Bool:=xs.any λy=>eqV y x
def rIn (K:Frg) (neg:Bool):R2:=λx y H Q=>∃p xs,y = .ref p/\(SqL K H p xs\/SqT K H p xs)/\GP x=true/\xs.all GP=true/\Q (.bl (if neg then !inV x xs else inV x xs)) H
theorem U7:OpR X (compareOp .In) (rIn X.K false):=by
 intro pins s σ H x y v u Q I rx ry h;obtain⟨p,xs,rfl,hq,fx,fs,q⟩:=h;cases ry;rcases hq with hq | hq;. obtain⟨ab,r,pl,hz⟩:=I.list hq;refine SeqAt.in_listAt (eqU x) pl.isList (λw hw=>FO rx fx r fs w (by simpa using hw)) ⟨.bl _,H,I,rfl,?_⟩;rw[show ab.toArray.any (eqU x)=ab.any (eqU x) by simp,HR r fs];exact q
 . obtain⟨ab,r,pl,hz⟩:=I.tuple hq;refine SeqAt.in_tupleAt (eqU x) pl (λw hw=>FO rx fx r fs w (by simpa using hw)) ⟨.bl _,H,I,rfl,?_⟩;rw[show ab.toArray.any (eqU x)=ab.any (eqU x) by simp,HR r fs];exact q
theorem NY:OpR X (compareOp .NotIn) (rIn X.K true):=by
 intro pins s σ H x y v u Q I rx ry h;obtain⟨p,xs,rfl,hq,fx,fs,q⟩:=h;cases ry;rcases hq with hq | hq;. obtain⟨ab,r,pl,hz⟩:=I.list hq;refine SeqAt.notIn_listAt (eqU x) pl.isList (λw hw=>FO rx fx r fs w (by simpa using hw)) ⟨.bl _,H,I,rfl,?_⟩;rw[show ab.toArray.any (eqU x)=ab.any (eqU x) by simp,HR r fs];exact q
 . obtain⟨ab,r,pl,hz⟩:=I.tuple hq;refine SeqAt.notIn_tupleAt (eqU x) pl (λw hw=>FO rx fx r fs w (by simpa using hw)) ⟨.bl _,H,I,rfl,?_⟩;rw[show ab.toArray.any (eqU x)=ab.any (eqU x) by simp,HR r fs];exact q
theorem MD:BP X (.type "tuple") (λxs H Q=>∃p ys,xs=[.ref p]/\((SqL X.K H p ys/\∀l,H l=none->Q (.ref l) (upd H l (.tup ys)))\/(SqT X.K H p ys/\Q (.ref p) H))):=by
 intro pins s σ H xs us Q I r h;obtain⟨p,ys,rfl,h⟩:=h;obtain⟨u,rfl,rx⟩:=GO r;cases rx;rcases h with ⟨hq,q⟩ | ⟨hq,q⟩
 . obtain⟨ab,r',pl,hz⟩:=I.list hq;have ac:=r'.length;refine call_tuple_list pl.isList (λh' kp=>?_) (by simp only[zJ] <;> lia);have I1:Inv X pins σ H { s with heap:=h' }:=I.kept (t':=s.toks) kp;have I2:Inv X pins σ (upd H h'.objs.size (.tup ys)) { s with heap:=h'.push { cls:=.type "tuple", data:=.seq ab.toArray } }:=
     I1.laid (t':=s.toks) (λb o e=>zW _ e) (zR _) (show ObjOk X.prog X.w _ _ _ (.tup ys) from ⟨hz,ab,r',IsTup.new _ _⟩);exact⟨.ref h'.objs.size,_,I2,rfl,q _ (I1.hok.fresh (zR _))⟩
 . obtain⟨ab,r',pl,hz⟩:=I.tuple hq;exact call_tuple_same pl ⟨.ref p,H,I,rfl,q⟩
def tyV (K:Frg) (T:String) (x:V) (H:Hp):Prop:=match x with
 | .str _=>T = "str"
 | .int _=>T = "int"
 | .ref p=>(T = "list" /\ ∃xs,SqL K H p xs)\/(T = "tuple" /\ ∃o,K.lookup p=some o/\o.cls = .type "tuple" /\ o.dict=none) \/(T = "dict" /\ ((∃kvs,H p=some (.dK kvs))\/∃kvs,H p=some (.dT kvs)))\/(T = "set" /\ ∃S n,H p=some (.set S n))
 | _=>False
theorem cT {pins:List (Addr×Obj)}{σ:St}{H:Hp}{s:Shared}{T:String}{x:V}{v:Value}(I:Inv X pins σ H s) (r:RelV x v) (ty:tyV X.K T x H) :
   s.TypeIs v T/\∀a,v = .ref a->∃ob,s.heap.get? a=some ob/\ob.dict=none:=by
 cases x with
 | str z=> obtain⟨t,rfl⟩:=r;cases (show T = "str" from ty);exact⟨typeIs_str s z t,λ_ e=>nomatch e⟩
 | int i=> obtain⟨t,rfl⟩:=r;cases (show T = "int" from ty);exact⟨typeIs_int s i t,λ_ e=>nomatch e⟩
 | ref p=>
   cases r;rcases ty with ⟨rfl,xs,hq⟩ | ⟨rfl,o,hk,hc,hd⟩ | ⟨rfl,hk⟩ | ⟨rfl,S,n,hk⟩
   . obtain⟨ab,_,pl,_⟩:=I.list hq;refine⟨pl.isList.typeIs,λa e=>?_⟩;cases e;obtain⟨o,n,e,c,hd,_⟩:=pl;exact⟨o,e,hd⟩
   . refine⟨⟨o,I.kIn p o hk,hc⟩,λa e=>?_⟩;cases e;exact⟨o,I.kIn _ o hk,hd⟩
   . have z:∃o,s.heap.get? p=some o/\o.ExactDict:=by
       rcases hk with ⟨kvs,hk⟩ | ⟨kvs,hk⟩
       . obtain⟨_,_,_,_,o,_,_,e,ex,_⟩:=I.hok p _ hk;exact⟨o,e,ex⟩
       . obtain⟨_,_,_,_,o,_,_,e,ex,_⟩:=I.hok p _ hk;exact⟨o,e,ex⟩
     obtain⟨o,e,ex⟩:=z;refine⟨⟨o,e,ex.1⟩,λa e2=>?_⟩;cases e2;exact⟨o,e,ex.2.1⟩
   . obtain⟨o,_,_,_,e,ex,_⟩:=I.hok p _ hk;refine⟨⟨o,e,ex.1⟩,λa e2=>?_⟩;cases e2;exact⟨o,e,ex.2.1⟩
 | _=>exact a8Z ty
def tBM (K:Frg) (T:String) (r:V->List V->Hp->VK->Prop) (to:TE) (t:TA):TE:=λσ H Q=>to σ H λx H1=>tyV K T x H1/\t σ H1 λxs H2=>r x xs H2 Q
variable {o e:Expr}{es:List Expr}{to:TE}{t:TA}{name:Str}{apos ah:Pos}{T id:String}{r:V->List V->Hp->VK->Prop}
theorem g5 (pa:PlainAttrs T) (slot:Slot T name id) (je:typeOf (.builtin id)=pure (.type "method_descriptor")) (hm:MtR X id r) (ho:PE X o to) (ha:PA X (e::es) t) (fo:attributeBase o name X.env (eval o X.env)=eval o X.env:=by rfl)
   (iw:((backTo ah (starEach (e::es) X.env)).all (λx=>!x.1)&&(backToKw ah (keywordEach [] X.env)).all (λx=>x.1.isSome)
     && decide ((e::es).length+([]:List Keyword).length+(if ([]:List Keyword).isEmpty then 0 else 1) < 30))=true:=by rfl)
   (fq:(apos.endLine==ah.line)=true:=by rfl) (hs:starEach (e::es) X.env=(false,eval e X.env)::starEach es X.env:=by rfl) (du:(backTo ah (starEach es X.env)).any (·.1)=false:=by rfl) :
   PE X (.Call (.Attribute o name apos) (e::es) [] ah) (tBM X.K T r to t):=by intro pins s σ H Q I h;refine wpAny_Call_method_late fo iw fq rfl (thn (ho pins s σ H _ I h) λv s1 ⟨x,H1,I1,r1,ty,q1⟩=>?_);obtain⟨h1,h2⟩:=cT I1 r1 ty;refine⟨T,id,pa,slot,je,h1,h2,?_⟩;have hA:=ha ah pins s1 σ H1 _ I1 q1;rw[hs] at hA ⊢;refine Calls.callWith_builtin (by show(false||(backTo ah (starEach es X.env)).any (·.1))=false;rw[du] <;> rfl) (Calls.evalArgs_plain ?_);exact thn hA λus s2 ⟨vs,H2,I2,r2,q2⟩=>hm pins s2 σ H2 x vs v us Q I2 r1 r2 q2
end
def MtM (X:Cx) (id:String) (r:V->List V->Hp->VK->Prop):Prop:=∀(pins:List (Addr×Obj)) (s:Shared) (σ:St) (H:Hp) (x:V) (xs:List V) (v:Value) (us:List Value) (Q:VK),Inv X pins σ H s->RelV x v->Vals xs us->r x xs H Q ->
   wpAny (model X.prog X.w) X.A (call (.builtin id) (v::us)) (EP X pins σ Q) X.xe s
theorem Vals.one:∀{x:V}{us:List Value},Vals [x] us->∃u,us=[u]/\RelV x u
 | _,_,.cons r .nil=>⟨_,rfl,r⟩
section
variable {X:Cx}{pins:List (Addr×Obj)}{σ:St}{H:Hp}{s:Shared}{l b:Addr}{xs ys zs:List V}
theorem Inv.lset {ab its':List Value}{n:Nat}{f:Array Value->Array Value}{t':Nat}(I:Inv X pins σ H s) (hH:H l=some (.lst xs)) (e:s.heap.get? l=some { cls:=.type "list", data:=.seq ab.toArray n }) (hf:f ab.toArray=its'.toArray) (hv:Vals ys its') (hz:ys.length<=sizeLine) :
   Inv X pins σ (upd H l (.lst ys)) { s with heap:=s.heap.update l (a4W f),toks:=t' }:=by have q:=PySem.IsL.update e f;rw[hf] at q;refine I.write (x:=l) (e:=l) (by rw[hH];exact trivial) (.inl rfl) (λb' u hb hu=>(Heap.get?_update_other s.heap (a4W f) (a8K hb)).trans hu) ⟨_,q⟩ ?_;exact⟨hz,its',_,hv,q⟩
theorem Inv.lnew {ab:List Value}{t':Nat}(I:Inv X pins σ H s) (hv:Vals ys ab) (hz:ys.length<=sizeLine) :
   Inv X pins σ (upd H s.heap.objs.size (.lst ys)) { s with heap:=s.heap.push { cls:=.type "list", data:=.seq ab.toArray },toks:=t' }:=
 I.laid (λ_ _ q=>zW _ q) (zR _) ⟨hz,ab,0,hv,yZ _ rfl⟩
theorem Inv.fresh (I:Inv X pins σ H s):H s.heap.objs.size=none:=I.hok.fresh (zR _)
theorem Inv.lstM (I:Inv X pins σ H s) (hH:H l=some (.lst xs)):xs.length<=sizeLine/\∃(ab:List Value) (n:Nat),Vals xs ab/\xs.length=ab.length/\s.heap.get? l=some { cls:=.type "list", data:=.seq ab.toArray n }:=by obtain⟨z,ab,n,r,e⟩:=I.hok l _ hH;exact⟨z,ab,n,r,r.length,e⟩
end
section
variable {X:Cx}
def NZ:V->List V->Hp->VK->Prop:=λx vs H Q=>∃l xs y,x = .ref l/\vs=[y]/\H l=some (.lst xs)/\xs.length < sizeLine/\Q .non (upd H l (.lst (xs++[y])))
theorem MY:MtM X "list.append" NZ:=by intro pins s σ H x vs v us Q I rx rv h;obtain⟨l,xs,y,rfl,rfl,hH,hz,q⟩:=h;cases rx;obtain⟨u,rfl,ru⟩:=rv.one;obtain⟨z,ab,n,r,hl,e⟩:=I.lstM hH;refine call_meets F.slot_list_append ⟨_,e,rfl⟩ F.entry_list_append (F.args_list_append_2 _ _) (PySem.list_append l ab.toArray n u (by rw[zJ];lia)) ⟨e,?_⟩;refine⟨.non,_,I.lset (its':=ab++[u]) hH e (by simp) (r.append (.cons ru .nil)) ?_,rfl,q⟩;rw[yY,List.length_singleton];lia
end
section
variable {κ:Type}[DecidableEq κ]
def GM (kvs:List (κ×V)) (k:κ):Option V:=(kvs.find? λkv=>decide (kv.1=k)).map (·.2)
def D0 (kvs:List (κ×V)) (k:κ) (v:V):List (κ×V):=
 if (kvs.any λkv=>decide (kv.1=k))=true then kvs.map (λkv=>if kv.1=k then (kv.1,v) else kv) else kvs++[(k,v)]
def KO (kvs:List (κ×V)) (k:κ):List (κ×V):=kvs.filter λkv=>decide (kv.1≠k)
theorem HS {p:κ×V}{r:List (κ×V)}{k:κ}(e:p.1=k):GM (p::r) k=some p.2:=by simp[GM,a8W,e]
theorem FP {p:κ×V}{r:List (κ×V)}{k:κ}(e:¬p.1=k):GM (p::r) k=GM r k:=by simp[GM,a8W,e]
theorem PH (k:κ):∀kvs:List (κ×V),(kvs.any λkv=>decide (kv.1=k))=(GM kvs k).isSome
 | []=>rfl
 | p::r=>by
   rw[a8V];by_cases e:p.1=k;. simp only[HS e,decide_eq_true e,Bool.true_or,Option.isSome_some]
   . rw[FP e,decide_eq_false e,Bool.false_or];exact PH k r
theorem E7 (kvs:List (κ×V)) (k:κ) (v:V):(D0 kvs k v).length<=kvs.length+1:=by
 unfold D0;split;. rw[zX];lia
 . rw[yY,yR,List.length_nil];lia
theorem RelO.isSome_eq {o:Option V}{u:Option Value}(r:RelO o u):o.isSome=u.isSome:=by
 cases o with
 | none=>cases u with
   | none=>rfl
   | some _=>exact(show False from r).elim
 | some _=>cases u with
   | none=>exact(show False from r).elim
   | some _=>rfl
theorem KV.val {kvs:List (κ×V)}{vs:List (κ×Value)}(r:KV kvs vs) (k:κ):RelO (GM kvs k) (valueAt vs k):=by
 unfold KV at r;induction r with
 | nil=>exact a5J
 | @cons p q ps qs h t ih=>
   obtain⟨h1,h2⟩:=h;by_cases e:p.1=k
   . have e':q.1=k:=h1.symm.trans e;have b:valueAt (q::qs) k=some q.2:=by simp[valueAt,a8W,e']
     rw[HS e,b];exact h2
   . have e':¬q.1=k:=λz=>e (h1.trans z);have b:valueAt (q::qs) k=valueAt qs k:=by simp[valueAt,a8W,e']
     rw[FP e,b];exact ih
theorem KV.any {kvs:List (κ×V)}{vs:List (κ×Value)}(r:KV kvs vs) (k:κ):(kvs.any λkv=>decide (kv.1=k))=vs.any λkv=>decide (kv.1=k):=by
 unfold KV at r;induction r with
 | nil=>rfl
 | cons h t ih=>rw[a8V,a8V,ih,h.1]
theorem KV.repl {kvs:List (κ×V)}{vs:List (κ×Value)}(r:KV kvs vs) (k:κ) {y:V}{u:Value}(ry:RelV y u) :
   KV (kvs.map λkv=>if kv.1=k then (kv.1,y) else kv) (vs.map λkv=>if kv.1=k then (kv.1,u) else kv):=by
 unfold KV at r ⊢;induction r with
 | nil=>exact .nil
 | @cons p q ps qs h t ih=>
   rw[zI,zI];refine .cons ?_ ih;obtain⟨h1,h2⟩:=h;by_cases e:p.1=k;. rw[if_pos e,if_pos (h1.symm.trans e)];exact⟨h1,ry⟩
   . rw[if_neg e,if_neg (λz=>e (h1.trans z))];exact⟨h1,h2⟩
theorem KV.put {kvs:List (κ×V)}{vs:List (κ×Value)}(r:KV kvs vs) (k:κ) {y:V}{u:Value}(ry:RelV y u):KV (D0 kvs k y) (stored vs k u):=by
 unfold D0 stored;rw[r.any k];by_cases e:(vs.any λkv=>decide (kv.1=k))=true;. rw[if_pos e,if_pos e];exact r.repl k ry
 . rw[if_neg e,if_neg e];exact Paired.snoc r ⟨rfl,ry⟩
theorem KV.drop {kvs:List (κ×V)}{vs:List (κ×Value)}(r:KV kvs vs) (k:κ):KV (KO kvs k) (without vs k):=by
 unfold KV at r ⊢;unfold KO without;induction r with
 | nil=>exact .nil
 | @cons p q ps qs h t ih=>
   obtain⟨h1,h2⟩:=h;rw[a6Q,a6Q];by_cases e:p.1=k
   . have a:¬decide (p.1≠k)=true:=by simp[e]
     have b:¬decide (q.1≠k)=true:=by simp[h1.symm.trans e]
     rw[if_neg a,if_neg b];exact ih
   . have e':¬q.1=k:=λz=>e (h1.trans z);have a:decide (p.1≠k)=true:=by simp[e]
     have b:decide (q.1≠k)=true:=by simp[e']
     rw[if_pos a,if_pos b];exact .cons ⟨h1,h2⟩ ih
theorem KV.length {kvs:List (κ×V)}{vs:List (κ×Value)}(r:KV kvs vs):kvs.length=vs.length:=Paired.length r
theorem VI (kvs:List (κ×V)) (k:κ):(KO kvs k).length<=kvs.length:=yJ _ _
end
theorem JL {P:Program}{w:World}{k:Key}{u:Value}(r:RelV (kV k) u):(AY P w).is k u=true:=by
 cases k with
 | inl i=>obtain⟨t,e⟩:=(show ∃t,u=Value.int i t from r);subst e;exact P8 P w i t
 | inr x=>obtain⟨t,e⟩:=(show ∃t,u=b3Q x t from r);subst e;exact P9 P w x t
theorem MZ {P:Program}{w:World}:∀{ks:List Key}{us:List Value},Vals (ks.map kV) us->ItemsAre (AY P w) ks us
 | [],_,r=>by rw[a6W] at r;cases r;exact .nil
 | k::ks,_,r=>by
   rw[zI] at r;cases r with
   | cons h t=>exact .cons (JL h) (MZ t)
abbrev KT (H:Hp):List (List Key×V)->List (List Key×Addr×Value)->Prop:=Paired λp q=>p.1=q.1/\H q.2.1=some (.tup (p.1.map kV))/\RelV p.2 q.2.2
theorem KT.val {H:Hp}{kvs:List (List Key×V)}{xs:List (List Key×Addr×Value)}(r:KT H kvs xs) (k:List Key):RelO (GM kvs k) ((atKey xs k).map (·.2)):=by
 induction r with
 | nil=>exact a5J
 | @cons p q ps qs h t ih=>
   obtain⟨h1,_,h2⟩:=h;by_cases e:p.1=k
   . have e':q.1=k:=h1.symm.trans e;have b:atKey (q::qs) k=some q.2:=by simp[atKey,a8W,e']
     rw[HS e,b];exact h2
   . have e':¬q.1=k:=λz=>e (h1.trans z);have b:atKey (q::qs) k=atKey qs k:=by simp[atKey,a8W,e']
     rw[FP e,b];exact ih
theorem KT.repl {H:Hp}{kvs:List (List Key×V)}{xs:List (List Key×Addr×Value)}(r:KT H kvs xs) (k:List Key) {y:V}{u:Value}(ry:RelV y u) :
   KT H (kvs.map λkv=>if kv.1=k then (kv.1,y) else kv) (xs.map (putAt k u)):=by
 induction r with
 | nil=>exact .nil
 | @cons p q ps qs h t ih=>
   rw[zI,zI];refine .cons ?_ ih;obtain⟨h1,h2,h3⟩:=h;unfold putAt;by_cases e:p.1=k;. rw[if_pos e,if_pos (h1.symm.trans e)];exact⟨h1,h2,ry⟩
   . rw[if_neg e,if_neg (λz=>e (h1.trans z))];exact⟨h1,h2,h3⟩
theorem KT.put {H:Hp}{kvs:List (List Key×V)}{xs:List (List Key×Addr×Value)}(r:KT H kvs xs) (k:List Key) {b:Addr}{y:V}{u:Value}(hb:H b=some (.tup (k.map kV))) (ry:RelV y u) :
   KT H (D0 kvs k y) (storedH xs k b u):=by
 have e:(kvs.any λkv=>decide (kv.1=k))=(atKey xs k).isSome:=by rw[PH,(r.val k).isSome_eq,a5X]
 unfold D0 storedH;rw[e];by_cases q:(atKey xs k).isSome=true;. rw[if_pos q,if_pos q];exact r.repl k ry
 . rw[if_neg q,if_neg q];exact Paired.snoc r ⟨rfl,hb,ry⟩
theorem KT.keeps {H H':Hp}{kvs:List (List Key×V)}{xs:List (List Key×Addr×Value)}(r:KT H kvs xs) (ht:∀b ys,H b=some (.tup ys)->H' b=some (.tup ys)):KT H' kvs xs:=
 Paired.mapP r λ_ _ z=>⟨z.1,ht _ _ z.2.1,z.2.2⟩
section
variable {P:Program}{w:World}{H:Hp}{h:Heap}{a:Addr}
theorem aR {u:HO}(ok:HOk P w H h) (e:Rd H a u):ObjOk P w H h a u:=e.ok ok
theorem HU {kvs:List (Key×V)}(ok:HOk P w H h) (e:Rd H a (.dK kvs)):kvs.length<=sizeLine/\(a==sysModules)=false/\∃vs,KV kvs vs/\h.DictOf (AY P w) a vs:=
 show ObjOk P w H h a (.dK kvs) from aR ok e
theorem SS {kvs:List (Key×V)}(ok:HOk P w H h) (e:H a=some (.dK kvs)):kvs.length<=sizeLine/\(a==sysModules)=false/\∃vs,KV kvs vs/\h.DictOf (AY P w) a vs:=HU ok (.inl e)
theorem KP {ks:List Key}(ok:HOk P w H h) (e:H a=some (.tup (ks.map kV))):(tupleKind (AY P w)).is h ks a:=by
 obtain⟨_,ab,r,o,h1,h2,n,h3⟩:=(show ObjOk P w H h a (.tup (ks.map kV)) from ok a _ e)
 exact⟨o,ab.toArray,n,h1,h2,h3,by simpa using MZ r⟩
theorem N0 {kvs:List (List Key×V)}(ok:HOk P w H h) (e:Rd H a (.dT kvs)):kvs.length<=sizeLine/\(a==sysModules)=false /\∃xs,KT H kvs xs/\h.DictOfH (tupleKind (AY P w)) a xs:=by
 obtain⟨z,y,xs,r,o,es,ep,h1,h2,h3,h4,h5⟩:=(show ObjOk P w H h a (.dT kvs) from aR ok e)
 refine⟨z,y,xs,r,o,es,ep,h1,h2,h3,h4,λx hx=>?_,h5⟩;have all:∀{l:List (List Key×V)}{m:List (List Key×Addr×Value)},KT H l m->∀x∈m,(tupleKind (AY P w)).is h x.1 x.2.1:=by
   intro l m q;induction q with
   | nil=>intro x hx;exact nomatch hx
   | @cons p q ps qs hq t ih=>
     intro x hx;rcases yX.mp hx with e | hx;. subst e;exact KP ok (by rw[<-hq.1];exact hq.2.1)
     . exact ih x hx
 exact all r x hx
theorem g6 {kvs:List (List Key×V)}(ok:HOk P w H h) (e:H a=some (.dT kvs)):kvs.length<=sizeLine/\(a==sysModules)=false /\∃xs,KT H kvs xs/\h.DictOfH (tupleKind (AY P w)) a xs:=N0 ok (.inl e)
end
def RM (H:Hp) (a:Addr) (y:V) (r:Option V):Prop:=(∃kvs k,Rd H a (.dK kvs)/\y=kV k/\r=GM kvs k)\/∃kvs k b,Rd H a (.dT kvs)/\y = .ref b/\H b=some (.tup (k.map kV))/\r=GM kvs k
def g7 (H:Hp) (a:Addr) (y v:V) (H':Hp):Prop:=(∃kvs k,H a=some (.dK kvs)/\y=kV k/\kvs.length < sizeLine/\H'=upd H a (.dK (D0 kvs k v))) \/∃kvs k b,H a=some (.dT kvs)/\y = .ref b/\H b=some (.tup (k.map kV))/\kvs.length < sizeLine/\H'=upd H a (.dT (D0 kvs k v))
section
variable {X:Cx}{pins:List (Addr×Obj)}{σ:St}{H:Hp}{s:Shared}{a:Addr}{y v:V}{u r:Value}{o:Option V}{A:Around}{E:Value->Shared->Prop}
theorem Inv.big (I:Inv X pins σ H s):sysModules < s.heap.objs.size:=by have h:mainGlobals < s.heap.objs.size:=(I.mod.glob.keeps I.bk).lt;exact Nat.lt_trans (by decide) h
theorem U8 {Q:Value->Shared->Prop}(hu:A.units+1 < cLine) (I:Inv X pins σ H s) (g:RM H a y (some v)) (ry:RelV y u) (h:∀w' s',Inv X pins σ H s'->RelV v w'->Q w' s') :
   wpAny (model X.prog X.w) A (getItem (.ref a) u) Q E s:=by
 rcases g with ⟨kvs,k,e,ey,l⟩ | ⟨kvs,k,b,e,ey,eb,l⟩
 . subst ey;obtain⟨z,hd,vs,rel,dd⟩:=HU I.hok e;obtain⟨w',hw,dr⟩:=RelO.some_of (v:=v) (o:=valueAt vs k) (by rw[l];exact rel.val k);exact wpAny_getItem_of (JL ry) dd.mapOf hw (h w' _ (I.tok _) dr)
 . subst ey;cases (show u=a0X b from ry);obtain⟨z,hd,xs,rel,dd⟩:=N0 I.hok e;obtain⟨w',hw,dr⟩:=RelO.some_of (v:=v) (o:=(atKey xs k).map (·.2)) (by rw[l];exact rel.val k);obtain⟨p,hp,hp2⟩:=Option.map_eq_some_iff.mp hw;refine wpAny_getItem_heap (tupleKind_room_in1 hu) (KP I.hok eb) dd hp ?_;rw[hp2];exact h w' _ (I.tok _) dr
theorem i8 {Q:Value->Shared->Prop}(hu:A.units+1 < cLine) (I:Inv X pins σ H s) (g:RM H a y o) (ry:RelV y u) (h:∀s',Inv X pins σ H s'->Q (.bool o.isSome) s') :
   wpAny (model X.prog X.w) A (compareOp .In u (.ref a)) Q E s:=by
 rcases g with ⟨kvs,k,e,ey,l⟩ | ⟨kvs,k,b,e,ey,eb,l⟩
 . subst ey;obtain⟨z,hd,vs,rel,dd⟩:=HU I.hok e;refine wpAny_in_of (JL ry) hd dd.mapOf ?_;rw[<-(rel.val k).isSome_eq,<-l];exact h _ (I.tok _)
 . subst ey;cases (show u=a0X b from ry);obtain⟨z,hd,xs,rel,dd⟩:=N0 I.hok e;refine wpAny_in_heap (tupleKind_room_in1 hu) (KP I.hok eb) hd dd ?_;have q:=(rel.val k).isSome_eq;rw[a5X] at q;rw[<-q,<-l];exact h _ (I.tok _)
theorem YK {Q:Value->Shared->Prop}(hu:A.units+1 < cLine) (I:Inv X pins σ H s) (g:RM H a y o) (ry:RelV y u) (h:∀s',Inv X pins σ H s'->Q (.bool (!o.isSome)) s') :
   wpAny (model X.prog X.w) A (compareOp .NotIn u (.ref a)) Q E s:=by
 rcases g with ⟨kvs,k,e,ey,l⟩ | ⟨kvs,k,b,e,ey,eb,l⟩
 . subst ey;obtain⟨z,hd,vs,rel,dd⟩:=HU I.hok e;refine wpAny_notIn_of (JL ry) hd dd.mapOf ?_;rw[<-(rel.val k).isSome_eq,<-l];exact h _ (I.tok _)
 . subst ey;cases (show u=a0X b from ry);obtain⟨z,hd,xs,rel,dd⟩:=N0 I.hok e;refine wpAny_notIn_heap (tupleKind_room_in1 hu) (KP I.hok eb) hd dd ?_;have q:=(rel.val k).isSome_eq;rw[a5X] at q;rw[<-q,<-l];exact h _ (I.tok _)
theorem HV {h':Heap}{t':Nat}{ob:HO}(I:Inv X pins σ H s) (mu:Mut (H a)) (hs:Heap.SameBut a s.heap h') (he:∃q,h'.get? a=some q) (new:ObjOk X.prog X.w (upd H a ob) h' a ob) :
   Inv X pins σ (upd H a ob) { s with heap:=h',toks:=t' }:=
 I.write (x:=a) (e:=a) mu (.inl rfl) (λb q hb z=>(hs.2 b hb).trans z) he new
theorem KQ {P:Program}{w:World}{H':Hp}{h':Heap}{kvs:List (Key×V)}{vs:List (Key×Value)}(z:kvs.length<=sizeLine) (hd:(a==sysModules)=false) (rel:KV kvs vs) (dd:h'.DictOf (AY P w) a vs) :
   ObjOk P w H' h' a (.dK kvs):=⟨z,hd,vs,rel,dd⟩
theorem U9 {H':Hp}{Q:Unit->Shared->Prop}(hu:A.units+1 < cLine) (I:Inv X pins σ H s) (g:g7 H a y v H') (ry:RelV y u) (rv:RelV v r) (h:∀s',Inv X pins σ H' s'->Q () s') :
   wpAny (model X.prog X.w) A (setItem (.ref a) u r) Q E s:=by
 rcases g with ⟨kvs,k,e,ey,l,eH⟩ | ⟨kvs,k,b,e,ey,eb,l,eH⟩
 . subst ey eH;obtain⟨z,hd,vs,rel,dd⟩:=SS I.hok e;have hz:vs.length<=sizeLine:=by rw[<-rel.length];exact z
   have hl:(D0 kvs k v).length<=sizeLine:=by have:=E7 kvs k v;lia
   refine wpAny_setItem_pairs (hsz:=hz) (JL ry) dd λh' e_ hs=>h _ ?_;have he:∃q,h'.get? a=some q:=let ⟨q,_,_,hq,_⟩:=e_;⟨q,hq⟩;exact HV I (by rw[e];exact a5J) hs he (KQ hl hd (rel.put k rv) e_)
 . subst ey eH;cases (show u=a0X b from ry);obtain⟨z,hd,xs,rel,dd⟩:=g6 I.hok e;have hz:xs.length<=sizeLine:=by rw[<-Paired.length rel];exact z
   have hl:(D0 kvs k v).length<=sizeLine:=by have:=E7 kvs k v;lia
   refine wpAny_setItem_heap (hsz:=hz) (tupleKind_room_in1 hu) (KP I.hok eb) dd λh' e_ hs=>h _ ?_;obtain⟨q,es,ep,hq,h2,h3,h4,_,h5⟩:=e_;refine HV I (by rw[e];exact a5J) hs ⟨q,hq⟩ ⟨hl,hd,_,(rel.put k eb rv).keeps λc ys ec=>?_,q,es,ep,hq,h2,h3,h4,h5⟩;rw[AR (fD ec e (λz=>nomatch z))];exact ec
end
section
variable {X:Cx}{pins:List (Addr×Obj)}{σ:St}{H:Hp}{s:Shared}{a:Addr}{kvs:List (Key×V)}{k:Key}{u:Value}{A:Around}{E:Value->Shared->Prop}
theorem g8 {v:V}{more:List Value}{Q:Value->Shared->Prop}(I:Inv X pins σ H s) (e:H a=some (.dK kvs)) (ry:RelV (kV k) u) (l:GM kvs k=some v) (hm:more=[]\/∃x,more=[x]) (h:∀w' s',Inv X pins σ (upd H a (.dK (KO kvs k))) s'->RelV v w'->Q w' s'):wpAny (model X.prog X.w) A (call (.builtin "dict.pop") (.ref a::u::more)) Q E s:=by
 obtain⟨z,hd,vs,rel,dd⟩:=SS I.hok e;obtain⟨w',hw,dr⟩:=RelO.some_of (v:=v) (o:=valueAt vs k) (by rw[<-l];exact rel.val k);have hp:(keyPart u).isSome=true:=by
   cases k with
   | inl i=>obtain⟨t,q⟩:=(show ∃t,u=Value.int i t from ry);subst q;rfl
   | inr x=>obtain⟨t,q⟩:=(show ∃t,u=b3Q x t from ry);subst q;rfl
 have ha:argsOk "dict.pop" ⟨.ref a::u::more,[]⟩:=by
   rcases hm with q | ⟨x,q⟩
   . subst q;exact PySem.F.args_dict_pop_2 _ _
   . subst q;exact PySem.F.args_dict_pop_3 _ _ _
 refine call_meetsIn PySem.F.slot_dict_pop dd.typeIs PySem.F.entry_dict_pop ha (meets_dict_pop_there (AY X.prog X.w) a (JL ry) more hm hp) ⟨vs,w',dd,by rw[<-rel.length];exact z,hw,λh' e_ hs=>h w' _ ?_ dr⟩;have he:∃q,h'.get? a=some q:=let ⟨q,_,_,hq,_⟩:=e_;⟨q,hq⟩;exact HV I (by rw[e];exact a5J) hs he (KQ (zN (VI kvs k) z) hd (rel.drop k) e_)
end
def g9 (i:Expr):Prop:=∀ov iv,subscripted i false ov iv=operate [ov,iv] (getItem ov iv)
theorem YL {prog:Program}{w:World}{A:Around}{E:Value->Shared->Prop}{s:Shared}{env:Env}{value slice:Expr}{pos:Pos}{T id:String}{Q:Value->Shared->Prop} (hl:typeLookup (.type T) "__getitem__"=pure (some (.builtin id))) (hs:g9 slice) (h:wpAny (model prog w) A (eval value env) (λo s₁=>wpAny (model prog w) A (eval slice env) (λi s₂=>s₂.TypeIs o T/\wpAny (model prog w) A (getItem o i) Q E s₂) E s₁) E s) :
   wpAny (model prog w) A (eval (.Subscript value slice pos) env) Q E s:=by
 refine Subscript_ (wpAny_mono h (λo s₁ h₁=>wpAny_mono h₁ (λi s₂ h₂=>?_) λ_ _ x=>x) λ_ _ x=>x);obtain⟨hT,h₂⟩:=h₂;unfold subscriptTail;refine zZ ?_;rw[getitemInPython_of_ne hT.not_modules];refine zZ (wpAny_specialOf hT hl ?_);have fin:wpAny (model prog w) A (subscripted slice false o i) (λr s₃=>wpAny (model prog w) A (letTemporaryGo value o r >>= λ_=>pure r) Q E s₃) E s₂:=by rw[hs o i];exact wpAny_operating (wpAny_mono h₂ (λr s₃ h₃=>zZ (wpAny_letTemporaryGo (zY h₃))) λ_ _ x=>x)
 first
   | exact zY (zZ fin)
   | exact zZ (zY (zZ fin))
   | exact zZ fin
theorem PJ {X:Cx}{pins:List (Addr×Obj)}{σ:St}{H:Hp}{s:Shared}{a:Addr}{y:V}{o:Option V}(I:Inv X pins σ H s) (g:RM H a y o):s.TypeIs (.ref a) "dict" := by
 rcases g with ⟨kvs,k,e,_,_⟩ | ⟨kvs,k,b,e,_,_,_⟩
 . obtain⟨_,_,vs,_,dd⟩:=HU I.hok e;exact dd.typeIs
 . obtain⟨_,_,xs,_,dd⟩:=N0 I.hok e;exact dd.typeIs
def VJ (td ty:TE):TE:=λσ H Q=>td σ H λx H1=>ty σ H1 λy H2=>∃a v,x = .ref a/\RM H2 a y (some v)/\Q v H2
def gA (ty td:TE):TE:=λσ H Q=>ty σ H λy H1=>td σ H1 λx H2=>∃a o,x = .ref a/\RM H2 a y o/\Q (.bl o.isSome) H2
def SU (ty td:TE):TE:=λσ H Q=>ty σ H λy H1=>td σ H1 λx H2=>∃a o,x = .ref a/\RM H2 a y o/\Q (.bl (!o.isSome)) H2
def aS (td ty tv:TE):TS:=λD σ H=>tv σ H λv H1=>td σ H1 λx H2=>ty σ H2 λy H3=>∃a H4,x = .ref a/\g7 H3 a y v H4/\D.nx σ H4
section
variable {X:Cx}{o i e value:Expr}{pos pos' mO:Pos}{td ty tv:TE}
theorem G6 (hu:X.A.units+1 < cLine) (ho:PE X o td) (hi:PE X i ty) (hs:g9 i):PE X (.Subscript o i pos) (VJ td ty):=by intro pins s σ H Q I h;refine YL PySem.F.slot_dict_getitem.lookup hs (thn (ho pins s σ H _ I h) λu s1 ⟨x,H1,I1,rx,q1⟩=>thn (hi pins s1 σ H1 _ I1 q1) λiv s2 ⟨y,H2,I2,ry,a,v,ex,g,q2⟩=>?_);subst ex;obtain rfl:u=a0X a:=rx;exact⟨PJ I2 g,U8 hu I2 g ry λw' s3 I3 dr=>⟨v,H2,I3,dr,q2⟩⟩
theorem RN (hu:X.A.units+1 < cLine) (hi:PE X i ty) (ho:PE X o td):PC X .In i o (gA ty td):=by intro pins s σ H Q I h;refine thn (hi pins s σ H _ I h) λiv s1 ⟨y,H1,I1,ry,q1⟩=>thn (ho pins s1 σ H1 _ I1 q1) λu s2 ⟨x,H2,I2,rx,a,ov,ex,g,q2⟩=>?_;subst ex;obtain rfl:u=a0X a:=rx;exact i8 hu I2 g ry λs3 I3=>⟨.bl ov.isSome,H2,I3,rfl,q2⟩
theorem N1 (hu:X.A.units+1 < cLine) (hi:PE X i ty) (ho:PE X o td):PC X .NotIn i o (SU ty td):=by intro pins s σ H Q I h;refine thn (hi pins s σ H _ I h) λiv s1 ⟨y,H1,I1,ry,q1⟩=>thn (ho pins s1 σ H1 _ I1 q1) λu s2 ⟨x,H2,I2,rx,a,ov,ex,g,q2⟩=>?_;subst ex;obtain rfl:u=a0X a:=rx;exact YK hu I2 g ry λs3 I3=>⟨.bl (!ov.isSome),H2,I3,rfl,q2⟩
theorem O0 (hu:X.A.units+1 < cLine) (ho:PE X o td) (hi:PE X i ty) (hv:PE X value tv) (hs:swapsWith value (some (.Subscript o i pos')) pos.line X.env=pure false) :
   PS X (.Assign [.Subscript o i pos'] value pos) (aS td ty tv):=by intro pins s σ H D I h;refine wpAny_Assign_Subscript (thn (hv pins s σ H _ I h) λr s1 ⟨v,H1,I1,rv,q1⟩=>thn (ho pins s1 σ H1 _ I1 q1) λu s2 ⟨x,H2,I2,rx,q2⟩=>thn (hi pins s2 σ H2 _ I2 q2) λiv s3 ⟨y,H3,I3,ry,a,H4,ex,g,q3⟩=>?_) hs;subst ex;obtain rfl:u=a0X a:=rx;exact U9 hu I3 g ry rv λs4 I4=>⟨σ,H4,I4,q3⟩
end
theorem KR {P:Program}{w:World}{H:Hp}(h:Heap) (hb:sysModules < h.objs.size):ObjOk P w H (h.push { cls:=.type "dict", data:=.dict #[] }) h.objs.size (.dK []):=⟨xU _,beq_eq_false_iff_ne.mpr (a8K (zC hb)),[],.nil,Heap.DictOf.new h⟩
def VL:TE:=λ_ H Q=>∀p,H p=none->Q (.ref p) (upd H p (.dK []))
section
variable {X:Cx}{pos:Pos}
theorem VM:PE X (.Dict [] [] pos) VL:=λpins s σ H Q I h=>
 wpAny_Dict_empty ⟨.ref s.heap.objs.size,_,I.laid (a:=s.heap.objs.size) (o:=.dK []) (t':=s.toks) (λ_ _ q=>zW _ q) (zR _) (KR s.heap I.big),rfl,h _ (I.hok.fresh (zR _))⟩
end
def O1:List (TE×TE)->St->Hp->(List (V×V)->Hp->Prop)->Prop
 | [],_,H,Q=>Q [] H
 | (tk,tv)::r,σ,H,Q=>tk σ H λx H1=>tv σ H1 λy H2=>O1 r σ H2 λps H3=>Q ((x,y)::ps) H3
abbrev VV:List (V×V)->List (Value×Value)->Prop:=Paired λp q=>RelV p.1 q.1/\RelV p.2 q.2
def PPs (X:Cx) (pos:Pos) (keys:List (Option Expr)) (values:List Expr) (dj:List (TE×TE)):Prop:=∀(pins:List (Addr×Obj)) (s:Shared) (σ:St) (H:Hp) (Q:List (V×V)->Hp->Prop),Inv X pins σ H s->O1 dj σ H Q ->
   wpAny (model X.prog X.w) X.A (evalPairs (pairTrees keys values X.env pos)) (λvs s'=>∃ps H',Inv X pins σ H' s'/\VV ps vs/\Q ps H') X.xe s
theorem YM {X:Cx}{pos:Pos}:PPs X pos [] [] []:=λpins s σ H Q I h=>pairTrees_nil_walk ⟨[],H,I,.nil,h⟩
theorem PK {X:Cx}{pos:Pos}{k v:Expr}{ks:List (Option Expr)}{vs:List Expr}{tk tv:TE}{dj:List (TE×TE)}(hk:PE X k tk) (hv:PE X v tv) (hr:PPs X pos ks vs dj) :
   PPs X pos (some k::ks) (v::vs) ((tk,tv)::dj):=λpins s σ H Q I h=>
 pairTrees_cons_walk (thn (hk pins s σ H _ I h) λu s1 ⟨x,H1,I1,rx,q1⟩=>thn (hv pins s1 σ H1 _ I1 q1) λw2 s2 ⟨y,H2,I2,ry,q2⟩=>
   thn (hr pins s2 σ H2 _ I2 q2) λws s3 ⟨ps,H3,I3,rel,q3⟩=>⟨(x,y)::ps,H3,I3,.cons ⟨rx,ry⟩ rel,q3⟩)
def FQ (kvs more:List (Key×V)):List (Key×V):=more.foldl (λacc kv=>D0 acc kv.1 kv.2) kvs
theorem KV.merge:∀{more:List (Key×V)}{rs:List (Key×Value)}{kvs:List (Key×V)}{vs:List (Key×Value)},KV more rs->KV kvs vs->KV (FQ kvs more) (merged vs rs):=by
 intro more rs kvs vs r;unfold KV at r;induction r generalizing kvs vs with
 | nil=>intro q;exact q
 | @cons p q ps qs h t ih=>
   intro r0;have e:KV (D0 kvs p.1 p.2) (stored vs q.1 q.2):=by have:=r0.put p.1 h.2;rw[<-h.1];exact this
   exact ih e
theorem GQ:∀(more kvs:List (Key×V)),(FQ kvs more).length<=kvs.length+more.length
 | [],kvs=>by show kvs.length<=kvs.length+0;lia
 | p::r,kvs=>by have h1:=GQ r (D0 kvs p.1 p.2);have h2:=E7 kvs p.1 p.2;show(FQ (D0 kvs p.1 p.2) r).length<=_;rw[yR];lia
theorem KS {P:Program}{w:World}:∀{kvs:List (Key×V)}{ws:List (Value×Value)},VV (kvs.map λkv=>(kV kv.1,kv.2)) ws->∃rs,Carries (AY P w) ws rs/\KV kvs rs
 | [],_,r=>by rw[a6W] at r;cases r;exact⟨[],a5J,.nil⟩
 | p::kvs,_,r=>by
   rw[zI] at r;cases r with
   | @cons a b as bs h t=> obtain⟨rs,c,q⟩:=KS (P:=P) (w:=w) t;obtain⟨b1,b2⟩:=b;exact⟨(p.1,b2)::rs,⟨JL h.1,rfl,c⟩,.cons ⟨rfl,h.2⟩ q⟩
def aT (dj:List (TE×TE)):TE:=λσ H Q=>∀p,H p=none->O1 dj σ (upd H p (.dK [])) λps H2=>H2 p=some (.dK [])/\∃kvs:List (Key×V),ps=kvs.map (λkv=>(kV kv.1,kv.2))/\kvs.length<=15/\Q (.ref p) (upd H2 p (.dK (FQ [] kvs)))
theorem YN {X:Cx}{pos:Pos}{keys:List (Option Expr)}{values:List Expr}{dj:List (TE×TE)}(h:PPs X pos keys values dj) (ix:keys.all (·.isSome)=true) (hl:keys.length=values.length) (h0:keys≠[]) (mP:keys.length<=15):PE X (.Dict keys values pos) (aT dj):=by
 intro pins s σ H Q I q;have hn:=I.hok.fresh (zR s.heap.objs.size);have I1:=I.laid (a:=s.heap.objs.size) (o:=.dK []) (h':=s.heap.push { cls:=.type "dict", data:=.dict #[] }) (t':=s.toks) (λ_ _ q=>zW _ q) (zR _) (KR s.heap I.big);refine wpAny_Dict_walk (knd:=AY X.prog X.w) ix hl h0 mP (thn (h pins _ σ _ _ I1 (q _ hn)) λws s2 ⟨ps,H2,I2,rel,e,kvs,ep,lk,q2⟩=>?_);subst ep;obtain⟨rs,c,rk⟩:=KS (P:=X.prog) (w:=X.w) rel;obtain⟨z,hd,om,r0,dd⟩:=SS I2.hok e;cases r0;refine⟨rs,c,dd,λh' e_ hs=>⟨.ref s.heap.objs.size,_,?_,rfl,q2⟩⟩;have hz:(FQ [] kvs).length<=sizeLine:=by have h1:=GQ kvs [];rw[List.length_nil] at h1;rw[sizeLine_eq];lia
 have he:∃q,h'.get? s.heap.objs.size=some q:=let ⟨q,_,_,hq,_⟩:=e_;⟨q,hq⟩;exact HV I2 (by rw[e];exact a5J) hs he (KQ hz hd (rk.merge .nil) e_)
structure M1 (X:Cx) (o:Expr) (m:Str) (apos:Pos) (e:Expr) (ah:Pos):Prop where
 base:attributeBase o m X.env (eval o X.env)=eval o X.env
 few:((backTo ah (starEach [e] X.env)).all (λx=>!x.1)&&(backToKw ah (keywordEach [] X.env)).all (λx=>x.1.isSome)
   && decide (([e]:List Expr).length+([]:List Keyword).length+(if ([]:List Keyword).isEmpty then 0 else 1) < 30))=true
 line:(apos.endLine==ah.line)=true
 trees:backTo ah (starEach [e] X.env)=[(false,eval e X.env)]
def IsD (H:Hp) (a:Addr):Prop:=(∃kvs,Rd H a (.dK kvs))\/∃kvs,Rd H a (.dT kvs)
theorem cU {X:Cx}{pins:List (Addr×Obj)}{σ:St}{H:Hp}{s:Shared}{a:Addr}(I:Inv X pins σ H s) (d:IsD H a) :
   s.TypeIs (.ref a) "dict" /\ (∀b,a0X a = .ref b->∃ob,s.heap.get? b=some ob/\ob.dict=none)/\(a==sysModules)=false:=by
 rcases d with ⟨kvs,e⟩ | ⟨kvs,e⟩
 . obtain⟨_,hd,vs,_,dd⟩:=HU I.hok e;refine⟨dd.typeIs,λb q=>?_,hd⟩;cases q;obtain⟨ob,_,_,h1,h2,_⟩:=dd;exact⟨ob,h1,h2.2.1⟩
 . obtain⟨_,hd,xs,_,dd⟩:=N0 I.hok e;refine⟨dd.typeIs,λb q=>?_,hd⟩;cases q;obtain⟨ob,_,_,h1,h2,_⟩:=dd;exact⟨ob,h1,h2.2.1⟩
def VN (td ty:TE):TE:=λσ H Q=>td σ H λx H1=>∃a,x = .ref a/\IsD H1 a/\ty σ H1 λy H2=>∃kvs k v,H2 a=some (.dK kvs)/\y=kV k/\GM kvs k=some v/\Q v (upd H2 a (.dK (KO kvs k)))
section
variable {X:Cx}{o e f:Expr}{apos ah:Pos}{td ty tx:TE}
theorem VO (ho:PE X o td) (he:PE X e ty) (m:M1 X o "pop" apos e ah):PE X (.Call (.Attribute o "pop" apos) [e] [] ah) (VN td ty):=by intro pins s σ H Q I h;refine wpAny_Call_method m.base m.few m.line PySem.F.plainAttrs_dict PySem.F.slot_dict_pop PySem.F.type_dict_pop (thn (ho pins s σ H _ I h) λu s1 ⟨x,H1,I1,rx,a,ex,d,q1⟩=>?_);subst ex;obtain rfl:u=a0X a:=rx;obtain⟨t1,t2,_⟩:=cU I1 d;refine⟨t1,t2,?_⟩;rw[m.trees];refine Calls.callWith_builtin rfl (Calls.evalArgs_plain (Calls.spliced_cons (thn (he pins s1 σ H1 _ I1 q1) λiv s2 ⟨y,H2,I2,ry,kvs,k,v,ea,ey,l,q2⟩=>Calls.spliced_nil ?_)));subst ey;exact g8 I2 ea ry l (.inl rfl) λw' s3 I3 dr=>⟨v,_,I3,dr,q2⟩
end
end L2
namespace Att
open PySem PySem.W PySem.Calls PyProof.Rows
theorem K3 {P:Params}{h:Heap}:∀(ns:List Int) (vs:List Value),WellAll P h vs (ns.map WData.int)->IntsAre vs ns:=by
 intro ns;induction ns with
 | nil=> intro vs w;rw[a6W] at w;cases w;exact .nil
 | cons n ns ih=>
   intro vs w;rw[zI] at w;cases w with
   | cons a b=> cases a;exact .cons _ _ (ih _ b)
theorem script_of {l:OpenLaw}{n:Nat}(hn:l.most=some n) {P:Params}{h:Heap}{args:List WData}{vals:List Value} (gk:l.row.toRowW.claim.pre args=true) (jR:WellAll P h vals args) : ∃a vs ns,vals=[a0X a]/\args=[WData.list (ns.map WData.int)]/\h.get? a=some { cls:=.type "list", data:=.seq vs.toArray }/\IntsAre vs ns/\ns.length<=n:=by
 have mQ:WShape.hasAll [] args [.list .int]=true:=(pre_splitW gk).1;have hc:l.pre.holds [] { args:=args }=true:=(pre_splitW gk).2;obtain⟨d,r,rfl,h1,h2⟩:=hasAllW_cons mQ;obtain rfl:=hasAllW_nil h2;obtain⟨xs,rfl,h3⟩:=hasW_list h1;obtain⟨ns,rfl⟩:=items_int h3;have ac:ns.length<=n:=by
   unfold OpenLaw.pre at hc;have h4:(WTm.not (.lt (.lit (.int (n:Int))) (.len (.arg 0)))).holds [] { args:=[.list (ns.map .int)] }=true:=by have h4:=(holds_andW hc).1;rw[hn] at h4;exact h4
   have h5:=condW_of h4 (w_not (w_lt w_lit (w_len_list (w_arg rfl))));rw[zX] at h5;refine Nat.le_of_not_lt λq=>?_;have q':(n:Int) < ((ns.length:Nat):Int):=by lia
   first
     | (rw[decide_eq_true q'] at h5;exact absurd h5 (by decide))
     | (simp at h5;lia)
 cases jR with
 | cons w1 w2=>
   cases w2;cases w1 with
   | list ho ix=>exact⟨_,_,ns,rfl,rfl,ho,K3 ns _ ix,ac⟩
theorem post_true (l:OpenLaw) (args:List WData):l.row.toRowW.claim.post args (.bool true) args=true:=
 postW_of (r:=l.row.toRowW) (X:=(true==true)) (show WShape.has [] (.bool true) .bool=true by first | rfl | decide | simp[WShape.has,WShape.arms,WShape.armsAll])
   (show(WTm.eq .res (.lit (.bool true))).value [] { args:=args,res:=some (.bool true),after:=args }=some (.bool (true==true)) from w_eq_bool (w_res rfl) w_lit) rfl
end Att
namespace L2
open PySem PySem.Spec PyProof.Rows
theorem N2:∀{vs:List Value}{ns:List Int},IntsAre vs ns->Vals (ns.map V.int) vs
 | _,_,.nil=>.nil
 | _,_,.cons n t h=>.cons ⟨t,rfl⟩ (N2 h)
def cV (H:Hp):Prop:=∀b,H b=none\/∃o xs,H b=some (.frz o (.lst xs))
theorem VP {P:Program}{w:World}{K:Frg}{mg mb:Str->Option Value}{CX:CXT}{k:Nat}{fa a:Addr}{fd:FuncData}{x:Str}{sp:Sp}{s₁:Shared}{vs:List Value}{ns:List Int} (KX:K.In s₁.heap) (jf:s₁.heap.Ns mainGlobals mg) (hb:s₁.heap.Ns builtinsNs mb) (mR:∀x:Str,x ≠ "__name__" -> mb x=bootBuiltins x) (k8:s₁.heap.NoLimit) (hg:s₁.gens=#[]) (ha:s₁.heap.get? a=some { cls:=.type "list", data:=.seq vs.toArray }) (hi:IntsAre vs ns) (hl:ns.length<=sizeLine) (hr:Room k callerA) (F:∀base:Heap,K.In base->base.Ns mainGlobals mg->FnOk P w K mg base CX k fa fd [x] sp) (jg:∀(s:Shared) (u:Value),BindsTo s fd ⟨[u],[]⟩ [(x,u)]) (gy:∀H:Hp,cV H->SqL K H a (ns.map V.int)->sp [.ref a] H (λv _=>v = .bl true) λ_ _ _=>False) (k9:∀H e s',CX [] H s₁ (λ_ _ _=>False) e s'->False) :
   codeAny (model P w) callerA (.call (.ref fa) ⟨[.ref a],[]⟩) (λr s'=>r = .ok (.ret (.bool true))/\OldK s₁.heap s'.heap/\s'.os=s₁.os/\AllBare s'.gens) s₁:=by
 have rv:=N2 hi;have kA:=hi.length;have core:∀H:Hp,cV H->SqL K H a (ns.map V.int)->HOk P w H s₁.heap->(∀b,H b≠none->b=a)->(H a≠none->K.lookup a=none) ->
     codeAny (model P w) callerA (.call (.ref fa) ⟨[.ref a],[]⟩) (λr s'=>r = .ok (.ret (.bool true))/\OldK s₁.heap s'.heap/\s'.os=s₁.os/\AllBare s'.gens) s₁:=by
   intro H hO hS hok hA hK;have eo:∀{b:Addr}{o:Obj},s₁.heap.get? b=some o->H b=none->(NP s₁.heap H).get? b=some o:=λe n=>V8 e n;have jb:∀{b:Addr}{o:Obj}{es:Array DictEntry}{ep:Nat},s₁.heap.get? b=some o->o.data = .dict es ep->H b=none:=λ{b o es ep} e d=>by
     cases q:H b with
     | none=>rfl
     | some u=> have e':b=a:=hA b (by rw[q];simp);subst e';rw[ha] at e;cases e;have d':Data.seq vs.toArray _=Data.dict es ep:=d;cases d'
   have jS:∀{b:Addr}{m:Str->Option Value},s₁.heap.Ns b m->(NP s₁.heap H).Ns b m:=λ{b m} ⟨o,es,ep,e,d,r⟩=>⟨o,es,ep,eo e (jb e d),d,r⟩
   have lD:K.In (NP s₁.heap H):=λb o e=>eo (KX b o e) (by
     cases q:H b with
     | none=>rfl
     | some u=> have e':b=a:=hA b (by rw[q];simp);subst e';rw[hK (by rw[q];simp)] at e;cases e);have hM:Mod K mg (NP s₁.heap H):=⟨lD,jS jf,⟨mb,jS hb,mR⟩,let ⟨mc,h1,h2⟩:=k8;⟨mc,jS h1,h2⟩⟩
   have e0:Env0 P w K mg (NP s₁.heap H) callerA [] s₁ H:=⟨rfl,hM,λb o e=>Y4 e,Nat.le_of_eq (TY _ _),trivial,λb hb=>absurd (show b∈([]:List Addr) from hb) (by simp),hok,.of_eq hg⟩
   refine codeAny_mono ((F _ lD (jS jf)).run callerA [] s₁ H ⟨[.ref a],[]⟩ [.ref a] [.ref a] _ _ hr e0 (jg s₁ (.ref a)) (.cons rfl .nil) (gy H hO hS)) λr s' h=>?_;cases r with
   | error e=>exact(k9 H e s' h).elim
   | ok fl=>
     cases fl with
     | next=>exact a8Z h
     | brk=>exact a8Z h
     | cont=>exact a8Z h
     | ret u=>
       obtain⟨v,H',os,bare,un,iy,r',q⟩:=h;have q':v = .bl true:=q;subst q';obtain rfl:u=Value.bool true:=r';refine⟨rfl,OldK.of_keep λb o e=>?_,os,bare⟩;cases q:H b with
       | none=>exact un.keep b o e q (by intro z;exact absurd (show b∈([]:List Addr) from z) (by simp)) (by simp)
       | some u=>
         rcases hO b with z | ⟨ob,xs,z⟩
         . rw[q] at z;cases z
         . have z2:=un.frzs b ob _ z;obtain⟨e1,_⟩:=hok b _ z;obtain⟨e2,_⟩:=iy b _ z2;rw[e] at e1;cases e1;exact e2
 cases hk:K.lookup a with
 | some o=> have e:=KX a o hk;rw[ha] at e;cases e;refine core (λ_=>none) (λ_=>.inl rfl) (.inr ⟨_,vs.toArray,_,hk,rfl,rfl,rfl,by rw[zJ,kA];exact hl,by simpa using rv⟩) (λb u z=>by have z':(none:Option HO)=some u:=z;cases z') (λb z=>absurd rfl z) λz=>absurd rfl z
 | none=>
   refine core (λb=>if b=a then some (.frz { cls:=.type "list", data:=.seq vs.toArray } (.lst (ns.map V.int))) else none) (λb=>?_) (.inl (.inr ⟨{ cls:=.type "list", data:=.seq vs.toArray },if_pos rfl⟩)) (λb u z=>?_) (λb z=>?_) λ_=>hk
   . by_cases hb:b=a;. exact .inr ⟨_,_,if_pos hb⟩
     . exact .inl (if_neg hb)
   . by_cases hb:b=a;. have z':=(if_pos hb).symm.trans z;cases z';subst hb;exact⟨ha,by rw[zX];exact hl,vs,_,rv,ha⟩
     . have z':=(if_neg hb).symm.trans z;cases z'
   . by_cases hb:b=a;. exact hb
     . exact absurd (if_neg hb) z
def D6 (s:Stmt):Arguments:=match s with
 | .FunctionDef _ a _ _ _ _ _ _ _ _=>a
 | _=>{ posonlyargs:=[],args:=[],vararg:=none,kwonlyargs:=[],kw_defaults:=[],kwarg:=none,defaults:=[] }
def BZ (s:Stmt):List Stmt:=match s with
 | .FunctionDef _ _ b _ _ _ _ _ _ _=>b
 | _=>[]
def AD (s:Stmt):Scope:=match s with
 | .FunctionDef _ _ _ _ _ _ sc _ _ _=>sc
 | _=>{ kind:=.function,names:=[],isGenerator:=false,isCoroutine:=false }
abbrev CX0:CXT:=λ_ _ _ _ _ _=>False
abbrev E0:XK:=λ_ _ _=>False
theorem gB {X:Cx}:RI CX0 X E0:=λ_ _ _ _ _ _ _ h=>h.elim
structure Fun (K:Frg) (x qual:Str) (st:Stmt) (f:Addr) (fd:FuncData):Prop where
 ex:∃(oc:Value) (od:Option Addr) (kV doc pm:Value) (an:Option Addr) (cdv ct:Value) (osl:Array (Option Value)),
   fd=a5K x qual (D6 st) (BZ st) (AD st) .none kV doc pm an cdv ct/\K.lookup f=some ⟨oc,od,.func fd,osl⟩/\b0Z K cdv qual=true
 kp:a7J K (.ref f)=true
section
variable {P:Program}{w:World}{K:Frg}{mg:Str->Option Value}{base:Heap}
theorem Fun.ok {x qual:Str}{st:Stmt}{f:Addr}{fd:FuncData}{N ps:List Str}{k:Nat}{sp:Sp}(F:Fun K x qual st f fd) (S:FnScope N ps (AD st)) (len:∀vs H Q E,sp vs H Q E->vs.length=ps.length) (di:∀(cdv:Value) (A:Around) (outer:List Env) (s:Shared) (H:Hp) (vs:List V) (Q:VK) (E:XK),Room k (A.deeper (envOfC qual (AD st) s.heap.objs.size f cdv))->sp vs H Q E ->∃t,PSs (RJ CX0 P w K mg base N qual (AD st) f cdv A outer s H E).nox (BZ st) t/\t { nx:=λ_ H'=>Q .non H',rt:=Q } (FI N vs) H):FnOk P w K mg base CX0 (k+1) f fd ps sp:=by obtain⟨oc,od,kV,doc,pm,an,cdv,ct,osl,rfl,lk,fj⟩:=F.ex;refine fZ lk fj S len λA outer s H vs Q E hr gy=>?_;obtain⟨t,h,q⟩:=di cdv A outer s H vs Q E hr gy;exact⟨t,h.nox,q⟩
theorem Fun.binds {x qual:Str}{st:Stmt}{f:Addr}{fd:FuncData}{ps:List Str}(F:Fun K x qual st f fd) (h:∀(kV doc pm:Value) (an:Option Addr) (cdv ct:Value) (us:List Value),us.length=ps.length->bindArgs (a5K x qual (D6 st) (BZ st) (AD st) .none kV doc pm an cdv ct) ⟨us,[]⟩=pure (ps.zip us)):Binds K fd ps []:=by obtain⟨oc,od,kV,doc,pm,an,cdv,ct,osl,rfl,lk,fj⟩:=F.ex;exact .all (h kV doc pm an cdv ct)
theorem cW {x qual:Str}{st:Stmt}{f:Addr}{oc:Value}{od an:Option Addr}{osl:Array (Option Value)}{kV doc pm cdv ct:Value}(l:K.lookup f=some ⟨oc,od,.func (a5K x qual (D6 st) (BZ st) (AD st) .none kV doc pm an cdv ct),osl⟩) (c:b0Z K cdv qual=true) (k:a7J K (.ref f)=true):Fun K x qual st f (a5K x qual (D6 st) (BZ st) (AD st) .none kV doc pm an cdv ct):=⟨⟨oc,od,kV,doc,pm,an,cdv,ct,osl,rfl,l,c⟩,k⟩
end
section
variable {X:Cx}
theorem pv (i:Nat) {x:Str}{pos:Pos}(hN:X.N[i]?=some x:=by rfl) (hv:Vis X.env.scope x:=by first | exact Or.inl rfl | exact Or.inr (Or.inl rfl) | exact Or.inr (Or.inr rfl)) (hd:(x==("__debug__":Str))=false:=by decide)
   (fj:(x==("__classdict__":Str))=false:=by decide):PE X (.Name x pos) (Y5 i):=V9 hN hv hd fj
end
theorem YO {A B:Prop}(h:B):if false=true then A else B:=by rw[if_neg nft];exact h
theorem YQ {A B:Prop}(h:A):if true=true then A else B:=by rw[if_pos rfl];exact h
end L2
namespace L2
open PySem PySem.Spec PyProof.Rows
def J0 (cells:List (Str×Addr)):List (Str×NameKind)->List (Str×Addr)->List (Str×Addr)
 | [],cs=>cs
 | (n,k)::r,cs=>J0 cells r (if k==.free then (match cells.lookup n with | some c=>(n,c)::cs | none=>cs) else cs)
theorem O2 (env:Env):∀(names:List (Str×NameKind)) (cs:List (Str×Addr)),(∀y∈names,y.2 = .free->∃c,env.cells.lookup y.1=some c) ->(forIn (m:=Sem) names cs λx r=>do
     let (name,kind):=x
     if (kind==.free)=true then do let c <- cellOf env name;pure (a7V ((name,c)::r)) else pure (a7V r))=pure (J0 env.cells names cs)
 | [],cs,_=>rfl
 | (n,k)::r,cs,h=>by
   have hr:∀y∈r,y.2 = .free->∃c,env.cells.lookup y.1=some c:=λy hy=>h y (yV _ hy);rw[List.forIn_cons];by_cases hk:(k==a4Z)=true;. obtain⟨c,hc⟩:=h (n,k) a1Q (by simpa using hk);have fe:env.cells.lookup n=some c:=hc;simp only[hk,if_true,cellOf,fe,J0];exact O2 env r _ hr
   . simp only[hk,if_false,J0];exact O2 env r _ hr
theorem YR {scope:Scope}{env:Env}(h:∀y∈scope.names,y.2 = .free->∃c,env.cells.lookup y.1=some c):closureFor scope env=pure (J0 env.cells scope.names []):=by
 have e:=O2 env scope.names [] h;have e2:closureFor scope env=((forIn (m:=Sem) scope.names ([]:List (Str×Addr)) λx r=>do
     let (name,kind):=x
     if (kind==.free)=true then do let c <- cellOf env name;pure (a7V ((name,c)::r)) else pure (a7V r)) >>= λr=>pure r):=rfl;rw[e2,e];rfl
theorem PL {cells:List (Str×Addr)}:∀{names:List (Str×NameKind)}{cs:List (Str×Addr)},(∀p∈cs,cells.lookup p.1=some p.2)->∀p∈J0 cells names cs,cells.lookup p.1=some p.2
 | [],_,h=>h
 | (n,k)::r,cs,h=>by
   refine PL (names:=r) ?_;split
   . cases e:cells.lookup n with
     | none=>exact h
     | some c=>
       intro p hp;rcases yX.mp hp with rfl | hp;. exact e
       . exact h p hp
   . exact h
theorem N3 {cells:List (Str×Addr)}:∀{names:List (Str×NameKind)}{cs:List (Str×Addr)}{p:Str×Addr},p∈cs->p∈J0 cells names cs
 | [],_,_,h=>h
 | (n,k)::r,cs,p,h=>by
   refine N3 (names:=r) ?_;split
   . cases e:cells.lookup n with
     | none=>exact h
     | some c=>exact yV _ h
   . exact h
theorem PM {cells:List (Str×Addr)}{x:Str}{c:Addr}(hc:cells.lookup x=some c):∀{names:List (Str×NameKind)}{cs:List (Str×Addr)},(x,a4Z)∈names->(x,c)∈J0 cells names cs
 | [],_,h=>absurd h (by simp)
 | (n,k)::r,cs,h=>by
   rcases yX.mp h with e | h;. cases e;refine N3 (names:=r) ?_;simp[hc]
   . exact PM hc (names:=r) h
theorem KU {α:Type}:∀{l:List (Str×α)}{x:Str}{c:α},(x,c)∈l->∃c',l.lookup x=some c'
 | [],_,_,h=>absurd h (by simp)
 | (n,k)::r,x,c,h=>by
   rw[a1V];cases e:x==n with
   | true=>exact⟨k,rfl⟩
   | false=>
     rcases yX.mp h with e' | h;. cases e';simp at e
     . exact KU h
theorem BI {cells:List (Str×Addr)}{names:List (Str×NameKind)}{x:Str}{c:Addr}(h:(J0 cells names []).lookup x=some c):cells.lookup x=some c:=
 PL (names:=names) (cs:=[]) (by simp) (x,c) (a2K h)
structure CSc (X:Cx) (scope:Scope) (NC:List Str) (fr:List (Option Nat)):Prop where
 kind:scope.kind = .function
 nocell:∀y∈scope.names,y.2≠.cell
 names:∀y∈scope.names,y.2 = .local->scope.names.lookup y.1=some .local
 free:∀y∈scope.names,y.2 = .free->X.env.kindOf y.1=some .cell\/X.env.kindOf y.1=some .free
 len:fr.length=NC.length
 slot:∀(i j:Nat) (x:Str),NC[i]?=some x->fr[i]?=some (some j)->X.N[j]?=some x/\scope.names.lookup x=some .free/\Vis X.env.scope x/\X.env.kindOf x≠some .local
def capt (fr:List (Option Nat)) (σ:St):St:=fr.map λo=>o.bind λj=>(σ[j]?).join
def AT (X:Cx) (scope:Scope) (NC:List Str) (C:Addr) (s:Shared) (H:Hp) (ex:List Addr) (pn:List (Addr×Obj)):Cx where
 prog:=X.prog
 w:=X.w
 K:=X.K
 mg:=X.mg
 base:=X.base
 A:=X.A
 N:=NC
 s₀:=s
 H₀:=H
 env:=compEnvC scope (J0 X.env.cells scope.names []) C X.env
 outer:=X.stack
 stack:=X.stack
 ex:=ex
 fn:=λ_=>false
 calm:=X.calm
 pn:=pn
 xe:=λ_ _=>False
theorem GR {scope:Scope}{env:Env}{x:Str}:∀{names:List (Str×NameKind)},((names.map λ(n,k)=>if (k==a4Z&&env.scope.kind==.function&&env.kindOf n==some .cell) then (n,NameKind.cell) else (n,k)).lookup x=some .cell \/(names.map λ(n,k)=>if (k==a4Z&&env.scope.kind==.function&&env.kindOf n==some .cell) then (n,NameKind.cell) else (n,k)).lookup x=some .free) ->(∀y∈names,y.2≠.cell)->(x,a4Z)∈names
 | [],h,_=>by simp at h
 | (n,k)::r,h,hn=>by
   have ih:=@GR scope env x r;have bh:∀y∈r,y.2≠.cell:=λy hy=>hn y (yV _ hy);have hk:=hn (n,k) a1Q;simp only[zI] at h;by_cases hc:(k==a4Z&&env.scope.kind==.function&&env.kindOf n==some .cell)=true
   . simp only[hc,if_true,a1V] at h;cases hx:x==n with
     | true=>
       have e:x=n:=by simpa using hx
       have e2:k = .free:=by simp at hc;exact hc.1.1
       subst e e2;exact a1Q
     | false=> simp only[hx] at h;exact yV _ (ih h bh)
   . simp only[hc,a1V] at h;cases hx:x==n with
     | true=>
       have e:x=n:=by simpa using hx
       subst e;simp[a1V] at h;rcases h with h | h;. exact absurd h hk
       . subst h;exact a1Q
     | false=> simp[a1V,hx] at h;exact yV _ (ih (by simpa using h) bh)
section
variable {X:Cx}{scope:Scope}{NC:List Str}{fr:List (Option Nat)}{pins:List (Addr×Obj)}{σ:St}{H:Hp}{s:Shared}
theorem CSc.has (S:CSc X scope NC fr) (ok:X.Ok):∀y∈scope.names,y.2 = .free->∃c,X.env.cells.lookup y.1=some c:=λy hy hf=>ok.has y.1 (S.free y hy hf)
theorem CSc.cells (S:CSc X scope NC fr) (ok:X.Ok) {x:Str}(h:(x,a4Z)∈scope.names):∃c,(J0 X.env.cells scope.names []).lookup x=some c/\X.env.cells.lookup x=some c:=by obtain⟨c,hc⟩:=S.has ok _ h rfl;have fe:X.env.cells.lookup x=some c:=hc;obtain⟨c',h'⟩:=KU (PM fe h (cs:=[]));have:=BI h';rw[fe] at this;cases this;exact⟨_,h',fe⟩
theorem O3 {env:Env}{x:Str}{scope:Scope}(hn:∀y∈scope.names,y.2 = .local->scope.names.lookup y.1=some .local) (h:(x,a4Z)∈scope.names) (hl:scope.names.lookup x≠some .free->False):(relabel scope env).names.lookup x=some .cell\/(relabel scope env).names.lookup x=some .free:=by
 have hf:scope.names.lookup x=some .free:=by
   cases e:scope.names.lookup x with
   | none=>exact(hl (by rw[e];intro z;cases z)).elim
   | some k=>
     cases k <;> first
       | rfl
       | exact(hl (by rw[e];intro z;cases z)).elim
 have go:∀(names:List (Str×NameKind)),names.lookup x=some .free ->((names.map λ(n,k)=>if (k==a4Z&&env.scope.kind==.function&&env.kindOf n==some .cell) then (n,NameKind.cell) else (n,k)).lookup x=some .cell \/(names.map λ(n,k)=>if (k==a4Z&&env.scope.kind==.function&&env.kindOf n==some .cell) then (n,NameKind.cell) else (n,k)).lookup x=some .free):=by
   intro names;induction names with
   | nil=>intro h;simp at h
   | cons y r ih=>
     obtain⟨n,k⟩:=y;intro h;rw[a1V] at h;simp only[zI];cases hx:x==n with
     | true=>
       simp only[hx] at h;cases h;split;. left;simp[a1V,hx]
       . right;simp[a1V,hx]
     | false=>
       simp only[hx] at h;have:=ih h;split;. simpa [a1V,hx] using this
       . simpa [a1V,hx] using this
 exact go scope.names hf
end
end L2
namespace L2
open PySem PySem.Spec PyProof.Rows
theorem AW {α:Type}{t:Sem α}{Q:α->Shared->Prop}{M:Model}{A:Around}{E:Value->Shared->Prop}{s:Shared}(h:wpAny M A t Q (λ_ _=>False) s):wpAny M A t Q E s:=
 wpAny_mono h (λ_ _ q=>q) λ_ _ f=>f.elim
def KW (ifs:List Expr) (env:Env):Sem Bool:=forIn ifs true λc r=>if r=true then do let ok <- isTrue c env (eval c env);pure (a7V ok) else pure (a7V r)
def RO (prog:Program) (w:World) (A:Around) (cE target:Expr) (ifs:List Expr) (tl:Env->Addr->(Shared->Prop)->Shared->Prop):Prop:=∀(it D:Addr) (env:Env) (R:Result->Shared->Prop) (I:Nat->Shared->Prop),(∀n s,I n s->wpAny (model prog w) A (pyNext (.ref it)) (λr s₁=>match r with
     | none=>R (.ok .next) s₁
     | some v=>wpAny (model prog w) A (letOwnedTupleGo target (.ref it) v) (λ_ s₀=>wpAny (model prog w) A (assign target env v) (λ_ s₂=>
         wpAny (model prog w) A (KW ifs env) (λok s₃=>if ok=true then tl env D (λs'=>∃m,m < n/\I m s') s₃ else ∃m,m < n/\I m s₃) (λ_ _=>False) s₂) (λ_ _=>False) s₀) (λ_ _=>False) s₁) (λ_ _=>False) s) ->
   ∀n s,I n s->codeAny (model prog w) A (.compLoop cE 0 (.ref it) (.ref D) env) R s
def tlL (prog:Program) (w:World) (A:Around) (elt:Expr):Env->Addr->(Shared->Prop)->Shared->Prop:=λenv D P s=>wpAny (model prog w) A (eval elt env) (λx s₄=>wpAny (model prog w) A (call (.builtin "list.append") [.ref D,x]) (λ_ s₅=>P s₅) (λ_ _=>False) s₄) (λ_ _=>False) s
theorem YS {prog:Program}{w:World}{A:Around}{elt target iter:Expr}{ifs:List Expr}{scope:Scope}{pos:Pos}:RO prog w A (.ListComp elt [⟨target,iter,ifs,0⟩] scope pos) target ifs (tlL prog w A elt):=by
 intro it D env R I turn n s h;refine codeAny_loop rfl I (λn s hI=>?_) n h;show wpAny _ A ((compTurn (.ListComp elt [⟨target,iter,ifs,0⟩] scope pos) 0 (.ref it) (.ref D) env).onRaise (λx=>do noteFrame x env;theTreesLotGoes x)) _ _ s;refine wpAny_noted ?_;rw[compTurn_list];refine zZ (wpAny_standAt (zZ (wpAny_mono (AW (turn n s hI)) (λr s₁ h₁=>?_) λ_ _ h'=>h')));cases r with
 | none=>exact zY h₁
 | some v=>
   refine zZ (wpAny_mono (AW h₁) (λ_ s₀ h₀=>?_) λ_ _ h'=>h');refine zZ (wpAny_mono (AW h₀) (λ_ s₂ h₂=>zZ (wpAny_mono (AW h₂) (λok s₃ h₃=>?_) λ_ _ h'=>h')) λ_ _ h'=>h');cases ok with
   | false=>exact zY ⟨rfl,h₃⟩
   | true=> exact zZ (zZ (wpAny_mono (AW h₃) (λx s₄ h₄=>zZ (wpAny_mono (AW h₄) (λ_ s₅ h₅=>zY (zY ⟨rfl,h₅⟩)) λ_ _ h'=>h')) λ_ _ h'=>h'))
def PTs (X:Cx) (ifs:List Expr) (t:TT):Prop:=∀(pins:List (Addr×Obj)) (s:Shared) (σ:St) (H:Hp) (Q:Bool->Hp->Prop),Inv X pins σ H s->t σ H Q->wpAny (model X.prog X.w) X.A (KW ifs X.env) (TP X pins σ Q) X.xe s
def gC:TT:=λ_ H Q=>Q true H
theorem YT {X:Cx}:PTs X [] gC:=λ_ _ _ H _ I h=>wpAny_tests_nil ⟨H,I,h⟩
theorem YU {X:Cx}{c:Expr}{t:TT}(h:PT X c t):PTs X [c] t:=λpins s σ H Q I q=>wpAny_tests_one (h pins s σ H Q I q)
def N4 (fr:List (Option Nat)) (wi:TI) (g:TG) (tt:TT) (te:TE):TE:=λσ H Q=>wi σ H λJ H1=>∀D,H1 D=none->∃W:Nat->Nat->List V->Hp->Prop,(∃m,W 0 m [] (upd H1 D (.lst []))) /\∀i m ys H2,W i m ys H2->H2 D=some (.lst ys)/\((J.stop i H2/\Q (.ref D) H2)\/(J.go i H2/\∀x H3,J.yld i H2 x H3->g x (capt fr σ) H3 λσ2 H4=>
   (∀(i:Nat) v,(capt fr σ)[i]?=some (some v)->σ2[i]?=some (some v))/\tt σ2 H4 λc H5=>if c=true then te σ2 H5 λy H6=>∃bj,H6 D=some (.lst bj)/\bj.length < sizeLine/\∃m',m' < m/\W (i+1) m' (bj++[y]) (upd H6 D (.lst (bj++[y])))
     else ∃bj m',m' < m/\W (i+1) m' bj H5))
section
variable {X:Cx}{scope:Scope}{NC:List Str}{fr:List (Option Nat)}{pins:List (Addr×Obj)}{σ:St}{H:Hp}{s:Shared}
theorem RP {fp:List Addr}{h1:Heap}{m:Str->Option Value}{tk:Nat}(S:CSc X scope NC fr) (I:Inv X pins σ H s) (jT:∀b∈fp,MB X pins H b) (c_:∀b∈fp,b < s.heap.objs.size) (jf:h1.Ns s.heap.objs.size m) (hk:∀b o,s.heap.get? b=some o->h1.get? b=some o) :
   Inv (AT X scope NC s.heap.objs.size s H fp (X.pn++pins)) [] (capt fr σ) H { s with heap:=h1,toks:=tk }:=by
 have I4:Inv X pins σ H { s with heap:=h1,toks:=tk }:=I.kept hk;have jh:∀b,b≠X.env.locals->b∉X.fs->b∉frs X.stack:=λb h1 h2 z=>(yX.mp (I.stkSub b z)).elim h1 h2;refine⟨⟨I.ok.mod,S.kind,I.ok.glob,I.ok.blt,zR _,λx y c h1 h2=>I.ok.inj x y c (BI h1) (BI h2),λx hx=>?_,λx c h=>absurd h (by intro z;cases z),I.ok.hd,I.ok.frames,.inl rfl,λb hb=>?_,I.bs,zN I.ok.bsz I.sz,λb o e hb=>?_,λb hb=>?_,I.stack,I.stkFree⟩,
   rfl,I.bare,Un.kept hk,⟨m,jf,λi x v e1 e2 e3=>?_⟩,λx c e=>I4.cell x c (BI e),I.hok.fresh (zR _),λx c e=>I4.freeC x c (BI e),λp hp=>?_,I4.hok,?_⟩
 . have k_:=GR (scope:=scope) (env:=X.env) (x:=x) (names:=scope.names) hx S.nocell;obtain⟨c,h,_⟩:=S.cells I.ok k_;exact⟨c,h⟩
 . exact⟨zC (c_ b hb),λx c e=>(jT b hb).2.2.2.2.1 x c (BI e)⟩
 . rcases (jT b hb).2.2.2.1 with z | z;. exact I.ok.noex b o e z
   . exact absurd (zP (zM e) (zN I.ok.bsz z)) (yF _)
 . exact jh b (jT b hb).2.1 (jT b hb).2.2.1
 . have mS:∃j,fr[i]?=some (some j)/\σ[j]?=some (some v):=by
     unfold capt at e2;rw[zF] at e2;cases hf:fr[i]? with
     | none=>rw[hf] at e2;cases e2
     | some o=>
       rw[hf] at e2;cases o with
       | none=>cases e2
       | some j=>
         refine⟨j,rfl,?_⟩;have e2:((σ[j]?).join)=some v:=Option.some.inj e2;cases hs:σ[j]? with
         | none=>rw[hs] at e2;cases e2
         | some q=>rw[hs] at e2;cases q with
           | none=>cases e2
           | some v'=>cases e2;rfl
   obtain⟨j,f1,f2⟩:=mS;obtain⟨g1,g2,g3,g4⟩:=S.slot i j x e1 f1;obtain⟨m',bh,kr⟩:=I4.loc;obtain⟨u,r,l⟩:=kr j x v g1 f2 g3;rcases l with ⟨k,_⟩ | ⟨k,c,hc,cx⟩
   . exact absurd k g4
   . obtain⟨c',q1,q2⟩:=S.cells I.ok (a2K g2);rw[hc] at q2;cases q2;exact⟨u,r,.inr ⟨O3 S.names (a2K g2) (λz=>z g2),c,q1,cx⟩⟩
 . have jU:p∈X.pn++pins:=by rw[a1W] at hp;exact hp
   obtain⟨p1,p2,p3,p4,p5⟩:=I4.pin p jU;exact⟨p1,p2,zC (zM (I.pin p jU).1),jh _ p3 p4,p5⟩
 . unfold capt;rw[zX];exact S.len
def gD (fr:List (Option Nat)) (wi:TI) (g:TG) (tt:TT) {Y:Type}(y0:Y) (at_:Y->HO) (el:Addr->Nat->(Nat->Y->Hp->Prop)->St->Hp->Prop):TE:=λσ H Q=>wi σ H λJ H1=>∀D,H1 D=none->∃W:Nat->Nat->Y->Hp->Prop,(∃m,W 0 m y0 (upd H1 D (at_ y0))) /\∀i m ys H2,W i m ys H2->H2 D=some (at_ ys)/\((J.stop i H2/\Q (.ref D) H2)\/(J.go i H2/\∀x H3,J.yld i H2 x H3->g x (capt fr σ) H3 λσ2 H4=>
   (∀(i:Nat) v,(capt fr σ)[i]?=some (some v)->σ2[i]?=some (some v))/\tt σ2 H4 λc H5=>if c=true then el D m (W (i+1)) σ2 H5 else ∃bj m',m' < m/\W (i+1) m' bj H5))
def cX (X:Cx) (pins:List (Addr×Obj)) (σ:St) (use:Option (Value->Sem Unit)) (Q:VK) (QQ:Value->Shared->Prop):Prop:=∀(D C:Addr) (H':Hp) (s':Shared) (m:Str->Option Value) (oC:Obj),Inv X (pins++[(C,oC)]) σ H' s'->s'.heap.Ns C m->Q (.ref D) H' ->(∀(fh:List (Addr×Obj)) (σ2:St) (H2:Hp) (s2:Shared) (h2:Heap),Inv X (pins++[(C,oC)]) σ2 H2 s2->Heap.SameBut C s2.heap h2->Inv X pins σ2 H2 { s2 with heap:=h2 }) ->
     s'.heap.get? C=some oC ->
     match use with
     | none=>∀h',Heap.SameBut C s'.heap h'->QQ (.ref D) { s' with heap:=h' }
     | some u=>wpAny (model X.prog X.w) X.A (u (.ref D)) (λ_ iq=>∃m,iq.heap.Ns C m/\∀h',Heap.SameBut C iq.heap h'->QQ .none { iq with heap:=h' }) X.xe s'
theorem N5 {cE iter tg:Expr}{ifs:List Expr}{ah:Pos}{wi:TI}{g:TG}{tt:TT}{Y:Type}{y0:Y}{at_:Y->HO}{Ty:String}{dt:Data}{mk:Sem Value}{tl:Env->Addr->(Shared->Prop)->Shared->Prop}{el:Addr->Nat->(Nat->Y->Hp->Prop)->St->Hp->Prop}{use:Option (Value->Sem Unit)}{Q:VK}{QQ:Value->Shared->Prop} {gs:List Comprehension}(mT:clausesOf cE=⟨tg,iter,ifs,0⟩::gs) (iS:mk=newObj (.type Ty) dt none) (hsz:sizeOk dt) (mU:∀(H:Hp) (h:Heap),sysModules < h.objs.size->ObjOk X.prog X.w H (h.push { cls:=.type Ty,dict:=none,data:=dt }) h.objs.size (at_ y0)) (iz:RO X.prog X.w X.A cE tg ifs tl) (fm:∀{it acc:Value}{env:Env}{R:Result->Shared->Prop}{s:Shared},codeAny (model X.prog X.w) X.A (.compLoop cE 0 it acc env) R s->wpAny (model X.prog X.w) X.A (pyIter it) (λmV s'=>codeAny (model X.prog X.w) X.A (.compLoop cE 0 mV acc env) R s') (notedBy (model X.prog X.w) X.A env λx s'=>R (.error x) s') s->codeAny (model X.prog X.w) X.A (.compStart cE 0 it acc env) R s) (hc:X.calm=true) (S:CSc X scope NC fr) (hi:PI X tg iter wi) (hb:∀(C:Addr) (s:Shared) (H:Hp) (ex:List Addr) (pn:List (Addr×Obj)),PG (AT X scope NC C s H ex pn) tg g/\PTs (AT X scope NC C s H ex pn) ifs tt/\∀(gz:List (Addr×Obj)) (s':Shared) (σ:St) (H':Hp) (D:Addr) (n:Nat) (W:Nat->Y->Hp->Prop) (P:Shared->Prop),Inv (AT X scope NC C s H ex pn) gz σ H' s'->el D n W σ H'->(∀m y H2 s2,m < n->W m y H2->Inv (AT X scope NC C s H ex pn) gz σ H2 s2->P s2)->tl (AT X scope NC C s H ex pn).env D P s') (I:Inv X pins σ H s) (h:gD fr wi g tt y0 at_ el σ H Q) (fin:cX X pins σ use Q QQ) (hs:∀x,foldedSetIterable iter X.env x=pure x) :
   wpAny (model X.prog X.w) X.A (comprehension cE scope X.env ah mk false (eval iter X.env) use) QQ X.xe s:=by
 refine wpAny_comprehension_free (use:=use) mT hs (YR (S.has I.ok)) S.kind S.names (thn (hi pins s σ H _ I h) λv s1 h1=>thn h1 λk5 s2 h2=>?_);obtain⟨it,fp,tn,J,H2,e,I2,T,ef,f2,hq⟩:=h2;subst e;have mW:H2 s2.heap.objs.size=none:=I2.hok.fresh (zR _);obtain⟨W,⟨m0,w0⟩,turn⟩:=hq s2.heap.objs.size mW;rw[iS];refine xN (hd:=hsz) (wpAny_newFunctionEnv S.nocell (by intro y hy;simp at hy) (λh₁ gm gn=>?_) S.kind);dsimp only at gm gn ⊢;generalize hs3:({ s2 with heap:=s2.heap.push { cls:=.type Ty,dict:=none,data:=dt } }:Shared)=s3;have jV:s2.heap.push { cls:=.type Ty,dict:=none,data:=dt }=s3.heap:=by rw[<-hs3]
 have I3:Inv X pins σ (upd H2 s2.heap.objs.size (at_ y0)) s3:=by rw[<-hs3];refine I2.laid (t':=s2.toks) (λb u e=>zW _ e) (zR _) ?_;exact mU _ _ I2.big
 rw[jV] at gm gn ⊢;have mX:s3.heap.objs.size=s2.heap.objs.size+1:=by rw[<-jV,Heap.size_push]
 have lE:∀b∈fp,b < s2.heap.objs.size:=λb hb=>by obtain⟨o,e,_⟩:=T.obj _ _ ef b hb;exact zM e
 have lG:∀b∈fp,b < s3.heap.objs.size:=λb hb=>by rw[mX];exact Nat.lt_succ_of_lt (lE b hb)
 have f3:∀b∈fp,MB X pins (upd H2 s2.heap.objs.size (at_ y0)) b:=λb hb=>⟨by rw[AR (zC (lE b hb))];exact(f2 b hb).1,(f2 b hb).2⟩
 have ft:∀b o,s3.heap.get? b=some o->h₁.get? b=some o:=λb o e=>gn.extBut b o (zC (zM e)) (zW _ e);generalize hC:s3.heap.objs.size=C at gm gn ⊢;have I0:Inv (AT X scope NC C s3 (upd H2 s2.heap.objs.size (at_ y0)) fp (X.pn++pins)) [] (capt fr σ) (upd H2 s2.heap.objs.size (at_ y0)) { s2 with heap:=h₁,toks:=s2.toks+([]:List (Str×Value)).length }:=by have:=RP (tk:=s2.toks+([]:List (Str×Value)).length) (h1:=h₁) S I3 f3 lG (hC▸gm) ft;rw[hC] at this;rw[<-hs3] at this;rw[<-hs3];exact this
 obtain⟨lH,lI,lJ⟩:=hb C s3 (upd H2 s2.heap.objs.size (at_ y0)) fp (X.pn++pins);generalize hX':AT X scope NC C s3 (upd H2 s2.heap.objs.size (at_ y0)) fp (X.pn++pins)=X' at I0 lH lI lJ;have eP:X'.prog=X.prog:=by rw[<-hX'];rfl
 have eW:X'.w=X.w:=by rw[<-hX'];rfl
 have eK:X'.K=X.K:=by rw[<-hX'];rfl
 have eA:X'.A=X.A:=by rw[<-hX'];rfl
 have eE:X'.env=compEnvC scope (J0 X.env.cells scope.names []) C X.env:=by rw[<-hX'];rfl
 have eX:X'.xe=λ_ _=>False:=by rw[<-hX'];rfl
 have ec:X'.calm=true:=by rw[<-hX'];exact hc
 have stat:∀{H':Hp},(∀b∈fp,H' b=none)->∀b∈fp,MB X' [] H' b:=λ{H'} hn b hb=>by obtain⟨q1,q2,q3,q4,q5,q6⟩:=f3 b hb;rw[<-hX'];exact⟨hn b hb,by show b≠C;rw[<-hC];exact zC (lG b hb),λz=>(yX.mp (I3.stkSub b z)).elim q2 q3,.inl hb,λx c e=>q5 x c (BI e),λp hp=>q6 p (by rw[a1W] at hp;exact hp)⟩
 have ends:∀(i m:Nat) (ys:Y) (H':Hp) (s':Shared),Inv X' [] (capt fr σ) H' s'->Q (.ref s2.heap.objs.size) H' ->
     compPost (model X.prog X.w) X.A X.xe use QQ (.ref s2.heap.objs.size) C (.ok .next) s':=by
   intro i m ys H' s' I' q';have eC:X'.env.locals=C:=by rw[eE];rfl
   obtain⟨mC,jW,_⟩:=I'.loc;rw[eC] at jW;have mY:H' C=none:=by have:=I'.free;rw[eC] at this;exact this
   have un:Un (frs X.stack) fp (upd H2 s2.heap.objs.size (at_ y0)) H' s3.heap s'.heap:=by have:=I'.base;rw[<-hX'] at this;exact this
   have k6:s'.os=s3.os:=by have:=I'.os;rw[<-hX'] at this;exact this
   have iy:HOk X.prog X.w H' s'.heap:=by have:=I'.hok;rw[eP,eW] at this;exact this
   have ji:Inv X pins σ H' s':=I3.call' (ch:=fp) k6 un iy I'.bare λb hb=>⟨(f3 b hb).2.2.2.1,(f3 b hb).2.1,(f3 b hb).2.2.2.2.1,(f3 b hb).2.2.2.2.2⟩
   have C1:C≠X.env.locals:=by rw[<-hC];exact Nat.ne_of_gt I3.lt
   have C2:C∉X.fs:=by rw[<-hC];exact I3.nofs (zR _)
   have C3:X.s₀.heap.objs.size<=C:=by rw[<-hC];exact I3.sz
   have C4:∀x c,X.env.cells.lookup x=some c->c≠C:=λx c e z=>by obtain⟨v,q⟩:=I3.cell x c e;rw[z,<-hC] at q;exact absurd q.lt (yF _)
   have C5:∀p∈X.pn++pins,p.1≠C:=λp hp z=>by have:=zM (I3.pin p hp).1;rw[z,<-hC] at this;exact absurd this (yF _)
   obtain⟨oC,oo,oq,iT,mZ,ot⟩:=id jW;have kB:Inv X (pins++[(C,oC)]) σ H' s':=ji.pins_of λp hp=>(yW.mp hp).elim (λz=>ji.pin p (zB _ z)) λz=>by
     have e:p=(C,oC):=by simpa using z
     subst e;exact⟨iT,mY,C1,C2,λv z=>by rw[mZ] at z;cases z⟩
   have res:=fin s2.heap.objs.size C H' s' mC oC kB jW q' (λ_ σ2 H3 s4 h4 I4 sb=>by have J4:Inv X pins σ2 H3 s4:=I4.unpinned;have nc:H3 C=none:=(I4.pin (C,oC) (zB _ (zB _ (by simp)))).2.1;exact J4.turned (t':=s4.toks) (it:=C) (λb o hb e=>sb.extBut b o hb e) nc C1 (.inr C3) C4 C5) iT;cases use with
   | none=>exact⟨mC,jW,res⟩
   | some u=>exact res
 have loop:∀s':Shared,s'={ s2 with heap:=h₁,toks:=s2.toks+([]:List (Str×Value)).length } ->
     codeAny (model X.prog X.w) X.A (.compLoop cE 0 (.ref it) (.ref s2.heap.objs.size) (compEnvC scope (J0 X.env.cells scope.names []) C X.env)) (compPost (model X.prog X.w) X.A X.xe use QQ (.ref s2.heap.objs.size) C) s':=by
   rintro s' rfl;refine iz _ _ _ _ (λn s'=>∃i ys H',Inv X' [] (capt fr σ) H' s'/\tn i s'.heap/\(∀b∈fp,H' b=none)/\W i n ys H') ?_ m0 _ ⟨0,y0,_,I0,T.keep _ _ _ ef (λb hb o e=>ft b o (by rw[<-jV];exact zW _ e)),λb hb=>(f3 b hb).1,w0⟩;rintro n s5 ⟨i,ys,H5,I5,eu,jP,w5⟩;obtain⟨ou,jj⟩:=turn i n ys H5 w5;rcases jj with ⟨stop,qn⟩ | ⟨go,step⟩
   . have:=T.done X' eP eW eK ec i [] s5 (capt fr σ) H5 (λ_ _=>False) I5 (stat jP) eu stop;rw[eA] at this;refine thn this λr s6 ⟨hr,I6⟩=>?_;subst hr;exact ends i n ys H5 s6 I6 qn
   . have:=T.item X' eP eW eK ec i [] s5 (capt fr σ) H5 (λ_ _=>False) I5 (stat jP) eu go;rw[eA] at this;refine thn this λr s6 ⟨u,hr,h6⟩=>?_;subst hr;refine thn h6 λ_ s7 ⟨x,H7,I7,r7,y7,jk,ng⟩=>?_;have nh:=I7.pinned (stat ng) (T.obj _ _ jk);have lK:=lH _ s7 (capt fr σ) H7 x u _ nh r7 (step x H7 y7);rw[eP,eW,eA,eE,eX] at lK;refine thn lK λ_ s8 ⟨σ8,H8,I8,kC,q8⟩=>?_;have lL:=lI _ s8 σ8 H8 _ I8 q8;rw[eP,eW,eA,eE,eX] at lL;refine thn lL λok s9 ⟨H9,I9,q9⟩=>?_;have weak:∀{H':Hp}{s':Shared},Inv X' ([]++KM fp s7.heap) σ8 H' s'->Inv X' [] (capt fr σ) H' s'/\tn (i+1) s'.heap/\∀b∈fp,H' b=none:=λ{H' s'} I'=>by refine⟨I'.unpinned.weak (by rw[I'.len];rw[I0.len]) kC,T.keep _ _ _ jk λb hb o e=>(I'.pin (b,o) (zB _ (zB _ (F9 hb e)))).1,λb hb=>?_⟩;obtain⟨o,e,d⟩:=T.obj _ _ jk b hb;exact(I'.pin (b,o) (zB _ (zB _ (F9 hb e)))).2.1
     cases ok with
     | false=> rw[if_neg nft] at q9;obtain⟨bj,m',i_,w'⟩:=q9;obtain⟨a1,a2,a3⟩:=weak I9;exact⟨m',i_,i+1,bj,H9,a1,a2,a3,w'⟩
     | true=>
       rw[if_pos rfl] at q9;have jX:=lJ _ s9 σ8 H9 _ n (W (i+1)) (λs'=>∃kD,kD < n/\∃i ys H',Inv X' [] (capt fr σ) H' s'/\tn i s'.heap/\(∀b∈fp,H' b=none)/\W i kD ys H') I9 q9 λm y H2 s2 hm w' I'=>by obtain⟨a1,a2,a3⟩:=weak I';exact⟨m,hm,i+1,y,H2,a1,a2,a3,w'⟩
       rw[eE] at jX;exact jX
 refine fm (loop _ rfl) (T.self _ 0 _ _ _ ?_ (loop _ rfl));exact T.keep _ _ _ ef (λb hb o e=>ft b o (by rw[<-jV];exact zW _ e))
theorem PN {elt iter tg:Expr}{ifs:List Expr}{pos ah:Pos}{wi:TI}{g:TG}{tt:TT}{te:TE}{use:Option (Value->Sem Unit)}{Q:VK}{QQ:Value->Shared->Prop}(hc:X.calm=true) (S:CSc X scope NC fr) (hi:PI X tg iter wi) (hb:∀(C:Addr) (s:Shared) (H:Hp) (ex:List Addr) (pn:List (Addr×Obj)),PG (AT X scope NC C s H ex pn) tg g/\PTs (AT X scope NC C s H ex pn) ifs tt/\PE (AT X scope NC C s H ex pn) elt te) (I:Inv X pins σ H s) (h:N4 fr wi g tt te σ H Q) (fin:cX X pins σ use Q QQ) (hs:∀x,foldedSetIterable iter X.env x=pure x) :
   wpAny (model X.prog X.w) X.A (comprehension (.ListComp elt [⟨tg,iter,ifs,0⟩] scope pos) scope X.env ah (newList []) false (eval iter X.env) use) QQ X.xe s:=by refine N5 (y0:=[]) (at_:=.lst) (Ty:= "list") (dt:=.seq #[]) (tl:=tlL X.prog X.w X.A elt) (el:=λD m W σ2 H5=>te σ2 H5 λy H6=>∃bj,H6 D=some (.lst bj)/\bj.length < sizeLine/\∃m',m' < m/\W m' (bj++[y]) (upd H6 D (.lst (bj++[y])))) rfl rfl (by size_fits) (λH h _=>⟨xU _,[],0,.nil,yZ _ rfl⟩) YS codeAny_compStart_list hc S hi (λC s H ex pn=>⟨(hb C s H ex pn).1,(hb C s H ex pn).2.1,λgz s' σ H' D n W P I q k=>?_⟩) I h fin hs;refine thn ((hb C s H ex pn).2.2 _ s' σ H' _ I q) λy kE ⟨yv,kF,kH,kI,bj,hD,hsz,m',i_,w'⟩=>?_;exact thn (MY _ kE σ kF (.ref D) [yv] (.ref D) [y] (λ_ H'=>∃m',m' < n/\W m' (bj++[yv]) H') kH rfl (.cons kI .nil) ⟨_,bj,yv,rfl,rfl,hD,hsz,m',i_,w'⟩) λ_ ni ⟨_,nj,kJ,_,kD,kK,nk⟩=>k _ _ _ _ kK nk kJ
end
end L2
namespace L2
open PySem PySem.Spec PyProof.Rows
section
variable {X:Cx}{scope:Scope}{NC:List Str}{fr:List (Option Nat)}{elt iter tg:Expr}{ifs:List Expr}{pos:Pos}{wi:TI}{g:TG}{tt:TT}{te:TE}
theorem YV (hc:X.calm=true) (S:CSc X scope NC fr) (hi:PI X tg iter wi) (hb:∀(C:Addr) (s:Shared) (H:Hp) (ex:List Addr) (pn:List (Addr×Obj)),PG (AT X scope NC C s H ex pn) tg g/\PTs (AT X scope NC C s H ex pn) ifs tt/\PE (AT X scope NC C s H ex pn) elt te) (hs:∀x,foldedSetIterable iter X.env x=pure x:=by intro _;rfl):PE X (.ListComp elt [⟨tg,iter,ifs,0⟩] scope pos) (N4 fr wi g tt te):=by intro pins s σ H Q I h;rw[eval_ListComp];refine PN (use:=none) (Q:=Q) hc S hi hb I h (λD C H' s' m oC I' hn q back _ h' sb=>?_) hs;exact⟨.ref D,H',back pins σ H' s' h' I' sb,rfl,q⟩
theorem YW {i:Nat}{x:Str}{py fu:Pos}(hc:X.calm=true) (hN:X.N.Nodup) (kL:X.N[i]?=some x) (hx:Loc X.env.scope x) (S:CSc X scope NC fr) (hi:PI X tg iter wi) (hb:∀(C:Addr) (s:Shared) (H:Hp) (ex:List Addr) (pn:List (Addr×Obj)),PG (AT X scope NC C s H ex pn) tg g/\PTs (AT X scope NC C s H ex pn) ifs tt/\PE (AT X scope NC C s H ex pn) elt te) (kM:swapsWith (.ListComp elt [⟨tg,iter,ifs,0⟩] scope pos) (some (.Name x py)) fu.line X.env=pure true) (hf:X.fn x=true\/X.env.scope.names.lookup x=some .local:=by first | exact .inl rfl | exact .inr rfl | assumption)
   (hs:∀x,foldedSetIterable iter X.env x=pure x:=by intro _;rfl) :
   PS X (.Assign [.Name x py] (.ListComp elt [⟨tg,iter,ifs,0⟩] scope pos) fu) (λD σ H=>N4 fr wi g tt te σ H λv H'=>D.nx (σ.set i (some v)) H'):=by intro pins s σ H D I h;rw[exec_Assign_Name_used _ _ _ _ kM];refine zZ (wpAny_standAt (zZ ?_));show wpAny _ X.A (do let _ <- comprehension (.ListComp elt [⟨tg,iter,ifs,0⟩] scope pos) scope X.env _ (newList []) false (eval iter X.env) (some (assign (.Name x py) X.env))) _ _ s;refine zZ (thn (PN (use:=some (assign (.Name x py) X.env)) (Q:=λv H'=>D.nx (σ.set i (some v)) H') (QQ:=λ_ s'=>∃σ' H',Inv X pins σ' H' s'/\D.nx σ' H') hc S hi hb I h (λA C H' s' m oC I' hn q back iT=>?_) hs) λ_ s' hq=>zY (zY hq));have fm:=NS (X:=X) (pos:=py) hN kL hx hf (pins++[(C,oC)]) s' σ H' (.ref A) (.ref A) (λσ' H'=>D.nx σ' H') I' rfl q;refine thn fm λ_ s2 ⟨σ2,H2,I2,q2⟩=>?_;have kN:s2.heap.get? C=some oC:=(I2.pin (C,oC) (zB _ (zB _ (by simp)))).1;obtain⟨o',es,ep,cn,il,kP⟩:=hn;rw[iT] at cn;cases cn;exact⟨m,⟨_,es,ep,kN,il,kP⟩,λh' sb=>⟨σ2,H2,back pins σ2 H2 s2 h' I2 sb,q2⟩⟩
end
def Its (x:Str):It:=⟨λi _=>i < x.cps.size,λi H v H'=>H'=H/\∃c,x.cps[i]?=some c/\v = .str ⟨#[c]⟩,λi _=>i=x.cps.size⟩
theorem PP {P:Program}{w:World}{K:Frg}{tg:Expr}(it:Addr) (ty:String) (x:Str) (t:Tok) (je:["enumerate", "zip", "dict_itemiterator", "dict_reverseitemiterator", "odict_iterator", "itertools.zip_longest", "itertools.pairwise"].contains ty=false) (W:∀A:Around,A.handled=none->Walks P w A it [it] [it] x.cps.size (SignAt x) (λi h=>h.IsStrIter it ty x t i)) (jl:∀(A:Around) (i:Nat) (s:Shared) (Q:Value->Shared->Prop) (E:Value->Shared->Prop),s.heap.IsStrIter it ty x t i->Q (.ref it) s->wpAny (model P w) A (pyIter (.ref it)) Q E s) :
   Turn P w K tg (Its x) [it] it (λi h=>h.IsStrIter it ty x t i) where
 mem:=by simp
 obj:=λi h st b hb=>by
   have e:b=it:=by simpa using hb
   subst e;obtain⟨o,e,c,d⟩:=st;exact⟨o,e,λv z=>by rw[d] at z;cases z⟩
 keep:=λi h h' st k=>by obtain⟨o,e,r⟩:=st;exact⟨o,k it (by simp) o e,r⟩
 item:=by intro X hP hw hK hc i pins s σ H E I hf st hg;subst hP hw hK;obtain⟨f0,f1,f2,f3,f4,f5⟩:=hf it (by simp);refine(W X.A (I.ok.hd hc)).item i s _ _ hg st λv h' tk hv cq kk=>?_;obtain⟨c,u,kQ,rfl⟩:=hv;have I1:Inv X pins σ H { s with heap:=h',toks:=tk }:=I.turned (λb o hb e=>kk b o (by simpa using hb) e) f0 f1 f3 f4 f5;obtain⟨o,e,c',d⟩:=id cq;exact⟨_,rfl,SN (s:={ s with heap:=h',toks:=tk }) e c' d je ⟨.str ⟨#[c]⟩,H,I1,⟨u,rfl⟩,⟨rfl,c,kQ,rfl⟩,cq,λb hb=>(hf b hb).1⟩⟩
 done:=by intro X hP hw hK hc i pins s σ H E I hf st hg;subst hP hw hK;obtain⟨f0,f1,f2,f3,f4,f5⟩:=hf it (by simp);have hi:i=x.cps.size:=hg;subst hi;refine(W X.A (I.ok.hd hc)).done s _ _ st λh' tk kk=>⟨rfl,I.turned (λb o hb e=>kk b o (by simpa using hb) e) f0 f1 f3 f4 f5⟩
 self:=jl
theorem O4 (bs:List Bool):(a0V bs.length).all (λi=>(bs[i]?).getD false)=bs.all id:=by
 rw[a1K,b2W,b2W];constructor;. intro h b hb;obtain⟨i,hi,rfl⟩:=List.mem_iff_getElem.mp hb;have:=h i (by simpa using hi);simpa [hi] using this
 . intro h i hi;have hi:i < bs.length:=by simpa using hi
   have:=h bs[i] (a0K hi);simpa [hi] using this
theorem O5 (bs:List Bool):(a0V bs.length).any (λi=>(bs[i]?).getD false)=bs.any id:=by
 rw[a1K,a6X,a6X];constructor
 . rintro⟨i,hi,h⟩;have hi:i < bs.length:=by simpa using hi
   exact⟨bs[i],a0K hi,by simpa [hi] using h⟩
 . rintro⟨b,hb,h⟩;obtain⟨i,hi,rfl⟩:=List.mem_iff_getElem.mp hb;exact⟨i,by simpa using hi,by simpa [hi] using h⟩
section
variable {X:Cx}
theorem SV {bs:List Bool}{ab:List Value}(r:Vals (bs.map V.bl) ab) {i:Nat}{v:Value}(h:ab.toArray[i]?=some v):v = .bool ((bs[i]?).getD false):=by
 have h':ab[i]?=some v:=by simpa using h
 have hl:i < ab.length:=(yT.mp h').1;have e:=r.length;rw[zX] at e;have hb:(bs.map V.bl)[i]?=some (V.bl bs[i]):=by rw[zF];simp[show i < bs.length by omega]
 obtain⟨u,hu,ru⟩:=r.get hb;rw[h'] at hu;cases hu;simp[show i < bs.length by omega];exact ru
def i9 (X:Cx):List V->Hp->VK->Prop:=λxs H Q=>∃(p:Addr) (bs:List Bool),xs=[.ref p]/\SqL X.K H p (bs.map V.bl)/\Q (.bl (bs.all id)) H
theorem VQ (hc:X.calm=true):BP X (.builtin "all") (i9 X):=by
 intro pins s σ H xs us Q I r h;obtain⟨p,bs,rfl,hp,q⟩:=h;obtain⟨u,rfl,ru⟩:=GO r;cases ru;obtain⟨ab,rv,pl,hz⟩:=I.list hp;have ao:p≠s.heap.objs.size:=by obtain⟨o,n,e,_⟩:=pl;exact zC (zM e)
 have el:=rv.length;rw[zX] at el;refine call_all_walk (wpAny_pyIter_list pl.isList ?_);refine⟨s.heap.objs.size,_,_,_,_,_,λi=>(bs[i]?).getD false,rfl,Walks.list (show X.A.in1.handled=none from I.ok.hd hc) s.heap.objs.size p ao ab.toArray,⟨⟨_,yZ _ rfl,rfl,rfl⟩,?_⟩,λi v s' Q' E' hv hq=>?_,λh' tk hk=>?_⟩;. obtain⟨o,n,e,c,d,dd⟩:=pl;exact⟨o,zW _ e,c,n,dd⟩
 . rw[SV rv hv];exact wpAny_truthy_bool hq
 . refine⟨.bl (bs.all id),H,?_,?_,q⟩;. exact I.kept (t':=tk) λb o e=>hk b o (by simp;exact zC (zM e)) (zW _ e)
   . rw[zJ,<-el,O4];rfl
def iA (X:Cx):List V->Hp->VK->Prop:=λxs H Q=>∃(p:Addr) (bs:List Bool),xs=[.ref p]/\SqL X.K H p (bs.map V.bl)/\Q (.bl (bs.any id)) H
theorem VR (hc:X.calm=true):BP X (.builtin "any") (iA X):=by
 intro pins s σ H xs us Q I r h;obtain⟨p,bs,rfl,hp,q⟩:=h;obtain⟨u,rfl,ru⟩:=GO r;cases ru;obtain⟨ab,rv,pl,hz⟩:=I.list hp;have ao:p≠s.heap.objs.size:=by obtain⟨o,n,e,_⟩:=pl;exact zC (zM e)
 have el:=rv.length;rw[zX] at el;refine call_any_walk (wpAny_pyIter_list pl.isList ?_);refine⟨s.heap.objs.size,_,_,_,_,_,λi=>(bs[i]?).getD false,rfl,Walks.list (show X.A.in1.handled=none from I.ok.hd hc) s.heap.objs.size p ao ab.toArray,⟨⟨_,yZ _ rfl,rfl,rfl⟩,?_⟩,λi v s' Q' E' hv hq=>?_,λh' tk hk=>?_⟩;. obtain⟨o,n,e,c,d,dd⟩:=pl;exact⟨o,zW _ e,c,n,dd⟩
 . rw[SV rv hv];exact wpAny_truthy_bool hq
 . refine⟨.bl (bs.any id),H,?_,?_,q⟩;. exact I.kept (t':=tk) λb o e=>hk b o (by simp;exact zC (zM e)) (zW _ e)
   . rw[zJ,<-el,O5];rfl
def cY:V->Option Int->Option Int->Hp->VK->Prop:=λx lo hi H Q=>∃y,x = .str y/\y.length<=sizeLine/\Q (.str (a6V y lo hi)) H
theorem cZ:SlR X cY:=by
 intro pins s σ H x v vl vu lo hi sl Q I rx hs pl pu h;obtain⟨y,rfl,hz,q⟩:=h;obtain⟨t,rfl⟩:=rx;refine⟨"str", _,F.slot_str_getitem.lookup,typeIs_str _ _ _,?_⟩;cases pl with
 | none=>
   cases pu with
   | none=>exact wpAny_getItem_str_slice (l:=none) (u:=none) (st:=none) hs rfl (post_val_or_str ⟨zN (Txt.slice_le y _ _) hz,λt' k=>⟨.str _,H,I.tok _,⟨_,rfl⟩,q⟩⟩)
   | int j tj=>exact wpAny_getItem_str_slice (l:=none) (u:=some (j,tj)) (st:=none) hs rfl (post_val_or_str ⟨zN (Txt.slice_le y _ _) hz,λt' k=>⟨.str _,H,I.tok _,⟨_,rfl⟩,q⟩⟩)
 | int i ti=>
   cases pu with
   | none=>exact wpAny_getItem_str_slice (l:=some (i,ti)) (u:=none) (st:=none) hs rfl (post_val_or_str ⟨zN (Txt.slice_le y _ _) hz,λt' k=>⟨.str _,H,I.tok _,⟨_,rfl⟩,q⟩⟩)
   | int j tj=>exact wpAny_getItem_str_slice (l:=some (i,ti)) (u:=some (j,tj)) (st:=none) hs rfl (post_val_or_str ⟨zN (Txt.slice_le y _ _) hz,λt' k=>⟨.str _,H,I.tok _,⟨_,rfl⟩,q⟩⟩)
theorem K9:∀{ys:List Str}{ab:List Value},Vals (ys.map V.str) ab->StrsAre ab ys
 | [],_,.nil=>.nil
 | y::r,_,.cons h t=>by obtain⟨tk,rfl⟩:=h;exact .cons y tk (K9 t)
def VS (K:Frg):V->List V->Hp->VK->Prop:=λx xs H Q=>∃(y:Str) (p:Addr) (ys:List Str),x = .str y/\xs=[.ref p]/\SqL K H p (ys.map V.str)/\(ys.map (·.length)).sum+ys.length*y.length<=16777216/\Q (.str (Txt.join y ys)) H
theorem YX:MtR X "str.join" (VS X.K):=by intro pins s σ H x xs v us Q I rx rv h;obtain⟨y,p,ys,rfl,rfl,hp,hz,q⟩:=h;obtain⟨t,rfl⟩:=rx;obtain⟨u,rfl,ru⟩:=GO rv;cases ru;obtain⟨ab,r,pl,_⟩:=I.list hp;exact join_list pl.isList (by simpa using K9 r) hz λt' k=>⟨.str _,H,I.tok _,⟨_,rfl⟩,q⟩
def aU (K:Frg):R2:=λx y H Q=>∃a b xs ys,x = .ref a/\y = .ref b/\SqL K H a xs/\SqL K H b ys/\xs.length+ys.length<=sizeLine/\∀p,H p=none->Q (.ref p) (upd H p (.lst (xs++ys)))
theorem YY:OpR X (binaryOp .Add) (aU X.K):=by
 intro pins s σ H x y v u Q I rx ry h;obtain⟨l,b,xs,zs,rfl,rfl,hH,hB,hz,q⟩:=h;cases rx;cases ry;obtain⟨ab,r,pl,hl⟩:=I.list hH;obtain⟨az,r2,nq,fv⟩:=I.list hB;have e1:=r.length;have e2:=r2.length;obtain⟨⟨cls,dd,data,sl⟩,n,ho,hc,_,hd⟩:=pl;obtain⟨⟨jm,gp,data2,gq⟩,n2,ho2,hc2,_,hd2⟩:=nq;dsimp only at hc hd hc2 hd2;subst hc hd hc2 hd2;have ea:ab.toArray++az.toArray=(ab++az).toArray:=by simp
 have fin:EP X pins σ Q (.ref s.heap.objs.size) { s with heap:=s.heap.push { cls:=.type "list", data:=.seq (ab.toArray++az.toArray) } }:=by rw[ea];exact⟨.ref _,_,I.lnew (t':=s.toks) (r.append r2) (by rw[yY];omega),rfl,q _ I.fresh⟩
 exact concat_meets ⟨_,ho,rfl⟩ ⟨_,ho2,rfl⟩ noFill_list_add seq_list_add PySem.F.slot_list_add PySem.F.entry_list_add (PySem.F.args_list_add_2 _ _) (list_addW l b ab.toArray az.toArray n n2 dd gp sl gq (by rw[zJ,zJ];omega)) ⟨ho,ho2,fin⟩
def aV (i j:Int):Prop:=0 < j/\j < 2 ^ 64
theorem VT:OpR X (binaryOp .FloorDiv) (rI aV λi j=>.int (i/j)):=opI λi j _ _ _ _ _ hc q=>by
 have h1:(0:Int) < j:=hc.1;have h2:j.natAbs.log2 < 9000:=by
   have h0:j.natAbs≠0:=by omega
   have:j.natAbs < 2 ^ 64:=by have:=hc.2;omega
   exact zP ((Nat.log2_lt h0).mpr this) (by decide)
 exact floordiv_int (by omega) (by rw[Int.fdiv_eq_ediv_of_nonneg i (by omega)];exact q) (.inl (PyProof.noPylong_of_log2 h2))
end
end L2
namespace L2
open PySem PySem.Spec PyProof.Rows
def gE:Key->PyData
 | .inl i=>.int i
 | .inr x=>.str x
def LW (K:Frg) (H:Hp) (W:Addr->Prop) (a:Addr) (xs:List V):Prop:=(¬W a/\Rd H a (.lst xs))\/∃(o:Obj) (ab:Array Value) (n:Nat),K.lookup a=some o/\o.cls = .type "list" /\ o.dict=none/\o.data = .seq ab n/\ab.size<=sizeLine/\Vals xs ab.toList
def TW (K:Frg) (H:Hp) (W:Addr->Prop) (a:Addr) (xs:List V):Prop:=(¬W a/\Rd H a (.tup xs))\/∃(o:Obj) (ab:Array Value) (n:Nat),K.lookup a=some o/\o.cls = .type "tuple" /\ o.data = .seq ab n/\ab.size<=sizeLine/\Vals xs ab.toList
theorem LW.sq {K:Frg}{H:Hp}{W:Addr->Prop}{a:Addr}{xs:List V}(h:LW K H W a xs):SqL K H a xs:=h.elim (λz=>.inl z.2) .inr
theorem TW.sq {K:Frg}{H:Hp}{W:Addr->Prop}{a:Addr}{xs:List V}(h:TW K H W a xs):SqT K H a xs:=h.elim (λz=>.inl z.2) .inr
mutual
def DV (K:Frg) (H:Hp) (W:Addr->Prop):PyData->V->Prop
 | .none,v=>v = .non
 | .bool b,v=>v = .bl b
 | .int i,v=>v = .int i
 | .str x,v=>v = .str x
 | .list ds,v=>∃a vs,v = .ref a/\LW K H W a vs/\DVs K H W ds vs
 | .tuple ds,v=>∃a vs,v = .ref a/\TW K H W a vs/\DVs K H W ds vs
 | .dict kvs,v=>∃a jn,v = .ref a/\¬W a/\Rd H a (.dK jn)/\DKV K H W kvs jn
def DVs (K:Frg) (H:Hp) (W:Addr->Prop):List PyData->List V->Prop
 | [],vs=>vs=[]
 | d::ds,vs=>∃v r,vs=v::r/\DV K H W d v/\DVs K H W ds r
def DKV (K:Frg) (H:Hp) (W:Addr->Prop):List (PyData×PyData)->List (Key×V)->Prop
 | [],vs=>vs=[]
 | (k,d)::ds,vs=>∃k' v r,vs=(k',v)::r/\k=gE k'/\DV K H W d v/\DKV K H W ds r
end
structure Grow (K:Frg) (W W':Addr->Prop) (H H':Hp):Prop where
 keep:∀b o,H b=some o->¬W b->H' b=some o\/∃ks ob,o = .dK ks/\H' b=some (.frz ob o)
 new:∀b,W' b->W b\/H b=none
theorem Grow.refl {K:Frg}{W:Addr->Prop}{H:Hp}:Grow K W W H H:=⟨λ_ _ h _=>.inl h,λ_ h=>.inl h⟩
section
variable {K:Frg}{W W' W2:Addr->Prop}{H H' H2:Hp}
theorem Rd.grow (g:Grow K W W' H H') {a:Addr}{o:HO}(nw:¬W a) (h:Rd H a o):Rd H' a o:=by
 rcases h with h | ⟨o',h⟩
 . rcases g.keep _ _ h nw with e | ⟨ks,ob,_,e⟩
   . exact .inl e
   . exact .inr ⟨ob,e⟩
 . rcases g.keep _ _ h nw with e | ⟨ks,ob,e,_⟩
   . exact .inr ⟨o',e⟩
   . cases e
theorem Grow.kept (g:Grow K W W' H H') {a:Addr}{o:HO}(h:H a=some o) (nw:¬W a) (n:∀ks,o≠.dK ks):H' a=some o:=(g.keep a o h nw).elim id λ⟨ks,_,e,_⟩=>absurd e (n ks)
theorem Rd.ne_none {H:Hp}{a:Addr}{o:HO}(h:Rd H a o):H a≠none:=by rcases h with h | ⟨o',h⟩ <;> rw[h] <;> simp
theorem Rd.nw (g:Grow K W W' H H') {a:Addr}{o:HO}(nw:¬W a) (h:Rd H a o):¬W' a:=λw=>by
 rcases g.new a w with z | z;. exact nw z
 . exact Rd.ne_none h z
theorem LW.grow (g:Grow K W W' H H') {a:Addr}{xs:List V}(h:LW K H W a xs):LW K H' W' a xs:=h.elim (λz=>.inl ⟨z.2.nw g z.1,z.2.grow g z.1⟩) .inr
theorem TW.grow (g:Grow K W W' H H') {a:Addr}{xs:List V}(h:TW K H W a xs):TW K H' W' a xs:=h.elim (λz=>.inl ⟨z.2.nw g z.1,z.2.grow g z.1⟩) .inr
mutual
theorem DV.grow (g:Grow K W W' H H'):∀{d:PyData}{v:V},DV K H W d v->DV K H' W' d v
 | .none,v,h=>by unfold DV at h ⊢;exact h
 | .bool b,v,h=>by unfold DV at h ⊢;exact h
 | .int i,v,h=>by unfold DV at h ⊢;exact h
 | .str x,v,h=>by unfold DV at h ⊢;exact h
 | .list ds,v,h=>by unfold DV at h ⊢;obtain⟨a,vs,e,hs,hd⟩:=h;exact⟨a,vs,e,hs.grow g,DVs.grow g hd⟩
 | .tuple ds,v,h=>by unfold DV at h ⊢;obtain⟨a,vs,e,hs,hd⟩:=h;exact⟨a,vs,e,hs.grow g,DVs.grow g hd⟩
 | .dict kvs,v,h=>by unfold DV at h ⊢;obtain⟨a,vs,e,nw,hs,hd⟩:=h;exact⟨a,vs,e,hs.nw g nw,hs.grow g nw,DKV.grow g hd⟩
theorem DVs.grow (g:Grow K W W' H H'):∀{ds:List PyData}{vs:List V},DVs K H W ds vs->DVs K H' W' ds vs
 | [],vs,h=>by unfold DVs at h ⊢;exact h
 | d::ds,vs,h=>by unfold DVs at h ⊢;obtain⟨v,r,e,h1,h2⟩:=h;exact⟨v,r,e,DV.grow g h1,DVs.grow g h2⟩
theorem DKV.grow (g:Grow K W W' H H'):∀{ds:List (PyData×PyData)}{vs:List (Key×V)},DKV K H W ds vs->DKV K H' W' ds vs
 | [],vs,h=>by unfold DKV at h ⊢;exact h
 | (k,d)::ds,vs,h=>by unfold DKV at h ⊢;obtain⟨k',v,r,e,e2,h1,h2⟩:=h;exact⟨k',v,r,e,e2,DV.grow g h1,DKV.grow g h2⟩
end
theorem Grow.trans (a:Grow K W W' H H') (b:Grow K W' W2 H' H2):Grow K W W2 H H2:=by
 refine⟨λx o h nw=>?_,λx w=>?_⟩
 . have lM:¬W' x:=λw=>by
     rcases a.new x w with z | z;. exact nw z
     . rw[h] at z;cases z
   rcases a.keep x o h nw with e | ⟨ks,ob,e1,e2⟩
   . exact b.keep x o e lM
   . exact .inr ⟨ks,ob,e1,b.kept e2 lM λ_ z=>nomatch z⟩
 . rcases b.new x w with z | z1;. exact a.new x z
   . by_cases hx:W x;. exact .inl hx
     . refine .inr ?_;cases e:H x with
       | none=>rfl
       | some o=> rcases a.keep x o e hx with q | ⟨_,_,_,q⟩ <;> (rw[q] at z1;cases z1)
theorem DVs.length:∀{ds:List PyData}{vs:List V},DVs K H W ds vs->vs.length=ds.length
 | [],vs,h=>by unfold DVs at h;subst h;rfl
 | d::ds,vs,h=>by unfold DVs at h;obtain⟨v,r,e,h1,h2⟩:=h;subst e;simp[DVs.length h2]
theorem DVs.get:∀{ds:List PyData}{vs:List V}{i:Nat}{v:V},DVs K H W ds vs->vs[i]?=some v->∃d,ds[i]?=some d/\DV K H W d v
 | [],vs,i,v,h,e=>by unfold DVs at h;subst h;simp at e
 | d::ds,vs,i,v,h,e=>by
   unfold DVs at h;obtain⟨u,r,e',h1,h2⟩:=h;subst e';cases i with
   | zero=>simp at e;subst e;exact⟨d,rfl,h1⟩
   | succ i=>simpa using DVs.get h2 (by simpa using e)
theorem DVs.get':∀{ds:List PyData}{vs:List V}{i:Nat}{d:PyData},DVs K H W ds vs->ds[i]?=some d->∃v,vs[i]?=some v/\DV K H W d v
 | [],vs,i,v,h,e=>by simp at e
 | d::ds,vs,i,v,h,e=>by
   unfold DVs at h;obtain⟨u,r,e',h1,h2⟩:=h;subst e';cases i with
   | zero=>simp at e;subst e;exact⟨u,rfl,h1⟩
   | succ i=>simpa using DVs.get' h2 (by simpa using e)
theorem DVs.nil:DVs K H W [] []:=by unfold DVs;rfl
theorem DVs.cons {d:PyData}{v:V}{ds:List PyData}{vs:List V}(h:DV K H W d v) (t:DVs K H W ds vs):DVs K H W (d::ds) (v::vs):=by unfold DVs;exact⟨v,vs,rfl,h,t⟩
theorem DVs.append:∀{ds es:List PyData}{vs us:List V},DVs K H W ds vs->DVs K H W es us->DVs K H W (ds++es) (vs++us)
 | [],es,vs,us,h,t=>by unfold DVs at h;subst h;exact t
 | d::ds,es,vs,us,h,t=>by unfold DVs at h;obtain⟨u,r,e',h1,h2⟩:=h;subst e';exact DVs.cons h1 (DVs.append h2 t)
theorem DVs.drop:∀{ds:List PyData}{vs:List V}(i:Nat),DVs K H W ds vs->DVs K H W (ds.drop i) (vs.drop i)
 | ds,vs,0,h=>h
 | [],vs,i+1,h=>by unfold DVs at h;subst h;exact DVs.nil
 | e::ds,vs,i+1,h=>by unfold DVs at h;obtain⟨u,r,e',h1,h2⟩:=h;subst e';exact DVs.drop i h2
theorem DVs.take:∀{ds:List PyData}{vs:List V}(i:Nat),DVs K H W ds vs->DVs K H W (ds.take i) (vs.take i)
 | ds,vs,0,h=>DVs.nil
 | [],vs,i+1,h=>by unfold DVs at h;subst h;exact DVs.nil
 | e::ds,vs,i+1,h=>by unfold DVs at h;obtain⟨u,r,e',h1,h2⟩:=h;subst e';exact DVs.cons h1 (DVs.take i h2)
theorem J1:∀{bs:List Bool}{vs:List V},DVs K H W (bs.map PyData.bool) vs->vs=bs.map V.bl
 | [],vs,h=>by unfold DVs at h;exact h
 | b::bs,vs,h=>by simp only[zI] at h;unfold DVs at h;obtain⟨u,r,e',h1,h2⟩:=h;unfold DV at h1;subst e' h1;rw[J1 h2];rfl
theorem FR:∀{bs:List Str}{vs:List V},DVs K H W (bs.map a0Z) vs->vs=bs.map V.str
 | [],vs,h=>by unfold DVs at h;exact h
 | b::bs,vs,h=>by simp only[zI] at h;unfold DVs at h;obtain⟨u,r,e',h1,h2⟩:=h;unfold DV at h1;subst e' h1;rw[FR h2];rfl
end
section
variable {X:Cx}{pins:List (Addr×Obj)}{σ:St}{H:Hp}{s:Shared}{W:Addr->Prop}
mutual
theorem DV.reads (I:Inv X pins σ H s):∀{d:PyData}{v:V}{u:Value},d.canLay0=true->DV X.K H W d v->RelV v u->∃as,PySem.Reads s.heap u d as
 | .none,v,u,c,h,r=>by unfold DV at h;subst h;cases r;exact⟨_,.none⟩
 | .bool b,v,u,c,h,r=>by unfold DV at h;subst h;cases r;exact⟨_,.bool b⟩
 | .int i,v,u,c,h,r=>by unfold DV at h;subst h;obtain⟨t,rfl⟩:=r;exact⟨_,.int i t⟩
 | .str x,v,u,c,h,r=>by unfold DV at h;subst h;obtain⟨t,rfl⟩:=r;exact⟨_,.str x t⟩
 | .list ds,v,u,c,h,r=>by unfold DV at h;obtain⟨a,vs,rfl,hs,hd⟩:=h;cases r;obtain⟨ab,rv,⟨o,n,e,hc,_,dd⟩,_⟩:=I.list hs.sq;obtain⟨as,q⟩:=DVs.reads I (by simpa [PyData.canLay0] using c) hd rv;exact⟨_,.list e hc dd (by simpa using q)⟩
 | .tuple ds,v,u,c,h,r=>by unfold DV at h;obtain⟨a,vs,rfl,hs,hd⟩:=h;cases r;obtain⟨ab,rv,⟨o,e,hc,n,dd⟩,_⟩:=I.tuple hs.sq;obtain⟨as,q⟩:=DVs.reads I (by simpa [PyData.canLay0] using c) hd rv;exact⟨_,.tuple e hc dd (by simpa using q)⟩
 | .dict kvs,v,u,c,h,r=>by simp[PyData.canLay0] at c
theorem DVs.reads (I:Inv X pins σ H s):∀{ds:List PyData}{vs:List V}{us:List Value},b1Z ds=true->DVs X.K H W ds vs->Vals vs us->∃as,PySem.ReadsAll s.heap us ds as
 | [],vs,us,c,h,r=>by unfold DVs at h;subst h;cases r;exact⟨_,.nil⟩
 | d::ds,vs,us,c,h,r=>by
   unfold DVs at h;obtain⟨v,q,rfl,h1,h2⟩:=h;cases r with
   | cons r1 r2=> simp[b1Z] at c;obtain⟨as,q1⟩:=DV.reads I c.1 h1 r1;obtain⟨bs,q2⟩:=DVs.reads I c.2 h2 r2;exact⟨_,.cons q1 q2⟩
end
def UA (K:Frg) (neg:Bool):R2:=λx y H Q=>∃(W:Addr->Prop) (da db:PyData),DV K H W da x/\DV K H W db y/\zH da=true/\zH db=true/\Q (.bl (if neg then !a5Q da db else a5Q da db)) H
theorem d0 (hu:X.A.units+64 < cLine):OpR X (compareOp .Eq) (UA X.K false):=by intro pins s σ H x y v u Q I rx ry h;obtain⟨W,da,db,h1,h2,s1,s2,q⟩:=h;obtain⟨as,r1⟩:=h1.reads I (zG s1) rx;obtain⟨bs,r2⟩:=h2.reads I (zG s2) ry;exact PySem.SeqAt.compareEq_shaped r1 r2 s1 s2 hu ⟨.bl _,H,I,rfl,q⟩
theorem d4 (hu:X.A.units+64 < cLine):OpR X (compareOp .NotEq) (UA X.K true):=by intro pins s σ H x y v u Q I rx ry h;obtain⟨W,da,db,h1,h2,s1,s2,q⟩:=h;obtain⟨as,r1⟩:=h1.reads I (zG s1) rx;obtain⟨bs,r2⟩:=h2.reads I (zG s2) ry;exact PySem.SeqAt.compareNe_shaped r1 r2 s1 s2 hu ⟨.bl _,H,I,rfl,q⟩
end
end L2
namespace DL
open PySem PySem.Spec L2
abbrev St:=L2.St
inductive MO where
 | l (ds:List PyData)
 | d (kvs:List (PyData×PyData))
 | t (kvs:List (List Key×PyData))
 | x (C:Addr) (fs:List (Str×PyData))
abbrev Own:=Addr->Option MO
def Own.W (M:Own):Addr->Prop:=λa=>M a≠none
def Own.put (M:Own) (a:Addr) (o:MO):Own:=λb=>if b=a then some o else M b
def Own.del (M:Own) (a:Addr):Own:=λb=>if b=a then none else M b
def Own.Sub (M N:Own):Prop:=∀a o,M a=some o->N a=some o
theorem zU {M:Own}{a:Addr}{o:MO}:M.put a o a=some o:=by unfold Own.put;rw[if_pos rfl]
theorem yH {M:Own}{a b:Addr}{o:MO}(h:b≠a):M.put a o b=M b:=by unfold Own.put;rw[if_neg h]
theorem yI {M:Own}{a:Addr}{o o':MO}:(M.put a o).put a o'=M.put a o':=by funext b;unfold Own.put;by_cases h:b=a <;> simp[h]
theorem yG {M:Own}{a:Addr}{o:MO}(h:M a=none):(M.put a o).del a=M:=by
 funext b;unfold Own.put Own.del;by_cases e:b=a;. subst e;simp[h]
 . simp[e]
theorem Own.del_put_ne {M:Own}{a b:Addr}{o:MO}(h:a≠b):(M.put a o).del b=(M.del b).put a o:=by
 funext c;unfold Own.put Own.del;by_cases h1:c=b;. subst h1;simp[a8K h]
 . simp[h1]
theorem zT (M:Own):M.Sub M:=λ_ _ h=>h
theorem Own.Sub.put {M N:Own}{a:Addr}{o:MO}(h:M.Sub N) (n:M a=none):M.Sub (N.put a o):=λb x e=>by rw[yH (by rintro rfl;rw[n] at e;cases e)];exact h b x e
inductive DS where
 | d (x:PyData)
 | loc (a:Addr)
 | ty (n:String)
 | tl (ds:List PyData) (a:Addr)
def SI (K:Frg) (H:Hp) (M:Own):DS->V->Prop
 | .d x,v=>DV K H M.W x v
 | .loc a,v=>v = .ref a
 | .ty n,v=>v = .ty n
 | .tl ds a,v=>∃b vs,v = .ref b/\TW K H M.W b (vs++[.ref a])/\DVs K H M.W ds vs
def SIs (K:Frg) (H:Hp) (M:Own):List DS->List V->Prop
 | [],vs=>vs=[]
 | d::ds,vs=>∃v r,vs=v::r/\SI K H M d v/\SIs K H M ds r
def XI (K:Frg) (H:Hp) (W:Addr->Prop):Option Addr->List (Str×PyData)->Prop
 | none,[]=>True
 | some d,[(n,x)]=>∃v,¬W d/\H d=some (.xd [(n,v)])/\DV K H W x v
 | _,_=>False
theorem XI.grow {K:Frg}{W W':Addr->Prop}{H H':Hp}(g:Grow K W W' H H') {dd:Option Addr}{fs:List (Str×PyData)}(h:XI K H W dd fs):XI K H' W' dd fs:=by
 unfold XI at h ⊢;split at h;. trivial
 . obtain⟨v,nw,a,b⟩:=h;exact⟨v,λz=>(g.new _ z).elim nw λq=>by(rw[a] at q;cases q),g.kept a nw (λ_ z=>nomatch z),b.grow g⟩
 . exact h.elim
def exK (a C:Addr) (dd:Option Addr):HO:=.ext λh=>∃o vs,h.get? a=some o/\o.cls = .ref C/\o.dict=dd/\o.data = .fields vs
def DTV (K:Frg) (H:Hp) (W:Addr->Prop) (kvs:List (List Key×PyData)) (ks:List (List Key×V)):Prop:=ks.map (·.1)=kvs.map (·.1)/\DVs K H W (kvs.map (·.2)) (ks.map (·.2))
theorem DTV.grow {K:Frg}{W W':Addr->Prop}{H H':Hp}(g:Grow K W W' H H') {kvs:List (List Key×PyData)}{ks:List (List Key×V)}(h:DTV K H W kvs ks):DTV K H' W' kvs ks:=⟨h.1,h.2.grow g⟩
def OA1 (K:Frg) (H:Hp) (M:Own) (a:Addr):MO->Prop
 | .x C fs=>∃dd,H a=some (exK a C dd)/\XI K H M.W dd fs
 | .l ds=>∃vs,H a=some (.lst vs)/\DVs K H M.W ds vs
 | .d kvs=>∃ks,H a=some (.dK ks)/\DKV K H M.W kvs ks
 | .t kvs=>∃ks,H a=some (.dT ks)/\DTV K H M.W kvs ks
def OA (K:Frg) (H:Hp) (M:Own):Prop:=∀a o,M a=some o->OA1 K H M a o
structure Step (K:Frg) (M M':Own) (H H':Hp):Prop where
 grow:Grow K M.W M'.W H H'
structure Rel (K:Frg) (M:Own) (ρ:List (Option DS)) (σ:St) (H:Hp):Prop where
 own:OA K H M
 len:ρ.length=σ.length
 slot:∀(i:Nat) x,ρ[i]?=some (some x)->∃v,σ[i]?=some (some v)/\SI K H M x v
section
variable {K:Frg}{M M' M2:Own}{H H' H2:Hp}{ρ:List (Option DS)}{σ:St}
theorem Step.refl:Step K M M H H:=⟨Grow.refl⟩
theorem Step.trans (a:Step K M M' H H') (b:Step K M' M2 H' H2):Step K M M2 H H2:=⟨a.grow.trans b.grow⟩
theorem SI.step (st:Step K M M' H H'):∀{x:DS}{v:V},SI K H M x v->SI K H' M' x v
 | .d _,_,h=>DV.grow st.grow h
 | .loc _,_,h=>h
 | .ty _,_,h=>h
 | .tl _ _,_,⟨b,vs,e,h1,h2⟩=>⟨b,vs,e,h1.grow st.grow,h2.grow st.grow⟩
theorem Rel.step (R:Rel K M ρ σ H) (oa:OA K H' M') (st:Step K M M' H H'):Rel K M' ρ σ H':=⟨oa,R.len,λi x e=>let ⟨v,h1,h2⟩:=R.slot i x e;⟨v,h1,h2.step st⟩⟩
theorem Rel.set (R:Rel K M ρ σ H) {x:DS}{v:V}(h:SI K H M x v) (i:Nat):Rel K M (ρ.set i (some x)) (σ.set i (some v)) H:=by
 refine⟨R.own,by rw[List.length_set,List.length_set];exact R.len,λj y e=>?_⟩;rw[List.getElem?_set] at e ⊢;by_cases au:i=j
 . rw[if_pos au] at e ⊢;subst au;by_cases hl:i < ρ.length;. rw[if_pos hl] at e;cases e;rw[if_pos (by rw[<-R.len];exact hl)];exact⟨v,rfl,h⟩
   . rw[if_neg hl] at e;cases e
 . rw[if_neg au] at e ⊢;exact R.slot j y e
theorem OA.none (oa:OA K H M) {p:Addr}(h:H p=b1K):M p=b1K:=by
 cases e:M p with
 | none=>rfl
 | some o=> have:=oa p o e;cases o <;> (obtain⟨vs,q,_⟩:=this;rw[h] at q;cases q)
theorem BJ {p:Addr}{o:HO}(W:Addr->Prop) (h:H p=b1K):Grow K W W H (upd H p o):=⟨λb u e _=>.inl (by rw[AR (BH e h)];exact e),λ_ w=>.inl w⟩
theorem OA.grow (oa:OA K H M) (g:Grow K M.W M.W H H') (hk:∀a o,M a=some o->H' a=H a):OA K H' M:=λa o e=>by have q:=oa a o e;cases o <;> (obtain⟨vs,q1,q2⟩:=q;exact⟨vs,by rw[hk a _ e];exact q1,q2.grow g⟩)
theorem OA.new {p:Addr}{o:HO}(oa:OA K H M) (h:H p=b1K):OA K (upd H p o) M:=oa.grow (BJ _ h) λa x e=>by rw[AR (by rintro rfl;rw[oa.none h] at e;cases e)]
theorem SW {p:Addr}{vs:List V}{ds:List PyData}(oa:OA K H M) (h:H p=b1K) (hd:DVs K H M.W ds vs) :
   OA K (upd H p (.lst vs)) (M.put p (.l ds))/\Step K M (M.put p (.l ds)) H (upd H p (.lst vs)):=by
 have hM:=oa.none h;have g:Grow K M.W (M.put p (.l ds)).W H (upd H p (.lst vs)):=⟨λb u e _=>.inl (by rw[AR (BH e h)];exact e),λb w=>by
   by_cases hb:b=p;. subst hb;exact .inr h
   . left;unfold Own.W at w ⊢;rw[yH hb] at w;exact w⟩
 refine⟨λa o e=>?_,⟨g⟩⟩
 . by_cases ha:a=p;. subst ha;rw[zU] at e;cases e;exact⟨vs,AM,hd.grow g⟩
   . rw[yH ha] at e;have q:=oa a o e;cases o <;> (obtain⟨vs,q1,q2⟩:=q;exact⟨vs,by rw[AR ha];exact q1,q2.grow g⟩)
theorem N6 {p:Addr}{iU:List V}{jo:List PyData}{o:MO}(oa:OA K H M) (h:M p=some o) (hd:DVs K H M.W jo iU) :
   OA K (upd H p (.lst iU)) (M.put p (.l jo))/\Step K M (M.put p (.l jo)) H (upd H p (.lst iU)):=by
 have hw:∀b,(M.put p (.l jo)).W b->M.W b:=λb w=>by
   unfold Own.W at w ⊢;by_cases hb:b=p;. subst hb;rw[h];simp
   . rw[yH hb] at w;exact w
 have g:Grow K M.W (M.put p (.l jo)).W H (upd H p (.lst iU)):=⟨λb u e nw=>.inl (by
   rw[AR (by rintro rfl;exact nw (by unfold Own.W;rw[h];simp))];exact e),λb w=>.inl (hw b w)⟩
 refine⟨λa o e=>?_,⟨g⟩⟩
 . by_cases ha:a=p;. subst ha;rw[zU] at e;cases e;exact⟨iU,AM,hd.grow g⟩
   . rw[yH ha] at e;have q:=oa a o e;cases o <;> (obtain⟨vs,q1,q2⟩:=q;exact⟨vs,by rw[AR ha];exact q1,q2.grow g⟩)
theorem BC (hs:M'.Sub M):Grow K M.W M'.W H H:=⟨λ_ _ e _=>.inl e,λb w=>.inl (by
 unfold Own.W at w ⊢;cases e:M' b with
 | none=>exact absurd e w
 | some o=>rw[hs b o e];simp)⟩
theorem OA.sub (oa:OA K H M) (hs:M'.Sub M):OA K H M':=λa o e=>by have q:=oa a o (hs a o e);cases o <;> (obtain⟨vs,q1,q2⟩:=q;exact⟨vs,q1,q2.grow (BC hs)⟩)
theorem SI.sub (hs:M'.Sub M):∀{x:DS}{v:V},SI K H M x v->SI K H M' x v
 | .d _,_,h=>DV.grow (BC hs) h
 | .loc _,_,h=>h
 | .ty _,_,h=>h
 | .tl _ _,_,⟨b,vs,e,h1,h2⟩=>⟨b,vs,e,h1.grow (BC hs),h2.grow (BC hs)⟩
end
def DE (K:Frg) (t:TE) (ρ:List (Option DS)) (M:Own) (Q:DS->Own->Prop):Prop:=∀(σ:St) (H:Hp) (QQ:VK),Rel K M ρ σ H->(∀v H' x M',OA K H' M'->SI K H' M' x v->Step K M M' H H'->Q x M'->QQ v H')->t σ H QQ
def DT (K:Frg) (t:TT) (ρ:List (Option DS)) (M:Own) (Q:Bool->Own->Prop):Prop:=∀(σ:St) (H:Hp) (QQ:Bool->Hp->Prop),Rel K M ρ σ H->(∀b H' M',OA K H' M'->Step K M M' H H'->Q b M'->QQ b H')->t σ H QQ
def DA (K:Frg) (t:TA) (ρ:List (Option DS)) (M:Own) (Q:List DS->Own->Prop):Prop:=∀(σ:St) (H:Hp) (QQ:List V->Hp->Prop),Rel K M ρ σ H->(∀vs H' xs M',OA K H' M'->SIs K H' M' xs vs->Step K M M' H H'->Q xs M'->QQ vs H')->t σ H QQ
def DP (K:Frg) (t:TO) (ρ:List (Option DS)) (M:Own) (Q:Option Int->Own->Prop):Prop:=∀(σ:St) (H:Hp) (QQ:Option Int->Hp->Prop),Rel K M ρ σ H->(∀b H' M',OA K H' M'->Step K M M' H H'->Q b M'->QQ b H')->t σ H QQ
structure EndsD where
 nx:List (Option DS)->Own->Prop
 rt:DS->Own->Prop
 bk:List (Option DS)->Own->Prop:=λ_ _=>False
 ct:List (Option DS)->Own->Prop:=λ_ _=>False
def DSt (K:Frg) (t:TS) (ρ:List (Option DS)) (M:Own) (D:EndsD):Prop:=∀(σ:St) (H:Hp) (E:Ends),Rel K M ρ σ H->(∀ρ' M' σ' H',Rel K M' ρ' σ' H'->Step K M M' H H'->D.nx ρ' M'->E.nx σ' H')->(∀v H' x M',OA K H' M'->SI K H' M' x v->Step K M M' H H'->D.rt x M'->E.rt v H') ->(∀ρ' M' σ' H',Rel K M' ρ' σ' H'->Step K M M' H H'->D.bk ρ' M'->E.bk σ' H')->(∀ρ' M' σ' H',Rel K M' ρ' σ' H'->Step K M M' H H'->D.ct ρ' M'->E.ct σ' H')->t E σ H
def D1 (K:Frg) (r:V->Hp->VK->Prop) (x:DS) (M:Own) (Q:DS->Own->Prop):Prop:=∀(H:Hp) (v:V) (QQ:VK),OA K H M->SI K H M x v->(∀w H' z M',OA K H' M'->SI K H' M' z w->Step K M M' H H'->Q z M'->QQ w H')->r v H QQ
def D2 (K:Frg) (r:R2) (x y:DS) (M:Own) (Q:DS->Own->Prop):Prop:=∀(H:Hp) (v u:V) (QQ:VK),OA K H M->SI K H M x v->SI K H M y u->(∀w H' z M',OA K H' M'->SI K H' M' z w->Step K M M' H H'->Q z M'->QQ w H')->r v u H QQ
def DR (K:Frg) (r:List V->Hp->VK->Prop) (xs:List DS) (M:Own) (Q:DS->Own->Prop):Prop:=∀(H:Hp) (vs:List V) (QQ:VK),OA K H M->SIs K H M xs vs->(∀w H' z M',OA K H' M'->SI K H' M' z w->Step K M M' H H'->Q z M'->QQ w H')->r vs H QQ
def DM (K:Frg) (r:V->List V->Hp->VK->Prop) (x:DS) (xs:List DS) (M:Own) (Q:DS->Own->Prop):Prop:=∀(H:Hp) (v:V) (vs:List V) (QQ:VK),OA K H M->SI K H M x v->SIs K H M xs vs->(∀w H' z M',OA K H' M'->SI K H' M' z w->Step K M M' H H'->Q z M'->QQ w H')->r v vs H QQ
def DSl (K:Frg) (r:V->Option Int->Option Int->Hp->VK->Prop) (x:DS) (lo hi:Option Int) (M:Own) (Q:DS->Own->Prop):Prop:=∀(H:Hp) (v:V) (QQ:VK),OA K H M->SI K H M x v->(∀w H' z M',OA K H' M'->SI K H' M' z w->Step K M M' H H'->Q z M'->QQ w H')->r v lo hi H QQ
def DTy (K:Frg) (T:String) (x:DS) (M:Own):Prop:=∀(H:Hp) (v:V),OA K H M->SI K H M x v->tyV K T v H
section
variable {K:Frg}{ρ:List (Option DS)}{M:Own}{Q:DS->Own->Prop}{QB:Bool->Own->Prop}{ta tb tc:TE}{tA gi:TT}{r r':R2}
theorem SX {t:TE}{Q':DS->Own->Prop}(h:DE K t ρ M Q) (hq:∀x M',Q x M'->Q' x M'):DE K t ρ M Q':=λσ H QQ R k=>h σ H QQ R λv H' x M' a b c q=>k v H' x M' a b c (hq x M' q)
theorem d5 {i:Nat}{x:DS}(e:ρ[i]?=some (some x)) (h:Q x M):DE K (Y5 i) ρ M Q:=λσ H QQ R k=>by obtain⟨v,h1,h2⟩:=R.slot i x e;exact⟨v,h1,k v H x M R.own h2 Step.refl h⟩
theorem d6 {i:Int}(h:Q (.d (.int i)) M):DE K (tC (.int i)) ρ M Q:=λσ H QQ R k=>k _ H (.d (.int i)) M R.own (by unfold SI DV;rfl) Step.refl h
theorem gF {i:Bool}(h:Q (.d (.bool i)) M):DE K (tC (.bl i)) ρ M Q:=λσ H QQ R k=>k _ H (.d (.bool i)) M R.own (by unfold SI DV;rfl) Step.refl h
theorem d7 {i:Str}(h:Q (.d (.str i)) M):DE K (tC (.str i)) ρ M Q:=λσ H QQ R k=>k _ H (.d (.str i)) M R.own (by unfold SI DV;rfl) Step.refl h
theorem d8 (h:Q (.d .none) M):DE K (tC .non) ρ M Q:=λσ H QQ R k=>k _ H (.d .none) M R.own (by unfold SI DV;rfl) Step.refl h
theorem gG {n:String}(h:Q (.ty n) M):DE K (tC (.ty n)) ρ M Q:=λσ H QQ R k=>k _ H (.ty n) M R.own rfl Step.refl h
theorem gH (h:DE K ta ρ M λx M1=>DE K tb ρ M1 λy M2=>D2 K r x y M2 Q):DE K (tOp r ta tb) ρ M Q:=λσ H QQ R k=>
 h σ H _ R λv H1 x M1 o1 s1 t1 h1=>h1 σ H1 _ (R.step o1 t1) λu H2 y M2 o2 s2 t2 h2=>h2 H2 v u QQ o2 (s1.step t2) s2 λw H3 z M3 o3 s3 t3 q=>k w H3 z M3 o3 s3 ((t1.trans t2).trans t3) q
theorem gI {r:V->Hp->VK->Prop}(h:DE K ta ρ M λx M1=>D1 K r x M1 Q):DE K (tUn r ta) ρ M Q:=λσ H QQ R k=>
 h σ H _ R λv H1 x M1 o1 s1 t1 h1=>h1 H1 v QQ o1 s1 λw H3 z M3 o3 s3 t3 q=>k w H3 z M3 o3 s3 (t1.trans t3) q
theorem YZ (h:DE K ta ρ M λx M1=>∃c,x = .d (.bool c)/\QB c M1):DT K (aO ta) ρ M QB:=λσ H QQ R k=>
 h σ H _ R λv H1 x M1 o1 s1 t1 h1=>by obtain⟨c,rfl,q⟩:=h1;unfold SI DV at s1;exact⟨c,s1,k c H1 M1 o1 t1 q⟩
theorem iB (h:DE K ta ρ M λx M1=>∃c,x = .d (.bool c)/\QB c M1):DT K (L2.tB ta) ρ M QB:=λσ H QQ R k=>
 h σ H _ R λv H1 x M1 o1 s1 t1 h1=>by obtain⟨c,rfl,q⟩:=h1;unfold SI DV at s1;exact⟨c,s1,k c H1 M1 o1 t1 q⟩
theorem d9 (h:DT K tA ρ M λc M1=>if c=true then DT K gi ρ M1 QB else QB false M1):DT K (fF tA gi) ρ M QB:=λσ H QQ R k=>
 h σ H _ R λc H1 M1 o1 t1 h1=>by
   cases c with
   | false=>rw[if_neg nft] at h1 ⊢;exact k _ H1 M1 o1 t1 h1
   | true=>rw[if_pos rfl] at h1 ⊢;exact h1 σ H1 QQ (R.step o1 t1) λb H2 M2 o2 t2 q=>k b H2 M2 o2 (t1.trans t2) q
theorem gJ (h:DT K tA ρ M λc M1=>if c=true then QB true M1 else DT K gi ρ M1 QB):DT K (tOr tA gi) ρ M QB:=λσ H QQ R k=>
 h σ H _ R λc H1 M1 o1 t1 h1=>by
   cases c with
   | true=>rw[if_pos rfl] at h1 ⊢;exact k _ H1 M1 o1 t1 h1
   | false=>rw[if_neg nft] at h1 ⊢;exact h1 σ H1 QQ (R.step o1 t1) λb H2 M2 o2 t2 q=>k b H2 M2 o2 (t1.trans t2) q
theorem dA (h:DT K tA ρ M λc M1=>QB (!c) M1):DT K (fG tA) ρ M QB:=λσ H QQ R k=>h σ H _ R λc H1 M1 o1 t1 h1=>k _ H1 M1 o1 t1 h1
theorem dB (h:QB true M):DT K gC ρ M QB:=λσ H QQ R k=>k true H M R.own Step.refl h
theorem gK (h:DE K ta ρ M λx M1=>∃c,x = .d (.bool c)/\if c=true then Q (.d (.bool true)) M1 else DE K tb ρ M1 Q):DE K (fH ta tb) ρ M Q:=λσ H QQ R k=>
 h σ H _ R λv H1 x M1 o1 s1 t1 h1=>by
   obtain⟨c,rfl,q⟩:=h1;unfold SI DV at s1;refine⟨c,s1,?_⟩;cases c with
   | true=>rw[if_pos rfl] at q ⊢;exact k _ H1 _ M1 o1 (by unfold SI DV;rfl) t1 q
   | false=>rw[if_neg nft] at q ⊢;exact q σ H1 QQ (R.step o1 t1) λw H2 z M2 o2 s2 t2 q=>k w H2 z M2 o2 s2 (t1.trans t2) q
theorem dC (h:DE K ta ρ M λx M1=>∃c,x = .d (.bool c)/\Q (.d (.bool (!c))) M1):DE K (aI ta) ρ M Q:=λσ H QQ R k=>
 h σ H _ R λv H1 x M1 o1 s1 t1 h1=>by obtain⟨c,rfl,q⟩:=h1;unfold SI DV at s1;exact⟨c,s1,k _ H1 _ M1 o1 (by unfold SI DV;rfl) t1 q⟩
variable {QL:List DS->Own->Prop}{tl:TA}
theorem dD (h:QL [] M):DA K fX ρ M QL:=λσ H QQ R k=>k [] H [] M R.own rfl Step.refl h
theorem Z0 (h:DE K ta ρ M λx M1=>DA K tl ρ M1 λxs M2=>QL (x::xs) M2):DA K (aP ta tl) ρ M QL:=λσ H QQ R k=>
 h σ H _ R λv H1 x M1 o1 s1 t1 h1=>h1 σ H1 _ (R.step o1 t1) λvs H2 xs M2 o2 s2 t2 q=>k (v::vs) H2 (x::xs) M2 o2 ⟨v,vs,rfl,s1.step t2,s2⟩ (t1.trans t2) q
def ME:List DS->Option (List PyData)
 | []=>some []
 | .d x::r=>match ME r with
   | some l=>some (x::l)
   | none=>none
 | .loc _::_=>none
 | .ty _::_=>none
 | .tl _ _::_=>none
theorem SIs.data {H:Hp}:∀{xs:List DS}{ds:List PyData}{vs:List V},ME xs=some ds->SIs K H M xs vs->DVs K H M.W ds vs
 | [],ds,vs,e,h=>by cases e;cases h;exact DVs.nil
 | .d x::r,ds,vs,e,⟨v,q,e2,h1,h2⟩=>by
   cases e3:ME r with
   | none=>rw[ME,e3] at e;cases e
   | some es=> rw[ME,e3] at e;cases e;subst e2;exact DVs.cons h1 (SIs.data e3 h2)
 | .loc _::_,ds,vs,e,_=>by cases e
 | .ty _::_,ds,vs,e,_=>by cases e
 | .tl _ _::_,ds,vs,e,_=>by cases e
theorem SIs.length {H:Hp}:∀{xs:List DS}{vs:List V},SIs K H M xs vs->vs.length=xs.length
 | [],vs,h=>by cases h;rfl
 | _::r,vs,⟨v,q,e2,h1,h2⟩=>by subst e2;simp[SIs.length h2]
theorem dE (h:DA K tl ρ M λxs M1=>∃ds,ME xs=some ds/\ds.length<=sizeLine/\Q (.d (.tuple ds)) M1):DE K (fY tl) ρ M Q:=λσ H QQ R k=>
 h σ H _ R λvs H1 xs M1 o1 s1 t1 h1=>by obtain⟨ds,e,hz,q⟩:=h1;have hd:=s1.data e;refine⟨by rw[hd.length];exact hz,λp hp=>?_⟩;have g:Grow K M1.W M1.W H1 (upd H1 p (.tup vs)):=BJ _ hp;refine k _ _ (.d (.tuple ds)) M1 (o1.new hp) ?_ (t1.trans ⟨g⟩) q;unfold SI DV;exact⟨p,vs,rfl,.inl ⟨λw=>w (o1.none hp),.inl AM⟩,hd.grow g⟩
theorem EI (h:DA K tl ρ M λxs M1=>∃ds,ME xs=some ds/\ds.length<=sizeLine/\Q (.d (.list ds)) M1):DE K (cG tl) ρ M Q:=λσ H QQ R k=>
 h σ H _ R λvs H1 xs M1 o1 s1 t1 h1=>by obtain⟨ds,e,hz,q⟩:=h1;have hd:=s1.data e;refine⟨by rw[hd.length];exact hz,λp hp=>?_⟩;have g:Grow K M1.W M1.W H1 (upd H1 p (.lst vs)):=BJ _ hp;refine k _ _ (.d (.list ds)) M1 (o1.new hp) ?_ (t1.trans ⟨g⟩) q;unfold SI DV;exact⟨p,vs,rfl,.inl ⟨λw=>w (o1.none hp),.inl AM⟩,hd.grow g⟩
theorem KA (h:DA K tl ρ M λxs M1=>∃ds,ME xs=some ds/\ds.length<=sizeLine/\∀p,M1 p=none->Q (.loc p) (M1.put p (.l ds))):DE K (cG tl) ρ M Q:=λσ H QQ R k=>
 h σ H _ R λvs H1 xs M1 o1 s1 t1 h1=>by obtain⟨ds,e,hz,q⟩:=h1;have hd:=s1.data e;refine⟨by rw[hd.length];exact hz,λp hp=>?_⟩;obtain⟨a,b⟩:=SW o1 hp hd;exact k _ _ (.loc p) _ a rfl (t1.trans b) (q p (o1.none hp))
theorem gL {r:List V->Hp->VK->Prop}(h:DA K tl ρ M λxs M1=>DR K r xs M1 Q):DE K (tCB r tl) ρ M Q:=λσ H QQ R k=>
 h σ H _ R λvs H1 xs M1 o1 s1 t1 h1=>h1 H1 vs QQ o1 s1 λw H2 z M2 o2 s2 t2 q=>k w H2 z M2 o2 s2 (t1.trans t2) q
structure FSp where
 pre:List DS->Own->Prop
 post:List DS->Own->DS->Own->Prop
def spD (K:Frg) (n:Nat) (S:FSp):Sp:=λvs H Q _=>∃xs M,xs.length=n/\OA K H M/\SIs K H M xs vs/\S.pre xs M/\∀x M' v H',S.post xs M x M'->Step K M M' H H'->OA K H' M'->SI K H' M' x v->Q v H'
theorem Z1 {n:Nat}{S:FSp}:∀vs H Q E,spD K n S vs H Q E->vs.length=n:=λvs H Q E ⟨xs,M,hl,_,h,_⟩=>by rw[h.length,hl]
theorem Z2 {n:Nat}{S:FSp}{E:XK}(h:DA K tl ρ M λxs M1=>xs.length=n/\S.pre xs M1/\∀x M',S.post xs M1 x M'->Q x M'):DE K (SO (spD K n S) [] E tl) ρ M Q:=λσ H QQ R k=>
 h σ H _ R λvs H1 xs M1 o1 s1 t1 ⟨h0,h1,h2⟩=>by show spD K n S (vs++[]) H1 QQ E;rw[a1W];exact⟨xs,M1,h0,o1,s1,h1,λx M' v H' p st oa si=>k v H' x M' oa si (t1.trans st) (h2 x M' p)⟩
theorem KY {T:String}{r:V->List V->Hp->VK->Prop}(h:DE K ta ρ M λx M1=>DTy K T x M1/\DA K tl ρ M1 λxs M2=>DM K r x xs M2 Q):DE K (tBM K T r ta tl) ρ M Q:=λσ H QQ R k=>
 h σ H _ R λv H1 x M1 o1 s1 t1 ⟨h0,h1⟩=>⟨h0 H1 v o1 s1,h1 σ H1 _ (R.step o1 t1) λvs H2 xs M2 o2 s2 t2 h2=>h2 H2 v vs QQ o2 (s1.step t2) s2 λw H3 z M3 o3 s3 t3 q=>k w H3 z M3 o3 s3 ((t1.trans t2).trans t3) q⟩
theorem Z3 {QP:Option Int->Own->Prop}(h:QP none M):DP K SR ρ M QP:=λσ H QQ R k=>k _ H M R.own Step.refl h
theorem Z4 {QP:Option Int->Own->Prop}(h:DE K ta ρ M λx M1=>∃i,x = .d (.int i)/\QP (some i) M1):DP K (aQ ta) ρ M QP:=λσ H QQ R k=>
 h σ H _ R λv H1 x M1 o1 s1 t1 h1=>by obtain⟨i,rfl,q⟩:=h1;unfold SI DV at s1;exact⟨i,s1,k _ H1 M1 o1 t1 q⟩
theorem gM {r:V->Option Int->Option Int->Hp->VK->Prop}{tl th:TO}(h:DE K ta ρ M λx M1=>DP K tl ρ M1 λlo M2=>DP K th ρ M2 λhi M3=>DSl K r x lo hi M3 Q):DE K (tSl r ta tl th) ρ M Q:=λσ H QQ R k=>
 h σ H _ R λv H1 x M1 o1 s1 t1 h1=>h1 σ H1 _ (R.step o1 t1) λlo H2 M2 o2 t2 h2=>h2 σ H2 _ (R.step o2 (t1.trans t2)) λhi H3 M3 o3 t3 h3=>h3 H3 v QQ o3 (s1.step (t2.trans t3)) λw H4 z M4 o4 s4 t4 q=>k w H4 z M4 o4 s4 (((t1.trans t2).trans t3).trans t4) q
variable {D:EndsD}{t u:TS}
theorem SY (h:D.nx ρ M):DSt K aJ ρ M D:=λσ H E R k1 _ _ _=>k1 ρ M σ H R Step.refl h
theorem VU (h:DE K ta ρ M D.rt):DSt K (fJ ta) ρ M D:=λσ H E R _ k2 _ _=>h σ H E.rt R λv H' x M' a b c q=>k2 v H' x M' a b c q
theorem SZ (h:DE K ta ρ M λ_ M1=>D.nx ρ M1):DSt K (aK ta) ρ M D:=λσ H E R k1 _ _ _=>h σ H _ R λv H' x M' a b c q=>k1 ρ M' σ H' (R.step a c) c q
theorem VW {i:Nat}(h:DE K ta ρ M λx M1=>D.nx (ρ.set i (some x)) M1):DSt K (fM ta (KL i)) ρ M D:=λσ H E R k1 _ _ _=>
 h σ H _ R λv H' x M' a b c q=>k1 _ M' _ H' ((R.step a c).set b i) c q
theorem T0 {i:Nat}(h:DE K ta ρ M λx M1=>D.nx (ρ.set i (some x)) M1):DSt K (λD σ H=>ta σ H λv H'=>D.nx (σ.set i (some v)) H') ρ M D:=λσ H E R k1 _ _ _=>
 h σ H _ R λv H' x M' a b c q=>k1 _ M' _ H' ((R.step a c).set b i) c q
theorem VX (h:DSt K t ρ M { D with nx:=λρ1 M1=>DSt K u ρ1 M1 D }):DSt K (bQ t u) ρ M D:=λσ H E R k1 k2 k3 k4=>by refine h σ H { E with nx:=λσ' H'=>u E σ' H' } R (λρ1 M1 σ1 H1 R1 t1 q=>?_) k2 k3 k4;exact q σ1 H1 E R1 (λa b c d e f g=>k1 a b c d e (t1.trans f) g) (λa b c d e f g q=>k2 a b c d e f (t1.trans g) q) (λa b c d e f g=>k3 a b c d e (t1.trans f) g) (λa b c d e f g=>k4 a b c d e (t1.trans f) g)
theorem gN (h:DT K tA ρ M λc M1=>if c=true then DSt K t ρ M1 D else DSt K u ρ M1 D):DSt K (fK tA t u) ρ M D:=λσ H E R k1 k2 k3 k4=>
 h σ H _ R λc H1 M1 o1 t1 h1=>by
   have go:∀{w:TS},DSt K w ρ M1 D->w E σ H1:=λq=>q σ H1 E (R.step o1 t1) (λa b c d e f g=>k1 a b c d e (t1.trans f) g) (λa b c d e f g q=>k2 a b c d e f (t1.trans g) q) (λa b c d e f g=>k3 a b c d e (t1.trans f) g) (λa b c d e f g=>k4 a b c d e (t1.trans f) g);cases c with
   | true=>rw[if_pos rfl] at h1 ⊢;exact go h1
   | false=>rw[if_neg nft] at h1 ⊢;exact go h1
theorem Z5 {D':EndsD}(h:DSt K t ρ M D) (h1:∀ρ' M',D.nx ρ' M'->D'.nx ρ' M') (h2:∀x M',D.rt x M'->D'.rt x M') (h3:∀ρ' M',D.bk ρ' M'->D'.bk ρ' M') (h4:∀ρ' M',D.ct ρ' M'->D'.ct ρ' M'):DSt K t ρ M D':=
 λσ H E R k1 k2 k3 k4=>h σ H E R (λa b c d e f g=>k1 a b c d e f (h1 _ _ g)) (λa b c d e f g q=>k2 a b c d e f g (h2 _ _ q)) (λa b c d e f g=>k3 a b c d e f (h3 _ _ g)) (λa b c d e f g=>k4 a b c d e f (h4 _ _ g))
theorem G7 {i:Nat}{a:Addr}{ds:List PyData}(e:ρ[i]?=some (some (.loc a))) (m:M a=some (.l ds)) (h:DSt K t (ρ.set i (some (.d (.list ds)))) (M.del a) D):DSt K t ρ M D:=λσ H E R k1 k2 k3 k4=>by
 have hs:(M.del a).Sub M:=λb o q=>by
   unfold Own.del at q;by_cases hb:b=a;. rw[if_pos hb] at q;cases q
   . rw[if_neg hb] at q;exact q
 have st:Step K M (M.del a) H H:=⟨BC hs⟩
 obtain⟨v,e1,e2⟩:=R.slot i _ e;obtain⟨vs,q1,q2⟩:=R.own a _ m;have R1:Rel K (M.del a) ρ σ H:=R.step (R.own.sub hs) st;have R2:=R1.set (x:=.d (.list ds)) (v:=v) (by
   unfold SI DV;refine⟨a,vs,e2,.inl ⟨λw=>w (by unfold Own.del;rw[if_pos rfl]),.inl q1⟩,q2.grow (BC hs)⟩) i;have e3:σ.set i (some v)=σ:=by
   apply a9Z;intro j;rw[List.getElem?_set];by_cases au:i=j
   . subst au;rw[if_pos rfl,e1];split;. rfl
     . rename_i hl;rw[a3X (by lia)] at e1;cases e1
   . rw[if_neg au]
 rw[e3] at R2;exact h σ H E R2 (λa b c d e f g=>k1 a b c d e (st.trans f) g) (λa b c d e f g q=>k2 a b c d e f (st.trans g) q) (λa b c d e f g=>k3 a b c d e (st.trans f) g) (λa b c d e f g=>k4 a b c d e (st.trans f) g)
end
end DL
namespace DL
open PySem PySem.Spec L2
section
variable {K:Frg}{ρ:List (Option DS)}{M:Own}{Q:DS->Own->Prop}{H:Hp}
theorem D3 {i:Int}{v:V}(h:SI K H M (.d (.int i)) v):v = .int i:=by unfold SI DV at h;exact h
theorem gQ {i:Bool}{v:V}(h:SI K H M (.d (.bool i)) v):v = .bl i:=by unfold SI DV at h;exact h
theorem BO {i:Str}{v:V}(h:SI K H M (.d (.str i)) v):v = .str i:=by unfold SI DV at h;exact h
theorem dF {v:V}(h:SI K H M (.d .none) v):v = .non:=by unfold SI DV at h;exact h
theorem EQ {i:Int}:SI K H M (.d (.int i)) (.int i):=by unfold SI DV;rfl
theorem AV {i:Bool}:SI K H M (.d (.bool i)) (.bl i):=by unfold SI DV;rfl
theorem G8 {i:Str}:SI K H M (.d (.str i)) (.str i):=by unfold SI DV;rfl
theorem gR {g:Int->Int->Int}{i j:Int}(q:Q (.d (.int (g i j))) M):D2 K (rI0 λi j=>.int (g i j)) (.d (.int i)) (.d (.int j)) M Q:=λH v u QQ oa s1 s2 k=>by rw[D3 s1,D3 s2];exact⟨i,j,rfl,rfl,k _ H _ M oa EQ Step.refl q⟩
theorem gS {g:Int->Int->Bool}{i j:Int}(q:Q (.d (.bool (g i j))) M):D2 K (rI0 λi j=>.bl (g i j)) (.d (.int i)) (.d (.int j)) M Q:=λH v u QQ oa s1 s2 k=>by rw[D3 s1,D3 s2];exact⟨i,j,rfl,rfl,k _ H _ M oa AV Step.refl q⟩
theorem T1 {C:Int->Int->Prop}{g:Int->Int->Int}{i j:Int}(c:C i j) (q:Q (.d (.int (g i j))) M):D2 K (rI C λi j=>.int (g i j)) (.d (.int i)) (.d (.int j)) M Q:=λH v u QQ oa s1 s2 k=>by rw[D3 s1,D3 s2];exact⟨i,j,rfl,rfl,c,k _ H _ M oa EQ Step.refl q⟩
theorem iC {g:Int->Int}{i:Int}(q:Q (.d (.int (g i))) M):D1 K (rU λi=>.int (g i)) (.d (.int i)) M Q:=λH v QQ oa s1 k=>by rw[D3 s1];exact⟨i,rfl,k _ H _ M oa EQ Step.refl q⟩
theorem Z6 {i j:Str}(hz:i.length+j.length<=sizeLine) (q:Q (.d (.str (i++j))) M) :
   D2 K (λx y H Q=>∃i j,x = .str i/\y = .str j/\i.length+j.length<=sizeLine/\Q (.str (i++j)) H) (.d (.str i)) (.d (.str j)) M Q:=λH v u QQ oa s1 s2 k=>by rw[BO s1,BO s2];exact⟨i,j,rfl,rfl,hz,k _ H _ M oa G8 Step.refl q⟩
theorem BQ {neg:Bool}{a b:PyData}(ha:zH a=true) (hb:zH b=true) (q:Q (.d (.bool (if neg then !a5Q a b else a5Q a b))) M):D2 K (UA K neg) (.d a) (.d b) M Q:=λH v u QQ oa s1 s2 k=>
 ⟨M.W,a,b,s1,s2,ha,hb,k _ H _ M oa AV Step.refl q⟩
theorem PQ (x:Str) (ys:List Str):inV (.str x) (ys.map V.str)=decide (x∈ys):=by
 unfold inV;rw[a1K,a6X,decide_eq_true_iff];constructor
 . rintro⟨y,hy,e⟩;obtain⟨z,hz,rfl⟩:=zL.mp hy;have:z=x:=by simpa [eqV] using e
   subst this;exact hz
 . intro h;exact⟨.str x,zL.mpr ⟨x,h,rfl⟩,by simp[eqV]⟩
theorem dG {neg:Bool}{x:Str}{ys:List Str}(q:Q (.d (.bool (if neg then !decide (x∈ys) else decide (x∈ys)))) M):D2 K (rIn K neg) (.d (.str x)) (.d (.list (ys.map .str))) M Q:=λH v u QQ oa s1 s2 k=>by rw[BO s1];unfold SI DV at s2;obtain⟨a,vs,rfl,hl,hd⟩:=s2;have e:=FR hd;subst e;exact⟨a,_,rfl,.inl hl.sq,rfl,by simp[GP],k _ H (.d (.bool (if neg then !decide (x∈ys) else decide (x∈ys)))) M oa (by rw[PQ];exact AV) Step.refl q⟩
theorem VY {W:Addr->Prop}{ds:List PyData}{vs:List V}{i:Int}{d:PyData}(h:DVs K H W ds vs) (e:atI ds i=some d):∃v,atI vs i=some v/\DV K H W d v:=by
 unfold atI at e ⊢;rw[h.length];cases hx:ixN ds.length i with
 | none=>rw[hx] at e;cases e
 | some j=>rw[hx] at e;simpa using h.get' (by simpa using e)
theorem dH {ds:List PyData}{i:Int}{d:PyData}(e:atI ds i=some d) (q:Q (.d d) M):D2 K (cM K) (.d (.list ds)) (.d (.int i)) M Q:=λH v u QQ oa s1 s2 k=>by rw[D3 s2];unfold SI DV at s1;obtain⟨a,vs,rfl,hl,hd⟩:=s1;obtain⟨w,h1,h2⟩:=VY hd e;exact⟨a,vs,i,w,rfl,rfl,hl.sq,h1,k _ H (.d d) M oa h2 Step.refl q⟩
theorem dI {ds:List PyData}{i:Int}{d:PyData}(e:atI ds i=some d) (q:Q (.d d) M):D2 K (cN K) (.d (.tuple ds)) (.d (.int i)) M Q:=λH v u QQ oa s1 s2 k=>by rw[D3 s2];unfold SI DV at s1;obtain⟨a,vs,rfl,hl,hd⟩:=s1;obtain⟨w,h1,h2⟩:=VY hd e;exact⟨a,vs,i,w,rfl,rfl,hl.sq,h1,k _ H (.d d) M oa h2 Step.refl q⟩
theorem dJ {z:Str}{i:Int}{c:Nat}(hz:z.length<=sizeLine) (e:atI z.cps.toList i=some c) (q:Q (.d (.str ⟨#[c]⟩)) M):D2 K cO (.d (.str z)) (.d (.int i)) M Q:=λH v u QQ oa s1 s2 k=>by rw[D3 s2,BO s1];exact⟨z,i,c,rfl,rfl,hz,e,k _ H _ M oa G8 Step.refl q⟩
theorem FA {r r':R2}{x y:DS}(h:D2 K r x y M Q):D2 K (λx y H Q=>r x y H Q\/r' x y H Q) x y M Q:=λH v u QQ oa s1 s2 k=>.inl (h H v u QQ oa s1 s2 k)
theorem EJ {r r':R2}{x y:DS}(h:D2 K r' x y M Q):D2 K (λx y H Q=>r x y H Q\/r' x y H Q) x y M Q:=λH v u QQ oa s1 s2 k=>.inr (h H v u QQ oa s1 s2 k)
theorem dL {as bs:List PyData}(hz:as.length+bs.length<=sizeLine) (q:Q (.d (.list (as++bs))) M):D2 K (λx y H Q=>∃a b xs ys,x = .ref a/\y = .ref b/\SqL K H a xs/\SqL K H b ys/\xs.length+ys.length<=sizeLine/\∀p,H p=none->Q (.ref p) (upd H p (.lst (xs++ys)))) (.d (.list as)) (.d (.list bs)) M Q:=λH v u QQ oa s1 s2 k=>by unfold SI DV at s1 s2;obtain⟨a,vs,rfl,hl,hd⟩:=s1;obtain⟨b,us,rfl,fv,hd2⟩:=s2;refine⟨a,b,vs,us,rfl,rfl,hl.sq,fv.sq,by rw[hd.length,hd2.length];exact hz,λp hp=>?_⟩;have g:Grow K M.W M.W H (upd H p (.lst (vs++us))):=BJ _ hp;refine k _ _ (.d (.list (as++bs))) M (oa.new hp) ?_ ⟨g⟩ q;unfold SI DV;exact⟨p,_,rfl,.inl ⟨λw=>w (oa.none hp),.inl AM⟩,(hd.append hd2).grow g⟩
theorem Z7 {ds:List PyData}(q:Q (.d (.int ds.length)) M):DR K (λxs H Q=>∃x n,xs=[x]/\cD K x H n/\Q (.int (n:Nat)) H) [.d (.list ds)] M Q:=λH vs QQ oa s k=>by obtain⟨v,r,rfl,h1,h2⟩:=s;cases h2;unfold SI DV at h1;obtain⟨a,vs,rfl,hl,hd⟩:=h1;exact⟨_,_,rfl,.inl ⟨vs,hl.sq,rfl⟩,k _ H (.d (.int ds.length)) M oa (by rw[hd.length];exact EQ) Step.refl q⟩
theorem dM {bs:List Bool}(q:Q (.d (.bool (bs.all id))) M):DR K (λxs H Q=>∃(p:Addr) (bs:List Bool),xs=[.ref p]/\SqL K H p (bs.map V.bl)/\Q (.bl (bs.all id)) H) [.d (.list (bs.map .bool))] M Q:=λH vs QQ oa s k=>by obtain⟨v,r,rfl,h1,h2⟩:=s;cases h2;unfold SI DV at h1;obtain⟨a,vs,rfl,hl,hd⟩:=h1;rw[J1 hd] at hl;exact⟨a,bs,rfl,hl.sq,k _ H _ M oa AV Step.refl q⟩
theorem dN {bs:List Bool}(q:Q (.d (.bool (bs.any id))) M):DR K (λxs H Q=>∃(p:Addr) (bs:List Bool),xs=[.ref p]/\SqL K H p (bs.map V.bl)/\Q (.bl (bs.any id)) H) [.d (.list (bs.map .bool))] M Q:=λH vs QQ oa s k=>by obtain⟨v,r,rfl,h1,h2⟩:=s;cases h2;unfold SI DV at h1;obtain⟨a,vs,rfl,hl,hd⟩:=h1;rw[J1 hd] at hl;exact⟨a,bs,rfl,hl.sq,k _ H _ M oa AV Step.refl q⟩
theorem Z8 {z:Str}:DTy K "str" (.d (.str z)) M:=λH v _ s=>by rw[BO s];exact rfl
theorem G9 {a:Addr}{ds:List PyData}(m:M a=some (.l ds)):DTy K "list" (.loc a) M:=λH v oa s=>by unfold SI at s;subst s;obtain⟨vs,h0,hd⟩:=oa a _ m;exact .inl ⟨rfl,vs,SqL.of h0⟩
theorem Z9 {y:Str}{ys:List Str}(hz:(ys.map (·.length)).sum+ys.length*y.length<=16777216) (q:Q (.d (.str (Txt.join y ys))) M):DM K (VS K) (.d (.str y)) [.d (.list (ys.map .str))] M Q:=λH v vs QQ oa s1 s2 k=>by obtain⟨u,r,rfl,h1,h2⟩:=s2;cases h2;rw[BO s1];unfold SI DV at h1;obtain⟨a,us,rfl,hl,hd⟩:=h1;rw[FR hd] at hl;exact⟨y,a,ys,rfl,rfl,hl.sq,hz,k _ H _ M oa G8 Step.refl q⟩
theorem DC {a:Addr}{ds:List PyData}{d:PyData}(m:M a=some (.l ds)) (hz:ds.length < sizeLine) (q:Q (.d .none) (M.put a (.l (ds++[d])))):DM K NZ (.loc a) [.d d] M Q:=λH v vs QQ oa s1 s2 k=>by obtain⟨u,r,rfl,h1,h2⟩:=s2;cases h2;unfold SI at s1;subst s1;obtain⟨us,h0,hd⟩:=oa a _ m;obtain⟨x,y⟩:=N6 oa m (hd.append (DVs.cons h1 DVs.nil));exact⟨a,us,u,rfl,rfl,h0,by rw[hd.length];exact hz,k _ _ (.d .none) _ x (by unfold SI DV;rfl) y q⟩
theorem ZA {z:Str}{lo hi:Option Int}(hz:z.length<=sizeLine) (q:Q (.d (.str (a6V z lo hi))) M):DSl K cY (.d (.str z)) lo hi M Q:=λH v QQ oa s1 k=>by rw[BO s1];exact⟨z,rfl,hz,k _ H _ M oa G8 Step.refl q⟩
def O6 (xs:List PyData) (lo hi:Option Int):List PyData:=(xs.drop (HT.sIx xs.length 0 lo)).take (HT.sIx xs.length xs.length hi - HT.sIx xs.length 0 lo)
theorem VZ {ds:List PyData}{lo hi:Option Int}(q:Q (.d (.list (O6 ds lo hi))) M):DSl K (cR K) (.d (.list ds)) lo hi M Q:=λH v QQ oa s1 k=>by
 unfold SI DV at s1;obtain⟨a,vs,rfl,hl,hd⟩:=s1;refine⟨a,vs,rfl,hl.sq,λp hp=>?_⟩;have g:Grow K M.W M.W H (upd H p (.lst (K2 vs lo hi))):=BJ _ hp;have key:DVs K H M.W (O6 ds lo hi) (K2 vs lo hi):=by unfold O6 K2;rw[hd.length];exact(hd.drop _).take _
 refine k _ _ (.d (.list (O6 ds lo hi))) M (oa.new hp) ?_ ⟨g⟩ q;unfold SI DV;exact⟨p,_,rfl,.inl ⟨λw=>w (oa.none hp),.inl AM⟩,key.grow g⟩
end
end DL
namespace DL
open PySem PySem.Spec L2
structure WD (K:Frg) (J:It) (ds:List PyData) (H1:Hp) (M1:Own):Prop where
 go:∀(i:Nat) H' M',i < ds.length->OA K H' M'->Step K M1 M' H1 H'->J.go i H'
 stop:∀H' M',OA K H' M'->Step K M1 M' H1 H'->J.stop ds.length H'
 yld:∀(i:Nat) H' M' x H2,OA K H' M'->Step K M1 M' H1 H'->i < ds.length->J.yld i H' x H2->OA K H2 M'/\Step K M' M' H' H2/\∃d,ds[i]?=some d/\DV K H2 M'.W d x
def DI (K:Frg) (wi:TI) (ρ:List (Option DS)) (M:Own) (Q:List PyData->Own->Prop):Prop:=∀(σ:St) (H:Hp) (R:It->Hp->Prop),Rel K M ρ σ H->(∀J ds H1 M1,OA K H1 M1->Step K M M1 H H1->WD K J ds H1 M1->Q ds M1->R J H1)->wi σ H R
def DG (K:Frg) (g:TG) (d:PyData) (ρ:List (Option DS)) (M:Own) (P:List (Option DS)->Own->Prop):Prop:=∀(σ:St) (H:Hp) (v:V) (QQ:St->Hp->Prop),Rel K M ρ σ H->DV K H M.W d v->(∀ρ' M' σ' H',Rel K M' ρ' σ' H'->Step K M M' H H'->P ρ' M'->QQ σ' H')->g v σ H QQ
def N7 (g:TG) (T:List Nat):Prop:=∀(v:V) (σ:St) (H:Hp) (QQ:St->Hp->Prop),g v σ H (λσ2 H2=>(∀i,i∉T->σ2[i]?=σ[i]?)->QQ σ2 H2)->g v σ H QQ
section
variable {K:Frg}{ρ:List (Option DS)}{M:Own}{D:EndsD}{tl:TE}{tb:TS}{i:Nat}{QI:List PyData->Own->Prop}{g:TG}{wi:TI}
def ER (lo:Int) (n:Nat):List PyData:=(a0V n).map λ(i:Nat)=>.int (lo+i)
theorem HW {ta:TA}(h:DA K ta ρ M λxs M1=>∃j:Int,xs=[.d (.int j)]/\-(2 ^ 62)<=j/\j < 2 ^ 62/\QI (ER 0 j.toNat) M1):DI K (aL ta) ρ M QI:=λσ H R Rl k=>
 h σ H _ Rl λvs H1 xs M1 o1 s1 t1 ⟨j,e,h1,h2,q⟩=>by
   subst e;obtain⟨v,r,rfl,h3,h4⟩:=s1;cases h4;rw[show v = .int j by unfold SI DV at h3;exact h3];have ac:(ER 0 j.toNat).length=j.toNat:=by simp[ER]
   refine⟨j,rfl,h1,h2,k _ (ER 0 j.toNat) H1 M1 o1 t1 ⟨λi H' M' hi oa st=>?_,λH' M' oa st=>?_,λi H' M' x H2 oa st hi y=>?_⟩ q⟩;. show i < j.toNat;rw[<-ac];exact hi
   . show j.toNat<=(ER 0 j.toNat).length;rw[ac];exact zR _
   . obtain⟨rfl,rfl⟩:=y;refine⟨oa,Step.refl,.int (0+i),?_,by unfold DV;rfl⟩;unfold ER;rw[zF];rw[ac] at hi;simp[hi]
theorem ZB {d:PyData}{P:List (Option DS)->Own->Prop}(h:P (ρ.set i (some (.d d))) M):DG K (KL i) d ρ M P:=λσ H v QQ R dv k=>k _ M _ H (R.set (x:=.d d) dv i) Step.refl h
theorem B7 (i:Nat):N7 (KL i) [i]:=λv σ H QQ h=>h λj hj=>by rw[a9W (by rintro rfl;exact hj (by simp))]
abbrev EndsD.turn (D:EndsD) (P:List (Option DS)->Own->Prop):EndsD:={ nx:=P,ct:=P,bk:=D.nx,rt:=D.rt }
theorem DD (h:DI K wi ρ M λds M1=>∃P:Nat->List (Option DS)->Own->Prop,P 0 ρ M1/\(∀k d ρ' M',ds[k]?=some d->P k ρ' M'->DG K g d ρ' M' λρ2 M2=>DSt K tb ρ2 M2 (D.turn (P (k+1))))/\∀ρ' M',P ds.length ρ' M'->D.nx ρ' M') :
   DSt K (fS wi g tb) ρ M D:=λσ H E R k1 k2 k3 k4=>
 h σ H _ R λJ ds H1 M1 o1 t1 wd ⟨P,p0,pt,pe⟩=>by
   refine⟨λi m σ' H'=>m=ds.length - i/\i<=ds.length/\∃ρ' M',Rel K M' ρ' σ' H'/\Step K M1 M' H1 H'/\P i ρ' M',⟨_,rfl,xU _,ρ,M1,R.step o1 t1,Step.refl,p0⟩,?_⟩;rintro i m σ' H' ⟨rfl,hi,ρ',M',R',st,p⟩;by_cases c_:i < ds.length;. refine .inr ⟨wd.go i H' M' c_ R'.own st,λσ2 H2=>∃ρ2 M2,Rel K M2 ρ2 σ2 H2/\Step K M1 M2 H1 H2/\P (i+1) ρ2 M2,λσ2 H2 ⟨ρ2,M2,a,b,c⟩=>⟨ds.length - (i+1),by omega,rfl,c_,ρ2,M2,a,b,c⟩,λx H2 y=>?_⟩;obtain⟨nr,ef,d,e1,e2⟩:=wd.yld i H' M' x H2 R'.own st c_ y;refine pt i d ρ' M' e1 p σ' H2 x _ (R'.step nr ef) e2 λρ3 M3 σ3 H3 R3 eh b3=>?_;have s3:=(st.trans ef).trans eh;exact b3 σ3 H3 _ R3 (λr m s hh R4 gr q=>⟨r,m,R4,s3.trans gr,q⟩) (λw hh x m a b c q=>k2 w hh x m a b (t1.trans (s3.trans c)) q) (λr m s hh R4 gr q=>k1 r m s hh R4 (t1.trans (s3.trans gr)) q) (λr m s hh R4 gr q=>⟨r,m,R4,s3.trans gr,q⟩)
   . have e:i=ds.length:=by omega
     subst e;exact .inl ⟨wd.stop H' M' R'.own st,k1 ρ' M' σ' H' R' (t1.trans st) (pe ρ' M' p)⟩
def JM (fr:List (Option Nat)) (ρ:List (Option DS)):List (Option DS):=fr.map λo=>o.bind λj=>(ρ[j]?).join
theorem J2 {fr:List (Option Nat)}{α:Type}{ρ:List (Option α)}{i:Nat}{x:α}(h:(fr.map λo=>o.bind λj=>(ρ[j]?).join)[i]?=some (some x)):∃j,fr[i]?=some (some j)/\ρ[j]?=some (some x):=by
 rw[zF] at h;cases hf:fr[i]? with
 | none=>rw[hf] at h;cases h
 | some o=>
   rw[hf] at h;cases o with
   | none=>cases h
   | some j=>
     refine⟨j,rfl,?_⟩;have e2:((ρ[j]?).join)=some x:=Option.some.inj h;cases hs:ρ[j]? with
     | none=>rw[hs] at e2;cases e2
     | some q=>rw[hs] at e2;cases q with
       | none=>cases e2
       | some v'=>cases e2;rfl
theorem Rel.capt {fr:List (Option Nat)}{σ:St}{H:Hp}(R:Rel K M ρ σ H):Rel K M (JM fr ρ) (L2.capt fr σ) H:=by refine⟨R.own,by unfold JM L2.capt;rw[zX,zX],λi x e=>?_⟩;obtain⟨j,e1,e2⟩:=J2 e;obtain⟨v,h1,h2⟩:=R.slot j x e2;refine⟨v,?_,h2⟩;unfold L2.capt;rw[zF,e1];simp[h1]
theorem T2 {fr:List (Option Nat)}{tt:TT}{te:TE}{T:List Nat}{Q:DS->Own->Prop}(ho:N7 g T) (hT:∀i∈T,∀j,fr[i]?≠some (some j)) (h:DI K wi ρ M λds M1=>ds.length < sizeLine/\∀D,M1 D=none->∃P:Nat->List PyData->Own->Prop,P 0 [] (M1.put D (.l []))/\(∀k acc M',P k acc M'->M' D=some (.l acc)/\acc.length<=k) /\(∀k d acc M',ds[k]?=some d->P k acc M'->DG K g d (JM fr ρ) M' λρ2 M2=>DT K tt ρ2 M2 λc M3=>if c=true then DE K te ρ2 M3 λy M4=>∃r,y = .d r/\M4 D=some (.l acc)/\P (k+1) (acc++[r]) (M4.put D (.l (acc++[r]))) else P (k+1) acc M3) /\∀acc M',P ds.length acc M'->Q (.d (.list acc)) (M'.del D)) :
   DE K (N4 fr wi g tt te) ρ M Q:=λσ H QQ R k=>
 h σ H _ R λJ ds H1 M1 o1 t1 wd ⟨hsz,hq⟩=>by
   intro A hA;obtain⟨P,p0,pa,pt,pe⟩:=hq A (o1.none hA);obtain⟨oA,sA⟩:=SW o1 hA (DVs.nil (K:=K) (H:=H1) (W:=M1.W));refine⟨λi m ys H2=>m=ds.length - i/\i<=ds.length/\H2 A=some (.lst ys)/\∃acc M',OA K H2 M'/\Step K M1 M' H1 H2/\P i acc M',⟨_,rfl,xU _,AM,[],_,oA,sA,p0⟩,?_⟩;rintro i m ys H2 ⟨rfl,hi,jp,acc,M',oa,st,p⟩;refine⟨jp,?_⟩;have jq:∀{N:Own},(N.del A).Sub N:=λ{N} b o q=>by
     unfold Own.del at q;by_cases hb:b=A;. rw[if_pos hb] at q;cases q
     . rw[if_neg hb] at q;exact q
   by_cases c_:i < ds.length
   . refine .inr ⟨wd.go i H2 M' c_ oa st,λx H3 y=>?_⟩;obtain⟨kR,eh,d,e1,e2⟩:=wd.yld i H2 M' x H3 oa st c_ y;have Rc:Rel K M' (JM fr ρ) (L2.capt fr σ) H3:=((R.step o1 t1).step kR (st.trans eh)).capt;refine ho _ _ _ _ (pt i d acc M' e1 p (L2.capt fr σ) H3 x _ Rc e2 λρ3 M3 σ3 H4 R3 gr b3 hext=>⟨λi' v' jr=>?_,?_⟩);. obtain⟨j,f1,f2⟩:=J2 jr;rw[hext i' λhm=>hT i' hm j f1];exact jr
     . refine b3 σ3 H4 _ R3 λc H5 M5 o5 eu h5=>?_;have sx:=((st.trans eh).trans gr).trans eu;cases c with
       | false=> rw[if_neg nft] at h5 ⊢;obtain⟨hm,_⟩:=pa _ _ _ h5;obtain⟨vs,q1,q2⟩:=o5 A _ hm;exact⟨vs,ds.length - (i+1),by omega,rfl,c_,q1,acc,M5,o5,sx,h5⟩
       | true=> rw[if_pos rfl] at h5 ⊢;refine h5 σ3 H5 _ (R3.step o5 eu) λy H6 z M6 o6 s6 jY h6=>?_;obtain⟨r,rfl,hm,p'⟩:=h6;obtain⟨vs,q1,q2⟩:=o6 A _ hm;obtain⟨w1,w2⟩:=N6 o6 hm (q2.append (DVs.cons s6 DVs.nil));have ac:acc.length<=i:=(pa _ _ _ p).2;exact⟨vs,q1,by rw[q2.length];omega,ds.length - (i+1),by omega,rfl,c_,AM,_,_,w1,(sx.trans jY).trans w2,p'⟩
   . have e:i=ds.length:=by omega
     subst e;refine .inl ⟨wd.stop H2 M' oa st,?_⟩;obtain⟨hm,_⟩:=pa _ _ _ p;obtain⟨vs,q1,q2⟩:=oa A _ hm;have fm:Step K M' (M'.del A) H2 H2:=⟨BC jq⟩
     refine k _ H2 (.d (.list acc)) (M'.del A) (oa.sub jq) ?_ ((t1.trans st).trans fm) (pe acc M' p);unfold SI DV;exact⟨A,vs,rfl,.inl ⟨λw=>w (by unfold Own.del;rw[if_pos rfl]),.inl q1⟩,q2.grow (BC jq)⟩
theorem B2 {fr:List (Option Nat)}{tt:TT}{te:TE}{T:List Nat}{Q:DS->Own->Prop}(ho:N7 g T) (hT:∀i∈T,∀j,fr[i]?≠some (some j)) (h:DI K wi ρ M λds M1=>ds.length < sizeLine/\∃(c:PyData->Bool) (f:PyData->PyData),(∀d∈ds,∀M',DG K g d (JM fr ρ) M' λρ2 M2=>M2=M'/\DT K tt ρ2 M2 λb M3=>M3=M'/\b=c d/\(c d=true->DE K te ρ2 M3 λy M4=>y = .d (f d)/\M4=M'))/\Q (.d (.list ((ds.filter c).map f))) M1) :
   DE K (N4 fr wi g tt te) ρ M Q:=by
 refine T2 ho hT λσ H R Rl k=>h σ H R Rl λJ ds H1 M1 o1 t1 wd q=>k J ds H1 M1 o1 t1 wd ?_;obtain⟨hsz,c,f,he,q⟩:=q;refine⟨hsz,λA hA=>⟨λk acc M'=>acc=((ds.take k).filter c).map f/\M'=M1.put A (.l acc),⟨by simp,rfl⟩,λk acc M' ⟨e1,e2⟩=>⟨by rw[e2];exact zU,?_⟩,λk d acc M' hd ⟨e1,e2⟩=>?_,λacc M' ⟨e1,e2⟩=>?_⟩⟩;. rw[e1,zX];exact zN (yJ _ _) (by rw[a0J];omega)
 . have hm:d∈ds:=yN hd;intro σ H v QQ R dv kk;refine he d hm M' σ H v QQ R dv λρ' M2 σ' H' R' st ⟨eM,q2⟩=>kk ρ' M2 σ' H' R' st λσ2 H2 QQ2 R2 k2=>?_;refine q2 σ2 H2 QQ2 R2 λb H3 M3 o3 eh ⟨kS,eb,q3⟩=>k2 b H3 M3 o3 eh ?_;have ts:(ds.take (k+1)).filter c=(ds.take k).filter c++(if c d then [d] else []):=take_succ_filter c ds k d hd;cases hb:c d with
   | false=> rw[hb] at eb;subst eb;refine L2.YO ⟨?_,by rw[kS,e2]⟩;rw[ts,hb,e1];simp
   | true=>
     rw[hb] at eb;subst eb;refine L2.YQ ?_;refine SX (q3 hb) λy M4 ⟨ey,e4⟩=>⟨f d,ey,by rw[e4,e2];exact zU,?_,by rw[e4,e2,yI]⟩
     rw[ts,hb,e1];simp
 . rw[e2,yG hA,e1,a2Z];exact q
end
def O7 (N:List Str) (xs:List DS):List (Option DS):=xs.map some++b1J (N.length - xs.length) none
section
variable {P:Program}{w:World}{K:Frg}{mg:Str->Option Value}{base:Heap}
theorem SIs.get {M:Own}{H:Hp}:∀{xs:List DS}{vs:List V}{i:Nat}{x:DS},SIs K H M xs vs->xs[i]?=some x->∃v,vs[i]?=some v/\SI K H M x v
 | [],_,_,_,_,e=>by simp at e
 | d::ds,vs,i,x,⟨v,r,e',h1,h2⟩,e=>by
   subst e';cases i with
   | zero=>simp at e;subst e;exact⟨v,rfl,h1⟩
   | succ i=>simpa using SIs.get h2 (by simpa using e)
theorem UB {M:Own}{H:Hp}{N:List Str}{xs:List DS}{vs:List V}(oa:OA K H M) (h:SIs K H M xs vs):Rel K M (O7 N xs) (L2.FI N vs) H:=by
 have hl:=h.length;refine⟨oa,by unfold O7 L2.FI;simp[hl],λi x e=>?_⟩;unfold O7 at e;by_cases hi:i < xs.length
 . rw[yQ (by simpa using hi),zF] at e;cases q:xs[i]? with
   | none=>rw[q] at e;cases e
   | some y=> rw[q] at e;cases e;obtain⟨v,h1,h2⟩:=h.get q;refine⟨v,?_,h2⟩;unfold L2.FI;rw[yQ (by rw[zX,hl];exact hi),zF,h1];rfl
 . rw[List.getElem?_append_right (by simpa using hi),List.getElem?_replicate] at e;split at e <;> cases e
theorem fnD {x qual:Str}{st:Stmt}{f:Addr}{fd:FuncData}{N ps:List Str}{k:Nat}{S:FSp}(F:Fun K x qual st f fd) (Sc:FnScope N ps (AD st)) (di:∀(cdv:Value) (A:Around) (outer:List Env) (s:Shared) (H:Hp) (E:XK),Room k (A.deeper (PyProof.Rows.envOfC qual (AD st) s.heap.objs.size f cdv)) ->∃t,PSs (RJ CX0 P w K mg base N qual (AD st) f cdv A outer s H E).nox (BZ st) t/\∀xs M,xs.length=ps.length->S.pre xs M->DSt K t (O7 N xs) M { nx:=λ_ M1=>∃M2:Own,M2.Sub M1/\S.post xs M (.d .none) M2,rt:=λy M1=>∃M2:Own,M2.Sub M1/\S.post xs M y M2 }) :
   FnOk P w K mg base CX0 (k+1) f fd ps (spD K ps.length S):=by
 refine F.ok Sc Z1 λcdv A outer s H vs Q E hr h=>?_;obtain⟨t,ht,hq⟩:=di cdv A outer s H E hr;obtain⟨xs,M,hl,oa,si,pre,post⟩:=h;refine⟨t,ht,hq xs M hl pre (L2.FI N vs) H _ (UB oa si) ?_ ?_ (λ_ _ _ _ _ _ z=>z.elim) (λ_ _ _ _ _ _ z=>z.elim)⟩;. rintro ρ' M1 σ' H' R st ⟨M2,hs,p⟩;exact post (.d .none) M2 .non H' p (st.trans ⟨BC hs⟩) (R.own.sub hs) (by unfold SI DV;rfl)
 . rintro v H' y M1 o s1 st ⟨M2,hs,p⟩;exact post y M2 v H' p (st.trans ⟨BC hs⟩) (o.sub hs) (s1.sub hs)
end
end DL
namespace L2
open PySem PySem.Spec PyProof.Rows
section
variable {X:Cx}{tg:Expr}
def PR (K:Frg):R2:=λx y H Q=>(rI0 λi j=>.int (i+j)) x y H Q\/((∃i j,x = .str i/\y = .str j/\i.length+j.length<=sizeLine/\Q (.str (i++j)) H)\/aU K x y H Q)
theorem ZC:OpR X (binaryOp .Add) (PR X.K):=c6.or (RH.or YY)
def W0 (K:Frg):R2:=λx y H Q=>cM K x y H Q\/(cN K x y H Q\/cO x y H Q)
theorem dO:IxR X (W0 X.K):=YI.or (cP.or cQ)
def ZD (K:Frg):V->Option Int->Option Int->Hp->VK->Prop:=λx lo hi H Q=>cR K x lo hi H Q\/cY x lo hi H Q
theorem dP:SlR X (ZD X.K):=YJ.or cZ
def gT:R2:=λx y H Q=>(rI0 λi j=>.bl (decide (i < j))) x y H Q\/∃i j,x = .str i/\y = .str j/\Q (.bl (decide (i.cps.toList < j.cps.toList))) H
theorem W1:OpR X (compareOp .Lt) gT:=fV.or U3
def ZE (K:Frg):R2:=λx y H Q=>(∃i j,x = .str i/\y = .str j/\Q (.bl (!(a7W j i 0 j.length 1).isEmpty)) H)\/rIn K false x y H Q
theorem dQ:OpR X (compareOp .In) (ZE X.K):=U4.or U7
def O8 (K:Frg):R2:=λx y H Q=>(∃i j,x = .str i/\y = .str j/\Q (.bl (!(!(a7W j i 0 j.length 1).isEmpty))) H)\/rIn K true x y H Q
theorem UC:OpR X (compareOp .NotIn) (O8 X.K):=NU.or NY
def ZF (K:Frg) (tl:TE):TI:=λσ H R=>tl σ H λx H1=>(∃a,x = .ref a/\(∃xs,SqL K H1 a xs)/\R (Itl K a) H1)\/(∃a,x = .ref a/\(∃xs,SqT K H1 a xs)/\R (Itt K a) H1)\/∃y,x = .str y/\R (Its y) H1
theorem dR {l:Expr}{tl:TE}(hl:PE X l tl):PI X tg l (ZF X.K tl):=by
 intro pins s σ H R I h;refine thn (hl pins s σ H _ I h) λv s1 ⟨x,H1,I1,r1,q1⟩=>?_;have fp:∀b∈[s1.heap.objs.size],MB X pins H1 b:=λb hb=>by
   have e:b=s1.heap.objs.size:=by simpa using hb
   subst e;exact I1.fpOk (zR _) (I1.hok.fresh (zR _))
 rcases q1 with ⟨a,e,⟨xs,hq⟩,q⟩ | ⟨a,e,⟨xs,hq⟩,q⟩ | ⟨y,e,q⟩
 . subst e;cases r1;obtain⟨ab,rv,p,hz⟩:=I1.list hq;refine wpAny_pyIter_list p.isList ?_;exact⟨s1.heap.objs.size,[s1.heap.objs.size],_,_,H1,rfl,I1.kept (t':=s1.toks) λb o e=>zW _ e,U0 a _,⟨_,yZ _ rfl,rfl,rfl⟩,fp,q⟩
 . subst e;cases r1;obtain⟨ab,rv,p,hz⟩:=I1.tuple hq;refine wpAny_pyIter_tuple (show s1.heap.IsTuple a ab.toArray from p) ?_;exact⟨s1.heap.objs.size,[s1.heap.objs.size],_,_,H1,rfl,I1.kept (t':=s1.toks) λb o e=>zW _ e,RF a _,⟨_,yZ _ rfl,rfl,rfl⟩,fp,q⟩
 . subst e;obtain⟨t,rfl⟩:=r1;cases ha:y.cps.all (· < 128)
   . exact wpAny_pyIter_wide ha ⟨s1.heap.objs.size,[s1.heap.objs.size],_,_,H1,rfl,I1.kept (t':=s1.toks) λb o e=>zW _ e,
       PP s1.heap.objs.size "str_iterator" y t (by decide) (λA hA=>Walks.strWide hA _ y t) (λ_ _ _ _ _ st h=>wpAny_pyIter_striter_wide st h),⟨_,yZ _ rfl,rfl,rfl⟩,fp,q⟩
   . exact wpAny_pyIter_ascii ha ⟨s1.heap.objs.size,[s1.heap.objs.size],_,_,H1,rfl,I1.kept (t':=s1.toks) λb o e=>zW _ e,
       PP s1.heap.objs.size "str_ascii_iterator" y t (by decide) (λA hA=>Walks.strAscii hA _ y t) (λ_ _ _ _ _ st h=>wpAny_pyIter_striter_ascii st h),⟨_,yZ _ rfl,rfl,rfl⟩,fp,q⟩
end
def W3:NameKind->Bool | .free=>true | _=>false
def W4:NameKind->Bool | .cell=>true | _=>false
def T3:NameKind->Bool | .local=>true | _=>false
def W5 (g_:Scope) (ON:List Str) (scope:Scope) (NC:List Str) (fr:List (Option Nat)):Bool:=(match scope.kind with | .function=>true | _=>false)&&scope.names.all (λy=>!W4 y.2) &&
 scope.names.all (λy=>!T3 y.2||(match scope.names.lookup y.1 with | some .local=>true | _=>false)) &&
 scope.names.all (λy=>!W3 y.2||(match g_.names.lookup y.1 with | some .cell=>true | some .free=>true | _=>false)) &&
 fr.length==NC.length &&
 (a0V NC.length).all λi=>match fr[i]?,NC[i]? with
   | some (some j),some x=>ON[j]?==some x&&(match scope.names.lookup x with | some .free=>true | _=>false)&&(match g_.names.lookup x with | some .cell=>true | some .free=>true | _=>false)
   | _,_=>true
theorem CSc.of {X:Cx}{scope:Scope}{NC:List Str}{fr:List (Option Nat)}{g_:Scope}{ON:List Str}(h:W5 g_ ON scope NC fr=true) (e:X.env.scope=g_) (eN:X.N=ON):CSc X scope NC fr:=by
 subst e eN;unfold W5 at h;simp only[a0W,b2W,List.mem_range,beq_iff_eq] at h;obtain⟨⟨⟨⟨⟨h1,h2⟩,h3⟩,h4⟩,h5⟩,h6⟩:=h;refine⟨?_,λy hy e=>?_,λy hy e=>?_,λy hy e=>?_,h5,λi j x e1 e2=>?_⟩;. cases hk:scope.kind <;> rw[hk] at h1 <;> simp at h1 ⊢
 . have:=h2 y hy;rw[e] at this;simp[W4] at this
 . have:=h3 y hy;rw[e] at this;simp only[T3,Bool.not_true,Bool.false_or] at this;cases hl:scope.names.lookup y.1 with
   | none=>rw[hl] at this;cases this
   | some k=>rw[hl] at this;cases k <;> first | rfl | cases this
 . have:=h4 y hy;rw[e] at this;simp only[W3,Bool.not_true,Bool.false_or] at this;cases hl:X.env.scope.names.lookup y.1 with
   | none=>rw[hl] at this;cases this
   | some k=>
     rw[hl] at this;cases k <;> first
       | exact .inl hl
       | exact .inr hl
       | cases this
 . have hi:i < NC.length:=(yT.mp e1).1;have:=h6 i hi;rw[e1,e2] at this;simp only[a0W,beq_iff_eq] at this;obtain⟨⟨q1,q2⟩,q3⟩:=this;refine⟨q1,?_,?_⟩
   . cases hl:scope.names.lookup x with
     | none=>rw[hl] at q2;cases q2
     | some k=>rw[hl] at q2;cases k <;> first | rfl | cases q2
   . cases hl:X.env.scope.names.lookup x with
     | none=>rw[hl] at q3;cases q3
     | some k=>
       rw[hl] at q3;cases k <;> first
         | exact⟨.inr (.inl hl),λz=>by have z':X.env.scope.names.lookup x=some .local:=z;rw[hl] at z';cases z'⟩
         | exact⟨.inr (.inr hl),λz=>by have z':X.env.scope.names.lookup x=some .local:=z;rw[hl] at z';cases z'⟩
         | cases q3
end L2
namespace DL
open PySem PySem.Spec L2
section
variable {K:Frg}{ρ:List (Option DS)}{M:Own}{Q:DS->Own->Prop}{H:Hp}{QI:List PyData->Own->Prop}{tl ta tb:TE}
theorem W6 {i j:Int}(q:Q (.d (.int (i+j))) M):D2 K (PR K) (.d (.int i)) (.d (.int j)) M Q:=FA (gR q)
theorem W7 {i j:Str}(hz:i.length+j.length<=sizeLine) (q:Q (.d (.str (i++j))) M):D2 K (PR K) (.d (.str i)) (.d (.str j)) M Q:=EJ (FA (Z6 hz q))
theorem W8 {a b:List PyData}(hz:a.length+b.length<=sizeLine) (q:Q (.d (.list (a++b))) M):D2 K (PR K) (.d (.list a)) (.d (.list b)) M Q:=EJ (EJ (dL hz q))
theorem AI {ds:List PyData}{i:Int}{d:PyData}(e:atI ds i=some d) (q:Q (.d d) M):D2 K (W0 K) (.d (.list ds)) (.d (.int i)) M Q:=FA (dH e q)
theorem AB {ds:List PyData}{i:Int}{d:PyData}(e:atI ds i=some d) (q:Q (.d d) M):D2 K (W0 K) (.d (.tuple ds)) (.d (.int i)) M Q:=EJ (FA (dI e q))
theorem T4 {z:Str}{i:Int}{c:Nat}(hz:z.length<=sizeLine) (e:atI z.cps.toList i=some c) (q:Q (.d (.str ⟨#[c]⟩)) M):D2 K (W0 K) (.d (.str z)) (.d (.int i)) M Q:=EJ (EJ (dJ hz e q))
theorem W9 {z:Str}{lo hi:Option Int}(hz:z.length<=sizeLine) (q:Q (.d (.str (a6V z lo hi))) M):DSl K (ZD K) (.d (.str z)) lo hi M Q:=λH v QQ oa s1 k=>.inr (ZA hz q H v QQ oa s1 k)
theorem UD {ds:List PyData}{lo hi:Option Int}(q:Q (.d (.list (O6 ds lo hi))) M):DSl K (ZD K) (.d (.list ds)) lo hi M Q:=λH v QQ oa s1 k=>.inl (VZ q H v QQ oa s1 k)
theorem ZG {i j:Int}(q:Q (.d (.bool (decide (i < j)))) M):D2 K gT (.d (.int i)) (.d (.int j)) M Q:=FA (gS q)
theorem ZH {x:Str}{ys:List Str}(q:Q (.d (.bool (decide (x∈ys)))) M):D2 K (ZE K) (.d (.str x)) (.d (.list (ys.map .str))) M Q:=EJ (dG (neg:=false) q)
theorem BK (h:DE K tl ρ M λx M1=>∃ds,x = .d (.list ds)/\QI ds M1):DI K (ZF K tl) ρ M QI:=λσ H R Rl k=>
 h σ H _ Rl λv H1 x M1 o1 s1 t1 ⟨ds,e,q⟩=>by
   subst e;unfold SI DV at s1;obtain⟨a,vs,rfl,hl,hd⟩:=s1;refine .inl ⟨a,rfl,⟨vs,hl.sq⟩,k _ ds H1 M1 o1 t1 ⟨λi H' M' hi oa st=>?_,λH' M' oa st=>?_,λi H' M' x H2 oa st hi y=>?_⟩ q⟩;. exact⟨vs,vs[i]'(by rw[hd.length];exact hi),(hl.grow st.grow).sq,by simp[hd.length,hi]⟩
   . exact⟨vs,(hl.grow st.grow).sq,by rw[hd.length];exact zR _⟩
   . obtain⟨rfl,y⟩:=y;obtain⟨d,e1,e2⟩:=hd.get (y vs (hl.grow st.grow).sq);exact⟨oa,Step.refl,d,e1,e2.grow st.grow⟩
theorem C0 (h:DE K tl ρ M λx M1=>∃ds,x = .d (.tuple ds)/\QI ds M1):DI K (ZF K tl) ρ M QI:=λσ H R Rl k=>
 h σ H _ Rl λv H1 x M1 o1 s1 t1 ⟨ds,e,q⟩=>by
   subst e;unfold SI DV at s1;obtain⟨a,vs,rfl,hl,hd⟩:=s1;refine .inr (.inl ⟨a,rfl,⟨vs,hl.sq⟩,k _ ds H1 M1 o1 t1 ⟨λi H' M' hi oa st=>?_,λH' M' oa st=>?_,λi H' M' x H2 oa st hi y=>?_⟩ q⟩);. exact⟨vs,vs[i]'(by rw[hd.length];exact hi),(hl.grow st.grow).sq,by simp[hd.length,hi]⟩
   . exact⟨vs,(hl.grow st.grow).sq,by rw[hd.length];exact zR _⟩
   . obtain⟨rfl,y⟩:=y;obtain⟨d,e1,e2⟩:=hd.get (y vs (hl.grow st.grow).sq);exact⟨oa,Step.refl,d,e1,e2.grow st.grow⟩
def tyD:PyData->String
 | .none => "NoneType"
 | .bool _ => "bool"
 | .int _ => "int"
 | .str _ => "str"
 | .list _ => "list"
 | .tuple _ => "tuple"
 | .dict _ => "dict"
end
end DL
namespace L2
open PySem PySem.Spec PyProof.Rows
section
variable {X:Cx}
def WA (K:Frg):List V->Hp->VK->Prop:=λxs H Q=>∃(x:V) (T:String) (d:PyData) (W:Addr->Prop) (b:Bool),xs=[x,.ty T]/\DV K H W d x/\PySem.W.kitOne K (.type (DL.tyD d)) (.type T)=some b/\Q (.bl b) H
theorem UE:BP X (.builtin "isinstance") (WA X.K):=by
 intro pins s σ H xs us Q I r h;obtain⟨x,T,d,W,b,rfl,dv,e,q⟩:=h;obtain⟨u,u',rfl,ru,nt⟩:=fW r;cases nt;have fin:∀tk,EP X pins σ Q (.bool b) { s with toks:=tk }:=λtk=>⟨.bl b,H,I.tok _,rfl,q⟩
 cases d with
 | none=>unfold DV at dv;subst dv;exact EM I ru (TyOf.non) e fin
 | bool y=>unfold DV at dv;subst dv;exact EM I ru (TyOf.bl _) e fin
 | int i=>unfold DV at dv;subst dv;exact EM I ru (TyOf.int _) e fin
 | str y=>unfold DV at dv;subst dv;exact EM I ru (TyOf.str _) e fin
 | list ds=> unfold DV at dv;obtain⟨a,vs,rfl,hl,_⟩:=dv;cases ru;obtain⟨ab,rv,⟨o,n,h1,h2,_,_⟩,_⟩:=I.list hl.sq;exact a1Z PySem.W.kitx_list I.kIn ⟨o,h1,h2⟩ e (λz=>nomatch z) fin
 | tuple ds=> unfold DV at dv;obtain⟨a,vs,rfl,hl,_⟩:=dv;cases ru;obtain⟨ab,rv,⟨o,h1,h2,_⟩,_⟩:=I.tuple hl.sq;exact a1Z PySem.W.kitx_tuple I.kIn ⟨o,h1,h2⟩ e (λz=>nomatch z) fin
 | dict kvs=>
   unfold DV at dv;obtain⟨a,vs,rfl,_,hl,_⟩:=dv;rcases hl with hl | ⟨o',hl⟩
   . exact EM I ru (TyOf.dK hl) e fin
   . cases ru;obtain⟨_,_,iU,_,dd⟩:=HU I.hok (.inr ⟨o',hl⟩);exact a1Z PySem.W.kitx_dict I.kIn dd.typeIs e (λz=>nomatch z) fin
end
end L2
namespace DL
open PySem PySem.Spec L2
section
variable {K:Frg}{ρ:List (Option DS)}{M:Own}{Q:DS->Own->Prop}{H:Hp}{ta tb:TE}
theorem WB {d:PyData}{T:String}{b:Bool}(e:PySem.W.kitOne K (.type (tyD d)) (.type T)=some b) (q:Q (.d (.bool b)) M):DR K (WA K) [.d d,.ty T] M Q:=λH vs QQ oa s k=>by obtain⟨v,r,rfl,h1,v2,r2,rfl,h2,h3⟩:=s;cases h3;rw[show v2 = .ty T from h2];exact⟨v,T,d,M.W,b,rfl,h1,e,k _ H _ M oa AV Step.refl q⟩
theorem HX {p:Addr}{ks:List (Key×V)}{kvs:List (PyData×PyData)}(oa:OA K H M) (h:H p=b1K) (hd:DKV K H M.W kvs ks) :
   OA K (upd H p (.dK ks)) (M.put p (.d kvs))/\Step K M (M.put p (.d kvs)) H (upd H p (.dK ks)):=by
 have hM:=oa.none h;have g:Grow K M.W (M.put p (.d kvs)).W H (upd H p (.dK ks)):=⟨λb u e _=>.inl (by rw[AR (BH e h)];exact e),λb w=>by
   by_cases hb:b=p;. subst hb;exact .inr h
   . left;unfold Own.W at w ⊢;rw[yH hb] at w;exact w⟩
 refine⟨λa o e=>?_,⟨g⟩⟩;by_cases ha:a=p;. subst ha;rw[zU] at e;cases e;exact⟨ks,AM,hd.grow g⟩
 . rw[yH ha] at e;have q:=oa a o e;cases o <;> (obtain⟨vs,q1,q2⟩:=q;exact⟨vs,by rw[AR ha];exact q1,q2.grow g⟩)
theorem FB {p:Addr}{ks:List (Key×V)}{kvs:List (PyData×PyData)}{o:MO}(oa:OA K H M) (h:M p=some o) (hd:DKV K H M.W kvs ks) :
   OA K (upd H p (.dK ks)) (M.put p (.d kvs))/\Step K M (M.put p (.d kvs)) H (upd H p (.dK ks)):=by
 have hw:∀b,(M.put p (.d kvs)).W b->M.W b:=λb w=>by
   unfold Own.W at w ⊢;by_cases hb:b=p;. subst hb;rw[h];simp
   . rw[yH hb] at w;exact w
 have g:Grow K M.W (M.put p (.d kvs)).W H (upd H p (.dK ks)):=⟨λb u e nw=>.inl (by
   rw[AR (by rintro rfl;exact nw (by unfold Own.W;rw[h];simp))];exact e),λb w=>.inl (hw b w)⟩
 refine⟨λa o e=>?_,⟨g⟩⟩;by_cases ha:a=p;. subst ha;rw[zU] at e;cases e;exact⟨ks,AM,hd.grow g⟩
 . rw[yH ha] at e;have q:=oa a o e;cases o <;> (obtain⟨vs,q1,q2⟩:=q;exact⟨vs,by rw[AR ha];exact q1,q2.grow g⟩)
end
structure Has (P:Program) (w:World) (K:Frg) (mg:Str->Option Value) (base:Heap) (x:Str) (k:Nat) (ps:List Str) (S:FSp):Prop where
 ex:∃f fd,FnOk P w K mg base CX0 k f fd ps (spD K ps.length S)/\mg x=some (.ref f)/\a7J K (.ref f)=true/\Binds K fd ps []
theorem WC {X:Cx}{x:Str}{k:Nat}{ps:List Str}{S:FSp}{e:Expr}{es:List Expr}{t:TA}{p pos:Pos}(h:Has X.prog X.w X.K X.mg X.base x k ps S) (hr:Room k X.A) (hg:Gl X x) (ha:PA X (e::es) t) (gj:(x==("__debug__":Str))=false:=by decide) (he:starEach (e::es) X.env=(false,eval e X.env)::starEach es X.env:=by rfl) (ff:(backTo pos (starEach es X.env)).any (·.1)=false:=by rfl) :
   PE X (.Call (.Name x p) (e::es) [] pos) (SO (spD X.K ps.length S) [] E0 t):=by obtain⟨f,fd,F,hm,hk,hb⟩:=h.ex;exact YD F hr hg hm hk hb .nil gB ha gj he ff
section
variable {X:Cx}{K:Frg}
theorem kIx (h:X.K=K):IxR X (W0 K):=h▸dO
theorem kIn (h:X.K=K):OpR X (compareOp .In) (ZE K):=h▸dQ
theorem dS (h:X.K=K):OpR X (compareOp .NotIn) (O8 K):=h▸UC
theorem kEq (h:X.K=K) (hu:X.A.units+64 < cLine):OpR X (compareOp .Eq) (UA K false):=h▸d0 hu
theorem kNe (h:X.K=K) (hu:X.A.units+64 < cLine):OpR X (compareOp .NotEq) (UA K true):=h▸d4 hu
def gU (K:Frg):List V->Hp->VK->Prop:=λxs H Q=>∃x n,xs=[x]/\cD K x H n/\Q (.int (n:Nat)) H
def aW (K:Frg):List V->Hp->VK->Prop:=λxs H Q=>∃(p:Addr) (bs:List Bool),xs=[.ref p]/\SqL K H p (bs.map V.bl)/\Q (.bl (bs.all id)) H
def aX (K:Frg):List V->Hp->VK->Prop:=λxs H Q=>∃(p:Addr) (bs:List Bool),xs=[.ref p]/\SqL K H p (bs.map V.bl)/\Q (.bl (bs.any id)) H
theorem iD (h:X.K=K):BP X (.builtin "len") (gU K):=h▸VE
theorem iE (h:X.K=K) (hc:X.calm=true):BP X (.builtin "all") (aW K):=h▸VQ hc
theorem iF (h:X.K=K) (hc:X.calm=true):BP X (.builtin "any") (aX K):=h▸VR hc
theorem iG (h:X.K=K):BP X (.builtin "isinstance") (WA K):=h▸UE
theorem gV (h:X.K=K):MtR X "str.join" (VS K):=h▸YX
theorem gW {tg l:Expr}{tl:TE}(h:X.K=K) (hl:PE X l tl):PI X tg l (ZF K tl):=h▸dR hl
theorem gX {P:Program}{w:World}{mg:Str->Option Value}{base:Heap}{x:Str}{k:Nat}{ps:List Str}{S:FSp}{e:Expr}{es:List Expr}{t:TA}{p pos:Pos}(hK:X.K=K) (hP:X.prog=P) (hw:X.w=w) (jt:X.mg=mg) (ju:X.base=base) (h:Has P w K mg base x k ps S) (hr:Room k X.A) (hg:Gl X x) (ha:PA X (e::es) t) (gj:(x==("__debug__":Str))=false:=by decide) (he:starEach (e::es) X.env=(false,eval e X.env)::starEach es X.env:=by rfl) (ff:(backTo pos (starEach es X.env)).any (·.1)=false:=by rfl) :
   PE X (.Call (.Name x p) (e::es) [] pos) (SO (spD K ps.length S) [] E0 t):=by subst hK hP hw jt ju;exact WC h hr hg ha gj he ff
variable {o e:Expr}{es:List Expr}{to:TE}{t:TA}{name:Str}{apos ah:Pos}{T id:String}{r:V->List V->Hp->VK->Prop}
theorem kBm (h:X.K=K) (pa:PlainAttrs T) (slot:Slot T name id) (je:typeOf (.builtin id)=pure (.type "method_descriptor")) (hm:MtR X id r) (ho:PE X o to) (ha:PA X (e::es) t) (fo:attributeBase o name X.env (eval o X.env)=eval o X.env:=by rfl)
   (iw:((backTo ah (starEach (e::es) X.env)).all (λx=>!x.1)&&(backToKw ah (keywordEach [] X.env)).all (λx=>x.1.isSome)
     && decide ((e::es).length+([]:List Keyword).length+(if ([]:List Keyword).isEmpty then 0 else 1) < 30))=true:=by rfl)
   (fq:(apos.endLine==ah.line)=true:=by rfl) (hs:starEach (e::es) X.env=(false,eval e X.env)::starEach es X.env:=by rfl) (du:(backTo ah (starEach es X.env)).any (·.1)=false:=by rfl) :
   PE X (.Call (.Attribute o name apos) (e::es) [] ah) (tBM K T r to t):=h▸g5 pa slot je hm ho ha fo iw fq hs du
end
section
variable {K:Frg}{M:Own}{Q:DS->Own->Prop}
theorem HY {ds:List PyData}(q:Q (.d (.int ds.length)) M):DR K (gU K) [.d (.list ds)] M Q:=Z7 q
theorem dU {bs:List Bool}(q:Q (.d (.bool (bs.all id))) M):DR K (aW K) [.d (.list (bs.map .bool))] M Q:=dM q
theorem dW {bs:List Bool}(q:Q (.d (.bool (bs.any id))) M):DR K (aX K) [.d (.list (bs.map .bool))] M Q:=dN q
end
end DL
namespace L2
open PySem PySem.Spec PyProof.Rows
section
variable {X:Cx}
theorem T5:∀{ab:List Value}{ss:List Str},StrsAre ab ss->Vals (ss.map V.str) ab
 | _,_,.nil=>.nil
 | _,_,.cons y t r=>.cons ⟨t,rfl⟩ (T5 r)
def WE (K:Frg):List V->Hp->VK->Prop:=λxs H Q=>∃(p:Addr) (ss:List Str),xs=[.ref p]/\SqL K H p (ss.map V.str)/\ss.length < 64/\∀(av:List Str) (q:Addr),av.Perm ss->sortedS av=true->H q=none->Q (.ref q) (upd H q (.lst (av.map V.str)))
theorem RQ:BP X (.builtin "sorted") (WE X.K):=by intro pins s σ H xs us Q I r h;obtain⟨p,ss,rfl,hp,bi,q⟩:=h;obtain⟨u,rfl,ru⟩:=GO r;cases ru;obtain⟨ab,rv,pl,hz⟩:=I.list hp;have hS:=K9 rv;have el:=rv.length;rw[zX] at el;refine sorted_strs pl.isList hS (by lia) λout av h1 h2 h3=>?_;obtain⟨e,he⟩:=sortedAll_at s.heap ab out;have hn:H (s.heap.objs.size+1)=none:=I.hok.fresh (b0W _);have ac:=h2.length_eq;refine⟨.ref (s.heap.objs.size+1),_,I.laid (t':=s.toks) (o:=.lst (av.map V.str)) (λb o eb=>sortedAll_old eb) (b0W _) ?_,rfl,q av _ h2 h3 hn⟩;refine⟨by rw[zX,ac];exact zN (xT bi) (by decide),out.toList,e,T5 h1,?_⟩;have h_:=he;simpa [seqObj] using h_
end
end L2
namespace DL
open PySem PySem.Spec L2
section
variable {X:Cx}{K:Frg}
def PU (K:Frg):List V->Hp->VK->Prop:=λxs H Q=>∃p ys,xs=[.ref p]/\((SqL K H p ys/\∀l,H l=none->Q (.ref l) (upd H l (.tup ys)))\/(SqT K H p ys/\Q (.ref p) H))
theorem dX (h:X.K=K):BP X (.type "tuple") (PU K):=h▸MD
end
section
variable {K:Frg}{M:Own}{Q:DS->Own->Prop}{ρ:List (Option DS)}{H:Hp}
theorem GA {ds:List PyData}(q:Q (.d (.tuple ds)) M):DR K (PU K) [.d (.list ds)] M Q:=λH vs QQ oa s k=>by obtain⟨v,r,rfl,h1,h2⟩:=s;cases h2;unfold SI DV at h1;obtain⟨a,vs,rfl,hl,hd⟩:=h1;refine⟨a,vs,rfl,.inl ⟨hl.sq,λp hp=>?_⟩⟩;have g:Grow K M.W M.W H (upd H p (.tup vs)):=BJ _ hp;refine k _ _ (.d (.tuple ds)) M (oa.new hp) ?_ ⟨g⟩ q;unfold SI DV;exact⟨p,vs,rfl,.inl ⟨λw=>w (oa.none hp),.inl AM⟩,hd.grow g⟩
theorem FS {W:Addr->Prop}:∀{bs:List Str},DVs K H W (bs.map a0Z) (bs.map V.str)
 | []=>DVs.nil
 | b::bs=>DVs.cons (by unfold DV;rfl) FS
def O9:PyData->Bool | .none=>true | _=>false
theorem dY {d:PyData}(q:Q (.d (.bool (O9 d))) M):D2 K (λx y H Q=>y = .non/\Q (.bl (decide (x = .non))) H) (.d d) (.d .none) M Q:=λH v u QQ oa s1 s2 k=>by
 refine⟨dF s2,k _ H (.d (.bool (O9 d))) M oa ?_ Step.refl q⟩;cases d <;> unfold SI DV at s1;. rw[s1];exact AV
 . rw[s1];exact AV
 . rw[s1];exact AV
 . rw[s1];exact AV
 . obtain⟨a,_,rfl,_⟩:=s1;exact AV
 . obtain⟨a,_,rfl,_⟩:=s1;exact AV
 . obtain⟨a,_,rfl,_⟩:=s1;exact AV
end
def DGs (K:Frg) (g:TGs) (ds:List PyData) (ρ:List (Option DS)) (M:Own) (P:List (Option DS)->Own->Prop):Prop:=∀(σ:St) (H:Hp) (vs:List V) (QQ:St->Hp->Prop),Rel K M ρ σ H->DVs K H M.W ds vs->(∀ρ' M' σ' H',Rel K M' ρ' σ' H'->Step K M M' H H'->P ρ' M'->QQ σ' H')->g vs σ H QQ
section
variable {K:Frg}{M:Own}{ρ:List (Option DS)}{P:List (Option DS)->Own->Prop}
theorem ZI (h:P ρ M):DGs K bS [] ρ M P:=λσ H vs QQ R hd k=>by unfold DVs at hd;subst hd;exact⟨rfl,k ρ M σ H R Step.refl h⟩
theorem WF {i:Nat}{g:TGs}{d:PyData}{ds:List PyData}(h:DGs K g ds (ρ.set i (some (.d d))) M P):DGs K (VA (KL i) g) (d::ds) ρ M P:=λσ H vs QQ R hd k=>by unfold DVs at hd;obtain⟨v,r,rfl,h1,h2⟩:=hd;exact⟨v,r,rfl,h (σ.set i (some v)) H r QQ (R.set (x:=.d d) h1 i) h2 k⟩
theorem dZ {n:Nat}{g:TGs}{ds:List PyData}(hn:ds.length=n) (h:DGs K g ds ρ M P):DG K (YA K n g) (.tuple ds) ρ M P:=λσ H v QQ R dv k=>by unfold DV at dv;obtain⟨a,vs,rfl,hl,hd⟩:=dv;exact⟨a,vs,rfl,hl.sq,by rw[hd.length];exact hn,h σ H vs QQ R hd k⟩
def ZJ (g:TGs) (T:List Nat):Prop:=(∀(vs:List V) (σ:St) (H:Hp) (Q Q':St->Hp->Prop),(∀a b,Q a b->Q' a b)->g vs σ H Q->g vs σ H Q') /\(∀(vs:List V) (σ:St) (H:Hp) (QQ:St->Hp->Prop),g vs σ H QQ->g vs σ H λσ2 H2=>(∀i,i∉T->σ2[i]?=σ[i]?)/\QQ σ2 H2)
theorem e6:ZJ bS []:=⟨λvs σ H Q Q' m ⟨e,h⟩=>⟨e,m _ _ h⟩,λvs σ H QQ ⟨e,h⟩=>⟨e,λ_ _=>rfl,h⟩⟩
theorem KB {i:Nat}{g:TGs}{T:List Nat}(hg:ZJ g T):ZJ (VA (KL i) g) (i::T):=by refine⟨λvs σ H Q Q' m ⟨v,r,e,h⟩=>⟨v,r,e,hg.1 r _ H Q Q' m h⟩,λvs σ H QQ ⟨v,r,e,h⟩=>⟨v,r,e,?_⟩⟩;refine hg.1 r _ H _ _ (λσ2 H2 ⟨h1,h2⟩=>⟨λj hj=>?_,h2⟩) (hg.2 r (σ.set i (some v)) H QQ h);rw[h1 j λz=>hj (yV _ z),a9W (by rintro rfl;exact hj a1Q)]
theorem e7 {n:Nat}{g:TGs}{T:List Nat}(hg:ZJ g T):N7 (YA K n g) T:=λv σ H QQ ⟨a,xs,e,hs,hl,h⟩=>
 ⟨a,xs,e,hs,hl,hg.1 xs σ H _ _ (λσ2 H2 ⟨h1,h2⟩=>h2 h1) (hg.2 xs σ H _ h)⟩
end
end DL
namespace HT
open PySem PySem.Spec PyProof.Rows
section
variable {prog:Program}{w:World}{A:Around}{E:Value->Shared->Prop}{s:Shared}
theorem getItem_tuple_whole {t sl:Addr}{items:Array Value}{vl vu:Value}{lo hi:Option Int}{Q:Value->Shared->Prop}(ht:IsTup s.heap t items) (hs:s.heap.IsSliceOf sl vl vu .none) (pl:IsPart vl lo) (pu:IsPart vu hi) (hw:sIx items.size 0 lo=0/\sIx items.size items.size hi=items.size) (h:Q (.ref t) s):wpAny (model prog w) A (getItem (.ref t) (.ref sl)) Q E s:=by
 obtain⟨os,ir,jQ,jd⟩:=id hs;have k7:s.TypeIs (.ref sl) "slice" := ⟨os,ir,jQ⟩
 unfold getItem;try with_reducible refine wpAny_holding ?_
 first | refine zZ (zY ?_) | skip
 refine zZ (wpAny_sequenceKey ht.typeIs (by decide) ?_);refine zZ (wpAny_callSpecial?_slot (name:=a0Q "__getitem__") ht.typeIs a4K (wpAny_call_entry a4K ht.typeIs entry_tuple_getitem ?_ (args_tuple_getitem _ _)));show wpAny _ _ (Builtin.Tuple.tupleItemsOf (.ref t) >>= _) _ _ s;refine zZ (tupleItemsOf_ ht ?_);refine zZ (wpAny_typeOf k7 ?_);rw[if_pos (by decide)];refine zZ (EO hs pl pu ?_);have iu:((((sIx items.size 0 lo:Nat):Int)==0&&(1:Int)==1&&(sIx items.size items.size hi - sIx items.size 0 lo)==items.size)=true):=by rw[hw.1,hw.2];simp
 show wpAny _ _ (if (((sIx items.size 0 lo:Nat):Int)==0&&(1:Int)==1&&(sIx items.size items.size hi - sIx items.size 0 lo)==items.size)=true then _ else _) _ _ s;rw[if_pos iu];refine zZ (m:=Builtin.Tuple.tupleIsExact _) (zZ (wpAny_typeOf ht.typeIs (zY ?_)));show wpAny _ _ (if true=true then _ else _) _ _ s;rw[if_pos rfl];first
   | exact zZ (wpAny_rule (zZ (zY ⟨_,rfl,zY h⟩)))
   | exact zZ (wpAny_rule (zY ⟨_,rfl,zY h⟩))
   | exact zZ (wpAny_rule (zZ (zY (zY ⟨_,rfl,zY h⟩))))
end
end HT
namespace L2
open PySem PySem.Spec PyProof.Rows
section
variable {X:Cx}
def aY (K:Frg):V->Option Int->Option Int->Hp->VK->Prop:=λx lo hi H Q=>∃a xs,x = .ref a/\SqT K H a xs/\(K2 xs lo hi=xs->Q (.ref a) H)/\∀p,H p=none->Q (.ref p) (upd H p (.tup (K2 xs lo hi)))
theorem ZK:SlR X (aY X.K):=by
 intro pins s σ H x v vl vu lo hi sl Q I rx hs pl pu h;obtain⟨a,xs,rfl,hx,q1,q2⟩:=h;cases rx;obtain⟨ab,r,ht,hz⟩:=I.tuple hx;have ac:ab.toArray.size=xs.length:=by rw[zJ];exact r.length.symm
 by_cases hw:HT.sIx xs.length 0 lo=0/\HT.sIx xs.length xs.length hi=xs.length;. refine⟨"tuple", _,PyProof.Rows.slot_tuple_getitem.lookup,ht.typeIs,?_⟩;refine HT.getItem_tuple_whole ht hs pl pu (by rw[ac];exact hw) ⟨.ref a,H,I,rfl,q1 ?_⟩;unfold K2;rw[hw.1,hw.2];simp
 . exact cL pins s σ H (.ref a) (.ref a) vl vu lo hi sl Q I rfl hs pl pu ⟨a,xs,rfl,hx,hw,q2⟩
def RR (K:Frg):R2:=λx y H Q=>∃a b xs ys,x = .ref a/\y = .ref b/\SqT K H a xs/\SqT K H b ys/\xs.length+ys.length<=sizeLine /\(xs=[]->Q (.ref b) H)/\(ys=[]->Q (.ref a) H)/\(∀p,H p=none->Q (.ref p) (upd H p (.tup (xs++ys))))
theorem WG:OpR X (binaryOp .Add) (RR X.K):=by
 intro pins s σ H x y v u Q I rx ry h;obtain⟨t,b,xs,ys,rfl,rfl,hx,hy,hz,q0,q1,q2⟩:=h;cases rx;cases ry;obtain⟨ab,r,ht,_⟩:=I.tuple hx;obtain⟨az,r2,hb,_⟩:=I.tuple hy;have e1:=r.length;have e2:=r2.length;obtain⟨⟨cls,dd,data,sl⟩,ho,hc,n,hd⟩:=id ht;obtain⟨⟨jm,gp,data2,gq⟩,ho2,hc2,n2,hd2⟩:=id hb;dsimp only at hc hd hc2 hd2;subst hc hd hc2 hd2;have e:ab.toArray++az.toArray=(ab++az).toArray:=by simp
 by_cases hv:ab=[]
 . have jv:xs=[]:=by cases r with | nil=>rfl | cons _ _=>cases hv
   exact concat_meets ⟨_,ho,rfl⟩ ⟨_,ho2,rfl⟩ noFill_tuple_add seq_tuple_add a3K a3J (a3Q _ _) (tuple_addW0 t b ab.toArray az.toArray n n2 dd gp sl gq (by simp[hv])) ⟨ho,ho2,⟨.ref b,H,I,rfl,q0 jv⟩⟩
 . by_cases hw:az=[]
   . have de:ys=[]:=by cases r2 with | nil=>rfl | cons _ _=>cases hw
     exact concat_meets ⟨_,ho,rfl⟩ ⟨_,ho2,rfl⟩ noFill_tuple_add seq_tuple_add a3K a3J (a3Q _ _) (tuple_addW1 t b ab.toArray az.toArray n n2 dd gp sl gq (by simpa using hv) (by simp[hw])) ⟨ho,ho2,⟨.ref t,H,I,rfl,q1 de⟩⟩
   . refine concat_meets ⟨_,ho,rfl⟩ ⟨_,ho2,rfl⟩ noFill_tuple_add seq_tuple_add a3K a3J (a3Q _ _) (tuple_addW2 t b ab.toArray az.toArray n n2 dd gp sl gq (by simpa using hv) (by simpa using hw) (by rw[zJ,zJ];lia)) ⟨ho,ho2,?_⟩;rw[e];refine⟨.ref s.heap.objs.size,_,I.laid (t':=s.toks) (o:=.tup (xs++ys)) (λb ob q=>zW _ q) (zR _) ?_,rfl,q2 _ I.fresh⟩;exact⟨by rw[yY];exact hz,ab++az,r.append r2,IsTup.new _ _⟩
end
end L2
namespace DL
open PySem PySem.Spec L2
section
variable {X:Cx}{K:Frg}
def PV (K:Frg):R2:=λx y H Q=>PR K x y H Q\/RR K x y H Q
theorem gY (h:X.K=K):OpR X (binaryOp .Add) (PV K):=h▸ZC.or WG
def e8 (K:Frg):V->Option Int->Option Int->Hp->VK->Prop:=λx lo hi H Q=>ZD K x lo hi H Q\/aY K x lo hi H Q
theorem iH (h:X.K=K):SlR X (e8 K):=h▸dP.or ZK
end
section
variable {K:Frg}{M:Own}{Q:DS->Own->Prop}
theorem WH {i j:Int}(q:Q (.d (.int (i+j))) M):D2 K (PV K) (.d (.int i)) (.d (.int j)) M Q:=FA (W6 q)
theorem WI {i j:Str}(hz:i.length+j.length<=sizeLine) (q:Q (.d (.str (i++j))) M):D2 K (PV K) (.d (.str i)) (.d (.str j)) M Q:=FA (W7 hz q)
theorem WJ {a b:List PyData}(hz:a.length+b.length<=sizeLine) (q:Q (.d (.list (a++b))) M):D2 K (PV K) (.d (.list a)) (.d (.list b)) M Q:=FA (W8 hz q)
theorem BR {as bs:List PyData}(hz:as.length+bs.length<=sizeLine) (q:Q (.d (.tuple (as++bs))) M):D2 K (PV K) (.d (.tuple as)) (.d (.tuple bs)) M Q:=EJ λH v u QQ oa s1 s2 k=>by
 have iV:=s1;have kT:=s2;unfold SI DV at s1 s2;obtain⟨a,vs,rfl,hl,hd⟩:=s1;obtain⟨b,us,rfl,fv,hd2⟩:=s2;refine⟨a,b,vs,us,rfl,rfl,hl.sq,fv.sq,by rw[hd.length,hd2.length];exact hz,λe=>?_,λe=>?_,λp hp=>?_⟩
 . have:as=[]:=by have:=hd.length;rw[e] at this;exact List.length_eq_zero_iff.mp this.symm
   subst this;exact k _ H (.d (.tuple ([]++bs))) M oa kT Step.refl q
 . have:bs=[]:=by have:=hd2.length;rw[e] at this;exact List.length_eq_zero_iff.mp this.symm
   subst this;rw[a1W] at q;exact k _ H (.d (.tuple as)) M oa iV Step.refl q
 . have g:Grow K M.W M.W H (upd H p (.tup (vs++us))):=BJ _ hp;refine k _ _ (.d (.tuple (as++bs))) M (oa.new hp) ?_ ⟨g⟩ q;unfold SI DV;exact⟨p,_,rfl,.inl ⟨λw=>w (oa.none hp),.inl AM⟩,(hd.append hd2).grow g⟩
theorem PX {z:Str}{lo hi:Option Int}(hz:z.length<=sizeLine) (q:Q (.d (.str (a6V z lo hi))) M):DSl K (e8 K) (.d (.str z)) lo hi M Q:=λH v QQ oa s1 k=>.inl (W9 hz q H v QQ oa s1 k)
theorem UF {ds:List PyData}{lo hi:Option Int}(q:Q (.d (.list (O6 ds lo hi))) M):DSl K (e8 K) (.d (.list ds)) lo hi M Q:=λH v QQ oa s1 k=>.inl (UD q H v QQ oa s1 k)
end
theorem e9 {X:Cx}{K:Frg}{pos:Pos}{es:List Expr}{k:Nat}{t:TGs}{n:Nat}(hK:X.K=K) (hc:X.calm=true) (h:PGs X es t) (hn:(assignEach es X.env).length=n:=by rfl) (fm:(assignEach es X.env).findIdx? (·.1)=none:=by rfl):PG X (.Tuple es k pos) (YA K n t):=hK▸bT hc h hn fm
end DL
namespace DL
open PySem PySem.Spec L2
def KZ (c:Nat):Bool:=decide (97<=c)&&decide (c<=122)
section
variable {K:Frg}{ρ:List (Option DS)}{M:Own}{D:EndsD}{t u:TS}
theorem OB (P:List (Option DS)->Own->Prop) (h:DSt K t ρ M { D with nx:=P }) (h2:∀ρ1 M1,P ρ1 M1->DSt K u ρ1 M1 D):DSt K (bQ t u) ρ M D:=
 VX (Z5 h (λρ' M' p=>h2 ρ' M' p) (λ_ _ q=>q) (λ_ _ q=>q) (λ_ _ q=>q))
end
def HZ (z:Str):Prop:=1<=z.cps.size/\z.cps.size<=8/\∀c∈z.cps.toList,KZ c=true
theorem p64:(2:Int) ^ 64=18446744073709551616:=by decide
theorem OC {i j:Int}(h1 : -1000000000000000 < i) (h2:i < 1000000000000000):CMul i j:=by refine .inl ⟨?_,?_⟩ <;> rw[p64] <;> lia
theorem WK {i j:Int}(h1 : -1000000000000000 < j) (h2:j < 1000000000000000):CMul i j:=by refine .inr ⟨?_,?_⟩ <;> rw[p64] <;> lia
theorem iI {xs:List DS}{ds:List PyData}{Q:List PyData->Prop}(e:ME xs=some ds) (h:ds.length<=sizeLine) (q:Q ds):∃ds,ME xs=some ds/\ds.length<=sizeLine/\Q ds:=⟨ds,e,h,q⟩
theorem ZL {x y:Str}(h:x.cps.toList=y.cps.toList):x=y:=by obtain⟨⟨a⟩⟩:=x;obtain⟨⟨b⟩⟩:=y;simp at h;subst h;rfl
theorem L0:∀(cs:List Nat) (acc:Array Nat),((cs.map λc=>(⟨#[c]⟩:Str)).foldl (λacc p=>acc++(a0Q "").cps++p.cps) acc)=acc++cs.toArray
 | [],acc=>by simp
 | c::cs,acc=>by
   rw[zI,List.foldl_cons,L0 cs];have e:(a0Q "").cps=#[]:=by decide +kernel
   rw[e];apply Array.ext';simp
theorem RS (cs:List Nat):Txt.join (a0Q "") (cs.map λc=>(⟨#[c]⟩:Str))=⟨cs.toArray⟩:=by
 unfold Txt.join Builtin.Str.glued;cases cs with
 | nil=>rfl
 | cons c cs=> simp only[zI,List.drop_succ_cons,List.drop_zero,List.headD_cons];rw[L0];congr 1;apply Array.ext';simp
theorem WL (n len:Nat):Builtin.Str.strSliceIndices none (some (n:Int)) 1 len=a0V (min n len):=by
 unfold Builtin.Str.strSliceIndices sliceRange;have h1:¬((n:Int) < 0):=by lia
 have h2:max 0 (min (n:Int) (len:Int))=((min n len:Nat):Int):=by lia
 simp only[show(1:Int) > 0 by decide,if_true,h1,if_false,h2];have h3:(if (0:Int) < ((min n len:Nat):Int) then (((min n len:Nat):Int) - 0+1 - 1)/1 else 0).toNat=min n len:=by
   split;. rw[Int.ediv_one];lia
   . lia
 rw[h3];apply a9Z;intro i;rw[zF];by_cases h:i < min n len;. simp[yA h]
 . simp[a3X (show(a0V (min n len)).length<=i by simp;lia)]
theorem UG (l:List Nat) (a:Array Nat) (m:Nat) (h:a.toList=l):(a0V m).filterMap (λi=>a[i]?)=l.take m:=by
 induction m with
 | zero=>simp
 | succ m ih=>
   rw[List.range_succ,List.filterMap_append,ih,a3V];have e:a[m]?=l[m]?:=by rw[<-h];simp
   simp only[a8X,List.filterMap_nil,e];cases l[m]? <;> simp
theorem RT (z:Str) (n:Nat):(a6V z none (some (n:Int))).cps.toList=z.cps.toList.take n:=by
 unfold a6V;rw[WL];have hl:z.length=z.cps.toList.length:=by simp[Str.length]
 split;. rename_i h;simp only[xZ,beq_self_eq_true,b2Z,beq_iff_eq] at h;rw[List.take_of_length_le (by rw[<-hl];lia)]
 . show(List.filterMap _ _).toArray.toList=_;rw[UG z.cps.toList z.cps _ rfl,List.toList_toArray,hl,List.take_eq_take_iff];lia
theorem MF (x y:Str):(x++y).cps.toList=x.cps.toList++y.cps.toList:=by show(x.cps++y.cps).toList=_;simp
theorem JN:(a0Q "abcdefghijklmnopqrstuvwxyz").length=26:=by decide +kernel
theorem N8:∀cs:List Nat,((cs.map λc=>(⟨#[c]⟩:Str)).map (·.length)).sum=cs.length
 | []=>rfl
 | c::cs=>by rw[zI,zI,a7Q,N8 cs];show 1+cs.length=cs.length+1;lia
theorem UH (z:Str) (l u:Option Int) {n:Nat}(h:z.length<=n):(a6V z l u).length<=n:=zN (Txt.slice_le z l u) h
theorem eB {c:Nat}(h:KZ c=true):c < 128:=by unfold KZ at h;simp at h;lia
theorem N9 (s:Str):s.cps.size=s.cps.toList.length:=by simp
end DL
namespace DL
open PySem PySem.Spec L2
def sl (a b:Str):Bool:=a8J a.cps.toList b.cps.toList
theorem NA:∀a:List Nat,a8J a a=false
 | []=>rfl
 | a::r=>by simp[a8J,NA r]
theorem PY:∀a b c:List Nat,a8J a b=true->a8J b c=true->a8J a c=true
 | [],[],_,h,_=>by cases h
 | [],_::_,[],_,h=>by cases h
 | [],_::_,_::_,_,_=>rfl
 | _::_,[],_,h,_=>by cases h
 | _::_,_::_,[],_,h=>by cases h
 | a::r,b::t,c::u,h1,h2=>by
   simp only[a8J,Bool.or_eq_true,decide_eq_true_eq,a0W,beq_iff_eq] at h1 h2 ⊢;rcases h1 with h1 | ⟨rfl,h1⟩
   . rcases h2 with h2 | ⟨rfl,h2⟩
     . exact .inl (Nat.lt_trans h1 h2)
     . exact .inl h1
   . rcases h2 with h2 | ⟨rfl,h2⟩
     . exact .inl h2
     . exact .inr ⟨rfl,PY r t u h1 h2⟩
theorem PZ:∀a b:List Nat,a8J a b=false->a8J b a=false->a=b
 | [],[],_,_=>rfl
 | [],_::_,h,_=>by cases h
 | _::_,[],_,h=>by cases h
 | a::r,b::t,h1,h2=>by
   simp only[a8J,Bool.or_eq_false_iff,decide_eq_false_iff_not,Bool.and_eq_false_iff] at h1 h2;have e:a=b:=by lia
   subst e;simp at h1 h2;rw[PZ r t h1 h2]
theorem NB (a:Str):sl a a=false:=NA _
theorem L1 {a b c:Str}(h1:sl a b=true) (h2:sl b c=true):sl a c=true:=PY _ _ _ h1 h2
theorem FT {a b:Str}(h1:sl a b=false) (h2:sl b a=false):a=b:=ZL (PZ _ _ h1 h2)
theorem WM {a b:Str}(h:sl a b=true):sl b a=false:=by
 cases e:sl b a with
 | false=>rfl
 | true=>have:=L1 h e;rw[NB] at this;cases this
theorem gZ (a b:Str):decide (a.cps.toList < b.cps.toList)=sl a b:=PyProof.Rows.lt_meets a b
def Ris (ss:List Str):Prop:=ss.Pairwise λa b=>sl a b=true
theorem UI:∀ss:List Str,xH ss=true->ss.Pairwise λa b=>sl b a=false
 | [],_=>.nil
 | a::r,h=>by
   have key:∀(r:List Str) (p:Str),PyProof.Rows.risingS p r=true->(p::r).Pairwise λa b=>sl b a=false:=by
     intro r;induction r with
     | nil=>intro p _;simp
     | cons x r ih=>
       intro p h;unfold PyProof.Rows.risingS at h;simp only[a0W,b1V] at h;have h2:=ih x h.2;refine List.pairwise_cons.mpr ⟨λc hc=>?_,h2⟩;have hx:sl x p=false:=h.1;rcases yX.mp hc with rfl | hc;. exact hx
       . have kQ:sl c x=false:=(List.pairwise_cons.mp h2).1 c hc;cases e:sl c p with
         | false=>rfl
         | true=>
           cases e2:sl x c with
           | true=>have:=L1 e2 e;rw[hx] at this;cases this
           | false=>have:=FT kQ e2;subst this;rw[hx] at e;cases e
   exact key r a h
theorem Ris.nodup {ss:List Str}(h:Ris ss):ss.Nodup:=h.imp λ{a b} q=>by rintro rfl;rw[NB] at q;cases q
theorem ES {d:PyData}(h1:d.canLay0=true) (h2:d.depth<=64):zH d=true:=by unfold zH;rw[h1,decide_eq_true h2];rfl
theorem J3 {ds:List PyData}(h:∀d∈ds,d.canLay0=true):b1Z ds=true:=by
 induction ds with
 | nil=>rfl
 | cons d r ih=>rw[b1Z,h d a1Q,ih λx hx=>h x (yV _ hx)];rfl
theorem HC {ds:List PyData}{n:Nat}(h:∀d∈ds,d.depth<=n):a2V ds<=n:=by
 induction ds with
 | nil=>simp[a2V]
 | cons d r ih=> have h1:=h d a1Q;have h2:=ih λx hx=>h x (yV _ hx);simp only[a2V];lia
theorem CG {z:Str}(h:HZ z):PyData.strOk z=true:=by unfold PyData.strOk;rw[Array.all_eq_true'];intro c hc;have:=eB (h.2.2 c (by simpa using hc));simp;lia
end DL
namespace DL
open PySem PySem.Spec L2
theorem sIx_nat (n d k:Nat):HT.sIx n d (some (k:Int))=min k n:=HT.sIx_nat n d k
theorem ZM (xs:List PyData) (a b:Nat):O6 xs (some (a:Int)) (some (b:Int))=(xs.take b).drop a:=by
 unfold O6;rw[sIx_nat,sIx_nat,List.drop_take];by_cases h:a<=xs.length;. rw[Nat.min_eq_left h,List.take_eq_take_iff,b2J];lia
 . rw[List.drop_eq_nil_of_le (show xs.length<=min a xs.length by lia),List.drop_eq_nil_of_le (show xs.length<=a by lia)];simp
def aZ:PyData->Str | .str z=>z | _=>⟨#[]⟩
abbrev Th:=Str×Int×Int
def thD (t:Th):PyData:=.tuple [.str t.1,.int t.2.1,.int t.2.2]
def wD (w:List Th):PyData:=.tuple (w.map thD)
def h7 (w:List Th):Prop:=Ris (w.map (·.1))/\∀t∈w,HZ t.1/\0<=t.2.1/\t.2.1<=999/\-1000000000000<=t.2.2/\t.2.2<=1000000000000
end DL
namespace DL
open PySem PySem.Spec L2
section
variable {K:Frg}{ρ:List (Option DS)}{M:Own}{g:TG}{wi:TI}
theorem B9 {fr:List (Option Nat)}{tt:TT}{te:TE}{T:List Nat}{Q:DS->Own->Prop}(ho:N7 g T) (hT:∀i∈T,∀j,fr[i]?≠some (some j)) (h:DI K wi ρ M λds M1=>ds.length < sizeLine/\∃(c:PyData->Bool) (f:PyData->PyData),(∀d∈ds,∀A acc M',M1 A=none->M'=M1.put A (.l acc)->DG K g d (JM fr ρ) M' λρ2 M2=>M2=M'/\DT K tt ρ2 M2 λb M3=>M3=M'/\b=c d/\(c d=true->DE K te ρ2 M3 λy M4=>y = .d (f d)/\M4=M'))/\Q (.d (.list ((ds.filter c).map f))) M1) :
   DE K (N4 fr wi g tt te) ρ M Q:=by
 refine T2 ho hT λσ H R Rl k=>h σ H R Rl λJ ds H1 M1 o1 t1 wd q=>k J ds H1 M1 o1 t1 wd ?_;obtain⟨hsz,c,f,he,q⟩:=q;refine⟨hsz,λA hA=>⟨λk acc M'=>acc=((ds.take k).filter c).map f/\M'=M1.put A (.l acc),⟨by simp,rfl⟩,λk acc M' ⟨e1,e2⟩=>⟨by rw[e2];exact zU,?_⟩,λk d acc M' hd ⟨e1,e2⟩=>?_,λacc M' ⟨e1,e2⟩=>?_⟩⟩;. rw[e1,zX];exact zN (yJ _ _) (by rw[a0J];lia)
 . have hm:d∈ds:=yN hd;intro σ H v QQ R dv kk;refine he d hm A acc M' hA e2 σ H v QQ R dv λρ' M2 σ' H' R' st ⟨eM,q2⟩=>kk ρ' M2 σ' H' R' st λσ2 H2 QQ2 R2 k2=>?_;refine q2 σ2 H2 QQ2 R2 λb H3 M3 o3 eh ⟨kS,eb,q3⟩=>k2 b H3 M3 o3 eh ?_;have ts:(ds.take (k+1)).filter c=(ds.take k).filter c++(if c d then [d] else []):=take_succ_filter c ds k d hd;cases hb:c d with
   | false=> rw[hb] at eb;subst eb;refine L2.YO ⟨?_,by rw[kS,e2]⟩;rw[ts,hb,e1];simp
   | true=>
     rw[hb] at eb;subst eb;refine L2.YQ ?_;refine SX (q3 hb) λy M4 ⟨ey,e4⟩=>⟨f d,ey,by rw[e4,e2];exact zU,?_,by rw[e4,e2,yI]⟩
     rw[ts,hb,e1];simp
 . rw[e2,yG hA,e1,a2Z];exact q
end
theorem FU {as bs:List Str}(h:as.map a0Z=bs.map a0Z):as=bs:=by have:=congrArg (List.map aZ) h;rw[zD,zD] at this;simpa [show(aZ∘a0Z)=id from rfl] using this
theorem WN {X:Cx}:MtR X "list.append" NZ:=MY
end DL
namespace DL
open PySem PySem.Spec L2
section
variable {K:Frg}{ρ:List (Option DS)}{M:Own}{Q:DS->Own->Prop}{ty:TE}
theorem WO {neg:Bool}{x:Str}{ys:List Str}(q:Q (.d (.bool (if neg then !decide (x∈ys) else decide (x∈ys)))) M):D2 K (rIn K neg) (.d (.str x)) (.d (.tuple (ys.map .str))) M Q:=λH v u QQ oa s1 s2 k=>by rw[BO s1];unfold SI DV at s2;obtain⟨a,vs,rfl,hl,hd⟩:=s2;have e:=FR hd;subst e;exact⟨a,_,rfl,.inr hl.sq,rfl,by simp[GP],k _ H (.d (.bool (if neg then !decide (x∈ys) else decide (x∈ys)))) M oa (by rw[PQ];exact AV) Step.refl q⟩
theorem ZN {x:Str}{ys:List Str}(q:Q (.d (.bool (decide (x∈ys)))) M):D2 K (ZE K) (.d (.str x)) (.d (.tuple (ys.map .str))) M Q:=EJ (WO (neg:=false) q)
theorem IA {x:Str}{ys:List Str}(q:Q (.d (.bool (!decide (x∈ys)))) M):D2 K (O8 K) (.d (.str x)) (.d (.tuple (ys.map .str))) M Q:=EJ (WO (neg:=true) q)
end
end DL
namespace L2
open PySem PySem.Spec PyProof.Rows
section
variable {X:Cx}
def h8 (z:Str) (n:Int):Str:=if (n==1||z.length==0)=true then z else ⟨(b1J n.toNat z.cps).foldl (·++·) #[]⟩
def WP:R2:=λx y H Q=>(rI (λi j=>IntMulOk i j) λi j=>.int (i*j)) x y H Q\/∃z n,x = .str z/\y = .int n/\1<=n/\n<=8/\z.length<=1000/\Q (.str (h8 z n)) H
theorem Q0 (a:Array Nat):∀(n:Nat) (b:Array Nat),(List.foldl (λx1 x2=>x1++x2) b (b1J n a)).size=b.size+n*a.size
 | 0,b=>by simp
 | n+1,b=>by rw[List.replicate_succ,List.foldl_cons,Q0 a n,Array.size_append,Nat.succ_mul];lia
theorem ZO:OpR X (binaryOp .Mult) WP:=by
 intro pins s σ H x y v u Q I rx ry h;rcases h with h | ⟨z,n,rfl,rfl,h1,h2,h3,q⟩
 . exact(opI (C:=λi j=>IntMulOk i j) λ_ _ _ _ _ _ _ hc q=>mul_int q hc) pins s σ H x y v u Q I rx ry h
 . obtain⟨t,rfl⟩:=rx;obtain⟨t',rfl⟩:=ry;have hp:(2:Int) ^ 63=9223372036854775808:=by decide
   refine P.mul_str ?_ (λ_ _=>?_) (λ_ _=>?_) ?_;. rw[decide_eq_false (Int.not_lt.mpr (Int.le_trans (by decide) h1)),decide_eq_false (Int.not_le.mpr (Int.lt_of_le_of_lt h2 (by decide)))];rfl
   . rw[hp];have h5:(1000:Int)<=(9223372036854775808 - 1)/n:=Int.le_ediv_of_mul_le (Int.lt_of_lt_of_le (by decide) h1) (Int.le_trans (Int.mul_le_mul_of_nonneg_left h2 (by decide)) (by decide));exact λhc=>absurd (Int.lt_of_le_of_lt h5 hc) (Int.not_lt.mpr (Int.ofNat_le.mpr h3))
   . have hm:z.length*n.toNat<=1000*1000:=Nat.mul_le_mul h3 (by lia);unfold Builtin.Str.tooLong;rw[decide_eq_false];exact λhc=>absurd (zP hc hm) (by decide)
   . rw[if_neg (by lia)];have q':=q;unfold h8 at q';split;. rename_i e;rw[if_pos e] at q';exact⟨.str z,H,I,⟨_,rfl⟩,q'⟩
     . rename_i e;rw[if_neg e] at q';refine⟨?_,⟨.str _,H,I.tok _,⟨_,rfl⟩,q'⟩⟩;show(List.foldl (λx1 x2=>x1++x2) #[] (b1J n.toNat z.cps)).size<=sizeLine;rw[Q0];have hm:(#[]:Array Nat).size+n.toNat*z.cps.size<=8*1000:=by rw[show(#[]:Array Nat).size=0 from rfl,Nat.zero_add];exact Nat.mul_le_mul (by lia) h3
       exact zN hm (by decide)
end
end L2
namespace DL
open PySem PySem.Spec L2
section
variable {X:Cx}{K:Frg}
theorem ZP (_:X.K=K):OpR X (binaryOp .Mult) WP:=ZO
end
section
variable {K:Frg}{ρ:List (Option DS)}{M:Own}{Q:DS->Own->Prop}
theorem WQ {i j:Int}(c:IntMulOk i j) (q:Q (.d (.int (i*j))) M):D2 K WP (.d (.int i)) (.d (.int j)) M Q:=λH v u QQ oa s1 s2 k=>by rw[D3 s1,D3 s2];exact .inl ⟨i,j,rfl,rfl,c,k _ H _ M oa EQ Step.refl q⟩
end
end DL
namespace L2
open PySem PySem.Spec PyProof.Rows PySem.W
theorem OD {ns:List Int}(h:WData.layableAll [WData.list (ns.map WData.int)]=true):∀i∈ns,xL i<=2 ^ 20:=by
 have h1:WData.weightAll (ns.map WData.int)<=2 ^ 20:=by
   have h0:WData.layable (WData.list (ns.map WData.int))=true:=by unfold WData.layableAll at h;simpa using h
   unfold WData.layable at h0;rw[a0W] at h0;exact of_decide_eq_true h0.2
 intro i hi;refine zN ?_ h1;clear h h1;induction ns with
 | nil=>cases hi
 | cons n r ih=>
   rw[zI];show _<=WData.weight (.int n)+1+WData.weightAll (r.map WData.int);rcases yX.mp hi with rfl | hi;. have:WData.weight (.int i)=xL i:=rfl;lia
   . have:=ih hi;lia
theorem WR {l:PySem.W.OpenLaw}{n k:Nat}{q:Program}{loose:List Str}{XP:(Str->Option Value)->Heap->Prop}{YP:World->Heap->Prop}{d:DefRec}{K:Params->Frg}{CX:World->CXT}{sp:World->Sp}{x:Str} (hn:l.most=some n) (lN:n<=sizeLine) (kU:d.params.defaults=[]) (hr:Room k callerA) (hY:∀(w:World) (h:Heap),YP w h->(K w.params).In h) (F:∀(w:World) (mg:Str->Option Value) (fa:Addr) (h:Heap),(K w.params).In h->h.Ns mainGlobals mg->mg d.name=some (.ref fa) ->∃fd:FuncData,(∀(s:Shared) (u:Value),BindsTo s fd ⟨[u],[]⟩ [(x,u)]) /\∀base:Heap,(K w.params).In base->base.Ns mainGlobals mg->FnOk l.prog w (K w.params) mg base (CX w) k fa fd [x] (sp w)) (gy:∀(w:World) (H:Hp) (a:Addr) (ns:List Int),ns.length<=n->(∀i∈ns,xL i<=2 ^ 20)->cV H->SqL (K w.params) H a (ns.map V.int)->sp w [.ref a] H (λv _=>v = .bl true) λ_ _ _=>False) (k9:∀(w:World) (H:Hp) (s:Shared) (e:Value) (s':Shared),CX w [] H s (λ_ _ _=>False) e s'->False) :
   PySem.W.WalkO q loose XP YP l.row.toRowW d [] (λf vs=>PySem.call f vs):=by
 intro w s₀ s₁ mg mb G Y fa o pm cd doc dV kV ho hd fj hD jt hg args vals as gk kW ow jR ox;have e1:dV = .none:=Dflts.none hD kU;subst e1;have e2:kV = .none:=Dflts.noKw hD;subst e2;obtain⟨a,vs,ns,rfl,rfl,kX,jw,ac⟩:=Att.script_of hn gk jR;have ia:=OD kW;refine enter_call (codeAny_mono (R:=λr s'=>r = .ok (.ret (.bool true))/\OldK s₁.heap s'.heap/\s'.os=s₁.os/\AllBare s'.gens) ?_ λr s' hq=>?_);. have KX:=hY w _ Y;obtain⟨fd,hb,hF⟩:=F w mg fa _ KX G.T.g jt;exact VP KX G.T.g G.T.b G.T.builtins G.T.nolimit hg kX jw (zN ac lN) hr hF hb (λH hO hS=>gy w H a ns ac ia hO hS) λH e s'=>k9 w H s₁ e s'
 . have h1:=hq.1;subst h1;exact⟨.inl ⟨.bool true,.bool true,[],rfl,λ_=>rfl,.bool true,Att.post_true l _,λ_=>⟨a5V,λ_ hm=>(nomatch hm)⟩⟩,hq.2.1,hq.2.2.1,hq.2.2.2⟩
end L2
namespace DL
open PySem PySem.Spec L2
def iJ (z:Str):Prop:=∀c∈z.cps.toList,KZ c=true
theorem WS {z:Str}(h:iJ z) (h1:1<=z.cps.toList.length) (h2:z.cps.toList.length<=8):HZ z:=⟨by rw[N9];exact h1,by rw[N9];exact h2,h⟩
end DL
namespace L2
open PySem PySem.Spec PyProof.Rows
section
variable {X:Cx}
def h9:R2:=λx y H Q=>(y = .non/\Q (.bl (decide (x = .non))) H)\/∃a b:Bool,x = .bl a/\y = .bl b/\Q (.bl (a==b)) H
theorem WT:OpR X (compareOp .Is) h9:=by
 intro pins s σ H x y v u Q I rx ry h;rcases h with h | ⟨a,b,rfl,rfl,q⟩
 . exact cC pins s σ H x y v u Q I rx ry h
 . cases rx;cases ry;refine wpAny_is_plain rfl ⟨.bl (a==b),H,I,?_,q⟩;cases a <;> cases b <;> rfl
end
end L2
namespace DL
open PySem PySem.Spec L2
section
variable {K:Frg}{ρ:List (Option DS)}{M:Own}{Q:DS->Own->Prop}{QI:List PyData->Own->Prop}
theorem OE {d:PyData}(q:Q (.d (.bool (O9 d))) M):D2 K h9 (.d d) (.d .none) M Q:=FA (dY q)
def DPs (K:Frg) (dj:List (TE×TE)) (ρ:List (Option DS)) (M:Own) (Q:List (Str×PyData)->Own->Prop):Prop:=∀(σ:St) (H:Hp) (QQ:List (V×V)->Hp->Prop),Rel K M ρ σ H->(∀ps H' bu M',OA K H' M'->(∃vs,DVs K H' M'.W (bu.map (·.2)) vs/\ps=(bu.map λk=>V.str k.1).zip vs)->Step K M M' H H'->Q bu M'->QQ ps H')->O1 dj σ H QQ
theorem ZQ {Q:List (Str×PyData)->Own->Prop}(h:Q [] M):DPs K [] ρ M Q:=λσ H QQ R k=>k [] H [] M R.own ⟨[],DVs.nil,rfl⟩ Step.refl h
theorem Q1 {tk tv:TE}{dj:List (TE×TE)}{Q:List (Str×PyData)->Own->Prop}(h:DE K tk ρ M λx M1=>∃k,x = .d (.str k)/\DE K tv ρ M1 λy M2=>∃d,y = .d d/\DPs K dj ρ M2 λbu M3=>Q ((k,d)::bu) M3):DPs K ((tk,tv)::dj) ρ M Q:=λσ H QQ R kk=>
 h σ H _ R λv H1 x M1 o1 s1 t1 h1=>by obtain⟨k,rfl,h1⟩:=h1;refine h1 σ H1 _ (R.step o1 t1) λu H2 y M2 o2 s2 t2 h2=>?_;obtain⟨d,rfl,h2⟩:=h2;refine h2 σ H2 _ (R.step o2 (t1.trans t2)) λps H3 bu M3 o3 ⟨vs,s3,e3⟩ t3 q=>?_;refine kk _ H3 ((k,d)::bu) M3 o3 ⟨u::vs,DVs.cons (DV.grow t3.grow s2) s3,?_⟩ ((t1.trans t2).trans t3) q;rw[BO s1,e3];rfl
theorem JO:∀(kvs acc:List (Key×V)),((acc++kvs).map (·.1)).Nodup->FQ acc kvs=acc++kvs
 | [],acc,_=>by simp[FQ]
 | kv::r,acc,h=>by
   have h1:(acc.any λx=>decide (x.1=kv.1))=false:=by rw[List.any_eq_false];intro x hx;rw[xJ,List.nodup_append] at h;have:=h.2.2 x.1 (zL.mpr ⟨x,hx,rfl⟩) kv.1 (by simp);simpa using this
   show FQ (D0 acc kv.1 kv.2) r=_;have e:D0 acc kv.1 kv.2=acc++[kv]:=by unfold D0;rw[h1];rfl
   rw[e,JO r (acc++[kv]) (by rw[List.append_assoc];exact h)];simp
theorem WU {H:Hp}{W:Addr->Prop}:∀{bu:List (Str×PyData)}{vs:List V},DVs K H W (bu.map (·.2)) vs->DKV K H W (bu.map λk=>(.str k.1,k.2)) ((bu.map λk=>(a1X k.1:Key)).zip vs)
 | [],vs,h=>by unfold DKV;rfl
 | (k,d)::r,vs,h=>by rw[zI] at h;unfold DVs at h;obtain⟨v,r',rfl,h1,h2⟩:=h;rw[zI];unfold DKV;exact⟨a1X k,v,_,rfl,rfl,h1,WU h2⟩
theorem Q2:∀(bu:List (Str×PyData)) (vs:List V),vs.length=bu.length->(bu.map λk=>V.str k.1).zip vs=((bu.map λk=>(a1X k.1:Key)).zip vs).map λkv=>(kV kv.1,kv.2)
 | [],vs,_=>by simp
 | a::r,[],h=>by cases h
 | a::r,v::vs,h=>by rw[zI,zI,a4V,a4V,zI,Q2 r vs (by simpa using h)];rfl
end
end DL
namespace L2
open PySem PySem.Spec PyProof.Rows PySem.W
section
variable {n:Nat}{lt:Nat->Nat->Bool}
def Good (n:Nat) (lt:Nat->Nat->Bool) {α:Type}(P:α->Prop):KasT α->Prop
 | .ret a=>P a
 | .ask i j k=>i < n/\j < n/\i≠j/\Good n lt P (k (lt i j))
theorem Good.mono {α:Type}{P Q:α->Prop}(h:∀a,P a->Q a):∀{t:KasT α},Good n lt P t->Good n lt Q t
 | .ret _,g=>h _ g
 | .ask _ _ _,⟨a,b,c,g⟩=>⟨a,b,c,Good.mono h g⟩
theorem Good.bind {α β:Type}{P:β->Prop}{f:α->KasT β}:∀{t:KasT α},Good n lt (λa=>Good n lt P (f a)) t->Good n lt P (t.bind f)
 | .ret _,g=>g
 | .ask _ _ _,⟨a,b,c,g⟩=>⟨a,b,c,Good.bind g⟩
theorem Good.wp {α:Type}{cmp:Nat->Nat->(Bool->Shared->Prop)->Shared->Prop}{s:Shared}{P:α->Prop}{Q:α->Shared->Prop} (hc:∀i j (C:Bool->Shared->Prop),i < n->j < n->i≠j->C (lt i j) s->cmp i j C s) (hq:∀a,P a->Q a s):∀{t:KasT α},Good n lt P t->t.kasWp cmp Q s
 | .ret a,g=>hq a g
 | .ask i j k,⟨a,b,c,g⟩=>hc i j _ a b c (Good.wp hc hq g)
structure Strict (n:Nat) (lt:Nat->Nat->Bool):Prop where
 irr:∀i,lt i i=false
 tr:∀i j k,lt i j=true->lt j k=true->lt i k=true
 tot:∀i j,i < n->j < n->i≠j->lt i j=true\/lt j i=true
def Pm (n:Nat) (p:Array Nat):Prop:=p.toList.Perm (a0V n)
theorem Pm.size {p:Array Nat}(h:Pm n p):p.size=n:=by have:=h.length_eq;simpa using this
theorem Pm.bel {p:Array Nat}(h:Pm n p) {i:Nat}(hi:i < n):p.getD i 0 < n:=by
 have hs:i < p.size:=by rw[h.size];exact hi
 have:p[i]∈a0V n:=h.mem_iff.mp (by simp);simp only[Array.getD,hs,dite_true];exact List.mem_range.mp this
theorem eD {l:List Nat}(nd:l.Nodup) {i j:Nat}{hi:i < l.length}{hj:j < l.length}(e:l[i]=l[j]):i=j:=by
 rcases b2Q i j with h | h | h;. exact absurd e (List.pairwise_iff_getElem.mp nd i j hi hj h)
 . exact h
 . exact absurd e.symm (List.pairwise_iff_getElem.mp nd j i hj hi h)
theorem Pm.inj {p:Array Nat}(h:Pm n p) {i j:Nat}(hi:i < n) (hj:j < n) (au:i≠j):p.getD i 0≠p.getD j 0:=by
 have lO:i < p.size:=by rw[h.size];exact hi
 have lP:j < p.size:=by rw[h.size];exact hj
 simp only[Array.getD,lO,lP,dite_true];have nd:p.toList.Nodup:=h.nodup_iff.mpr List.nodup_range;intro e;have e':p.toList[i]'(by simpa using lO)=p.toList[j]'(by simpa using lP):=by simpa using e
 exact au (eD nd e')
def Up (lt:Nat->Nat->Bool) (p:Array Nat) (k:Nat):Prop:=∀i j,i < j->j < k->lt (p.getD i 0) (p.getD j 0)=true
def Dn (lt:Nat->Nat->Bool) (p:Array Nat) (k:Nat):Prop:=∀i j,i < j->j < k->lt (p.getD j 0) (p.getD i 0)=true
theorem L3 (S:Strict n lt) {p:Array Nat}(hp:Pm n p):∀(f m:Nat),1<=m->m+f<=n->Up lt p m ->
   Good n lt (λr=>m<=r/\r<=m+f/\Up lt p r/\(r=m+f\/lt (p.getD r 0) (p.getD (r - 1) 0)=true)) (kas_asc p f m)
 | 0,m,h1,h2,h3=>⟨zR _,zR _,h3,.inl rfl⟩
 | f+1,m,h1,h2,h3=>by
   unfold kas_asc;refine⟨hp.bel (by lia),hp.bel (by lia),hp.inj (by lia) (by lia) (by lia),?_⟩;cases hc:lt (p.getD m 0) (p.getD (m - 1) 0) with
   | true=>exact⟨zR _,by lia,h3,.inr hc⟩
   | false=>
     have iL:lt (p.getD (m - 1) 0) (p.getD m 0)=true:=(S.tot _ _ (hp.bel (by lia)) (hp.bel (by lia)) (hp.inj (i:=m - 1) (j:=m) (by lia) (by lia) (by lia))).elim id λz=>by rw[hc] at z;cases z
     dsimp only;rw[if_neg nft];refine(L3 S hp f (m+1) (by lia) (by lia) λi j au hj=>?_).mono λr ⟨a,b,c,d⟩=>⟨by lia,by lia,c,d.elim (λz=>.inl (by lia)) .inr⟩
     by_cases hjm:j < m;. exact h3 i j au hjm
     . have e:j=m:=by lia
       subst e;by_cases hi:i=j - 1;. subst hi;exact iL
       . exact S.tr _ _ _ (h3 i (j - 1) (by lia) (by lia)) iL
theorem ND (S:Strict n lt) {p:Array Nat}(hp:Pm n p):∀(f m:Nat),1<=m->m+f<=n->Dn lt p m ->
   Good n lt (λr=>r.1=p/\r.2.2=0/\m<=r.2.1/\r.2.1<=m+f/\Dn lt p r.2.1) (kas_desc f p m 0)
 | 0,m,h1,h2,h3=>⟨rfl,rfl,zR _,zR _,h3⟩
 | f+1,m,h1,h2,h3=>by
   unfold kas_desc;refine⟨hp.bel (by lia),hp.bel (by lia),hp.inj (by lia) (by lia) (by lia),?_⟩;cases hc:lt (p.getD m 0) (p.getD (m - 1) 0) with
   | true=>
     dsimp only;rw[if_pos rfl,if_neg (yF 0)];refine(ND S hp f (m+1) (by lia) (by lia) λi j au hj=>?_).mono λr ⟨a,b,c,d,e⟩=>⟨a,b,by lia,by lia,e⟩
     by_cases hjm:j < m;. exact h3 i j au hjm
     . have e:j=m:=by lia
       subst e;by_cases hi:i=j - 1;. subst hi;exact hc
       . exact S.tr _ _ _ hc (h3 i (j - 1) (by lia) (by lia))
   | false=>
     have iL:lt (p.getD (m - 1) 0) (p.getD m 0)=true:=(S.tot _ _ (hp.bel (by lia)) (hp.bel (by lia)) (hp.inj (i:=m - 1) (j:=m) (by lia) (by lia) (by lia))).elim id λz=>by rw[hc] at z;cases z
     dsimp only;rw[if_neg nft];refine⟨hp.bel (by lia),hp.bel (by lia),hp.inj (by lia) (by lia) (by lia),?_⟩;dsimp only;rw[iL,if_pos rfl];exact⟨rfl,rfl,zR _,(show m<=_ by lia),h3⟩
theorem KC {α:Type}{xs ys:Array α}{i j:Nat}{d:α}(h:xs[i]?=ys[j]?):xs.getD i d=ys.getD j d:=by rw[a9V,a9V,h]
theorem WV {p:Array Nat}(hp:Pm n p) (i j:Nat):Pm n (kas_rev p i j):=(Array.perm_iff_toList_perm.mp (mirror_perm _ _ _ _)).trans hp
theorem RU (S:Strict n lt) {p:Array Nat}(hp:Pm n p) {m:Nat}(h1:1<=m) (h2:m<=n) (h3:Dn lt p m) :
   Good n lt (λr=>1<=r.1/\r.1<=n/\Pm n r.2/\Up lt r.2 r.1) (kas_tail3 m n p):=by
 unfold kas_tail3;refine Good.bind ((L3 S (WV hp 0 m) (n - m) m h1 (by lia) λi j au hj=>?_).mono λr ⟨a,b,c,_⟩=>⟨by lia,by lia,WV hp 0 m,c⟩);have hz:m<=p.size:=by rw[hp.size];exact h2
 have e:∀k,k < m->(kas_rev p 0 m).getD k 0=p.getD (m - 1 - k) 0:=λk hk=>by refine KC ?_;unfold kas_rev;rw[getElem?_mirror_all (i:=0) hz k,if_pos ⟨xU _,hk⟩,Nat.zero_add]
 rw[e i (by lia),e j (by lia)];exact h3 _ _ (by lia) (by lia)
theorem MG (S:Strict n lt) {p:Array Nat}(hp:Pm n p) {m:Nat}(h2:m+1<=n) (h3:Dn lt p (m+1)) :
   Good n lt (λr=>1<=r.1/\r.1<=n/\Pm n r.2/\Up lt r.2 r.1) (kas_descPart m n p):=by unfold kas_descPart;refine Good.bind ((ND S hp (n - (m+1)) (m+1) (by lia) (by lia) h3).mono λr ⟨a,b,c,d,e⟩=>?_);rw[b,if_neg (yF 0),a];exact RU S hp (by lia) (by lia) e
theorem RV (S:Strict n lt) {p:Array Nat}(hp:Pm n p) (h2:1<=n) :
   Good n lt (λr=>1<=r.1/\r.1<=n/\Pm n r.2/\Up lt r.2 r.1) (kas_count n p):=by
 unfold kas_count;refine Good.bind ((L3 S hp (n - 1) 1 (zR _) (by lia) λi j au hj=>by lia).mono λr ⟨a,b,c,d⟩=>?_);by_cases hr:r=n;. subst hr;rw[if_pos (by simp)];exact⟨a,zR _,hp,c⟩
 . rw[if_neg (by simpa using hr)];have c_:lt (p.getD r 0) (p.getD (r - 1) 0)=true:=d.resolve_left (by lia);by_cases h1:r > 1;. rw[if_pos h1];refine⟨hp.bel (by lia),hp.bel (by lia),hp.inj (by lia) (by lia) (by lia),?_⟩;dsimp only;rw[c 0 (r - 1) (by lia) (by lia),if_pos rfl];exact⟨a,by lia,hp,c⟩
   . rw[if_neg h1];have e:r=1:=by lia
     subst e;refine MG S hp (by lia) λi j au hj=>?_;have e1:i=0:=by lia
     have e2:j=1:=by lia
     subst e1 e2;exact c_
theorem HD (S:Strict n lt) {p:Array Nat}(hp:Pm n p) {k:Nat}(hk:k < n) (hu:Up lt p k):∀(f l r:Nat),l<=r->r<=k->r - l<=f ->(∀i,i < l->lt (p.getD i 0) (p.getD k 0)=true)->(∀i,r<=i->i < k->lt (p.getD k 0) (p.getD i 0)=true) ->
   Good n lt (λx=>x<=k/\(∀i,i < x->lt (p.getD i 0) (p.getD k 0)=true)/\∀i,x<=i->i < k->lt (p.getD k 0) (p.getD i 0)=true) (kas_place p k f l r)
 | 0,l,r,h1,h2,h3,h4,h5=>by unfold kas_place;exact⟨by lia,h4,λi hi jx=>h5 i (by lia) jx⟩
 | f+1,l,r,h1,h2,h3,h4,h5=>by
   unfold kas_place;by_cases hge:l≥r;. rw[if_pos hge];exact⟨by lia,h4,λi hi jx=>h5 i (by lia) jx⟩
   . rw[if_neg hge];have hm:l<=(l+r)/2/\(l+r)/2 < r:=by lia
     generalize (l+r)/2=m at hm ⊢;obtain⟨nu,jZ⟩:=hm;have iS:m < k:=zP jZ h2;have kc:m < n:=Nat.lt_trans iS hk;refine⟨hp.bel hk,hp.bel kc,hp.inj hk kc (Nat.ne_of_gt iS),?_⟩;cases hc:lt (p.getD k 0) (p.getD m 0) with
     | true=>
       dsimp only;rw[if_pos rfl];refine HD S hp hk hu f l m nu (xT iS) (by lia) h4 λi hi jx=>?_;by_cases e:i=m;. subst e;exact hc
       . exact S.tr _ _ _ hc (hu _ _ (Nat.lt_of_le_of_ne hi (a8K e)) jx)
     | false=>
       dsimp only;rw[if_neg nft];have iL:lt (p.getD m 0) (p.getD k 0)=true:=(S.tot _ _ (hp.bel kc) (hp.bel hk) (hp.inj (i:=m) (j:=k) kc hk (zC iS))).elim id λz=>by rw[hc] at z;cases z
       refine HD S hp hk hu f (m+1) r jZ h2 (by lia) (λi hi=>?_) h5;by_cases e:i=m;. subst e;exact iL
       . exact S.tr _ _ _ (hu _ _ (by lia) (by lia)) iL
theorem Q3 (S:Strict n lt):∀(f:Nat) {p:Array Nat}{k:Nat},Pm n p->k+f=n->Up lt p k->Good n lt (λq=>Pm n q/\Up lt q n) (kas_bin f p k)
 | 0,p,k,hp,h1,h2=>by
   have e:k=n:=by lia
   subst e;exact⟨hp,h2⟩
 | f+1,p,k,hp,h1,h2=>by
   unfold kas_bin;refine Good.bind ((HD S hp (by lia) h2 k 0 k (xU _) (zR _) (by lia) (λi hi=>by lia) λi hi hk=>by lia).mono λx ⟨hx,a,b⟩=>?_);have nv:k < p.size:=by rw[hp.size];lia
   refine Q3 S f ((Array.perm_iff_toList_perm.mp (bubble_perm _ _ _)).trans hp) (by lia) λi j au hj=>?_;have e:∀q,(bubble p k (k - x)).getD q 0=if q=x then p.getD k 0 else if x < q/\q<=k then p.getD (q - 1) 0 else p.getD q 0:=λq=>by
     have:=getElem?_bubble nv (k - x) (by lia) q;rw[show k - (k - x)=x by lia] at this;by_cases c1:q=x;. rw[if_pos c1] at this ⊢;exact KC this
     . rw[if_neg c1] at this ⊢;by_cases c2:x < q/\q<=k;. rw[if_pos c2] at this ⊢;exact KC this
       . rw[if_neg c2] at this ⊢;exact KC this
   obtain⟨g,hg⟩:∃g:Nat->Nat,∀i,p.getD i 0=g i:=⟨_,λ_=>rfl⟩
   have iW:∀i j,i < j->j < k->lt (g i) (g j)=true:=λi j x y=>by rw[<-hg,<-hg];exact h2 i j x y
   rw[e,e];simp only[hg] at a b ⊢;clear e;rcases b2Q j x with hj' | hj' | hj';. have hi':i < x:=Nat.lt_trans au hj';rw[if_neg (zC hi'),if_neg (λz=>Nat.lt_asymm z.1 hi'),if_neg (zC hj'),if_neg (λz=>Nat.lt_asymm z.1 hj')];exact iW _ _ au (zP hj' hx)
   . subst hj';rw[if_neg (zC au),if_neg (λz=>Nat.lt_asymm z.1 au),if_pos rfl];exact a _ au
   . obtain⟨j',rfl⟩:∃j',j=j'+1:=⟨j - 1,by lia⟩
     have jy:j' < k:=Nat.lt_of_succ_le (Nat.le_of_lt_succ hj);have lQ:x<=j':=Nat.le_of_lt_succ hj';rw[if_neg (Nat.ne_of_gt hj') (c:=j'+1=x),if_pos (c:=x < j'+1/\j'+1<=k) ⟨hj',jy⟩,Nat.add_sub_cancel];rcases b2Q i x with hi' | hi' | hi';. rw[if_neg (zC hi'),if_neg (λz=>Nat.lt_asymm z.1 hi')];exact iW _ _ (zP hi' lQ) jy
     . rw[if_pos hi'];exact b _ lQ jy
     . obtain⟨i',rfl⟩:∃i',i=i'+1:=⟨i - 1,by lia⟩
       have jz:i' < j':=Nat.lt_of_succ_lt_succ au;rw[if_neg (Nat.ne_of_gt hi'),if_pos (c:=x < i'+1/\i'+1<=k) ⟨hi',Nat.lt_trans jz jy⟩,Nat.add_sub_cancel];exact iW _ _ jz jy
theorem UJ (S:Strict n lt) (h1:1<=n):Good n lt (λq=>Pm n q/\Up lt q n) (kas_sort n):=by
 unfold kas_sort;refine Good.bind ((RV S (show Pm n _ from .refl _) h1).mono λr ⟨a,b,c,d⟩=>?_);have e:max r.1 1=r.1:=by lia
 rw[e];by_cases hr:r.1 < n;. rw[if_pos hr];exact Q3 S _ c (by lia) d
 . rw[if_neg hr];have e:r.1=n:=by lia
   rw[e] at d;exact⟨c,d⟩
end
end L2
namespace L2
open PySem PySem.Spec PyProof.Rows PySem.W
def TupsN (h:Heap) (vs:List Value) (ns:List Str):Prop:=
 vs.length=ns.length/\∀(i:Nat) (v:Value) (nm:Str),vs[i]?=some v->ns[i]?=some nm->∃(a:Addr) (o:Obj) (xs:Array Value) (k:Nat) (t:Tok),v=a0X a/\h.get? a=some o/\o.cls = .type "tuple" /\ o.data = .seq xs k/\xs[0]?=some (.str nm t)
theorem TupsN.keep {h h':Heap}{vs:List Value}{ns:List Str}(t:TupsN h vs ns) (hk:∀b o,o.cls = .type "tuple" -> h.get? b=some o->h'.get? b=some o):TupsN h' vs ns:=⟨t.1,λi v nm e1 e2=>let ⟨a,o,xs,k,t',h1,h2,h3,h4,h5⟩:=t.2 i v nm e1 e2;⟨a,o,xs,k,t',h1,hk a o h3 h2,h3,h4,h5⟩⟩
theorem TupsN.kat {h:Heap}:∀{vs:List Value}{ns:List Str},TupsN h vs ns->∃fs,KatTups h vs fs/\fs.length=ns.length/\∀v∈fs,∃x t,v=b3Q x t
 | [],[],_=>⟨[],trivial,rfl,λv hv=>nomatch hv⟩
 | [],_::_,t=>by have:=t.1;simp at this
 | _::_,[],t=>by have:=t.1;simp at this
 | v::vs,nm::ns,t=>by obtain⟨a,o,xs,k,t',rfl,h2,h3,h4,h5⟩:=t.2 0 v nm rfl rfl;obtain⟨fs,q1,q2,q3⟩:=TupsN.kat (vs:=vs) (ns:=ns) ⟨by have:=t.1;simpa using this,λi v nm e1 e2=>t.2 (i+1) v nm (by simpa using e1) (by simpa using e2)⟩;exact⟨_,KatTups.cons h2 h3 h4 h5 q1,by simp[q2],λv hv=>(yX.mp hv).elim (λe=>⟨_,_,e⟩) (q3 v)⟩
section
variable {prog:Program}{w:World}{A:Around}{E:Value->Shared->Prop}{s:Shared}
theorem WW {vs:List Value}{ns:List Str}(t:TupsN s.heap vs ns) (nd:ns.Nodup) {i j:Nat}(hi:i < ns.length) (hj:j < ns.length) (au:i≠j) {C:Bool->Shared->Prop}(h:C (decide ((ns.getD i "").cps.toList < (ns.getD j "").cps.toList)) s) :
   kas_ask prog w A (tuples' true) vs i j C s:=by
 unfold kas_ask;have hl:=t.1;have e1:vs[i]?=some (vs.getD i a5Z):=by rw[yU,zV (by lia)];rfl
 have e2:vs[j]?=some (vs.getD j a5Z):=by rw[yU,zV (by lia)];rfl
 have f1:ns[i]?=some (ns.getD i ""):=by rw[yU,zV hi];rfl
 have f2:ns[j]?=some (ns.getD j ""):=by rw[yU,zV hj];rfl
 have ao:ns.getD i "" ≠ ns.getD j "" := λe=>by
   rw[yU,yU,zV hi,zV hj] at e;rcases Nat.lt_or_gt_of_ne au with q | q;. exact List.pairwise_iff_getElem.mp nd i j hi hj q e
   . exact List.pairwise_iff_getElem.mp nd j i hj hi q e.symm
 generalize vs.getD i a5Z=v at e1 ⊢;generalize vs.getD j a5Z=u at e2 ⊢;obtain⟨a,o,xs,k,t1,rfl,a2,a3,a4,a5⟩:=t.2 i v _ e1 f1;obtain⟨b,o',ys,k',t2,rfl,b2,b3,b4,b5⟩:=t.2 j u _ e2 f2;refine kat_lt a2 a4 b2 b4 ?_;have x1:xs.toList[0]?=some (.str (ns.getD i "") t1):=by rw[a9J];exact a5
 have y1:ys.toList[0]?=some (.str (ns.getD j "") t2):=by rw[a9J];exact b5
 obtain⟨xr,hx⟩:∃r,xs.toList = .str (ns.getD i "") t1::r:=by
   cases hh:xs.toList with
   | nil=>rw[hh] at x1;cases x1
   | cons q r=>rw[hh] at x1;cases x1;exact⟨r,rfl⟩
 obtain⟨yr,hy⟩:∃r,ys.toList = .str (ns.getD j "") t2::r:=by
   cases hh:ys.toList with
   | nil=>rw[hh] at y1;cases y1
   | cons q r=>rw[hh] at y1;cases y1;exact⟨r,rfl⟩
 rw[hx,hy,a4V];refine kat_cons (wpAny_eqBool_str ?_);rw[decide_eq_false ao];refine kat_no ?_;show wpAny (model prog w) A (oneLt' true _ _) C (λ_ _=>False) s;exact oneLt_str h
theorem L4 {a:Addr}{vs:List Value}{ns:List Str}{n:Nat}{P:PySem.Fin->Shared->Prop}(ho:s.heap.get? a=some (seqObj "list" vs.toArray n)) (t:TupsN s.heap vs ns) (nd:ns.Nodup) (bi:vs.length < 64) (h:∀p:List Nat,p.Perm (a0V vs.length)->(∀i j,i < j->j < vs.length->(ns.getD (p.getD i 0) "").cps.toList < (ns.getD (p.getD j 0) "").cps.toList) ->
     P (.done (.ret .none)) { s with heap:=sortedHeap s.heap a vs (p.map λi=>vs.getD i a5Z).toArray }) :
   wpAny (model prog w) A (Builtin.«list.sort» ⟨[.ref a],[]⟩) P E s:=by
 have ha:a < s.heap.objs.size:=zM ho;rw[list_sort_plain];refine zZ (listItems_at ho rfl ?_);refine zZ (listUpdate_at ho rfl ?_ (by rw[zJ,sizeLine_eq];lia) (xU _));obtain⟨e1,lR⟩:∃e1,(s.heap.update a (a4W λ_=>(#[]:Array Value))).get? a=some (seqObj "list" #[] e1):=⟨_,get?_update_seq ho (λ_=>#[])⟩
 refine zZ (seqEpoch_at lR rfl (zZ (wpAny_newTuple ?_ (by show vs.length<=_;rw[sizeLine_eq];lia))));refine zZ (wpAny_newList (wpAny_holding ?_) (xU _));have hsz:vs.toArray.size=vs.length:=zJ ..;have j_:∀b o,o.cls = .type "tuple" -> s.heap.get? b=some o->(((s.heap.update a (a4W λ_=>(#[]:Array Value))).push (seqObj "tuple" vs.toArray 0)).push (seqObj "list" #[] 0)).get? b=some o:=λb o hc q=>by
   have hb:b≠a:=λe=>by subst e;rw[ho] at q;cases q;exact absurd hc (show ¬(Value.type "list"=Value.type "tuple") by decide)
   refine zW _ (zW _ ?_);rw[Heap.get?_update_ne _ _ _ _ hb];exact q
 have kd:(((s.heap.update a (a4W λ_=>(#[]:Array Value))).push (seqObj "tuple" vs.toArray 0)).push (seqObj "list" #[] 0)).get? a=some (seqObj "list" #[] e1):=zW _ (zW _ lR);show wpAny (model prog w) A _ P E { s with heap:=((s.heap.update a (a4W λ_=>(#[]:Array Value))).push (seqObj "tuple" vs.toArray 0)).push (seqObj "list" #[] 0) };dsimp only;by_cases h2:vs.toArray.size < 2
 . rw[if_pos h2,if_pos h2];refine zZ (zY ?_);rw[StateT.run_pure];refine zZ (zY (zZ (seqEpoch_at kd rfl ?_)));have e3:(arrOf (SortSt.mk' general' (vs.toArray.zip vs.toArray) #[] 7 none)).map (·.2)=vs.toArray:=by show(vs.toArray.zip vs.toArray).map (·.2)=vs.toArray;apply Array.toList_inj.mp;rw[Array.toList_map,Array.toList_zip];exact List.map_snd_zip (zR _)
   rw[e3];refine zZ (listUpdate_at kd rfl ?_ (xU _) (by rw[zJ,sizeLine_eq];lia));simp only[bne_self_eq_false,Bool.false_eq_true,if_false];have:=h (a0V vs.length) (.refl _) (λi j au hj=>by lia);have e4:(a0V vs.length).map (λi=>vs.getD i a5Z)=vs:=by
     apply a9Z;intro i;rw[zF];by_cases hi:i < vs.length;. rw[yA hi];simp[hi]
     . rw[a3X (by simp;lia),a3X (by lia)];rfl
   rw[e4] at this;exact zY this
 . rw[if_neg h2,if_neg h2];have iW:2<=vs.length:=by lia
   have t6:=t.keep j_;obtain⟨fs,q1,q2,q3⟩:=t6.kat;refine zZ (kat_kind (T:=.type "str") q1 (by have:=t.1;lia) (λv hv=>?_) rfl ?_);. obtain⟨x,tt,rfl⟩:=q3 v hv;exact Looks.of_pure rfl
   have hn:vs.length=ns.length:=t.1;have S:Strict vs.length (λi j=>decide (i < vs.length)&&(decide (j < vs.length)&&decide ((ns.getD i "").cps.toList < (ns.getD j "").cps.toList))):=by
     refine⟨λi=>?_,λi j k a b=>?_,λi j hi hj au=>?_⟩;. simp[List.lt_irrefl]
     . simp only[a0W,decide_eq_true_eq] at a b ⊢;exact⟨a.1,b.2.1,List.lt_trans a.2.2 b.2.2⟩
     . simp only[a0W,decide_eq_true_eq,hi,hj,true_and];have ao:(ns.getD i "").cps.toList≠(ns.getD j "").cps.toList:=λe=>by
         have e':ns.getD i ""=ns.getD j "" := by generalize ns.getD i ""=x at e;generalize ns.getD j ""=y at e;obtain⟨⟨x⟩⟩:=x;obtain⟨⟨y⟩⟩:=y;simp at e;rw[e]
         rw[yU,yU,zV (by lia),zV (by lia)] at e';rcases Nat.lt_or_gt_of_ne au with q | q;. exact List.pairwise_iff_getElem.mp nd i j (by lia) (by lia) q e'
         . exact List.pairwise_iff_getElem.mp nd j i (by lia) (by lia) q e'.symm
       by_cases c:(ns.getD i "").cps.toList < (ns.getD j "").cps.toList;. exact .inl c
       . refine .inr ?_;rcases List.le_iff_lt_or_eq.mp (List.not_lt.mp c) with z | z;. exact z
         . exact absurd z.symm ao
   refine zZ (wpAny_mono (kat_run (ks:=vs) (G:=λp s'=>s'={ s with heap:=((s.heap.update a (a4W λ_=>(#[]:Array Value))).push (seqObj "tuple" vs.toArray 0)).push (seqObj "list" #[] 0) }/\Pm vs.length p/\Up _ p vs.length) (Q:=λcq s'=>s'={ s with heap:=((s.heap.update a (a4W λ_=>(#[]:Array Value))).push (seqObj "tuple" vs.toArray 0)).push (seqObj "list" #[] 0) }/\failedOf cq=none/\∃p:Array Nat,Pm vs.length p/\Up _ p vs.length/\(arrOf cq).map (·.2)=List.toArray (p.toList.map λi=>vs.getD i a5Z))
     rfl iW bi (λp cq s' a1 a2 a3 a4=>⟨a4.1,a3,p,a4.2.1,a4.2.2,kat_snds rfl a2⟩) ((UJ S (by lia)).wp (λi j C hi hj au hC=>?_) λp hp=>⟨rfl,hp.1,hp.2⟩)) ?_ λ_ _ e=>e)
   . refine WW t6 nd (by lia) (by lia) au ?_;simp only[hi,hj,decide_true,b2Z] at hC;exact hC
   . rintro⟨⟨⟩,cq⟩ s' ⟨rfl,hf,p,hp,hu,hm⟩;dsimp only;refine zZ (seqEpoch_at kd rfl ?_);rw[hm];refine zZ (listUpdate_at kd rfl ?_ (xU _) (by
       have z:=hp.length_eq;simp only[xZ,a5W] at z;simp only[zJ,zX,a5W];rw[sizeLine_eq];lia));rw[hf];simp only[bne_self_eq_false,Bool.false_eq_true,if_false];refine zY (h p.toList hp λi j au hj=>?_);have:=hu i j au hj;simp only[a0W,decide_eq_true_eq] at this;have ed:∀k,p.toList.getD k 0=p.getD k 0:=λk=>by rw[yU,a9V,a9J]
     rw[ed,ed];exact this.2.2
theorem JP {l:Addr}{vs:List Value}{Q:List Value->Shared->Prop}(hl:s.heap.IsList l vs.toArray\/s.heap.IsTuple l vs.toArray) (h:Q vs { s with heap:=(s.heap.push (seqObj "list" #[] 0)).update s.heap.objs.size (a4W (·++vs.toArray)) }) (hsz:vs.length<=sizeLine) :
   wpAny (model prog w) A (collect (.ref l)) Q E s:=by
 rcases hl with hl | ⟨o,ho,hc,n,hd⟩
 . exact collect_list hl h hsz
 unfold collect;refine zZ (wpAny_runValue (codeAny_builtin entry_proto_collect' ?_));show wpAny _ _ (do again (.builtin "list.__iadd__" ⟨[<-newList [],.ref l],[]⟩)) _ _ s;refine zZ (wpAny_newList (zY ⟨Code.quiet_builtin _ (by decide +kernel),codeAny_builtin entry_list_iadd' ?_⟩));show wpAny _ _ (Builtin.List.listExtendWith (.ref s.heap.objs.size) (.ref l) (.ref s.heap.objs.size)) _ _ { s with heap:=s.heap.push (seqObj "list" #[] 0) };unfold Builtin.List.listExtendWith;have cn:(s.heap.push (seqObj "list" #[] 0)).get? l=some o:=zW _ ho;refine zZ (wpAny_typeOf (T:= "tuple") ⟨o,cn,hc⟩ ?_);have ht:(Value.type "tuple" == Value.type "tuple")=true:=by rfl
 rw[if_pos (by rw[ht];simp)];refine zZ (listItems_at cn hd ?_);refine zZ (listItems_at (xs:=#[]) (n:=0) (yZ _ rfl) rfl ?_);rw[if_neg (by simp)];refine zZ (listUpdate_at (xs:=#[]) (n:=0) (yZ _ rfl) rfl ?_ (xU _) (by show(#[]++vs.toArray).size<=sizeLine+1;simp only[Array.size_append,zJ,List.length_nil];lia));refine zY ?_;show wpAny (model prog w) A (do
     let o <- load s.heap.objs.size
     match o.data with
     | .seq xs _=>pure xs.toList
     | _=>unsupported "internal:collect") Q E { s with heap:=(s.heap.push (seqObj "list" #[] 0)).update s.heap.objs.size (a4W (·++vs.toArray)) };refine zZ (wpAny_load (get?_update_seq (yZ _ rfl) _) ?_);show wpAny _ _ (pure ((#[]:Array Value)++vs.toArray).toList) Q E _;rw[show((#[]:Array Value)++vs.toArray).toList=vs by simp];exact zY h
theorem Q4 {l:Addr}{vs:List Value}{ns:List Str}{Q:Value->Shared->Prop}(hl:s.heap.IsList l vs.toArray\/s.heap.IsTuple l vs.toArray) (t:TupsN s.heap vs ns) (nd:ns.Nodup) (bi:vs.length < 64) (h:∀p:List Nat,p.Perm (a0V vs.length)->(∀i j,i < j->j < vs.length->(ns.getD (p.getD i 0) "").cps.toList < (ns.getD (p.getD j 0) "").cps.toList) ->
     Q (.ref (s.heap.objs.size+1)) { s with heap:=sortedAll s.heap vs (p.map λi=>vs.getD i a5Z).toArray }) :
   wpAny (model prog w) A (call (.builtin "sorted") [.ref l]) Q E s:=by
 refine b1Q kind_sorted plain_sorted entry_sorted (args_sorted1 _) ?_;unfold Builtin.«sorted»;refine zZ (m:=checkCount "sorted" 1 1 _) (zY (zZ (JP hl (zZ (wpAny_newList ?_ (by rw[sizeLine_eq];lia))) (by rw[sizeLine_eq];lia))));generalize hH:(s.heap.push (seqObj "list" #[] 0)).update s.heap.objs.size (a4W (·++vs.toArray))=H1;have hsz:H1.objs.size=s.heap.objs.size+1:=by rw[<-hH,Heap.size_update,size_push']
 have old:∀b o,s.heap.get? b=some o->(H1.push (seqObj "list" vs.toArray 0)).get? b=some o:=λb o q=>by refine zW _ ?_;rw[<-hH,Heap.get?_update_ne _ _ _ _ (zC (zM q))];exact zW _ q
 have fi:(H1.push (seqObj "list" vs.toArray 0)).get? (s.heap.objs.size+1)=some (seqObj "list" vs.toArray 0):=by rw[<-hsz];exact yZ _ rfl
 show wpAny _ _ _ _ _ { s with heap:=H1.push (seqObj "list" vs.toArray 0) };rw[hsz];refine zZ (wpAny_holding (wpAny_call_entry slot_list_sort ⟨_,fi,rfl⟩ entry_list_sort (L4 fi (t.keep λb o _ q=>old b o q) nd bi λp a1 a2=>⟨_,rfl,?_⟩) (args_list_sort _)));have:=h p a1 a2;unfold sortedAll at this;rw[hH] at this;exact zY ⟨_,rfl,this⟩
theorem Q5 {d:Addr}{kvs:List (Key×Value)}{ss:List Str}{Q:Value->Shared->Prop}(hh:A.handled=none) (hd:(d==sysModules)=false) (dd:s.heap.DictOf (AY prog w) d kvs) (hk:kvs.map (·.1)=ss.map a1X) (bi:ss.length < 64) (h:∀(h1 h':Heap) (tk:Nat) (out:List Value) (e:Nat) (av:List Str),(∀b o,s.heap.get? b=some o->h1.get? b=some o)->(∀b o,h1.get? b=some o->h'.get? b=some o)->h'.get? h1.objs.size=some (seqObj "list" out.toArray e)->StrsAre out av->av.Perm ss->sortedS av=true->Q (.ref h1.objs.size) { s with heap:=h',toks:=tk }) :
   wpAny (model prog w) A (call (.builtin "sorted") [.ref d]) Q E s:=by
 refine b1Q kind_sorted plain_sorted entry_sorted (args_sorted1 _) ?_;obtain⟨ep,kY⟩:=dd.dictAt;have ac:kvs.length=ss.length:=by have:=congrArg List.length hk;simpa using this
 unfold Builtin.«sorted»;refine zZ (m:=checkCount "sorted" 1 1 _) (zY (zZ (kdu_collect (A:=A.in1) (kdl_dict (kvs:=kvs) (ep:=ep) hd) hh kY (by rw[ac,sizeLine_eq];lia) λh' tk acc hold j0=>?_)));have hl:acc.toList.length=ss.length:=by rw[a5W,j0.1,ac]
 have hS:StrsAre acc.toList ss:=by
   have go:∀(vs:List Value) (zs:List Str),vs.length=zs.length->(∀(i:Nat) v x,vs[i]?=some v->zs[i]?=some x->∃t,v=b3Q x t)->StrsAre vs zs:=by
     intro vs;induction vs with
     | nil=>intro zs hz _;cases zs with
       | nil=>exact .nil
       | cons _ _=>simp at hz
     | cons v vs ih=>intro zs hz hv;cases zs with
       | nil=>simp at hz
       | cons x zs=> obtain⟨t,rfl⟩:=hv 0 v x rfl rfl;exact .cons x t (ih zs (by simpa using hz) λi v x e1 e2=>hv (i+1) v x (by simpa using e1) (by simpa using e2))
   refine go _ _ hl λi v x e1 e2=>?_;obtain⟨k,y,g1,g2⟩:=j0.2 i v (by rw[<-a9J];exact e1);have e3:(kvs.map (·.1))[i]?=some k:=by rw[zF,g1];rfl
   rw[hk,zF,e2] at e3;cases e3;have nz:JJ (.inr x) v=true:=g2;rcases AX nz with ⟨i,t,e,_⟩ | ⟨z,t,e,e'⟩
   . cases e
   . cases e;exact⟨t,e'⟩
 refine zZ (wpAny_newList ?_ (by rw[hl,sizeLine_eq];lia));have fi:(h'.push (seqObj "list" acc.toList.toArray 0)).get? h'.objs.size=some (seqObj "list" acc.toList.toArray 0):=yZ _ rfl;show wpAny _ _ _ _ _ { s with heap:=h'.push (seqObj "list" acc.toList.toArray 0),toks:=tk };refine zZ (wpAny_holding (wpAny_call_entry (s:={ s with heap:=h'.push (seqObj "list" acc.toList.toArray 0),toks:=tk }) slot_list_sort ⟨_,fi,rfl⟩ entry_list_sort (list_sort_treeK strKind_oneLt fi hS.keysOf (λv₁ v₂ rest e=>keyKind_strs (by rw[<-e];exact hS)) (by rw[hl];exact bi) λcq hp hs=>⟨_,rfl,?_⟩) (args_list_sort _)));obtain⟨av,h1,h2,h3⟩:=sorted_out_str hS hp hs;obtain⟨e,he⟩:=sortedHeap_at (out:=(arrOf cq).map (·.2)) fi;refine zY ⟨_,rfl,h h' _ tk ((arrOf cq).map (·.2)).toList e av hold (λb o q=>?_) (by rw[Array.toArray_toList];exact he) h1 h2 h3⟩;have lt:b < h'.objs.size:=zM q;rw[sortedHeap_old (zC lt) (by rw[size_push'];exact Nat.lt_succ_of_lt lt)];exact zW _ q
end
end L2
namespace L2
open PySem PySem.Spec PyProof.Rows
def tlD (prog:Program) (w:World) (A:Around) (kx vx:Expr):Env->Addr->(Shared->Prop)->Shared->Prop:=λenv D P s=>wpAny (model prog w) A (eval kx env) (λkv s₄=>wpAny (model prog w) A (eval vx env) (λvv s₅=>wpAny (model prog w) A (dictSet D kv vv) (λ_ s₆=>P s₆) (λ_ _=>False) s₅) (λ_ _=>False) s₄) (λ_ _=>False) s
theorem ZR {prog:Program}{w:World}{A:Around}{kx vx target iter:Expr}{ifs:List Expr}{scope:Scope}{pos:Pos}:RO prog w A (.DictComp kx vx [⟨target,iter,ifs,0⟩] scope pos) target ifs (tlD prog w A kx vx):=by
 intro it D env R I turn n s h;refine codeAny_loop rfl I (λn s hI=>?_) n h;show wpAny _ A ((compTurn (.DictComp kx vx [⟨target,iter,ifs,0⟩] scope pos) 0 (.ref it) (.ref D) env).onRaise (λx=>do noteFrame x env;theTreesLotGoes x)) _ _ s;refine wpAny_noted ?_;rw[compTurn_dict];refine zZ (wpAny_standAt (zZ (wpAny_mono (AW (turn n s hI)) (λr s₁ h₁=>?_) λ_ _ h'=>h')));cases r with
 | none=>exact zY h₁
 | some v=>
   refine zZ (wpAny_mono (AW h₁) (λ_ s₀ h₀=>?_) λ_ _ h'=>h');refine zZ (wpAny_mono (AW h₀) (λ_ s₂ h₂=>zZ (wpAny_mono (AW h₂) (λok s₃ h₃=>?_) λ_ _ h'=>h')) λ_ _ h'=>h');cases ok with
   | false=>exact zY ⟨rfl,h₃⟩
   | true=> exact zZ (zZ (wpAny_mono (AW h₃) (λkv s₄ h₄=>zZ (wpAny_holding (wpAny_mono (AW h₄) (λvv s₅ h₅=>zZ (wpAny_standAt (wpAny_holding (wpAny_mono (AW h₅) (λ_ s₆ h₆=>zY ⟨rfl,h₆⟩) λ_ _ h'=>h')))) λ_ _ h'=>h'))) λ_ _ h'=>h'))
theorem eF {X:Cx}{pins:List (Addr×Obj)}{σ:St}{H:Hp}{s:Shared}{a:Addr}{kvs:List (Key×V)}{k:Key}{v:V}{u r:Value}{A:Around}{E:Value->Shared->Prop}{Q:Unit->Shared->Prop} (I:Inv X pins σ H s) (e:H a=some (.dK kvs)) (l:kvs.length < sizeLine) (ry:RelV (kV k) u) (rv:RelV v r) (h:∀s',Inv X pins σ (upd H a (.dK (D0 kvs k v))) s'->Q () s'):wpAny (model X.prog X.w) A (dictSet a u r) Q E s:=by
 obtain⟨z,hd,vs,rel,dd⟩:=SS I.hok e;have hz:vs.length<=sizeLine:=by rw[<-rel.length];exact z
 have hl:(D0 kvs k v).length<=sizeLine:=by have:=E7 kvs k v;lia
 refine wpAny_dictSet_pairs (hsz:=hz) (JL ry) dd λh' e_ hs=>h _ ?_;have he:∃q,h'.get? a=some q:=let ⟨q,_,_,hq,_⟩:=e_;⟨q,hq⟩;exact HV I (by rw[e];exact a5J) hs he (KQ hl hd (rel.put k rv) e_)
def OF (fr:List (Option Nat)) (wi:TI) (g:TG) (tt:TT) (tk tv:TE):TE:=λσ H Q=>wi σ H λJ H1=>∀D,H1 D=none->∃W:Nat->Nat->List (Key×V)->Hp->Prop,(∃m,W 0 m [] (upd H1 D (.dK []))) /\∀i m ys H2,W i m ys H2->H2 D=some (.dK ys)/\((J.stop i H2/\Q (.ref D) H2)\/(J.go i H2/\∀x H3,J.yld i H2 x H3->g x (capt fr σ) H3 λσ2 H4=>
   (∀(i:Nat) v,(capt fr σ)[i]?=some (some v)->σ2[i]?=some (some v))/\tt σ2 H4 λc H5=>if c=true then tk σ2 H5 λx H6=>tv σ2 H6 λy H7=>∃bj k,x=kV k/\H7 D=some (.dK bj)/\bj.length < sizeLine/\∃m',m' < m/\W (i+1) m' (D0 bj k y) (upd H7 D (.dK (D0 bj k y)))
     else ∃bj m',m' < m/\W (i+1) m' bj H5))
section
variable {X:Cx}{scope:Scope}{NC:List Str}{fr:List (Option Nat)}{pins:List (Addr×Obj)}{σ:St}{H:Hp}{s:Shared}
theorem NE {kx vx iter tg:Expr}{ifs:List Expr}{pos ah:Pos}{wi:TI}{g:TG}{tt:TT}{tk tv:TE}{use:Option (Value->Sem Unit)}{Q:VK}{QQ:Value->Shared->Prop} (hc:X.calm=true) (S:CSc X scope NC fr) (hi:PI X tg iter wi) (hb:∀(C:Addr) (s:Shared) (H:Hp) (ex:List Addr) (pn:List (Addr×Obj)),PG (AT X scope NC C s H ex pn) tg g/\PTs (AT X scope NC C s H ex pn) ifs tt/\PE (AT X scope NC C s H ex pn) kx tk/\PE (AT X scope NC C s H ex pn) vx tv) (I:Inv X pins σ H s) (hu:X.A.units+1 < cLine) (h:OF fr wi g tt tk tv σ H Q) (fin:cX X pins σ use Q QQ) (hs:∀x,foldedSetIterable iter X.env x=pure x) :
   wpAny (model X.prog X.w) X.A (comprehension (.DictComp kx vx [⟨tg,iter,ifs,0⟩] scope pos) scope X.env ah newDict false (eval iter X.env) use) QQ X.xe s:=by refine N5 (y0:=[]) (at_:=.dK) (Ty:= "dict") (dt:=.dict #[]) (tl:=tlD X.prog X.w X.A kx vx) (el:=λD m W σ2 H5=>tk σ2 H5 λx H6=>tv σ2 H6 λy H7=>∃bj k,x=kV k/\H7 D=some (.dK bj)/\bj.length < sizeLine/\∃m',m' < m/\W m' (D0 bj k y) (upd H7 D (.dK (D0 bj k y)))) rfl rfl (by size_fits) (λH h b=>KR h b) ZR codeAny_compStart_dict hc S hi (λC s H ex pn=>⟨(hb C s H ex pn).1,(hb C s H ex pn).2.1,λgz s' σ H' D n W P I q k=>?_⟩) I h fin hs;refine thn ((hb C s H ex pn).2.2.1 _ s' σ H' _ I q) λyk kE ⟨kv,kF,kH,kI,n_⟩=>thn ((hb C s H ex pn).2.2.2 _ kE σ kF _ kH n_) λyv ni ⟨vv,nj,kJ,n4,bj,kk,ek,hD,hsz,m',i_,w'⟩=>?_;subst ek;exact eF (X:=AT X scope NC C s H ex pn) kJ hD hsz kI n4 λs' I'=>k m' _ _ _ i_ w' I'
theorem WX {kx vx iter tg:Expr}{ifs:List Expr}{pos:Pos}{wi:TI}{g:TG}{tt:TT}{tk tv:TE}(hc:X.calm=true) (hu:X.A.units+1 < cLine) (S:CSc X scope NC fr) (hi:PI X tg iter wi) (hb:∀(C:Addr) (s:Shared) (H:Hp) (ex:List Addr) (pn:List (Addr×Obj)),PG (AT X scope NC C s H ex pn) tg g/\PTs (AT X scope NC C s H ex pn) ifs tt/\PE (AT X scope NC C s H ex pn) kx tk/\PE (AT X scope NC C s H ex pn) vx tv) (hs:∀x,foldedSetIterable iter X.env x=pure x:=by intro _;rfl):PE X (.DictComp kx vx [⟨tg,iter,ifs,0⟩] scope pos) (OF fr wi g tt tk tv):=by intro pins s σ H Q I h;rw[arm_eval_DictComp];refine NE (use:=none) (Q:=Q) hc S hi hb I hu h (λD C H' s' m oC I' hn q back _ h' sb=>?_) hs;exact⟨.ref D,H',back pins σ H' s' h' I' sb,rfl,q⟩
end
end L2
namespace L2
open PySem PySem.Spec PyProof.Rows PySem.W
def WY (K:Frg):List V->Hp->VK->Prop:=λxs H Q=>∃(p:Addr) (es:List (Addr×Str×List V)),xs=[.ref p]/\(SqL K H p (es.map λe=>V.ref e.1)\/SqT K H p (es.map λe=>V.ref e.1))/\(∀e∈es,SqT K H e.1 (.str e.2.1::e.2.2))/\(es.map λe=>e.2.1).Nodup/\es.length < 64 /\∀(bp:List (Addr×Str×List V)) (q:Addr),bp.Perm es->bp.Pairwise (λx y=>x.2.1.cps.toList < y.2.1.cps.toList)->H q=none->Q (.ref q) (upd H q (.lst (bp.map λe=>V.ref e.1)))
def WZ:List V->Hp->VK->Prop:=λxs H Q=>∃(p:Addr) (kvs:List (Key×V)) (ss:List Str),xs=[.ref p]/\Rd H p (.dK kvs)/\kvs.map (·.1)=ss.map a1X/\ss.length < 64 /\∀(av:List Str) (q:Addr),av.Perm ss->sortedS av=true->H q=none->Q (.ref q) (upd H q (.lst (av.map V.str)))
def L5 (K:Frg):List V->Hp->VK->Prop:=λxs H Q=>WE K xs H Q\/WY K xs H Q\/WZ xs H Q
section
variable {X:Cx}
theorem NF:∀{es:List (Addr×Str×List V)}{ab:List Value},Vals (es.map λe=>V.ref e.1) ab->ab=es.map λe=>a0X e.1
 | [],_,.nil=>rfl
 | _::_,_,.cons r t=>by rw[NF t];cases r;rfl
theorem NG:∀{es:List (Addr×Str×List V)},Vals (es.map λe=>V.ref e.1) (es.map λe=>a0X e.1)
 | []=>.nil
 | _::_=>.cons rfl NG
theorem RW:BP X (.builtin "sorted") (WY X.K):=by
 intro pins s σ H xs us Q I r h;obtain⟨p,es,rfl,hp,ht,nd,bi,q⟩:=h;obtain⟨u,rfl,ru⟩:=GO r;cases ru;obtain⟨ab,rv,pl⟩:∃ab:List Value,Vals (es.map λe=>V.ref e.1) ab/\(s.heap.IsList p ab.toArray\/s.heap.IsTuple p ab.toArray):=by
   rcases hp with hp | hp;. obtain⟨ab,rv,pl,_⟩:=I.list hp;exact⟨ab,rv,.inl pl.isList⟩
   . obtain⟨ab,rv,pl,_⟩:=I.tuple hp;exact⟨ab,rv,.inr pl⟩
 have ei:=NF rv;subst ei;have tn:TupsN s.heap (es.map λe=>a0X e.1) (es.map λe=>e.2.1):=by
   refine⟨by simp,λi v nm e1 e2=>?_⟩;rw[zF] at e1 e2;cases he:es[i]? with
   | none=>rw[he] at e1;cases e1
   | some e=>
     rw[he] at e1 e2;cases e1;cases e2;obtain⟨js,rj,⟨o,ho,hc,n,hd⟩,_⟩:=I.tuple (ht e (yN he));cases rj with
     | cons r0 _=> obtain⟨t,rfl⟩:=r0;exact⟨e.1,o,_,n,t,rfl,ho,hc,hd,by simp⟩
 refine Q4 pl tn nd (by simpa using bi) λpm h1 h2=>?_;simp only[zX] at h1 h2;obtain⟨e,he⟩:=sortedAll_at s.heap (es.map λe=>a0X e.1) (pm.map λi=>(es.map λe=>a0X e.1).getD i a5Z).toArray;have hn:H (s.heap.objs.size+1)=none:=I.hok.fresh (b0W _);obtain⟨bp,h_⟩:∃bp:List (Addr×Str×List V),bp=pm.filterMap λi=>es[i]?:=⟨_,rfl⟩
 have fb:∀i∈pm,i < es.length:=λi hi=>List.mem_range.mp (h1.mem_iff.mp hi);have j1:∀(l:List Nat),(∀i∈l,i < es.length)->(l.filterMap λi=>es[i]?)=l.attach.map λi=>es.getD i.1 (0, "", []):=λl=>by
   intro hl;induction l with
   | nil=>rfl
   | cons a l ih=> have ha:=hl a (by simp);rw[a8X,zV ha];simp only[List.attach_cons,zI,zD];rw[ih λi hi=>hl i (yV _ hi)];simp[yU,zV ha]
 have ib:bp=pm.map λi=>es.getD i (0, "", []):=by rw[h_,j1 pm fb];simp
 have perm:bp.Perm es:=by
   rw[h_];refine(h1.filterMap _).trans ?_;rw[show((a0V es.length).filterMap λi=>es[i]?)=es from ?_];apply a9Z;intro i;have:((a0V es.length).filterMap λi=>es[i]?)=(a0V es.length).map λi=>es.getD i (0, "", []):=by rw[j1 _ λi hi=>List.mem_range.mp hi];simp
   rw[this,zF];by_cases hi:i < es.length;. rw[yA hi];simp[hi]
   . rw[a3X (by simp;lia),a3X (by lia)];rfl
 have outs:(pm.map λi=>(es.map λe=>a0X e.1).getD i a5Z)=bp.map λe=>a0X e.1:=by rw[ib,zD];apply yM;intro i hi;have hi:=fb i hi;simp[yU,zF,zV hi]
 have n5:pm.length=es.length:=by have:=h1.length_eq;simpa using this
 have n6:bp.Pairwise (λx y=>x.2.1.cps.toList < y.2.1.cps.toList):=by
   rw[ib,b1W,List.pairwise_iff_getElem];intro i j hi hj au;have:=h2 i j au (by lia);have g:∀k (hk:k < pm.length),(es.map λe=>e.2.1).getD (pm.getD k 0) (a0Q "")=(es.getD pm[k] (0, "", [])).2.1:=λk hk=>by have j2:=fb pm[k] (a0K hk);rw[yU (l:=pm),zV hk];simp[yU,zF,zV j2]
   rw[g i hi,g j hj] at this;exact this
 rw[outs] at he ⊢;refine⟨.ref (s.heap.objs.size+1),_,I.laid (t':=s.toks) (o:=.lst (bp.map λe=>V.ref e.1)) (λb o eb=>sortedAll_old eb) (b0W _) ?_,rfl,q bp _ perm n6 hn⟩;refine⟨by rw[zX,perm.length_eq];exact zN (xT bi) (by decide),bp.map λe=>a0X e.1,e,NG,?_⟩;have h_:=he;simpa [seqObj] using h_
theorem RX (hc:X.calm=true):BP X (.builtin "sorted") WZ:=by
 intro pins s σ H xs us Q I r h;obtain⟨p,kvs,ss,rfl,hp,hk,bi,q⟩:=h;obtain⟨u,rfl,ru⟩:=GO r;cases ru;obtain⟨z,hd,vs,rel,dd⟩:=HU I.hok hp;have j2:vs.map (·.1)=ss.map a1X:=by
   rw[<-hk];clear hk dd z hp q;unfold KV at rel;induction rel with
   | nil=>rfl
   | cons h t ih=>simp[h.1,ih]
 refine Q5 (I.ok.hd hc) hd dd j2 bi λh1 h' tk out e av k1 k2 ho hS ic j3=>?_;have I1:Inv X pins σ H { s with heap:=h1,toks:=tk }:=I.kept k1;have hn:H h1.objs.size=none:=I1.hok.fresh (zR _);refine⟨.ref h1.objs.size,_,I1.laid (t':=tk) (o:=.lst (av.map V.str)) (h':=h') k2 (zR _) ?_,rfl,q av _ ic j3 hn⟩;refine⟨by rw[zX,ic.length_eq];exact zN (xT bi) (by decide),out,e,T5 hS,?_⟩;simpa [seqObj] using ho
theorem RY (hc:X.calm=true):BP X (.builtin "sorted") (L5 X.K):=by
 intro pins s σ H xs us Q I r h;rcases h with h | h | h;. exact RQ pins s σ H xs us Q I r h
 . exact RW pins s σ H xs us Q I r h
 . exact RX hc pins s σ H xs us Q I r h
end
end L2
namespace DL
open PySem PySem.Spec L2
def AL (ts:List (Str×PyData)):List (PyData×PyData):=ts.map λt=>(a0Z t.1,t.2)
def MH (ts:List (Str×PyData)) (k:Str) (d:PyData):List (Str×PyData):=
 if (ts.any λt=>decide (t.1=k))=true then ts.map (λt=>if t.1=k then (t.1,d) else t) else ts++[(k,d)]
def Q6 (ts:List (Str×PyData)) (k:Str):List (Str×PyData):=ts.filter λt=>decide (t.1≠k)
def CD:List (Str×PyData)->Str->Option PyData
 | [],_=>none
 | t::r,k=>if t.1=k then some t.2 else CD r k
section
variable {K:Frg}{H:Hp}{W:Addr->Prop}
theorem BD {t:Str×PyData}{ts:List (Str×PyData)}{ks:List (Key×V)}:DKV K H W (AL (t::ts)) ks↔∃v r,ks=(a1X t.1,v)::r/\DV K H W t.2 v/\DKV K H W (AL ts) r:=by
 unfold AL;rw[zI];constructor
 . intro h;unfold DKV at h;obtain⟨k',v,r,e,e2,h1,h2⟩:=h;cases k' with
   | inl i=>cases e2
   | inr x=>
     have e3:t.1=x:=by simpa [gE] using e2
     subst e3;exact⟨v,r,e,h1,h2⟩
 . rintro⟨v,r,e,h1,h2⟩;unfold DKV;exact⟨a1X t.1,v,r,e,rfl,h1,h2⟩
theorem CK {ks:List (Key×V)}:DKV K H W (AL []) ks↔ks=[]:=by unfold AL;simp only[a6W];unfold DKV;exact Iff.rfl
theorem Q7:∀{ts:List (Str×PyData)}{ks:List (Key×V)},DKV K H W (AL ts) ks->ks.map (·.1)=(ts.map (·.1)).map a1X
 | [],ks,h=>by rw[CK.mp h];rfl
 | t::ts,ks,h=>by obtain⟨v,r,rfl,_,h2⟩:=BD.mp h;simp[Q7 h2]
theorem T6 {k:Str}:∀{ts:List (Str×PyData)}{ks:List (Key×V)},DKV K H W (AL ts) ks->(ks.any λkv=>decide (kv.1=a1X k))=ts.any λt=>decide (t.1=k)
 | [],ks,h=>by rw[CK.mp h];rfl
 | t::ts,ks,h=>by
   obtain⟨v,r,rfl,_,h2⟩:=BD.mp h;rw[a8V,a8V,T6 h2];congr 1;by_cases e:t.1=k;. rw[decide_eq_true e,decide_eq_true (by rw[e])]
   . rw[decide_eq_false e,decide_eq_false λq=>e (by injection q)]
theorem L6 {k:Str}{d:PyData}{v:V}(hd:DV K H W d v):∀{ts:List (Str×PyData)}{ks:List (Key×V)},DKV K H W (AL ts) ks ->
   DKV K H W (AL (ts.map λt=>if t.1=k then (t.1,d) else t)) (ks.map λkv=>if kv.1=a1X k then (kv.1,v) else kv)
 | [],ks,h=>by rw[CK.mp h];exact CK.mpr rfl
 | t::ts,ks,h=>by
   obtain⟨u,r,rfl,h1,h2⟩:=BD.mp h;rw[zI,zI];by_cases e:t.1=k;. rw[if_pos e,if_pos (by rw[e])];exact BD.mpr ⟨v,_,rfl,hd,L6 hd h2⟩
   . rw[if_neg e,if_neg λq=>e (by injection q)];exact BD.mpr ⟨u,_,rfl,h1,L6 hd h2⟩
theorem Q8 {k:Str}{d:PyData}{v:V}(hd:DV K H W d v):∀{ts:List (Str×PyData)}{ks:List (Key×V)},DKV K H W (AL ts) ks->DKV K H W (AL (ts++[(k,d)])) (ks++[(a1X k,v)])
 | [],ks,h=>by rw[CK.mp h];exact BD.mpr ⟨v,[],rfl,hd,CK.mpr rfl⟩
 | t::ts,ks,h=>by obtain⟨u,r,rfl,h1,h2⟩:=BD.mp h;exact BD.mpr ⟨u,_,rfl,h1,Q8 hd h2⟩
theorem T7 {k:Str}{d:PyData}{v:V}{ts:List (Str×PyData)}{ks:List (Key×V)}(h:DKV K H W (AL ts) ks) (hd:DV K H W d v):DKV K H W (AL (MH ts k d)) (D0 ks (a1X k) v):=by
 unfold MH D0;rw[T6 h];by_cases c:(ts.any λt=>decide (t.1=k))=true;. rw[if_pos c,if_pos c];exact L6 hd h
 . rw[if_neg c,if_neg c];exact Q8 hd h
theorem Q9 {k:Str}:∀{ts:List (Str×PyData)}{ks:List (Key×V)},DKV K H W (AL ts) ks->DKV K H W (AL (Q6 ts k)) (KO ks (a1X k))
 | [],ks,h=>by rw[CK.mp h];exact CK.mpr rfl
 | t::ts,ks,h=>by
   obtain⟨u,r,rfl,h1,h2⟩:=BD.mp h;have ih:=Q9 (k:=k) h2;unfold Q6 KO at ih ⊢;by_cases e:t.1=k;. rw[a6Q,a6Q,if_neg (by simp[e]),if_neg (by simp[e])];exact ih
   . rw[a6Q,a6Q,if_pos (by simpa using e),if_pos (by simp;exact e)];exact BD.mpr ⟨u,_,rfl,h1,ih⟩
theorem ET {k:Str}:∀{ts:List (Str×PyData)}{ks:List (Key×V)},DKV K H W (AL ts) ks->(∃d v,CD ts k=some d/\GM ks (a1X k)=some v/\DV K H W d v)\/(CD ts k=none/\GM ks (a1X k)=none)
 | [],ks,h=>by rw[CK.mp h];exact .inr ⟨rfl,rfl⟩
 | t::ts,ks,h=>by
   obtain⟨u,r,rfl,h1,h2⟩:=BD.mp h;by_cases e:t.1=k;. exact .inl ⟨t.2,u,by simp[CD,e],HS (by rw[e]),h1⟩
   . have e':¬(a1X t.1:Key)=a1X k:=λq=>e (by injection q);rcases ET (k:=k) h2 with ⟨d,v,a1,a2,a3⟩ | ⟨a1,a2⟩
     . exact .inl ⟨d,v,by simp[CD,e,a1],by rw[FP (p:=(a1X t.1,u)) e'];exact a2,a3⟩
     . exact .inr ⟨by simp[CD,e,a1],by rw[FP (p:=(a1X t.1,u)) e'];exact a2⟩
theorem KD:∀{kvs:List (PyData×PyData)}{ks:List (Key×V)},DKV K H W kvs ks->ks.length=kvs.length
 | [],ks,h=>by unfold DKV at h;subst h;rfl
 | (k,d)::r,ks,h=>by unfold DKV at h;obtain⟨_,_,_,rfl,_,_,h2⟩:=h;simp[KD h2]
end
section
variable {K:Frg}{M:Own}{Q:DS->Own->Prop}{ρ:List (Option DS)}{H:Hp}{td ty tv:TE}{D:EndsD}
theorem C6 (h:DE K td ρ M λx M1=>DE K ty ρ M1 λy M2=>∃(a:Addr) (ts:List (Str×PyData)) (k:Str) (d:PyData),x = .loc a/\y = .d (.str k)/\M2 a=some (.d (AL ts))/\CD ts k=some d/\Q (.d d) M2):DE K (VJ td ty) ρ M Q:=λσ H QQ R kk=>
 h σ H _ R λv H1 x M1 o1 s1 t1 h1=>h1 σ H1 _ (R.step o1 t1) λu H2 y M2 o2 s2 t2 h2=>by
   obtain⟨a,ts,k,d,rfl,rfl,m,l,q⟩:=h2;unfold SI at s1;subst s1;rw[BO s2];obtain⟨ks,e1,e2⟩:=o2 a _ m;rcases ET (k:=k) e2 with ⟨d',w',a1,a2,a3⟩ | ⟨a1,a2⟩
   . rw[l] at a1;cases a1;exact⟨a,w',rfl,.inl ⟨ks,a1X k,.inl e1,rfl,a2.symm⟩,kk _ H2 (.d d) M2 o2 a3 (t1.trans t2) q⟩
   . rw[l] at a1;cases a1
theorem IB (h:DE K td ρ M λx M1=>DE K ty ρ M1 λy M2=>∃(ts:List (Str×PyData)) (k:Str) (d:PyData),x = .d (.dict (AL ts))/\y = .d (.str k)/\CD ts k=some d/\Q (.d d) M2):DE K (VJ td ty) ρ M Q:=λσ H QQ R kk=>
 h σ H _ R λv H1 x M1 o1 s1 t1 h1=>h1 σ H1 _ (R.step o1 t1) λu H2 y M2 o2 s2 t2 h2=>by
   obtain⟨ts,k,d,rfl,rfl,l,q⟩:=h2;have iV:=s1.step t2;unfold SI DV at iV;obtain⟨a,ks,rfl,nw,e1,e2⟩:=iV;rw[BO s2];rcases ET (k:=k) e2 with ⟨d',w',a1,a2,a3⟩ | ⟨a1,a2⟩
   . rw[l] at a1;cases a1;exact⟨a,w',rfl,.inl ⟨ks,a1X k,e1,rfl,a2.symm⟩,kk _ H2 (.d d) M2 o2 a3 (t1.trans t2) q⟩
   . rw[l] at a1;cases a1
theorem KF (h:DE K ty ρ M λy M1=>DE K td ρ M1 λx M2=>∃(a:Addr) (ts:List (Str×PyData)) (k:Str),x = .loc a/\y = .d (.str k)/\M2 a=some (.d (AL ts))/\Q (.d (.bool (CD ts k).isSome)) M2):DE K (gA ty td) ρ M Q:=λσ H QQ R kk=>
 h σ H _ R λv H1 x M1 o1 s1 t1 h1=>h1 σ H1 _ (R.step o1 t1) λu H2 y M2 o2 s2 t2 h2=>by
   obtain⟨a,ts,k,rfl,rfl,m,q⟩:=h2;unfold SI at s2;subst s2;rw[BO s1];obtain⟨ks,e1,e2⟩:=o2 a _ m;refine⟨a,GM ks (a1X k),rfl,.inl ⟨ks,a1X k,.inl e1,rfl,rfl⟩,kk _ H2 _ M2 o2 ?_ (t1.trans t2) q⟩;rcases ET (k:=k) e2 with ⟨d',w',a1,a2,a3⟩ | ⟨a1,a2⟩
   . rw[a1,a2];exact AV
   . rw[a1,a2];exact AV
theorem CL (h:DE K tv ρ M λz M1=>DE K td ρ M1 λx M2=>DE K ty ρ M2 λy M3=>∃(a:Addr) (ts:List (Str×PyData)) (k:Str) (d:PyData),z = .d d/\x = .loc a/\y = .d (.str k)/\M3 a=some (.d (AL ts))/\ts.length < sizeLine/\D.nx ρ (M3.put a (.d (AL (MH ts k d))))):DSt K (aS td ty tv) ρ M D:=λσ H E R k1 k2 k3 k4=>
 h σ H _ R λv H1 z M1 o1 s1 t1 h1=>h1 σ H1 _ (R.step o1 t1) λu H2 x M2 o2 s2 t2 h2=>h2 σ H2 _ (R.step o2 (t1.trans t2)) λyv H3 y M3 o3 s3 t3 h3=>by
   obtain⟨a,ts,k,d,rfl,rfl,rfl,m,hl,q⟩:=h3;unfold SI at s2;subst s2;rw[BO s3];obtain⟨ks,e1,e2⟩:=o3 a _ m;have hd:DV K H3 M3.W d v:=DV.grow (t2.trans t3).grow s1;obtain⟨o4,t4⟩:=FB o3 m (T7 (k:=k) e2 hd);have ac:ks.length < sizeLine:=by rw[KD e2];unfold AL;rw[zX];exact hl
   have ta:=((t1.trans t2).trans t3).trans t4;exact⟨a,_,rfl,.inl ⟨ks,a1X k,e1,rfl,ac,rfl⟩,k1 ρ _ σ _ (R.step o4 ta) ta q⟩
theorem OG (h:DE K td ρ M λx M1=>∃(a:Addr) (lS:List (Str×PyData)),x = .loc a/\M1 a=some (.d (AL lS))/\DE K ty ρ M1 λy M2=>∃(ts:List (Str×PyData)) (k:Str) (d:PyData),y = .d (.str k)/\M2 a=some (.d (AL ts))/\CD ts k=some d/\Q (.d d) (M2.put a (.d (AL (Q6 ts k))))):DE K (VN td ty) ρ M Q:=λσ H QQ R kk=>
 h σ H _ R λv H1 x M1 o1 s1 t1 h1=>by
   obtain⟨a,lS,rfl,m0,h1⟩:=h1;unfold SI at s1;subst s1;obtain⟨n8,e0,_⟩:=o1 a _ m0;refine⟨a,rfl,.inl ⟨n8,.inl e0⟩,h1 σ H1 _ (R.step o1 t1) λu H2 y M2 o2 s2 t2 h2=>?_⟩;obtain⟨ts,k,d,rfl,m,l,q⟩:=h2;rw[BO s2];obtain⟨ks,e1,e2⟩:=o2 a _ m;rcases ET (k:=k) e2 with ⟨d',w',a1,a2,a3⟩ | ⟨a1,a2⟩
   . rw[l] at a1;cases a1;obtain⟨o4,t4⟩:=FB o2 m (Q9 (k:=k) e2);exact⟨ks,a1X k,w',e1,rfl,a2,kk _ _ (.d d) _ o4 (DV.grow t4.grow a3) ((t1.trans t2).trans t4) q⟩
   . rw[l] at a1;cases a1
theorem X0 {a:Addr}{ts:List (Str×PyData)}(m:M a=some (.d (AL ts))) (bi:ts.length < 64) (q:∀ss:List Str,ss.Perm (ts.map (·.1))->xH ss=true->Q (.d (.list (ss.map .str))) M):DR K (L5 K) [.loc a] M Q:=λH vs QQ oa s k=>by obtain⟨v,r,rfl,h1,h2⟩:=s;cases h2;unfold SI at h1;subst h1;obtain⟨ks,e1,e2⟩:=oa a _ m;refine .inr (.inr ⟨a,ks,ts.map (·.1),rfl,.inl e1,Q7 e2,by rw[zX];exact bi,λav p h3 h4 hp=>?_⟩);have g:Grow K M.W M.W H (upd H p (.lst (av.map V.str))):=BJ _ hp;refine k _ _ (.d (.list (av.map .str))) M (oa.new hp) ?_ ⟨g⟩ (q av h3 h4);unfold SI DV;exact⟨p,_,rfl,.inl ⟨λw=>w (oa.none hp),.inl AM⟩,FS⟩
def J5 (t:Str×List PyData):PyData:=.tuple (.str t.1::t.2)
theorem QA {W:Addr->Prop}:∀{ts:List (Str×List PyData)}{vs:List V},DVs K H W (ts.map J5) vs->∃es:List (Addr×Str×List V),vs=es.map (λe=>V.ref e.1)/\es.map (λe=>e.2.1)=ts.map (·.1)/\(∀e∈es,SqT K H e.1 (.str e.2.1::e.2.2)) /\
   es.length=ts.length/\∀(i:Nat) e t,es[i]?=some e->ts[i]?=some t->DV K H W (J5 t) (.ref e.1)/\e.2.1=t.1
 | [],vs,h=>by unfold DVs at h;subst h;exact⟨[],rfl,rfl,(λe he=>by simp at he),rfl,λi e t h1 h2=>by simp at h1⟩
 | t::ts,vs,h=>by
   rw[zI] at h;unfold DVs at h;obtain⟨v,r,rfl,h1,h2⟩:=h;obtain⟨es,rfl,e2,e3,e4,e5⟩:=QA h2;have j4:=h1;unfold J5 DV at j4;obtain⟨a,us,rfl,hw,hd⟩:=j4;unfold DVs at hd;obtain⟨u,n9,rfl,hu,oy⟩:=hd;unfold DV at hu;subst hu;refine⟨(a,t.1,n9)::es,rfl,by simp[e2],λe he=>?_,by simp[e4],λi e t' h3 h4=>?_⟩
   . rcases yX.mp he with rfl | he;. exact hw.sq
     . exact e3 e he
   . cases i with
     | zero=>simp at h3 h4;subst h3 h4;exact⟨h1,rfl⟩
     | succ i=>exact e5 i e t' (by simpa using h3) (by simpa using h4)
theorem QC {W:Addr->Prop}:∀{es:List (Addr×Str×List V)}{ts:List (Str×List PyData)},es.length=ts.length->(∀(i:Nat) e t,es[i]?=some e->ts[i]?=some t->DV K H W (J5 t) (.ref e.1))->DVs K H W (ts.map J5) (es.map λe=>V.ref e.1)
 | [],[],_,_=>by simp only[a6W];exact DVs.nil
 | [],_::_,h,_=>by simp at h
 | _::_,[],h,_=>by simp at h
 | e::es,t::ts,h,k=>by rw[zI,zI];exact DVs.cons (k 0 e t rfl rfl) (QC (by simpa using h) λi e t h1 h2=>k (i+1) e t (by simpa using h1) (by simpa using h2))
theorem RZ {α β:Type}:∀{as ke:List α},ke.Perm as->∀{bs:List β},as.length=bs.length->∃j5:List β,j5.Perm bs/\(ke.zip j5).Perm (as.zip bs)/\ke.length=j5.length:=by
 intro as ke h;induction h with
 | nil=>intro bs hl;exact⟨bs,.refl _,.refl _,hl⟩
 | cons x _ ih=>
   intro bs hl;cases bs with
   | nil=>simp at hl
   | cons b bs=> obtain⟨j5,h1,h2,h3⟩:=ih (bs:=bs) (by simpa using hl);exact⟨b::j5,h1.cons b,by rw[a4V,a4V];exact h2.cons _,by simp[h3]⟩
 | swap x y l=>
   intro bs hl
   match bs,hl with
   | b1::b2::bs,hl=>exact⟨b2::b1::bs,.swap _ _ _,by simp only[a4V];exact .swap _ _ _,by simpa using hl⟩
 | trans p1 p2 ih1 ih2=> intro bs hl;obtain⟨b2,h1,h2,h3⟩:=ih2 hl;obtain⟨b3,g1,g2,g3⟩:=ih1 h3;exact⟨b3,g1.trans h1,g2.trans h2,g3⟩
theorem L7 {a:Addr}{ts:List (Str×List PyData)}{vs:List V}{QQ:VK}(oa:OA K H M) (hl:SqL K H a vs\/SqT K H a vs) (hd:DVs K H M.W (ts.map J5) vs) (nd:(ts.map (·.1)).Nodup) (bi:ts.length < 64) (k:∀(w:V) (H':Hp) (z:DS) (M':Own),OA K H' M'->SI K H' M' z w->Step K M M' H H'->(∃df:List (Str×List PyData),df.Perm ts/\df.Pairwise (λx y=>x.1.cps.toList < y.1.cps.toList)/\z = .d (.list (df.map J5))/\M'=M)->QQ w H'):L5 K [.ref a] H QQ:=by
 obtain⟨es,rfl,e2,e3,e4,e5⟩:=QA hd;refine .inr (.inl ⟨a,es,rfl,hl,e3,by rw[e2];exact nd,by rw[e4];exact bi,λbp p hp hs hn=>?_⟩);obtain⟨df,p1,p2,p3⟩:=RZ hp e4;have each:∀(i:Nat) e t,bp[i]?=some e->df[i]?=some t->DV K H M.W (J5 t) (.ref e.1)/\e.2.1=t.1:=λi e t h1 h2=>by have hz:(e,t)∈es.zip ts:=p2.mem_iff.mp (yN (i:=i) (by rw[List.getElem?_zip_eq_some];exact⟨h1,h2⟩));obtain⟨j,hj⟩:=List.getElem?_of_mem hz;rw[List.getElem?_zip_eq_some] at hj;exact e5 j e t hj.1 hj.2
 have g:Grow K M.W M.W H (upd H p (.lst (bp.map λe=>V.ref e.1))):=BJ _ hn;refine k _ _ (.d (.list (df.map J5))) M (oa.new hn) ?_ ⟨g⟩ ⟨df,p1,?_,rfl,rfl⟩;. unfold SI DV;exact⟨p,_,rfl,.inl ⟨λw=>w (oa.none hn),.inl AM⟩,(QC p3 λi e t h1 h2=>(each i e t h1 h2).1).grow g⟩
 . rw[List.pairwise_iff_getElem] at hs ⊢;intro i j hi hj au;have hi':i < bp.length:=by lia
   have hj':j < bp.length:=by lia
   have:=hs i j hi' hj' au;rw[(each i bp[i] df[i] (zV hi') (zV hi)).2,(each j bp[j] df[j] (zV hj') (zV hj)).2] at this;exact this
theorem X1 {ts:List (Str×List PyData)}(nd:(ts.map (·.1)).Nodup) (bi:ts.length < 64) (q:∀df:List (Str×List PyData),df.Perm ts->df.Pairwise (λx y=>x.1.cps.toList < y.1.cps.toList)->Q (.d (.list (df.map J5))) M):DR K (L5 K) [.d (.list (ts.map J5))] M Q:=λH vs QQ oa s k=>by obtain⟨v,r,rfl,h1,h2⟩:=s;cases h2;unfold SI DV at h1;obtain⟨a,vs,rfl,hl,hd⟩:=h1;exact L7 oa (.inl hl.sq) hd nd bi λw H' z M' o si st ⟨df,p1,p2,e1,e2⟩=>by subst e1 e2;exact k w H' _ _ o si st (q df p1 p2)
end
end DL
namespace DL
open PySem PySem.Spec L2
section
variable {X:Cx}{K:Frg}
theorem eG (h:X.K=K) (hc:X.calm=true):BP X (.builtin "sorted") (L5 K):=h▸RY hc
end
section
variable {K:Frg}{M:Own}{ρ:List (Option DS)}{wi:TI}{g:TG}{H:Hp}
theorem X2 {ts:List (Str×PyData)}{k:Str}{d:PyData}(h:k∉ts.map (·.1)):MH ts k d=ts++[(k,d)]:=by unfold MH;rw[if_neg];intro e;obtain⟨t,ht,e⟩:=List.any_eq_true.mp e;exact h (zL.mpr ⟨t,ht,by simpa using e⟩)
theorem QD {fr:List (Option Nat)}{tt:TT}{tk tv:TE}{T:List Nat}{Q:DS->Own->Prop}(ho:N7 g T) (hT:∀i∈T,∀j,fr[i]?≠some (some j)) (h:DI K wi ρ M λds M1=>ds.length < sizeLine/\∃(c:PyData->Bool) (f:PyData->Str) (w:PyData->PyData),((ds.filter c).map f).Nodup /\(∀d∈ds,∀M',DG K g d (JM fr ρ) M' λρ2 M2=>M2=M'/\DT K tt ρ2 M2 λb M3=>M3=M'/\b=c d/\(c d=true->DE K tk ρ2 M3 λy M4=>y = .d (.str (f d))/\M4=M'/\DE K tv ρ2 M4 λz M5=>z = .d (w d)/\M5=M')) /\∀p,M1 p=none->Q (.loc p) (M1.put p (.d (AL ((ds.filter c).map λd=>(f d,w d)))))) :
   DE K (OF fr wi g tt tk tv) ρ M Q:=λσ H QQ R k=>
 h σ H _ R λJ ds H1 M1 o1 t1 wd ⟨hsz,c,f,w,nd,he,hq⟩=>by
   intro A hA;obtain⟨oA,sA⟩:=HX (kvs:=[]) (ks:=[]) o1 hA (by unfold DKV;rfl);have hM:=o1.none hA;let acc:Nat->List (Str×PyData):=λi=>((ds.take i).filter c).map λd=>(f d,w d)
   refine⟨λi m ys H2=>m=ds.length - i/\i<=ds.length/\H2 A=some (.dK ys)/\OA K H2 (M1.put A (.d (AL (acc i))))/\Step K M1 (M1.put A (.d (AL (acc i)))) H1 H2,⟨_,rfl,xU _,AM,oA,sA⟩,?_⟩;rintro i m ys H2 ⟨rfl,hi,jp,oa,st⟩;refine⟨jp,?_⟩;by_cases c_:i < ds.length
   . refine .inr ⟨wd.go i H2 _ c_ oa st,λx H3 y=>?_⟩;obtain⟨kR,eh,d,e1,e2⟩:=wd.yld i H2 _ x H3 oa st c_ y;have Rc:Rel K (M1.put A (.d (AL (acc i)))) (JM fr ρ) (L2.capt fr σ) H3:=((R.step o1 t1).step kR (st.trans eh)).capt;have ts:(ds.take (i+1)).filter c=(ds.take i).filter c++(if c d then [d] else []):=take_succ_filter c ds i d e1;refine ho _ _ _ _ (he d (yN e1) _ (L2.capt fr σ) H3 x _ Rc e2 λρ3 M3 σ3 H4 R3 gr ⟨eM,b3⟩ hext=>⟨λi' v' jr=>?_,?_⟩);. obtain⟨j,f1,f2⟩:=J2 jr;rw[hext i' λhm=>hT i' hm j f1];exact jr
     . subst eM;refine b3 σ3 H4 _ R3 λb H5 M5 o5 eu ⟨nC,eb,h5⟩=>?_;subst nC;have sx:=((st.trans eh).trans gr).trans eu;cases hb:c d with
       | false=>
         rw[hb] at eb;subst eb;rw[if_neg nft];obtain⟨ks,q1,q2⟩:=o5 A _ zU;have ea:acc (i+1)=acc i:=by show(((ds.take (i+1)).filter c).map _)=_;rw[ts,hb];simp[acc]
         refine⟨ks,ds.length - (i+1),by lia,rfl,c_,q1,?_,?_⟩;. rw[ea];exact o5
         . rw[ea];exact sx
       | true=>
         rw[hb] at eb;subst eb;rw[if_pos rfl];refine h5 hb σ3 H5 _ (R3.step o5 eu) λy H6 z M6 o6 s6 jY ⟨ez,nD,h6⟩=>?_;subst ez nD;refine h6 σ3 H6 _ ((R3.step o5 eu).step o6 jY) λy2 H7 z2 M7 o7 s7 jk ⟨nE,nG⟩=>?_;subst nE nG;obtain⟨ks,q1,q2⟩:=o7 A _ zU;obtain⟨w1,w2⟩:=FB o7 zU (T7 (k:=f d) q2 s7);have kZ:f d∉(acc i).map (·.1):=by
           intro hm;have:((ds.take (i+1)).filter c).map f=(acc i).map (·.1)++[f d]:=by rw[ts,hb];simp[acc]
           have lT:(((ds.take (i+1)).filter c).map f).Nodup:=by refine nd.sublist ?_;exact((List.take_sublist _ _).filter _).map _
           rw[this,List.nodup_append] at lT;exact lT.2.2 _ hm _ (by simp) rfl
         have ea:acc (i+1)=MH (acc i) (f d) (w d):=by rw[X2 kZ];show(((ds.take (i+1)).filter c).map _)=_;rw[ts,hb];simp[acc]
         have ac:ks.length < sizeLine:=by rw[KD q2];unfold AL;rw[zX];refine zQ ?_ hsz;show(((ds.take i).filter c).map _).length<=_;rw[zX];exact zN (yJ _ _) (by rw[a0J];lia)
         rw[yI] at w1 w2;refine⟨ks,a1X (f d),BO s6,q1,ac,ds.length - (i+1),by lia,rfl,c_,AM,?_,?_⟩;. rw[ea];exact w1
         . rw[ea];exact((sx.trans jY).trans jk).trans w2
   . have e:i=ds.length:=by lia
     subst e;refine .inl ⟨wd.stop H2 _ oa st,k _ H2 (.loc A) _ oa rfl (t1.trans st) ?_⟩;have:=hq A hM;have ea:acc ds.length=(ds.filter c).map λd=>(f d,w d):=by show(((ds.take ds.length).filter c).map _)=_;rw[a2Z]
     rw[ea];exact this
theorem X3 {D:EndsD}{i j:Nat}{ta:TA}(h:DA K ta ρ M λxs M1=>∃x y,xs=[x,y]/\D.nx ((ρ.set i (some x)).set j (some y)) M1):DSt K (fQ i j ta) ρ M D:=λσ H E R k1 _ _ _=>
 h σ H _ R λvs H1 xs M1 o1 s1 t1 h1=>by obtain⟨x,y,rfl,q⟩:=h1;obtain⟨v,r,rfl,sx,s2⟩:=s1;obtain⟨w,r',rfl,sy,s3⟩:=s2;cases s3;exact⟨v,w,rfl,k1 _ M1 _ H1 (((R.step o1 t1).set sx i).set sy j) t1 q⟩
end
end DL
namespace DL
open PySem PySem.Spec L2
inductive Deed where
 | put (x:Str) (p k:Int) | take (x:Str) | move (x:Str) (p:Int) | count (x:Str) (k:Int) | name (x y:Str) | split (x y:Str) (p k:Int) | join (x y:Str)
def Deed.d:Deed->PyData
 | .put x p k=>.tuple [.str (a0Q "put"),.str x,.int p,.int k]
 | .take x=>.tuple [.str (a0Q "take"),.str x]
 | .move x p=>.tuple [.str (a0Q "move"),.str x,.int p]
 | .count x k=>.tuple [.str (a0Q "count"),.str x,.int k]
 | .name x y=>.tuple [.str (a0Q "name"),.str x,.str y]
 | .split x y p k=>.tuple [.str (a0Q "split"),.str x,.str y,.int p,.int k]
 | .join x y=>.tuple [.str (a0Q "join"),.str x,.str y]
def Deed.names:Deed->List Str
 | .put x _ _=>[x] | .take x=>[x] | .move x _=>[x] | .count x _=>[x] | .name x y=>[x,y] | .split x y _ _=>[x,y] | .join x y=>[x,y]
def Deed.ok (D:Deed):Prop:=∀x∈D.names,HZ x
theorem S0 {z:Str}(h:HZ z):zH (.str z)=true:=ES (CG h) (by simp[a1J])
def Deed.word:Deed->Str
 | .put .. => "put" | .take .. => "take" | .move .. => "move" | .count .. => "count" | .name .. => "name" | .split .. => "split" | .join .. => "join"
def Deed.fst:Deed->Str
 | .put x _ _=>x | .take x=>x | .move x _=>x | .count x _=>x | .name x _=>x | .split x _ _ _=>x | .join x _=>x
def Deed.rest:Deed->List PyData
 | .put _ p k=>[.int p,.int k] | .take _=>[] | .move _ p=>[.int p] | .count _ k=>[.int k] | .name _ y=>[.str y] | .split _ y p k=>[.str y,.int p,.int k] | .join _ y=>[.str y]
theorem Deed.d_eq (D:Deed):D.d = .tuple (.str D.word::.str D.fst::D.rest):=by cases D <;> rfl
theorem Deed.word_ok (D:Deed):zH (.str D.word)=true:=by cases D <;> (simp only[Deed.word];decide +kernel)
theorem D7 (a b:Str):a5Q (.str a) (.str b)=(a==b):=by simp[a5Q]
theorem JQ {ss:List Str}(h:∀s∈ss,PyData.strOk s=true):zH (.list (ss.map .str))=true:=by
 refine ES (J3 λd hd=>?_) ?_;. obtain⟨y,h1,rfl⟩:=zL.mp hd;exact h y h1
 . have:a2V (ss.map a0Z)<=0:=HC λd hd=>by obtain⟨y,h1,rfl⟩:=zL.mp hd;exact zR 0
   simp only[a1J];lia
theorem T8 {ys:List Str}{v:Int}(h0:0<=v) (h1:v < ys.length):∃y,atI (ys.map a0Z) v=some (.str y)/\y∈ys:=by
 obtain⟨n,rfl⟩:∃n:Nat,v=(n:Int):=⟨v.toNat,by lia⟩
 have hn:n < ys.length:=by lia
 exact⟨ys[n],AA (by rw[zF,zV hn];rfl),a0K hn⟩
def NH:FSp:=⟨λxs M=>∃ns:List Int,xs=[.d (.list (ns.map .int))]/\ns.length<=63/\∀i∈ns,xL i<=2 ^ 20,λxs M y M'=>y = .d (.bool true)⟩
end DL
namespace DL
open PySem PySem.Spec L2
def pcD (p c:Int):PyData:=.tuple [.int p,.int c]
def tsD (ts:List Th):List (Str×PyData):=ts.map λt=>(t.1,pcD t.2.1 t.2.2)
def DF (ts:List Th) (k:Str) (p c:Int):List Th:=if (ts.any λt=>decide (t.1=k))=true then ts.map (λt=>if t.1=k then (t.1,p,c) else t) else ts++[(k,p,c)]
def IC (ts:List Th) (k:Str):List Th:=ts.filter λt=>decide (t.1≠k)
def B3:List Th->Str->Option (Int×Int)
 | [],_=>none
 | t::r,k=>if t.1=k then some t.2 else B3 r k
theorem E8 (ts:List Th) (k:Str) (p c:Int):MH (tsD ts) k (pcD p c)=tsD (DF ts k p c):=by
 unfold MH DF tsD;have e:((ts.map λt=>(t.1,pcD t.2.1 t.2.2)).any λt=>decide (t.1=k))=ts.any λt=>decide (t.1=k):=by rw[List.any_map];rfl
 rw[e];split;. rw[zD,zD];apply yM;intro t _;show(if t.1=k then (t.1,pcD p c) else _)=_;simp only[Function.comp];split <;> rfl
 . simp
theorem L8 (ts:List Th) (k:Str):Q6 (tsD ts) k=tsD (IC ts k):=by unfold Q6 IC tsD;rw[xV];rfl
theorem B0 (k:Str):∀ts:List Th,CD (tsD ts) k=(B3 ts k).map λv=>pcD v.1 v.2
 | []=>rfl
 | t::r=>by
   have ih:=B0 k r;unfold tsD at ih ⊢;simp only[zI,CD,B3];split;. rfl
   . exact ih
theorem J6 {k:Str}:∀{ts:List Th}{v:Int×Int},B3 ts k=some v->(k,v)∈ts
 | t::r,v,h=>by
   unfold B3 at h;split at h;. rename_i e;cases h;subst e;exact a1Q
   . exact yV _ (J6 h)
theorem HE {k:Str}:∀{ts:List Th},B3 ts k=none↔k∉ts.map (·.1)
 | []=>by simp[B3]
 | t::r=>by
   unfold B3;rw[zI,yX];split;. rename_i e;simp[e]
   . rename_i e;rw[HE];constructor;. intro h q;rcases q with q | q;exact e q.symm;exact h q
     . intro h q;exact h (.inr q)
theorem S1 {k:Str}{ts:List Th}:(B3 ts k).isSome=decide (k∈ts.map (·.1)):=by
 cases h:B3 ts k with
 | none=>rw[decide_eq_false (HE.mp h)];rfl
 | some v=>rw[decide_eq_true (zL.mpr ⟨_,J6 h,rfl⟩)];rfl
def MI (ts:List Th) (x:Str) (k:Int):List Th:=match B3 ts x with | some v=>DF ts x v.1 (v.2+k) | none=>ts
def doT (ts:List Th):Deed->List Th
 | .put x p k=>DF ts x p k
 | .take x=>IC ts x
 | .move x p=>match B3 ts x with | some v=>DF ts x p v.2 | none=>ts
 | .count x k=>MI ts x k
 | .name x y=>match B3 ts x with | some v=>DF (IC ts x) y v.1 v.2 | none=>ts
 | .split x y p k=>DF (MI ts x (-k)) y p k
 | .join x y=>match B3 ts y with | some v=>IC (MI ts x v.2) y | none=>ts
def Deed.made:Deed->Option Str | .put x _ _=>some x | .name _ y=>some y | .split _ y _ _=>some y | _=>none
def Deed.apart:Deed->Prop | .name x y=>x≠y | .split x y _ _=>x≠y | .join x y=>x≠y | _=>True
def Deed.placed:Deed->Prop | .put _ p _=>0<=p/\p<=999 | .move _ p=>0<=p/\p<=999 | .split _ _ p _=>0<=p/\p<=999 | _=>True
def Deed.real (D:Deed):Prop:=D.ok/\D.apart/\D.placed
def C7 (ns:List Str) (D:Deed):Option Str:=D.names.find? λn=>decide (n∈ns)==decide (D.made=some n)
theorem FV {ns:List Str}{D:Deed}(h:C7 ns D=none):∀n∈D.names,(n∈ns)↔¬D.made=some n:=λn hn=>by have:=List.find?_eq_none.mp h n hn;by_cases h1:n∈ns <;> by_cases h2:D.made=some n <;> simp_all
abbrev tsO (ts:List Th):MO:=.d (AL (tsD ts))
def hU (ts:List Th):Prop:=(ts.map (·.1)).Nodup/\ts.length < 63
def goD (w:List Th) (D:Deed):Prop:=hU w/\D.real/\C7 (w.map (·.1)) D=none
theorem ZS {t u:Th}(h:thD t=thD u):t=u:=by obtain⟨a,b,c⟩:=t;obtain⟨a',b',c'⟩:=u;simp only[thD,PyData.tuple.injEq,List.cons.injEq,PyData.str.injEq,PyData.int.injEq,and_true] at h;obtain⟨rfl,rfl,rfl⟩:=h;rfl
theorem JR:∀{v w:List Th},v.map thD=w.map thD->v=w
 | [],[],_=>rfl
 | [],_::_,h=>by simp at h
 | _::_,[],h=>by simp at h
 | a::v,b::w,h=>by rw[zI,zI,List.cons.injEq] at h;rw[ZS h.1,JR h.2]
theorem eI {v w:List Th}(h:wD v=wD w):v=w:=JR (by unfold wD at h;exact PyData.tuple.inj h)
theorem DH {D E:Deed}(h:D.d=E.d):D=E:=by
 cases D <;> cases E <;> simp only[Deed.d,PyData.tuple.injEq,List.cons.injEq,PyData.str.injEq,PyData.int.injEq,and_true,true_and,reduceCtorEq,and_false,false_and,List.nil_eq] at h <;>
   first
   | (obtain⟨_,h⟩:=h;first | (obtain⟨rfl,rfl,rfl,rfl⟩:=h;rfl) | (obtain⟨rfl,rfl,rfl⟩:=h;rfl) | (obtain⟨rfl,rfl⟩:=h;rfl) | (subst h;rfl))
   | (obtain⟨rfl,rfl,rfl,rfl⟩:=h;rfl) | (obtain⟨rfl,rfl,rfl⟩:=h;rfl) | (obtain⟨rfl,rfl⟩:=h;rfl) | (subst h;rfl)
   | exact absurd h.1 (by decide +kernel)
end DL
namespace DL
open PySem PySem.Spec L2
theorem S2 (ds:List PyData):(ds.filter λ_=>true)=ds:=List.filter_eq_self.mpr (by simp)
theorem QE {ts:List Th}{x:Str}{p c:Int}(h:x∈ts.map (·.1)):DF ts x p c=ts.map λt=>if t.1=x then (t.1,p,c) else t:=by unfold DF;obtain⟨t,ht,e⟩:=zL.mp h;rw[if_pos (List.any_eq_true.mpr ⟨t,ht,by simpa using e⟩)]
theorem ID {ts:List Th}{x:Str}{p c:Int}(h:x∉ts.map (·.1)):DF ts x p c=ts++[(x,p,c)]:=by unfold DF;rw[if_neg];intro e;obtain⟨t,ht,e⟩:=List.any_eq_true.mp e;exact h (zL.mpr ⟨t,ht,by simpa using e⟩)
theorem L9 {ts:List Th}{x:Str}{p c:Int}(h:x∈ts.map (·.1)):(DF ts x p c).map (·.1)=ts.map (·.1):=by rw[QE h,zD];apply yM;intro t _;simp only[Function.comp];split <;> rfl
theorem KG {ts:List Th}{x:Str}(h:x∈ts.map (·.1)):∃v,B3 ts x=some v:=by
 cases e:B3 ts x with
 | none=>exact absurd h (HE.mp e)
 | some v=>exact⟨v,rfl⟩
theorem T9 {ts:List Th}{x:Str}{v:Int×Int}(h:B3 ts x=some v):x∈ts.map (·.1):=zL.mpr ⟨_,J6 h,rfl⟩
theorem FC {ts:List Th}{x:Str}{k:Int}:(MI ts x k).map (·.1)=ts.map (·.1):=by
 unfold MI;cases e:B3 ts x with
 | none=>rfl
 | some v=>exact L9 (T9 e)
theorem E9 {ts:List Th}(h:ts.length < 64):(tsD ts).length < sizeLine:=by unfold tsD;rw[zX];exact zP h (by decide)
theorem EA (ts:List Th) (x:Str):(IC ts x).map (·.1)=(ts.map (·.1)).filter λn=>decide (n≠x):=by unfold IC;rw[xV];rfl
def OH (ns:List Str):Deed->List Str
 | .put x _ _=>ns++[x]
 | .take x=>ns.filter λn=>decide (n≠x)
 | .move _ _=>ns
 | .count _ _=>ns
 | .name x y=>(ns.filter λn=>decide (n≠x))++[y]
 | .split _ y _ _=>ns++[y]
 | .join _ y=>ns.filter λn=>decide (n≠y)
theorem TB {ns:List Str}{D:Deed}(ha:C7 ns D=none) {n:Str}(hn:n∈D.names) (hm:D.made≠some n):n∈ns:=(FV ha n hn).mpr hm
theorem J7 {ns:List Str}{D:Deed}(ha:C7 ns D=none) {n:Str}(hn:n∈D.names) (hm:D.made=some n):n∉ns:=λq=>(FV ha n hn).mp q hm
theorem NI {ts:List Th}{D:Deed}(hr:D.real) (ha:C7 (ts.map (·.1)) D=none):(doT ts D).map (·.1)=OH (ts.map (·.1)) D:=by
 cases D with
 | put x p k=> show(DF ts x p k).map (·.1)=_;rw[ID (J7 ha (by simp[Deed.names]) rfl),xJ];rfl
 | take x=>exact EA ts x
 | move x p=> obtain⟨v,hv⟩:=KG (TB ha (n:=x) (by simp[Deed.names]) (by simp[Deed.made]));simp only[doT,hv];exact L9 (T9 hv)
 | count x k=>exact FC
 | name x y=>
   obtain⟨v,hv⟩:=KG (TB ha (n:=x) (by simp[Deed.names]) (by simp[Deed.made];exact λe=>hr.2.1 e.symm));simp only[doT,hv];have hy:y∉(IC ts x).map (·.1):=by rw[EA];intro q;exact J7 ha (n:=y) (by simp[Deed.names]) rfl (yL.mp q).1
   rw[ID hy,xJ,EA];rfl
 | split x y p k=>
   show(DF (MI ts x (-k)) y p k).map (·.1)=_;have hy:y∉(MI ts x (-k)).map (·.1):=by rw[FC];exact J7 ha (n:=y) (by simp[Deed.names]) rfl
   rw[ID hy,xJ,FC];rfl
 | join x y=> obtain⟨v,hv⟩:=KG (TB ha (n:=y) (by simp[Deed.names]) (by simp[Deed.made]));simp only[doT,hv];rw[EA,FC];rfl
theorem OI {ns:List Str}{D:Deed}(nd:ns.Nodup) (ha:C7 ns D=none):(OH ns D).Nodup:=by
 have lg:∀{l:List Str}{y:Str},l.Nodup->y∉l->(l++[y]).Nodup:=λ{l y} h1 h2=>by rw[List.nodup_append];exact⟨h1,by simp,λa ha b hb e=>by simp at hb;subst hb;subst e;exact h2 ha⟩
 cases D with
 | put x p k=>exact lg nd (J7 ha (by simp[Deed.names]) rfl)
 | take x=>exact nd.sublist a4Q
 | move x p=>exact nd
 | count x k=>exact nd
 | name x y=>exact lg (nd.sublist a4Q) λq=>J7 ha (n:=y) (by simp[Deed.names]) rfl (yL.mp q).1
 | split x y p k=>exact lg nd (J7 ha (n:=y) (by simp[Deed.names]) rfl)
 | join x y=>exact nd.sublist a4Q
theorem S3 (ns:List Str) (D:Deed):(OH ns D).length<=ns.length+1:=by cases D <;> simp only[OH,yY,yR,List.length_nil];all_goals first | lia | exact zN (yJ _ _) (b0W _) | exact Nat.add_le_add_right (yJ _ _) 1
theorem eJ {ts:List Th}{D:Deed}(h:goD ts D):((doT ts D).map (·.1)).Nodup/\(doT ts D).length < 64:=by obtain⟨⟨nd,hl⟩,hr,ha⟩:=h;have e:=NI hr ha;refine⟨by rw[e];exact OI nd ha,?_⟩;have h1:=S3 (ts.map (·.1)) D;have h2:=congrArg List.length e;simp only[zX] at h1 h2;lia
end DL
namespace DL
open PySem PySem.Spec L2
theorem X4 (ts:List Th) (x:Str) (p c:Int) (n:Str):B3 (DF ts x p c) n=if n=x then some (p,c) else B3 ts n:=by
 by_cases h:x∈ts.map (·.1)
 . rw[QE h];induction ts with
   | nil=>simp at h
   | cons t r ih=>
     rw[zI];by_cases e:t.1=x
     . rw[if_pos e];unfold B3;by_cases en:n=x;. subst en;rw[if_pos e,if_pos rfl]
       . have e1:¬t.1=n:=λq=>en (q.symm.trans e);rw[if_neg e1,if_neg en,if_neg e1];by_cases hr:x∈r.map (·.1);. rw[ih hr,if_neg en]
         . have hm:(r.map λt=>if t.1=x then (t.1,p,c) else t)=r:=by
             conv=>rhs;rw[<-a8Q r]
             apply yM;intro u hu;rw[if_neg λq=>hr (by rw[<-q];exact zL.mpr ⟨u,hu,rfl⟩)];rfl
           rw[hm]
     . rw[if_neg e];have hr:x∈r.map (·.1):=by rw[zI,yX] at h;exact h.resolve_left λq=>e q.symm
       unfold B3;by_cases e1:t.1=n;. rw[if_pos e1,if_pos e1,if_neg λq=>e (e1.trans q)]
       . rw[if_neg e1,if_neg e1,ih hr]
 . rw[ID h];have:∀ts:List Th,x∉ts.map (·.1)->B3 (ts++[(x,p,c)]) n=if n=x then some (p,c) else B3 ts n:=by
     intro ts;induction ts with
     | nil=>
       intro _;show(if x=n then _ else _)=_;by_cases e:n=x;. rw[if_pos e,if_pos e.symm]
       . rw[if_neg e,if_neg λq=>e q.symm]
     | cons t r ih=>
       intro hx;rw[zI,yX] at hx;rw[List.cons_append];unfold B3;by_cases e1:t.1=n;. rw[if_pos e1,if_pos e1,if_neg λq=>hx (.inl (e1.trans q).symm)]
       . rw[if_neg e1,if_neg e1,ih λq=>hx (.inr q)]
   exact this ts h
theorem S4 {w:List Th}{D:Deed}(h:goD w D) {n:Str}(hn:n∈D.names) (hm:D.made≠some n):∃v,B3 w n=some v:=KG (TB h.2.2 hn hm)
theorem X5 {ns:List Str}{D:Deed}(h:∀n∈D.names,(n∈ns)↔¬D.made=some n):C7 ns D=none:=by unfold C7;rw[List.find?_eq_none];intro n hn;have:=h n hn;by_cases h1:n∈ns <;> by_cases h2:D.made=some n <;> simp_all
theorem LA {ts:List Th}{n:Str}:n∈ts.map (·.1)↔(B3 ts n).isSome=true:=by rw[S1];simp
end DL
namespace DL
open PySem PySem.Spec L2
def AH (ys:List Str):Prop:=(∀z∈ys,HZ z)/\ys.Nodup/\ys.length<=26
def BY (ys:List Str):PyData:=.list (ys.map .str)
theorem LB {as bs:List Str}(h:BY as=BY bs):as=bs:=FU (by unfold BY at h;exact PyData.list.inj h)
def wB2 (t:Th):Str×List PyData:=(t.1,[.int t.2.1,.int t.2.2])
def unB (u:Str×List PyData):Th:=match u with | (a,[.int p,.int c])=>(a,p,c) | (a,_)=>(a,0,0)
theorem X6 (w:List Th):(w.map wB2).map J5=w.map thD:=by rw[zD];rfl
theorem X7 {ts:List (Str×List PyData)}{w:List Th}(h:ts.Perm (w.map wB2)):(ts.map unB).Perm w/\ts.map J5=(ts.map unB).map thD/\(ts.map unB).map (·.1)=ts.map (·.1):=by
 have e:(w.map wB2).map unB=w:=by rw[zD];exact a8Q _
 refine⟨by have:=h.map unB;rw[e] at this;exact this,?_,?_⟩;. rw[zD];apply yM;intro u hu;obtain⟨t,_,rfl⟩:=zL.mp (h.mem_iff.mp hu);rfl
 . rw[zD];apply yM;intro u hu;obtain⟨t,_,rfl⟩:=zL.mp (h.mem_iff.mp hu);rfl
theorem S5 {ts:List (Str×List PyData)}(h:ts.Pairwise λx y=>x.1.cps.toList < y.1.cps.toList):Ris (ts.map (·.1)):=by unfold Ris;rw[b1W];exact h.imp λ{a b} q=>by rw[<-gZ];exact decide_eq_true q
end DL
namespace L2
open PySem PySem.Spec PyProof.Rows
def hW:List Nat:=[0,1,2,3,4,5,6,7,8,9,10,11,12,13,14,15,16,17,18,19,20,21,22,23]
theorem X8 {x:Str}{i:Nat}:∀(l:List Str) (k n:Nat),(l.zip (List.range' k n)).lookup x=some i->k<=i/\l[i - k]?=some x
 | [],_,_,h=>by cases h
 | _::_,_,0,h=>by cases h
 | a::r,k,n+1,h=>by
   rw[List.range'_succ,a4V,a1V] at h;split at h;. rename_i e;have h:=Option.some.inj h;subst h;rw[Nat.sub_self];exact⟨zR _,by rw[eq_of_beq e];rfl⟩
   . obtain⟨h1,h2⟩:=X8 r (k+1) n h;refine⟨by lia,?_⟩;rw[show i - k=(i - (k+1))+1 by lia];exact h2
theorem LC {l:List Str}{x:Str}{i:Nat}(h:(l.zip hW).lookup x=some i):l[i]?=some x:=(X8 l 0 24 h).2
theorem pvx {X:Cx}{i:Nat}{x:Str}{pos:Pos}(h:(X.N.zip hW).lookup x=some i) (hv:Vis X.env.scope x) (hd:(x==("__debug__":Str))=false:=by decide)
   (fj:(x==("__classdict__":Str))=false:=by decide):PE X (.Name x pos) (Y5 i):=V9 (LC h) hv hd fj
end L2
namespace DL
open PySem PySem.Spec L2
theorem AC {K:Frg}{M:Own}{Q:DS->Own->Prop}{a b:Str}{t:Bool}(h:(zH (.str a)&&zH (.str b)&&(a5Q (.str a) (.str b)==t))=true) (q:Q (.d (.bool t)) M):D2 K (UA K false) (.d (.str a)) (.d (.str b)) M Q:=by simp only[a0W,beq_iff_eq] at h;exact BQ h.1.1 h.1.2 (by rw[if_neg nft,h.2];exact q)
end DL
namespace L2
open PySem PySem.Spec
def i0 (scope:Scope) (NC:List Str):Bool:=(NC.all λx=>(scope.names.lookup x).isSome)&&scope.names.all λy=>!(y.2==.local||y.2==.free||y.2==.cell)||y.1==a0Q ".0" || NC.contains y.1
theorem LD {X:Cx}{scope:Scope}{NC:List Str}{fr:List (Option Nat)}{g_:Scope}{ON:List Str}(_:i0 scope NC=true) (h:W5 g_ ON scope NC fr=true) (e:X.env.scope=g_) (eN:X.N=ON):CSc X scope NC fr:=CSc.of h e eN
end L2
namespace DL
open PySem PySem.Spec L2
section
variable {K:Frg}{M:Own}{Q:DS->Own->Prop}{H:Hp}
theorem JS {W:Addr->Prop}:∀{bs:List Int},DVs K H W (bs.map b1X) (bs.map V.int)
 | []=>DVs.nil
 | b::bs=>DVs.cons (by unfold DV;rfl) JS
end
end DL
namespace L2
open PySem PySem.Spec PyProof.Rows
def Itk (a:Addr) (o:Obj) (ks:List (Key×V)):It:=⟨λi H=>H a=some (.frz o (.dK ks))/\i < ks.length,λi H x H'=>H'=H/\∃k v,ks[i]?=some (k,v)/\x=kV k,λi H=>H a=some (.frz o (.dK ks))/\ks.length<=i⟩
theorem eL {ks:List (Key×V)}{vs:List (Key×Value)}(r:KV ks vs) {i:Nat}{k:Key}{v:V}(e:ks[i]?=some (k,v)):∃u,vs[i]?=some (k,u):=by
 induction r generalizing i with
 | nil=>simp at e
 | cons h _ ih=>
   cases i with
   | zero=>simp at e;obtain⟨h1,h2⟩:=h;rw[e] at h1;exact⟨_,by simp;exact Prod.ext h1.symm rfl⟩
   | succ i=>simpa using ih (by simpa using e)
theorem ZT {k:Key}{u:Value}(h:JJ k u=true):RelV (kV k) u:=by
 rcases AX h with ⟨i,t,rfl,rfl⟩ | ⟨x,t,rfl,rfl⟩
 . exact⟨t,rfl⟩
 . exact⟨t,rfl⟩
theorem UK {P:Program}{w:World}{K:Frg}{tg:Expr}(a it:Addr) (o:Obj) (ks:List (Key×V)) :
   Turn P w K tg (Itk a o ks) [it] it (λi h=>∃es ep,o.data = .dict es ep/\h.IsKeyIter it a i ks.length ep) where
 mem:=by simp
 obj:=λi h st b hb=>by
   have e:b=it:=by simpa using hb
   subst e;obtain⟨es,ep,_,o',e,c,d⟩:=st;exact⟨o',e,λv z=>by rw[d] at z;cases z⟩
 keep:=λi h h' ⟨es,ep,q,st⟩ k=>⟨es,ep,q,st.at λo e=>k it (by simp) o e⟩
 item:=by
   intro X hP hw hK hc i pins s σ H E I hf ⟨es,ep,kg,st⟩ ⟨hg,hi⟩;subst hP hw hK;obtain⟨f0,f1,f2,f3,f4,f5⟩:=hf it (by simp);obtain⟨fw,_,lh,vs,rel,o',bp,d_,cn,r⟩:=I.hok a _ hg;obtain rfl:o'=o:=Option.some.inj (cn.symm.trans fw);obtain⟨rfl,rfl⟩:bp=es/\d_=ep:=by have:=r.2.1.symm.trans kg;injection this with a b;exact⟨a,b⟩
   have dat:s.heap.DictAt (AY X.prog X.w) a vs d_:=⟨o',bp,cn,r⟩
   obtain⟨⟨k,v⟩,hk⟩:∃kv,ks[i]?=some kv:=⟨ks[i],zV hi⟩
   obtain⟨u,hu⟩:=eL rel hk;have hl:vs.length=ks.length:=rel.length.symm;refine wpAny_pyNext_dict_item (by rw[hl];exact st) dat hu λkey h' ip cq sb=>?_;rw[hl] at cq;have I1:Inv X pins σ H { s with heap:=h' }:=I.turned (t':=s.toks) (λb o hb e=>(sb.2 b hb).trans e) f0 f1 f3 f4 f5;exact⟨key,rfl,letGo_keyiter (s':={ s with heap:=h' }) cq ⟨kV k,H,I1,ZT ip,⟨rfl,k,v,hk,rfl⟩,⟨bp,d_,kg,cq⟩,λb hb=>(hf b hb).1⟩⟩
 done:=by
   intro X hP hw hK hc i pins s σ H E I hf ⟨es,ep,kg,st⟩ ⟨hg,hi⟩;subst hP hw hK;obtain⟨f0,f1,f2,f3,f4,f5⟩:=hf it (by simp);obtain⟨fw,_,lh,vs,rel,o',bp,d_,cn,r⟩:=I.hok a _ hg;obtain rfl:o'=o:=Option.some.inj (cn.symm.trans fw);obtain⟨rfl,rfl⟩:bp=es/\d_=ep:=by have:=r.2.1.symm.trans kg;injection this with a b;exact⟨a,b⟩
   have dat:s.heap.DictAt (AY X.prog X.w) a vs d_:=⟨o',bp,cn,r⟩
   have hl:vs.length=ks.length:=rel.length.symm;exact wpAny_pyNext_dict_end (I.ok.hd hc) (by rw[hl];exact st) dat (List.getElem?_eq_none_iff.mpr (by rw[hl];exact hi)) λh' eb=>⟨rfl,I.turned (t':=s.toks) (λb o hb e=>eb b o hb e) f0 f1 f3 f4 f5⟩
 self:=λ_ _ _ _ _ ⟨_,_,_,st⟩ h=>wpAny_pyIter_keyiter st h
section
variable {X:Cx}{tg:Expr}{pins:List (Addr×Obj)}{σ:St}{H:Hp}{s:Shared}
theorem UL {a:Addr}{o:Obj}{ks:List (Key×V)}(I:Inv X pins σ H s) (e:H a=some (.dK ks)) (ho:s.heap.get? a=some o):Inv X pins σ (upd H a (.frz o (.dK ks))) s:=by
 have ne:∀b u,H b=some u->(∀z,u≠.dK z)->b≠a:=λb u q n z=>by rw[z,e] at q;cases q;exact n _ rfl
 have J:=I.un (H':=upd H a (.frz o (.dK ks))) (h':=s.heap) (t':=s.toks) ⟨λ_ _ q _ _ _=>q,λb u q _ _ _=>⟨u.slots,q⟩,λb u _ n _=>by rw[AR (λz=>by rw[z,e] at n;cases n)];exact n,λb u q _=>⟨u,q⟩,
   λb xs q=>by rw[AR (ne b _ q λ_ z=>nomatch z)];exact q,λb u xs q=>by rw[AR (ne b _ q λ_ z=>nomatch z)];exact q,λb ps q=>⟨#[],by rw[AR (ne b _ q λ_ z=>nomatch z),q];simp⟩⟩ λb u q=>?_
 . exact J
 . have st:∀{b u},ObjOk X.prog X.w H s.heap b u->ObjOk X.prog X.w (upd H a (.frz o (.dK ks))) s.heap b u:=λ{b u} x=>x.stay (λ_ _ _ q=>q) (λc q=>by rw[AR (ne c _ q λ_ z=>nomatch z)];exact q) λc xs q=>by rw[AR (ne c _ q λ_ z=>nomatch z)];exact q
   by_cases z:b=a;. subst z;rw[AM] at q;cases q;exact⟨ho,st (I.hok b _ e)⟩
   . rw[AR z] at q;exact st (I.hok b u q)
def bA (tl:TE):TI:=λσ H R=>tl σ H λx H1=>∃a,x = .ref a/\((∃ks,H1 a=some (.dK ks)/\∀o,R (Itk a o ks) (upd H1 a (.frz o (.dK ks))))\/∃o ks,H1 a=some (.frz o (.dK ks))/\R (Itk a o ks) H1)
theorem ZU {l:Expr}{tl:TE}(hl:PE X l tl):PI X tg l (bA tl):=by
 intro pins s σ H R I h;refine thn (hl pins s σ H _ I h) λv s1 ⟨x,H1,I1,r1,a,ex,q1⟩=>?_;subst ex;obtain rfl:v=a0X a:=r1;have go:∀{H2:Hp}{o:Obj}{ks:List (Key×V)},Inv X pins σ H2 s1->H2 a=some (.frz o (.dK ks))->R (Itk a o ks) H2->wpAny (model X.prog X.w) X.A (pyIter (.ref a)) (PIE X pins σ tg R) X.xe s1:=λ{H2 o ks} I2 e q=>by
   obtain⟨fw,_,lh,vs,rel,o',bp,d_,cn,r⟩:=I2.hok a _ e;obtain rfl:o'=o:=Option.some.inj (cn.symm.trans fw);have dat:s1.heap.DictAt (AY X.prog X.w) a vs d_:=⟨o',bp,cn,r⟩
   have hl:vs.length=ks.length:=rel.length.symm;refine wpAny_pyIter_dict lh dat ?_;rw[hl];have I3:Inv X pins σ H2 { s1 with heap:=s1.heap.push { cls:=.type "dict_keyiterator", data:=.fields #[.ref a,.int 0 0,.int ks.length 0,.int d_ 0] } }:=I2.kept (t':=s1.toks) λb u q=>zW _ q;refine⟨s1.heap.objs.size,[s1.heap.objs.size],_,Itk a o' ks,H2,rfl,I3,UK a _ o' ks,⟨bp,d_,r.2.1,_,yZ _ rfl,rfl,rfl⟩,λb hb=>?_,q⟩;have:b=s1.heap.objs.size:=by simpa using hb
   rw[this];exact I2.fpOk (zR _) (I2.hok.fresh (zR _))
 rcases q1 with ⟨ks,e,q⟩ | ⟨o,ks,e,q⟩
 . obtain⟨_,_,vs,_,o,es,ep,ho,_⟩:=I1.hok a _ e;exact go (UL I1 e ho) AM (q o)
 . exact go I1 e q
end
end L2
namespace DL
open PySem PySem.Spec L2
abbrev JT (ts:List (Str×PyData)):List PyData:=ts.map λt=>.str t.1
section
variable {K:Frg}{ρ:List (Option DS)}{M:Own}{H:Hp}{Q:DS->Own->Prop}{QI:List PyData->Own->Prop}{tl td ty tx:TE}{D:EndsD}{t:TS}
theorem X9 {W:Addr->Prop}:∀{ts:List (Str×PyData)}{ks:List (Key×V)}{i:Nat}{k:Key}{v:V},DKV K H W (AL ts) ks->ks[i]?=some (k,v)->∃u,ts[i]?=some u/\k=a1X u.1
 | [],ks,i,k,v,h,e=>by rw[CK.mp h] at e;simp at e
 | u::ts,ks,i,k,v,h,e=>by
   obtain⟨w,r,rfl,h1,h2⟩:=BD.mp h;cases i with
   | zero=>simp at e;exact⟨u,rfl,e.1.symm⟩
   | succ i=>simpa using X9 h2 (by simpa using e)
theorem ZV (h:DE K tl ρ M λx M1=>∃ts:List (Str×PyData),x = .d (.dict (AL ts))/\QI (JT ts) M1):DI K (bA tl) ρ M QI:=λσ H R Rl k=>
 h σ H _ Rl λv H1 x M1 o1 s1 t1 h1=>by
   obtain⟨ts,rfl,q⟩:=h1;unfold SI DV at s1;obtain⟨a,ks,rfl,nw,hr,hd⟩:=s1;have ac:ks.length=ts.length:=by have:=KD hd;unfold AL at this;simpa using this
   have wd:∀{H2:Hp}{o:Obj},H2 a=some (.frz o (.dK ks))->WD K (Itk a o ks) (JT ts) H2 M1:=λ{H2 o} e=>
     ⟨λi H' M' hi oa st=>⟨st.grow.kept e nw (λ_ z=>nomatch z),by rw[ac];simpa using hi⟩,λH' M' oa st=>⟨st.grow.kept e nw (λ_ z=>nomatch z),by rw[ac];simp⟩,λi H' M' x H3 oa st hi y=>by obtain⟨rfl,kk,vv,ek,rfl⟩:=y;obtain⟨u,hu,rfl⟩:=X9 hd ek;refine⟨oa,Step.refl,.str u.1,?_,by unfold DV;rfl⟩;rw[zF,hu];rfl⟩
   refine⟨a,rfl,?_⟩;rcases hr with e | ⟨o,e⟩
   . refine .inl ⟨ks,e,λo=>?_⟩;have g:Grow K M1.W M1.W H1 (upd H1 a (.frz o (.dK ks))):=⟨λb u e' nb=>by
       by_cases z:b=a;. subst z;rw[e] at e';cases e';exact .inr ⟨ks,o,rfl,AM⟩
       . exact .inl (by rw[AR z];exact e'),λb z=>.inl z⟩
     have oa:OA K (upd H1 a (.frz o (.dK ks))) M1:=o1.grow g λb ob eb=>by rw[AR];rintro rfl;exact nw (by unfold Own.W;rw[eb];simp)
     exact k _ _ _ M1 oa (t1.trans ⟨g⟩) (wd AM) q
   . exact .inr ⟨o,ks,e,k _ _ _ M1 o1 t1 (wd e) q⟩
theorem S6 {i:Nat}{a:Addr}{kvs:List (PyData×PyData)}(e:ρ[i]?=some (some (.loc a))) (m:M a=some (.d kvs)) (h:DSt K t (ρ.set i (some (.d (.dict kvs)))) (M.del a) D):DSt K t ρ M D:=λσ H E R k1 k2 k3 k4=>by
 have hs:(M.del a).Sub M:=λb o q=>by
   unfold Own.del at q;by_cases hb:b=a;. rw[if_pos hb] at q;cases q
   . rw[if_neg hb] at q;exact q
 have st:Step K M (M.del a) H H:=⟨BC hs⟩
 obtain⟨v,e1,e2⟩:=R.slot i _ e;obtain⟨vs,q1,q2⟩:=R.own a _ m;have R1:Rel K (M.del a) ρ σ H:=R.step (R.own.sub hs) st;have R2:=R1.set (x:=.d (.dict kvs)) (v:=v) (by
   unfold SI DV;refine⟨a,vs,e2,(λw=>w (by unfold Own.del;rw[if_pos rfl])),.inl q1,q2.grow (BC hs)⟩) i;have e3:σ.set i (some v)=σ:=by
   apply a9Z;intro j;rw[List.getElem?_set];by_cases au:i=j
   . subst au;rw[if_pos rfl,e1];split;. rfl
     . rename_i hl;rw[a3X (by lia)] at e1;cases e1
   . rw[if_neg au]
 rw[e3] at R2;exact h σ H E R2 (λa b c d e f g=>k1 a b c d e (st.trans f) g) (λa b c d e f g q=>k2 a b c d e f (st.trans g) q) (λa b c d e f g=>k3 a b c d e (st.trans f) g) (λa b c d e f g=>k4 a b c d e (st.trans f) g)
end
end DL
namespace DL
open PySem PySem.Spec L2
def Deed.must (D:Deed):List Str:=D.names.filter λn=>decide (¬D.made=some n)
end DL
namespace DL
open PySem PySem.Spec L2
section
variable {M:Own}{Q:DS->Own->Prop}{w:List Th}{ls:List (Str×Deed)}
def CT:FSp:=⟨λxs M=>∃D:Deed,xs=[.d D.d]/\D.real,λxs M y M'=>∀D:Deed,xs=[.d D.d]->y = .d (BY D.must)/\M'=M⟩
theorem UM {D:Deed}(hr:D.real) (q:Q (.d (BY D.must)) M):[DS.d D.d].length=1/\CT.pre [.d D.d] M/\∀x M',CT.post [.d D.d] M x M'->Q x M':=⟨rfl,⟨D,rfl,hr⟩,λx M' h=>by obtain⟨rfl,rfl⟩:=h D rfl;exact q⟩
end
end DL
namespace DL
open PySem PySem.Spec L2
theorem IE (a b:Int):a5Q (.int a) (.int b)=decide (a=b):=by
 have:a5Q (.int a) (.int b)=(a==b):=by simp[a5Q]
 rw[this];rfl
end DL
namespace DL
open PySem PySem.Spec L2
theorem IF {d:PyData}(h:zH d=true):a5Q d d=true:=PySem.SeqAt.eqv_refl _ (zG h)
end DL
namespace DL
open PySem PySem.Spec L2
theorem IG {n k:Nat}{d:PyData}(h:(ER 0 ((n:Nat):Int).toNat)[k]?=some d):k < n/\d = .int (k:Int):=by
 have hl:k < n:=by have:=(yT.mp h).1;simpa [ER] using this
 refine⟨hl,?_⟩;unfold ER at h;rw[zF,yA (by lia)] at h;simp at h;exact h.symm
theorem XA {n:Nat}{d:PyData}(h:d∈ER 0 ((n:Nat):Int).toNat):∃k:Nat,k < n/\d = .int (k:Int):=by obtain⟨k,hk,e⟩:=List.mem_iff_getElem.mp h;exact⟨k,IG (n:=n) (by rw[zV hk,e])⟩
theorem IH (n:Nat):(ER 0 ((n:Nat):Int).toNat).length=n:=by simp[ER]
end DL
namespace L2
open PySem PySem.Spec PyProof.Rows
theorem HF:typeLookup (.type "tuple") (dunderI "add")=pure none:=by rw[typeLookup_type,builtinLookup_eq_fast];kernel_rfl
theorem HG {prog:Program}{w:World}{A:Around}{E:Value->Shared->Prop}{s:Shared}{T id:String}{B:Builtin}{a b:Value}{S:PySem.Spec}{Q:Value->Shared->Prop}(ha:s.TypeIs a T) (hb:s.TypeIs b T) (iu:typeLookup (.type T) (dunderI "add")=pure none) (hf:fillsNumberSlot (.type T) "add"=pure false) (hs:seqSlot? (.type T) "__add__"=pure (some (.builtin id))) (sl:Slot T "__add__" id) (en:entryFor table id=some B) (ar:argsOk id ⟨[a,b],[]⟩) (g:Meets (B ⟨[a,b],[]⟩) S) (h:S A (wants Q E) s):wpAny (model prog w) A (inplaceOp .Add a b) Q E s:=
 wpAny_inplaceOp_concat ha hb iu hf hs (call_meets sl ha en ar g h)
section
variable {X:Cx}
def eO (K:Frg):R2:=λx y H Q=>ipI (λi j=>i+j) x y H Q\/RR K x y H Q
theorem XB {K:Frg}(hK:X.K=K):PIp X .Add (eO K):=by
 subst hK;intro pins s σ H x y v u Q I rx ry h;rcases h with h | h;. exact bW pins s σ H x y v u Q I rx ry h
 obtain⟨t,b,xs,ys,rfl,rfl,hx,hy,hz,q0,q1,q2⟩:=h;cases rx;cases ry;obtain⟨ab,r,ht,_⟩:=I.tuple hx;obtain⟨az,r2,hb,_⟩:=I.tuple hy;have e1:=r.length;have e2:=r2.length;obtain⟨⟨cls,dd,data,sl⟩,ho,hc,n,hd⟩:=id ht;obtain⟨⟨jm,gp,data2,gq⟩,ho2,hc2,n2,hd2⟩:=id hb;dsimp only at hc hd hc2 hd2;subst hc hd hc2 hd2;have e:ab.toArray++az.toArray=(ab++az).toArray:=by simp
 by_cases hv:ab=[]
 . have jv:xs=[]:=by cases r with | nil=>rfl | cons _ _=>cases hv
   exact HG ⟨_,ho,rfl⟩ ⟨_,ho2,rfl⟩ HF noFill_tuple_add seq_tuple_add a3K a3J (a3Q _ _) (tuple_addW0 t b ab.toArray az.toArray n n2 dd gp sl gq (by simp[hv])) ⟨ho,ho2,⟨.ref b,H,I,rfl,q0 jv⟩⟩
 . by_cases hw:az=[]
   . have de:ys=[]:=by cases r2 with | nil=>rfl | cons _ _=>cases hw
     exact HG ⟨_,ho,rfl⟩ ⟨_,ho2,rfl⟩ HF noFill_tuple_add seq_tuple_add a3K a3J (a3Q _ _) (tuple_addW1 t b ab.toArray az.toArray n n2 dd gp sl gq (by simpa using hv) (by simp[hw])) ⟨ho,ho2,⟨.ref t,H,I,rfl,q1 de⟩⟩
   . refine HG ⟨_,ho,rfl⟩ ⟨_,ho2,rfl⟩ HF noFill_tuple_add seq_tuple_add a3K a3J (a3Q _ _) (tuple_addW2 t b ab.toArray az.toArray n n2 dd gp sl gq (by simpa using hv) (by simpa using hw) (by rw[zJ,zJ];lia)) ⟨ho,ho2,?_⟩;rw[e];refine⟨.ref s.heap.objs.size,_,I.laid (t':=s.toks) (o:=.tup (xs++ys)) (λb ob q=>zW _ q) (zR _) ?_,rfl,q2 _ I.fresh⟩;exact⟨by rw[yY];exact hz,ab++az,r.append r2,IsTup.new _ _⟩
end
end L2
namespace DL
open PySem PySem.Spec L2
section
variable {K:Frg}{ρ:List (Option DS)}{M:Own}{D:EndsD}
theorem XC {i:Nat}{te:TE}{r:R2}(h:∃x,ρ[i]?=some (some x)/\DE K te ρ M λy M1=>D2 K r x y M1 λz M2=>D.nx (ρ.set i (some z)) M2):DSt K (fR i te r) ρ M D:=λσ H E R k1 _ _ _=>by obtain⟨x,e,h⟩:=h;obtain⟨v,ev,sv⟩:=R.slot i x e;refine⟨v,ev,h σ H _ R λu H1 y M1 o1 s1 t1 q=>?_⟩;exact q H1 v u _ o1 (SI.step t1 sv) s1 λz H2 w M2 o2 s2 t2 q2=>k1 _ M2 _ H2 (((R.step o1 t1).step o2 t2).set s2 i) (t1.trans t2) q2
theorem ZW {i j:Int}{Q:DS->Own->Prop}(q:Q (.d (.int (i+j))) M):D2 K (eO K) (.d (.int i)) (.d (.int j)) M Q:=λH v u QQ oa s1 s2 k=>by unfold SI DV at s1 s2;subst s1;subst s2;exact .inl ⟨i,j,rfl,rfl,k _ H (.d (.int (i+j))) M oa (by unfold SI DV;rfl) Step.refl q⟩
theorem ZX {as bs:List PyData}{Q:DS->Own->Prop}(hz:as.length+bs.length<=sizeLine) (q:Q (.d (.tuple (as++bs))) M):D2 K (eO K) (.d (.tuple as)) (.d (.tuple bs)) M Q:=λH v u QQ oa s1 s2 k=>by
 have iV:=s1;have kT:=s2;unfold SI DV at s1 s2;obtain⟨a,vs,rfl,hl,hd⟩:=s1;obtain⟨b,us,rfl,fv,hd2⟩:=s2;refine .inr ⟨a,b,vs,us,rfl,rfl,hl.sq,fv.sq,by rw[hd.length,hd2.length];exact hz,λe=>?_,λe=>?_,λp hp=>?_⟩
 . have:as=[]:=by have:=hd.length;rw[e] at this;exact List.length_eq_zero_iff.mp this.symm
   subst this;exact k _ H (.d (.tuple ([]++bs))) M oa kT Step.refl q
 . have:bs=[]:=by have:=hd2.length;rw[e] at this;exact List.length_eq_zero_iff.mp this.symm
   subst this;rw[a1W] at q;exact k _ H (.d (.tuple as)) M oa iV Step.refl q
 . have g:Grow K M.W M.W H (upd H p (.tup (vs++us))):=BJ _ hp;refine k _ _ (.d (.tuple (as++bs))) M (oa.new hp) ?_ ⟨g⟩ q;unfold SI DV;exact⟨p,_,rfl,.inl ⟨λw=>w (oa.none hp),.inl AM⟩,(hd.append hd2).grow g⟩
end
end DL
namespace DL
open PySem PySem.Spec L2
theorem QF {ss:List Str}(h:∀s∈ss,HZ s):zH (.tuple (ss.map .str))=true:=by
 refine ES (J3 λd hd=>?_) ?_;. obtain⟨s,hs,rfl⟩:=zL.mp hd;exact CG (h s hs)
 . have:a2V (ss.map .str)<=2:=HC λd hd=>by obtain⟨s,hs,rfl⟩:=zL.mp hd;simp[a1J]
   simp only[a1J];lia
end DL
namespace DL
open PySem PySem.Spec L2
theorem XD {K:Frg}{ρ:List (Option DS)}{M:Own}{Q:DS->Own->Prop}(q:∀p,M p=none->Q (.loc p) (M.put p (.d (AL [])))):DE K VL ρ M Q:=λσ H QQ R k p hp=>by obtain⟨li,kh⟩:=HX (kvs:=[]) (ks:=[]) R.own hp (by unfold DKV;rfl);exact k _ _ (.loc p) _ li (by unfold SI;rfl) kh (q p (R.own.none hp))
end DL
namespace DL
open PySem PySem.Spec L2
section
variable {M:Own}{Q:DS->Own->Prop}{ys:List Str}{w:List Th}{D:Deed}{p:Addr}{L:List Int}
def GS (x:Int):Nat:=97+(x % 26).toNat
def i1 (u:Int):PyData->PyData
 | .int k=>.str ⟨#[GS (u/(1+5*k))]⟩
 | d=>d
def FD (u:Int):List Nat:=(a0V 8).map λk:Nat=>GS (u/(1+5*(k:Int)))
theorem XE (v:Int):atI (a0Q "abcdefghijklmnopqrstuvwxyz").cps.toList (v % 26)=some (GS v):=by
 have h0:0<=v % 26:=a4X _ (by decide);have h1:v % 26 < 26:=a6J _ (by decide);unfold GS;generalize v % 26=m at h0 h1;obtain⟨n,rfl⟩:∃n:Nat,m=(n:Int):=⟨m.toNat,by lia⟩
 have hn:n < 26:=by lia
 rw[b2X];refine AA ?_;have key:∀n:Fin 26,(a0Q "abcdefghijklmnopqrstuvwxyz").cps.toList[n.1]?=some (97+n.1):=by decide +kernel
 exact key ⟨n,hn⟩
theorem QG (x:Int):KZ (GS x)=true:=by have h0:0<=x % 26:=a4X _ (by decide);have h1:x % 26 < 26:=a6J _ (by decide);unfold KZ GS;rw[a0W,decide_eq_true_iff,decide_eq_true_iff];lia
def z18 (u:Int):Str:=⟨(FD u).toArray⟩
theorem XF (u:Int):(z18 u).cps.toList=FD u:=rfl
theorem LF (u:Int):(z18 u).length=8:=rfl
theorem HH (u:Int):(FD u).length=8:=rfl
def EU (u x:Int) (k:Nat):Str:=if x/8 % 2=0 then (⟨#[GS (x/16+(k:Int))]⟩:Str)++a6V (z18 u) none (some (x/16 % 8)) else a6V (z18 u) none (some (1+(x+(k:Int)) % 8))
theorem bB (u:Int) {m:Int}(h0:0<=m):(a6V (z18 u) none (some m)).cps.toList=(FD u).take m.toNat:=by
 obtain⟨n,rfl⟩:∃n:Nat,m=(n:Int):=⟨m.toNat,by lia⟩
 rw[RT,XF,b2X]
theorem J8 (u x:Int) (k:Nat):(EU u x k).cps.toList=if x/8 % 2=0 then GS (x/16+(k:Int))::(FD u).take (x/16 % 8).toNat else (FD u).take (1+(x+(k:Int)) % 8).toNat:=by
 unfold EU;split;. rw[MF,bB u (a4X _ (by decide))];rfl
 . have:=a4X (x+(k:Int)) (b:=8) (by decide);rw[bB u (by lia)]
theorem UN (u x:Int) (k:Nat):HZ (EU u x k):=by
 have hw:∀c∈FD u,KZ c=true:=λc hc=>by obtain⟨j,_,rfl⟩:=zL.mp hc;exact QG _
 have e:=J8 u x k;have l8:=HH u;refine WS (λc hc=>?_) ?_ ?_
 . rw[e] at hc;split at hc
   . rcases yX.mp hc with rfl | hc;. exact QG _
     . exact hw c (List.mem_of_mem_take hc)
   . exact hw c (List.mem_of_mem_take hc)
 . rw[e];split;. simp
   . rw[a0J];have:=a4X (x+(k:Int)) (b:=8) (by decide);lia
 . rw[e];split;. rw[yR,a0J];have:=a6J (x/16) (b:=8) (by decide);lia
   . rw[a0J];lia
theorem XG {u x:Int}{j k:Nat}(hj:j < 8) (hk:k < 8) (h:EU u x j=EU u x k):j=k:=by
 have e:(EU u x j).cps.toList=(EU u x k).cps.toList:=by rw[h]
 rw[J8,J8] at e;split at e;. have e1:=(List.cons.inj e).1;unfold GS at e1;lia
 . have e1:=congrArg List.length e;rw[a0J,a0J,HH] at e1;lia
theorem ZY (u x:Int) {n:Nat}(hn:n<=6):AH ((a0V n).map (EU u x)):=by
 refine⟨λz hz=>?_,?_,by rw[zX,xZ];lia⟩;. obtain⟨k,_,rfl⟩:=zL.mp hz;exact UN u x k
 . unfold List.Nodup;rw[b1W];refine List.pairwise_iff_getElem.mpr λi j hi hj au e=>?_;rw[xZ] at hi hj;rw[List.getElem_range,List.getElem_range] at e;have:=XG (by lia) (by lia) e;lia
theorem XH {w:List Th}{k:Nat}{t:Th}(j6:(w.map (·.1)).Nodup) (h:w[k]?=some t):DF (w.take k) t.1 t.2.1 t.2.2=w.take (k+1):=by
 unfold DF;rw[if_neg λq=>?_,a3V,h];. rfl
 . obtain⟨s,hs,e⟩:=List.any_eq_true.mp q;have e:=of_decide_eq_true e;obtain⟨i,hi,rfl⟩:=List.mem_iff_getElem.mp hs;rw[a0J] at hi;rw[List.getElem_take] at e;obtain⟨hk,rfl⟩:=yT.mp h;have h2:=List.pairwise_iff_getElem.mp j6 i k (by rw[zX];lia) (by rw[zX];exact hk) (by lia);rw[b2K,b2K] at h2;exact h2 e
def inT (ns:List Str):PyData->PyData | .str z=>.bool (decide (z∈ns)) | d=>d
theorem QH (ns l:List Str):(l.map a0Z).map (inT ns)=(l.map λz=>decide (z∈ns)).map .bool:=by rw[zD,zD];rfl
theorem UO {ts:List Th}{x:Str}{p c:Int}:(DF ts x p c).length<=ts.length+1:=by
 unfold DF;split;. rw[zX];lia
 . rw[yY];exact zR _
theorem QJ {ts:List Th}{x n:Str}{p c:Int}(h:n≠x):B3 (DF ts x p c) n=B3 ts n:=by rw[X4,if_neg h]
theorem XJ {a b:List Th}(h:tsO a=tsO b):a=b:=by
 have h1:AL (tsD a)=AL (tsD b):=MO.d.inj h;clear h;induction a generalizing b with
 | nil=>cases b with | nil=>rfl | cons _ _=>cases h1
 | cons x r ih=>cases b with
   | nil=>cases h1
   | cons y s=> simp only[AL,tsD,pcD,zI,List.cons.injEq,Prod.mk.injEq,PyData.str.injEq,PyData.tuple.injEq,PyData.int.injEq,and_true] at h1;rw[ih (b:=s) (by simpa [AL,tsD,pcD] using h1.2)];obtain⟨⟨e1,e2,e3⟩,_⟩:=h1;obtain⟨x1,x2,x3⟩:=x;obtain⟨y1,y2,y3⟩:=y;simp only at e1 e2 e3;rw[e1,e2,e3]
theorem XM {a b:List Th}(h:tsO a=tsO b):a.map (·.1)=b.map (·.1):=by rw[XJ h]
theorem i2 (ns:List Str) (D:Deed):decide (C7 ns D=none)=((D.must.map λz=>decide (z∈ns)).all id&&!((D.made.toList.map λz=>decide (z∈ns)).any id)):=by
 rw[a1K,decide_eq_true_iff,a0W,b2W,b1V,List.any_eq_false];constructor
 . intro h;have h:=FV h;refine⟨λb hb=>?_,λb hb=>?_⟩;. obtain⟨z,hz,rfl⟩:=zL.mp hb;obtain⟨h1,h2⟩:=yL.mp hz;exact decide_eq_true ((h z h1).mpr (of_decide_eq_true h2))
   . obtain⟨z,hz,rfl⟩:=zL.mp hb;have hm:D.made=some z:=by simpa using hz
     have hn:z∈D.names:=by cases D <;> simp_all [Deed.made,Deed.names]
     have:=(h z hn)
     simp only[id,decide_eq_true_eq];exact λq=>this.mp q hm
 . rintro⟨h1,h2⟩;refine X5 λn hn=>⟨λq hm=>?_,λhm=>?_⟩
   . exact h2 _ (zL.mpr ⟨n,by simpa using hm,rfl⟩) (decide_eq_true q)
   . exact of_decide_eq_true (h1 _ (zL.mpr ⟨n,yL.mpr ⟨hn,decide_eq_true hm⟩,rfl⟩))
def stT (ns:List Str):PyData->Bool | .str z=>decide (z∈ns) | _=>false
def frT (ns:List Str) (d:PyData):Bool:=!stT ns d
theorem XN (ns l:List Str):((l.map a0Z).filter (stT ns)).map id=(l.filter λz=>decide (z∈ns)).map .str:=by rw[a8Q,xV];rfl
theorem LG (ns l:List Str):((l.map a0Z).filter (frT ns)).map id=(l.filter λz=>!decide (z∈ns)).map .str:=by rw[a8Q,xV];rfl
theorem QK (l:List Str):a5Q (.list (l.map a0Z)) (.list [])=l.isEmpty:=by
 cases l with
 | nil=>rfl
 | cons a r=>simp[a5Q,PyData.eqvAll]
theorem QM {α:Type}{l:List α}(h:l.isEmpty=false):l≠[]:=by rintro rfl;cases h
def okX (L:List Int):Prop:=∀x∈L,0<=x/\x < 1000000000
def II:FSp:=⟨λxs M=>∃(ns:List Int) (k:Nat),xs=[.d (.list (ns.map .int)),.d (.int k)],λxs M y M'=>M'=M/\∃c:Int,y = .d (.int c)⟩
theorem QN {ns:List Int}{k:Nat}(q:∀c:Int,Q (.d (.int c)) M):[DS.d (.list (ns.map .int)),.d (.int k)].length=2/\II.pre [.d (.list (ns.map .int)),.d (.int k)] M/\∀x M',II.post [.d (.list (ns.map .int)),.d (.int k)] M x M'->Q x M':=⟨rfl,⟨ns,k,rfl⟩,λx M' h=>by obtain⟨rfl,c,rfl⟩:=h;exact q c⟩
def EB:FSp:=⟨λxs M=>∃(c:Int) (n:Nat),xs=[.d (.int c),.d (.int n)]/\n<=200,λxs M y M'=>∀(c:Int) (n:Nat),xs=[.d (.int c),.d (.int n)]->M'=M/\∃L:List Int,y = .d (.list (L.map .int))/\L.length=n/\okX L⟩
theorem OJ {c:Int}{n:Nat}(hn:n<=200) (q:∀L:List Int,L.length=n->okX L->Q (.d (.list (L.map .int))) M):[DS.d (.int c),.d (.int n)].length=2/\EB.pre [.d (.int c),.d (.int n)] M/\∀x M',EB.post [.d (.int c),.d (.int n)] M x M'->Q x M':=⟨rfl,⟨c,n,rfl,hn⟩,λx M' h=>by obtain⟨rfl,L,rfl,h1,h2⟩:=h c n rfl;exact q L h1 h2⟩
def nxX (L:List Int) (a n:Nat):List DS:=[.d (.list (L.map .int)),.d (.int a),.d (.int n)]
def GB:FSp:=⟨λxs M=>∃(L:List Int) (a n:Nat),xs=nxX L a n/\okX L/\a+1 < L.length/\n<=6/\L.length<=200,λxs M y M'=>∀(L:List Int) (a n:Nat),xs=nxX L a n->M'=M/\∃ys,y = .d (BY ys)/\AH ys/\ys.length=n⟩
theorem OK {a n:Nat}(h:okX L) (ha:a+1 < L.length) (hn:n<=6) (hl:L.length<=200) (q:∀ys,AH ys->ys.length=n->Q (.d (BY ys)) M):(nxX L a n).length=3/\GB.pre (nxX L a n) M/\∀x M',GB.post (nxX L a n) M x M'->Q x M':=⟨rfl,⟨L,a,n,rfl,h,ha,hn,hl⟩,λx M' hh=>by obtain⟨rfl,ys,rfl,h1,h2⟩:=hh L a n rfl;exact q ys h1 h2⟩
def EV:FSp:=⟨λxs M=>∃x:Int,xs=[.d (.int x)]/\0<=x/\x < 1000000000,λxs M y M'=>M'=M/\∃v:Int,y = .d (.int v)/\0<=v/\v<=999⟩
theorem IJ {x:Int}(h:0<=x/\x < 1000000000) (q:∀v:Int,0<=v->v<=999->Q (.d (.int v)) M):[DS.d (.int x)].length=1/\EV.pre [.d (.int x)] M/\∀y M',EV.post [.d (.int x)] M y M'->Q y M':=⟨rfl,⟨x,rfl,h⟩,λy M' hh=>by obtain⟨rfl,v,rfl,h1,h2⟩:=hh;exact q v h1 h2⟩
def DJ:FSp:=⟨λxs M=>∃x:Int,xs=[.d (.int x)]/\0<=x/\x < 1000000000,λxs M y M'=>M'=M/\∃v:Int,y = .d (.int v)/\-1000000000000<=v/\v<=1000000000000⟩
theorem GU {x:Int}(h:0<=x/\x < 1000000000) (q:∀v:Int,-1000000000000<=v->v<=1000000000000->Q (.d (.int v)) M):[DS.d (.int x)].length=1/\DJ.pre [.d (.int x)] M/\∀y M',DJ.post [.d (.int x)] M y M'->Q y M':=⟨rfl,⟨x,rfl,h⟩,λy M' hh=>by obtain⟨rfl,v,rfl,h1,h2⟩:=hh;exact q v h1 h2⟩
def IK:FSp:=⟨λxs M=>∃(ys:List Str) (x:Int),xs=[.d (BY ys),.d (.int x)]/\ys≠[]/\ys.length<=60,λxs M y M'=>∀(ys:List Str) (x:Int),xs=[.d (BY ys),.d (.int x)]->M'=M/\∃z,y = .d (.str z)/\z∈ys⟩
theorem B4 {x:Int}(h:ys≠[]) (hl:ys.length<=60) (q:∀z∈ys,Q (.d (.str z)) M):[DS.d (BY ys),.d (.int x)].length=2/\IK.pre [.d (BY ys),.d (.int x)] M/\∀y M',IK.post [.d (BY ys),.d (.int x)] M y M'->Q y M':=⟨rfl,⟨ys,x,rfl,h,hl⟩,λy M' hh=>by obtain⟨rfl,z,rfl,h1⟩:=hh ys x rfl;exact q z h1⟩
def LH (L:List Int) (a:Nat) (ys:List Str):List DS:=[.d (.list (L.map .int)),.d (.int a),.d (BY ys)]
def TC (ys:List Str) (w:List Th):Prop:=h7 w/\∀t∈w,t.1∈ys
def GC:FSp:=⟨λxs M=>∃(L:List Int) (a:Nat) (ys:List Str),xs=LH L a ys/\okX L/\a+ys.length < L.length/\L.length<=200/\AH ys/\ys.length<=6,λxs M y M'=>∀(L:List Int) (a:Nat) (ys:List Str),xs=LH L a ys->M'=M/\∃w,y = .d (wD w)/\TC ys w⟩
theorem OL {a:Nat}(h:okX L) (ha:a+ys.length < L.length) (hl:L.length<=200) (hn:AH ys) (h6:ys.length<=6) (q:∀w,TC ys w->Q (.d (wD w)) M):(LH L a ys).length=3/\GC.pre (LH L a ys) M/\∀x M',GC.post (LH L a ys) M x M'->Q x M':=⟨rfl,⟨L,a,ys,rfl,h,ha,hl,hn,h6⟩,λx M' hh=>by obtain⟨rfl,w,rfl,h1⟩:=hh L a ys rfl;exact q w h1⟩
structure There (ys:List Str) (w:List Th):Prop where
 nd:(w.map (·.1)).Nodup
 sub:∀t∈w,t.1∈ys
def GD:FSp:=⟨λxs M=>∃w:List Th,xs=[.d (wD w)]/\(w.map (·.1)).Nodup/\w.length < 60,λxs M y M'=>∀w:List Th,xs=[.d (wD w)]->∃p,M p=none/\y = .loc p/\M'=M.put p (tsO w)⟩
theorem OM (h:(w.map (·.1)).Nodup) (hl:w.length < 60) (q:∀p,M p=none->Q (.loc p) (M.put p (tsO w))):[DS.d (wD w)].length=1/\GD.pre [.d (wD w)] M/\∀x M',GD.post [.d (wD w)] M x M'->Q x M':=⟨rfl,⟨w,rfl,h,hl⟩,λx M' hh=>by obtain⟨p,h1,rfl,rfl⟩:=hh w rfl;exact q p h1⟩
def FW:FSp:=⟨λxs M=>∃D:Deed,xs=[.d D.d]/\D.real,λxs M y M'=>∀D:Deed,xs=[.d D.d]->y = .d (BY D.made.toList)/\M'=M⟩
theorem QO (h:D.real) (q:Q (.d (BY D.made.toList)) M):[DS.d D.d].length=1/\FW.pre [.d D.d] M/\∀x M',FW.post [.d D.d] M x M'->Q x M':=⟨rfl,⟨D,rfl,h⟩,λx M' hh=>by obtain⟨rfl,rfl⟩:=hh D rfl;exact q⟩
def tdX (p:Addr) (D:Deed):List DS:=[.loc p,.d D.d]
def GF:FSp:=⟨λxs M=>∃(p:Addr) (w:List Th) (D:Deed),xs=tdX p D/\M p=some (tsO w)/\D.real,λxs M y M'=>∀(p:Addr) (w:List Th) (D:Deed),xs=tdX p D->M p=some (tsO w)->D.real->y = .d (.bool (decide (C7 (w.map (·.1)) D=none)))/\M'=M⟩
theorem LI (m:M p=some (tsO w)) (h:D.real) (q:Q (.d (.bool (decide (C7 (w.map (·.1)) D=none)))) M):(tdX p D).length=2/\GF.pre (tdX p D) M/\∀x M',GF.post (tdX p D) M x M'->Q x M':=⟨rfl,⟨p,w,D,rfl,m,h⟩,λx M' hh=>by obtain⟨rfl,rfl⟩:=hh p w D rfl m h;exact q⟩
def EW:FSp:=⟨λxs M=>∃(p:Addr) (w:List Th) (D:Deed),xs=tdX p D/\M p=some (tsO w)/\goD w D/\w.length < 60,λxs M y M'=>∀(p:Addr) (w:List Th) (D:Deed),xs=tdX p D->M p=some (tsO w)->∃q,M q=none/\y = .loc q/\M'=M.put q (tsO (doT w D))⟩
theorem JU (m:M p=some (tsO w)) (h:goD w D) (hl:w.length < 60) (q:∀r,M r=none->Q (.loc r) (M.put r (tsO (doT w D)))):(tdX p D).length=2/\EW.pre (tdX p D) M/\∀x M',EW.post (tdX p D) M x M'->Q x M':=⟨rfl,⟨p,w,D,rfl,m,h,hl⟩,λx M' hh=>by obtain⟨r,h1,rfl,rfl⟩:=hh p w D rfl m;exact q r h1⟩
def ddX (L:List Int) (a:Nat) (ys:List Str) (p:Addr):List DS:=[.d (.list (L.map .int)),.d (.int a),.d (BY ys),.loc p]
def AU (ys:List Str) (D:Deed):Prop:=D.real/\∀x∈D.names,x∈ys
def FX:FSp:=⟨λxs M=>∃(L:List Int) (a:Nat) (ys:List Str) (p:Addr) (w:List Th),xs=ddX L a ys p/\okX L/\a+4 < L.length/\L.length<=200/\AH ys/\2<=ys.length/\ys.length<=6/\M p=some (tsO w),λxs M y M'=>∀(L:List Int) (a:Nat) (ys:List Str) (p:Addr),xs=ddX L a ys p->M'=M/\∃D:Deed,y = .d D.d/\AU ys D⟩
theorem QR {a:Nat}(h:okX L) (ha:a+4 < L.length) (hl:L.length<=200) (hn:AH ys) (h2:2<=ys.length) (h6:ys.length<=6) (m:M p=some (tsO w)) (q:∀D:Deed,AU ys D->Q (.d D.d) M):(ddX L a ys p).length=4/\FX.pre (ddX L a ys p) M/\∀x M',FX.post (ddX L a ys p) M x M'->Q x M':=⟨rfl,⟨L,a,ys,p,w,rfl,h,ha,hl,hn,h2,h6,m⟩,λx M' hh=>by obtain⟨rfl,D,rfl,h1⟩:=hh L a ys p rfl;exact q D h1⟩
def rwX (L:List Int) (a n:Nat) (ys:List Str) (p:Addr):List DS:=[.d (.list (L.map .int)),.d (.int a),.d (.int n),.d (BY ys),.loc p]
def KH:FSp:=⟨λxs M=>∃(L:List Int) (a n:Nat) (ys:List Str) (p:Addr) (w:List Th),xs=rwX L a n ys p/\okX L/\a+5*n<=L.length/\L.length<=200/\n<=12/\AH ys/\2<=ys.length/\ys.length<=6/\M p=some (tsO w)/\There ys w,λxs M y M'=>∀(L:List Int) (a n:Nat) (ys:List Str) (p:Addr),xs=rwX L a n ys p->M'=M/\∃Ds:List Deed,y = .d (.tuple (Ds.map Deed.d))/\Ds.length<=n/\∀D∈Ds,AU ys D⟩
theorem HI {a n:Nat}(h:okX L) (ha:a+5*n<=L.length) (hl:L.length<=200) (j7:n<=12) (hn:AH ys) (h2:2<=ys.length) (h6:ys.length<=6) (m:M p=some (tsO w)) (ht:There ys w) (q:∀Ds:List Deed,Ds.length<=n->(∀D∈Ds,AU ys D)->Q (.d (.tuple (Ds.map Deed.d))) M):(rwX L a n ys p).length=5/\KH.pre (rwX L a n ys p) M/\∀x M',KH.post (rwX L a n ys p) M x M'->Q x M':=⟨rfl,⟨L,a,n,ys,p,w,rfl,h,ha,hl,j7,hn,h2,h6,m,ht⟩,λx M' hh=>by obtain⟨rfl,Ds,rfl,h1,h3⟩:=hh L a n ys p rfl;exact q Ds h1 h3⟩
theorem ZZ {ys:List Str}(hn:AH ys) {pl num:Int}(p0:0<=pl) (p1:pl<=999) {z:Str}(hz:z∈ys):AU ys (.put z pl num)/\AU ys (.take z)/\AU ys (.move z pl)/\AU ys (.count z num):=by
 have nH:=hn.1 z hz;have one:∀{D:Deed},D.names=[z]->D.ok/\∀x∈D.names,x∈ys:=λ{D} e=>by
   refine⟨λx hx=>?_,λx hx=>?_⟩;. rw[e] at hx;rw[List.mem_singleton.mp hx];exact nH
   . rw[e] at hx;rw[List.mem_singleton.mp hx];exact hz
 exact⟨⟨⟨(one rfl).1,trivial,p0,p1⟩,(one rfl).2⟩,⟨⟨(one rfl).1,trivial,trivial⟩,(one rfl).2⟩,⟨⟨(one rfl).1,trivial,p0,p1⟩,(one rfl).2⟩,⟨⟨(one rfl).1,trivial,trivial⟩,(one rfl).2⟩⟩
theorem a6 {ys:List Str}(hn:AH ys) {pl num:Int}(p0:0<=pl) (p1:pl<=999) {o y:Str}(ho:o∈ys) (hy:y∈ys) (ao:y≠o):AU ys (.name o y)/\AU ys (.split o y pl num)/\AU ys (.join o y):=by
 have two:∀{D:Deed},D.names=[o,y]->D.ok/\∀x∈D.names,x∈ys:=λ{D} e=>by
   have h:∀x∈D.names,x∈ys:=λx hx=>by
     rw[e] at hx;rcases yX.mp hx with q | q;. rw[q];exact ho
     . rw[List.mem_singleton.mp q];exact hy
   exact⟨λx hx=>hn.1 x (h x hx),h⟩
 exact⟨⟨⟨(two rfl).1,a8K ao,trivial⟩,(two rfl).2⟩,⟨⟨(two rfl).1,a8K ao,p0,p1⟩,(two rfl).2⟩,⟨⟨(two rfl).1,a8K ao,trivial⟩,(two rfl).2⟩⟩
theorem OO {ys:List Str}(hn:AH ys) (h2:2<=ys.length) (o:Str):(ys.filter λz=>!decide (z=o))≠[]:=by
 intro h;have all:∀z∈ys,z=o:=λz hz=>by have:=List.filter_eq_nil_iff.mp h z hz;simpa using this
 match ys,h2,hn,all with
 | a::b::r,_,hn,all=> have e:=(all a (by simp)).trans (all b (by simp)).symm;have:=hn.2.1;rw[xW] at this;exact this.1 (by rw[e];simp)
def neT (o:Str):PyData->Bool | .str z=>!decide (z=o) | _=>false
theorem LJ (o:Str) (l:List Str):((l.map a0Z).filter (neT o)).map id=(l.filter λz=>!decide (z=o)).map .str:=by rw[a8Q,xV];rfl
theorem IL {M:Own}{a:Addr}{o:MO}:(M.put a o).del a=M.del a:=by funext b;unfold Own.del Own.put;by_cases h:b=a <;> simp[h]
theorem eQ {M:Own}{a b:Addr}(h:b≠a):(M.del a) b=M b:=by unfold Own.del;rw[if_neg h]
theorem QS {M N:Own}{a:Addr}(h:M.Sub N) (n:N a=none):M a=none:=by
 cases e:M a with
 | none=>rfl
 | some o=>have:=h a o e;rw[n] at this;cases this
theorem QT {ys:List Str}{w:List Th}{D:Deed}(h:There ys w) (hg:goD w D) (hD:∀x∈D.names,x∈ys):There ys (doT w D):=by
 obtain⟨nd,hl⟩:=eJ hg;refine⟨nd,λt ht=>?_⟩;have h1:t.1∈(doT w D).map (·.1):=zL.mpr ⟨t,ht,rfl⟩;rw[NI hg.2.1 hg.2.2] at h1;have hw:∀z∈w.map (·.1),z∈ys:=λz hz=>by obtain⟨s,hs,rfl⟩:=zL.mp hz;exact h.sub s hs
 cases D with
 | put x p k=>rcases yW.mp h1 with q | q;exact hw _ q;exact hD _ (by simpa [Deed.names] using q)
 | take x=>exact hw _ (yL.mp h1).1
 | move x p=>exact hw _ h1
 | count x k=>exact hw _ h1
 | name x y=>rcases yW.mp h1 with q | q;exact hw _ (yL.mp q).1;exact hD _ (by rw[List.mem_singleton.mp q];simp[Deed.names])
 | split x y p k=>rcases yW.mp h1 with q | q;exact hw _ q;exact hD _ (by rw[List.mem_singleton.mp q];simp[Deed.names])
 | join x y=>exact hw _ (yL.mp h1).1
theorem OP:∀{l ys:List Str},l.Nodup->(∀z∈l,z∈ys)->l.length<=ys.length
 | [],_,_,_=>xU _
 | a::r,ys,hn,hs=>by rw[xW] at hn;have ha:=hs a (by simp);have:=OP (l:=r) (ys:=ys.erase a) hn.2 λz hz=>(List.mem_erase_of_ne (by rintro rfl;exact hn.1 hz)).mpr (hs z (yV _ hz));rw[List.length_erase_of_mem ha] at this;have:=List.length_pos_of_mem ha;rw[yR];lia
theorem There.few {ys:List Str}{w:List Th}(h:There ys w):w.length<=ys.length:=by
 have:=OP h.nd λz hz=>by obtain⟨t,h1,rfl⟩:=zL.mp hz;exact h.sub t h1
 rw[zX] at this;exact this
end
end DL
namespace L2
open PySem PySem.Spec PyProof.Rows
def S7:List V->Hp->VK->Prop:=λxs H Q=>∃(p:Addr) (kvs:List (Key×V)),xs=[.ref p]/\Rd H p (.dK kvs)/\∀q:Addr,H q=none->Q (.ref q) (upd H q (.dK kvs))
theorem S8 {X:Cx}:BP X (.type "dict") S7:=by intro pins s σ H xs us Q I r h;obtain⟨p,kvs,rfl,hp,q⟩:=h;obtain⟨u,rfl,ru⟩:=GO r;cases ru;obtain⟨hz,nI,vs,rel,hd⟩:=HU I.hok hp;have ac:vs.length=kvs.length:=(Paired.length rel).symm;refine kt_call_dict nI hd (by rw[ac];exact hz) λh' il sb=>?_;have hn:H s.heap.objs.size=none:=I.hok.fresh (zR _);have keep:∀b o,s.heap.get? b=some o->h'.get? b=some o:=λb o e=>sb.extBut b o (zC (zM e)) (zW _ e);refine⟨.ref s.heap.objs.size,_,I.laid (t':=s.toks) (o:=.dK kvs) keep (zR _) ?_,rfl,q _ hn⟩;exact KQ hz (beq_eq_false_iff_ne.mpr (a8K (zC I.big))) rel il
end L2
namespace DL
open PySem PySem.Spec L2
section
variable {X:Cx}{K:Frg}
theorem eT (h:X.K=K):BP X (.type "dict") S7:=S8
end
section
variable {K:Frg}{M:Own}{ρ:List (Option DS)}{td ty:TE}{Q:DS->Own->Prop}
theorem XO {a:Addr}{ts:List (Str×PyData)}(m:M a=some (.d (AL ts))) (q:∀p,M p=none->Q (.loc p) (M.put p (.d (AL ts)))):DR K S7 [.loc a] M Q:=λH vs QQ oa s k=>by obtain⟨v,r,rfl,h1,h2⟩:=s;cases h2;unfold SI at h1;subst h1;obtain⟨ks,e1,e2⟩:=oa a _ m;refine⟨a,ks,rfl,.inl e1,λp hp=>?_⟩;obtain⟨o1,t1⟩:=HX oa hp e2;exact k _ _ (.loc p) _ o1 rfl t1 (q p (oa.none hp))
theorem QU (h:DE K ty ρ M λy M1=>DE K td ρ M1 λx M2=>∃(a:Addr) (ts:List (Str×PyData)) (k:Str),x = .loc a/\y = .d (.str k)/\M2 a=some (.d (AL ts))/\Q (.d (.bool (!(CD ts k).isSome))) M2):DE K (SU ty td) ρ M Q:=λσ H QQ R kk=>
 h σ H _ R λv H1 x M1 o1 s1 t1 h1=>h1 σ H1 _ (R.step o1 t1) λu H2 y M2 o2 s2 t2 h2=>by
   obtain⟨a,ts,k,rfl,rfl,m,q⟩:=h2;unfold SI at s2;subst s2;rw[BO s1];obtain⟨ks,e1,e2⟩:=o2 a _ m;refine⟨a,GM ks (a1X k),rfl,.inl ⟨ks,a1X k,.inl e1,rfl,rfl⟩,kk _ H2 _ M2 o2 ?_ (t1.trans t2) q⟩;rcases ET (k:=k) e2 with ⟨d',w',a1,a2,a3⟩ | ⟨a1,a2⟩
   . rw[a1,a2];exact AV
   . rw[a1,a2];exact AV
theorem UP {dj:List (TE×TE)}(h:∀p,M p=none->DPs K dj ρ (M.put p (.d [])) λbu M1=>M1 p=some (.d [])/\bu.length<=15/\(bu.map (·.1)).Nodup/\Q (.loc p) (M1.put p (.d (AL bu)))):DE K (aT dj) ρ M Q:=λσ H QQ R k p hp=>by
 have nJ:=R.own.none hp;obtain⟨li,kh⟩:=HX (kvs:=[]) (ks:=[]) R.own hp (by unfold DKV;rfl);refine h p nJ σ _ _ (R.step li kh) λps H2 bu M2 o2 ⟨vs,hd,e⟩ t2 h2=>?_;obtain⟨hm,hl,nd,q⟩:=h2;obtain⟨ks,q1,q2⟩:=o2 p _ hm;unfold DKV at q2;subst q2;have ac:vs.length=bu.length:=by rw[hd.length,zX]
 refine⟨q1,(bu.map λk=>(a1X k.1:Key)).zip vs,?_,by rw[List.length_zip,zX];lia,?_⟩;. rw[e];exact Q2 bu vs ac
 . have hk:(((bu.map λk=>(a1X k.1:Key)).zip vs).map (·.1)).Nodup:=by
     rw[List.map_fst_zip (by rw[zX,ac];exact zR _)];have:bu.map (λk=>(a1X k.1:Key))=(bu.map (·.1)).map a1X:=by rw[zD];rfl
     rw[this];unfold List.Nodup;rw[b1W];exact nd.imp λ{a b} q e=>q (by injection e)
   rw[JO _ [] (by simpa using hk),List.nil_append];obtain⟨o3,t3⟩:=FB (kvs:=AL bu) (ks:=(bu.map λk:Str×PyData=>(a1X k.1:Key)).zip vs) o2 hm (show DKV K H2 M2.W (AL bu) _ from WU hd);exact k _ _ (.loc p) _ o3 rfl ((kh.trans t2).trans t3) q
end
end DL
namespace L2
open PySem PySem.Spec PyProof.Rows
section
variable {prog:Program}{w:World}{A:Around}{E:Value->Shared->Prop}{s:Shared}
theorem OQ {l:Addr}{vs:List Value}{ss:List Str}{Q:Value->Shared->Prop}(hl:s.heap.IsTuple l vs.toArray) (hS:StrsAre vs ss) (bi:vs.length < 64) (h:∀(out:Array Value) (av:List Str),StrsAre out.toList av->av.Perm ss->sortedS av=true->Q (.ref (s.heap.objs.size+1)) { s with heap:=sortedAll s.heap vs out }) :
   wpAny (model prog w) A (call (.builtin "sorted") [.ref l]) Q E s:=by
 refine b1Q kind_sorted plain_sorted entry_sorted (args_sorted1 _) ?_;unfold Builtin.«sorted»;refine zZ (m:=checkCount "sorted" 1 1 _) (zY ?_);refine zZ (JP (.inr hl) ?_ (by rw[sizeLine_eq];lia));refine zZ (wpAny_newList ?_ (by rw[sizeLine_eq];lia));have hsz:((s.heap.push (seqObj "list" #[] 0)).update s.heap.objs.size (a4W (·++vs.toArray))).objs.size=s.heap.objs.size+1:=by rw[Heap.size_update,size_push']
 have fi:(((s.heap.push (seqObj "list" #[] 0)).update s.heap.objs.size (a4W (·++vs.toArray))).push (seqObj "list" vs.toArray 0)).get? (s.heap.objs.size+1)=some (seqObj "list" vs.toArray 0):=by rw[<-hsz];exact yZ _ rfl
 show wpAny _ _ _ _ _ { s with heap:=((s.heap.push (seqObj "list" #[] 0)).update s.heap.objs.size (a4W (·++vs.toArray))).push (seqObj "list" vs.toArray 0) };rw[hsz];refine zZ (wpAny_holding (wpAny_call_entry slot_list_sort ⟨_,fi,rfl⟩ entry_list_sort (list_sort_treeK strKind_oneLt fi hS.keysOf (λv₁ v₂ rest e=>keyKind_strs (by rw[<-e];exact hS)) bi λcq a1 a2=>⟨_,rfl,?_⟩) (args_list_sort _)));obtain⟨av,h1,h2,h3⟩:=sorted_out_str hS a1 a2;exact zY ⟨_,rfl,h _ av h1 h2 h3⟩
end
section
variable {X:Cx}
def OR (K:Frg):List V->Hp->VK->Prop:=λxs H Q=>∃(p:Addr) (ss:List Str),xs=[.ref p]/\SqT K H p (ss.map V.str)/\ss.length < 64/\∀(av:List Str) (q:Addr),av.Perm ss->sortedS av=true->H q=none->Q (.ref q) (upd H q (.lst (av.map V.str)))
theorem QV:BP X (.builtin "sorted") (OR X.K):=by intro pins s σ H xs us Q I r h;obtain⟨p,ss,rfl,hp,bi,q⟩:=h;obtain⟨u,rfl,ru⟩:=GO r;cases ru;obtain⟨ab,rv,pl,hz⟩:=I.tuple hp;have hS:=K9 rv;have el:=rv.length;rw[zX] at el;refine OQ pl hS (by lia) λout av h1 h2 h3=>?_;obtain⟨e,he⟩:=sortedAll_at s.heap ab out;have hn:H (s.heap.objs.size+1)=none:=I.hok.fresh (b0W _);have ac:=h2.length_eq;refine⟨.ref (s.heap.objs.size+1),_,I.laid (t':=s.toks) (o:=.lst (av.map V.str)) (λb o eb=>sortedAll_old eb) (b0W _) ?_,rfl,q av _ h2 h3 hn⟩;refine⟨by rw[zX,ac];exact zN (xT bi) (by decide),out.toList,e,T5 h1,?_⟩;have h_:=he;simpa [seqObj] using h_
end
end L2
namespace DL
open PySem PySem.Spec L2
section
variable {X:Cx}{K:Frg}
theorem a7 (h:X.K=K):BP X (.builtin "sorted") (OR K):=h▸QV
end
section
variable {K:Frg}{M:Own}{Q:DS->Own->Prop}
theorem UQ {ss:List Str}(bi:ss.length < 64) (q:∀av:List Str,av.Perm ss->xH av=true->Q (.d (.list (av.map .str))) M):DR K (OR K) [.d (.tuple (ss.map .str))] M Q:=λH vs QQ oa s k=>by obtain⟨v,r,rfl,h1,h2⟩:=s;cases h2;unfold SI DV at h1;obtain⟨a,vs,rfl,hl,hd⟩:=h1;rw[FR hd] at hl;refine⟨a,ss,rfl,hl.sq,bi,λav p hp hs hn=>?_⟩;have g:Grow K M.W M.W H (upd H p (.lst (av.map V.str))):=BJ _ hn;refine k _ _ (.d (.list (av.map .str))) M (oa.new hn) ?_ ⟨g⟩ (q av hp hs);unfold SI DV;exact⟨p,_,rfl,.inl ⟨λw=>w (oa.none hn),.inl AM⟩,FS⟩
end
end DL
namespace DL
open PySem PySem.Spec L2
def S9 (a:Str):List Str->List Str
 | []=>[a]
 | b::r=>if sl b a then b::S9 a r else a::b::r
def BA:List Str->List Str
 | []=>[]
 | a::r=>S9 a (BA r)
theorem J9 (a:Str):∀l:List Str,(S9 a l).Perm (a::l)
 | []=>.refl _
 | b::r=>by
   unfold S9;split;. exact((J9 a r).cons b).trans (List.Perm.swap a b r)
   . exact .refl _
theorem AQ:∀l:List Str,(BA l).Perm l
 | []=>.refl _
 | a::r=>(J9 a (BA r)).trans ((AQ r).cons a)
abbrev Pl:=Sum Int Str
abbrev Ent:=Pl×List Str×Int
def plE:Pl->PyData | .inl p=>.int p | .inr n=>.str n
def AN (l:List Str):PyData:=.tuple (l.map .str)
def BM (e:Ent):PyData:=.tuple [plE e.1,AN e.2.1,.int e.2.2]
def lfE (t:Str×Ent):PyData:=.tuple [.str t.1,plE t.2.1,AN t.2.2.1,.int t.2.2.2]
structure Eff where
 st:List Str
 fr:List Str
 lf:List (Str×Ent)
def Eff.d (E:Eff):PyData:=.tuple [AN E.st,AN E.fr,.tuple (E.lf.map lfE)]
def efO (o:Option Eff):PyData:=match o with | some E=>E.d | none=>.none
def K4 (ts:List (Str×Ent)):MO:=.d (AL (ts.map λt=>(t.1,BM t.2)))
def BB:List (Str×Ent)->Str->Option Ent
 | [],_=>none
 | t::r,k=>if t.1=k then some t.2 else BB r k
section
variable {M:Own}{Q:DS->Own->Prop}
theorem TD {a:Str}:∀{l:List Str},l.Pairwise (λx y=>sl y x=false)->(S9 a l).Pairwise λx y=>sl y x=false
 | [],_=>by simp[S9]
 | b::r,h=>by
   have h2:=h;rw[List.pairwise_cons] at h;unfold S9;split
   . rename_i hb;rw[List.pairwise_cons];refine⟨λy hy=>?_,TD h.2⟩;rcases yX.mp ((J9 a r).mem_iff.mp hy) with rfl | q;. exact WM hb
     . exact h.1 y q
   . rename_i hb;rw[List.pairwise_cons];refine⟨λy hy=>?_,h2⟩;have j8:sl b a=false:=by simpa using hb
     rcases yX.mp hy with rfl | q;. exact j8
     . cases hya:sl y a with
       | false=>rfl
       | true=>
         have nK:=h.1 y q;exfalso;cases hby:sl b y with
         | true=>rw[L1 hby hya] at j8;cases j8
         | false=>rw[FT hby nK] at j8;rw[j8] at hya;cases hya
theorem GG:∀l:List Str,(BA l).Pairwise λx y=>sl y x=false
 | []=>a5V
 | a::r=>TD (GG r)
theorem TF {l ss:List Str}(hp:ss.Perm l) (hs:xH ss=true):ss=BA l:=(hp.trans (AQ l).symm).eq_of_pairwise (le:=λx y=>sl y x=false) (λa b _ _ h1 h2=>FT h2 h1) (UI _ hs) (GG l)
theorem JA {a b:List Str}(h:a.Perm b):BA a=BA b:=((AQ a).trans (h.trans (AQ b).symm)).eq_of_pairwise (le:=λx y=>sl y x=false) (λa b _ _ h1 h2=>FT h2 h1) (GG a) (GG b)
theorem a8 {l:List Str}(h:l.Pairwise λx y=>sl y x=false):BA l=l:=(AQ l).eq_of_pairwise (le:=λx y=>sl y x=false) (λa b _ _ h1 h2=>FT h2 h1) (GG l) h
def BS (ts:List (Str×Ent)) (n:Str):Bool:=(BB ts n).isSome
def AO (one other:Eff):Bool:=(other.st.any λn=>decide (n∈one.st++one.fr)&&!BS one.lf n)||other.fr.any (BS one.lf)
def AK (one other:Eff):List Str:=one.st++other.st.filter λn=>!decide (n∈one.st++one.fr)
def BF (one other:Eff):List Str:=one.fr++other.fr.filter λn=>!decide (n∈one.st++one.fr)
def IM (n:Str):Str×Ent:=(n,.inr n,[n],0)
def AZ (one other:Eff):List (Str×Ent):=one.lf++(other.st.filter λn=>!decide (n∈one.st++one.fr)).map IM
def AE (ts:List (Str×Ent)) (n:Str):Ent:=(BB ts n).getD (.inr n,[n],0)
def AJ (ts:List (Str×Ent)) (e:Ent):Ent:=(match e.1 with | .inl p=>.inl p | .inr n=>(AE ts n).1,BA (e.2.1.flatMap λn=>(AE ts n).2.1),e.2.2+(e.2.1.map λn=>(AE ts n).2.2).sum)
def B8 (ts:List (Str×Ent)) (n:Str) (e:Ent):List (Str×Ent):=if BS ts n=true then ts.map (λt=>if t.1=n then (t.1,e) else t) else ts++[(n,e)]
def BL (one other:Eff):List (Str×Ent):=other.lf.foldl (λts t=>B8 ts t.1 (AJ (AZ one other) t.2)) ((AZ one other).filter λt=>!decide (t.1∈other.st))
def CF (ts:List (Str×Ent)):List (Str×Ent):=(BA (ts.map (·.1))).map λn=>(n,AE ts n)
def AG (one other:Eff):Option Eff:=if AO one other=true then none else some ⟨BA (AK one other),BA (BF one other),CF (BL one other)⟩
def AF:Deed->Eff
 | .put x p k=>⟨[],[x],[(x,.inl p,[],k)]⟩
 | .take x=>⟨[x],[],[]⟩
 | .move x p=>⟨[x],[],[(x,.inl p,[x],0)]⟩
 | .count x k=>⟨[x],[],[(x,.inr x,[x],k)]⟩
 | .name x y=>⟨[x],[y],[(y,.inr x,[x],0)]⟩
 | .split x y p k=>⟨[x],[y],CF [(x,.inr x,[x],-k),(y,.inl p,[],k)]⟩
 | .join x y=>⟨BA [x,y],[],[(x,.inr x,BA [x,y],0)]⟩
def AS (Ds:List Deed):Option Eff:=Ds.foldl (λo D=>o.bind λE=>AG E (AF D)) (some ⟨[],[],[]⟩)
structure OkE (ys:List Str) (E:Eff):Prop where
 st:E.st.Nodup/\∀n∈E.st,n∈ys
 fr:E.fr.Nodup/\∀n∈E.fr,n∈ys
 apart:∀n∈E.st,n∉E.fr
 keys:(E.lf.map (·.1)).Nodup
 known:∀t∈E.lf,t.1∈E.st++E.fr
 from_:∀t∈E.lf,t.2.2.1.Nodup/\∀n∈t.2.2.1,n∈E.st
 place:∀t∈E.lf,∀n,t.2.1 = .inr n->n∈E.st
 dis:(E.lf.flatMap λt=>t.2.2.1).Nodup
def CH:FSp:=⟨λxs M=>∃l:List Str,xs=[.d (AN l)]/\l.length < 64,λxs M y M'=>∀l:List Str,xs=[.d (AN l)]->y = .d (AN (BA l))/\M'=M⟩
theorem CM {l:List Str}(h:l.length < 64) (q:Q (.d (AN (BA l))) M):[DS.d (AN l)].length=1/\CH.pre [.d (AN l)] M/\∀x M',CH.post [.d (AN l)] M x M'->Q x M':=⟨rfl,⟨l,rfl,h⟩,λx M' hh=>by obtain⟨rfl,rfl⟩:=hh l rfl;exact q⟩
def FE:FSp:=⟨λxs M=>∃E:Eff,xs=[.d E.d]/\(E.lf.map (·.1)).Nodup/\E.lf.length<=60,λxs M y M'=>∀E:Eff,xs=[.d E.d]->∃p,M p=none/\y = .loc p/\M'=M.put p (K4 E.lf)⟩
def clX (one other:Eff) (p:Addr):List DS:=[.d one.d,.loc p,.d other.d]
def EX:FSp:=⟨λxs M=>∃(ys:List Str) (one other:Eff) (p:Addr),xs=clX one other p/\M p=some (K4 one.lf)/\OkE ys one/\OkE ys other/\AH ys,λxs M y M'=>∀(one other:Eff) (p:Addr),xs=clX one other p->y = .d (.bool (AO one other))/\M'=M⟩
def QW (ts:List (Str×Ent)):PyData:=.dict (AL (ts.map λt:Str×Ent=>(t.1,BM t.2)))
def taX (ts:List (Str×Ent)) (e:Ent):List DS:=[.d (QW ts),.d (plE e.1),.d (AN e.2.1),.d (.int e.2.2)]
def FY:FSp:=⟨λxs M=>∃(ts:List (Str×Ent)) (e:Ent),xs=taX ts e/\(∀n∈e.2.1,BS ts n=true)/\(∀n,e.1 = .inr n->BS ts n=true)/\(e.2.1.flatMap λn=>(AE ts n).2.1).length < 64,λxs M y M'=>∀(ts:List (Str×Ent)) (e:Ent),xs=taX ts e->y = .d (BM (AJ ts e))/\M'=M⟩
def DK:FSp:=⟨λxs M=>∃(p:Addr) (ts:List (Str×Ent)),xs=[.loc p]/\M p=some (K4 ts)/\(ts.map (·.1)).Nodup/\ts.length < 64,λxs M y M'=>∀(p:Addr) (ts:List (Str×Ent)),xs=[.loc p]->M p=some (K4 ts)->y = .d (.tuple ((CF ts).map lfE))/\M'=M⟩
def EY:FSp:=⟨λxs M=>∃D:Deed,xs=[.d D.d]/\D.real,λxs M y M'=>∀D:Deed,xs=[.d D.d]->y = .d (AF D).d/\M'=M⟩
def DN:FSp:=⟨λxs M=>∃(ys:List Str) (one other:Eff),xs=[.d one.d,.d other.d]/\OkE ys one/\OkE ys other/\AH ys,λxs M y M'=>∀one other:Eff,xs=[.d one.d,.d other.d]->y = .d (efO (AG one other))/\M'=M⟩
def FF:FSp:=⟨λxs M=>∃(ys:List Str) (Ds:List Deed),xs=[.d (.tuple (Ds.map Deed.d))]/\AH ys/\(∀D∈Ds,AU ys D)/\Ds.length<=60,λxs M y M'=>∀Ds:List Deed,xs=[.d (.tuple (Ds.map Deed.d))]->y = .d (efO (AS Ds))/\M'=M⟩
def C8:FSp:=⟨λxs M=>∃(ys:List Str) (one other:Option Eff),xs=[.d (efO one),.d (efO other)]/\(∀E,one=some E->OkE ys E)/\(∀E,other=some E->OkE ys E)/\AH ys,λxs M y M'=>∀one other:Option Eff,xs=[.d (efO one),.d (efO other)]->y = .d (efO (one.bind λE=>other.bind λF=>AG E F))/\M'=M⟩
def GH:FSp:=⟨λxs M=>∃c:Int,xs=[.d (.int c)],λxs M y M'=>y = .d (.bool true)/\M'=M⟩
end
def nmE:PyData->Str | .tuple (.str n::_)=>n | _=>⟨#[]⟩
def vlE:PyData->PyData | .tuple (_::r)=>.tuple r | d=>d
theorem OS {a b:Pl}(h:plE a=plE b):a=b:=by cases a <;> cases b <;> simp_all [plE]
theorem EZ {a b:List Str}(h:AN a=AN b):a=b:=FU (PyData.tuple.inj h)
theorem a9 {a b:Str×Ent}(h:lfE a=lfE b):a=b:=by obtain⟨n,p,f,k⟩:=a;obtain⟨n',p',f',k'⟩:=b;simp only[lfE,PyData.tuple.injEq,List.cons.injEq,PyData.str.injEq,PyData.int.injEq,and_true] at h;obtain⟨rfl,h2,h3,rfl⟩:=h;obtain rfl:=OS h2;obtain rfl:=EZ h3;rfl
theorem GI {α:Type}{f:α->PyData}(hf:∀{a b},f a=f b->a=b):∀{l r:List α},l.map f=r.map f->l=r
 | [],[],_=>rfl
 | [],_::_,h=>by cases h
 | _::_,[],h=>by cases h
 | a::l,b::r,h=>by simp only[zI,List.cons.injEq] at h;rw[hf h.1,GI hf h.2]
theorem EC {a b:Eff}(h:a.d=b.d):a=b:=by obtain⟨s,f,l⟩:=a;obtain⟨s',f',l'⟩:=b;simp only[Eff.d,PyData.tuple.injEq,List.cons.injEq,and_true] at h;obtain⟨h1,h2,h3⟩:=h;obtain rfl:=EZ h1;obtain rfl:=EZ h2;obtain rfl:=GI a9 h3;rfl
theorem XQ {a b:Ent}(h:BM a=BM b):a=b:=by obtain⟨p,f,k⟩:=a;obtain⟨p',f',k'⟩:=b;simp only[BM,PyData.tuple.injEq,List.cons.injEq,PyData.int.injEq,and_true] at h;obtain⟨h2,h3,rfl⟩:=h;obtain rfl:=OS h2;obtain rfl:=EZ h3;rfl
theorem QX {a b:List (Str×Ent)}(h:K4 a=K4 b):a=b:=by
 have h1:AL (a.map λt=>(t.1,BM t.2))=AL (b.map λt=>(t.1,BM t.2)):=MO.d.inj h;clear h;induction a generalizing b with
 | nil=>cases b with | nil=>rfl | cons _ _=>cases h1
 | cons x r ih=>cases b with
   | nil=>cases h1
   | cons y s=> simp only[AL,zI,List.cons.injEq,Prod.mk.injEq,PyData.str.injEq] at h1;rw[ih (b:=s) (by simpa [AL] using h1.2)];obtain⟨x1,x2⟩:=x;obtain⟨y1,y2⟩:=y;obtain⟨⟨e1,e2⟩,_⟩:=h1;simp only at e1 e2;rw[e1,XQ e2]
theorem F0 (n:Str):∀ts:List (Str×Ent),CD (ts.map λt=>(t.1,BM t.2)) n=(BB ts n).map BM
 | []=>rfl
 | t::r=>by
   show(if t.1=n then some (BM t.2) else CD (r.map λt=>(t.1,BM t.2)) n)=(if t.1=n then some t.2 else BB r n).map BM;split;. rfl
   . exact F0 n r
theorem QY {E:Eff}{M:Own}{Q:DS->Own->Prop}(h:(E.lf.map (·.1)).Nodup) (hl:E.lf.length<=60) (q:∀p,M p=none->Q (.loc p) (M.put p (K4 E.lf))):[DS.d E.d].length=1/\FE.pre [.d E.d] M/\∀x M',FE.post [.d E.d] M x M'->Q x M':=⟨rfl,⟨E,rfl,h,hl⟩,λx M' hh=>by obtain⟨p,h1,rfl,rfl⟩:=hh E rfl;exact q p h1⟩
theorem DO {ys l:List Str}(hn:AH ys) (h:l.Nodup/\∀n∈l,n∈ys):l.length<=26:=zN (OP h.1 h.2) hn.2.2
theorem XR {ys:List Str}{E:Eff}(hn:AH ys) (h:OkE ys E):E.lf.length<=52:=by
 have h1:=DO hn h.st;have h2:=DO hn h.fr;have:=OP (ys:=E.st++E.fr) h.keys λz hz=>by obtain⟨t,ht,rfl⟩:=zL.mp hz;exact h.known t ht
 rw[zX,yY] at this;lia
def msT (kn:List Str) (ts:List (Str×Ent)):PyData->Bool | .str n=>decide (n∈kn)&&!BS ts n | _=>false
def wyT (ts:List (Str×Ent)):PyData->Bool | .str n=>BS ts n | _=>false
theorem eU (kn l:List Str) (ts:List (Str×Ent)):(((l.map a0Z).filter (msT kn ts)).map id).length=(l.filter λn=>decide (n∈kn)&&!BS ts n).length:=by rw[a8Q,xV,zX];rfl
theorem eV (l:List Str) (ts:List (Str×Ent)):(((l.map a0Z).filter (wyT ts)).map id).length=(l.filter (BS ts)).length:=by rw[a8Q,xV,zX];rfl
theorem TH {α:Type}(p:α->Bool) (l:List α):decide ((0:Int) < ((l.filter p).length:Int))=l.any p:=by
 rw[a1K,decide_eq_true_iff,a6X];constructor
 . intro h;have:0 < (l.filter p).length:=by lia
   obtain⟨a,ha⟩:=List.exists_mem_of_length_pos this;exact⟨a,yL.mp ha⟩
 . rintro⟨a,h1,h2⟩;have:=List.length_pos_of_mem (yL.mpr ⟨h1,h2⟩);lia
theorem eY {ts:List (Str×Ent)}{n:Str}:n∈ts.map (·.1)->∃v,BB ts n=some v:=by
 induction ts with
 | nil=>intro h;cases h
 | cons t r ih=>
   intro h;show ∃v,(if t.1=n then some t.2 else BB r n)=some v;by_cases e:t.1=n;. rw[if_pos e];exact⟨_,rfl⟩
   . rw[if_neg e];rcases yX.mp h with q | q;. exact absurd q.symm e
     . exact ih q
def bC (ts:List (Str×Ent)):PyData->PyData | .str n=>lfE (n,AE ts n) | d=>d
theorem UR (ts:List (Str×Ent)) (ss:List Str):(ss.map a0Z).map (bC ts)=(ss.map λn=>(n,AE ts n)).map lfE:=by rw[zD,zD];rfl
theorem OkE.nil (ys:List Str):OkE ys ⟨[],[],[]⟩:=⟨⟨a5V,(λn h=>nomatch h)⟩,⟨a5V,(λn h=>nomatch h)⟩,(λn h=>nomatch h),a5V,(λn h=>nomatch h),(λn h=>nomatch h),(λn h=>nomatch h),a5V⟩
theorem IN {A:List Deed}{D:Deed}{E:Eff}(h:AS A=some E):AS (A++[D])=AG E (AF D):=by unfold AS at h ⊢;rw[a7X,h];rfl
theorem US (B:List Deed):B.foldl (λo D=>o.bind λE=>AG E (AF D)) (none:Option Eff)=none:=by
 induction B with
 | nil=>rfl
 | cons D r ih=>exact ih
theorem XS {Ds:List Deed}{k:Nat}(h:AS (Ds.take k)=none):AS Ds=none:=by have e:Ds=Ds.take k++Ds.drop k:=(List.take_append_drop k Ds).symm;unfold AS at h ⊢;rw[e,a7X,h];exact US _
theorem TJ {a b:Option Eff}(h:efO a=efO b):a=b:=by
 cases a <;> cases b;. rfl
 . cases h
 . cases h
 . rw[EC h]
theorem JV {a b:List Deed}(h:[DS.d (.tuple (a.map Deed.d))]=[.d (.tuple (b.map Deed.d))]):a=b:=by simp only[List.cons.injEq,DS.d.injEq,PyData.tuple.injEq,and_true] at h;exact GI DH h
theorem SA {D:Deed}{M:Own}{Q:DS->Own->Prop}(h:D.real) (q:Q (.d (AF D).d) M):[DS.d D.d].length=1/\EY.pre [.d D.d] M/\∀x M',EY.post [.d D.d] M x M'->Q x M':=⟨rfl,⟨D,rfl,h⟩,λx M' hh=>by obtain⟨rfl,rfl⟩:=hh D rfl;exact q⟩
theorem JW {ys:List Str}{one other:Eff}{M:Own}{Q:DS->Own->Prop}(h1:OkE ys one) (h2:OkE ys other) (hn:AH ys) (q:Q (.d (efO (AG one other))) M):[DS.d one.d,.d other.d].length=2/\DN.pre [.d one.d,.d other.d] M/\∀x M',DN.post [.d one.d,.d other.d] M x M'->Q x M':=⟨rfl,⟨ys,one,other,rfl,h1,h2,hn⟩,λx M' hh=>by obtain⟨rfl,rfl⟩:=hh one other rfl;exact q⟩
theorem KI {ts:List (Str×Ent)}(nd:(ts.map (·.1)).Nodup) {t:Str×Ent}(ht:t∈ts):BB ts t.1=some t.2:=by
 induction ts with
 | nil=>cases ht
 | cons a r ih=>
   show(if a.1=t.1 then some a.2 else BB r t.1)=some t.2;rw[zI,xW] at nd;rcases yX.mp ht with rfl | q;. rw[if_pos rfl]
   . rw[if_neg λe=>nd.1 (by rw[e];exact zL.mpr ⟨t,q,rfl⟩)];exact ih nd.2 q
theorem XT {ts:List (Str×Ent)}(nd:(ts.map (·.1)).Nodup) {t:Str×Ent}:t∈CF ts->t∈ts:=by intro h;obtain⟨n,hn,rfl⟩:=zL.mp h;have hn:=(AQ _).mem_iff.mp hn;obtain⟨s,hs,rfl⟩:=zL.mp hn;have:=KI nd hs;unfold AE;rw[this];exact hs
theorem GJ {ts:List (Str×Ent)}(nd:(ts.map (·.1)).Nodup):(CF ts).Perm ts:=by
 have e:ts=(ts.map (·.1)).map λn=>(n,AE ts n):=by
   rw[zD];have:∀t∈ts,t=((λn=>(n,AE ts n))∘λt:Str×Ent=>t.1) t:=λt ht=>by
     have h1:(t.1,AE ts t.1)∈CF ts:=zL.mpr ⟨t.1,(AQ _).mem_iff.mpr (zL.mpr ⟨t,ht,rfl⟩),rfl⟩;have h2:=XT nd h1;have key:∀{ts:List (Str×Ent)},(ts.map (·.1)).Nodup->∀{a b:Str×Ent},a∈ts->b∈ts->a.1=b.1->a=b:=by
       intro ts;induction ts with
       | nil=>intro _ a b ha;cases ha
       | cons c r ih=>
         intro nd a b ha hb lj;rw[zI,xW] at nd;rcases yX.mp ha with rfl | ha2 <;> rcases yX.mp hb with rfl | hb2;. rfl
         . exact absurd (show a.1∈r.map (·.1) from zL.mpr ⟨b,hb2,lj.symm⟩) nd.1
         . exact absurd (show b.1∈r.map (·.1) from zL.mpr ⟨a,ha2,lj⟩) nd.1
         . exact ih nd.2 ha2 hb2 lj
     exact key nd ht h2 rfl
   conv=>lhs;rw[<-a8Q ts]
   exact yM this
 conv=>rhs;rw[e]
 exact(AQ _).map _
theorem OkE.deed {ys:List Str}{D:Deed}(hn:AH ys) (h:AU ys D):OkE ys (AF D):=by
 have hx:=h.2;have j9:=h.1.2.1;cases D with
 | put x p k=> have:=hx x (by simp[Deed.names]);refine⟨⟨by simp[AF],by simp[AF]⟩,⟨by simp[AF],by simpa [AF] using this⟩,by simp[AF],by simp[AF],by simp[AF],by simp[AF],by simp[AF],by simp[AF]⟩
 | take x=> have:=hx x (by simp[Deed.names]);refine⟨⟨by simp[AF],by simpa [AF] using this⟩,⟨by simp[AF],by simp[AF]⟩,by simp[AF],by simp[AF],by simp[AF],by simp[AF],by simp[AF],by simp[AF]⟩
 | move x p=> have:=hx x (by simp[Deed.names]);refine⟨⟨by simp[AF],by simpa [AF] using this⟩,⟨by simp[AF],by simp[AF]⟩,by simp[AF],by simp[AF],by simp[AF],by simp[AF],by simp[AF],by simp[AF]⟩
 | count x k=> have:=hx x (by simp[Deed.names]);refine⟨⟨by simp[AF],by simpa [AF] using this⟩,⟨by simp[AF],by simp[AF]⟩,by simp[AF],by simp[AF],by simp[AF],by simp[AF],by simp[AF],by simp[AF]⟩
 | name x y=> have h1:=hx x (by simp[Deed.names]);have h2:=hx y (by simp[Deed.names]);have ao:x≠y:=j9;refine⟨⟨by simp[AF],by simpa [AF] using h1⟩,⟨by simp[AF],by simpa [AF] using h2⟩,by simpa [AF] using ao,by simp[AF],by simp[AF],by simp[AF],by simp[AF],by simp[AF]⟩
 | split x y p k=>
   have h1:=hx x (by simp[Deed.names]);have h2:=hx y (by simp[Deed.names]);have ao:x≠y:=j9;have nd:([(x,((.inr x,[x],-k):Ent)),(y,.inl p,[],k)].map (·.1)).Nodup:=by simpa using ao
   have sp:=GJ nd;have sm:∀t∈CF [(x,((.inr x,[x],-k):Ent)),(y,.inl p,[],k)],t=(x,.inr x,[x],-k)\/t=(y,.inl p,[],k):=λt ht=>by simpa using sp.mem_iff.mp ht
   refine⟨⟨by simp[AF],by simpa [AF] using h1⟩,⟨by simp[AF],by simpa [AF] using h2⟩,by simpa [AF] using ao,((sp.map (·.1)).nodup_iff).mpr nd,λt ht=>?_,λt ht=>?_,λt ht n e=>?_,?_⟩;. rcases sm t ht with rfl | rfl <;> simp[AF]
   . rcases sm t ht with rfl | rfl <;> simp[AF]
   . rcases sm t ht with rfl | rfl <;> simp_all [AF]
   . exact((sp.flatMap_right _).nodup_iff).mpr (by simp)
 | join x y=>
   have h1:=hx x (by simp[Deed.names]);have h2:=hx y (by simp[Deed.names]);have ao:x≠y:=j9;have hp:=AQ [x,y];have nd:(BA [x,y]).Nodup:=hp.nodup_iff.mpr (by simpa using ao);have hm:∀n,n∈BA [x,y]↔n=x\/n=y:=λn=>by rw[hp.mem_iff];simp
   refine⟨⟨nd,λn bh=>?_⟩,⟨by simp[AF],by simp[AF]⟩,by simp[AF],by simp[AF],by simp[AF,hm],by simpa [AF] using nd,by simp[AF,hm],by simpa [AF] using nd⟩;rcases (hm n).mp bh with rfl | rfl;. exact h1
   . exact h2
abbrev JB (ts:List (Str×Ent)):List (Str×PyData):=ts.map λt:Str×Ent=>(t.1,BM t.2)
theorem BG {ts:List (Str×Ent)}{n:Str}:BS ts n=true↔n∈ts.map (·.1):=by
 induction ts with
 | nil=>simp[BS,BB]
 | cons t r ih=>
   show((if t.1=n then some t.2 else BB r n).isSome=true)↔_;by_cases e:t.1=n;. rw[if_pos e];simp[e]
   . rw[if_neg e];rw[zI,yX,<-ih];exact⟨λh=>.inr h,λh=>h.elim (λq=>absurd q.symm e) id⟩
theorem TK (ts:List (Str×Ent)) (n:Str) (e:Ent):MH (JB ts) n (BM e)=JB (B8 ts n e):=by
 unfold MH B8 JB;have h:((ts.map λt:Str×Ent=>(t.1,BM t.2)).any λt=>decide (t.1=n))=BS ts n:=by
   rw[a1K,BG,a6X];constructor;. rintro⟨t,h1,h2⟩;obtain⟨s,h3,rfl⟩:=zL.mp h1;exact zL.mpr ⟨s,h3,of_decide_eq_true h2⟩
   . intro q;obtain⟨s,h3,h4⟩:=zL.mp q;exact⟨_,zL.mpr ⟨s,h3,rfl⟩,decide_eq_true h4⟩
 rw[h];split;. rw[zD,zD];refine yM λt ht=>?_;show(if t.1=n then (t.1,BM e) else (t.1,BM t.2))=((if t.1=n then (t.1,e) else t).1,BM (if t.1=n then (t.1,e) else t).2);split <;> rfl
 . rw[xJ];rfl
theorem UT {ts:List (Str×Ent)}{n:Str}{e:Ent}(h:n∉ts.map (·.1)):B8 ts n e=ts++[(n,e)]:=by unfold B8;rw[if_neg λq=>h (BG.mp q)]
theorem aA (ts:List (Str×Ent)) (n:Str) (e:Ent):(B8 ts n e).length<=ts.length+1:=by
 unfold B8;split;. rw[zX];lia
 . rw[yY];exact zR _
def JC (one:Eff) (l:List Str):List Str:=l.filter λn=>!decide (n∈one.st++one.fr)
theorem eZ {one:Eff}:JC one one.st=[]:=List.filter_eq_nil_iff.mpr λn hn=>by simp[hn]
theorem FZ {ys:List Str}{one other:Eff}(h1:OkE ys one) (h2:OkE ys other) (hc:AO one other=false) {n:Str}(hn:n∈other.st):BS (AZ one other) n=true:=by
 unfold AO at hc;rw[Bool.or_eq_false_iff] at hc;have h:=List.any_eq_false.mp hc.1 n hn;rw[BG];unfold AZ;rw[xJ,yW];by_cases hk:n∈one.st++one.fr;. refine .inl (BG.mp ?_);rw[decide_eq_true hk,b2Z] at h;simpa using h
 . refine .inr ?_;rw[zD];exact zL.mpr ⟨n,yL.mpr ⟨hn,by simp[hk]⟩,rfl⟩
theorem IP {ys:List Str}{one other:Eff}(h1:OkE ys one) (h2:OkE ys other):((AZ one other).map (·.1)).Nodup:=by
 unfold AZ;rw[xJ];have e:((other.st.filter λn=>!decide (n∈one.st++one.fr)).map IM).map (·.1)=other.st.filter λn=>!decide (n∈one.st++one.fr):=by rw[zD];exact a8Q _
 rw[e];refine List.nodup_append.mpr ⟨h1.keys,h2.st.1.sublist a4Q,λa ha b hb q=>?_⟩;subst q;obtain⟨t,ht,rfl⟩:=zL.mp ha;have:=(yL.mp hb).2;simp[h1.known t ht] at this
theorem GK {ts:List (Str×Ent)}(h:(ts.flatMap λt=>t.2.2.1).Nodup) {s t:Str×Ent}(hs:s∈ts) (ht:t∈ts) (ao:s.1≠t.1):∀x∈s.2.2.1,∀y∈t.2.2.1,x≠y:=by
 have hp:=(List.pairwise_flatMap.mp h).2;obtain⟨i,hi,rfl⟩:=List.mem_iff_getElem.mp hs;obtain⟨j,hj,rfl⟩:=List.mem_iff_getElem.mp ht;rcases b2Q i j with q | q | q;. exact List.pairwise_iff_getElem.mp hp i j hi hj q
 . subst q;exact absurd rfl ao
 . exact λx hx y hy e=>List.pairwise_iff_getElem.mp hp j i hj hi q y hy x hx e.symm
theorem HJ {ts:List (Str×Ent)}{n:Str}(h:BS ts n=true):(n,AE ts n)∈ts:=by
 induction ts with
 | nil=>cases h
 | cons a r ih=>
   unfold AE;have h':(if a.1=n then some a.2 else BB r n).isSome=true:=h;show(n,(if a.1=n then some a.2 else BB r n).getD (.inr n,[n],0))∈a::r;by_cases e:a.1=n;. rw[if_pos e];subst e;exact a1Q
   . rw[if_neg e] at h' ⊢;exact yV _ (ih h')
theorem OT {ts:List (Str×Ent)}(hd:(ts.flatMap λt=>t.2.2.1).Nodup) {l:List Str}(hl:l.Nodup) (hh:∀n∈l,BS ts n=true):(l.flatMap λn=>(AE ts n).2.1).Nodup:=by refine List.pairwise_flatMap.mpr ⟨λn hn=>(List.pairwise_flatMap.mp hd).1 _ (HJ (hh n hn)),?_⟩;refine List.pairwise_iff_getElem.mpr λi j hi hj au=>?_;have ao:=List.pairwise_iff_getElem.mp hl i j hi hj au;exact GK hd (HJ (hh _ (a0K hi))) (HJ (hh _ (a0K hj))) ao
theorem TL {ys:List Str}{one other:Eff}(h1:OkE ys one) (h2:OkE ys other):((AZ one other).flatMap λt=>t.2.2.1).Nodup:=by
 unfold AZ;rw[b0X];have e:((other.st.filter λn=>!decide (n∈one.st++one.fr)).map IM).flatMap (λt=>t.2.2.1)=other.st.filter λn=>!decide (n∈one.st++one.fr):=by
   have go:∀l:List Str,(l.map IM).flatMap (λt=>t.2.2.1)=l:=by
     intro l;induction l with
     | nil=>rfl
     | cons a r ih=>rw[zI,a2W,ih];rfl
   exact go _
 rw[e];refine List.nodup_append.mpr ⟨h1.dis,h2.st.1.sublist a4Q,λa ha b hb q=>?_⟩;subst q;obtain⟨t,ht,kY⟩:=List.mem_flatMap.mp ha;have hs:=(h1.from_ t ht).2 a kY;have:=(yL.mp hb).2;simp[hs] at this
theorem QZ {ys:List Str}{one other:Eff}(h1:OkE ys one) (h2:OkE ys other):∀t∈AZ one other,∀n∈t.2.2.1,n∈AK one other:=λt ht n hn=>by
 unfold AZ at ht;unfold AK;rcases yW.mp ht with q | q;. exact zA _ ((h1.from_ t q).2 n hn)
 . obtain⟨z,hz,rfl⟩:=zL.mp q;have:n=z:=by simpa [IM] using hn
   subst this;exact zB _ hz
theorem XU {ys:List Str}{one other:Eff}(hn:AH ys) (h1:OkE ys one) (h2:OkE ys other) (hc:AO one other=false) {t:Str×Ent}(ht:t∈other.lf):(t.2.2.1.flatMap λn=>(AE (AZ one other) n).2.1).length < 64:=by
 have hh:∀n∈t.2.2.1,BS (AZ one other) n=true:=λn bh=>FZ h1 h2 hc ((h2.from_ t ht).2 n bh);have nd:=OT (TL h1 h2) (h2.from_ t ht).1 hh;have:=DO hn ⟨nd,λz hz=>by
   obtain⟨n,bh,hz⟩:=List.mem_flatMap.mp hz;have:=QZ h1 h2 _ (HJ (hh n bh)) z hz;unfold AK at this;rcases yW.mp this with q | q;. exact h1.st.2 z q
   . exact h2.st.2 z (yL.mp q).1⟩;lia
theorem LK {ts:List (Str×Ent)}{n:Str}{e:Ent}:(B8 ts n e).map (·.1)=if BS ts n=true then ts.map (·.1) else ts.map (·.1)++[n]:=by
 unfold B8;split;. rw[zD];refine yM λt ht=>?_;show(if t.1=n then (t.1,e) else t).1=t.1;split <;> rfl
 . rw[xJ];rfl
theorem XV {ts:List (Str×Ent)}{n:Str}{e:Ent}(h:(ts.map (·.1)).Nodup):((B8 ts n e).map (·.1)).Nodup:=by
 rw[LK];split;. exact h
 . rename_i hn;refine List.nodup_append.mpr ⟨h,by simp,λa ha b hb q=>?_⟩;subst q;rw[List.mem_singleton.mp hb] at ha;exact hn (BG.mpr ha)
theorem CI {ys:List Str}{one other:Eff}(h1:OkE ys one) (h2:OkE ys other):((BL one other).map (·.1)).Nodup:=by
 unfold BL;have go:∀(l ts:List (Str×Ent)),(ts.map (·.1)).Nodup->((l.foldl (λts t=>B8 ts t.1 (AJ (AZ one other) t.2)) ts).map (·.1)).Nodup:=by
   intro l;induction l with
   | nil=>intro ts h;exact h
   | cons t r ih=>intro ts h;exact ih _ (XV h)
 exact go _ _ ((IP h1 h2).sublist (List.filter_sublist.map _))
theorem aB {ys:List Str}{one other:Eff}(h1:OkE ys one) (h2:OkE ys other):∀n∈(BL one other).map (·.1),n∈ys:=by
 unfold BL;have go:∀(l ts:List (Str×Ent)),(∀t∈l,t.1∈ys)->(∀n∈ts.map (·.1),n∈ys)->∀n∈(l.foldl (λts t=>B8 ts t.1 (AJ (AZ one other) t.2)) ts).map (·.1),n∈ys:=by
   intro l;induction l with
   | nil=>intro ts _ h;exact h
   | cons t r ih=>
     intro ts hl h;refine ih _ (λs hs=>hl s (yV _ hs)) λn hn=>?_;have hn:n∈(B8 ts t.1 (AJ (AZ one other) t.2)).map (·.1):=hn;rw[LK] at hn;split at hn;. exact h n hn
     . rcases yW.mp hn with q | q;. exact h n q
       . rw[List.mem_singleton.mp q];exact hl t (by simp)
 refine go _ _ (λt ht=>(yW.mp (h2.known t ht)).elim (h2.st.2 _) (h2.fr.2 _)) λn hn=>?_;have hn:=(List.filter_sublist.map _).subset hn;unfold AZ at hn;rw[xJ] at hn;rcases yW.mp hn with q | q;. obtain⟨t,ht,rfl⟩:=zL.mp q;exact(yW.mp (h1.known t ht)).elim (h1.st.2 _) (h1.fr.2 _)
 . rw[zD] at q;obtain⟨z,hz,rfl⟩:=zL.mp q;exact h2.st.2 z (yL.mp hz).1
theorem UU (one other:Eff):JC one (AK one other)=other.st.filter λn=>!decide (n∈one.st++one.fr):=by unfold AK;rw[show JC one (one.st++other.st.filter λn=>!decide (n∈one.st++one.fr))=JC one one.st++JC one (other.st.filter λn=>!decide (n∈one.st++one.fr)) from List.filter_append ..,eZ,List.nil_append];unfold JC;rw[List.filter_filter];congr 1;funext n;simp
theorem F1 {ys:List Str}{one other:Eff}(h1:OkE ys one) (h2:OkE ys other):(AK one other).Nodup/\∀n∈AK one other,n∈ys:=by
 unfold AK;refine⟨List.nodup_append.mpr ⟨h1.st.1,h2.st.1.sublist a4Q,λa ha b hb e=>?_⟩,λn hn=>?_⟩;. subst e;have:=(yL.mp hb).2;simp[ha] at this
 . rcases yW.mp hn with q | q;. exact h1.st.2 n q
   . exact h2.st.2 n (yL.mp q).1
theorem KJ {ys:List Str}{one other:Eff}(h1:OkE ys one) (h2:OkE ys other):(BF one other).Nodup/\∀n∈BF one other,n∈ys:=by
 unfold BF;refine⟨List.nodup_append.mpr ⟨h1.fr.1,h2.fr.1.sublist a4Q,λa ha b hb e=>?_⟩,λn hn=>?_⟩;. subst e;have:=(yL.mp hb).2;simp[ha] at this
 . rcases yW.mp hn with q | q;. exact h1.fr.2 n q
   . exact h2.fr.2 n (yL.mp q).1
theorem XW {ys:List Str}{one other:Eff}(h1:OkE ys one) (h2:OkE ys other) {k:Nat}{n:Str}(hk:(AK one other)[k]?=some n) (hn:n∉one.st++one.fr):n∉(one.lf++(JC one ((AK one other).take k)).map IM).map (·.1):=by
 rw[xJ,yW];rintro (q | q);. obtain⟨t,ht,rfl⟩:=zL.mp q;exact hn (h1.known t ht)
 . rw[zD] at q;obtain⟨z,hz,e⟩:=zL.mp q;have e:z=n:=e;subst e;have hz:=(yL.mp hz).1;obtain⟨i,hi,ez⟩:=List.mem_iff_getElem.mp hz;rw[a0J] at hi;rw[List.getElem_take] at ez;obtain⟨dk,ek⟩:=yT.mp hk;have:=List.pairwise_iff_getElem.mp (F1 h1 h2).1 i k (by lia) dk (by lia);exact this (ez.trans ek.symm)
theorem R0 {one:Eff}{l:List Str}{k:Nat}{n:Str}(hk:l[k]?=some n):JC one (l.take (k+1))=JC one (l.take k)++(if decide (n∈one.st++one.fr)=true then [] else [n]):=by unfold JC;rw[a3V,hk,Option.toList_some,List.filter_append];congr 1;rw[a6Q];cases decide (n∈one.st++one.fr) <;> rfl
def f6:PyData->Str | .str z=>z | _=>⟨#[]⟩
def i3 (ts:List (Str×Ent)):PyData->PyData | .str z=>BM (AE ts z) | d=>d
theorem XX {ts:List (Str×Ent)}(nd:(ts.map (·.1)).Nodup) (l:List Str):(((JT (JB ts)).filter (frT l)).map λd=>(f6 d,i3 ts d))=JB (ts.filter λt=>!decide (t.1∈l)):=by
 have e:JT (JB ts)=ts.map λt:Str×Ent=>a0Z t.1:=by unfold JT JB;rw[zD];rfl
 rw[e,xV,zD];refine yM λt ht=>?_;have ht:=(yL.mp ht).1;show(t.1,BM (AE ts t.1))=(t.1,BM t.2);unfold AE;rw[KI nd ht];rfl
theorem UV {ts:List (Str×Ent)}(nd:(ts.map (·.1)).Nodup) (l:List Str):(((JT (JB ts)).filter (frT l)).map f6).Nodup:=by
 have e:JT (JB ts)=ts.map λt:Str×Ent=>a0Z t.1:=by unfold JT JB;rw[zD];rfl
 rw[e,xV,zD];exact(nd.sublist (List.filter_sublist.map _))
def IQ (one other:Eff) (k:Nat):List (Str×Ent):=(other.lf.take k).foldl (λts t=>B8 ts t.1 (AJ (AZ one other) t.2)) ((AZ one other).filter λt=>!decide (t.1∈other.st))
theorem UW (one other:Eff) (k:Nat):(IQ one other k).length<=(AZ one other).length+k:=by
 unfold IQ;have go:∀(l:List (Str×Ent)) (ts:List (Str×Ent)),(l.foldl (λts t=>B8 ts t.1 (AJ (AZ one other) t.2)) ts).length<=ts.length+l.length:=by
   intro l;induction l with
   | nil=>intro ts;exact zR _
   | cons t r ih=> intro ts;have h1:=ih (B8 ts t.1 (AJ (AZ one other) t.2));have h2:=aA ts t.1 (AJ (AZ one other) t.2);rw[List.foldl_cons,yR];lia
 have h1:=go (other.lf.take k) ((AZ one other).filter λt=>!decide (t.1∈other.st));have h2:((AZ one other).filter λt=>!decide (t.1∈other.st)).length<=(AZ one other).length:=yJ _ _;have h3:(other.lf.take k).length<=k:=List.length_take_le _ _;lia
theorem SB {one other:Eff}{k:Nat}{t:Str×Ent}(h:other.lf[k]?=some t):IQ one other (k+1)=B8 (IQ one other k) t.1 (AJ (AZ one other) t.2):=by unfold IQ;rw[a3V,h,Option.toList_some,a7X];rfl
theorem UX (one other:Eff):IQ one other other.lf.length=BL one other:=by unfold IQ BL;rw[a2Z]
theorem XY {ys:List Str}{one other:Eff}(hn:AH ys) (h1:OkE ys one) (h2:OkE ys other) (hc:AO one other=false):(BL one other).length < 64:=by have:=DO hn ⟨CI h1 h2,aB h1 h2⟩;rw[zX] at this;lia
theorem aC {ts:List (Str×Ent)}{n:Str}{e:Ent}(nd:(ts.map (·.1)).Nodup) {s:Str×Ent}:s∈B8 ts n e↔(s∈ts/\s.1≠n)\/s=(n,e):=by
 unfold B8;split
 . rename_i h;have hm:=BG.mp h;rw[zL];constructor
   . rintro⟨t,ht,rfl⟩;by_cases q:t.1=n;. rw[if_pos q,q];exact .inr rfl
     . rw[if_neg q];exact .inl ⟨ht,q⟩
   . rintro (⟨h1,h2⟩ | rfl);. exact⟨s,h1,if_neg h2⟩
     . obtain⟨t,ht,q⟩:=zL.mp hm;exact⟨t,ht,by rw[if_pos q,q]⟩
 . rename_i h;rw[yW,List.mem_singleton];constructor
   . rintro (q | q);. exact .inl ⟨q,λe=>h (BG.mpr (by rw[<-e];exact zL.mpr ⟨s,q,rfl⟩))⟩
     . exact .inr q
   . rintro (q | q);. exact .inl q.1
     . exact .inr q
theorem DQ {ys:List Str}{one other:Eff}(h1:OkE ys one) (h2:OkE ys other) {s:Str×Ent}:s∈BL one other↔(s∈AZ one other/\s.1∉other.st/\s.1∉other.lf.map (·.1))\/∃t∈other.lf,s=(t.1,AJ (AZ one other) t.2):=by
 unfold BL;have go:∀(l ts:List (Str×Ent)),(l.map (·.1)).Nodup->(ts.map (·.1)).Nodup->(s∈l.foldl (λts t=>B8 ts t.1 (AJ (AZ one other) t.2)) ts↔(s∈ts/\s.1∉l.map (·.1))\/∃t∈l,s=(t.1,AJ (AZ one other) t.2)):=by
   intro l;induction l with
   | nil=>intro ts _ _;simp
   | cons a r ih=>
     intro ts hl lU;rw[zI,xW] at hl;rw[List.foldl_cons,ih _ hl.2 (XV lU),aC lU];constructor
     . rintro (⟨⟨q1,q2⟩ | rfl,q3⟩ | ⟨t,ht,rfl⟩);. exact .inl ⟨q1,by rw[zI,yX];rintro (z | z);exact q2 z;exact q3 z⟩
       . exact .inr ⟨a,by simp,rfl⟩
       . exact .inr ⟨t,yV _ ht,rfl⟩
     . rintro (⟨q1,q2⟩ | ⟨t,ht,rfl⟩);. rw[zI,yX,not_or] at q2;exact .inl ⟨.inl ⟨q1,q2.1⟩,q2.2⟩
       . rcases yX.mp ht with rfl | q;. exact .inl ⟨.inr rfl,hl.1⟩
         . exact .inr ⟨t,q,rfl⟩
 rw[go _ _ h2.keys ((IP h1 h2).sublist (List.filter_sublist.map _)),yL];constructor
 . rintro (⟨⟨q1,q2⟩,q3⟩ | q);. exact .inl ⟨q1,by simpa using q2,q3⟩
   . exact .inr q
 . rintro (⟨q1,q2,q3⟩ | q);. exact .inl ⟨⟨q1,by simp[q2]⟩,q3⟩
   . exact .inr q
theorem OkE.behind {ys:List Str}{one other F:Eff}(hn:AH ys) (h1:OkE ys one) (h2:OkE ys other) (h:AG one other=some F):OkE ys F:=by
 unfold AG at h;split at h;. cases h
 rename_i hc;have hc:AO one other=false:=by simpa using hc
 have e:=(Option.some.inj h).symm;subst e;have pS:=AQ (AK one other);have pF:=AQ (BF one other);have lk:=CI h1 h2;have pL:=GJ lk;have sN:=F1 h1 h2;have fN:=KJ h1 h2;have bt:∀t∈AZ one other,t.1∈AK one other++BF one other/\∀n,t.2.1 = .inr n->n∈AK one other:=λt ht=>by
   unfold AZ at ht;unfold AK BF;rcases yW.mp ht with q | q
   . refine⟨?_,λn bh=>zA _ (h1.place t q n bh)⟩;rcases yW.mp (h1.known t q) with z | z;. exact zA _ (zA _ z)
     . exact zB _ (zA _ z)
   . obtain⟨z,hz,rfl⟩:=zL.mp q;refine⟨zA _ (zB _ hz),λn bh=>?_⟩;have:z=n:=Sum.inr.inj bh;subst this;exact zB _ hz
 have bd:=TL h1 h2;have bf:=QZ h1 h2;have th:∀t∈other.lf,∀n∈t.2.2.1,BS (AZ one other) n=true:=λt ht n bh=>FZ h1 h2 hc ((h2.from_ t ht).2 n bh);have ef:∀n∈other.st++other.fr,n∈AK one other++BF one other:=λn bh=>by
   unfold AK BF;by_cases hk:n∈one.st++one.fr
   . rcases yW.mp hk with z | z;. exact zA _ (zA _ z)
     . exact zB _ (zA _ z)
   . rcases yW.mp bh with z | z;. exact zA _ (zB _ (yL.mpr ⟨z,by simp[hk]⟩))
     . exact zB _ (zB _ (yL.mpr ⟨z,by simp[hk]⟩))
 have nL:∀n,n∈AK one other++BF one other->n∈BA (AK one other)++BA (BF one other):=λn bh=>by
   rcases yW.mp bh with z | z;. exact zA _ (pS.mem_iff.mpr z)
   . exact zB _ (pF.mem_iff.mpr z)
 have tf:∀t∈other.lf,∀x∈(AJ (AZ one other) t.2).2.1,∃m∈t.2.2.1,(m,AE (AZ one other) m)∈AZ one other/\x∈(AE (AZ one other) m).2.1:=λt ht x hx=>by have hx:x∈t.2.2.1.flatMap λn=>(AE (AZ one other) n).2.1:=(AQ _).mem_iff.mp hx;obtain⟨m,hm,hx⟩:=List.mem_flatMap.mp hx;exact⟨m,hm,HJ (th t ht m hm),hx⟩
 refine⟨⟨pS.nodup_iff.mpr sN.1,λn bh=>sN.2 n (pS.mem_iff.mp bh)⟩,⟨pF.nodup_iff.mpr fN.1,λn bh=>fN.2 n (pF.mem_iff.mp bh)⟩,λn hs hf=>?_,(pL.map (·.1)).nodup_iff.mpr lk,λs hs=>?_,λs hs=>?_,λs hs n e=>?_,?_⟩
 . have hs:=pS.mem_iff.mp hs;have hf:=pF.mem_iff.mp hf;unfold AK at hs;unfold BF at hf;rcases yW.mp hs with a | a <;> rcases yW.mp hf with b | b;. exact h1.apart n a b
   . have:=(yL.mp b).2;simp[a] at this
   . have:=(yL.mp a).2;simp[b] at this
   . exact h2.apart n (yL.mp a).1 (yL.mp b).1
 . refine nL _ ?_;rcases (DQ h1 h2).mp (pL.mem_iff.mp hs) with q | ⟨t,ht,rfl⟩
   . exact(bt s q.1).1
   . exact ef _ (h2.known t ht)
 . rcases (DQ h1 h2).mp (pL.mem_iff.mp hs) with q | ⟨t,ht,rfl⟩
   . exact⟨(List.pairwise_flatMap.mp bd).1 s q.1,λn bh=>pS.mem_iff.mpr (bf s q.1 n bh)⟩
   . refine⟨(AQ _).nodup_iff.mpr (OT bd (h2.from_ t ht).1 (th t ht)),λn bh=>?_⟩;obtain⟨m,hm,hb,hx⟩:=tf t ht n bh;exact pS.mem_iff.mpr (bf _ hb n hx)
 . refine pS.mem_iff.mpr ?_;rcases (DQ h1 h2).mp (pL.mem_iff.mp hs) with q | ⟨t,ht,rfl⟩
   . exact(bt s q.1).2 n e
   . have e:(AJ (AZ one other) t.2).1 = .inr n:=e;unfold AJ at e;cases hp:t.2.1 with
     | inl p=>rw[hp] at e;cases e
     | inr m=> rw[hp] at e;exact(bt _ (HJ (FZ h1 h2 hc (h2.place t ht m hp)))).2 n e
 . refine((pL.flatMap_right _).nodup_iff).mpr (List.pairwise_flatMap.mpr ⟨λs hs=>?_,?_⟩)
   . rcases (DQ h1 h2).mp hs with q | ⟨t,ht,rfl⟩
     . exact(List.pairwise_flatMap.mp bd).1 s q.1
     . exact(AQ _).nodup_iff.mpr (OT bd (h2.from_ t ht).1 (th t ht))
   . refine List.pairwise_iff_getElem.mpr λi j hi hj au=>?_;have ao:(BL one other)[i].1≠(BL one other)[j].1:=by have:=List.pairwise_iff_getElem.mp lk i j (by rw[zX];exact hi) (by rw[zX];exact hj) au;rw[b2K,b2K] at this;exact this
     have ha:=(DQ h1 h2).mp (a0K hi);have hb:=(DQ h1 h2).mp (a0K hj);generalize (BL one other)[i]=s at ao ha;generalize (BL one other)[j]=u at ao hb;intro x hx y hy;rcases ha with q | ⟨t,ht,rfl⟩ <;> rcases hb with q' | ⟨t',ki,rfl⟩
     . exact GK bd q.1 q'.1 ao x hx y hy
     . obtain⟨m,hm,jA,hy⟩:=tf t' ki y hy;refine GK bd q.1 jA (λe=>q.2.1 ?_) x hx y hy;have e:s.1=m:=e;rw[e];exact(h2.from_ t' ki).2 m hm
     . obtain⟨m,hm,jA,hx⟩:=tf t ht x hx;refine GK bd jA q'.1 (λe=>q'.2.1 ?_) x hx y hy;have e:m=u.1:=e;rw[<-e];exact(h2.from_ t ht).2 m hm
     . obtain⟨m,hm,jA,hx⟩:=tf t ht x hx;obtain⟨m',i_,lm,hy⟩:=tf t' ki y hy;exact GK bd jA lm (GK h2.dis ht ki ao m hm m' i_) x hx y hy
theorem CU {ys:List Str}{Ds:List Deed}{M:Own}{Q:DS->Own->Prop}(hn:AH ys) (h:∀D∈Ds,AU ys D) (hl:Ds.length<=60) (q:Q (.d (efO (AS Ds))) M):[DS.d (.tuple (Ds.map Deed.d))].length=1/\FF.pre [.d (.tuple (Ds.map Deed.d))] M/\∀x M',FF.post [.d (.tuple (Ds.map Deed.d))] M x M'->Q x M':=⟨rfl,⟨ys,Ds,rfl,hn,h,hl⟩,λx M' hh=>by obtain⟨rfl,rfl⟩:=hh Ds rfl;exact q⟩
abbrev CV (a b:Option Eff):Option Eff:=a.bind λE=>b.bind λF=>AG E F
theorem CN {ys:List Str}{one other:Option Eff}{M:Own}{Q:DS->Own->Prop}(h1:∀E,one=some E->OkE ys E) (h2:∀E,other=some E->OkE ys E) (hn:AH ys) (q:Q (.d (efO (CV one other))) M):[DS.d (efO one),.d (efO other)].length=2/\C8.pre [.d (efO one),.d (efO other)] M/\∀x M',C8.post [.d (efO one),.d (efO other)] M x M'->Q x M':=⟨rfl,⟨ys,one,other,rfl,h1,h2,hn⟩,λx M' hh=>by obtain⟨rfl,rfl⟩:=hh one other rfl;exact q⟩
theorem OU {c:Int}{M:Own}{Q:DS->Own->Prop}(q:Q (.d (.bool true)) M):[DS.d (.int c)].length=1/\GH.pre [.d (.int c)] M/\∀x M',GH.post [.d (.int c)] M x M'->Q x M':=⟨rfl,⟨c,rfl⟩,λx M' hh=>by obtain⟨rfl,rfl⟩:=hh;exact q⟩
theorem HK {ys:List Str}(hn:AH ys) {Ds:List Deed}(h:∀D∈Ds,AU ys D):∀E,AS Ds=some E->OkE ys E:=by
 have go:∀k,k<=Ds.length->∀E,AS (Ds.take k)=some E->OkE ys E:=by
   intro k;induction k with
   | zero=>intro _ E e;cases e;exact OkE.nil ys
   | succ k ih=>
     intro hk E e;have hD:Ds[k]?=some Ds[k]:=zV hk;rw[a3V,hD,Option.toList_some] at e;cases hF:AS (Ds.take k) with
     | none=>rw[show AS (Ds.take k++[Ds[k]])=none by unfold AS at hF ⊢;rw[a7X,hF];rfl] at e;cases e
     | some F=> rw[IN hF] at e;exact OkE.behind hn (ih (by lia) F hF) (OkE.deed hn (h _ (a0K hk))) e
 intro E e;exact go Ds.length (zR _) E (by rw[a2Z];exact e)
theorem TM {ys:List Str}(hn:AH ys) {a b:Option Eff}(h1:∀E,a=some E->OkE ys E) (h2:∀E,b=some E->OkE ys E):∀E,CV a b=some E->OkE ys E:=by
 intro E e;cases a with
 | none=>cases e
 | some A=>cases b with
   | none=>cases e
   | some B=>exact OkE.behind hn (h1 A rfl) (h2 B rfl) e
section
variable {ys:List Str}{A B C:Eff}
theorem HL {α β:Type}{f g:α->List β}:∀{l:List α},(∀x∈l,f x=g x)->l.flatMap f=l.flatMap g
 | [],_=>rfl
 | a::r,h=>by rw[a2W,a2W,h a (by simp),HL λx hx=>h x (yV _ hx)]
theorem UY {ts:List (Str×Ent)}(nd:(ts.map (·.1)).Nodup) {n:Str}{e:Ent}:BB ts n=some e↔(n,e)∈ts:=by
 constructor
 . intro h;have hh:BS ts n=true:=by unfold BS;rw[h];rfl
   have:=HJ hh;unfold AE at this;rw[h] at this;exact this
 . intro h;exact KI nd h
theorem EK {ts:List (Str×Ent)}(nd:(ts.map (·.1)).Nodup) {n:Str}{e:Ent}(h:(n,e)∈ts):AE ts n=e:=by unfold AE;rw[(UY nd).mpr h];rfl
theorem IR {ts:List (Str×Ent)}{n:Str}(h:n∉ts.map (·.1)):AE ts n=(.inr n,[n],0):=by
 unfold AE;cases e:BB ts n with
 | none=>rfl
 | some v=>exact absurd (BG.mp (by unfold BS;rw[e];rfl)) h
theorem R5 (hc:AO A B=false):(∀n∈B.st,n∈A.st++A.fr->n∈A.lf.map (·.1))/\∀n∈B.fr,n∉A.lf.map (·.1):=by
 unfold AO at hc;rw[Bool.or_eq_false_iff] at hc;refine⟨λn hn hk=>?_,λn hn hk=>?_⟩;. have:=List.any_eq_false.mp hc.1 n hn;rw[decide_eq_true hk,b2Z] at this;exact BG.mp (by simpa using this)
 . exact List.any_eq_false.mp hc.2 n hn (BG.mpr hk)
theorem UZ:AO A B=true↔∃n,(n∈B.st/\n∈A.st++A.fr/\n∉A.lf.map (·.1))\/(n∈B.fr/\n∈A.lf.map (·.1)):=by
 unfold AO;rw[Bool.or_eq_true,a6X,a6X];constructor
 . rintro (⟨n,h1,h2⟩ | ⟨n,h1,h2⟩);. rw[a0W] at h2;exact⟨n,.inl ⟨h1,of_decide_eq_true h2.1,λq=>by rw[BG.mpr q] at h2;cases h2.2⟩⟩
   . exact⟨n,.inr ⟨h1,BG.mp h2⟩⟩
 . rintro⟨n,⟨h1,h2,h3⟩ | ⟨h1,h2⟩⟩
   . refine .inl ⟨n,h1,?_⟩;rw[decide_eq_true h2,b2Z];cases e:BS A.lf n with
     | false=>rfl
     | true=>exact absurd (BG.mp e) h3
   . exact .inr ⟨n,h1,BG.mpr h2⟩
theorem TN (h1:OkE ys A) (h2:OkE ys B) (hc:AO A B=false) {m:Str}(hm:m∈B.st):AE (AZ A B) m=AE A.lf m:=by
 have bk:=IP h1 h2;by_cases hk:m∈A.lf.map (·.1);. obtain⟨t,ht,rfl⟩:=zL.mp hk;rw[EK h1.keys (e:=t.2) ht,EK bk (e:=t.2) (zA _ ht)]
 . rw[IR hk];have hn:m∉A.st++A.fr:=λq=>hk ((R5 hc).1 m hm q);exact EK bk (zB _ (zL.mpr ⟨m,yL.mpr ⟨hm,by simp[hn]⟩,rfl⟩))
theorem SC {ts us:List (Str×Ent)}{e:Ent}(hf:∀n∈e.2.1,AE ts n=AE us n) (hp:∀n,e.1 = .inr n->AE ts n=AE us n):AJ ts e=AJ us e:=by
 unfold AJ;rw[HL (g:=λn=>(AE us n).2.1) λn hn=>by rw[hf n hn],yM (g:=λn=>(AE us n).2.2) λn hn=>by rw[hf n hn]];cases he:e.1 with
 | inl p=>rfl
 | inr n=>simp only[hp n he]
theorem R6 (h1:OkE ys A) (h2:OkE ys B) (hc:AO A B=false) {t:Str×Ent}(ht:t∈B.lf):AJ (AZ A B) t.2=AJ A.lf t.2:=
 SC (λn hn=>TN h1 h2 hc ((h2.from_ t ht).2 n hn)) λn hp=>TN h1 h2 hc (h2.place t ht n hp)
theorem LL (h1:OkE ys A) (h2:OkE ys B) (hc:AO A B=false) {n:Str}{e:Ent}:(n,e)∈BL A B↔((n,e)∈A.lf/\n∉B.st/\n∉B.lf.map (·.1))\/∃e0,(n,e0)∈B.lf/\e=AJ A.lf e0:=by
 rw[DQ h1 h2];constructor
 . rintro (⟨q1,q2,q3⟩ | ⟨t,ht,q⟩)
   . rcases yW.mp q1 with z | z;. exact .inl ⟨z,q2,q3⟩
     . obtain⟨m,hm,e'⟩:=zL.mp z;have:m=n:=congrArg (·.1) e';subst this;exact absurd (yL.mp hm).1 q2
   . rw[R6 h1 h2 hc ht] at q;obtain⟨rfl,rfl⟩:=Prod.mk.inj q;exact .inr ⟨t.2,ht,rfl⟩
 . rintro (⟨q1,q2,q3⟩ | ⟨e0,h0,rfl⟩);. exact .inl ⟨zA _ q1,q2,q3⟩
   . exact .inr ⟨(n,e0),h0,by rw[R6 h1 h2 hc h0]⟩
theorem bD {X:List (Str×Ent)}(h:(X.map (·.1)).Nodup):X.Nodup:=(List.pairwise_map.mp h).imp λ{a b} q e=>q (by rw[e])
theorem R7 {X Y:List (Str×Ent)}(nx:(X.map (·.1)).Nodup) (ny:(Y.map (·.1)).Nodup) (h:∀n e,(n,e)∈X↔(n,e)∈Y):CF X=CF Y:=by have hp:X.Perm Y:=(List.perm_ext_iff_of_nodup (bD nx) (bD ny)).mpr λt=>h t.1 t.2;unfold CF;rw[JA (hp.map _)];refine yM λn hn=>?_;have hn:n∈Y.map (·.1):=(AQ _).mem_iff.mp hn;obtain⟨t,ht,rfl⟩:=zL.mp hn;rw[EK ny (e:=t.2) ht,EK nx (e:=t.2) ((h t.1 t.2).mpr ht)]
theorem TQ {a b:List Str}(ha:a.Nodup) (hb:b.Nodup) (h:∀n,n∈a↔n∈b):BA a=BA b:=JA ((List.perm_ext_iff_of_nodup ha hb).mpr h)
def LM (E:Eff):Prop:=BA E.st=E.st/\BA E.fr=E.fr/\CF E.lf=E.lf/\∀t∈E.lf,BA t.2.2.1=t.2.2.1
structure Beh (A B F:Eff):Prop where
 no:AO A B=false
 st:∀n,n∈F.st↔n∈A.st\/(n∈B.st/\n∉A.st++A.fr)
 fr:∀n,n∈F.fr↔n∈A.fr\/(n∈B.fr/\n∉A.st++A.fr)
 lf:∀n e,(n,e)∈F.lf↔((n,e)∈A.lf/\n∉B.st/\n∉B.lf.map (·.1))\/∃e0,(n,e0)∈B.lf/\e=AJ A.lf e0
theorem OV {F:Eff}(h1:OkE ys A) (h2:OkE ys B) (h:AG A B=some F):Beh A B F:=by
 unfold AG at h;split at h;. cases h
 rename_i hc;have hc:AO A B=false:=by simpa using hc
 have e:=(Option.some.inj h).symm;subst e;refine⟨hc,λn=>?_,λn=>?_,λn e=>?_⟩;. rw[show(n∈BA (AK A B))↔n∈AK A B from(AQ _).mem_iff];unfold AK;rw[yW,yL];simp
 . rw[show(n∈BA (BF A B))↔n∈BF A B from(AQ _).mem_iff];unfold BF;rw[yW,yL];simp
 . rw[show((n,e)∈CF (BL A B))↔(n,e)∈BL A B from(GJ (CI h1 h2)).mem_iff];exact LL h1 h2 hc
theorem KK {F:Eff}(h:Beh A B F) (n:Str):n∈F.lf.map (·.1)↔n∈B.lf.map (·.1)\/(n∈A.lf.map (·.1)/\n∉B.st/\n∉B.lf.map (·.1)):=by
 constructor
 . intro q;obtain⟨t,ht,rfl⟩:=zL.mp q;rcases (h.lf t.1 t.2).mp ht with ⟨a,b,c⟩ | ⟨e0,a,_⟩
   . exact .inr ⟨zL.mpr ⟨t,a,rfl⟩,b,c⟩
   . exact .inl (zL.mpr ⟨_,a,rfl⟩)
 . rintro (q | ⟨a,b,c⟩);. obtain⟨t,ht,rfl⟩:=zL.mp q;exact zL.mpr ⟨_,(h.lf t.1 _).mpr (.inr ⟨t.2,ht,rfl⟩),rfl⟩
   . obtain⟨t,ht,rfl⟩:=zL.mp a;exact zL.mpr ⟨_,(h.lf t.1 t.2).mpr (.inl ⟨ht,b,c⟩),rfl⟩
theorem V0 {n:Str}(hA:LM A) (h1:OkE ys A):AJ A.lf (.inr n,[n],0)=AE A.lf n:=by
 unfold AJ;have hs:BA (AE A.lf n).2.1=(AE A.lf n).2.1:=by
   by_cases hk:n∈A.lf.map (·.1);. obtain⟨t,ht,rfl⟩:=zL.mp hk;rw[EK h1.keys (e:=t.2) ht];exact hA.2.2.2 t ht
   . rw[IR hk];rfl
 simp only[a2W,List.flatMap_nil,a1W,zI,a6W,a7Q,List.sum_nil,Int.add_zero,Int.zero_add,hs]
theorem aD {F:Eff}(hA:LM A) (h1:OkE ys A) (h2:OkE ys B) (hF:OkE ys F) (h:Beh A B F) {m:Str}(hm:m∈B.st->m∈B.lf.map (·.1)):AE F.lf m=AJ A.lf (AE B.lf m):=by
 by_cases hb:m∈B.lf.map (·.1);. obtain⟨t,ht,rfl⟩:=zL.mp hb;rw[EK h2.keys (e:=t.2) ht];exact EK hF.keys ((h.lf _ _).mpr (.inr ⟨t.2,ht,rfl⟩))
 . have hs:m∉B.st:=λq=>hb (hm q);rw[IR hb,V0 hA h1];by_cases ha:m∈A.lf.map (·.1);. obtain⟨t,ht,rfl⟩:=zL.mp ha;rw[EK h1.keys (e:=t.2) ht];exact EK hF.keys ((h.lf _ _).mpr (.inl ⟨ht,hs,hb⟩))
   . rw[IR ha];exact IR λq=>by
       rcases (KK h m).mp q with z | z;. exact hb z
       . exact ha z.1
theorem XZ {a b:List Int}(h:a.Perm b):a.sum=b.sum:=by
 induction h with
 | nil=>rfl
 | cons x _ ih=>rw[a7Q,a7Q,ih]
 | swap x y l=>simp only[a7Q];lia
 | trans _ _ ih1 ih2=>exact ih1.trans ih2
theorem NJ {f g:Str->List Str}:∀{l:List Str},(∀n∈l,(f n).Perm (g n))->(l.flatMap f).Perm (l.flatMap g)
 | [],_=>.refl _
 | a::r,h=>by rw[a2W,a2W];exact(h a (by simp)).append (NJ λn hn=>h n (yV _ hn))
theorem R8 (h:Str->List Str) (k:Str->Int):∀l:List Str,((l.flatMap h).map k).sum=(l.map λn=>((h n).map k).sum).sum
 | []=>rfl
 | a::r=>by rw[a2W,xJ,List.sum_append,zI,a7Q,R8 h k r]
theorem NK (a b:Str->Int):∀l:List Str,(l.map λn=>a n+b n).sum=(l.map a).sum+(l.map b).sum
 | []=>rfl
 | x::r=>by simp only[zI,a7Q];rw[NK a b r];lia
theorem V1 {e:Ent}{us ts vs:List (Str×Ent)}(hf:∀n∈e.2.1,AE vs n=AJ ts (AE us n)) (hp:∀n,e.1 = .inr n->AE vs n=AJ ts (AE us n)):AJ vs e=AJ ts (AJ us e):=by
 have e1:(AJ vs e).1=(AJ ts (AJ us e)).1:=by
   cases he:e.1 with
   | inl p=>simp only[AJ,he]
   | inr n=> have:=hp n he;simp only[AJ,he];rw[this];rfl
 have e2:(AJ vs e).2.1=(AJ ts (AJ us e)).2.1:=by show BA (e.2.1.flatMap λn=>(AE vs n).2.1)=BA ((BA (e.2.1.flatMap λn=>(AE us n).2.1)).flatMap λn=>(AE ts n).2.1);refine JA ?_;rw[HL (g:=λn=>(AJ ts (AE us n)).2.1) λn hn=>by rw[hf n hn]];refine(NJ (g:=λn=>(AE us n).2.1.flatMap λn=>(AE ts n).2.1) λn hn=>AQ _).trans ?_;rw[<-List.flatMap_assoc];exact((AQ _).symm.flatMap_right _)
 have e3:(AJ vs e).2.2=(AJ ts (AJ us e)).2.2:=by show e.2.2+(e.2.1.map λn=>(AE vs n).2.2).sum=(e.2.2+(e.2.1.map λn=>(AE us n).2.2).sum)+((BA (e.2.1.flatMap λn=>(AE us n).2.1)).map λn=>(AE ts n).2.2).sum;rw[yM (g:=λn=>(AE us n).2.2+((AE us n).2.1.map λn=>(AE ts n).2.2).sum) λn hn=>by rw[hf n hn];rfl,NK,XZ ((AQ (e.2.1.flatMap λn=>(AE us n).2.1)).map λn=>(AE ts n).2.2),R8,Int.add_assoc]
 exact Prod.ext e1 (Prod.ext e2 e3)
def DU (A B:Eff) (n:Str):Prop:=(n∈B.st/\(n∈A.st\/n∈A.fr)/\n∉A.lf.map (·.1))\/(n∈B.fr/\n∈A.lf.map (·.1))
theorem CO:AO A B=true↔∃n,DU A B n:=by rw[UZ];constructor <;> (rintro⟨n,h⟩;refine⟨n,?_⟩;unfold DU at *;rw[yW] at *;exact h)
theorem F2 (h:OkE ys A) {n:Str}(hn:n∈A.lf.map (·.1)):n∈A.st\/n∈A.fr:=by obtain⟨t,ht,rfl⟩:=zL.mp hn;exact yW.mp (h.known t ht)
theorem B5 {F:Eff}(hF:Beh A B F) (n:Str):(n∈F.st↔n∈A.st\/(n∈B.st/\¬n∈A.st/\¬n∈A.fr))/\(n∈F.fr↔n∈A.fr\/(n∈B.fr/\¬n∈A.st/\¬n∈A.fr)):=by have h1:=hF.st n;have h2:=hF.fr n;rw[yW,not_or] at h1 h2;exact⟨h1,h2⟩
theorem JX {F G:Eff}(h1:OkE ys A) (h2:OkE ys B) (hF:Beh A B F) (hG:Beh B C G) (n:Str):DU F C n↔DU A G n:=by
 have f:=B5 hF n;have g:=B5 hG n;have kf:=KK hF n;have ka:=F2 h1 (n:=n);have kb:=F2 h2 (n:=n);have ap:=h2.apart n;have aa:=h1.apart n;have n1:¬DU A B n:=λq=>by have:=CO.mpr ⟨n,q⟩;rw[hF.no] at this;cases this
 have n2:¬DU B C n:=λq=>by have:=CO.mpr ⟨n,q⟩;rw[hG.no] at this;cases this
 unfold DU at *;rw[f.1,f.2,g.1,g.2,kf];generalize (n∈A.lf.map (·.1))=al at *;generalize (n∈B.lf.map (·.1))=bl at *;generalize (n∈A.st)=as at *;generalize (n∈A.fr)=af at *;generalize (n∈B.st)=bs at *;generalize (n∈B.fr)=bf at *;generalize (n∈C.st)=cs at *;generalize (n∈C.fr)=cf at *;clear f g kf
 grind
theorem R9 {F:Eff}(h1:OkE ys A) (h2:OkE ys B) (hF:Beh A B F) {n:Str}(h:DU B C n):DU F C n:=by
 have f:=B5 hF n;have kf:=KK hF n;have ka:=F2 h1 (n:=n);have kb:=F2 h2 (n:=n);have ap:=h2.apart n;have n1:¬DU A B n:=λq=>by have:=CO.mpr ⟨n,q⟩;rw[hF.no] at this;cases this
 unfold DU at *;rw[f.1,f.2,kf];generalize (n∈A.lf.map (·.1))=al at *;generalize (n∈B.lf.map (·.1))=bl at *;generalize (n∈A.st)=as at *;generalize (n∈A.fr)=af at *;generalize (n∈B.st)=bs at *;generalize (n∈B.fr)=bf at *;generalize (n∈C.st)=cs at *;generalize (n∈C.fr)=cf at *;clear f kf
 grind
theorem SD {G:Eff}(h1:OkE ys A) (h2:OkE ys B) (hG:Beh B C G) {n:Str}(h:DU A B n):DU A G n:=by
 have g:=B5 hG n;unfold DU at *;rw[g.1,g.2];rcases h with ⟨a,b,c⟩ | ⟨a,b⟩
 . exact .inl ⟨.inl a,b,c⟩
 . exact .inr ⟨.inl a,b⟩
theorem IS (h:AO A B=true):AG A B=none:=by unfold AG;rw[if_pos h]
theorem F3 (h:AO A B=false):AG A B=some ⟨BA (AK A B),BA (BF A B),CF (BL A B)⟩:=by unfold AG;rw[h];rfl
theorem NL (h:AO A B=false) (n:Str):¬DU A B n:=λq=>by have:=CO.mpr ⟨n,q⟩;rw[h] at this;cases this
theorem V2 {a b:Bool}(h:a=true↔b=true):a=b:=Bool.eq_iff_iff.mpr h
theorem SE {F G:Eff}(sA:LM A) (h1:OkE ys A) (h2:OkE ys B) (h3:OkE ys C) (oF:OkE ys F) (oG:OkE ys G) (hF:Beh A B F) (hG:Beh B C G) (c1:AO F C=false) (c2:AO A G=false) (n:Str) (e:Ent):(n,e)∈BL F C↔(n,e)∈BL A G:=by
 rw[LL oF h3 c1,LL h1 oG c2];have tt:∀e0,(n,e0)∈C.lf->AJ F.lf e0=AJ A.lf (AJ B.lf e0):=λe0 h0=>by have go:∀m∈C.st,AE F.lf m=AJ A.lf (AE B.lf m):=λm hm=>aD sA h1 h2 oF hF λq=>(R5 hG.no).1 m hm (zA _ q);exact V1 (λm hm=>go m ((h3.from_ _ h0).2 m hm)) λm hm=>go m (h3.place _ h0 m hm)
 have nA:=NL hF.no n;have g:=B5 hG n;have kG:=KK hG n;have kb:=F2 h2 (n:=n);have nB:=NL hG.no n;constructor
 . rintro (⟨q1,q2,q3⟩ | ⟨e0,h0,rfl⟩)
   . rcases (hF.lf n e).mp q1 with ⟨a,b,c⟩ | ⟨e0,a,rfl⟩
     . refine .inl ⟨a,λz=>?_,λz=>?_⟩
       . rcases g.1.mp z with z | z;. exact b z
         . exact q2 z.1
       . rcases kG.mp z with z | z;. exact q3 z
         . exact c z.1
     . exact .inr ⟨e0,(hG.lf n e0).mpr (.inl ⟨a,q2,q3⟩),rfl⟩
   . exact .inr ⟨AJ B.lf e0,(hG.lf n _).mpr (.inr ⟨e0,h0,rfl⟩),tt e0 h0⟩
 . rintro (⟨q1,q2,q3⟩ | ⟨e1,j4,rfl⟩);. have ka:n∈A.lf.map (·.1):=zL.mpr ⟨_,q1,rfl⟩;have ju:n∉B.st:=λz=>q2 (g.1.mpr (.inl z));have lV:n∉B.fr:=λz=>nA (.inr ⟨z,ka⟩);have nM:n∉B.lf.map (·.1):=λz=>(kb z).elim ju lV;refine .inl ⟨(hF.lf n e).mpr (.inl ⟨q1,ju,nM⟩),λz=>q2 (g.1.mpr (.inr ⟨z,ju,lV⟩)),λz=>q3 (kG.mpr (.inl z))⟩
   . rcases (hG.lf n e1).mp j4 with ⟨a,b,c⟩ | ⟨e0,a,rfl⟩
     . exact .inl ⟨(hF.lf n _).mpr (.inr ⟨e1,a,rfl⟩),b,c⟩
     . exact .inr ⟨e0,a,(tt e0 a).symm⟩
theorem f7 (hn:AH ys) (sA:LM A) (h1:OkE ys A) (h2:OkE ys B) (h3:OkE ys C):((AG A B).bind λF=>AG F C)=((AG B C).bind λG=>AG A G):=by
 cases ie:AG A B with
 | none=>
   have c1:AO A B=true:=by cases h:AO A B with | true=>rfl | false=>rw[F3 h] at ie;cases ie
   cases hBC:AG B C with
   | none=>rfl
   | some G=> obtain⟨n,bh⟩:=CO.mp c1;exact(IS (CO.mpr ⟨n,SD h1 h2 (OV h2 h3 hBC) bh⟩)).symm
 | some F=>
   have hF:=OV h1 h2 ie;have oF:=OkE.behind hn h1 h2 ie;cases hBC:AG B C with
   | none=>
     have c1:AO B C=true:=by cases h:AO B C with | true=>rfl | false=>rw[F3 h] at hBC;cases hBC
     obtain⟨n,bh⟩:=CO.mp c1;exact IS (CO.mpr ⟨n,R9 h1 h2 hF bh⟩)
   | some G=>
     have hG:=OV h2 h3 hBC;have oG:=OkE.behind hn h2 h3 hBC;show AG F C=AG A G;have cc:AO F C=AO A G:=V2 (by
       rw[CO,CO];exact⟨λ⟨n,q⟩=>⟨n,(JX h1 h2 hF hG n).mp q⟩,λ⟨n,q⟩=>⟨n,(JX h1 h2 hF hG n).mpr q⟩⟩);cases c1:AO F C with
     | true=>rw[IS c1,IS (by rw[<-cc];exact c1)]
     | false=>
       have c2:AO A G=false:=by rw[<-cc];exact c1
       rw[F3 c1,F3 c2];congr 2
       . refine TQ (F1 oF h3).1 (F1 h1 oG).1 λn=>?_;have f:=B5 hF n;have g:=B5 hG n;unfold AK;simp only[yW,yL,b1V,decide_eq_false_iff_not,not_or,f.1,f.2,g.1,g.2];generalize (n∈A.st)=as at *;generalize (n∈A.fr)=af at *;generalize (n∈B.st)=bs at *;generalize (n∈B.fr)=bf at *;generalize (n∈C.st)=cs at *;clear f g
         grind
       . refine TQ (KJ oF h3).1 (KJ h1 oG).1 λn=>?_;have f:=B5 hF n;have g:=B5 hG n;unfold BF;simp only[yW,yL,b1V,decide_eq_false_iff_not,not_or,f.1,f.2,g.1,g.2];generalize (n∈A.st)=as at *;generalize (n∈A.fr)=af at *;generalize (n∈B.st)=bs at *;generalize (n∈B.fr)=bf at *;generalize (n∈C.fr)=cf at *;clear f g
         grind
       . exact R7 (CI oF h3) (CI h1 oG) λn e=>SE sA h1 h2 h3 oF oG hF hG c1 c2 n e
theorem OW (l:List Str):BA (BA l)=BA l:=a8 (GG l)
theorem V3 {ts:List (Str×Ent)}(nd:(ts.map (·.1)).Nodup):CF (CF ts)=CF ts:=by have sp:=GJ nd;exact R7 (((sp.map (·.1)).nodup_iff).mpr nd) nd λn e=>sp.mem_iff
theorem SF {F:Eff}(h1:OkE ys A) (h2:OkE ys B) (sA:LM A) (h:AG A B=some F):LM F:=by
 have hb:=OV h1 h2 h;rw[F3 hb.no] at h;have e:=(Option.some.inj h).symm;refine⟨by rw[e];exact OW _,by rw[e];exact OW _,by rw[e];exact V3 (CI h1 h2),λt ht=>?_⟩;rcases (hb.lf t.1 t.2).mp ht with ⟨q,_⟩ | ⟨e0,_,q⟩
 . exact sA.2.2.2 _ q
 . rw[q];exact OW _
theorem aE:LM ⟨[],[],[]⟩:=⟨rfl,rfl,rfl,λt ht=>by cases ht⟩
theorem aF (hn:AH ys):∀(k:Nat) (Ds:List Deed),Ds.length=k->(∀D∈Ds,AU ys D)->∀E,AS Ds=some E->LM E:=by
 intro k;induction k with
 | zero=> intro Ds hk _ E h;have:Ds=[]:=List.length_eq_zero_iff.mp hk;subst this;cases h;exact aE
 | succ k ih=>
   intro B hB hd E h;obtain⟨C,D,rfl⟩:∃C D,B=C++[D]:=⟨B.dropLast,B.getLast (by rintro rfl;cases hB),(List.dropLast_concat_getLast _).symm⟩
   have hC:∀E∈C,AU ys E:=λE hE=>hd E (zA _ hE);have hD:=hd D (by simp);cases hX:AS C with
   | none=>unfold AS at hX h;rw[a7X,hX] at h;cases h
   | some X=> rw[IN hX] at h;exact SF (HK hn hC X hX) (OkE.deed hn hD) (ih C (by simpa using hB) hC X hX) h
theorem SG (sA:LM A):AG A ⟨[],[],[]⟩=some A:=by
 have c:AO A ⟨[],[],[]⟩=false:=rfl;rw[F3 c];have e1:AK A ⟨[],[],[]⟩=A.st:=by simp[AK]
 have e2:BF A ⟨[],[],[]⟩=A.fr:=by simp[BF]
 have e3:BL A ⟨[],[],[]⟩=A.lf:=by simp[BL,AZ]
 rw[e1,e2,e3,sA.1,sA.2.1,sA.2.2.1]
theorem LN (hn:AH ys) {a b c:Option Eff}(h1:∀E,a=some E->OkE ys E) (s1:∀E,a=some E->LM E) (h2:∀E,b=some E->OkE ys E) (h3:∀E,c=some E->OkE ys E):CV (CV a b) c=CV a (CV b c):=by
 cases a with
 | none=>rfl
 | some A=>cases b with
   | none=>rfl
   | some B=>cases c with
     | none=>cases AG A B <;> (show CV (AG A B) none=none;cases AG A B <;> rfl)
     | some C=> have:=f7 hn (s1 A rfl) (h1 A rfl) (h2 B rfl) (h3 C rfl);show CV (AG A B) (some C)=CV (some A) (AG B C);cases hF:AG A B <;> cases hG:AG B C <;> rw[hF,hG] at this <;> exact this
end
theorem LO {ys:List Str}(hn:AH ys) {Ds:List Deed}(h:∀D∈Ds,AU ys D):∀E,AS Ds=some E->LM E:=aF hn _ Ds rfl h
theorem TR {ys:List Str}(hn:AH ys) {A:List Deed}(hA:∀D∈A,AU ys D):∀{B:List Deed},(∀D∈B,AU ys D)->AS (A++B)=CV (AS A) (AS B):=by
 have go:∀k (B:List Deed),B.length=k->(∀D∈B,AU ys D)->AS (A++B)=CV (AS A) (AS B):=by
   intro k;induction k with
   | zero=>
     intro B hB _;have:B=[]:=List.length_eq_zero_iff.mp hB;subst this;rw[a1W];cases hE:AS A with
     | none=>rfl
     | some E=>exact(SG (LO hn hA E hE)).symm
   | succ k ih=>
     intro B hB hd;obtain⟨C,D,rfl⟩:∃C D,B=C++[D]:=⟨B.dropLast,B.getLast (by rintro rfl;cases hB),(List.dropLast_concat_getLast _).symm⟩
     have hC:∀E∈C,AU ys E:=λE hE=>hd E (zA _ hE);have hD:=hd D (by simp);have e1:=ih C (by simpa using hB) hC;have s1:∀X:List Deed,AS (X++[D])=CV (AS X) (some (AF D)):=λX=>by
       cases hX:AS X with
       | none=>unfold AS at hX ⊢;rw[a7X,hX];rfl
       | some E=>rw[IN hX];rfl
     rw[<-List.append_assoc,s1,e1,s1,LN hn (HK hn hA) (LO hn hA) (HK hn hC) λE e=>by cases e;exact OkE.deed hn hD]
 exact λ{B} h=>go _ B rfl h
theorem OX {ys l:List Str}(hn:AH ys) (h:∀n∈l,n∈ys):(AN l).canLay0=true/\(AN l).depth<=3:=by
 refine⟨zG (QF (ss:=l) λz hz=>hn.1 z (h z hz)),?_⟩;have:a2V (l.map a0Z)<=1:=HC λd hd=>by obtain⟨z,_,rfl⟩:=zL.mp hd;simp[a1J]
 simp only[AN,a1J];lia
theorem OY {ys:List Str}(hn:AH ys) {o:Option Eff}(h:∀E,o=some E->OkE ys E):(efO o).canLay0=true/\(efO o).depth<=9:=by
 cases o with
 | none=>exact⟨rfl,by show a1J .none<=9;simp[a1J]⟩
 | some E=>
   have hE:=h E rfl;have c1:=OX hn hE.st.2;have c2:=OX hn hE.fr.2;have c3:∀d∈E.lf.map lfE,d.canLay0=true/\d.depth<=5:=λd hd=>by
     obtain⟨t,ht,rfl⟩:=zL.mp hd;have k1:=OX hn (l:=t.2.2.1) λn bh=>hE.st.2 n ((hE.from_ t ht).2 n bh);have jB:HZ t.1:=hn.1 _ ((yW.mp (hE.known t ht)).elim (hE.st.2 _) (hE.fr.2 _));have k2:(plE t.2.1).canLay0=true/\(plE t.2.1).depth<=1:=by
       cases hp:t.2.1 with
       | inl p=>exact⟨rfl,by simp[plE,a1J]⟩
       | inr n=>exact⟨CG (hn.1 n (hE.st.2 n (hE.place t ht n hp))),by simp[plE,a1J]⟩
     have k0:(a0Z t.1).canLay0=true:=CG jB;have all:∀d∈[a0Z t.1,plE t.2.1,AN t.2.2.1,.int t.2.2.2],d.canLay0=true/\d.depth<=3:=λd hd=>by
       simp only[yX,xX,or_false] at hd;rcases hd with rfl | rfl | rfl | rfl;. exact⟨k0,by simp[a1J]⟩
       . exact⟨k2.1,by lia⟩
       . exact k1
       . exact⟨rfl,by simp[a1J]⟩
     refine⟨J3 λd hd=>(all d hd).1,?_⟩;have:a2V [a0Z t.1,plE t.2.1,AN t.2.2.1,.int t.2.2.2]<=3:=HC λd hd=>(all d hd).2;simp only[lfE,a1J];lia
   have c4:(b2V (E.lf.map lfE)).canLay0=true/\(b2V (E.lf.map lfE)).depth<=7:=by refine⟨J3 λd hd=>(c3 d hd).1,?_⟩;have:a2V (E.lf.map lfE)<=5:=HC λd hd=>(c3 d hd).2;simp only[a1J];lia
   have all:∀d∈[AN E.st,AN E.fr,.tuple (E.lf.map lfE)],d.canLay0=true/\d.depth<=7:=λd hd=>by
     simp only[yX,xX,or_false] at hd;rcases hd with rfl | rfl | rfl;. exact⟨c1.1,by lia⟩
     . exact⟨c2.1,by lia⟩
     . exact c4
   refine⟨J3 λd hd=>(all d hd).1,?_⟩;have:a2V [AN E.st,AN E.fr,.tuple (E.lf.map lfE)]<=7:=HC λd hd=>(all d hd).2;show a1J (.tuple [AN E.st,AN E.fr,.tuple (E.lf.map lfE)])<=9;simp only[a1J];lia
theorem NM {ys:List Str}(hn:AH ys) {o:Option Eff}(h:∀E,o=some E->OkE ys E):zH (efO o)=true:=by have h1:=OY hn h;exact ES h1.1 (by lia)
theorem SH {ys:List Str}(hn:AH ys) {a b c:Option Eff}(h1:∀E,a=some E->OkE ys E) (h2:∀E,b=some E->OkE ys E) (h3:∀E,c=some E->OkE ys E):zH (.list [efO a,efO b,efO c])=true:=by
 have d1:=OY hn h1;have d2:=OY hn h2;have d3:=OY hn h3;refine ES (J3 λd hd=>?_) ?_
 . simp only[yX,xX,or_false] at hd;rcases hd with rfl | rfl | rfl;. exact d1.1
   . exact d2.1
   . exact d3.1
 . have:a2V [efO a,efO b,efO c]<=9:=HC λd hd=>by
     simp only[yX,xX,or_false] at hd;rcases hd with rfl | rfl | rfl;. exact d1.2
     . exact d2.2
     . exact d3.2
   simp only[a1J];lia
open Classical in
noncomputable def aG (d:PyData):PyData:=if h:∃Ds:List Deed,d = .tuple (Ds.map Deed.d) then efO (AS (choose h)) else .none
theorem ED (Ds:List Deed):aG (.tuple (Ds.map Deed.d))=efO (AS Ds):=by
 have h:∃Es:List Deed,b2V (Ds.map Deed.d) = .tuple (Es.map Deed.d):=⟨Ds,rfl⟩
 unfold aG;rw[dif_pos h];have:=Classical.choose_spec h;rw[<-GI DH (PyData.tuple.inj this)]
theorem JY {p:Addr}{ts:List (Str×Ent)}{M:Own}{Q:DS->Own->Prop}(m:M p=some (K4 ts)) (nd:(ts.map (·.1)).Nodup) (bi:ts.length < 64) (q:Q (.d (.tuple ((CF ts).map lfE))) M):[DS.loc p].length=1/\DK.pre [.loc p] M/\∀x M',DK.post [.loc p] M x M'->Q x M':=⟨rfl,⟨p,ts,rfl,m,nd,bi⟩,λx M' hh=>by obtain⟨rfl,rfl⟩:=hh p ts rfl m;exact q⟩
theorem SJ {ys:List Str}{one other:Eff}{p:Addr}{M:Own}{Q:DS->Own->Prop}(m:M p=some (K4 one.lf)) (h1:OkE ys one) (h2:OkE ys other) (hn:AH ys) (q:Q (.d (.bool (AO one other))) M):(clX one other p).length=3/\EX.pre (clX one other p) M/\∀x M',EX.post (clX one other p) M x M'->Q x M':=⟨rfl,⟨ys,one,other,p,rfl,m,h1,h2,hn⟩,λx M' hh=>by obtain⟨rfl,rfl⟩:=hh one other p rfl;exact q⟩
theorem RA {ts:List (Str×Ent)}{e:Ent}{M:Own}{Q:DS->Own->Prop}(hf:∀n∈e.2.1,BS ts n=true) (hp:∀n,e.1 = .inr n->BS ts n=true) (bi:(e.2.1.flatMap λn=>(AE ts n).2.1).length < 64) (q:Q (.d (BM (AJ ts e))) M):(taX ts e).length=4/\FY.pre (taX ts e) M/\∀x M',FY.post (taX ts e) M x M'->Q x M':=⟨rfl,⟨ts,e,rfl,hf,hp,bi⟩,λx M' hh=>by obtain⟨rfl,rfl⟩:=hh ts e rfl;exact q⟩
theorem Y0 {a b:List (Str×Ent)}(h:QW a=QW b):a=b:=QX (congrArg MO.d (PyData.dict.inj h))
end DL
namespace L2
open PySem PySem.Spec PyProof.Rows
section
variable {X:Cx}{scope:Scope}{NC:List Str}{fr:List (Option Nat)}
theorem Y1 {kx vx iter tg:Expr}{ifs:List Expr}{pos:Pos}{wi:TI}{g:TG}{tt:TT}{tk tv:TE}{i:Nat}{x:Str}{py fu:Pos}(hc:X.calm=true) (hu:X.A.units+1 < cLine) (hN:X.N.Nodup) (kL:X.N[i]?=some x) (hx:Loc X.env.scope x) (S:CSc X scope NC fr) (hi:PI X tg iter wi) (hb:∀(C:Addr) (s:Shared) (H:Hp) (ex:List Addr) (pn:List (Addr×Obj)),PG (AT X scope NC C s H ex pn) tg g/\PTs (AT X scope NC C s H ex pn) ifs tt/\PE (AT X scope NC C s H ex pn) kx tk/\PE (AT X scope NC C s H ex pn) vx tv) (kM:swapsWith (.DictComp kx vx [⟨tg,iter,ifs,0⟩] scope pos) (some (.Name x py)) fu.line X.env=pure true) (hf:X.fn x=true\/X.env.scope.names.lookup x=some .local:=by first | exact .inl rfl | exact .inr rfl | assumption)
   (hs:∀x,foldedSetIterable iter X.env x=pure x:=by intro _;rfl) :
   PS X (.Assign [.Name x py] (.DictComp kx vx [⟨tg,iter,ifs,0⟩] scope pos) fu) (λD σ H=>OF fr wi g tt tk tv σ H λv H'=>D.nx (σ.set i (some v)) H'):=by intro pins s σ H D I h;rw[exec_Assign_Name_used _ _ _ _ kM];refine zZ (wpAny_standAt (zZ ?_));show wpAny _ X.A (do let _ <- comprehension (.DictComp kx vx [⟨tg,iter,ifs,0⟩] scope pos) scope X.env _ newDict false (eval iter X.env) (some (assign (.Name x py) X.env))) _ _ s;refine zZ (thn (NE (use:=some (assign (.Name x py) X.env)) (Q:=λv H'=>D.nx (σ.set i (some v)) H') (QQ:=λ_ s'=>∃σ' H',Inv X pins σ' H' s'/\D.nx σ' H') hc S hi hb I hu h (λA C H' s' m oC I' hn q back iT=>?_) hs) λ_ s' hq=>zY (zY hq));have fm:=NS (X:=X) (pos:=py) hN kL hx hf (pins++[(C,oC)]) s' σ H' (.ref A) (.ref A) (λσ' H'=>D.nx σ' H') I' rfl q;refine thn fm λ_ s2 ⟨σ2,H2,I2,q2⟩=>?_;have kN:s2.heap.get? C=some oC:=(I2.pin (C,oC) (zB _ (zB _ (by simp)))).1;obtain⟨o',es,ep,cn,il,kP⟩:=hn;rw[iT] at cn;cases cn;exact⟨m,⟨_,es,ep,kN,il,kP⟩,λh' sb=>⟨σ2,H2,back pins σ2 H2 s2 h' I2 sb,q2⟩⟩
end
end L2
namespace DL
open PySem PySem.Spec L2
def FnIn (K:Frg) (n:Str) (st:Stmt):Prop:=∃(f:Addr) (oc:Value) (od:Option Addr) (kV dc pm:Value) (an:Option Addr) (cd ct:Value) (sl:Array (Option Value)),a4J K mainGlobals n=some (some (.ref f)) /\
 K.lookup f=some ⟨oc,od,.func (a5K n n (D6 st) (BZ st) (AD st) .none kV dc pm an cd ct),sl⟩/\b0Z K cd n=true/\a7J K (.ref f)=true
theorem aH {K:Frg}{n:Str}{st:Stmt}{f:Addr}{oc:Value}{od:Option Addr}{kV dc pm:Value}{an:Option Addr}{cd ct:Value}{sl:Array (Option Value)}(a:a4J K mainGlobals n=some (some (.ref f))) (l:K.lookup f=some ⟨oc,od,.func (a5K n n (D6 st) (BZ st) (AD st) .none kV dc pm an cd ct),sl⟩) (c:b0Z K cd n=true) (k:a7J K (.ref f)=true):FnIn K n st:=⟨f,oc,od,kV,dc,pm,an,cd,ct,sl,a,l,c,k⟩
structure FnAt (K:Frg) (mg:Str->Option Value) (n:Str) (st:Stmt) (f:Addr) (fd:FuncData):Prop where
 fn:Fun K n n st f fd
 mg_:mg n=some (.ref f)
 kp:a7J K (.ref f)=true
theorem FnIn.at {K:Frg}{n:Str}{st:Stmt}{h:Heap}{mg:Str->Option Value}(b:FnIn K n st) (X:K.In h) (G:h.Ns mainGlobals mg):∃f fd,FnAt K mg n st f fd:=
 let ⟨f,_,_,_,_,_,_,_,_,_,a,l,c,k⟩:=b
 ⟨f,_,cW l c k,PySem.W.mg_of X G a,k⟩
section
variable {P:Program}{w:World}{K:Frg}{mg:Str->Option Value}{base:Heap}{n:Str}{st:Stmt}{f:Addr}{fd:FuncData}{k:Nat}{ps:List Str}
abbrev f8 (n:Str) (st:Stmt) (ps:List Str):Prop:=∀(kV doc pm:Value) (an:Option Addr) (cdv ct:Value) (us:List Value),us.length=ps.length->bindArgs (a5K n n (D6 st) (BZ st) (AD st) .none kV doc pm an cdv ct) ⟨us,[]⟩=pure (ps.zip us)
theorem FnAt.has {S:FSp}(a:FnAt K mg n st f fd) (h:FnOk P w K mg base CX0 k f fd ps (spD K ps.length S)) (b:f8 n st ps):Has P w K mg base n k ps S:=⟨f,fd,h,a.mg_,a.kp,a.fn.binds b⟩
end
end DL
namespace DL
open PySem PySem.Spec L2
abbrev EE:Stmt:=_root_.sT 11
abbrev C9:Stmt:=_root_.sT 12
abbrev CA:Stmt:=_root_.sT 13
abbrev D8:Stmt:=_root_.sT 15
abbrev CP:Stmt:=_root_.sT 14
abbrev EF:Stmt:=_root_.sT 17
abbrev D9:Stmt:=_root_.sT 16
abbrev DB:Stmt:=_root_.sT 23
abbrev CQ:Stmt:=_root_.sT 19
abbrev EG:Stmt:=_root_.sT 20
abbrev DW:Stmt:=_root_.sT 21
abbrev EH:Stmt:=_root_.sT 22
abbrev BX:Stmt:=_root_.sT 18
abbrev FG:Stmt:=_root_.sT 24
abbrev IT:Stmt:=_root_.sT 9
abbrev BE:Stmt:=_root_.sT 8
abbrev GL:Stmt:=_root_.sT 6
abbrev BU:Stmt:=_root_.sT 7
abbrev B6:Stmt:=_root_.sT 1
abbrev CS:Stmt:=_root_.sT 5
abbrev B1:Stmt:=_root_.sT 4
abbrev IU:Stmt:=_root_.sT 3
abbrev BV:Stmt:=_root_.sT 25
abbrev CB:Stmt:=_root_.sT 26
abbrev TU:Stmt:=_root_.sT 27
abbrev vS (x:String) (t:Tok):Value:=.str (a0Q x) t
abbrev eS (P:Params) (x:String) (t:Tok) (v:Value):DictEntry:=⟨PyData.keyHash P (a0Q x),.str (a0Q x) t,v⟩
abbrev hs (i:Nat):Stmt:=PySem.Challenge.pw_struckdeeds_k18_effects_put_together.main.body.getD i (.Pass ⟨0,0,0,0⟩)
abbrev fO (n q:String) (st:Stmt) (doc pm:Value) (c:Nat):Obj:=⟨.type "function", none,.func (a5K (a0Q n) (a0Q q) (D6 st) (BZ st) (AD st) .none .none doc pm none (.ref c) .none),#[]⟩
abbrev gO (n q:String) (st:Stmt):Obj:=⟨.none,none,.func (.mk (a0Q n) (a0Q q) (D6 st) (.stmts (BZ st)) (AD st) 0 [] .none .none .none .none none .none .none 0),#[]⟩
abbrev tO (vs:Array Value):Obj:=⟨.type "tuple", none,.seq vs 0,#[]⟩
abbrev kO (n q:String) (a b c:Tok) (l k f:Nat) (x1:Value) (t:Nat) (x2 x3 x4 x5:Value) (u l2:Nat) (d:Tok):Obj:=⟨.type "code", none,.fields #[vS n a,vS q b,vS "/claim/cut.py" c,.int l 0,.int k 0,.int 0 0,.int 0 0,.int f 0,x1,.bool true,.int t 0,x2,.none,x3,x4,x5,.int u 0,.int l2 0,vS "/claim/cut.py" d],#[]⟩
abbrev fP (n:String) (st:Stmt) (doc pm:Value) (c:Nat):Obj:=fO n n st doc pm c
abbrev gP (n:String) (st:Stmt):Obj:=gO n n st
abbrev kPz (n:String) (a b c:Tok) (l k f:Nat) (x1:Value) (t:Nat) (x2 x3 x4 x5:Value) (u l2:Nat) (d:Tok):Obj:=kO n n a b c l k f x1 t x2 x3 x4 x5 u l2 d
abbrev nF (vs:Array Value):Obj:=⟨.none,none,.fields vs,#[]⟩
abbrev lF (l:List (Nat×Nat×Nat)):Obj:=nF (l.flatMap λt=>[.int t.1 0,.int t.2.1 0,.ref t.2.2]).toArray
def hV:Program:={ PySem.Challenge.pw_struckdeeds_k18_effects_put_together with main:={ PySem.Challenge.pw_struckdeeds_k18_effects_put_together.main with body:=([1,3,4,5,6,7,8,9,11,12,13,14,15,16,17,18,19,20,21,22,23,24,25,26,27]:List Nat).map hs } }
abbrev hB:List Stmt:=PySem.W.behindTheImports PySem.Challenge.pw_struckdeeds_k18_effects_put_together
def hN:Env:={ scope:=PySem.Challenge.pw_struckdeeds_k18_effects_put_together.main.scope,locals:=mainNs,globals:=mainNs,cells:=[],code:=a0X 13,frame:=some 14 }
abbrev hC:Code:=.body hB hN
abbrev hF:List Frame:=[PySem.W.topFrame { line:=0,col:=0,endLine:=0,endCol:=0 }]
abbrev hI (t:PySem.W.BT) (l:List (Nat×Obj)):PySem.W.BT:=l.foldl (λt x=>t.ins x.1 x.2) t
noncomputable def hT0:Params->PySem.W.BT:=λP=>hI .nil [(0,PySem.W.boot_o_0 P),(1,PySem.W.boot_o_1 P),(2,PySem.W.boot_o_2 P),(3,PySem.W.boot_o_3 P),(4,PySem.W.boot_o_4 P),(5,PySem.W.boot_o_5 P),(6,PySem.W.boot_o_6 P),(7,PySem.W.boot_o_7 P),(8,PySem.W.boot_o_8 P),(9,PySem.W.boot_o_9 P),(10,PySem.W.boot_o_10 P)]
def qA (a t:Nat) (n:String) (k ln ar fl:Nat) (ns:List String) (m:String) (s:Tok):List (Nat×Obj):=[(a,tO #[]),(a+1,nF #[]),(a+2,tO (ns.zipIdx.map λp=>vS p.1 (t+3+p.2)).toArray),(a+3,tO #[]),(a+4,gP n (hs k)),(a+5,kPz n t (t+1) (t+2) ln ar fl (.ref a) 181 (.ref (a+1)) (.ref (a+2)) (.ref (a+3)) (.ref (a+4)) (t+3+ns.length) ln (t+4+ns.length)),(a+6,fP n (hs k) .none (vS m s) (a+5))]
def qB (a t:Nat) (n:String) (k ln ar fl:Nat) (m:String) (s:Tok):List (Nat×Obj):=[(a,tO #[]),(a+1,nF #[]),(a+2,gP n (hs k)),(a+3,kPz n t (t+1) (t+2) ln ar fl (.ref a) 181 (.ref (a+1)) .none .none (.ref (a+2)) (t+3) ln (t+4)),(a+4,fP n (hs k) .none (vS m s) (a+3))]
noncomputable def hT1:Params->PySem.W.BT:=λP=>hI (hT0 P) ((11,tO #[]) :: (12,nF #[]) :: (13,(⟨(.type "code"),none,(.fields #[(vS "<module>" 182),(vS "<module>" 183),(vS "/claim/cut.py" 184),(.int 1 0),(.int 0 0),(.int 0 0),(.int 0 0),(.int 0 0),(.ref 11),(.bool false),(.int 181 0),(.ref 12),.none,.none,.none,.none,(.int 185 0),(.int 1 0),(vS "/claim/cut.py" 186)]),#[]⟩:Obj)) :: (14,(⟨(.type "frame"),none,.plain,#[(some (.ref 13)),(some (.ref 3)),(some (.ref 3)),none,(some (vS "__main__" 164)),none,(some (.ref 0))]⟩:Obj)) ::
 [])
noncomputable abbrev hX1 (w:World) (os:OsState):PySem.W.SharedT:=⟨hT1 w.params,15,{ },⟨[]⟩,{ },187,os⟩
noncomputable abbrev hX2 (w:World) (os:OsState):PySem.W.SharedT:=⟨hT1 w.params,15,{ },⟨[]⟩,{ },187,os⟩
def hD3:Params->List DictEntry:=λP=>[eS P "__name__" 165 (vS "law_struckdeeds_k18_effects_put_together" 255),eS P "__doc__" 166 .none,eS P "__package__" 167 .none,eS P "__loader__" 168 (.builtin "__main__.__loader__#opaque"),eS P "__spec__" 169 .none,eS P "__annotations__" 170 (.ref 6),eS P "__builtins__" 171 (.ref 4),eS P "__file__" 173 (vS "/claim/cut.py" 172),eS P "__cached__" 174 .none,eS P "rising_by_names" 194 (.ref 19),eS P "effect" 205 (.ref 26),eS P "effect_behind" 211 (.ref 31),eS P "deed_effect" 223 (.ref 38),eS P "clash" 229 (.ref 43),eS P "told_at_first" 241 (.ref 50),eS P "by_left_names" 247 (.ref 55),eS P "rising" 254 (.ref 62),eS P "_law_cell" 264 (.ref 69),eS P "_law_stirred" 277 (.ref 76),eS P "_law_names" 283 (.ref 81),eS P "_law_number" 290 (.ref 88),eS P "_law_place" 297 (.ref 95),eS P "_law_world" 308 (.ref 102),eS P "_law_pick" 316 (.ref 109),eS P "_law_deed" 322 (.ref 114),eS P "_law_wanted" 329 (.ref 121),eS P "_law_made" 336 (.ref 128),eS P "_law_can" 342 (.ref 133),eS P "_law_step" 353 (.ref 140),eS P "_law_there" 364 (.ref 147),eS P "_law_row" 378 (.ref 154),eS P "_law_together" 386 (.ref 161),eS P "_law_right" 392 (.ref 166)]
noncomputable def hT3:Params->PySem.W.BT:=λP=>hI (hT1 P) ((3,(⟨.type "dict", none,.dict (hD3 P).toArray 33,#[]⟩:Obj)) :: (12,lF [(2,0,18),(5,0,25),(12,0,30),(26,0,37),(44,0,42),(48,0,49),(56,0,54),(58,0,61),(61,0,68),(65,0,75),(78,0,80),(90,0,87),(92,0,94),(94,0,101),(100,0,108),(102,0,113),(130,0,120),(136,0,127),(142,0,132),(146,0,139),(167,0,146),(172,0,153),(180,0,160),(184,0,165)]) ::
 qB 15 189 "rising_by_names" 1 2 1 3 "struckdeeds.worlds" 187 ++
 (qA 20 197 "effect" 3 5 1 3 ["row", "whole", "deed"] "struckdeeds.effects" 195 ++
 (qB 27 206 "effect_behind" 4 12 2 3 "struckdeeds.effects" 195 ++
 (qA 32 212 "deed_effect" 5 26 1 3 ["deed", "word", "name", "other", "parts", "both"] "struckdeeds.effects" 195 ++
 (qB 39 224 "clash" 6 44 3 3 "struckdeeds.effects" 195 ++
 (qA 44 230 "told_at_first" 7 48 4 3 ["between", "place", "froms", "plus", "firsts", "name"] "struckdeeds.effects" 195 ++
 (qB 51 242 "by_left_names" 8 56 1 3 "struckdeeds.effects" 195 ++
 (qA 56 248 "rising" 9 58 1 3 ["names"] "struckdeeds.effects" 195 ++
 (qA 63 257 "_law_cell" 11 61 2 3 ["_law_script", "_law_k"] "law_struckdeeds_k18_effects_put_together" 255 ++
 (qA 70 265 "_law_stirred" 12 65 2 3 ["_law_cell_here", "_law_size", "_law_one", "_law_other", "_law_found", "_law_k", "_law_number_here"] "law_struckdeeds_k18_effects_put_together" 255 ++
 (qB 77 278 "_law_names" 13 78 3 3 "law_struckdeeds_k18_effects_put_together" 255 ++
 (qA 82 284 "_law_number" 14 90 1 3 ["_law_x"] "law_struckdeeds_k18_effects_put_together" 255 ++
 (qA 89 291 "_law_place" 15 92 1 3 ["_law_x"] "law_struckdeeds_k18_effects_put_together" 255 ++
 (qA 96 298 "_law_world" 16 94 3 3 ["_law_xs", "_law_at", "_law_names_here", "_law_found", "_law_k"] "law_struckdeeds_k18_effects_put_together" 255 ++
 (qA 103 309 "_law_pick" 17 100 2 3 ["_law_some", "_law_x"] "law_struckdeeds_k18_effects_put_together" 255 ++
 (qB 110 317 "_law_deed" 18 102 4 3 "law_struckdeeds_k18_effects_put_together" 255 ++
 (qA 115 323 "_law_wanted" 19 130 1 3 ["_law_deed_here"] "law_struckdeeds_k18_effects_put_together" 255 ++
 (qA 122 330 "_law_made" 20 136 1 3 ["_law_deed_here"] "law_struckdeeds_k18_effects_put_together" 255 ++
 (qB 129 337 "_law_can" 21 142 2 3 "law_struckdeeds_k18_effects_put_together" 255 ++
 (qA 134 343 "_law_step" 22 146 2 3 ["_law_there_here", "_law_deed_here", "_law_found", "_law_word", "_law_name"] "law_struckdeeds_k18_effects_put_together" 255 ++
 (qA 141 354 "_law_there" 23 167 1 3 ["_law_world_here", "_law_found", "_law_name", "_law_place_here", "_law_count"] "law_struckdeeds_k18_effects_put_together" 255 ++
 (qA 148 365 "_law_row" 24 172 5 3 ["_law_xs", "_law_at", "_law_size", "_law_names_here", "_law_there_here", "_law_row_here", "_law_k", "_law_deed_here"] "law_struckdeeds_k18_effects_put_together" 255 ++
 (qA 155 379 "_law_together" 25 180 2 3 ["_law_one", "_law_other"] "law_struckdeeds_k18_effects_put_together" 255 ++
 (qB 162 387 "_law_right" 26 184 1 3 "law_struckdeeds_k18_effects_put_together" 255 ++
 ([])))))))))))))))))))))))))
noncomputable abbrev hX3 (w:World) (os:OsState):PySem.W.SharedT:=⟨hT3 w.params,167,{ },⟨[]⟩,{ },393,os⟩
def hD4:Params->List DictEntry:=λP=>hD3 P++[eS P "law" 400 (.ref 173)]
noncomputable def hT4:Params->PySem.W.BT:=λP=>hI (hT3 P) ((3,(⟨.type "dict", none,.dict (hD4 P).toArray 34,#[]⟩:Obj)) :: (12,lF [(2,0,18),(5,0,25),(12,0,30),(26,0,37),(44,0,42),(48,0,49),(56,0,54),(58,0,61),(61,0,68),(65,0,75),(78,0,80),(90,0,87),(92,0,94),(94,0,101),(100,0,108),(102,0,113),(130,0,120),(136,0,127),(142,0,132),(146,0,139),(167,0,146),(172,0,153),(180,0,160),(184,0,165),(206,0,172)]) ::
 qA 167 393 "law" 27 206 1 3 ["_law_script", "_law_cell_here"] "law_struckdeeds_k18_effects_put_together" 255 ++
 ([]))
noncomputable abbrev hX4 (w:World) (os:OsState):PySem.W.SharedT:=⟨hT4 w.params,174,{ },⟨[]⟩,{ },401,os⟩
noncomputable abbrev hX5 (w:World) (os:OsState):PySem.W.SharedT:=⟨hT4 w.params,174,{ },⟨[]⟩,{ },401,os⟩
noncomputable def hg (P:Params) (a:Nat):Obj:=((hT4 P).get a).getD default
noncomputable def hK:Params->PySem.W.Frag:=λP=>
 (nat_lit 2,hg P 2) ::
 (nat_lit 3,hg P 3) ::
 (nat_lit 18,hg P 18) ::
 (nat_lit 19,fP "rising_by_names" B6 .none (vS "struckdeeds.worlds" 187) 18) ::
 (nat_lit 25,hg P 25) ::
 (nat_lit 26,fP "effect" IU .none (vS "struckdeeds.effects" 195) 25) ::
 (nat_lit 30,hg P 30) ::
 (nat_lit 31,fP "effect_behind" B1 .none (vS "struckdeeds.effects" 195) 30) ::
 (nat_lit 37,hg P 37) ::
 (nat_lit 38,fP "deed_effect" CS .none (vS "struckdeeds.effects" 195) 37) ::
 (nat_lit 42,hg P 42) ::
 (nat_lit 43,fP "clash" GL .none (vS "struckdeeds.effects" 195) 42) ::
 (nat_lit 49,hg P 49) ::
 (nat_lit 50,fP "told_at_first" BU .none (vS "struckdeeds.effects" 195) 49) ::
 (nat_lit 54,hg P 54) ::
 (nat_lit 55,fP "by_left_names" BE .none (vS "struckdeeds.effects" 195) 54) ::
 (nat_lit 61,hg P 61) ::
 (nat_lit 62,fP "rising" IT .none (vS "struckdeeds.effects" 195) 61) ::
 (nat_lit 68,hg P 68) ::
 (nat_lit 69,fP "_law_cell" EE .none (vS "law_struckdeeds_k18_effects_put_together" 255) 68) ::
 (nat_lit 75,hg P 75) ::
 (nat_lit 76,fP "_law_stirred" C9 .none (vS "law_struckdeeds_k18_effects_put_together" 255) 75) ::
 (nat_lit 80,hg P 80) ::
 (nat_lit 81,fP "_law_names" CA .none (vS "law_struckdeeds_k18_effects_put_together" 255) 80) ::
 (nat_lit 87,hg P 87) ::
 (nat_lit 88,fP "_law_number" CP .none (vS "law_struckdeeds_k18_effects_put_together" 255) 87) ::
 (nat_lit 94,hg P 94) ::
 (nat_lit 95,fP "_law_place" D8 .none (vS "law_struckdeeds_k18_effects_put_together" 255) 94) ::
 (nat_lit 101,hg P 101) ::
 (nat_lit 102,fP "_law_world" D9 .none (vS "law_struckdeeds_k18_effects_put_together" 255) 101) ::
 (nat_lit 108,hg P 108) ::
 (nat_lit 109,fP "_law_pick" EF .none (vS "law_struckdeeds_k18_effects_put_together" 255) 108) ::
 (nat_lit 113,hg P 113) ::
 (nat_lit 114,fP "_law_deed" BX .none (vS "law_struckdeeds_k18_effects_put_together" 255) 113) ::
 (nat_lit 120,hg P 120) ::
 (nat_lit 121,fP "_law_wanted" CQ .none (vS "law_struckdeeds_k18_effects_put_together" 255) 120) ::
 (nat_lit 127,hg P 127) ::
 (nat_lit 128,fP "_law_made" EG .none (vS "law_struckdeeds_k18_effects_put_together" 255) 127) ::
 (nat_lit 132,hg P 132) ::
 (nat_lit 133,fP "_law_can" DW .none (vS "law_struckdeeds_k18_effects_put_together" 255) 132) ::
 (nat_lit 139,hg P 139) ::
 (nat_lit 140,fP "_law_step" EH .none (vS "law_struckdeeds_k18_effects_put_together" 255) 139) ::
 (nat_lit 146,hg P 146) ::
 (nat_lit 147,fP "_law_there" DB .none (vS "law_struckdeeds_k18_effects_put_together" 255) 146) ::
 (nat_lit 153,hg P 153) ::
 (nat_lit 154,fP "_law_row" FG .none (vS "law_struckdeeds_k18_effects_put_together" 255) 153) ::
 (nat_lit 160,hg P 160) ::
 (nat_lit 161,fP "_law_together" BV .none (vS "law_struckdeeds_k18_effects_put_together" 255) 160) ::
 (nat_lit 165,hg P 165) ::
 (nat_lit 166,fP "_law_right" CB .none (vS "law_struckdeeds_k18_effects_put_together" 255) 165) ::
 (nat_lit 172,hg P 172) ::
 (nat_lit 173,fP "law" TU .none (vS "law_struckdeeds_k18_effects_put_together" 255) 172)::[]
def hA:List Addr:=[2,3,18,19,25,26,30,31,37,38,42,43,49,50,54,55,61,62,68,69,75,76,80,81,87,88,94,95,101,102,108,109,113,114,120,121,127,128,132,133,139,140,146,147,153,154,160,161,165,166,172,173]
theorem hE:∀P,hA=(hK P).map (·.1):=λ_=>by kernel_rfl
theorem hp1 (w:World):(λos=>PySem.W.topGo treeTable PySem.Challenge.pw_struckdeeds_k18_effects_put_together w 11 (a3W (a0X 6)) 12 ⟨a2J w.params,⟨[]⟩,b0Q,b0V,os⟩ (PySem.W.topStub PySem.Challenge.pw_struckdeeds_k18_effects_put_together))=λos=>some ((hX1 w os).abs,⟨denote treeTable hC,hC,{ line:=0,col:=0,endLine:=0,endCol:=0 },hF⟩):=by kernel_rfl
theorem hp2 (w:World):(λos=>PySem.W.segRunT treeTable PySem.Challenge.pw_struckdeeds_k18_effects_put_together w 11 (a3W (a0X 6)) 1 1 (hX1 w os) (PySem.W.blockOf hB hN hC { line:=0,col:=0,endLine:=0,endCol:=0 } hF))=λos=>some (.next,hX2 w os,hC,{ line:=0,col:=0,endLine:=0,endCol:=0 }):=by kernel_rfl
def hQ3:List Stmt:=(hB.drop 0).take 27
theorem hp3 (w:World):(λos=>PySem.W.segRunT treeTable PySem.Challenge.pw_struckdeeds_k18_effects_put_together w 11 (a3W (a0X 6)) 1 740 (hX2 w os) (PySem.W.piecesOf hQ3 hN hC { line:=0,col:=0,endLine:=0,endCol:=0 } hF))=λos=>some (.next,hX3 w os,hC,{ line:=184,col:=0,endLine:=205,endCol:=130 }):=by kernel_rfl
def hQ4:List Stmt:=(hB.drop 27).take 1
theorem hp4 (w:World):(λos=>PySem.W.segRunT treeTable PySem.Challenge.pw_struckdeeds_k18_effects_put_together w 11 (a3W (a0X 6)) 1 31 (hX3 w os) (PySem.W.piecesOf hQ4 hN hC { line:=184,col:=0,endLine:=205,endCol:=130 } hF))=λos=>some (.next,hX4 w os,hC,{ line:=206,col:=0,endLine:=210,endCol:=15 }):=by kernel_rfl
theorem hp5 (w:World):(λos=>a7Z treeTable PySem.Challenge.pw_struckdeeds_k18_effects_put_together w 11 (a3W (a0X 6)) 2 (hX4 w os).abs (PySem.W.restOf [] hN hC { line:=206,col:=0,endLine:=210,endCol:=15 } hF))=λos=>some (hX5 w os).abs:=by kernel_rfl
theorem hR1:hB=(hQ3++(hQ4++[])):=by kernel_rfl
theorem hr5 (w:World) (os:OsState):a7Z treeTable PySem.Challenge.pw_struckdeeds_k18_effects_put_together w 11 (a3W (a0X 6)) 2 (hX4 w os).abs (PySem.W.restOf [] hN hC { line:=206,col:=0,endLine:=210,endCol:=15 } hF)=some (hX5 w os).abs:=congrFun (hp5 w) os
theorem hr4 (w:World) (os:OsState):a7Z treeTable PySem.Challenge.pw_struckdeeds_k18_effects_put_together w 11 (a3W (a0X 6)) (31+2) (hX3 w os).abs (PySem.W.restOf (hQ4++[]) hN hC { line:=184,col:=0,endLine:=205,endCol:=130 } hF)=some (hX5 w os).abs:=PySem.W.piece_app (n:=31) (N:=2) (s:=(hX3 w os).abs) (s':=(hX4 w os).abs) (r:=(hX5 w os).abs) (l:=hQ4) (rest:=[]) (c:=hC) (pos:={ line:=184,col:=0,endLine:=205,endCol:=130 }) (p':={ line:=206,col:=0,endLine:=210,endCol:=15 }) (env:=hN) (q:={ line:=0,col:=0,endLine:=0,endCol:=0 }) (PySem.W.segRun_of (congrFun (hp4 w) os)) (hr5 w os)
theorem hr3 (w:World) (os:OsState):a7Z treeTable PySem.Challenge.pw_struckdeeds_k18_effects_put_together w 11 (a3W (a0X 6)) (740+(31+2)) (hX2 w os).abs (PySem.W.restOf (hQ3++(hQ4++[])) hN hC { line:=0,col:=0,endLine:=0,endCol:=0 } hF)=some (hX5 w os).abs:=PySem.W.piece_app (n:=740) (N:=(31+2)) (s:=(hX2 w os).abs) (s':=(hX3 w os).abs) (r:=(hX5 w os).abs) (l:=hQ3) (rest:=(hQ4++[])) (c:=hC) (pos:={ line:=0,col:=0,endLine:=0,endCol:=0 }) (p':={ line:=184,col:=0,endLine:=205,endCol:=130 }) (env:=hN) (q:={ line:=0,col:=0,endLine:=0,endCol:=0 }) (PySem.W.segRun_of (congrFun (hp3 w) os)) (hr4 w os)
theorem hr2 (w:World) (os:OsState):a7Z treeTable PySem.Challenge.pw_struckdeeds_k18_effects_put_together w 11 (a3W (a0X 6)) (1+(740+(31+2))) (hX1 w os).abs ⟨denote treeTable hC,hC,{ line:=0,col:=0,endLine:=0,endCol:=0 },hF⟩=some (hX5 w os).abs:=PySem.W.piece_block (n:=1) (N:=(740+(31+2))) (s:=(hX1 w os).abs) (s':=(hX2 w os).abs) (r:=(hX5 w os).abs) (b:=hB) (env:=hN) (c:=hC) (pos:={ line:=0,col:=0,endLine:=0,endCol:=0 }) (p':={ line:=0,col:=0,endLine:=0,endCol:=0 }) (q:={ line:=0,col:=0,endLine:=0,endCol:=0 }) (PySem.W.segRun_of (congrFun (hp2 w) os)) (by rw[hR1];exact hr3 w os)
noncomputable def hH:Params->Heap:=λP=>PySem.W.absHeap (hT4 P) 174 { }
theorem hr1 (w:World) (os:OsState):a7Z treeTable PySem.Challenge.pw_struckdeeds_k18_effects_put_together w 11 (a3W (a0X 6)) (12+(1+(740+(31+2)))) ⟨a2J w.params,⟨[]⟩,b0Q,b0V,os⟩ (PySem.W.topStub PySem.Challenge.pw_struckdeeds_k18_effects_put_together)=some (hX5 w os).abs:=PySem.W.go_top (n:=12) (N:=(1+(740+(31+2)))) (s':=(hX1 w os).abs) (t':=⟨denote treeTable hC,hC,{ line:=0,col:=0,endLine:=0,endCol:=0 },hF⟩) (congrFun (hp1 w) os) (hr2 w os)
theorem hR (w:World) (os:OsState):a7Z treeTable PySem.Challenge.pw_struckdeeds_k18_effects_put_together w 11 (a3W (a0X 6)) (12+(1+(740+(31+2)))) ⟨a2J w.params,⟨[]⟩,b0Q,b0V,os⟩ (PySem.W.topStub PySem.Challenge.pw_struckdeeds_k18_effects_put_together)=some ⟨hH w.params,⟨[]⟩,{ },401,os⟩:=(hr1 w os).trans (by kernel_rfl)
theorem hZ (w:World):(λos=>((PySem.W.staticsOk (PySem.importedModules PySem.Challenge.pw_struckdeeds_k18_effects_put_together.main.body) (a2J w.params) (hH w.params)&&PySem.W.namesBound PySem.Challenge.pw_struckdeeds_k18_effects_put_together (hH w.params)&&PySem.W.gensDone ⟨hH w.params,⟨[]⟩,{ },401,os⟩&&PySem.W.laidKept (a2J w.params) (hH w.params)),PySem.W.openSeen hV [] (PySem.importedModules PySem.Challenge.pw_struckdeeds_k18_effects_put_together.main.body) (λs=>PySem.W.xlAt hV [] s&&PySem.W.recOk (a9Q (a7K (a9X PySem.Challenge.rw_struckdeeds_k18_effects_put_together))) s) true ⟨hH w.params,⟨[]⟩,{ },401,os⟩,b0K (a3Z hK hA hE) ⟨hH w.params,⟨[]⟩,{ },401,os⟩))=λ_=>(true,PySem.W.openGood hV [],b0J (a3Z hK hA hE) w):=by kernel_rfl
theorem hO:PySem.W.opening PySem.Challenge.pw_struckdeeds_k18_effects_put_together=PySem.W.plainProg PySem.Challenge.pw_struckdeeds_k18_effects_put_together.main.scope.names:=by kernel_rfl
theorem hG (w:World):((a2J w.params).isNs mainGlobals&&(⟨[]⟩:Array GenState).size==0,(a2J w.params).objs.size,(a2J w.params).nsMap mainGlobals (a0Q "__annotations__"))=(true,11,a3W (a0X 6)):=by kernel_rfl
theorem hJ (s:Shared):PySem.fenceModules? PySem.Challenge.pw_struckdeeds_k18_effects_put_together s=some s:=by kernel_rfl
theorem hL:PySem.W.LeftO PySem.Challenge.pw_struckdeeds_k18_effects_put_together hV [] (λs=>PySem.W.xlAt hV [] s&&PySem.W.recOk (a9Q (a7K (a9X PySem.Challenge.rw_struckdeeds_k18_effects_put_together))) s) (b0K (a3Z hK hA hE)) (b0J (a3Z hK hA hE)) 1664:=
 @PySem.W.LeftO.of_pieces PySem.Challenge.pw_struckdeeds_k18_effects_put_together hV [] (λs=>PySem.W.xlAt hV [] s&&PySem.W.recOk (a9Q (a7K (a9X PySem.Challenge.rw_struckdeeds_k18_effects_put_together))) s) _ (b0K (a3Z hK hA hE)) (b0J (a3Z hK hA hE)) 1664 true a2J hH ⟨[]⟩ ⟨[]⟩ b0Q { } b0V 401 11 (a3W (a0X 6)) (12+(1+(740+(31+2)))) (PySem.W.boot_open hO (by decide) hJ) hG hR (by decide) hZ
theorem hS:PySem.W.OpenLaw.wellSaid PySem.Challenge.rw_struckdeeds_k18_effects_put_together=true:=by kernel_rfl
set_option hygiene false
local macro_rules | `(tactic| walk_at "lc")=>`(tactic| first | exact Or.inl rfl | exact Or.inr rfl | exact Or.inr (Or.inl rfl) | exact Or.inr (Or.inr rfl))
local macro_rules | `(tactic| walk_at "or")=>`(tactic| first | exact .inl rfl | exact .inr rfl | assumption)
local macro_rules | `(tactic| walk_at "q")=>`(tactic| first | ((with_reducible show PSs _ [] _);exact @Y7 _) | ((with_reducible show PSs _ [_] _);exact @SM _ _ _ (by walk_at "s")) | ((with_reducible show PSs _ (_::_) _);exact @PD _ _ _ _ _ (by walk_at "s") (by walk_at "q")))
local macro_rules | `(tactic| walk_at "s")=>`(tactic| first | ((with_reducible show PS _ (.Assign [.Name ..] (.DictComp ..) _) _);exact @Y1 _ _ _ _ _ _ _ _ _ _ _ _ _ _ _ _ _ _ _ rfl cu (by assumption) (LC (by rfl)) (by walk_at "lc") (by walk_at "cs") (by walk_at "n") (λC s' H' jN gz=>⟨(by walk_at "g"),(by walk_at "u"),(by walk_at "e"),(by walk_at "e")⟩) rfl (by walk_at "or") (by intro _;rfl)) | ((with_reducible show PS _ (.Assign [.Name ..] (.ListComp ..) _) _);exact @YW _ _ _ _ _ _ _ _ _ _ _ _ _ _ _ _ _ rfl (by assumption) (LC (by rfl)) (by walk_at "lc") (by walk_at "cs") (by walk_at "n") (λC s' H' jN gz=>⟨(by walk_at "g"),(by walk_at "u"),(by walk_at "e")⟩) rfl (by walk_at "or") (by intro _;rfl)) | ((with_reducible show PS _ (.Assign [.Name ..] ..) _);exact @bU _ _ _ _ _ _ _ (by assumption) (LC (by rfl)) (by walk_at "lc") (by walk_at "e") (by rfl) (by walk_at "or")) | ((with_reducible show PS _ (.If ..) _);first | walk_at "z" | exact @fL _ _ _ _ _ _ _ _ (by walk_at "t") (by walk_at "q") (by walk_at "q")) | ((with_reducible show PS _ (.Return (some _) _) _);exact @bR _ _ _ _ (by walk_at "e")) | ((with_reducible show PS _ (.For ..) _);exact @bX _ _ _ _ _ _ _ _ PassesOwn.never rfl (by walk_at "n") (by walk_at "g") (by walk_at "q") (by intro _;rfl)) | ((with_reducible show PS _ (.Expr ..) _);exact @Y8 _ _ _ _ (by walk_at "e") (by rfl)) | walk_at "x")
local macro_rules | `(tactic| walk_at "e")=>`(tactic| first | ((with_reducible show PE _ (.Name ..) _);first | exact @pvx _ _ _ _ (by rfl) (by walk_at "lc") (by decide) (by decide) | exact @F8 _ _ (.ty "int") _ _ (by rfl) (by assumption) PyProof.Rows.boot_int rfl (by decide) (by decide) | exact @F8 _ _ (.ty "str") _ _ (by rfl) (by assumption) PyProof.Rows.boot_str rfl (by decide) (by decide) | exact @F8 _ _ (.ty "bool") _ _ (by rfl) (by assumption) PyProof.Rows.boot_bool rfl (by decide) (by decide) | exact @F8 _ _ (.ty "list") _ _ (by rfl) (by assumption) PyProof.Rows.boot_list rfl (by decide) (by decide) | exact @F8 _ _ (.ty "tuple") _ _ (by rfl) (by assumption) PyProof.Rows.boot_tuple rfl (by decide) (by decide) | exact @F8 _ _ (.ty "dict") _ _ (by rfl) (by assumption) PyProof.Rows.boot_dict rfl (by decide) (by decide) | exact @F8 _ _ (.ty "ValueError") _ _ (by rfl) (by assumption) PyProof.Rows.boot_ValueError rfl (by decide) (by decide)) | ((with_reducible show PE _ (.ListComp ..) _);exact @YV _ _ _ _ _ _ _ _ _ _ _ _ _ rfl (by walk_at "cs") (by walk_at "n") (λC s' H' jN gz=>⟨(by walk_at "g"),(by walk_at "u"),(by walk_at "e")⟩) (by intro _;rfl)) | ((with_reducible show PE _ (.DictComp ..) _);exact @WX _ _ _ _ _ _ _ _ _ _ _ _ _ _ _ rfl cu (by walk_at "cs") (by walk_at "n") (λC s' H' jN gz=>⟨(by walk_at "g"),(by walk_at "u"),(by walk_at "e"),(by walk_at "e")⟩) (by intro _;rfl)) | ((with_reducible show PE _ (.Constant ..) _);first | ((with_reducible show PE _ (.Constant (.int _) ..) _);exact @bI _ _ _ _) | ((with_reducible show PE _ (.Constant (.str _) ..) _);exact @bK _ _ _ _) | ((with_reducible show PE _ (.Constant (.bool _) ..) _);exact @fE _ _ _ _) | ((with_reducible show PE _ (.Constant .none ..) _);exact @bJ _ _ _)) | ((with_reducible show PE _ (.Call ..) _);first | walk_at "y" | ((with_reducible show PE _ (.Call (.Name (a0Q "len") _) ..) _);exact @EN _ _ _ _ _ _ _ _ _ (@iD _ K rfl) (by rfl) (by assumption) PySem.boot_len (by walk_at "a") (by decide) (by decide) (by rfl) (by rfl)) | ((with_reducible show PE _ (.Call (.Name (a0Q "isinstance") _) ..) _);exact @EN _ _ _ _ _ _ _ _ _ (@iG _ K rfl) (by rfl) (by assumption) PyProof.Rows.boot_isinstance (by walk_at "a") (by decide) (by decide) (by rfl) (by rfl)) | ((with_reducible show PE _ (.Call (.Name (a0Q "all") _) ..) _);exact @EN _ _ _ _ _ _ _ _ _ (@iE _ K rfl rfl) (by rfl) (by assumption) PyProof.Rows.boot_all (by walk_at "a") (by decide) (by decide) (by rfl) (by rfl)) | ((with_reducible show PE _ (.Call (.Name (a0Q "any") _) ..) _);exact @EN _ _ _ _ _ _ _ _ _ (@iF _ K rfl rfl) (by rfl) (by assumption) PyProof.Rows.boot_any (by walk_at "a") (by decide) (by decide) (by rfl) (by rfl)) | ((with_reducible show PE _ (.Call (.Name (a0Q "sorted") _) ..) _);exact @EN _ _ _ _ _ _ _ _ _ (@eG _ K rfl rfl) (by rfl) (by assumption) PyProof.Rows.boot_sorted (by walk_at "a") (by decide) (by decide) (by rfl) (by rfl)) | ((with_reducible show PE _ (.Call (.Name (a0Q "tuple") _) ..) _);exact @MX _ _ _ _ _ _ _ _ _ (@dX _ K rfl) (by rfl) (by assumption) PyProof.Rows.boot_tuple (by walk_at "a") (by decide) (by decide) (by rfl) (by rfl)) | ((with_reducible show PE _ (.Call (.Name ..) ..) _);exact @gX _ K P w mg base _ _ _ _ _ _ _ _ _ rfl rfl rfl rfl rfl (by with_reducible assumption) (hr.mono (by decide)) rfl (by walk_at "a") (by decide) (by rfl) (by rfl)) | ((with_reducible show PE _ (.Call (.Attribute _ (a0Q "append") _) ..) _);exact @kBm _ K _ _ _ _ _ _ _ _ _ _ _ rfl PySem.F.plainAttrs_list PySem.F.slot_list_append PySem.F.type_list_append (@WN _) (by walk_at "e") (by walk_at "a") (by rfl) (by rfl) (by rfl) (by rfl) (by rfl)) | walk_at "x") | ((with_reducible show PE _ (.BinOp ..) _);first | ((with_reducible show PE _ (.BinOp _ .Add ..) _);exact @GN _ _ _ _ _ _ _ _ (@gY _ K rfl) (by walk_at "e") (by walk_at "e")) | ((with_reducible show PE _ (.BinOp _ .Sub ..) _);exact @GN _ _ _ _ _ _ _ _ (@c7 _) (by walk_at "e") (by walk_at "e")) | ((with_reducible show PE _ (.BinOp _ .Mod ..) _);exact @GN _ _ _ _ _ _ _ _ (@c8 _) (by walk_at "e") (by walk_at "e")) | ((with_reducible show PE _ (.BinOp _ .FloorDiv ..) _);exact @GN _ _ _ _ _ _ _ _ (@VT _) (by walk_at "e") (by walk_at "e")) | ((with_reducible show PE _ (.BinOp _ .Pow ..) _);exact @GN _ _ _ _ _ _ _ _ (@c9 _) (by walk_at "e") (by walk_at "e")) | ((with_reducible show PE _ (.BinOp _ .LShift ..) _);exact @GN _ _ _ _ _ _ _ _ (@cA _) (by walk_at "e") (by walk_at "e"))) | ((with_reducible show PE _ (.Compare ..) _);first | walk_at "y" | ((with_reducible show PE _ (.Compare _ [.Eq] ..) _);exact @G5 _ _ _ _ _ _ _ _ (@kEq _ K rfl hu) (by walk_at "e") (by walk_at "e") (@CZ _ _ (by decide) (by decide))) | ((with_reducible show PE _ (.Compare _ [.NotEq] ..) _);exact @G5 _ _ _ _ _ _ _ _ (@kNe _ K rfl hu) (by walk_at "e") (by walk_at "e") (@CZ _ _ (by decide) (by decide))) | ((with_reducible show PE _ (.Compare _ [.Lt] ..) _);exact @G5 _ _ _ _ _ _ _ _ (@W1 _) (by walk_at "e") (by walk_at "e") (@CZ _ _ (by decide) (by decide))) | ((with_reducible show PE _ (.Compare _ [.Is] ..) _);exact @G5 _ _ _ _ _ _ _ _ (@WT _) (by walk_at "e") (by walk_at "e") (@CZ _ _ (by decide) (by decide))) | ((with_reducible show PE _ (.Compare _ [.Gt] ..) _);exact @G5 _ _ _ _ _ _ _ _ (@aM _) (by walk_at "e") (by walk_at "e") (@CZ _ _ (by decide) (by decide))) | ((with_reducible show PE _ (.Compare _ [.GtE] ..) _);exact @G5 _ _ _ _ _ _ _ _ (@aN _) (by walk_at "e") (by walk_at "e") (@CZ _ _ (by decide) (by decide)))) | ((with_reducible show PE _ (.Subscript ..) _);first | ((with_reducible show PE _ (.Subscript _ (.Slice _ _ none _) _) _);exact @VG _ _ _ _ _ _ _ _ _ _ (@iH _ K rfl) (by walk_at "e") (by walk_at "o") (by walk_at "o")) | walk_at "y" | exact @g0 _ _ _ _ _ _ _ (@kIx _ K rfl) (by walk_at "e") (by walk_at "e") (λ_ _=>rfl)) | ((with_reducible show PE _ (.Tuple ..) _);exact @cH _ _ _ _ _ (by walk_at "a")) | ((with_reducible show PE _ (.List ..) _);exact @cI _ _ _ _ (by walk_at "a")) | ((with_reducible show PE _ (.BoolOp ..) _);first | ((with_reducible show PE _ (.BoolOp _ [_] _) _);exact @bO _ _ _ _ _ (by walk_at "e")) | ((with_reducible show PE _ (.BoolOp .Or ..) _);exact @fI _ _ _ _ _ _ _ (by walk_at "e") (by walk_at "e"))) | ((with_reducible show PE _ (.UnaryOp ..) _);first | ((with_reducible show PE _ (.UnaryOp .Not ..) _);exact @bP _ _ _ _ (by walk_at "e")) | exact @fT _ _ _ _ _ _ (@cB _) (by walk_at "e")) | walk_at "x")
local macro_rules | `(tactic| walk_at "t")=>`(tactic| first | ((with_reducible show PT _ (.Compare ..) _);first | walk_at "y" | ((with_reducible show PT _ (.Compare _ [.Eq] ..) _);exact @D5 _ _ _ _ _ _ _ _ (@kEq _ K rfl hu) (by walk_at "e") (by walk_at "e") (@CZ _ _ (by decide) (by decide))) | ((with_reducible show PT _ (.Compare _ [.NotEq] ..) _);exact @D5 _ _ _ _ _ _ _ _ (@kNe _ K rfl hu) (by walk_at "e") (by walk_at "e") (@CZ _ _ (by decide) (by decide))) | ((with_reducible show PT _ (.Compare _ [.Lt] ..) _);exact @D5 _ _ _ _ _ _ _ _ (@W1 _) (by walk_at "e") (by walk_at "e") (@CZ _ _ (by decide) (by decide))) | ((with_reducible show PT _ (.Compare _ [.Is] ..) _);exact @D5 _ _ _ _ _ _ _ _ (@WT _) (by walk_at "e") (by walk_at "e") (@CZ _ _ (by decide) (by decide))) | ((with_reducible show PT _ (.Compare _ [.Gt] ..) _);exact @D5 _ _ _ _ _ _ _ _ (@aM _) (by walk_at "e") (by walk_at "e") (@CZ _ _ (by decide) (by decide))) | ((with_reducible show PT _ (.Compare _ [.GtE] ..) _);exact @D5 _ _ _ _ _ _ _ _ (@aN _) (by walk_at "e") (by walk_at "e") (@CZ _ _ (by decide) (by decide))) | walk_at "x") | ((with_reducible show PT _ (.BoolOp ..) _);exact @L2.PW.pt _ _ _ (by walk_at "w")) | ((with_reducible show PT _ (.UnaryOp .Not ..) _);exact @bN _ _ _ _ (by walk_at "t")) | exact @bM _ _ _ (by walk_at "e") (by intro _;rfl))
local macro_rules | `(tactic| walk_at "w")=>`(tactic| first | ((with_reducible show PW _ (.BoolOp .Or ..) _);first | ((with_reducible show PW _ (.BoolOp _ [_] _) _);exact @pw_or1 _ _ _ _ (by walk_at "t")) | exact @pw_or _ _ _ _ _ _ _ (by walk_at "t") (by walk_at "w")) | ((with_reducible show PW _ (.BoolOp _ [_] _) _);exact @pw_and1 _ _ _ _ (by walk_at "t")) | exact @pw_and _ _ _ _ _ _ _ (by walk_at "t") (by walk_at "w"))
local macro_rules | `(tactic| walk_at "a")=>`(tactic| first | ((with_reducible show PA _ [] _);exact @cF _) | exact @YC _ _ _ _ _ (by walk_at "e") (by walk_at "a") (by rfl))
local macro_rules | `(tactic| walk_at "o")=>`(tactic| first | ((with_reducible show PO _ none _);exact @YE _) | exact @YF _ _ _ (by walk_at "e"))
local macro_rules | `(tactic| walk_at "u")=>`(tactic| first | ((with_reducible show PTs _ [] _);exact @YT _) | exact @YU _ _ _ (by walk_at "t"))
local macro_rules | `(tactic| walk_at "n")=>`(tactic| first | ((with_reducible show PI _ _ (.Call ..) _);first | ((with_reducible show PI _ _ (.Call (.Name (a0Q "range") _) [_] ..) _);exact @U1 _ _ _ _ _ _ rfl (by assumption) (by walk_at "a") (by rfl)) | walk_at "x") | walk_at "y" | exact @gW _ K _ _ _ rfl (by walk_at "e"))
local macro_rules | `(tactic| walk_at "g")=>`(tactic| first | ((with_reducible show PG _ (.Name ..) _);exact @NS _ _ _ _ (by assumption) (LC (by rfl)) (by walk_at "lc") (by walk_at "or")) | walk_at "x")
local macro_rules | `(tactic| walk_at "j")=>`(tactic| first | ((with_reducible show PGs _ [] _);exact @Y9 _) | exact @VB _ _ _ _ _ (by walk_at "g") (by walk_at "j") (by rfl))
local macro_rules | `(tactic| walk_at "b1")=>`(tactic| exact @SM _ _ _ (by walk_at "s"))
local macro_rules | `(tactic| walk_at "b2")=>`(tactic| exact @PD _ _ _ _ _ (by walk_at "s") (by walk_at "q"))
local macro_rules | `(tactic| walk_at "dl")=>`(tactic| first
 | (with_reducible first | refine VX ?_ | refine dx_seq ?_ | refine VW ?_ | refine T0 ?_ | refine VU ?_ | refine gN ?_ | refine SZ ?_ | refine SY ?_ | refine ds_setitem ?_ | refine X3 ?_ | refine dx_if ?_ | refine dx_raise1 ?_ | refine dx_raise0 ?_ | refine dx_drop (dex_call ?_) | refine dx_set (dex_call ?_) | refine dx_ret (dex_call ?_) | refine dx_lift (VW ?_) | refine dx_lift (T0 ?_) | refine dx_lift (VU ?_) | refine dx_lift (SZ ?_) | refine dx_lift (SY ?_) | refine dx_lift (ds_setitem ?_) | refine dx_lift (X3 ?_))
 | ((with_reducible apply d5);exact rfl)
 | (with_reducible first | refine d6 ?_ | refine gF ?_ | refine d7 ?_ | refine d8 ?_ | refine gG ?_ | refine gH ?_ | refine gI ?_ | refine de_chain ?_ | refine YZ ?_ | refine iB ?_ | refine d9 ?_ | refine gJ ?_ | refine dA ?_ | refine dB ?_ | refine de_and ?_ | refine gK ?_ | refine dC ?_ | refine de_if ?_ | refine dD ?_ | refine Z0 ?_ | refine gL ?_ | refine dE ?_ | refine gM ?_ | refine Z3 ?_ | refine Z4 ?_ | refine ZB ?_ | refine WF ?_ | refine ZI ?_)
 | ((with_reducible refine dZ ?_ ?_);exact rfl)
 | ((with_reducible refine dg_tupA ?_ ?_);exact rfl)
 | (with_reducible first | refine gR ?_ | refine gS ?_ | refine iC ?_ | refine WH ?_ | refine ZG ?_)
 | ((with_reducible refine T1 ?_ ?_);(first
     | ((with_reducible show CMul _ _);first | exact WK (by decide) (by decide) | exact OC (by decide) (by decide) | exact OC (by lia) (by lia))
     | ((with_reducible show aV _ _);first | exact⟨by decide,by decide⟩ | exact⟨by assumption,by assumption⟩)
     | ((with_reducible show c5 _ _);exact⟨by decide,by decide,by decide⟩)
     | (show(0:Int) < _;first | decide | assumption | lia)))
 | ((with_reducible apply d2A_ixo);(first | assumption | exact zU);exact rfl)
 | ((with_reducible apply setq);(first | assumption | exact zU);exact rfl)
 | ((with_reducible refine WQ ?_ ?_);(first | exact CMul.ok (WK (by decide) (by decide)) | exact CMul.ok (OC (by decide) (by decide))))
 | (with_reducible first | refine d2_isB ?_ | refine d2_notB ?_ | refine rd_max ?_ | refine rd_min ?_ | refine rd_intb ?_ | refine dgs_item ?_ | refine rd_abs ?_)
 | ((with_reducible refine WB (b:=true) ?_ ?_);exact rfl)
 | ((with_reducible refine WB (b:=false) ?_ ?_);exact rfl)
 | with_reducible refine Z2 ?_
 | ((with_reducible apply iI);exact rfl;exact Nat.le_of_ble_eq_true rfl)
 | (with_reducible refine Exists.intro _ (And.intro rfl ?_))
 | (with_reducible refine L2.YQ ?_)
 | (with_reducible refine L2.YO ?_)
 | (refine L2.YQ ?_)
 | (refine L2.YO ?_))
local macro_rules | `(tactic| walk_at "r")=>`(tactic| repeat walk_at "dl")
local macro_rules | `(tactic| walk_at "wkd")=>`(tactic| repeat (first | walk_at "dl" | refine EI ?_ | refine de_dnew ?_))
local macro_rules | `(tactic| walk_at "wks")=>`(tactic| repeat ((fail_if_success (with_reducible show DSt _ _ _ _ _));(first | walk_at "dl" | refine EI ?_ | refine de_dnew ?_)))
section
variable {P:Program}{w:World}{K:Frg}{mg:Str->Option Value}{base:Heap}
def OZ:List Str:=["_law_script", "_law_k"]
theorem IV:FnScope OZ ["_law_script", "_law_k"] (AD EE):=⟨rfl,rfl,rfl,by decide +kernel,rfl,by decide +kernel,by decide +kernel⟩
theorem P0 {f:Addr}{fd:FuncData}(F:Fun K "_law_cell" "_law_cell" EE f fd) (cg:mg "len"=none):FnOk P w K mg base CX0 1 f fd ["_law_script", "_law_k"] (spD K 2 II):=by
 refine fnD F IV λcdv A outer s H E hr=>?_;have hu:=hr.units;have nd:=IV.nd;refine⟨_,by walk_at "b2", ?_⟩;clear nd;rintro xs M hl ⟨ns,k,rfl⟩;walk_at "r";refine HY ?_;walk_at "r";rw[zX];cases hk:decide ((k:Int) < (ns.length:Int)) with
 | true=>
   have j2:k < ns.length:=by have:=of_decide_eq_true hk;lia
   walk_at "r";refine AI (d:=.int ns[k]) (AA (by rw[zF,zV j2];rfl)) ?_;exact⟨M,zT M,rfl,_,rfl⟩
 | false=> walk_at "r";exact⟨M,zT M,rfl,_,rfl⟩
def K5:List Str:=["_law_cell_here", "_law_size", "_law_one", "_law_other", "_law_found", "_law_k", "_law_number_here"]
theorem FJ:FnScope K5 ["_law_cell_here", "_law_size"] (AD C9):=⟨rfl,rfl,rfl,by decide +kernel,rfl,by decide +kernel,by decide +kernel⟩
section
local macro_rules | `(tactic| walk_at "x")=>`(tactic| first | ((with_reducible show PE _ (.BinOp _ .Mult ..) _);exact @GN _ _ _ _ _ _ _ _ (@ZP _ K rfl) (by walk_at "e") (by walk_at "e")))
theorem K6 {f:Addr}{fd:FuncData}(F:Fun K "_law_stirred" "_law_stirred" C9 f fd) (aw:mg "range"=none):FnOk P w K mg base CX0 1 f fd ["_law_cell_here", "_law_size"] (spD K 2 EB):=by
 refine fnD F FJ λcdv A outer s H E hr=>?_;have hu:=hr.units;have nd:=FJ.nd;refine⟨_,by walk_at "b2", ?_⟩;clear nd;rintro xs M hl ⟨c,n,rfl,hn⟩;walk_at "r";refine KA ?_;walk_at "r";intro A hA;walk_at "r";refine DD ?_;refine HW ?_;walk_at "r";refine⟨by lia,by lia,?_⟩;refine⟨λk ρ1 M1=>∃(c' a b:Int) (acc:List Int) (x5 x6:Option DS),acc.length=k/\okX acc/\0<=a/\a < 2147483629/\0<=b/\b < 2147483549/\M1=M.put A (.l (acc.map .int))/\ρ1=[some (.d (.int c')),some (.d (.int n)),some (.d (.int a)),some (.d (.int b)),some (.loc A),x5,x6],⟨c,_,_,[],_,_,rfl,(λx hx=>nomatch hx),(by lia:0<=c % 2147483579+13),by lia,(by lia:0<=c/1013 % 1999999871+31),by lia,rfl,rfl⟩,?_,?_⟩
 . rintro k d ρ1 M1 hd ⟨c',a,b,acc,x5,x6,hk,hok,a0,a1,b0,b1,rfl,rfl⟩;obtain⟨jC,rfl⟩:=IG hd;walk_at "r";refine WQ (CMul.ok (OC (by lia) (by lia))) ?_;walk_at "r";generalize ea:(a*48271+b+43*(k:Int)) % 2147483629=a2;have lW:0<=a2:=by lia
   have lX:a2 < 2147483629:=by lia
   generalize eb:(b*39373+7*a2+(k:Int)*(k:Int)) % 2147483549=b2;have jD:0<=b2:=by rw[<-eb];exact a4X _ (by decide)
   have jE:b2 < 2147483549:=by rw[<-eb];exact a6J _ (by decide)
   cases hc:decide ((10:Int) ^ Int.toNat 18<=c') with
   | true=>
     walk_at "r";refine KY ?_;walk_at "dl";refine⟨G9 (ds:=acc.map .int) zU,?_⟩;walk_at "r";refine DC (ds:=acc.map .int) zU (by rw[zX];exact zP (show _ < 201 by lia) (by decide)) ?_;rw[yI,show(10:Int) ^ Int.toNat 9=1000000000 by decide];refine⟨_,a2,b2,acc++[c' % 1000000000],_,_,by rw[yY,hk];rfl,λv hv=>?_,lW,lX,jD,jE,by rw[xJ];rfl,rfl⟩;rcases yW.mp hv with h | h;. exact hok v h
     . rw[List.mem_singleton.mp h];lia
   | false=>
     walk_at "r";refine KY ?_;walk_at "dl";refine⟨G9 (ds:=acc.map .int) zU,?_⟩;walk_at "r";refine DC (ds:=acc.map .int) zU (by rw[zX];exact zP (show _ < 201 by lia) (by decide)) ?_;rw[yI];refine⟨_,a2,b2,acc++[(a2+13*b2) % 999999883],_,_,by rw[yY,hk];rfl,λv hv=>?_,lW,lX,jD,jE,by rw[xJ];rfl,rfl⟩;rcases yW.mp hv with h | h;. exact hok v h
     . rw[List.mem_singleton.mp h];lia
 . rintro ρ1 M1 ⟨c',a,b,acc,x5,x6,hk,hok,a0,a1,b0,b1,rfl,rfl⟩;rw[IH] at hk;refine G7 (i:=4) (a:=A) rfl zU ?_;rw[yG hA];walk_at "r";refine⟨M,zT M,λc2 n2 e=>⟨rfl,acc,rfl,?_,hok⟩⟩;simp only[List.cons.injEq,DS.d.injEq,PyData.int.injEq,and_true] at e;lia
end
def GV:List Str:=["_law_xs", "_law_at", "_law_size", "_law_letters", "_law_word", "_law_x", "_law_found", "_law_k", "_law_name", "_law_first"]
def FK:List Str:=["_law_k", "_law_letters", "_law_xs", "_law_at"]
def FL:List (Option Nat):=[none,some 3,some 0,some 1]
theorem K7:FK.Nodup:=by decide +kernel
theorem GW:FnScope GV ["_law_xs", "_law_at", "_law_size"] (AD CA):=⟨rfl,rfl,rfl,by decide +kernel,rfl,by decide +kernel,by decide +kernel⟩
section
local macro_rules | `(tactic| walk_at "cs")=>`(tactic| first | exact @LD _ _ FK FL (AD CA) GV (by decide +kernel) (by decide +kernel) rfl rfl)
local macro_rules | `(tactic| walk_at "x")=>`(tactic| first | ((with_reducible show PE _ (.Call (.Attribute _ (a0Q "join") _) ..) _);exact @kBm _ K _ _ _ _ _ _ _ _ _ _ _ rfl PySem.F.plainAttrs_str PySem.F.slot_str_join PySem.F.type_str_join (@gV _ K rfl) (by walk_at "e") (by walk_at "a") (by rfl) (by rfl) (by rfl) (by rfl) (by rfl)) | ((with_reducible show PE _ (.BinOp _ .Mult ..) _);exact @GN _ _ _ _ _ _ _ _ (@ZP _ K rfl) (by walk_at "e") (by walk_at "e")))
theorem MJ {f:Addr}{fd:FuncData}(F:Fun K "_law_names" "_law_names" CA f fd) (aw:mg "range"=none):FnOk P w K mg base CX0 1 f fd ["_law_xs", "_law_at", "_law_size"] (spD K 3 GB):=by
 refine fnD F GW λcdv A outer s H E hr=>?_;have hu:=hr.units;have nd:=GW.nd;have n0:=K7;refine⟨_,by walk_at "b2", ?_⟩;clear nd n0;rintro xs M hl ⟨L,a,n,rfl,hL,ha,hn,fv⟩;unfold nxX;have la:(L.map b1X)[a]?=some (.int L[a]):=by rw[zF,zV (by lia)];rfl
 have lb:(L.map b1X)[a+1]?=some (.int L[a+1]):=by rw[zF,zV (by lia)];rfl
 have jv:=hL _ (a0K (l:=L) (n:=a) (by lia));have nN:=hL _ (a0K (l:=L) (n:=a+1) (by lia));generalize L[a]=u at la jv;generalize L[a+1]=x at lb nN;walk_at "r";refine KY ?_;walk_at "dl";refine⟨Z8,?_⟩;walk_at "dl";refine B2 (B7 0) (by simp[FL]) ?_;refine HW ?_;walk_at "r";refine⟨by decide,by decide,?_⟩;refine⟨by decide,λ_=>true,i1 u,?_,?_⟩;. intro d hd M';obtain⟨k,hk,rfl⟩:=XA (n:=8) hd;walk_at "dl";refine⟨rfl,?_⟩;walk_at "dl";refine⟨rfl,rfl,λ_=>?_⟩;walk_at "r";refine AI (AA la) ?_;walk_at "r";refine T1 ⟨by lia,by lia⟩ ?_;walk_at "r";refine T4 (by rw[JN];decide) (XE _) ?_;exact⟨rfl,rfl⟩
 have hw:((ER 0 (Int.toNat 8)).filter λ_=>true).map (i1 u)=((FD u).map λc=>(⟨#[c]⟩:Str)).map .str:=rfl;rw[hw];walk_at "r";refine Z9 (by rw[N8,HH];show 8+_*0<=_;lia) ?_;rw[RS,show(⟨(FD u).toArray⟩:Str)=z18 u from rfl];walk_at "r";refine AI (AA (j:=a+1) lb) ?_;walk_at "r";refine KA ?_;walk_at "r";intro A hA;walk_at "r";refine DD ?_;refine HW ?_;walk_at "r";refine⟨by lia,by lia,?_⟩;refine⟨λk ρ1 M1=>M1=M.put A (.l (((a0V k).map (EU u x)).map .str))/\∃x7 x8 x9:Option DS,ρ1=[some (.d (.list (L.map .int))),some (.d (.int a)),some (.d (.int n)),some (.d (.str (a0Q "abcdefghijklmnopqrstuvwxyz"))),some (.d (.str (z18 u))),some (.d (.int x)),some (.loc A),x7,x8,x9],⟨rfl,_,_,_,rfl⟩,?_,?_⟩
 . rintro k d ρ1 M1 hd ⟨rfl,x7,x8,x9,rfl⟩;obtain⟨jC,rfl⟩:=IG hd;walk_at "r";refine PX (by rw[LF];decide) ?_;walk_at "r";refine BQ rfl rfl ?_;rw[if_neg nft,IE];have l8:∀m:Int,(a6V (z18 u) none (some m)).length<=8:=λm=>UH _ _ _ (by rw[LF];exact zR _);have fin:∀{x7 x8 x9:Option DS},(M.put A (.l ((((a0V k).map (EU u x)).map .str)++[.str (EU u x k)])))=M.put A (.l (((a0V (k+1)).map (EU u x)).map .str)):=λ{_ _ _}=>by rw[List.range_succ,xJ,xJ];rfl
   cases hc:decide (x/8 % 2=0) with
   | true=> have fe:=of_decide_eq_true hc;walk_at "r";refine T4 (by rw[JN];decide) (XE _) ?_;walk_at "r";refine PX (by rw[LF];decide) ?_;walk_at "r";refine WI (by have:=l8 (x/16 % 8);exact zN (show _<=9 by show 1+_<=9;lia) (by decide)) ?_;rw[show(⟨#[GS (x/16+(k:Int))]⟩:Str)++a6V (z18 u) none (some (x/16 % 8))=EU u x k by unfold EU;rw[if_pos fe]];walk_at "r";refine KY ?_;walk_at "dl";refine⟨G9 (ds:=((a0V k).map (EU u x)).map .str) zU,?_⟩;walk_at "r";refine DC (ds:=((a0V k).map (EU u x)).map .str) zU (by simp only[zX,xZ];exact zP (show k < 7 by lia) (by decide)) ?_;rw[yI];exact⟨fin (x7:=none) (x8:=none) (x9:=none),_,_,_,rfl⟩
   | false=> have fe:=of_decide_eq_false hc;rw[show a6V (z18 u) none (some (1+(x+(k:Int)) % 8))=EU u x k by unfold EU;rw[if_neg fe]];walk_at "r";refine KY ?_;walk_at "dl";refine⟨G9 (ds:=((a0V k).map (EU u x)).map .str) zU,?_⟩;walk_at "r";refine DC (ds:=((a0V k).map (EU u x)).map .str) zU (by simp only[zX,xZ];exact zP (show k < 7 by lia) (by decide)) ?_;rw[yI];exact⟨fin (x7:=none) (x8:=none) (x9:=none),_,_,_,rfl⟩
 . rintro ρ1 M1 ⟨rfl,x7,x8,x9,rfl⟩;rw[IH];refine G7 (i:=6) (a:=A) rfl zU ?_;rw[yG hA];walk_at "r";refine⟨M,zT M,λL' a' n' e=>⟨rfl,_,rfl,ZY u x hn,?_⟩⟩;simp only[nxX,List.cons.injEq,DS.d.injEq,PyData.int.injEq,and_true] at e;rw[zX,xZ];lia
end
def MK:List Str:=["_law_x"]
theorem GX:FnScope MK ["_law_x"] (AD D8):=⟨rfl,rfl,rfl,by decide +kernel,rfl,by decide +kernel,by decide +kernel⟩
theorem ML {f:Addr}{fd:FuncData}(F:Fun K "_law_place" "_law_place" D8 f fd):FnOk P w K mg base CX0 1 f fd ["_law_x"] (spD K 1 EV):=by
 refine fnD F GX λcdv A outer s H E hr=>?_;have hu:=hr.units;have nd:=GX.nd;refine⟨_,by walk_at "b1", ?_⟩;clear nd;rintro xs M hl ⟨x,rfl,h0,h1⟩;walk_at "wkd";obtain h | h | h:x % 3=0\/x % 3=1\/x % 3=2:=by lia
 all_goals
   rw[h];refine AI rfl ?_;exact⟨M,zT M,rfl,_,rfl,by lia,by lia⟩
def LP:List Str:=["_law_x"]
theorem G0:FnScope LP ["_law_x"] (AD CP):=⟨rfl,rfl,rfl,by decide +kernel,rfl,by decide +kernel,by decide +kernel⟩
section
local macro_rules | `(tactic| walk_at "x")=>`(tactic| first | ((with_reducible show PE _ (.BinOp _ .Mult ..) _);exact @GN _ _ _ _ _ _ _ _ (@ZP _ K rfl) (by walk_at "e") (by walk_at "e")))
theorem LQ {f:Addr}{fd:FuncData}(F:Fun K "_law_number" "_law_number" CP f fd):FnOk P w K mg base CX0 1 f fd ["_law_x"] (spD K 1 DJ):=by
 refine fnD F G0 λcdv A outer s H E hr=>?_;have hu:=hr.units;have nd:=G0.nd;refine⟨_,by walk_at "b1", ?_⟩;clear nd;rintro xs M hl ⟨x,rfl,h0,h1⟩;walk_at "wkd";rw[show(10:Int) ^ Int.toNat 6=1000000 by decide,show(10:Int) ^ Int.toNat 8=100000000 by decide];obtain h | h | h | h:x % 4=0\/x % 4=1\/x % 4=2\/x % 4=3:=by lia
 all_goals
   rw[h];refine AI rfl ?_;exact⟨M,zT M,rfl,_,rfl,by lia,by lia⟩
end
def P1:List Str:=["_law_some", "_law_x"]
theorem IW:FnScope P1 ["_law_some", "_law_x"] (AD EF):=⟨rfl,rfl,rfl,by decide +kernel,rfl,by decide +kernel,by decide +kernel⟩
theorem P2 {f:Addr}{fd:FuncData}(F:Fun K "_law_pick" "_law_pick" EF f fd) (cg:mg "len"=none):FnOk P w K mg base CX0 1 f fd ["_law_some", "_law_x"] (spD K 2 IK):=by
 refine fnD F IW λcdv A outer s H E hr=>?_;have hu:=hr.units;have nd:=IW.nd;refine⟨_,by walk_at "b1", ?_⟩;clear nd;rintro xs M hl ⟨ys,x,rfl,h,iM⟩;rw[show BY ys = .list (ys.map .str) from rfl];have nO:0 < ys.length:=List.length_pos_iff.mpr h;walk_at "r";refine HY ?_;rw[zX];have hp2:(0:Int) < (ys.length:Int):=by lia
 walk_at "r";obtain⟨z,e1,e2⟩:=T8 (ys:=ys) (v:=x % (ys.length:Int)) (a4X _ (by lia)) (a6J _ hp2);refine AI e1 ?_;refine⟨M,zT M,λbj x' e=>⟨rfl,z,rfl,?_⟩⟩;simp only[BY,List.cons.injEq,DS.d.injEq,PyData.list.injEq,and_true] at e;rw[<-FU e.1];exact e2
def MM:List Str:=["_law_xs", "_law_at", "_law_names_here", "_law_found", "_law_k"]
theorem GY:FnScope MM ["_law_xs", "_law_at", "_law_names_here"] (AD D9):=⟨rfl,rfl,rfl,by decide +kernel,rfl,by decide +kernel,by decide +kernel⟩
theorem MN {f:Addr}{fd:FuncData}(F:Fun K "_law_world" "_law_world" D9 f fd) (cg:mg "len"=none) (aw:mg "range"=none) (aq:mg "sorted"=none) (ai:mg "tuple"=none) (aj:Has P w K mg base "_law_number" 1 ["_law_x"] DJ) (ak:Has P w K mg base "_law_place" 1 ["_law_x"] EV):FnOk P w K mg base CX0 2 f fd ["_law_xs", "_law_at", "_law_names_here"] (spD K 3 GC):=by
 refine fnD F GY λcdv A outer s H E hr=>?_;have hu:=hr.units;have nd:=GY.nd;refine⟨_,by walk_at "b2", ?_⟩;clear nd;rintro xs M hl ⟨L,a,ys,rfl,hL,ha,fv,hn,h6⟩;unfold LH;have lx:∀i,i < L.length->(L.map b1X)[i]?=some (.int (L.getD i 0)):=λi hi=>by rw[zF,yU,zV hi];rfl
 have hx:∀i,i < L.length->0<=L.getD i 0/\L.getD i 0 < 1000000000:=λi hi=>by rw[yU,zV hi];exact hL _ (a0K hi)
 walk_at "r";refine KA ?_;walk_at "r";intro A hA;walk_at "r";refine DD ?_;refine HW ?_;walk_at "r";refine HY ?_;rw[zX];walk_at "r";refine⟨by lia,by lia,?_⟩;refine⟨λk ρ1 M1=>k<=ys.length/\∃(w:List Th) (x4:Option DS),(w.map (·.1)).Sublist (ys.take k)/\(∀t∈w,0<=t.2.1/\t.2.1<=999/\-1000000000000<=t.2.2/\t.2.2<=1000000000000)/\M1=M.put A (.l (w.map thD))/\ρ1=[some (.d (.list (L.map .int))),some (.d (.int a)),some (.d (BY ys)),some (.loc A),x4],⟨xU _,[],_,List.nil_sublist _,(λt ht=>nomatch ht),rfl,rfl⟩,?_,?_⟩
 . rintro k d ρ1 M1 hd ⟨hk,w,x4,ay,hb,rfl,rfl⟩;obtain⟨jC,rfl⟩:=IG hd;have kj:w.length<=6:=by have:=ay.length_le;rw[zX,a0J] at this;lia
   have nP:(ys.map a0Z)[k]?=some (.str ys[k]):=by rw[zF,zV jC];rfl
   have htk:ys.take (k+1)=ys.take k++[ys[k]]:=by rw[a3V,zV jC];rfl
   walk_at "r";refine AI (AA (lx a (by lia))) ?_;walk_at "r";refine T1 ⟨by lia,by lia⟩ ?_;obtain⟨b,nQ,nR,eb⟩:∃b:Int,0 < b/\b < 2 ^ 64/\(1:Int)*2 ^ ((k:Int).toNat)=b:=by
     rw[b2X];have nS:k < 6:=by lia
     match k,nS with
     | 0,_=>exact⟨_,by decide,by decide,rfl⟩
     | 1,_=>exact⟨_,by decide,by decide,rfl⟩
     | 2,_=>exact⟨_,by decide,by decide,rfl⟩
     | 3,_=>exact⟨_,by decide,by decide,rfl⟩
     | 4,_=>exact⟨_,by decide,by decide,rfl⟩
     | 5,_=>exact⟨_,by decide,by decide,rfl⟩
   rw[eb];refine T1 ⟨nQ,nR⟩ ?_;walk_at "r";refine BQ rfl rfl ?_;rw[if_neg nft,IE];cases decide (L.getD a 0/b % 2=1) with
   | false=> walk_at "r";exact⟨by lia,w,_,ay.trans (by rw[htk];exact List.sublist_append_left _ _),hb,rfl,rfl⟩
   | true=>
     walk_at "r";refine KY ?_;walk_at "dl";refine⟨G9 (ds:=w.map thD) zU,?_⟩;walk_at "r";refine AI (AA nP) ?_;walk_at "r";refine AI (AA (j:=a+1+k) (lx _ (by lia))) ?_;walk_at "r";refine IJ (hx _ (by lia)) λv1 p0 p1=>?_;walk_at "r";refine AI (AA (j:=a+1+k) (lx _ (by lia))) ?_;walk_at "r";refine GU (by have:=hx (a+1+k) (by lia);lia) λv2 q0 q1=>?_;walk_at "r";refine DC (ds:=w.map thD) zU (by rw[zX];exact zQ kj (by decide)) ?_;rw[yI];refine⟨by lia,w++[(ys[k],v1,v2)],_,by rw[xJ,htk];exact List.Sublist.append ay (List.Sublist.refl _),λt ht=>?_,by rw[xJ];rfl,rfl⟩;rcases yW.mp ht with h | h;. exact hb t h
     . rw[List.mem_singleton.mp h];exact⟨p0,p1,q0,q1⟩
 . rintro ρ1 M1 ⟨hk,w,x4,ay,hb,rfl,rfl⟩;rw[IH,a2Z] at ay;have nT:(w.map (·.1)).Nodup:=hn.2.1.sublist ay;have kj:w.length<=6:=by have:=ay.length_le;rw[zX] at this;lia
   refine G7 (i:=3) (a:=A) rfl zU ?_;rw[yG hA];walk_at "r";rw[<-X6];refine X1 (by rw[zD];exact nT) (by rw[zX];lia) λdf hp c_=>?_;obtain⟨u1,u2,u3⟩:=X7 hp;rw[u2];walk_at "r";refine GA ?_;refine⟨M,zT _,λL' a' bj e=>⟨rfl,df.map unB,rfl,⟨by rw[u3];exact S5 c_,λt ht=>?_⟩,λt ht=>?_⟩⟩;. have ht:=u1.mem_iff.mp ht;exact⟨hn.1 _ (ay.subset (zL.mpr ⟨t,ht,rfl⟩)),hb t ht⟩
   . have ht:=u1.mem_iff.mp ht;simp only[LH,List.cons.injEq,DS.d.injEq,and_true] at e;rw[<-LB e.2.2];exact ay.subset (zL.mpr ⟨t,ht,rfl⟩)
def MP:List Str:=["_law_world_here", "_law_found", "_law_name", "_law_place_here", "_law_count"]
theorem GZ:FnScope MP ["_law_world_here"] (AD DB):=⟨rfl,rfl,rfl,by decide +kernel,rfl,by decide +kernel,by decide +kernel⟩
section
local macro_rules | `(tactic| walk_at "x")=>`(tactic| first | ((with_reducible show PE _ (.Dict ..) _);exact @VM _ _) | ((with_reducible show PG _ (.Tuple ..) _);exact @e9 _ K _ _ _ _ (3) rfl rfl (by walk_at "j") (by rfl) (by rfl)) | ((with_reducible show PS _ (.Assign [.Subscript ..] ..) _);exact @O0 _ _ _ _ _ _ _ _ _ cu (by walk_at "e") (by walk_at "e") (by walk_at "e") (by rfl)))
theorem MQ {f:Addr}{fd:FuncData}(F:Fun K "_law_there" "_law_there" DB f fd):FnOk P w K mg base CX0 1 f fd ["_law_world_here"] (spD K 1 GD):=by
 refine fnD F GZ λcdv A outer s H E hr=>?_;have hu:=hr.units;have cu:=zQ (a2Q (show 1<=64 by decide) _) hu;have nd:=GZ.nd;refine⟨_,by walk_at "b2", ?_⟩;clear nd;rintro xs M hl ⟨w,rfl,j6,nU⟩;walk_at "r";refine XD λp hp=>?_;walk_at "r";refine DD ?_;refine C0 ?_;walk_at "r";refine⟨λk ρ1 M1=>k<=w.length/\M1=M.put p (tsO (w.take k))/\∃x2 x3 x4:Option DS,ρ1=[some (.d (wD w)),some (.loc p),x2,x3,x4],⟨xU _,rfl,_,_,_,rfl⟩,?_,?_⟩
 . rintro k d ρ1 M1 hd ⟨hk,rfl,x2,x3,x4,rfl⟩;have dk:k < w.length:=by have:=(yT.mp hd).1;rw[zX] at this;exact this
   obtain rfl:thD w[k]=d:=by rw[zF,zV dk] at hd;simpa using hd
   generalize hwk:w[k]=t;rw[show thD t = .tuple [.str t.1,.int t.2.1,.int t.2.2] from rfl];walk_at "r";refine CL ?_;walk_at "r";refine⟨p,tsD (w.take k),t.1,pcD t.2.1 t.2.2,rfl,rfl,rfl,zU,E9 (by rw[a0J];lia),?_⟩;rw[yI,E8];refine⟨by lia,?_,_,_,_,rfl⟩;rw[XH j6 (by rw[zV dk,hwk])]
 . rintro ρ1 M1 ⟨hk,rfl,x2,x3,x4,rfl⟩;rw[zX,a2Z];walk_at "r";refine⟨_,zT _,λw' e=>?_⟩;simp only[List.cons.injEq,DS.d.injEq,and_true] at e;rw[<-eI e];exact⟨p,hp,rfl,rfl⟩
end
def LR:List Str:=["_law_deed_here"]
theorem G1:FnScope LR ["_law_deed_here"] (AD CQ):=⟨rfl,rfl,rfl,by decide +kernel,rfl,by decide +kernel,by decide +kernel⟩
theorem LS {f:Addr}{fd:FuncData}(F:Fun K "_law_wanted" "_law_wanted" CQ f fd):FnOk P w K mg base CX0 1 f fd ["_law_deed_here"] (spD K 1 CT):=by
 refine fnD F G1 λcdv A outer s H E hr=>?_;have hu:=hr.units;have nd:=G1.nd;refine⟨_,by walk_at "b2", ?_⟩;clear nd;rintro xs M hl ⟨D,rfl,hr⟩;have j9:=hr.2.1;have fin:∀{y:DS}{ms:List Str},D.must=ms->y = .d (BY ms)->∃M2:Own,M2.Sub M/\CT.post [.d D.d] M y M2:=λe1 e2=>⟨M,zT M,λD' e=>by simp only[List.cons.injEq,DS.d.injEq,and_true] at e;obtain rfl:=DH e;rw[e1];exact⟨e2,rfl⟩⟩
 rw[D.d_eq] at *;walk_at "r";refine AB (d:=.str D.word) (AA (j:=0) rfl) ?_;walk_at "r";refine BQ D.word_ok (by decide +kernel) ?_;rw[if_neg nft,D7];cases h1:(D.word==a0Q "put") with
 | true=>
   walk_at "r";refine EI ?_;walk_at "r";cases D <;> first | (exfalso;simp only[Deed.word] at h1;revert h1;decide +kernel) | skip
   exact fin (ms:=[]) (by simp[Deed.must,Deed.names,Deed.made,Deed.fst,Deed.rest]) rfl
 | false=>
   walk_at "r";refine AB (d:=.str D.word) (AA (j:=0) rfl) ?_;walk_at "r";refine BQ D.word_ok (by decide +kernel) ?_;rw[if_neg nft,D7];cases h2:(D.word==a0Q "join") with
   | true=>
     walk_at "r";refine EI ?_;walk_at "r";cases D <;> first | (exfalso;simp only[Deed.word] at h2;revert h2;decide +kernel) | skip
     refine AB (d:=_) rfl ?_;walk_at "r";refine AB (d:=_) rfl ?_;walk_at "r";exact fin (ms:=[_,_]) (by simp[Deed.must,Deed.names,Deed.made,Deed.fst,Deed.rest]) rfl
   | false=>
     walk_at "r";refine EI ?_;walk_at "r";cases D <;> first | (exfalso;simp only[Deed.word] at h1;revert h1;decide +kernel) | (exfalso;simp only[Deed.word] at h2;revert h2;decide +kernel) | skip
     all_goals
       refine AB (d:=_) rfl ?_;walk_at "r";exact fin (ms:=[_]) (by first | (simp[Deed.must,Deed.names,Deed.made,Deed.fst,Deed.rest];done) | (simp[Deed.must,Deed.names,Deed.made,Deed.fst,Deed.rest,a8K j9];done)) rfl
def P3:List Str:=["_law_deed_here"]
theorem IX:FnScope P3 ["_law_deed_here"] (AD EG):=⟨rfl,rfl,rfl,by decide +kernel,rfl,by decide +kernel,by decide +kernel⟩
section
local macro_rules | `(tactic| walk_at "x")=>`(tactic| first | ((with_reducible show PT _ (.Compare _ [.In] ..) _);exact @D5 _ _ _ _ _ _ _ _ (@kIn _ K rfl) (by walk_at "e") (by walk_at "e") (by with_unfolding_all rfl)))
theorem P4 {f:Addr}{fd:FuncData}(F:Fun K "_law_made" "_law_made" EG f fd):FnOk P w K mg base CX0 1 f fd ["_law_deed_here"] (spD K 1 FW):=by
 refine fnD F IX λcdv A outer s H E hr=>?_;have hu:=hr.units;have nd:=IX.nd;refine⟨_,by walk_at "b2", ?_⟩;clear nd;rintro xs M hl ⟨D,rfl,hr⟩;have fin:∀{l:List Str},D.made.toList=l->∃M2:Own,M2.Sub M/\FW.post [.d D.d] M (.d (BY l)) M2:=λe2=>⟨M,zT M,λD' e=>by simp only[List.cons.injEq,DS.d.injEq,and_true] at e;obtain rfl:=DH e;rw[e2];exact⟨rfl,rfl⟩⟩
 rw[D.d_eq] at *;walk_at "r";refine AB (d:=.str D.word) (AA (j:=0) rfl) ?_;walk_at "r";refine BQ D.word_ok (by decide +kernel) ?_;rw[if_neg nft,D7];cases h1:(D.word==a0Q "put") with
 | true=>
   walk_at "r";refine EI ?_;walk_at "r";refine AB (d:=.str D.fst) (AA (j:=1) rfl) ?_;walk_at "r";cases D <;> first | (exfalso;simp only[Deed.word] at h1;revert h1;decide +kernel) | skip
   exact fin (l:=[_]) rfl
 | false=>
   walk_at "r";refine AB (d:=.str D.word) (AA (j:=0) rfl) ?_;walk_at "wkd";refine ZH (ys:=[a0Q "name", a0Q "split"]) ?_;rw[show decide (D.word∈[a0Q "name", a0Q "split"])=(D.word==a0Q "name" || D.word==a0Q "split") by rw[a1K];simp];cases h2:(D.word==a0Q "name" || D.word==a0Q "split") with
   | true=>
     walk_at "r";refine EI ?_;walk_at "r";cases D <;> first | (exfalso;simp only[Deed.word] at h2;revert h2;decide +kernel) | skip
     all_goals
       refine AB (d:=_) rfl ?_;walk_at "r";exact fin (l:=[_]) rfl
   | false=> walk_at "wkd";cases D <;> first | (exfalso;simp only[Deed.word] at h1;revert h1;decide +kernel) | (exfalso;simp only[Deed.word] at h2;revert h2;decide +kernel) | exact fin (l:=[]) rfl
end
def JZ:List Str:=["_law_there_here", "_law_deed_here"]
def H0:List Str:=["_law_name", "_law_there_here"]
def EL:List (Option Nat):=[none,some 0]
theorem MR:H0.Nodup:=by decide +kernel
theorem K0:FnScope JZ ["_law_there_here", "_law_deed_here"] (AD DW):=⟨rfl,rfl,rfl,by decide +kernel,rfl,by decide +kernel,by decide +kernel⟩
section
local macro_rules | `(tactic| walk_at "cs")=>`(tactic| first | exact @LD _ _ H0 EL (AD DW) JZ (by decide +kernel) (by decide +kernel) rfl rfl)
local macro_rules | `(tactic| walk_at "x")=>`(tactic| first | ((with_reducible show PE _ (.Compare _ [.In] ..) _);exact @bL _ _ _ _ _ _ (@RN _ _ _ _ _ cu (by walk_at "e") (by walk_at "e")) (by with_unfolding_all rfl)))
theorem RB {f:Addr}{fd:FuncData}(F:Fun K "_law_can" "_law_can" DW f fd) (ig:mg "all"=none) (ii:mg "any"=none) (ci:Has P w K mg base "_law_made" 1 ["_law_deed_here"] FW) (bq:Has P w K mg base "_law_wanted" 1 ["_law_deed_here"] CT):FnOk P w K mg base CX0 2 f fd ["_law_there_here", "_law_deed_here"] (spD K 2 GF):=by
 refine fnD F K0 λcdv A outer s H E hr=>?_;have hu:=hr.units;have cu:=zQ (a2Q (show 1<=64 by decide) _) hu;have nd:=K0.nd;have n0:=MR;refine⟨_,by walk_at "b2", ?_⟩;clear nd n0;rintro xs M hl ⟨p,w,D,rfl,m,hr⟩;unfold tdX;have ac:∀l:List Str,l.length<=2->(l.map a0Z).length < sizeLine:=λl h=>by rw[zX];exact zQ h (by decide)
 have jZ:D.must.length<=2:=zN (yJ _ _) (by cases D <;> simp[Deed.names]);have nV:D.made.toList.length<=2:=by cases D.made <;> simp
 have fb:∀(z:Str),(CD (tsD w) z).isSome=decide (z∈w.map (·.1)):=λz=>by rw[B0,a5X,a1K,decide_eq_true_iff,LA]
 walk_at "r";refine B9 (B7 0) (by simp[EL]) ?_;refine BK ?_;walk_at "r";refine UM hr ?_;refine⟨_,rfl,?_⟩;refine⟨ac _ jZ,λ_=>true,inT (w.map (·.1)),?_,?_⟩
 . rintro d hd A acc M' hA rfl;obtain⟨z,hz,rfl⟩:=zL.mp hd;have dn:p≠A:=by rintro rfl;rw[m] at hA;cases hA
   walk_at "dl";refine⟨rfl,?_⟩;walk_at "dl";refine⟨rfl,rfl,λ_=>?_⟩;refine KF ?_;walk_at "r";refine⟨p,tsD w,z,rfl,rfl,by rw[yH dn];exact m,?_⟩;rw[fb];exact⟨rfl,rfl⟩
 rw[S2,QH];walk_at "r";refine dU ?_;walk_at "r";have fin:∀{b:Bool},b=decide (C7 (w.map (·.1)) D=none)->∃M2:Own,M2.Sub M/\GF.post (tdX p D) M (.d (.bool b)) M2:=λ{b} e=>⟨M,zT M,λp' w' D' e' m' _=>by simp only[tdX,List.cons.injEq,DS.loc.injEq,DS.d.injEq,and_true] at e';obtain⟨rfl,e2⟩:=e';obtain rfl:=DH e2;rw[m] at m';have ew:w.map (·.1)=w'.map (·.1):=XM (Option.some.inj m');rw[e,ew];exact⟨rfl,rfl⟩⟩
 rw[i2] at fin;cases ha:(D.must.map λz=>decide (z∈w.map (·.1))).all id with
 | false=> walk_at "r";exact fin (by rw[ha];rfl)
 | true=>
   walk_at "r";refine B9 (B7 0) (by simp[EL]) ?_;refine BK ?_;walk_at "r";refine QO hr ?_;refine⟨_,rfl,?_⟩;refine⟨ac _ nV,λ_=>true,inT (w.map (·.1)),?_,?_⟩
   . rintro d hd A acc M' hA rfl;obtain⟨z,hz,rfl⟩:=zL.mp hd;have dn:p≠A:=by rintro rfl;rw[m] at hA;cases hA
     walk_at "dl";refine⟨rfl,?_⟩;walk_at "dl";refine⟨rfl,rfl,λ_=>?_⟩;refine KF ?_;walk_at "r";refine⟨p,tsD w,z,rfl,rfl,by rw[yH dn];exact m,?_⟩;rw[fb];exact⟨rfl,rfl⟩
   rw[S2,QH];walk_at "r";refine dW ?_;walk_at "r";exact fin (by rw[ha];rfl)
end
def P5:List Str:=["_law_there_here", "_law_deed_here", "_law_found", "_law_word", "_law_name"]
theorem IY:FnScope P5 ["_law_there_here", "_law_deed_here"] (AD EH):=⟨rfl,rfl,rfl,by decide +kernel,rfl,by decide +kernel,by decide +kernel⟩
section
local macro_rules | `(tactic| walk_at "x")=>`(tactic| first | ((with_reducible show PS _ (.Assign [.Subscript ..] ..) _);exact @O0 _ _ _ _ _ _ _ _ _ cu (by walk_at "e") (by walk_at "e") (by walk_at "e") (by rfl)) | ((with_reducible show PE _ (.Call (.Attribute _ (a0Q "pop") _) ..) _);exact @VO _ _ _ _ _ _ _ (by walk_at "e") (by walk_at "e") (@L2.M1.mk _ _ _ _ _ _ rfl rfl rfl rfl)))
local macro_rules | `(tactic| walk_at "y")=>`(tactic| first | ((with_reducible show PE _ (.Call (.Name (a0Q "dict") _) ..) _);exact @MX _ _ _ _ _ _ _ _ _ (@eT _ K rfl) (by rfl) dw PyProof.Rows.boot_dict (by walk_at "a") (by decide) (by decide) (by rfl) (by rfl)) | ((with_reducible show PE _ (.Subscript ..) _);exact @G6 _ _ _ _ _ _ cu (@pv _ 0 _ _ (by rfl) (by walk_at "lc") (by decide) (by decide)) (@pv _ 4 _ _ (by rfl) (by walk_at "lc") (by decide) (by decide)) (λ_ _=>rfl)) | ((with_reducible show PE _ (.Subscript ..) _);exact @G6 _ _ _ _ _ _ cu (@pv _ 0 _ _ (by rfl) (by walk_at "lc") (by decide) (by decide)) (by walk_at "e") (λ_ _=>rfl)))
theorem P6 {f:Addr}{fd:FuncData}(F:Fun K "_law_step" "_law_step" EH f fd) (dw:mg "dict"=none):FnOk P w K mg base CX0 1 f fd ["_law_there_here", "_law_deed_here"] (spD K 2 EW):=by
 refine fnD F IY λcdv A outer s H E hr=>?_;have hu:=hr.units;have cu:=zQ (a2Q (show 1<=64 by decide) _) hu;have nd:=IY.nd;refine⟨_,by walk_at "b2", ?_⟩;clear nd;rintro xs M hl ⟨p,w,D,rfl,m,hg,nU⟩;unfold tdX;have fin:∀{w2:List Th}{q:Addr}{hq:M q=none},doT w D=w2->∃M2:Own,M2.Sub (M.put q (tsO w2))/\EW.post (tdX p D) M (.loc q) M2:=λ{w2 q hq} e=>⟨_,zT _,λp' w' D' e' m'=>by simp only[tdX,List.cons.injEq,DS.loc.injEq,DS.d.injEq,and_true] at e';obtain⟨rfl,e2⟩:=e';obtain rfl:=DH e2;rw[m] at m';obtain rfl:=XJ (Option.some.inj m');rw[<-e];exact⟨q,hq,rfl,rfl⟩⟩
 walk_at "r";refine XO m λq hq=>?_;have nW:p≠q:=by rintro rfl;rw[m] at hq;cases hq
 have fin:=λ(w2:List Th)=>fin (w2:=w2) (q:=q) (hq:=hq);have mq:∀o:MO,(M.put q o) p=some (tsO w):=λo=>by rw[yH nW];exact m
 cases D with
 | put x pl k=> rw[show(Deed.put x pl k).d = .tuple [.str (a0Q "put"),.str x,.int pl,.int k] from rfl];walk_at "r";refine AB (d:=.str (a0Q "put")) (AA (j:=0) rfl) ?_;walk_at "r";refine AB (d:=.str x) (AA (j:=1) rfl) ?_;walk_at "r";refine AC (t:=true) (by decide +kernel) ?_;walk_at "r";refine CL ?_;walk_at "r";refine AB (d:=.int pl) (AA (j:=2) rfl) ?_;walk_at "r";refine AB (d:=.int k) (AA (j:=3) rfl) ?_;walk_at "r";refine⟨q,tsD (w),x,pcD (pl) (k),rfl,rfl,rfl,zU,E9 (by lia),?_⟩;rw[yI,E8];walk_at "r";exact fin _ rfl
 | take x=> rw[show(Deed.take x).d = .tuple [.str (a0Q "take"),.str x] from rfl];obtain⟨v,hv⟩:=S4 hg (n:=x) (by simp[Deed.names]) (by simp[Deed.made]);walk_at "r";refine AB (d:=.str (a0Q "take")) (AA (j:=0) rfl) ?_;walk_at "r";refine AB (d:=.str x) (AA (j:=1) rfl) ?_;walk_at "r";refine AC (t:=false) (by decide +kernel) ?_;walk_at "r";refine AC (t:=true) (by decide +kernel) ?_;walk_at "r";refine OG ?_;walk_at "r";refine⟨q,tsD (w),rfl,zU,?_⟩;walk_at "r";refine⟨tsD (w),x,pcD v.1 v.2,rfl,zU,by rw[B0,hv];rfl,?_⟩;rw[yI,L8];walk_at "r";exact fin _ rfl
 | move x pl=> rw[show(Deed.move x pl).d = .tuple [.str (a0Q "move"),.str x,.int pl] from rfl];obtain⟨v,hv⟩:=S4 hg (n:=x) (by simp[Deed.names]) (by simp[Deed.made]);walk_at "r";refine AB (d:=.str (a0Q "move")) (AA (j:=0) rfl) ?_;walk_at "r";refine AB (d:=.str x) (AA (j:=1) rfl) ?_;walk_at "r";refine AC (t:=false) (by decide +kernel) ?_;walk_at "r";refine AC (t:=false) (by decide +kernel) ?_;walk_at "r";refine AC (t:=true) (by decide +kernel) ?_;walk_at "r";refine CL ?_;walk_at "r";refine AB (d:=.int pl) (AA (j:=2) rfl) ?_;walk_at "r";refine C6 ?_;walk_at "r";refine⟨p,tsD w,x,pcD v.1 v.2,rfl,rfl,mq _,by rw[B0,hv];rfl,?_⟩;rw[show pcD v.1 v.2 = .tuple [.int v.1,.int v.2] from rfl];walk_at "r";refine AB (ds:=[.int v.1,.int v.2]) (d:=.int v.2) (AA (j:=1) rfl) ?_;walk_at "r";refine⟨q,tsD (w),x,pcD (pl) (v.2),rfl,rfl,rfl,zU,E9 (by lia),?_⟩;rw[yI,E8];walk_at "r";exact fin _ (by simp only[doT,hv])
 | count x k=> rw[show(Deed.count x k).d = .tuple [.str (a0Q "count"),.str x,.int k] from rfl];obtain⟨v,hv⟩:=S4 hg (n:=x) (by simp[Deed.names]) (by simp[Deed.made]);walk_at "r";refine AB (d:=.str (a0Q "count")) (AA (j:=0) rfl) ?_;walk_at "r";refine AB (d:=.str x) (AA (j:=1) rfl) ?_;walk_at "r";refine AC (t:=false) (by decide +kernel) ?_;walk_at "r";refine AC (t:=false) (by decide +kernel) ?_;walk_at "r";refine AC (t:=false) (by decide +kernel) ?_;walk_at "r";refine AC (t:=true) (by decide +kernel) ?_;walk_at "r";refine CL ?_;walk_at "r";refine C6 ?_;walk_at "r";refine⟨p,tsD w,x,pcD v.1 v.2,rfl,rfl,mq _,by rw[B0,hv];rfl,?_⟩;rw[show pcD v.1 v.2 = .tuple [.int v.1,.int v.2] from rfl];walk_at "r";refine AB (ds:=[.int v.1,.int v.2]) (d:=.int v.1) (AA (j:=0) rfl) ?_;walk_at "r";refine C6 ?_;walk_at "r";refine⟨p,tsD w,x,pcD v.1 v.2,rfl,rfl,mq _,by rw[B0,hv];rfl,?_⟩;rw[show pcD v.1 v.2 = .tuple [.int v.1,.int v.2] from rfl];walk_at "r";refine AB (ds:=[.int v.1,.int v.2]) (d:=.int v.2) (AA (j:=1) rfl) ?_;walk_at "r";refine AB (d:=.int k) (AA (j:=2) rfl) ?_;walk_at "r";refine⟨q,tsD (w),x,pcD (v.1) (v.2+k),rfl,rfl,rfl,zU,E9 (by lia),?_⟩;rw[yI,E8];walk_at "r";exact fin _ (by simp only[doT,MI,hv])
 | name x y=> rw[show(Deed.name x y).d = .tuple [.str (a0Q "name"),.str x,.str y] from rfl];obtain⟨v,hv⟩:=S4 hg (n:=x) (by simp[Deed.names]) (by simp only[Deed.made,ne_eq,Option.some.injEq];exact a8K hg.2.1.2.1);walk_at "r";refine AB (d:=.str (a0Q "name")) (AA (j:=0) rfl) ?_;walk_at "r";refine AB (d:=.str x) (AA (j:=1) rfl) ?_;walk_at "r";refine AC (t:=false) (by decide +kernel) ?_;walk_at "r";refine AC (t:=false) (by decide +kernel) ?_;walk_at "r";refine AC (t:=false) (by decide +kernel) ?_;walk_at "r";refine AC (t:=false) (by decide +kernel) ?_;walk_at "r";refine AC (t:=true) (by decide +kernel) ?_;walk_at "r";refine CL ?_;refine OG ?_;walk_at "r";refine⟨q,tsD (w),rfl,zU,?_⟩;walk_at "r";refine⟨tsD (w),x,pcD v.1 v.2,rfl,zU,by rw[B0,hv];rfl,?_⟩;rw[yI,L8];walk_at "r";refine AB (d:=.str y) (AA (j:=2) rfl) ?_;walk_at "r";refine⟨q,tsD (IC w x),y,pcD (v.1) (v.2),rfl,rfl,rfl,zU,E9 (zQ (yJ _ _) (by lia)),?_⟩;rw[yI,E8];walk_at "r";exact fin _ (by simp only[doT,hv])
 | split x y pl k=> rw[show(Deed.split x y pl k).d = .tuple [.str (a0Q "split"),.str x,.str y,.int pl,.int k] from rfl];obtain⟨v,hv⟩:=S4 hg (n:=x) (by simp[Deed.names]) (by simp only[Deed.made,ne_eq,Option.some.injEq];exact a8K hg.2.1.2.1);walk_at "r";refine AB (d:=.str (a0Q "split")) (AA (j:=0) rfl) ?_;walk_at "r";refine AB (d:=.str x) (AA (j:=1) rfl) ?_;walk_at "r";refine AC (t:=false) (by decide +kernel) ?_;walk_at "r";refine AC (t:=false) (by decide +kernel) ?_;walk_at "r";refine AC (t:=false) (by decide +kernel) ?_;walk_at "r";refine AC (t:=false) (by decide +kernel) ?_;walk_at "r";refine AC (t:=false) (by decide +kernel) ?_;walk_at "r";refine AC (t:=true) (by decide +kernel) ?_;walk_at "r";refine CL ?_;walk_at "r";refine C6 ?_;walk_at "r";refine⟨p,tsD w,x,pcD v.1 v.2,rfl,rfl,mq _,by rw[B0,hv];rfl,?_⟩;rw[show pcD v.1 v.2 = .tuple [.int v.1,.int v.2] from rfl];walk_at "r";refine AB (ds:=[.int v.1,.int v.2]) (d:=.int v.1) (AA (j:=0) rfl) ?_;walk_at "r";refine C6 ?_;walk_at "r";refine⟨p,tsD w,x,pcD v.1 v.2,rfl,rfl,mq _,by rw[B0,hv];rfl,?_⟩;rw[show pcD v.1 v.2 = .tuple [.int v.1,.int v.2] from rfl];walk_at "r";refine AB (ds:=[.int v.1,.int v.2]) (d:=.int v.2) (AA (j:=1) rfl) ?_;walk_at "r";refine AB (d:=.int k) (AA (j:=4) rfl) ?_;walk_at "r";refine⟨q,tsD (w),x,pcD (v.1) (v.2 - k),rfl,rfl,rfl,zU,E9 (by lia),?_⟩;rw[yI,E8];walk_at "r";refine CL ?_;walk_at "r";refine AB (d:=.int pl) (AA (j:=3) rfl) ?_;walk_at "r";refine AB (d:=.int k) (AA (j:=4) rfl) ?_;walk_at "r";refine AB (d:=.str y) (AA (j:=2) rfl) ?_;walk_at "r";refine⟨q,tsD (DF w x v.1 (v.2 - k)),y,pcD (pl) (k),rfl,rfl,rfl,zU,E9 (by have:=UO (ts:=w) (x:=x) (p:=v.1) (c:=v.2 - k);lia),?_⟩;rw[yI,E8];walk_at "r";exact fin _ (by simp only[doT,MI,hv,Int.sub_eq_add_neg])
 | join x y=> rw[show(Deed.join x y).d = .tuple [.str (a0Q "join"),.str x,.str y] from rfl];obtain⟨v,hv⟩:=S4 hg (n:=x) (by simp[Deed.names]) (by simp[Deed.made]);obtain⟨u,hu⟩:=S4 hg (n:=y) (by simp[Deed.names]) (by simp[Deed.made]);walk_at "r";refine AB (d:=.str (a0Q "join")) (AA (j:=0) rfl) ?_;walk_at "r";refine AB (d:=.str x) (AA (j:=1) rfl) ?_;walk_at "r";refine AC (t:=false) (by decide +kernel) ?_;walk_at "r";refine AC (t:=false) (by decide +kernel) ?_;walk_at "r";refine AC (t:=false) (by decide +kernel) ?_;walk_at "r";refine AC (t:=false) (by decide +kernel) ?_;walk_at "r";refine AC (t:=false) (by decide +kernel) ?_;walk_at "r";refine AC (t:=false) (by decide +kernel) ?_;walk_at "r";refine CL ?_;walk_at "r";refine C6 ?_;walk_at "r";refine⟨p,tsD w,x,pcD v.1 v.2,rfl,rfl,mq _,by rw[B0,hv];rfl,?_⟩;rw[show pcD v.1 v.2 = .tuple [.int v.1,.int v.2] from rfl];walk_at "r";refine AB (ds:=[.int v.1,.int v.2]) (d:=.int v.1) (AA (j:=0) rfl) ?_;walk_at "r";refine C6 ?_;walk_at "r";refine⟨p,tsD w,x,pcD v.1 v.2,rfl,rfl,mq _,by rw[B0,hv];rfl,?_⟩;rw[show pcD v.1 v.2 = .tuple [.int v.1,.int v.2] from rfl];walk_at "r";refine AB (ds:=[.int v.1,.int v.2]) (d:=.int v.2) (AA (j:=1) rfl) ?_;walk_at "r";refine C6 ?_;walk_at "r";refine AB (d:=.str y) (AA (j:=2) rfl) ?_;walk_at "r";refine⟨p,tsD w,y,pcD u.1 u.2,rfl,rfl,mq _,by rw[B0,hu];rfl,?_⟩;rw[show pcD u.1 u.2 = .tuple [.int u.1,.int u.2] from rfl];walk_at "r";refine AB (ds:=[.int u.1,.int u.2]) (d:=.int u.2) (AA (j:=1) rfl) ?_;walk_at "r";refine⟨q,tsD (w),x,pcD (v.1) (v.2+u.2),rfl,rfl,rfl,zU,E9 (by lia),?_⟩;rw[yI,E8];walk_at "r";refine OG ?_;walk_at "r";refine⟨q,tsD (DF w x v.1 (v.2+u.2)),rfl,zU,?_⟩;walk_at "r";refine AB (d:=.str y) (AA (j:=2) rfl) ?_;walk_at "r";refine⟨tsD (DF w x v.1 (v.2+u.2)),y,pcD u.1 u.2,rfl,zU,by rw[B0,QJ (a8K hg.2.1.2.1),hu];rfl,?_⟩;rw[yI,L8];walk_at "r";exact fin _ (by simp only[doT,MI,hv,hu])
end
def FH:List Str:=["_law_xs", "_law_at", "_law_names_here", "_law_there_here", "_law_standing", "_law_others", "_law_word", "_law_one", "_law_place_here", "_law_number_here", "_law_second"]
def G2:List Str:=["_law_name", "_law_there_here"]
def DX:List (Option Nat):=[none,some 3]
theorem LU:G2.Nodup:=by decide +kernel
def G3:List Str:=["_law_name", "_law_one"]
def CC:List (Option Nat):=[none,some 7]
theorem LV:G3.Nodup:=by decide +kernel
theorem IZ:FnScope FH ["_law_xs", "_law_at", "_law_names_here", "_law_there_here"] (AD BX):=⟨rfl,rfl,rfl,by decide +kernel,rfl,by decide +kernel,by decide +kernel⟩
section
local macro_rules | `(tactic| walk_at "cs")=>`(tactic| first | exact @LD _ _ G2 DX (AD BX) FH (by decide +kernel) (by decide +kernel) rfl rfl | exact @LD _ _ G3 CC (AD BX) FH (by decide +kernel) (by decide +kernel) rfl rfl)
local macro_rules | `(tactic| walk_at "x")=>`(tactic| first | ((with_reducible show PT _ (.Compare _ [.In] ..) _);exact @NR _ _ _ _ _ _ (@RN _ _ _ _ _ cu (by walk_at "e") (by walk_at "e")) (by with_unfolding_all rfl)) | ((with_reducible show PT _ (.Compare _ [.NotIn] ..) _);exact @NR _ _ _ _ _ _ (@N1 _ _ _ _ _ cu (by walk_at "e") (by walk_at "e")) (by with_unfolding_all rfl)))
theorem P7 {f:Addr}{fd:FuncData}(F:Fun K "_law_deed" "_law_deed" BX f fd) (aj:Has P w K mg base "_law_number" 1 ["_law_x"] DJ) (cj:Has P w K mg base "_law_pick" 1 ["_law_some", "_law_x"] IK) (ak:Has P w K mg base "_law_place" 1 ["_law_x"] EV):FnOk P w K mg base CX0 2 f fd ["_law_xs", "_law_at", "_law_names_here", "_law_there_here"] (spD K 4 FX):=by
 refine fnD F IZ λcdv A outer s H E hr=>?_;have hu:=hr.units;have cu:=zQ (a2Q (show 1<=64 by decide) _) hu;have nd:=IZ.nd;have n0:=LU;have n1:=LV;refine⟨_,by walk_at "b2", ?_⟩;clear nd n0 n1;rintro xs M hl ⟨L,a,ys,p,w,rfl,hL,ha,fv,hn,h2,h6,m⟩;have lx:∀i,i < L.length->(L.map b1X)[i]?=some (.int (L.getD i 0)):=λi hi=>by rw[zF,yU,zV hi];rfl
 have hx:∀i,i < L.length->0<=L.getD i 0/\L.getD i 0 < 1000000000:=λi hi=>by rw[yU,zV hi];exact hL _ (a0K hi)
 have fin:∀{D:Deed},AU ys D->∃M2:Own,M2.Sub M/\FX.post (ddX L a ys p) M (.d D.d) M2:=λ{D} h=>⟨M,zT M,λL' a' bj p' e=>⟨rfl,D,rfl,by
   simp only[ddX,List.cons.injEq,DS.d.injEq,and_true] at e;rw[<-LB e.2.2.1];exact h⟩⟩
 have fg:∀z∈ys,zH (.str z)=true:=λz hz=>S0 (hn.1 z hz);rw[show ddX L a ys p=[.d (.list (L.map .int)),.d (.int a),.d (BY ys),.loc p] from rfl];have jF:(ys.map a0Z).length < sizeLine:=by rw[zX];exact zQ h6 (by decide)
 walk_at "r";refine B9 (B7 0) (by simp[DX]) ?_;refine BK ?_;walk_at "r";refine⟨jF,stT (w.map (·.1)),id,?_,?_⟩
 . rintro d hd A acc M' hA rfl;obtain⟨z,hz,rfl⟩:=zL.mp hd;have dn:p≠A:=by rintro rfl;rw[m] at hA;cases hA
   walk_at "dl";refine⟨rfl,?_⟩;walk_at "r";refine KF ?_;walk_at "r";refine⟨p,tsD w,z,rfl,rfl,by rw[yH dn];exact m,?_⟩;refine⟨_,rfl,rfl,?_,λ_=>?_⟩;. rw[B0,a5X,a1K];unfold stT;rw[decide_eq_true_iff,LA]
   walk_at "r";exact⟨rfl,rfl⟩
 rw[XN];walk_at "r";refine B9 (B7 0) (by simp[DX]) ?_;refine BK ?_;walk_at "r";refine⟨jF,frT (w.map (·.1)),id,?_,?_⟩
 . rintro d hd A acc M' hA rfl;obtain⟨z,hz,rfl⟩:=zL.mp hd;have dn:p≠A:=by rintro rfl;rw[m] at hA;cases hA
   walk_at "dl";refine⟨rfl,?_⟩;walk_at "r";refine QU ?_;walk_at "r";refine⟨p,tsD w,z,rfl,rfl,by rw[yH dn];exact m,?_⟩;refine⟨_,rfl,rfl,?_,λ_=>?_⟩;. unfold frT stT;congr 1;rw[B0,a5X,a1K,decide_eq_true_iff,LA]
   walk_at "r";exact⟨rfl,rfl⟩
 rw[LG];refine OB (λρ1 M1=>M1=M/\∃(so sp:List Str) (x6 x7 x8 x9 dq:Option DS),(so≠[]/\so.length<=60/\∀z∈so,z∈ys)/\(sp≠[]/\sp.length<=60/\∀z∈sp,z∈ys)/\ρ1=[some (.d (.list (L.map .int))),some (.d (.int a)),some (.d (BY ys)),some (.loc p),some (.d (BY so)),some (.d (BY sp)),x6,x7,x8,x9,dq]) ?_ ?_
 . have lp:∀z∈ys.filter (λz=>decide (z∈w.map (·.1))),z∈ys:=λz hz=>(yL.mp hz).1;have ef:∀z∈ys.filter (λz=>!decide (z∈w.map (·.1))),z∈ys:=λz hz=>(yL.mp hz).1;have l1:(ys.filter (λz=>decide (z∈w.map (·.1)))).length<=60:=zN (yJ _ _) (by lia);have l2:(ys.filter (λz=>!decide (z∈w.map (·.1)))).length<=60:=zN (yJ _ _) (by lia);generalize ys.filter (λz=>decide (z∈w.map (·.1)))=so at lp l1;generalize ys.filter (λz=>!decide (z∈w.map (·.1)))=sp at ef l2;have jp:ys≠[]:=by rintro rfl;simp at h2
   have whole:(ys≠[]/\ys.length<=60/\∀z∈ys,z∈ys):=⟨jp,by lia,λz hz=>hz⟩
   walk_at "r";refine AI (AA (j:=a) (lx _ (by lia))) ?_;walk_at "r";refine BQ rfl rfl ?_;rw[if_neg nft,IE];cases decide (L.getD a 0 % 8=7) with
   | true=> walk_at "r";exact⟨rfl,ys,ys,_,_,_,_,_,whole,whole,rfl⟩
   | false=>
     walk_at "wkd";refine BQ (JQ λz hz=>CG (hn.1 z (lp z hz))) rfl ?_;rw[if_neg nft,QK];cases h1:so.isEmpty with
     | true=> walk_at "r";exact⟨rfl,ys,ys,_,_,_,_,_,whole,whole,rfl⟩
     | false=>
       walk_at "wkd";refine BQ (JQ λz hz=>CG (hn.1 z (ef z hz))) rfl ?_;rw[if_neg nft,QK];cases h2:sp.isEmpty with
       | true=> walk_at "r";exact⟨rfl,ys,ys,_,_,_,_,_,whole,whole,rfl⟩
       | false=> walk_at "r";exact⟨rfl,so,sp,_,_,_,_,_,⟨QM h1,l1,lp⟩,⟨QM h2,l2,ef⟩,rfl⟩
 . rintro ρ1 M1 ⟨rfl,so,sp,x6,x7,x8,x9,dq,⟨lY,lZ,ma⟩,⟨kl,km,lq⟩,rfl⟩;walk_at "wkd";refine AI (AA (j:=a) (lx _ (by lia))) ?_;walk_at "wkd";obtain⟨wd,nX,md⟩:∃wd:Str,atI [a0Z (a0Q "put"),.str (a0Q "take"),.str (a0Q "move"),.str (a0Q "count"),.str (a0Q "name"),.str (a0Q "split"),.str (a0Q "join")] (L.getD a 0/8 % 7)=some (.str wd)/\wd∈[a0Q "put", "take", "move", "count", "name", "split", "join"]:=T8 (ys:=[a0Q "put", "take", "move", "count", "name", "split", "join"]) (by lia) (by show _ < (7:Int);lia);refine AI nX ?_;walk_at "r";refine AI (AA (j:=a+1) (lx _ (by lia))) ?_;walk_at "r";refine B4 lY lZ λone cp=>?_;have cp:=ma one cp;walk_at "r";refine AI (AA (j:=a+3) (lx _ (by lia))) ?_;walk_at "r";refine IJ (hx _ (by lia)) λpl p0 p1=>?_;walk_at "r";refine AI (AA (j:=a+4) (lx _ (by lia))) ?_;walk_at "r";refine GU (hx _ (by lia)) λnum q0 q1=>?_;walk_at "r";have er:=λ(z:Str) (hz:z∈ys)=>ZZ (num:=num) hn p0 p1 hz;have cy:=λ(y:Str) (hy:y∈ys) (ao:y≠one)=>a6 (num:=num) hn p0 p1 cp hy ao;simp only[yX,xX,or_false] at md;rcases md with rfl | rfl | rfl | rfl | rfl | rfl | rfl
   . skip
     refine AC (t:=true) (by decide +kernel) ?_;walk_at "r";refine AI (AA (j:=a+1) (lx _ (by lia))) ?_;walk_at "r";refine B4 kl km λz hz=>?_;walk_at "r";exact fin (er z (lq z hz)).1
   . skip
     refine AC (t:=false) (by decide +kernel) ?_;walk_at "r";refine AC (t:=true) (by decide +kernel) ?_;walk_at "r";exact fin (er one cp).2.1
   . skip
     refine AC (t:=false) (by decide +kernel) ?_;walk_at "r";refine AC (t:=false) (by decide +kernel) ?_;walk_at "r";refine AC (t:=true) (by decide +kernel) ?_;walk_at "r";exact fin (er one cp).2.2.1
   . skip
     refine AC (t:=false) (by decide +kernel) ?_;walk_at "r";refine AC (t:=false) (by decide +kernel) ?_;walk_at "r";refine AC (t:=false) (by decide +kernel) ?_;walk_at "r";refine AC (t:=true) (by decide +kernel) ?_;walk_at "r";exact fin (er one cp).2.2.2
   . skip
     refine AC (t:=false) (by decide +kernel) ?_;walk_at "r";refine AC (t:=false) (by decide +kernel) ?_;walk_at "r";refine AC (t:=false) (by decide +kernel) ?_;walk_at "r";refine AC (t:=false) (by decide +kernel) ?_;walk_at "r";refine AI (AA (j:=a+2) (lx _ (by lia))) ?_;walk_at "r";refine B4 kl km λy0 de=>?_;walk_at "r";refine AC (t:=false) (by decide +kernel) ?_;walk_at "r";have de:=lq y0 de;refine BQ (fg y0 de) (fg one cp) ?_;rw[if_neg nft,D7];cases he:(y0==one) with
     | false=>
       have ao:y0≠one:=λe=>by rw[e] at he;simp at he
       walk_at "r";refine AC (t:=true) (by decide +kernel) ?_;walk_at "r";exact fin (cy y0 de ao).1
     | true=>
       walk_at "r";refine B2 (B7 0) (by simp[CC]) ?_;refine BK ?_;walk_at "r";refine⟨jF,neT one,id,?_,?_⟩
       . intro d hd M';obtain⟨z,hz,rfl⟩:=zL.mp hd;walk_at "dl";refine⟨rfl,?_⟩;walk_at "r";refine BQ (fg z hz) (fg one cp) ?_;rw[if_pos rfl,D7];refine⟨_,rfl,rfl,?_,λ_=>?_⟩;. rw[a1K];unfold neT;simp
         walk_at "r";exact⟨rfl,rfl⟩
       rw[LJ];walk_at "r";refine AI (AA (j:=a+2) (lx _ (by lia))) ?_;walk_at "r";refine B4 (OO hn h2 one) (zN (yJ _ _) (by lia)) λy1 fz=>?_;obtain⟨fz,ao⟩:=yL.mp fz;have ao:y1≠one:=by simpa using ao
       walk_at "r";refine AC (t:=true) (by decide +kernel) ?_;walk_at "r";exact fin (cy y1 fz ao).1
   . skip
     refine AC (t:=false) (by decide +kernel) ?_;walk_at "r";refine AC (t:=false) (by decide +kernel) ?_;walk_at "r";refine AC (t:=false) (by decide +kernel) ?_;walk_at "r";refine AC (t:=false) (by decide +kernel) ?_;walk_at "r";refine AI (AA (j:=a+2) (lx _ (by lia))) ?_;walk_at "r";refine B4 kl km λy0 de=>?_;walk_at "r";refine AC (t:=false) (by decide +kernel) ?_;walk_at "r";have de:=lq y0 de;refine BQ (fg y0 de) (fg one cp) ?_;rw[if_neg nft,D7];cases he:(y0==one) with
     | false=>
       have ao:y0≠one:=λe=>by rw[e] at he;simp at he
       walk_at "r";refine AC (t:=false) (by decide +kernel) ?_;walk_at "r";refine AC (t:=false) (by decide +kernel) ?_;walk_at "r";exact fin (cy y0 de ao).2.1
     | true=>
       walk_at "r";refine B2 (B7 0) (by simp[CC]) ?_;refine BK ?_;walk_at "r";refine⟨jF,neT one,id,?_,?_⟩
       . intro d hd M';obtain⟨z,hz,rfl⟩:=zL.mp hd;walk_at "dl";refine⟨rfl,?_⟩;walk_at "r";refine BQ (fg z hz) (fg one cp) ?_;rw[if_pos rfl,D7];refine⟨_,rfl,rfl,?_,λ_=>?_⟩;. rw[a1K];unfold neT;simp
         walk_at "r";exact⟨rfl,rfl⟩
       rw[LJ];walk_at "r";refine AI (AA (j:=a+2) (lx _ (by lia))) ?_;walk_at "r";refine B4 (OO hn h2 one) (zN (yJ _ _) (by lia)) λy1 fz=>?_;obtain⟨fz,ao⟩:=yL.mp fz;have ao:y1≠one:=by simpa using ao
       walk_at "r";refine AC (t:=false) (by decide +kernel) ?_;walk_at "r";refine AC (t:=false) (by decide +kernel) ?_;walk_at "r";exact fin (cy y1 fz ao).2.1
   . skip
     refine AC (t:=false) (by decide +kernel) ?_;walk_at "r";refine AC (t:=false) (by decide +kernel) ?_;walk_at "r";refine AC (t:=false) (by decide +kernel) ?_;walk_at "r";refine AC (t:=false) (by decide +kernel) ?_;walk_at "r";refine AI (AA (j:=a+2) (lx _ (by lia))) ?_;walk_at "r";refine B4 kl km λy0 de=>?_;walk_at "r";refine AC (t:=true) (by decide +kernel) ?_;walk_at "r";refine AI (AA (j:=a+2) (lx _ (by lia))) ?_;walk_at "r";refine B4 lY lZ λy0 de=>?_;have de:=ma y0 de;walk_at "r";refine BQ (fg y0 de) (fg one cp) ?_;rw[if_neg nft,D7];cases he:(y0==one) with
     | false=>
       have ao:y0≠one:=λe=>by rw[e] at he;simp at he
       walk_at "r";refine AC (t:=false) (by decide +kernel) ?_;walk_at "r";refine AC (t:=true) (by decide +kernel) ?_;walk_at "r";exact fin (cy y0 de ao).2.2
     | true=>
       walk_at "r";refine B2 (B7 0) (by simp[CC]) ?_;refine BK ?_;walk_at "r";refine⟨jF,neT one,id,?_,?_⟩
       . intro d hd M';obtain⟨z,hz,rfl⟩:=zL.mp hd;walk_at "dl";refine⟨rfl,?_⟩;walk_at "r";refine BQ (fg z hz) (fg one cp) ?_;rw[if_pos rfl,D7];refine⟨_,rfl,rfl,?_,λ_=>?_⟩;. rw[a1K];unfold neT;simp
         walk_at "r";exact⟨rfl,rfl⟩
       rw[LJ];walk_at "r";refine AI (AA (j:=a+2) (lx _ (by lia))) ?_;walk_at "r";refine B4 (OO hn h2 one) (zN (yJ _ _) (by lia)) λy1 fz=>?_;obtain⟨fz,ao⟩:=yL.mp fz;have ao:y1≠one:=by simpa using ao
       walk_at "r";refine AC (t:=false) (by decide +kernel) ?_;walk_at "r";refine AC (t:=true) (by decide +kernel) ?_;walk_at "r";exact fin (cy y1 fz ao).2.2
end
def RC:List Str:=["_law_xs", "_law_at", "_law_size", "_law_names_here", "_law_there_here", "_law_row_here", "_law_k", "_law_deed_here"]
theorem K1:FnScope RC ["_law_xs", "_law_at", "_law_size", "_law_names_here", "_law_there_here"] (AD FG):=⟨rfl,rfl,rfl,by decide +kernel,rfl,by decide +kernel,by decide +kernel⟩
section
local macro_rules | `(tactic| walk_at "x")=>`(tactic| first | ((with_reducible show PE _ (.BinOp _ .Mult ..) _);exact @GN _ _ _ _ _ _ _ _ (@ZP _ K rfl) (by walk_at "e") (by walk_at "e")))
theorem RD {f:Addr}{fd:FuncData}(F:Fun K "_law_row" "_law_row" FG f fd) (aw:mg "range"=none) (ai:mg "tuple"=none) (ba:Has P w K mg base "_law_can" 2 ["_law_there_here", "_law_deed_here"] GF) (ck:Has P w K mg base "_law_deed" 2 ["_law_xs", "_law_at", "_law_names_here", "_law_there_here"] FX) (ax:Has P w K mg base "_law_step" 1 ["_law_there_here", "_law_deed_here"] EW):FnOk P w K mg base CX0 3 f fd ["_law_xs", "_law_at", "_law_size", "_law_names_here", "_law_there_here"] (spD K 5 KH):=by
 refine fnD F K1 λcdv A outer s H E hr=>?_;have hu:=hr.units;have nd:=K1.nd;refine⟨_,by walk_at "b2", ?_⟩;clear nd;rintro xs M hl ⟨L,a,n,ys,p,w,rfl,hL,ha,fv,j7,hn,h2,h6,m,ht⟩;unfold rwX;walk_at "r";refine KA ?_;walk_at "r";intro A hA;have dn:p≠A:=by rintro rfl;rw[m] at hA;cases hA
 walk_at "r";refine DD ?_;refine HW ?_;walk_at "r";refine⟨by lia,by lia,?_⟩;refine⟨λk ρ1 M1=>∃(Ds:List Deed) (q:Addr) (w:List Th) (x6 x7:Option DS),Ds.length=k/\(∀D∈Ds,AU ys D)/\q≠A/\There ys w/\M1 q=some (tsO w)/\M.Sub (M1.del A)/\M1 A=some (.l (Ds.map Deed.d))/\ρ1=[some (.d (.list (L.map .int))),some (.d (.int a)),some (.d (.int n)),some (.d (BY ys)),some (.loc q),some (.loc A),x6,x7],⟨[],p,w,_,_,rfl,(λD hD=>nomatch hD),dn,ht,by rw[yH dn];exact m,by rw[yG hA];exact zT M,zU,rfl⟩,?_,?_⟩
 . rintro k d ρ1 M1 hd ⟨Ds,q,w,x6,x7,hk,iN,jG,hw,mq,ay,mA,rfl⟩;obtain⟨jC,rfl⟩:=IG hd;have kj:w.length<=6:=zN hw.few h6;walk_at "r";refine QR (a:=a+5*k) hL (by lia) fv hn h2 h6 mq λD hD=>?_;walk_at "r";refine KY ?_;walk_at "dl";refine⟨G9 mA,?_⟩;walk_at "r";refine DC mA (by rw[zX];exact zQ (show _<=12 by lia) (by decide)) ?_;have e1:Ds.map Deed.d++[D.d]=(Ds++[D]).map Deed.d:=by rw[xJ];rfl
   have jH:∀E∈Ds++[D],AU ys E:=λE hE=>by
     rcases yW.mp hE with h | h;. exact iN E h
     . rw[List.mem_singleton.mp h];exact hD
   rw[e1];walk_at "r";refine LI (by rw[yH jG];exact mq) hD.1 ?_;cases hc:decide (C7 (w.map (·.1)) D=none) with
   | false=> walk_at "r";exact⟨Ds++[D],q,w,_,_,by rw[yY,hk];rfl,jH,jG,hw,by rw[yH jG];exact mq,by rw[IL];exact ay,zU,rfl⟩
   | true=>
     have iz:goD w D:=⟨⟨hw.nd,by lia⟩,hD.1,of_decide_eq_true hc⟩
     walk_at "r";refine JU (by rw[yH jG];exact mq) iz (by lia) λr hr=>?_;have jI:r≠A:=by rintro rfl;rw[zU] at hr;cases hr
     walk_at "r";exact⟨Ds++[D],r,doT w D,_,_,by rw[yY,hk];rfl,jH,jI,QT hw iz hD.2,zU,(by rw[Own.del_put_ne jI,IL];exact ay.put (QS ay (by rw[eQ jI];rw[yH jI] at hr;exact hr))),by rw[yH jI.symm];exact zU,rfl⟩
 . rintro ρ1 M1 ⟨Ds,q,w,x6,x7,hk,iN,jG,hw,mq,ay,mA,rfl⟩;rw[IH] at hk;refine G7 (i:=5) (a:=A) rfl mA ?_;walk_at "r";refine GA ?_;refine⟨M,ay,λL' a' n' bj p' e=>⟨rfl,Ds,rfl,?_,λD hD=>?_⟩⟩;. simp only[rwX,List.cons.injEq,DS.d.injEq,PyData.int.injEq,and_true] at e;lia
   . simp only[rwX,List.cons.injEq,DS.d.injEq,and_true] at e;rw[<-LB e.2.2.2.1];exact iN D hD
end
def V4:List Str:=["names"]
theorem NN:FnScope V4 ["names"] (AD IT):=⟨rfl,rfl,rfl,by decide +kernel,rfl,by decide +kernel,by decide +kernel⟩
section
local macro_rules | `(tactic| walk_at "y")=>`(tactic| first | ((with_reducible show PE _ (.Call (.Name (a0Q "sorted") _) ..) _);exact @EN _ _ _ _ _ _ _ _ _ (@a7 _ K rfl) (by rfl) aq PyProof.Rows.boot_sorted (by walk_at "a") (by decide) (by decide) (by rfl) (by rfl)))
theorem V5 {f:Addr}{fd:FuncData}(F:Fun K "rising" "rising" IT f fd) (aq:mg "sorted"=none) (ai:mg "tuple"=none):FnOk P w K mg base CX0 1 f fd ["names"] (spD K 1 CH):=by refine fnD F NN λcdv A outer s H E hr=>?_;have hu:=hr.units;have nd:=NN.nd;refine⟨_,by walk_at "b1", ?_⟩;clear nd;rintro xs M hl ⟨l,rfl,bi⟩;rw[show AN l = .tuple (l.map .str) from rfl];walk_at "r";refine UQ bi λss hp hs=>?_;walk_at "r";refine GA ?_;refine⟨M,zT M,λl' e=>?_⟩;simp only[List.cons.injEq,DS.d.injEq,and_true] at e;rw[<-EZ e,TF hp hs];exact⟨rfl,rfl⟩
end
def F4:List Str:=["told"]
def DY:List Str:=["name", "place", "froms", "plus"]
def DZ:List (Option Nat):=[none,none,none,none]
theorem HM:DY.Nodup:=by decide +kernel
theorem F5:FnScope F4 ["told"] (AD BE):=⟨rfl,rfl,rfl,by decide +kernel,rfl,by decide +kernel,by decide +kernel⟩
section
local macro_rules | `(tactic| walk_at "cs")=>`(tactic| first | exact @LD _ _ DY DZ (AD BE) F4 (by decide +kernel) (by decide +kernel) rfl rfl)
local macro_rules | `(tactic| walk_at "x")=>`(tactic| first | ((with_reducible show PG _ (.Tuple ..) _);exact @e9 _ K _ _ _ _ (4) rfl rfl (by walk_at "j") (by rfl) (by rfl)))
theorem JD {f:Addr}{fd:FuncData}(F:Fun K "by_left_names" "by_left_names" BE f fd):FnOk P w K mg base CX0 1 f fd ["told"] (spD K 1 FE):=by
 refine fnD F F5 λcdv A outer s H E hr=>?_;have hu:=hr.units;have cu:=zQ (a2Q (show 1<=64 by decide) _) hu;have nd:=F5.nd;have n0:=HM;refine⟨_,by walk_at "b1", ?_⟩;clear nd n0;rintro xs M hl ⟨E,rfl,j6,iM⟩;walk_at "r";refine QD (e7 (KB (KB (KB (KB e6))))) (by simp[DZ]) ?_;refine C0 ?_;walk_at "r";refine AB (ds:=[AN E.st,AN E.fr,.tuple (E.lf.map lfE)]) (d:=.tuple (E.lf.map lfE)) rfl ?_;refine⟨_,rfl,?_⟩;refine⟨by rw[zX];exact zQ iM (by decide),λ_=>true,nmE,vlE,?_,?_,λp hp=>?_⟩;. rw[S2,zD];exact j6
 . intro d hd M';obtain⟨t,ht,rfl⟩:=zL.mp hd;unfold lfE;walk_at "r";refine⟨rfl,?_⟩;walk_at "dl";refine⟨rfl,rfl,λ_=>?_⟩;walk_at "r";refine⟨rfl,rfl,?_⟩;walk_at "r";exact⟨rfl,rfl⟩
 rw[S2,zD];refine⟨_,zT _,λE' e=>?_⟩;simp only[List.cons.injEq,DS.d.injEq,and_true] at e;rw[<-EC e];exact⟨p,hp,rfl,rfl⟩
end
def LX:List Str:=["one", "between", "other", "missing", "in_the_way"]
def LY:List Str:=["name", "between", "one"]
def LZ:List (Option Nat):=[none,some 1,some 0]
theorem SK:LY.Nodup:=by decide +kernel
def M0:List Str:=["name", "between"]
def M8:List (Option Nat):=[none,some 1]
theorem SL:M0.Nodup:=by decide +kernel
theorem RE:FnScope LX ["one", "between", "other"] (AD GL):=⟨rfl,rfl,rfl,by decide +kernel,rfl,by decide +kernel,by decide +kernel⟩
section
local macro_rules | `(tactic| walk_at "cs")=>`(tactic| first | exact @LD _ _ LY LZ (AD GL) LX (by decide +kernel) (by decide +kernel) rfl rfl | exact @LD _ _ M0 M8 (AD GL) LX (by decide +kernel) (by decide +kernel) rfl rfl)
local macro_rules | `(tactic| walk_at "x")=>`(tactic| first | ((with_reducible show PT _ (.Compare _ [.In] ..) _);exact @D5 _ _ _ _ _ _ _ _ (@kIn _ K rfl) (by walk_at "e") (by walk_at "e") (by with_unfolding_all rfl)))
local macro_rules | `(tactic| walk_at "y")=>`(tactic| first | ((with_reducible show PT _ (.Compare _ [.NotIn] ..) _);exact @NR _ _ _ _ _ _ (@N1 _ _ _ _ _ cu (@pv _ 0 _ _ (by rfl) (by walk_at "lc") (by decide) (by decide)) (@pv _ 1 _ _ (by rfl) (by walk_at "lc") (by decide) (by decide))) (by with_unfolding_all rfl)) | ((with_reducible show PT _ (.Compare _ [.In] ..) _);exact @NR _ _ _ _ _ _ (@RN _ _ _ _ _ cu (@pv _ 0 _ _ (by rfl) (by walk_at "lc") (by decide) (by decide)) (@pv _ 1 _ _ (by rfl) (by walk_at "lc") (by decide) (by decide))) (by with_unfolding_all rfl)))
theorem Y2 {f:Addr}{fd:FuncData}(F:Fun K "clash" "clash" GL f fd) (cg:mg "len"=none):FnOk P w K mg base CX0 1 f fd ["one", "between", "other"] (spD K 3 EX):=by
 refine fnD F RE λcdv A outer s H E hr=>?_;have hu:=hr.units;have cu:=zQ (a2Q (show 1<=64 by decide) _) hu;have nd:=RE.nd;have n0:=SK;have n1:=SL;refine⟨_,by walk_at "b2", ?_⟩;clear nd n0 n1;rintro xs M hl ⟨ys,one,other,p,rfl,m,h1,h2,hn⟩;have l1:=DO hn h2.st;have l2:=DO hn h2.fr;have l3:=DO hn h1.st;have l4:=DO hn h1.fr;have sz:∀{l:List Str},l.length<=26->(l.map a0Z).length < sizeLine:=λ{l} h=>by rw[zX];exact zQ h (by decide)
 have fb:∀z,(CD (one.lf.map λt=>(t.1,BM t.2)) z).isSome=BS one.lf z:=λz=>by rw[F0,a5X];rfl
 rw[show clX one other p=[.d one.d,.loc p,.d other.d] from rfl];walk_at "r";refine B9 (B7 0) (by simp[LZ]) ?_;refine C0 ?_;walk_at "r";refine AB (ds:=[AN other.st,AN other.fr,.tuple (other.lf.map lfE)]) (d:=AN other.st) rfl ?_;refine⟨_,rfl,?_⟩;refine⟨sz l1,msT (one.st++one.fr) one.lf,id,?_,?_⟩
 . rintro d hd A acc M' hA rfl;obtain⟨z,hz,rfl⟩:=zL.mp hd;have dn:p≠A:=by rintro rfl;rw[m] at hA;cases hA
   walk_at "dl";refine⟨rfl,?_⟩;walk_at "r";refine AB (ds:=[AN one.st,AN one.fr,.tuple (one.lf.map lfE)]) (d:=AN one.st) rfl ?_;walk_at "r";refine AB (ds:=[AN one.st,AN one.fr,.tuple (one.lf.map lfE)]) (d:=AN one.fr) rfl ?_;refine BR (by rw[zX,zX];exact zN (show _<=52 by lia) (by decide)) ?_;rw[<-xJ];refine ZN ?_;cases hk:decide (z∈one.st++one.fr) with
   | false=>
     refine⟨_,rfl,?_⟩;walk_at "r";refine⟨rfl,?_,λq=>?_⟩;. show false=(decide (z∈one.st++one.fr)&&!BS one.lf z);rw[hk];rfl
     . have q':(decide (z∈one.st++one.fr)&&!BS one.lf z)=true:=q;rw[hk] at q';cases q'
   | true=>
     refine⟨_,rfl,?_⟩;walk_at "r";refine QU ?_;walk_at "r";refine⟨p,_,z,rfl,rfl,by rw[yH dn];exact m,?_⟩;rw[fb];refine⟨_,rfl,rfl,?_,λ_=>?_⟩;. show _=(decide (z∈one.st++one.fr)&&!BS one.lf z);rw[hk];rfl
     walk_at "r";exact⟨rfl,rfl⟩
 walk_at "r";refine B9 (B7 0) (by simp[M8]) ?_;refine C0 ?_;walk_at "r";refine AB (ds:=[AN other.st,AN other.fr,.tuple (other.lf.map lfE)]) (d:=AN other.fr) rfl ?_;refine⟨_,rfl,?_⟩;refine⟨sz l2,wyT one.lf,id,?_,?_⟩
 . rintro d hd A acc M' hA rfl;obtain⟨z,hz,rfl⟩:=zL.mp hd;have dn:p≠A:=by rintro rfl;rw[m] at hA;cases hA
   walk_at "dl";refine⟨rfl,?_⟩;walk_at "r";refine KF ?_;walk_at "r";refine⟨p,_,z,rfl,rfl,by rw[yH dn];exact m,?_⟩;rw[fb];refine⟨_,rfl,rfl,rfl,λ_=>?_⟩;walk_at "r";exact⟨rfl,rfl⟩
 walk_at "r";refine HY ?_;rw[eU];walk_at "r";have fin:∀{b:Bool},b=AO one other->∃M2:Own,M2.Sub M/\EX.post [.d one.d,.loc p,.d other.d] M (.d (.bool b)) M2:=λ{b} e=>⟨M,zT M,λiO dy p' e'=>by simp only[clX,List.cons.injEq,DS.d.injEq,DS.loc.injEq,and_true] at e';rw[<-EC e'.1,<-EC e'.2.2,e];exact⟨rfl,rfl⟩⟩
 rw[TH];cases h1:other.st.any (λn=>decide (n∈one.st++one.fr)&&!BS one.lf n) with
 | true=> rw[if_pos rfl];exact fin (by unfold AO;rw[h1];rfl)
 | false=> rw[if_neg nft];walk_at "r";refine HY ?_;rw[eV];walk_at "r";rw[TH];exact fin (by unfold AO;rw[h1];rfl)
end
def JE:List Str:=["between", "place", "froms", "plus", "firsts", "name"]
theorem BN:FnScope JE ["between", "place", "froms", "plus"] (AD BU):=⟨rfl,rfl,rfl,by decide +kernel,rfl,by decide +kernel,by decide +kernel⟩
section
local macro_rules | `(tactic| walk_at "x")=>`(tactic| first | ((with_reducible show PS _ (.AugAssign ..) _);exact @VC _ _ (4) _ _ _ _ _ _ BN.nd rfl (by walk_at "lc") (by walk_at "e") (@XB _ K rfl) (by walk_at "or")) | ((with_reducible show PS _ (.AugAssign ..) _);exact @VC _ _ (3) _ _ _ _ _ _ BN.nd rfl (by walk_at "lc") (by walk_at "e") (@XB _ K rfl) (by walk_at "or")))
local macro_rules | `(tactic| walk_at "y")=>`(tactic| first | ((with_reducible show PE _ (.Subscript ..) _);exact @G6 _ _ _ _ _ _ cu (@pv _ 0 _ _ (by rfl) (by walk_at "lc") (by decide) (by decide)) (@pv _ 1 _ _ (by rfl) (by walk_at "lc") (by decide) (by decide)) (λ_ _=>rfl)) | ((with_reducible show PE _ (.Subscript ..) _);exact @G6 _ _ _ _ _ _ cu (@pv _ 0 _ _ (by rfl) (by walk_at "lc") (by decide) (by decide)) (@pv _ 5 _ _ (by rfl) (by walk_at "lc") (by decide) (by decide)) (λ_ _=>rfl)))
theorem JF {f:Addr}{fd:FuncData}(F:Fun K "told_at_first" "told_at_first" BU f fd) (bw:mg "isinstance"=none) (ij:mg "str"=none) (a_:Has P w K mg base "rising" 1 ["names"] CH):FnOk P w K mg base CX0 2 f fd ["between", "place", "froms", "plus"] (spD K 4 FY):=by
 refine fnD F BN λcdv A outer s H E hr=>?_;have hu:=hr.units;have cu:=zQ (a2Q (show 1<=64 by decide) _) hu;have nd:=BN.nd;refine⟨_,by walk_at "b2", ?_⟩;clear nd;rintro xs M hl ⟨ts,e,rfl,hf,hp,bi⟩;rw[show taX ts e=[.d (QW ts),.d (plE e.1),.d (AN e.2.1),.d (.int e.2.2)] from rfl];have hv:∀n,BS ts n=true->CD (ts.map λt:Str×Ent=>(t.1,BM t.2)) n=some (BM (AE ts n)):=λn h=>by rw[F0];unfold BS at h;obtain⟨v,hv⟩:=Option.isSome_iff_exists.mp h;unfold AE;rw[hv];rfl
 have fin:∀{y:DS},y = .d (BM (AJ ts e))->∃M2:Own,M2.Sub M/\FY.post [.d (QW ts),.d (plE e.1),.d (AN e.2.1),.d (.int e.2.2)] M y M2:=λ{y} ey=>⟨M,zT M,λdf e' ee=>by
   simp only[taX,List.cons.injEq,DS.d.injEq,DS.loc.injEq,PyData.int.injEq,and_true] at ee;obtain⟨e0,e1,e2,e3⟩:=ee;have e0:=Y0 e0;subst e0;have:e=e':=by obtain⟨a,b,c⟩:=e;obtain⟨a',b',c'⟩:=e';simp only at e1 e2 e3;rw[OS e1,EZ e2,e3]
   subst this;exact⟨ey,rfl⟩⟩
 have ff:∀n,e.1 = .inr n->BS ts n=true:=hp;refine OB (λρ1 M1=>M1=M/\∃x4 x5:Option DS,ρ1=[some (.d (QW ts)),some (.d (plE (AJ ts e).1)),some (.d (AN e.2.1)),some (.d (.int e.2.2)),x4,x5]) ?_ ?_
 . cases he:e.1 with
   | inl q=> rw[show plE (.inl q) = .int q from rfl];walk_at "r";refine⟨rfl,none,none,?_⟩;rw[show(AJ ts e).1 = .inl q by unfold AJ;rw[he]];rfl
   | inr n=> have hn:=hv n (ff n he);rw[show plE (.inr n) = .str n from rfl];walk_at "r";refine IB ?_;walk_at "r";refine⟨_,n,_,rfl,rfl,hn,?_⟩;walk_at "r";refine AB (ds:=[plE (AE ts n).1,AN (AE ts n).2.1,.int (AE ts n).2.2]) (d:=plE (AE ts n).1) rfl ?_;refine⟨rfl,none,none,?_⟩;rw[show(AJ ts e).1=(AE ts n).1 by unfold AJ;rw[he]];rfl
 . rintro ρ1 M1 ⟨rfl,x4,x5,rfl⟩;rw[show AN e.2.1 = .tuple (e.2.1.map .str) from rfl];walk_at "r";refine DD ?_;refine C0 ?_;walk_at "r";refine⟨λk ρ1 M2=>M2=M1/\∃x5:Option DS,ρ1=[some (.d (QW ts)),some (.d (plE (AJ ts e).1)),some (.d (.tuple (e.2.1.map .str))),some (.d (.int (e.2.2+((e.2.1.take k).map λn=>(AE ts n).2.2).sum))),some (.d (.tuple (((e.2.1.take k).flatMap λn=>(AE ts n).2.1).map .str))),x5],⟨rfl,_,by rw[List.take_zero,show((([]:List Str).map λn=>(AE ts n).2.2).sum)=0 from rfl,Int.add_zero];rfl⟩,?_,?_⟩
   . rintro k d ρ1 M2 hd ⟨rfl,x5,rfl⟩;have dk:k < e.2.1.length:=by have:=(yT.mp hd).1;rw[zX] at this;exact this
     obtain rfl:a0Z (e.2.1[k])=d:=by rw[zF,zV dk] at hd;simpa using hd
     have hk:=hv _ (hf _ (a0K dk));have htk:e.2.1.take (k+1)=e.2.1.take k++[e.2.1[k]]:=by rw[a3V,zV dk];rfl
     have ac:(((e.2.1.take (k+1)).flatMap λn=>(AE ts n).2.1)).length < 64:=zQ (by
       have:=(List.take_append_drop (k+1) e.2.1).symm
       conv=>rhs;rw[this,b0X,yY]
       exact Nat.le_add_right _ _) bi;rw[htk,b0X,yY] at ac;walk_at "r";refine XC ⟨_,rfl,?_⟩;walk_at "r";refine IB ?_;walk_at "r";refine⟨_,_,_,rfl,rfl,hk,?_⟩;walk_at "r";generalize e.2.1[k]=n at hk htk ac;refine AB (ds:=[plE (AE ts n).1,AN (AE ts n).2.1,.int (AE ts n).2.2]) (d:=AN (AE ts n).2.1) rfl ?_;refine ZX (by rw[zX,zX];simp only[a2W,List.flatMap_nil,a1W] at ac;exact zN (xT ac) (by decide)) ?_;walk_at "r";refine XC ⟨_,rfl,?_⟩;walk_at "r";refine IB ?_;walk_at "r";refine⟨_,n,_,rfl,rfl,hk,?_⟩;walk_at "r";refine AB (ds:=[plE (AE ts n).1,AN (AE ts n).2.1,.int (AE ts n).2.2]) (d:=.int (AE ts n).2.2) rfl ?_;refine ZW ?_;refine⟨rfl,some (.d (.str n)),?_⟩;rw[htk,b0X,xJ,xJ,List.sum_append,<-Int.add_assoc];simp only[a2W,List.flatMap_nil,a1W,zI,a6W,a7Q,List.sum_nil,Int.add_zero];rfl
   . rintro ρ1 M2 ⟨rfl,x5,rfl⟩;rw[zX,a2Z];walk_at "r";rw[show b2V ((e.2.1.flatMap λn=>(AE ts n).2.1).map .str)=AN (e.2.1.flatMap λn=>(AE ts n).2.1) from rfl];refine CM bi ?_;walk_at "r";exact fin rfl
end
def E1:List Str:=["things"]
def CW:List Str:=["name", "things"]
def CY:List (Option Nat):=[none,some 0]
theorem G4:CW.Nodup:=by decide +kernel
theorem E2:FnScope E1 ["things"] (AD B6):=⟨rfl,rfl,rfl,by decide +kernel,rfl,by decide +kernel,by decide +kernel⟩
section
local macro_rules | `(tactic| walk_at "cs")=>`(tactic| first | exact @LD _ _ CW CY (AD B6) E1 (by decide +kernel) (by decide +kernel) rfl rfl)
local macro_rules | `(tactic| walk_at "y")=>`(tactic| first | ((with_reducible show PE _ (.Subscript ..) _);exact @G6 _ _ _ _ _ _ cu (@pv _ 1 _ _ (by rfl) (by walk_at "lc") (by decide) (by decide)) (@pv _ 0 _ _ (by rfl) (by walk_at "lc") (by decide) (by decide)) (λ_ _=>rfl)))
theorem HN {f:Addr}{fd:FuncData}(F:Fun K "rising_by_names" "rising_by_names" B6 f fd) (aq:mg "sorted"=none) (ai:mg "tuple"=none):FnOk P w K mg base CX0 1 f fd ["things"] (spD K 1 DK):=by
 refine fnD F E2 λcdv A outer s H E hr=>?_;have hu:=hr.units;have cu:=zQ (a2Q (show 1<=64 by decide) _) hu;have nd:=E2.nd;have n0:=G4;refine⟨_,by walk_at "b1", ?_⟩;clear nd n0;rintro xs M hl ⟨p,ts,rfl,m,nd,bi⟩;walk_at "r";refine B9 (B7 0) (by simp[CY]) ?_;refine BK ?_;walk_at "r";refine X0 (ts:=ts.map λt:Str×Ent=>(t.1,BM t.2)) m (by rw[zX];exact bi) λss hp hs=>?_;rw[show(ts.map λt:Str×Ent=>(t.1,BM t.2)).map (·.1)=ts.map (·.1) by rw[zD];rfl] at hp;have ac:ss.length=ts.length:=by have:=hp.length_eq;simpa using this
 refine⟨_,rfl,by rw[zX,ac];exact zP bi (by decide),λ_=>true,bC ts,?_,?_⟩
 . rintro d hd A acc M' hA rfl;obtain⟨s,nY,rfl⟩:=zL.mp hd;obtain⟨v,hv⟩:=eY (hp.mem_iff.mp nY);have dn:p≠A:=λe=>by rw[e] at m;rw[hA] at m;cases m
   walk_at "r";refine⟨rfl,?_⟩;walk_at "dl";refine⟨rfl,rfl,λ_=>?_⟩;walk_at "r";refine C6 ?_;walk_at "r";refine⟨p,_,s,BM v,rfl,rfl,by rw[yH dn];exact m,by rw[F0,hv];rfl,?_⟩;unfold BM;refine BR (Nat.le_of_ble_eq_true rfl) ?_;refine⟨?_,rfl⟩;show _=DS.d (lfE (s,AE ts s));unfold AE;rw[hv];rfl
 . rw[S2,UR,TF hp hs];walk_at "r";refine GA ?_;refine⟨M,zT M,λp' df e m'=>?_⟩;cases e;have e:=QX (Option.some.inj (m.symm.trans m'));subst e;exact⟨rfl,rfl⟩
end
def M9:List Str:=["deed", "word", "name", "other", "parts", "both"]
theorem E3:FnScope M9 ["deed"] (AD CS):=⟨rfl,rfl,rfl,by decide +kernel,rfl,by decide +kernel,by decide +kernel⟩
section
local macro_rules | `(tactic| walk_at "x")=>`(tactic| first | ((with_reducible show PS _ (.Assign [.Tuple ..] (.Tuple ..) _) _);exact @bV _ _ (1) (2) _ _ _ _ _ _ _ _ _ _ _ rfl E3.nd rfl rfl (by decide) rfl rfl (by walk_at "a") rfl (by rfl)) | ((with_reducible show PE _ (.Dict ..) _);exact @YN _ _ _ _ _ (@PK _ _ _ _ _ _ _ _ _ (by walk_at "e") (by walk_at "e") (@PK _ _ _ _ _ _ _ _ _ (by walk_at "e") (by walk_at "e") (@YM _ _))) rfl rfl (by simp) (by decide)))
theorem MA {f:Addr}{fd:FuncData}(F:Fun K "deed_effect" "deed_effect" CS f fd) (a_:Has P w K mg base "rising" 1 ["names"] CH) (ae:Has P w K mg base "rising_by_names" 1 ["things"] DK):FnOk P w K mg base CX0 2 f fd ["deed"] (spD K 1 EY):=by
 refine fnD F E3 λcdv A outer s H E hr=>?_;have hu:=hr.units;have nd:=E3.nd;refine⟨_,by walk_at "b2", ?_⟩;clear nd;rintro xs M hl ⟨D,rfl,hr⟩;have fin:∀{E:Eff},AF D=E->∃M2:Own,M2.Sub M/\EY.post [.d D.d] M (.d E.d) M2:=λ{E} e=>⟨M,zT M,λD' e'=>by simp only[List.cons.injEq,DS.d.injEq,and_true] at e';rw[<-DH e',e];exact⟨rfl,rfl⟩⟩
 cases D with
 | put x pl k=> rw[show(Deed.put x pl k).d = .tuple [.str (a0Q "put"),.str x,.int pl,.int k] from rfl];walk_at "r";refine AB (d:=.str (a0Q "put")) (AA (j:=0) rfl) ?_;walk_at "r";refine AB (d:=.str x) (AA (j:=1) rfl) ?_;walk_at "r";refine⟨_,_,rfl,?_⟩;walk_at "r";refine AC (t:=true) (by decide +kernel) ?_;walk_at "r";refine AB (d:=.int pl) (AA (j:=2) rfl) ?_;walk_at "r";refine AB (d:=.int k) (AA (j:=3) rfl) ?_;walk_at "r";exact fin rfl
 | take x=> rw[show(Deed.take x).d = .tuple [.str (a0Q "take"),.str x] from rfl];walk_at "r";refine AB (d:=.str (a0Q "take")) (AA (j:=0) rfl) ?_;walk_at "r";refine AB (d:=.str x) (AA (j:=1) rfl) ?_;walk_at "r";refine⟨_,_,rfl,?_⟩;walk_at "r";refine AC (t:=false) (by decide +kernel) ?_;walk_at "r";refine AC (t:=true) (by decide +kernel) ?_;walk_at "r";exact fin rfl
 | move x pl=> rw[show(Deed.move x pl).d = .tuple [.str (a0Q "move"),.str x,.int pl] from rfl];walk_at "r";refine AB (d:=.str (a0Q "move")) (AA (j:=0) rfl) ?_;walk_at "r";refine AB (d:=.str x) (AA (j:=1) rfl) ?_;walk_at "r";refine⟨_,_,rfl,?_⟩;walk_at "r";refine AC (t:=false) (by decide +kernel) ?_;walk_at "r";refine AC (t:=false) (by decide +kernel) ?_;walk_at "r";refine AC (t:=true) (by decide +kernel) ?_;walk_at "r";refine AB (d:=.int pl) (AA (j:=2) rfl) ?_;walk_at "r";exact fin rfl
 | count x k=> rw[show(Deed.count x k).d = .tuple [.str (a0Q "count"),.str x,.int k] from rfl];walk_at "r";refine AB (d:=.str (a0Q "count")) (AA (j:=0) rfl) ?_;walk_at "r";refine AB (d:=.str x) (AA (j:=1) rfl) ?_;walk_at "r";refine⟨_,_,rfl,?_⟩;walk_at "r";refine AC (t:=false) (by decide +kernel) ?_;walk_at "r";refine AC (t:=false) (by decide +kernel) ?_;walk_at "r";refine AC (t:=false) (by decide +kernel) ?_;walk_at "r";refine AC (t:=true) (by decide +kernel) ?_;walk_at "r";refine AB (d:=.int k) (AA (j:=2) rfl) ?_;walk_at "r";exact fin rfl
 | name x y=> rw[show(Deed.name x y).d = .tuple [.str (a0Q "name"),.str x,.str y] from rfl];walk_at "r";refine AB (d:=.str (a0Q "name")) (AA (j:=0) rfl) ?_;walk_at "r";refine AB (d:=.str x) (AA (j:=1) rfl) ?_;walk_at "r";refine⟨_,_,rfl,?_⟩;walk_at "r";refine AC (t:=false) (by decide +kernel) ?_;walk_at "r";refine AC (t:=false) (by decide +kernel) ?_;walk_at "r";refine AC (t:=false) (by decide +kernel) ?_;walk_at "r";refine AC (t:=false) (by decide +kernel) ?_;walk_at "r";refine AB (d:=.str y) (AA (j:=2) rfl) ?_;walk_at "r";refine AC (t:=true) (by decide +kernel) ?_;walk_at "r";exact fin rfl
 | split x y pl k=> rw[show(Deed.split x y pl k).d = .tuple [.str (a0Q "split"),.str x,.str y,.int pl,.int k] from rfl];walk_at "r";refine AB (d:=.str (a0Q "split")) (AA (j:=0) rfl) ?_;walk_at "r";refine AB (d:=.str x) (AA (j:=1) rfl) ?_;walk_at "r";refine⟨_,_,rfl,?_⟩;walk_at "r";refine AC (t:=false) (by decide +kernel) ?_;walk_at "r";refine AC (t:=false) (by decide +kernel) ?_;walk_at "r";refine AC (t:=false) (by decide +kernel) ?_;walk_at "r";refine AC (t:=false) (by decide +kernel) ?_;walk_at "r";refine AB (d:=.str y) (AA (j:=2) rfl) ?_;walk_at "r";refine AC (t:=false) (by decide +kernel) ?_;walk_at "r";refine AC (t:=true) (by decide +kernel) ?_;walk_at "r";refine UP λq hq=>?_;refine Q1 ?_;walk_at "r";refine AB (d:=.int k) (AA (j:=4) rfl) ?_;walk_at "r";refine Q1 ?_;walk_at "r";refine AB (d:=.int pl) (AA (j:=3) rfl) ?_;walk_at "r";refine AB (d:=.int k) (AA (j:=4) rfl) ?_;walk_at "r";refine ZQ ?_;refine⟨zU,by show 2<=15;decide,by simpa using (show x≠y from hr.2.1),?_⟩;rw[yI];walk_at "r";refine JY (ts:=[(x,.inr x,[x],-k),(y,.inl pl,[],k)]) zU (by simpa using (show x≠y from hr.2.1)) (by show 2 < 64;decide) ?_;walk_at "r";obtain⟨M2,h1,h2⟩:=fin (E:=AF (.split x y pl k)) rfl;exact⟨M2,λb o e=>((zT M).put hq) b o (h1 b o e),h2⟩
 | join x y=> rw[show(Deed.join x y).d = .tuple [.str (a0Q "join"),.str x,.str y] from rfl];walk_at "r";refine AB (d:=.str (a0Q "join")) (AA (j:=0) rfl) ?_;walk_at "r";refine AB (d:=.str x) (AA (j:=1) rfl) ?_;walk_at "r";refine⟨_,_,rfl,?_⟩;walk_at "r";refine AC (t:=false) (by decide +kernel) ?_;walk_at "r";refine AC (t:=false) (by decide +kernel) ?_;walk_at "r";refine AC (t:=false) (by decide +kernel) ?_;walk_at "r";refine AC (t:=false) (by decide +kernel) ?_;walk_at "r";refine AB (d:=.str y) (AA (j:=2) rfl) ?_;walk_at "r";refine AC (t:=false) (by decide +kernel) ?_;walk_at "r";refine AC (t:=false) (by decide +kernel) ?_;walk_at "r";rw[show b2V [.str x,.str y]=AN [x,y] from rfl];refine CM (by show 2 < 64;decide) ?_;walk_at "r";exact fin rfl
end
def CJ:List Str:=["one", "other", "between", "known", "stand", "free", "name", "behind", "place", "froms", "plus"]
def E4:List Str:=["name", "known"]
def BW:List (Option Nat):=[none,some 3]
theorem HP:E4.Nodup:=by decide +kernel
def E5:List Str:=["name", "between", "other"]
def E6:List (Option Nat):=[none,some 2,some 1]
theorem HQ:E5.Nodup:=by decide +kernel
theorem F6:FnScope CJ ["one", "other"] (AD B1):=⟨rfl,rfl,rfl,by decide +kernel,rfl,by decide +kernel,by decide +kernel⟩
section
local macro_rules | `(tactic| walk_at "cs")=>`(tactic| first | exact @LD _ _ E4 BW (AD B1) CJ (by decide +kernel) (by decide +kernel) rfl rfl | exact @LD _ _ E5 E6 (AD B1) CJ (by decide +kernel) (by decide +kernel) rfl rfl)
local macro_rules | `(tactic| walk_at "x")=>`(tactic| first | ((with_reducible show PT _ (.Compare _ [.NotIn] ..) _);exact @D5 _ _ _ _ _ _ _ _ (@dS _ K rfl) (by walk_at "e") (by walk_at "e") (by with_unfolding_all rfl)) | ((with_reducible show PS _ (.Assign [.Subscript ..] ..) _);exact @O0 _ _ _ _ _ _ _ _ _ cu (by walk_at "e") (by walk_at "e") (by walk_at "e") (by rfl)) | ((with_reducible show PG _ (.Tuple ..) _);exact @e9 _ K _ _ _ _ (4) rfl rfl (by walk_at "j") (by rfl) (by rfl)))
local macro_rules | `(tactic| walk_at "y")=>`(tactic| first | ((with_reducible show PI _ _ (.Name ..) _);exact @ZU _ _ _ _ (@pv _ 2 _ _ (by rfl) (by walk_at "lc") (by decide) (by decide))) | ((with_reducible show PE _ (.Subscript ..) _);exact @G6 _ _ _ _ _ _ cu (@pv _ 1 _ _ (by rfl) (by walk_at "lc") (by decide) (by decide)) (@pv _ 0 _ _ (by rfl) (by walk_at "lc") (by decide) (by decide)) (λ_ _=>rfl)))
theorem JG {f:Addr}{fd:FuncData}(F:Fun K "effect_behind" "effect_behind" B1 f fd) (ai:mg "tuple"=none) (bc:Has P w K mg base "by_left_names" 1 ["told"] FE) (et:Has P w K mg base "clash" 1 ["one", "between", "other"] EX) (a_:Has P w K mg base "rising" 1 ["names"] CH) (ae:Has P w K mg base "rising_by_names" 1 ["things"] DK) (be:Has P w K mg base "told_at_first" 2 ["between", "place", "froms", "plus"] FY):FnOk P w K mg base CX0 3 f fd ["one", "other"] (spD K 2 DN):=by
 refine fnD F F6 λcdv A outer s H E hr=>?_;have hu:=hr.units;have cu:=zQ (a2Q (show 1<=64 by decide) _) hu;have nd:=F6.nd;have n0:=HP;have n1:=HQ;refine⟨_,by walk_at "b2", ?_⟩;clear nd n0 n1;rintro xs M hl ⟨ys,one,other,rfl,h1,h2,hn⟩;have l1:=DO hn h1.st;have l2:=DO hn h1.fr;have l3:=DO hn h2.st;have l4:=DO hn h2.fr;have l5:=XR hn h1;walk_at "r";refine QY h1.keys (by lia) λp hp=>?_;walk_at "r";refine SJ zU h1 h2 hn ?_;cases hc:AO one other with
 | true=> walk_at "r";refine⟨M,(zT M).put hp,λiO dy e=>?_⟩;simp only[List.cons.injEq,DS.d.injEq,and_true] at e;rw[<-EC e.1,<-EC e.2,show AG one other=none by unfold AG;rw[hc];rfl];exact⟨rfl,rfl⟩
 | false=>
   have sz:∀{l:List Str},l.length<=26->(l.map a0Z).length < sizeLine:=λ{l} h=>by rw[zX];exact zQ h (by decide)
   have add:∀{a b:List Str},a.length<=26->b.length<=26->(a.map a0Z).length+(b.map a0Z).length<=sizeLine:=λ{a b} h h'=>by rw[zX,zX];exact zN (show _<=52 by lia) (by decide)
   have nZ:(other.st.filter λn=>!decide (n∈one.st++one.fr)).length<=26:=zN (yJ _ _) l3;have oe:(other.fr.filter λn=>!decide (n∈one.st++one.fr)).length<=26:=zN (yJ _ _) l4;walk_at "r";refine AB (ds:=[AN one.st,AN one.fr,.tuple (one.lf.map lfE)]) (d:=AN one.st) rfl ?_;walk_at "r";refine AB (ds:=[AN one.st,AN one.fr,.tuple (one.lf.map lfE)]) (d:=AN one.fr) rfl ?_;refine BR (add l1 l2) ?_;rw[<-xJ];walk_at "r";refine AB (ds:=[AN one.st,AN one.fr,.tuple (one.lf.map lfE)]) (d:=AN one.st) rfl ?_;walk_at "r";refine B2 (B7 0) (by simp[BW]) ?_;refine C0 ?_;walk_at "r";refine AB (ds:=[AN other.st,AN other.fr,.tuple (other.lf.map lfE)]) (d:=AN other.st) rfl ?_;refine⟨_,rfl,?_⟩;refine⟨sz l3,frT (one.st++one.fr),id,?_,?_⟩;. intro d hd M';obtain⟨z,hz,rfl⟩:=zL.mp hd;walk_at "dl";refine⟨rfl,?_⟩;walk_at "r";refine IA ?_;refine⟨_,rfl,rfl,rfl,λ_=>?_⟩;walk_at "r";exact⟨rfl,rfl⟩
   rw[LG];walk_at "r";refine GA ?_;refine BR (add l1 nZ) ?_;rw[<-xJ,show(one.st++other.st.filter λz=>!decide (z∈one.st++one.fr))=AK one other from rfl];walk_at "r";refine AB (ds:=[AN one.st,AN one.fr,.tuple (one.lf.map lfE)]) (d:=AN one.fr) rfl ?_;walk_at "r";refine B2 (B7 0) (by simp[BW]) ?_;refine C0 ?_;walk_at "r";refine AB (ds:=[AN other.st,AN other.fr,.tuple (other.lf.map lfE)]) (d:=AN other.fr) rfl ?_;refine⟨_,rfl,?_⟩;refine⟨sz l4,frT (one.st++one.fr),id,?_,?_⟩;. intro d hd M';obtain⟨z,hz,rfl⟩:=zL.mp hd;walk_at "dl";refine⟨rfl,?_⟩;walk_at "r";refine IA ?_;refine⟨_,rfl,rfl,rfl,λ_=>?_⟩;walk_at "r";exact⟨rfl,rfl⟩
   rw[LG];walk_at "r";refine GA ?_;refine BR (add l2 oe) ?_;rw[<-xJ,show(one.fr++other.fr.filter λz=>!decide (z∈one.st++one.fr))=BF one other from rfl];walk_at "r";refine DD ?_;refine C0 ?_;walk_at "r";refine⟨λk ρ1 M1=>M1=M.put p (K4 (one.lf++(JC one ((AK one other).take k)).map IM))/\∃x6 x7 x8 x9 dq:Option DS,ρ1=[some (.d one.d),some (.d other.d),some (.loc p),some (.d (.tuple ((one.st++one.fr).map .str))),some (.d (.tuple ((AK one other).map .str))),some (.d (.tuple ((BF one other).map .str))),x6,x7,x8,x9,dq],⟨by rw[List.take_zero];show _=M.put p (K4 (one.lf++[]));rw[a1W],_,_,_,_,_,rfl⟩,?_,?_⟩
   . rintro k d ρ1 M1 hd ⟨rfl,x6,x7,x8,x9,dq,rfl⟩;have dk:k < (AK one other).length:=by have:=(yT.mp hd).1;rw[zX] at this;exact this
     have hk:(AK one other)[k]?=some (AK one other)[k]:=zV dk;obtain rfl:a0Z ((AK one other)[k])=d:=by rw[zF,hk] at hd;simpa using hd
     generalize (AK one other)[k]=n at hk;walk_at "r";refine IA ?_;cases fb:decide (n∈one.st++one.fr) with
     | true=> walk_at "r";refine⟨?_,_,_,_,_,_,rfl⟩;rw[R0 hk,fb,if_pos rfl,a1W]
     | false=>
       have iu:=of_decide_eq_false fb;walk_at "r";refine CL ?_;walk_at "r";refine⟨p,JB (one.lf++(JC one ((AK one other).take k)).map IM),n,BM (.inr n,[n],0),rfl,rfl,rfl,zU,?_,?_⟩;. rw[zX,yY,zX];have j4:(JC one ((AK one other).take k)).length<=(AK one other).length:=zN (yJ _ _) (List.length_take_le' _ _);have iW:=DO hn (F1 h1 h2);exact zQ (show _<=78 by lia) (by decide)
       rw[yI,TK,UT (XW h1 h2 hk iu)];refine⟨?_,_,_,_,_,_,rfl⟩;rw[R0 hk,fb,if_neg nft,xJ,<-List.append_assoc];rfl
   . rintro ρ1 M1 ⟨rfl,x6,x7,x8,x9,dq,rfl⟩;rw[zX,a2Z,UU,show one.lf++(other.st.filter λn=>!decide (n∈one.st++one.fr)).map IM=AZ one other from rfl];have bk:=IP h1 h2;have bl:(AZ one other).length<=78:=by unfold AZ;rw[yY,zX];lia
     have ll:=XR hn h2;refine S6 (i:=2) (a:=p) rfl zU ?_;rw[yG hp];walk_at "r";refine QD (B7 0) (by simp[E6]) ?_;refine ZV ?_;walk_at "r";refine⟨by rw[zX,zX];exact zQ bl (by decide),frT other.st,f6,i3 (AZ one other),UV bk _,?_,λq hq=>?_⟩;. intro d hd M';obtain⟨s0,jq,rfl⟩:=zL.mp hd;obtain⟨t,jX,rfl⟩:=zL.mp jq;have me:=KI bk jX;walk_at "dl";refine⟨rfl,?_⟩;walk_at "r";refine AB (ds:=[AN other.st,AN other.fr,.tuple (other.lf.map lfE)]) (d:=AN other.st) rfl ?_;refine IA ?_;refine⟨_,rfl,rfl,rfl,λ_=>?_⟩;walk_at "r";refine⟨rfl,rfl,?_⟩;refine IB ?_;walk_at "r";refine⟨JB (AZ one other),t.1,BM t.2,rfl,rfl,by rw[F0,me];rfl,?_⟩;refine⟨?_,rfl⟩;show _=DS.d (BM (AE (AZ one other) t.1));unfold AE;rw[me];rfl
     rw[XX bk];walk_at "r";refine DD ?_;refine C0 ?_;walk_at "r";refine AB (ds:=[AN other.st,AN other.fr,.tuple (other.lf.map lfE)]) (d:=.tuple (other.lf.map lfE)) rfl ?_;refine⟨_,rfl,?_⟩;refine⟨λk ρ1 M1=>M1=M.put q (K4 (IQ one other k))/\∃y6 y8 y9 lr:Option DS,ρ1=[some (.d one.d),some (.d other.d),some (.d (QW (AZ one other))),some (.d (.tuple ((one.st++one.fr).map .str))),some (.d (.tuple ((AK one other).map .str))),some (.d (.tuple ((BF one other).map .str))),y6,some (.loc q),y8,y9,lr],⟨rfl,_,_,_,_,rfl⟩,?_,?_⟩
     . rintro k d ρ1 M1 hd ⟨rfl,y6,y8,y9,lr,rfl⟩;have dk:k < other.lf.length:=by have:=(yT.mp hd).1;rw[zX] at this;exact this
       have hk:other.lf[k]?=some other.lf[k]:=zV dk;obtain rfl:lfE (other.lf[k])=d:=by rw[zF,hk] at hd;simpa using hd
       have gu:=a0K dk;generalize other.lf[k]=t at hk gu;rw[show lfE t = .tuple [.str t.1,plE t.2.1,AN t.2.2.1,.int t.2.2.2] from rfl];walk_at "r";refine CL ?_;walk_at "r";refine RA (e:=t.2) (λn bh=>FZ h1 h2 hc ((h2.from_ t gu).2 n bh)) (λn jU=>FZ h1 h2 hc (h2.place t gu n jU)) (XU hn h1 h2 hc gu) ?_;walk_at "r";refine⟨q,JB (IQ one other k),t.1,_,rfl,rfl,rfl,zU,?_,?_⟩;. rw[zX];have:=UW one other k;exact zQ (show _<=130 by lia) (by decide)
       rw[yI,TK,<-SB hk];exact⟨rfl,_,_,_,_,rfl⟩
     . rintro ρ1 M1 ⟨rfl,y6,y8,y9,lr,rfl⟩;rw[zX,UX];have s1:=DO hn (F1 h1 h2);have s2:=DO hn (KJ h1 h2);walk_at "r";refine CM (l:=AK one other) (by lia) ?_;walk_at "r";refine CM (l:=BF one other) (by lia) ?_;walk_at "r";refine JY zU (CI h1 h2) (XY hn h1 h2 hc) ?_;walk_at "r";refine⟨M,(zT M).put hq,λiO dy e=>?_⟩;simp only[List.cons.injEq,DS.d.injEq,and_true] at e;rw[<-EC e.1,<-EC e.2,show AG one other=some ⟨BA (AK one other),BA (BF one other),CF (BL one other)⟩ by unfold AG;rw[hc];rfl];exact⟨rfl,rfl⟩
end
def V6:List Str:=["row", "whole", "deed"]
theorem NO:FnScope V6 ["row"] (AD IU):=⟨rfl,rfl,rfl,by decide +kernel,rfl,by decide +kernel,by decide +kernel⟩
theorem V7 {f:Addr}{fd:FuncData}(F:Fun K "effect" "effect" IU f fd) (br:Has P w K mg base "deed_effect" 2 ["deed"] EY) (ag:Has P w K mg base "effect_behind" 3 ["one", "other"] DN):FnOk P w K mg base CX0 4 f fd ["row"] (spD K 1 FF):=by
 refine fnD F NO λcdv A outer s H E hr=>?_;have hu:=hr.units;have nd:=NO.nd;refine⟨_,by walk_at "b2", ?_⟩;clear nd;rintro xs M hl ⟨ys,Ds,rfl,hn,hD,iM⟩;walk_at "r";refine DD ?_;refine C0 ?_;walk_at "r";refine⟨λk ρ1 M1=>M1=M/\∃(E:Eff) (x2:Option DS),AS (Ds.take k)=some E/\OkE ys E/\ρ1=[some (.d (.tuple (Ds.map Deed.d))),some (.d E.d),x2],⟨rfl,⟨[],[],[]⟩,_,rfl,OkE.nil ys,rfl⟩,?_,?_⟩
 . rintro k d ρ1 M1 hd ⟨rfl,E,x2,hE,hok,rfl⟩;have dk:k < Ds.length:=by have:=(yT.mp hd).1;rw[zX] at this;exact this
   obtain rfl:(Ds[k]).d=d:=by rw[zF,zV dk] at hd;simpa using hd
   have ko:=hD _ (a0K dk);have f_:AS (Ds.take (k+1))=AG E (AF Ds[k]):=by rw[a3V,zV dk];exact IN hE
   have ik:AG E (AF Ds[k])=none->AS Ds=none:=λh=>XS (k:=k+1) (by rw[f_];exact h);generalize Ds[k]=D at ko f_ ik;walk_at "r";refine SA ko.1 ?_;walk_at "r";refine JW hok (OkE.deed hn ko) hn ?_;walk_at "r";refine OE ?_;cases hb:AG E (AF D) with
   | none=> walk_at "r";refine⟨M1,zT _,λog e=>?_⟩;rw[<-JV e,ik hb];exact⟨rfl,rfl⟩
   | some F=> walk_at "r";exact⟨rfl,F,_,by rw[f_,hb],OkE.behind hn hok (OkE.deed hn ko) hb,rfl⟩
 . rintro ρ1 M1 ⟨rfl,E,x2,hE,hok,rfl⟩;rw[zX,a2Z] at hE;walk_at "r";refine⟨M1,zT _,λog e=>?_⟩;rw[<-JV e,hE];exact⟨rfl,rfl⟩
def JH:List Str:=["_law_one", "_law_other"]
theorem F7:FnScope JH ["_law_one", "_law_other"] (AD BV):=⟨rfl,rfl,rfl,by decide +kernel,rfl,by decide +kernel,by decide +kernel⟩
theorem JI {f:Addr}{fd:FuncData}(F:Fun K "_law_together" "_law_together" BV f fd) (ag:Has P w K mg base "effect_behind" 3 ["one", "other"] DN):FnOk P w K mg base CX0 4 f fd ["_law_one", "_law_other"] (spD K 2 C8):=by
 refine fnD F F7 λcdv A outer s H E hr=>?_;have hu:=hr.units;have nd:=F7.nd;refine⟨_,by walk_at "b2", ?_⟩;clear nd;rintro xs M hl ⟨ys,one,other,rfl,h1,h2,hn⟩;have fin:∀{o:Option Eff},o=(one.bind λE=>other.bind λF=>AG E F)->∃M2:Own,M2.Sub M/\C8.post [.d (efO one),.d (efO other)] M (.d (efO o)) M2:=λ{o} e=>⟨M,zT M,λiO dy e'=>by simp only[List.cons.injEq,DS.d.injEq,and_true] at e';rw[<-TJ e'.1,<-TJ e'.2,e];exact⟨rfl,rfl⟩⟩
 walk_at "r";refine OE ?_;cases one with
 | none=> walk_at "r";exact fin (o:=none) rfl
 | some E=>
   walk_at "r";refine OE ?_;cases other with
   | none=> walk_at "r";exact fin (o:=none) rfl
   | some F=> walk_at "r";refine JW (h1 E rfl) (h2 F rfl) hn ?_;exact fin (o:=AG E F) rfl
def HA:List Str:=["_law_cell_here", "_law_xs", "_law_names_here", "_law_there_here", "_law_first", "_law_behind", "_law_deed_here", "_law_second", "_law_third", "_law_told", "_law_both"]
def FM:List Str:=["_law_row_here"]
def D4:List (Option Nat):=[none]
theorem K8:FM.Nodup:=by decide +kernel
theorem HB:FnScope HA ["_law_cell_here"] (AD CB):=⟨rfl,rfl,rfl,by decide +kernel,rfl,by decide +kernel,by decide +kernel⟩
section
local macro_rules | `(tactic| walk_at "cs")=>`(tactic| first | exact @LD _ _ FM D4 (AD CB) HA (by decide +kernel) (by decide +kernel) rfl rfl)
theorem MS {f:Addr}{fd:FuncData}(F:Fun K "_law_right" "_law_right" CB f fd) (ba:Has P w K mg base "_law_can" 2 ["_law_there_here", "_law_deed_here"] GF) (bx:Has P w K mg base "_law_names" 1 ["_law_xs", "_law_at", "_law_size"] GB) (cv:Has P w K mg base "_law_row" 3 ["_law_xs", "_law_at", "_law_size", "_law_names_here", "_law_there_here"] KH) (ax:Has P w K mg base "_law_step" 1 ["_law_there_here", "_law_deed_here"] EW) (bo:Has P w K mg base "_law_stirred" 1 ["_law_cell_here", "_law_size"] EB) (bz:Has P w K mg base "_law_there" 1 ["_law_world_here"] GD) (bg:Has P w K mg base "_law_together" 4 ["_law_one", "_law_other"] C8) (b_:Has P w K mg base "_law_world" 2 ["_law_xs", "_law_at", "_law_names_here"] GC) (dm:Has P w K mg base "effect" 4 ["row"] FF):FnOk P w K mg base CX0 5 f fd ["_law_cell_here"] (spD K 1 GH):=by
 refine fnD F HB λcdv A outer s H E hr=>?_;have hu:=hr.units;have nd:=HB.nd;have n0:=K8;refine⟨_,by walk_at "b2", ?_⟩;clear nd n0;rintro xs M hl ⟨c,rfl⟩;walk_at "r";refine OJ (n:=130) (by decide) λL hL hok=>?_;have lx:∀i,i < L.length->(L.map b1X)[i]?=some (.int (L.getD i 0)):=λi hi=>by rw[zF,yU,zV hi];rfl
 have nat:∀(i:Nat) (m:Int),0 < m->∃k:Nat,L.getD i 0 % m=(k:Int)/\(k:Int) < m:=λi m hm=>⟨(L.getD i 0 % m).toNat,by have:=a4X (L.getD i 0) (Int.ne_of_gt hm);lia,by have:=a4X (L.getD i 0) (Int.ne_of_gt hm);have:=a6J (L.getD i 0) hm;lia⟩
 walk_at "r";refine OK (a:=0) (n:=5) hok (by lia) (by decide) (by lia) λys hn oz=>?_;walk_at "r";refine OL (a:=2) hok (by lia) (by lia) hn (by lia) λw hw=>?_;have iX:There ys w:=⟨hw.1.1.nodup,hw.2⟩
 have jR:=iX.few;walk_at "r";refine OM iX.nd (by lia) λp hp=>?_;walk_at "r";refine AI (AA (j:=124) (lx _ (by lia))) ?_;walk_at "r";obtain⟨n1,e1,o_⟩:=nat 124 9 (by decide);rw[e1];refine HI (a:=10) hok (by lia) (by lia) (by lia) hn (by lia) (by lia) zU iX λA o8 hA=>?_;walk_at "r";refine DD ?_;refine C0 ?_;walk_at "r";refine⟨λk ρ1 M1=>∃(q:Addr) (w2:List Th) (x6 x7 x8 x9 dq:Option DS),There ys w2/\M1 q=some (tsO w2)/\M1 p=some (tsO w)/\M.Sub M1/\ρ1=[some (.d (.int c)),some (.d (.list (L.map .int))),some (.d (BY ys)),some (.loc p),some (.d (.tuple (A.map Deed.d))),some (.loc q),x6,x7,x8,x9,dq],⟨p,w,_,_,_,_,_,iX,zU,zU,(zT M).put hp,rfl⟩,?_,?_⟩
 . rintro k d ρ1 M1 hd ⟨q,w2,x6,x7,x8,x9,dq,gv,mq,mp,ay,rfl⟩;obtain⟨D,oh,rfl⟩:=zL.mp (yN hd);have hD:=hA D oh;have kj:w2.length<=6:=zN gv.few (by lia);walk_at "r";refine LI mq hD.1 ?_;cases hc:decide (C7 (w2.map (·.1)) D=none) with
   | false=> walk_at "r";exact⟨q,w2,_,_,_,_,_,gv,mq,mp,ay,rfl⟩
   | true=>
     have iz:goD w2 D:=⟨⟨gv.nd,by lia⟩,hD.1,of_decide_eq_true hc⟩
     walk_at "r";refine JU mq iz (by lia) λr hr=>?_;have oi:p≠r:=by rintro rfl;rw[mp] at hr;cases hr
     walk_at "r";exact⟨r,doT w2 D,_,_,_,_,_,QT gv iz hD.2,zU,by rw[yH oi];exact mp,ay.put (QS ay hr),rfl⟩
 rintro ρ1 M1 ⟨q,w2,x6,x7,x8,x9,dq,gv,mq,mp,ay,rfl⟩;refine OB (λρ1 M2=>M2=M1/\∃(q:Addr) (w2:List Th) (x6 x7 x8 x9 dq:Option DS),There ys w2/\M1 q=some (tsO w2)/\ρ1=[some (.d (.int c)),some (.d (.list (L.map .int))),some (.d (BY ys)),some (.loc p),some (.d (.tuple (A.map Deed.d))),some (.loc q),x6,x7,x8,x9,dq]) ?_ ?_
 . walk_at "r";refine AI (AA (j:=125) (lx _ (by lia))) ?_;walk_at "r";refine BQ rfl rfl ?_;rw[if_neg nft,IE];cases decide (L.getD 125 0 % 4=1) with
   | true=> walk_at "r";exact⟨rfl,p,w,_,_,_,_,_,iX,mp,rfl⟩
   | false=> walk_at "r";exact⟨rfl,q,w2,_,_,_,_,_,gv,mq,rfl⟩
 clear mq gv;rintro ρ1 M2 ⟨rfl,q,w2,x6,x7,x8,x9,dq,gv,mq,rfl⟩;walk_at "r";refine AI (AA (j:=126) (lx _ (by lia))) ?_;walk_at "r";obtain⟨n2,e2,lN⟩:=nat 126 9 (by decide);rw[e2];refine HI (a:=52) hok (by lia) (by lia) (by lia) hn (by lia) (by lia) mq gv λB mf hB=>?_;refine OB (λρ1 M3=>M3=M2/\∃(B:List Deed) (x6 x8 x9 dq:Option DS),B.length<=8/\(∀D∈B,AU ys D)/\ρ1=[some (.d (.int c)),some (.d (.list (L.map .int))),some (.d (BY ys)),some (.loc p),some (.d (.tuple (A.map Deed.d))),some (.loc q),x6,some (.d (.tuple (B.map Deed.d))),x8,x9,dq]) ?_ ?_
 . walk_at "r";refine AI (AA (j:=127) (lx _ (by lia))) ?_;walk_at "r";refine BQ rfl rfl ?_;rw[if_neg nft,IE];cases decide (L.getD 127 0 % 8=1) with
   | true=> walk_at "r";exact⟨rfl,[],_,_,_,_,by simp,(λD hD=>nomatch hD),rfl⟩
   | false=> walk_at "r";exact⟨rfl,B,_,_,_,_,by lia,hB,rfl⟩
 clear hB mf;rintro ρ1 M3 ⟨rfl,B,x6,x8,x9,dq,mf,hB,rfl⟩;walk_at "r";refine AI (AA (j:=128) (lx _ (by lia))) ?_;walk_at "r";obtain⟨n3,e3,o9⟩:=nat 128 6 (by decide);rw[e3];refine HI (a:=94) hok (by lia) (by lia) (by lia) hn (by lia) (by lia) mp iX λC oB hC=>?_;walk_at "r";refine B2 (B7 0) (by simp[D4]) ?_;refine BK ?_;walk_at "r";refine EI ?_;walk_at "r";refine⟨by show 3 < sizeLine;decide,λ_=>true,aG,?_,?_⟩
 . intro d hd M';obtain⟨Ds,iN,lu,rfl⟩:∃Ds:List Deed,(∀D∈Ds,AU ys D)/\Ds.length<=60/\d = .tuple (Ds.map Deed.d):=by
     simp only[yX,xX,or_false] at hd;rcases hd with rfl | rfl | rfl;. exact⟨A,hA,by lia,rfl⟩
     . exact⟨B,hB,by lia,rfl⟩
     . exact⟨C,hC,by lia,rfl⟩
   walk_at "dl";refine⟨rfl,?_⟩;walk_at "dl";refine⟨rfl,rfl,λ_=>?_⟩;walk_at "r";refine CU hn iN lu ?_;exact⟨by rw[ED],rfl⟩
 rw[S2,zI,zI,zI,a6W,ED,ED,ED];have jJ:=HK hn hA;have iY:=HK hn hB;have jK:=HK hn hC;have jL:=TM hn jJ iY;have ly:=TM hn iY jK;have ie:∀D∈A++B,AU ys D:=λD hD=>(yW.mp hD).elim (hA D) (hB D);have iP:∀D∈A++B++C,AU ys D:=λD hD=>(yW.mp hD).elim (ie D) (hC D);have mh:AS (A++B)=CV (AS A) (AS B):=TR hn hA hB;have jM:AS (A++B++C)=CV (CV (AS A) (AS B)) (AS C):=by rw[TR hn ie hC,mh]
 have eR:CV (AS A) (CV (AS B) (AS C))=AS (A++B++C):=by rw[jM,LN hn jJ (LO hn hA) iY jK]
 have iQ:=NM hn jL;have lz:=SH hn jJ iY jK;have cz:=NM hn (HK hn iP);walk_at "r";refine AI (ds:=[efO (AS A),efO (AS B),efO (AS C)]) (d:=efO (AS A)) (AA (j:=0) rfl) ?_;walk_at "r";refine AI (ds:=[efO (AS A),efO (AS B),efO (AS C)]) (d:=efO (AS B)) (AA (j:=1) rfl) ?_;walk_at "r";refine CN jJ iY hn ?_;walk_at "r";refine BR (by rw[zX,zX];exact zN (show _<=60 by lia) (by decide)) ?_;rw[<-xJ];walk_at "r";refine CU hn ie (by rw[yY];lia) ?_;rw[mh];refine BQ iQ iQ ?_;rw[if_pos rfl,IF iQ];walk_at "r";refine B2 (B7 0) (by simp[D4]) ?_;refine BK ?_;walk_at "r";refine EI ?_;walk_at "r";refine⟨by show 3 < sizeLine;decide,λ_=>true,aG,?_,?_⟩
 . intro d hd M';obtain⟨Ds,iN,lu,rfl⟩:∃Ds:List Deed,(∀D∈Ds,AU ys D)/\Ds.length<=60/\d = .tuple (Ds.map Deed.d):=by
     simp only[yX,xX,or_false] at hd;rcases hd with rfl | rfl | rfl;. exact⟨A,hA,by lia,rfl⟩
     . exact⟨B,hB,by lia,rfl⟩
     . exact⟨C,hC,by lia,rfl⟩
   walk_at "dl";refine⟨rfl,?_⟩;walk_at "dl";refine⟨rfl,rfl,λ_=>?_⟩;walk_at "r";refine CU hn iN lu ?_;exact⟨by rw[ED],rfl⟩
 rw[S2,zI,zI,zI,a6W,ED,ED,ED];refine BQ lz lz ?_;rw[if_pos rfl,IF lz];walk_at "r";refine AI (ds:=[efO (AS A),efO (AS B),efO (AS C)]) (d:=efO (AS C)) (AA (j:=2) rfl) ?_;walk_at "r";refine CN jL jK hn ?_;walk_at "r";refine BR (by rw[zX,zX];exact zN (show _<=60 by first | lia | (simp only[yY];lia)) (by decide)) ?_;rw[<-xJ];walk_at "r";refine BR (by rw[zX,zX];exact zN (show _<=60 by first | lia | (simp only[yY];lia)) (by decide)) ?_;rw[<-xJ];walk_at "r";refine CU hn iP (by simp only[yY];lia) ?_;rw[<-jM];refine BQ cz cz ?_;rw[if_pos rfl,IF cz];walk_at "r";refine AI (ds:=[efO (AS A),efO (AS B),efO (AS C)]) (d:=efO (AS A)) (AA (j:=0) rfl) ?_;walk_at "r";refine AI (ds:=[efO (AS A),efO (AS B),efO (AS C)]) (d:=efO (AS B)) (AA (j:=1) rfl) ?_;walk_at "r";refine AI (ds:=[efO (AS A),efO (AS B),efO (AS C)]) (d:=efO (AS C)) (AA (j:=2) rfl) ?_;walk_at "r";refine CN iY jK hn ?_;walk_at "r";refine CN jJ ly hn ?_;walk_at "r";refine BR (by rw[zX,zX];exact zN (show _<=60 by first | lia | (simp only[yY];lia)) (by decide)) ?_;rw[<-xJ];walk_at "r";refine BR (by rw[zX,zX];exact zN (show _<=60 by first | lia | (simp only[yY];lia)) (by decide)) ?_;rw[<-xJ];walk_at "r";refine CU hn iP (by simp only[yY];lia) ?_;rw[eR];refine BQ cz cz ?_;rw[if_neg nft,IF cz];exact⟨M,ay,rfl,rfl⟩
end
def f9:List Str:=["_law_script", "_law_cell_here"]
theorem Y3:FnScope f9 ["_law_script"] (AD TU):=⟨rfl,rfl,rfl,by decide +kernel,rfl,by decide +kernel,by decide +kernel⟩
theorem fA {f:Addr}{fd:FuncData}(F:Fun K "law" "law" TU f fd) (cm:Has P w K mg base "_law_cell" 1 ["_law_script", "_law_k"] II) (cb:Has P w K mg base "_law_right" 5 ["_law_cell_here"] GH):FnOk P w K mg base CX0 6 f fd ["_law_script"] (spD K 1 NH):=by
 refine fnD F Y3 λcdv A outer s H E hr=>?_;have hu:=hr.units;have nd:=Y3.nd;refine⟨_,by walk_at "b2", ?_⟩;clear nd;rintro xs M hl ⟨ns,rfl,jf,ia⟩;have fin:∀{M1:Own},M.Sub M1->∃M2:Own,M2.Sub M1/\NH.post [.d (.list (ns.map .int))] M (.d (.bool true)) M2:=λh=>⟨M,h,rfl⟩
 walk_at "r";refine DD ?_;refine BK ?_;walk_at "r";refine EI ?_;walk_at "r";refine QN (k:=0) λc0=>?_;walk_at "r";refine UF ?_;rw[show O6 (ns.map b1X) (some 1) (some 10)=((ns.take 10).drop 1).map .int from(ZM _ 1 10).trans (by rw[List.map_drop,List.map_take])];refine WJ (by rw[zX];exact zN (show _<=200 by rw[b2J,a0J];simp;lia) (by decide)) ?_;refine⟨_,rfl,λk ρ1 M1=>M1=M/\∃x1:Option DS,ρ1=[some (.d (.list (ns.map .int))),x1],⟨rfl,_,rfl⟩,?_,?_⟩
 . rintro k d ρ1 M1 hd ⟨rfl,x1,rfl⟩;obtain⟨c,rfl⟩:∃c:Int,d = .int c:=by
     rcases yW.mp (yN hd) with h | h;. exact⟨c0,List.mem_singleton.mp h⟩
     . obtain⟨c,_,rfl⟩:=zL.mp h;exact⟨c,rfl⟩
   walk_at "r";refine OU ?_;walk_at "r";exact⟨rfl,_,rfl⟩
 . rintro ρ1 M1 ⟨rfl,x1,rfl⟩;walk_at "r";exact fin (zT _)
end
end DL
namespace DL
open PySem PySem.Spec L2
local macro_rules | `(tactic| walk_at "b1")=>`(tactic| exact λ_ _ _ _ _ _ us hl=>match us,hl with | [_],_=>rfl)
local macro_rules | `(tactic| walk_at "b2")=>`(tactic| exact λ_ _ _ _ _ _ us hl=>match us,hl with | [_,_],_=>rfl)
local macro_rules | `(tactic| walk_at "b3")=>`(tactic| exact λ_ _ _ _ _ _ us hl=>match us,hl with | [_,_,_],_=>rfl)
local macro_rules | `(tactic| walk_at "b4")=>`(tactic| exact λ_ _ _ _ _ _ us hl=>match us,hl with | [_,_,_,_],_=>rfl)
local macro_rules | `(tactic| walk_at "b5")=>`(tactic| exact λ_ _ _ _ _ _ us hl=>match us,hl with | [_,_,_,_,_],_=>rfl)
set_option hygiene false in
local macro_rules | `(`hhh)=>`(Has l.prog w K mg base _ _ _ _)
theorem fB {l:PySem.W.OpenLaw}{w:World}{K:Frg}{h:Heap}{mg:Str->Option Value}{fa:Addr} (X:K.In h) (G:h.Ns mainGlobals mg) (oj:mg "law"=some (.ref fa)) (b0:FnIn K "_law_cell" EE) (b1:FnIn K "_law_stirred" C9) (b2:FnIn K "_law_names" CA) (b3:FnIn K "_law_place" D8) (b4:FnIn K "_law_number" CP) (b5:FnIn K "_law_pick" EF) (b6:FnIn K "_law_world" D9) (b7:FnIn K "_law_there" DB) (b8:FnIn K "_law_wanted" CQ) (b9:FnIn K "_law_made" EG) (mi:FnIn K "_law_can" DW) (mj:FnIn K "_law_step" EH) (ml:FnIn K "_law_deed" BX) (mm:FnIn K "_law_row" FG) (mn:FnIn K "rising" IT) (mo:FnIn K "by_left_names" BE) (mr:FnIn K "clash" GL) (mv:FnIn K "told_at_first" BU) (mw:FnIn K "rising_by_names" B6) (mx:FnIn K "deed_effect" CS) (jD:FnIn K "effect_behind" B1) (jE:FnIn K "effect" IU) (my:FnIn K "_law_together" BV) (mz:FnIn K "_law_right" CB) (m3:FnIn K "law" TU) (gb:a4J K mainGlobals "all"=some none) (gd:a4J K mainGlobals "any"=some none) (dz:a4J K mainGlobals "dict"=some none) (bb:a4J K mainGlobals "isinstance"=some none) (gf:a4J K mainGlobals "len"=some none) (dg:a4J K mainGlobals "range"=some none) (cw:a4J K mainGlobals "sorted"=some none) (gg:a4J K mainGlobals "str"=some none) (dh:a4J K mainGlobals "tuple"=some none) : ∃fd:FuncData,(∀(s:Shared) (v:Value),BindsTo s fd ⟨[v],[]⟩ [("_law_script", v)])/\∀base:Heap,K.In base->base.Ns mainGlobals mg->FnOk l.prog w K mg base CX0 6 fa fd ["_law_script"] (spD K 1 NH):=by
 obtain⟨_,_,A0⟩:=b0.at X G;obtain⟨_,_,A1⟩:=b1.at X G;obtain⟨_,_,A2⟩:=b2.at X G;obtain⟨_,_,A3⟩:=b3.at X G;obtain⟨_,_,A4⟩:=b4.at X G;obtain⟨_,_,A5⟩:=b5.at X G;obtain⟨_,_,A6⟩:=b6.at X G;obtain⟨_,_,A7⟩:=b7.at X G;obtain⟨_,_,A8⟩:=b8.at X G;obtain⟨_,_,A9⟩:=b9.at X G;obtain⟨_,_,m4⟩:=mi.at X G;obtain⟨_,_,m5⟩:=mj.at X G;obtain⟨_,_,m6⟩:=ml.at X G;obtain⟨_,_,m7⟩:=mm.at X G;obtain⟨_,_,m8⟩:=mn.at X G;obtain⟨_,_,m9⟩:=mo.at X G;obtain⟨_,_,mB⟩:=mr.at X G;obtain⟨_,_,mD⟩:=mv.at X G;obtain⟨_,_,mE⟩:=mw.at X G;obtain⟨_,_,mF⟩:=mx.at X G;obtain⟨_,_,mG⟩:=jD.at X G;obtain⟨_,_,mH⟩:=jE.at X G;obtain⟨_,_,mI⟩:=my.at X G;obtain⟨_,_,mJ⟩:=mz.at X G;obtain⟨oD,ol,l_⟩:=m3.at X G;have e:=oj.symm.trans l_.mg_;cases e;have ig:=a2X X G gb;have ii:=a2X X G gd;have dw:=a2X X G dz;have bw:=a2X X G bb;have cg:=a2X X G gf;have aw:=a2X X G dg;have aq:=a2X X G cw;have ij:=a2X X G gg;have ai:=a2X X G dh;refine⟨ol,λs v=>?_,λbase _ _=>?_⟩;. obtain⟨oc,od,kV,doc,pm,an,cdv,ct,osl,e,_,_⟩:=l_.fn.ex;subst e;exact .of_eq rfl
 have cm:`hhh:=A0.has (P0 A0.fn cg) (by walk_at "b2");have bo:`hhh:=A1.has (K6 A1.fn aw) (by walk_at "b2");have bx:`hhh:=A2.has (MJ A2.fn aw) (by walk_at "b3");have ak:`hhh:=A3.has (ML A3.fn ) (by walk_at "b1");have aj:`hhh:=A4.has (LQ A4.fn ) (by walk_at "b1");have cj:`hhh:=A5.has (P2 A5.fn cg) (by walk_at "b2");have b_:`hhh:=A6.has (MN A6.fn cg aw aq ai aj ak) (by walk_at "b3");have bz:`hhh:=A7.has (MQ A7.fn ) (by walk_at "b1");have bq:`hhh:=A8.has (LS A8.fn ) (by walk_at "b1");have ci:`hhh:=A9.has (P4 A9.fn ) (by walk_at "b1");have ba:`hhh:=m4.has (RB m4.fn ig ii ci bq) (by walk_at "b2");have ax:`hhh:=m5.has (P6 m5.fn dw) (by walk_at "b2");have ck:`hhh:=m6.has (P7 m6.fn aj cj ak) (by walk_at "b4");have cv:`hhh:=m7.has (RD m7.fn aw ai ba ck ax) (by walk_at "b5");have a_:`hhh:=m8.has (V5 m8.fn aq ai) (by walk_at "b1");have bc:`hhh:=m9.has (JD m9.fn ) (by walk_at "b1");have et:`hhh:=mB.has (Y2 mB.fn cg) (by walk_at "b3");have be:`hhh:=mD.has (JF mD.fn bw ij a_) (by walk_at "b4");have ae:`hhh:=mE.has (HN mE.fn aq ai) (by walk_at "b1");have br:`hhh:=mF.has (MA mF.fn a_ ae) (by walk_at "b1");have ag:`hhh:=mG.has (JG mG.fn ai bc et a_ ae be) (by walk_at "b2");have dm:`hhh:=mH.has (V7 mH.fn br ag) (by walk_at "b1");have bg:`hhh:=mI.has (JI mI.fn ag) (by walk_at "b2");have cb:`hhh:=mJ.has (MS mJ.fn ba bx cv ax bo bz bg b_ dm) (by walk_at "b1");exact fA l_.fn cm cb
theorem fC {K:Frg}{H:Hp}{a:Addr}{ns:List Int}(hl:ns.length<=63) (hb:∀i∈ns,xL i<=2 ^ 20) (hS:SqL K H a (ns.map V.int)):spD K 1 NH [.ref a] H (λv _=>v = .bl true) λ_ _ _=>False:=by
 refine⟨[.d (.list (ns.map .int))],λ_=>none,rfl,(λa o e=>nomatch e),⟨.ref a,[],rfl,?_,rfl⟩,⟨ns,rfl,hl,hb⟩,λx M' v H' post st oa si=>?_⟩
 . unfold SI DV;refine⟨a,ns.map V.int,rfl,?_,JS⟩;rcases hS with h | h;. exact .inl ⟨λw=>w rfl,h⟩
   . exact .inr h
 . have e:x = .d (.bool true):=post;subst e;exact gQ si
theorem iK {l:PySem.W.OpenLaw}{q:Program}{loose:List Str}{XP:(Str->Option Value)->Heap->Prop}{YP:World->Heap->Prop}{d:DefRec}{K:Params->Frg}(hn:l.most=some 63) (kU:d.params.defaults=[]) (hY:∀(w:World) (h:Heap),YP w h->(K w.params).In h) (F:∀(w:World) (mg:Str->Option Value) (fa:Addr) (h:Heap),(K w.params).In h->h.Ns mainGlobals mg->mg d.name=some (.ref fa) ->∃fd:FuncData,(∀(s:Shared) (u:Value),BindsTo s fd ⟨[u],[]⟩ [("_law_script", u)])/\∀base:Heap,(K w.params).In base->base.Ns mainGlobals mg->FnOk l.prog w (K w.params) mg base CX0 6 fa fd ["_law_script"] (spD (K w.params) 1 NH)) :
   PySem.W.WalkO q loose XP YP l.row.toRowW d [] (λf vs=>PySem.call f vs):=
 L2.WR (n:=63) (k:=6) (x:= "_law_script") (CX:=λ_=>CX0) (sp:=λw=>spD (K w.params) 1 NH) hn (by decide) kU ⟨rfl,by decide,by decide⟩ hY F (λ_ _ a ns hl hb _ hS=>fC hl hb hS) λ_ _ _ _ _ z=>z
end DL
open PySem PySem.W PyProof.Rows
set_option maxRecDepth 100000 in
set_option maxHeartbeats 0 in
theorem PySem.Challenge.cw_struckdeeds_k18_effects_put_together_holds : PySem.Challenge.rw_struckdeeds_k18_effects_put_together.Holds := by
 w_on
 refine PySem.W.holds_law DL.hS λl0=>?_;refine PySem.W.holds_open (q:=DL.hV) (loose:=[]) (Xt:=(λs=>PySem.W.xlAt DL.hV [] s&&PySem.W.recOk (a9Q (a7K (a9X PySem.Challenge.rw_struckdeeds_k18_effects_put_together))) s)) (XP:=PySem.W.XL DL.hV []) (Yf:=b0K (a3Z DL.hK DL.hA DL.hE)) (Ya:=b0J (a3Z DL.hK DL.hA DL.hE)) (YP:=PySem.W.Hook.says (a3Z DL.hK DL.hA DL.hE)) (N:=1664) DL.hL (PySem.W.Hook.of (a3Z DL.hK DL.hA DL.hE)) (PySem.W.Hook.keeps (a3Z DL.hK DL.hA DL.hE)) (λs e=>PySem.W.xl_of s (Bool.and_eq_true_iff.mp e).1) PySem.W.XL.keeps (by rfl) (by rfl) (by rfl) (λs e=>PySem.W.recFacts_of (Bool.and_eq_true_iff.mp e).2) rfl l0 (by decide +kernel) ⟨rfl,rfl,rfl,rfl,rfl,by decide +kernel⟩ ?hw ?hc
 (case hw=>w_witness2)
 k_fill
 refine DL.iK (l:=PySem.Challenge.rw_struckdeeds_k18_effects_put_together) rfl rfl (λw h Y=>PySem.W.kIn_of Y) ?F
 case F=>
   intro w mg fa h KX G jt;refine' DL.fB KX G jt ?b0 ?b1 ?b2 ?b3 ?b4 ?b5 ?b6 ?b7 ?b8 ?b9 ?mi ?mj ?ml ?mm ?mn ?mo ?mr ?mv ?mw ?mx ?jD ?jE ?my ?mz ?m3 ?gb ?gd ?dz ?bb ?gf ?dg ?cw ?gg ?dh;all_goals (first | (refine' DL.aH ?fa ?fl ?fc ?fk;(case fa=>k_is);(case fl=>k_is);(case fc=>k_is);(case fk=>k_is)) | skip)
   (case gb=>k_is)
   (case gd=>k_is)
   (case dz=>k_is)
   (case bb=>k_is)
   (case gf=>k_is)
   (case dg=>k_is)
   (case cw=>k_is)
   (case gg=>k_is)
   (case dh=>k_is)
#print axioms PySem.Challenge.cw_struckdeeds_k18_effects_put_together_holds
